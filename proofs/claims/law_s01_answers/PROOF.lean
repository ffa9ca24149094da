import PyProof.Rows.All
import Wide.All
import OpenK.AllK
import Wide.FinOn
import PyProof.EqAt
import PyProof.EqKinds
import PyProof.TupleCall
import KE.BitLaws
import Open.SpecLaws
import KE.OsHead
import KE.OsGo
import PySem.Challenge.RW_redthings_s01_answers
section
-- CHANGE: your row's module here, as the last of these rows
set_option Elab.async false
set_option linter.all false
set_option maxRecDepth 100000
/-! THE HAND LAYER, for ints, bools, texts, own classes, lists, tuples, dicts, comprehensions, walks over dicts, enumerate, zip, reversed, texts, calls, loops. Paste it whole ahead of your own text; what your proof does not reach may be deleted. -/
namespace L2
open PySem PySem.Spec PyProof.Rows

/-- a key: an int or a str -/
abbrev Key := Sum Int Str
def keyIs : Key → Value → Bool
  | .inl k, v => Value.isInt k v
  | .inr x, v => Value.isStrOf x v
def keyH (w : World) : Key → Int
  | .inl k => hashInt k
  | .inr x => hashStr w x
theorem keyIs_shape : ∀ {k : Key} {v : Value}, keyIs k v = true → (∃ i t, k = Sum.inl i ∧ v = Value.int i t) ∨ (∃ x t, k = Sum.inr x ∧ v = Value.str x t)
  | .inl i, v, h => by
    obtain ⟨t, e⟩ := Value.isInt_shape (k := i) (v := v) h
    exact .inl ⟨i, t, rfl, e⟩
  | .inr x, v, h => by
    obtain ⟨t, e⟩ := Value.isStrOf_shape (x := x) (v := v) h
    exact .inr ⟨x, t, rfl, e⟩
theorem key_ll (a b : Int) : decide ((Sum.inl a : Key) = Sum.inl b) = (a == b) := by
  by_cases e : a = b
  · subst e; simp
  · have h : ¬ (Sum.inl a : Key) = Sum.inl b := fun q => e (Sum.inl.inj q)
    rw [decide_eq_false h]
    exact (beq_eq_false_iff_ne.mpr e).symm
theorem key_rr (a b : Str) : decide ((Sum.inr a : Key) = Sum.inr b) = decide (a = b) := by
  by_cases e : a = b
  · subst e; simp
  · have h : ¬ (Sum.inr a : Key) = Sum.inr b := fun q => e (Sum.inr.inj q)
    rw [decide_eq_false h, decide_eq_false e]
theorem key_lr (a : Int) (b : Str) : decide ((Sum.inl a : Key) = Sum.inr b) = false := decide_eq_false (fun q => nomatch q)
theorem key_rl (a : Str) (b : Int) : decide ((Sum.inr a : Key) = Sum.inl b) = false := decide_eq_false (fun q => nomatch q)

def mixKind (prog : Program) (w : World) : PySem.KeyKind prog w Key where
  is := keyIs
  hash := keyH w
  inj := fun v a b ha hb => by
    rcases keyIs_shape ha with ⟨i, t, rfl, rfl⟩ | ⟨x, t, rfl, rfl⟩
    · rcases keyIs_shape hb with ⟨j, u, rfl, e⟩ | ⟨y, u, rfl, e⟩
      · injection e with e1 _; rw [e1]
      · exact nomatch e
    · rcases keyIs_shape hb with ⟨j, u, rfl, e⟩ | ⟨y, u, rfl, e⟩
      · exact nomatch e
      · injection e with e1 _; rw [e1]
  byValue := fun k v h => by
    rcases keyIs_shape h with ⟨i, t, rfl, rfl⟩ | ⟨x, t, rfl, rfl⟩ <;> rfl
  pyHash := fun hv h => by
    rcases keyIs_shape hv with ⟨i, t, rfl, rfl⟩ | ⟨x, t, rfl, rfl⟩
    · exact wpAny_pyHash_int h
    · exact wpAny_pyHash_str h
  eqBool := fun hu hv h => by
    rcases keyIs_shape hu with ⟨i, t, rfl, rfl⟩ | ⟨x, t, rfl, rfl⟩
    · rcases keyIs_shape hv with ⟨j, u, rfl, rfl⟩ | ⟨y, u, rfl, rfl⟩
      · rw [key_ll] at h; exact wpAny_eqBool_int h
      · rw [key_lr] at h; exact SeqAt.EqAt.int_str i t y u _ _ _ _ h
    · rcases keyIs_shape hv with ⟨j, u, rfl, rfl⟩ | ⟨y, u, rfl, rfl⟩
      · rw [key_rl] at h; exact SeqAt.EqAt.str_int x t j u _ _ _ _ h
      · rw [key_rr] at h; exact wpAny_eqBool_str h
  «strs» := fun k x t v h => by
    rcases keyIs_shape h with ⟨i, u, rfl, e⟩ | ⟨y, u, rfl, e⟩
    · exact nomatch e
    · injection e with e1 _
      subst e1
      cases v <;> rfl

end L2

namespace L2
open PySem PySem.Spec PyProof.Rows

/-- a value, without the heap -/
inductive V where
  | non | bl (b : Bool) | int (i : Int) | str (x : Str) | byt (b : Array UInt8) | flt (b : UInt64) | ref (a : Addr) | ty (n : String)
  deriving DecidableEq

def RelV : V → Value → Prop
  | .non, u => u = Value.none
  | .bl b, u => u = Value.bool b
  | .int i, u => ∃ t, u = Value.int i t
  | .str x, u => ∃ t, u = Value.str x t
  | .byt b, u => ∃ t, u = Value.bytes b t
  | .flt b, u => ∃ t, u = Value.float b t
  | .ref a, u => u = Value.ref a
  | .ty n, u => u = Value.type n

abbrev Vals : List V → List Value → Prop := Paired RelV
theorem Vals.length {xs : List V} {us : List Value} (r : Vals xs us) : xs.length = us.length := Paired.length r
theorem Vals.get : ∀ {xs : List V} {us : List Value} {i : Nat} {x : V}, Vals xs us → xs[i]? = some x → ∃ u, us[i]? = some u ∧ RelV x u
  | _, _, _, _, .nil, e => by simp at e
  | _, _, 0, _, .cons r _, e => by simp at e; subst e; exact ⟨_, rfl, r⟩
  | _, _, i + 1, x, .cons _ t, e => by
    obtain ⟨u, h1, h2⟩ := Vals.get (i := i) (x := x) t (by simpa using e)
    exact ⟨u, by simpa using h1, h2⟩
theorem Vals.set {x : V} {u : Value} (r : RelV x u) : ∀ {xs : List V} {us : List Value} (i : Nat), Vals xs us → Vals (xs.set i x) (us.set i u)
  | _, _, _, .nil => .nil
  | _, _, 0, .cons _ t => .cons r t
  | _, _, i + 1, .cons q t => .cons q (Vals.set r i t)
theorem Vals.append : ∀ {xs ys : List V} {us ws : List Value}, Vals xs us → Vals ys ws → Vals (xs ++ ys) (us ++ ws)
  | _, _, _, _, .nil, s => s
  | _, _, _, _, .cons r t, s => .cons r (Vals.append t s)
theorem Vals.take : ∀ {xs : List V} {us : List Value} (n : Nat), Vals xs us → Vals (xs.take n) (us.take n)
  | _, _, 0, _ => .nil
  | _, _, _ + 1, .nil => .nil
  | _, _, n + 1, .cons r t => .cons r (Vals.take n t)
theorem Vals.drop : ∀ {xs : List V} {us : List Value} (n : Nat), Vals xs us → Vals (xs.drop n) (us.drop n)
  | _, _, 0, r => r
  | _, _, _ + 1, .nil => .nil
  | _, _, n + 1, .cons _ t => Vals.drop n t
theorem Vals.none_of : ∀ {xs : List V} {us : List Value} {i : Nat}, Vals xs us → xs[i]? = none → us[i]? = none := fun {xs us i} r e => by
  have h1 := r.length
  have h2 : xs.length ≤ i := List.getElem?_eq_none_iff.mp e
  exact List.getElem?_eq_none_iff.mpr (by omega)

def RelO : Option V → Option Value → Prop
  | some v, some u => RelV v u
  | none, none => True
  | _, _ => False
def KV {κ : Type} : List (κ × V) → List (κ × Value) → Prop := Paired fun (p : κ × V) (q : κ × Value) => p.1 = q.1 ∧ RelV p.2 q.2

/-- a key of a dict (00_mix): an int or a text -/
def kV : Key → V
  | .inl i => .int i
  | .inr x => .str x

/-- what stands at a tracked address -/
inductive HO where
  /-- a list -/
  | lst (xs : List V)
  /-- a tuple (never changes) -/
  | tup (xs : List V)
  /-- a dict whose keys are ints and texts; one whose keys are tuples of ints and texts (the empty one is both) -/
  | dK (kvs : List (Key × V)) | dT (kvs : List (List Key × V))
  /-- a set of ints: its members, its size -/
  | set (S : Int → Bool) (n : Nat)
  /-- an instance of the class at C, its dict at dx, its attributes -/
  | ins (C dx : Addr) (fs : List (Str × V))
  /-- the dict of the instance at x -/
  | own (x : Addr)
  /-- the dict of an exception -/
  | xd (fs : List (Str × V))
  /-- a bound method, f of x -/
  | met (f x : Addr)
  /-- a range object lo, lo + 1, .. below hi -/
  | rng (lo hi : Int)
  /-- a thing that is known to the object (the script; a dict while a loop walks it): read, never written while it is so -/
  | frz (o : Obj) (u : HO)
  /-- a code object's table -/
  | tbl (ps : Array Value)
  /-- any other thing, by what is true of its one object (a def of one's own: SetO a S n := HO.ext fun h => ..) -/
  | ext (φ : Heap → Prop)

abbrev Hp := Addr → Option HO
def upd (H : Hp) (a : Addr) (o : HO) : Hp := fun b => if b = a then some o else H b
theorem upd_same {H : Hp} {a : Addr} {o : HO} : upd H a o a = some o := by unfold upd; rw [if_pos rfl]
theorem upd_ne {H : Hp} {a b : Addr} {o : HO} (h : b ≠ a) : upd H a o b = H b := by unfold upd; rw [if_neg h]
theorem upd_upd {H : Hp} {a : Addr} {o u : HO} : upd (upd H a o) a u = upd H a u := by
  funext b; unfold upd; split <;> rfl
/-- two objects of different content stand apart -/
theorem ne_of {H : Hp} {a b : Addr} {o u : HO} (h : H a = some o) (h' : H b = some u) (d : o ≠ u) : a ≠ b := by
  intro e; subst e; rw [h] at h'; exact d (Option.some.inj h')
theorem ne_of_none {H : Hp} {a b : Addr} {o : HO} (h : H a = some o) (h' : H b = none) : a ≠ b := by
  intro e; subst e; rw [h] at h'; cases h'

section
variable (P : Program) (w : World)
def ObjOk (H : Hp) (h : Heap) (a : Addr) : HO → Prop
  | .lst xs => xs.length ≤ sizeLine ∧ ∃ (its : List Value) (n : Nat), Vals xs its ∧ h.get? a = some { cls := .type "list", data := .seq its.toArray n }
  | .tup xs => xs.length ≤ sizeLine ∧ ∃ its : List Value, Vals xs its ∧ IsTup h a its.toArray
  | .dK kvs => kvs.length ≤ sizeLine ∧ (a == sysModules) = false ∧ ∃ vs, KV kvs vs ∧ h.DictOf (mixKind P w) a vs
  | .dT kvs => kvs.length ≤ sizeLine ∧ (a == sysModules) = false ∧ ∃ xs : List (List Key × Addr × Value),
      Paired (fun (p : List Key × V) (q : List Key × Addr × Value) => p.1 = q.1 ∧ H q.2.1 = some (.tup (p.1.map kV)) ∧ RelV p.2 q.2.2) kvs xs ∧
      ∃ o es ep, h.get? a = some o ∧ o.ExactDict ∧ o.data = .dict es ep ∧ es.toList = xs.map (entryOfKey (tupleKind (mixKind P w))) ∧ (xs.map (·.1)).Nodup
  | .set S n => h.SetOf (intKind P w) a S n
  | .ins C dx fs => H dx = some (.own a) ∧ fs.length ≤ 1000 ∧ dx ≠ a ∧ h.get? a = some (PySem.W.instObj C dx) ∧
      ∃ mA, h.Ns1 dx mA ∧ (∀ f, RelO (fs.lookup f) (mA f)) ∧ PySem.Within mA (fs.map (·.1))
  | .own _ => ∃ o, h.get? a = some o
  | .xd fs => ∃ mA, h.Ns1 a mA ∧ ∀ f, RelO (fs.lookup f) (mA f)
  | .rng lo hi => ∃ t u v, h.get? a = some { cls := .type "range", data := .fields #[.int lo t, .int hi u, .int 1 v] }
  | .frz o u => h.get? a = some o ∧ ObjOk H h a u
  | .tbl ps => h.get? a = some { cls := .none, data := .fields ps }
  | .met f x => h.get? a = some (PySem.W.methodObj (.ref f) (.ref x))
  | .ext φ => φ h ∧ (∃ o, h.get? a = some o) ∧ ∀ h1 h2 : Heap, φ h1 → (∀ o, h1.get? a = some o → h2.get? a = some o) → φ h2
/-- the abstract heap is held -/
def HOk (H : Hp) (h : Heap) : Prop := ∀ a o, H a = some o → ObjOk P w H h a o
end

section
variable {P : Program} {w : World} {H H' : Hp} {h h' : Heap} {a : Addr} {o : HO}
theorem ObjOk.lt (x : ObjOk P w H h a o) : a < h.objs.size := by
  cases o with
  | lst xs => obtain ⟨_, _, _, _, e⟩ := x; exact Heap.lt_size e
  | tup xs => obtain ⟨_, _, _, p⟩ := x; exact p.lt
  | dK kvs => obtain ⟨_, _, _, _, o, _, _, e, _⟩ := x; exact Heap.lt_size e
  | dT kvs => obtain ⟨_, _, _, _, o, _, _, e, _⟩ := x; exact Heap.lt_size e
  | set S n => obtain ⟨o, _, _, _, e, _⟩ := x; exact Heap.lt_size e
  | ins C dx fs => obtain ⟨_, _, _, e, _⟩ := x; exact Heap.lt_size e
  | own y => obtain ⟨_, e⟩ := x; exact Heap.lt_size e
  | xd fs => obtain ⟨_, ⟨_, _, _, e, _⟩, _⟩ := x; exact Heap.lt_size e
  | rng lo hi => obtain ⟨_, _, _, e⟩ := x; exact Heap.lt_size e
  | frz ob u => obtain ⟨e, _⟩ := x; exact Heap.lt_size e
  | tbl ps => exact Heap.lt_size (show h.get? a = some _ from x)
  | met f y => exact Heap.lt_size (show h.get? a = some _ from x)
  | ext φ => obtain ⟨_, ⟨_, e⟩, _⟩ := x; exact Heap.lt_size e
theorem Paired.mapP {α β : Type} {F G : α → β → Prop} : ∀ {l₁ : List α} {l₂ : List β}, Paired F l₁ l₂ → (∀ a b, F a b → G a b) → Paired G l₁ l₂
  | _, _, .nil, _ => .nil
  | _, _, .cons r t, f => .cons (f _ _ r) (Paired.mapP t f)
/-- what an object's description leans on: its own object, its own dict, the tuples -/
theorem ObjOk.stay (x : ObjOk P w H h a o) (k : ∀ b u, (b = a ∨ H b = some (.own a)) → h.get? b = some u → h'.get? b = some u)
    (ho : ∀ b, H b = some (.own a) → H' b = some (.own a)) (ht : ∀ b xs, H b = some (.tup xs) → H' b = some (.tup xs)) : ObjOk P w H' h' a o := by
  induction o with
  | lst xs => obtain ⟨z, its, n, r, e⟩ := x; exact ⟨z, its, n, r, k _ _ (.inl rfl) e⟩
  | tup xs => obtain ⟨z, its, r, ob, e, c⟩ := x; exact ⟨z, its, r, ob, k _ _ (.inl rfl) e, c⟩
  | dK kvs => obtain ⟨z, y, vs, r, ob, es, ep, e, c⟩ := x; exact ⟨z, y, vs, r, ob, es, ep, k _ _ (.inl rfl) e, c⟩
  | dT kvs =>
    obtain ⟨z, y, xs, r, ob, es, ep, e, c⟩ := x
    exact ⟨z, y, xs, Paired.mapP r fun p q z => ⟨z.1, ht _ _ z.2.1, z.2.2⟩, ob, es, ep, k _ _ (.inl rfl) e, c⟩
  | set S n => obtain ⟨ob, es, ep, t, e, c⟩ := x; exact ⟨ob, es, ep, t, k _ _ (.inl rfl) e, c⟩
  | ins C dx fs =>
    obtain ⟨d, z, ne, e, mA, ⟨od, es, ep, e2, c⟩, r⟩ := x
    exact ⟨ho _ d, z, ne, k _ _ (.inl rfl) e, mA, ⟨od, es, ep, k _ _ (.inr d) e2, c⟩, r⟩
  | own y => obtain ⟨ob, e⟩ := x; exact ⟨ob, k _ _ (.inl rfl) e⟩
  | xd fs => obtain ⟨mA, ⟨od, es, ep, e, c⟩, r⟩ := x; exact ⟨mA, ⟨od, es, ep, k _ _ (.inl rfl) e, c⟩, r⟩
  | rng lo hi => obtain ⟨t, u, v, e⟩ := x; exact ⟨t, u, v, k _ _ (.inl rfl) e⟩
  | frz ob u ih => obtain ⟨e, q⟩ := x; exact ⟨k _ _ (.inl rfl) e, ih q⟩
  | tbl ps =>
    have e : h.get? a = some { cls := .none, data := .fields ps } := x
    show h'.get? a = some { cls := .none, data := .fields ps }
    exact k a _ (.inl rfl) e
  | met f y =>
    have e : h.get? a = some (PySem.W.methodObj (.ref f) (.ref y)) := x
    show h'.get? a = some (PySem.W.methodObj (.ref f) (.ref y))
    exact k a _ (.inl rfl) e
  | ext φ => obtain ⟨p, ⟨o, e⟩, st⟩ := x; exact ⟨st _ _ p fun o q => k _ _ (.inl rfl) q, ⟨o, k _ _ (.inl rfl) e⟩, st⟩
theorem HOk.lt (x : HOk P w H h) (e : H a = some o) : a < h.objs.size := (x a o e).lt
theorem HOk.fresh (x : HOk P w H h) (e : h.objs.size ≤ a) : H a = none := by
  cases q : H a with
  | none => rfl
  | some u => exact absurd (Nat.lt_of_lt_of_le (x.lt q) e) (Nat.lt_irrefl _)
/-- every object of the heap is kept -/
theorem HOk.kept (x : HOk P w H h) (k : ∀ b u, h.get? b = some u → h'.get? b = some u) : HOk P w H h' := fun a o e =>
  (x a o e).stay (fun b u _ q => k b u q) (fun _ q => q) fun _ _ q => q
/-- a new object is laid and tracked -/
theorem HOk.laid (x : HOk P w H h) (k : ∀ b u, h.get? b = some u → h'.get? b = some u) (hp : h.objs.size ≤ a) (new : ObjOk P w (upd H a o) h' a o) : HOk P w (upd H a o) h' := fun b u e => by
  have hn := x.fresh hp
  by_cases hb : b = a
  · subst hb; rw [upd_same] at e; cases e; exact new
  · rw [upd_ne hb] at e
    exact (x b u e).stay (fun c v _ q => k c v q) (fun c q => by rw [upd_ne (ne_of_none q hn)]; exact q) fun c xs q => by rw [upd_ne (ne_of_none q hn)]; exact q
end

/-- what may be read as u: it is u, or a known u -/
def Rd (H : Hp) (a : Addr) (u : HO) : Prop := H a = some u ∨ ∃ o, H a = some (.frz o u)
theorem Rd.of {H : Hp} {a : Addr} {u : HO} (h : H a = some u) : Rd H a u := .inl h
theorem Rd.ok {P : Program} {w : World} {H : Hp} {h : Heap} {a : Addr} {u : HO} (r : Rd H a u) (x : HOk P w H h) : ObjOk P w H h a u := by
  rcases r with r | ⟨o, r⟩
  · exact x a u r
  · obtain ⟨_, q⟩ := x a _ r
    exact q
/-- what may be written -/
def Mut : Option HO → Prop
  | some (.lst _) => True
  | some (.dK _) => True
  | some (.dT _) => True
  | some (.set _ _) => True
  | some (.ins _ _ _) => True
  | some (.ext _) => True
  | _ => False
section
variable {P : Program} {w : World} {H : Hp} {h h' : Heap} {x e : Addr} {o' : HO}
/-- the object at e is changed: x itself, or the dict of the instance x -/
theorem HOk.write (ok : HOk P w H h) (mu : Mut (H x)) (he : e = x ∨ H e = some (.own x)) (k : ∀ b u, b ≠ e → h.get? b = some u → h'.get? b = some u) (heo : ∃ u, h'.get? e = some u)
    (new : ObjOk P w (upd H x o') h' x o') : HOk P w (upd H x o') h' := fun b u q => by
  have nown : ∀ c y, H c = some (.own y) → c ≠ x := fun c y r z => by subst z; rw [r] at mu; exact mu
  have ntup : ∀ c xs, H c = some (.tup xs) → c ≠ x := fun c xs r z => by subst z; rw [r] at mu; exact mu
  by_cases hb : b = x
  · subst hb; rw [upd_same] at q; cases q; exact new
  · rw [upd_ne hb] at q
    by_cases hbe : b = e
    · have q' : H b = some (.own x) := by
        rcases he with z | z
        · exact absurd (hbe.trans z) hb
        · rw [hbe]; exact z
      rw [q] at q'; cases q'
      obtain ⟨v, hv⟩ := heo
      exact ⟨v, by rw [hbe]; exact hv⟩
    · refine (ok b u q).stay (fun c v hc r => k c v ?_ r) (fun c r => by rw [upd_ne (nown c b r)]; exact r) fun c xs r => by rw [upd_ne (ntup c xs r)]; exact r
      rcases hc with rfl | hc
      · exact hbe
      · rintro rfl
        rcases he with z | z
        · exact nown c b hc z
        · rw [hc] at z; cases z; exact hb rfl
end

/-! ### kept unless tracked; of the frames at fs (the callers') the slots may change (an exception that passes writes there); of the records at ex (iterators) nothing is said -/
structure Un (fs ex : List Addr) (H H' : Hp) (h h' : Heap) : Prop where
  keep : ∀ b o, h.get? b = some o → H b = none → b ∉ fs → b ∉ ex → h'.get? b = some o
  slot : ∀ b o, h.get? b = some o → H b = none → b ∈ fs → b ∉ ex → ∃ sl, h'.get? b = some { o with slots := sl }
  free : ∀ b o, h.get? b = some o → H b = none → b ∉ ex → H' b = none
  there : ∀ b o, h.get? b = some o → b ∉ ex → ∃ o', h'.get? b = some o'
  tups : ∀ b xs, H b = some (.tup xs) → H' b = some (.tup xs)
  frzs : ∀ b o u, H b = some (.frz o u) → H' b = some (.frz o u)
  tbls : ∀ b ps, H b = some (.tbl ps) → ∃ more, H' b = some (.tbl (ps ++ more))
section
variable {fs fs' ex ex' : List Addr} {H H1 H2 : Hp} {h h1 h2 h' : Heap} {a x e : Addr} {o : HO}
theorem Un.any (u : Un fs ex H H1 h h1) {b : Addr} {ob : Obj} (q : h.get? b = some ob) (n : H b = none) (hx : b ∉ ex) : ∃ sl, h1.get? b = some { ob with slots := sl } := by
  by_cases hb : b ∈ fs
  · exact u.slot b ob q n hb hx
  · exact ⟨ob.slots, u.keep b ob q n hb hx⟩
theorem Un.trans (a : Un fs ex H H1 h h1) (b : Un fs ex H1 H2 h1 h2) : Un fs ex H H2 h h2 where
  keep := fun c ob q n hc hx => b.keep c ob (a.keep c ob q n hc hx) (a.free c ob q n hx) hc hx
  slot := fun c ob q n hc hx => by
    obtain ⟨sl, e1⟩ := a.slot c ob q n hc hx
    obtain ⟨sl', e2⟩ := b.slot c _ e1 (a.free c ob q n hx) hc hx
    exact ⟨sl', e2⟩
  free := fun c ob q n hx => by
    obtain ⟨o', e1⟩ := a.there c ob q hx
    exact b.free c o' e1 (a.free c ob q n hx) hx
  there := fun c ob q hx => by
    obtain ⟨o', e1⟩ := a.there c ob q hx
    exact b.there c o' e1 hx
  tups := fun c xs q => b.tups c xs (a.tups c xs q)
  frzs := fun c ob xs q => b.frzs c ob xs (a.frzs c ob xs q)
  tbls := fun c ps q => by
    obtain ⟨m1, e1⟩ := a.tbls c ps q
    obtain ⟨m2, e2⟩ := b.tbls c _ e1
    exact ⟨m1 ++ m2, by rw [e2, Array.append_assoc]⟩
theorem Un.kept (k : ∀ b u, h.get? b = some u → h'.get? b = some u) : Un fs ex H H h h' :=
  ⟨fun b ob q _ _ _ => k b ob q, fun b ob q _ _ _ => ⟨ob.slots, k b ob q⟩, fun _ _ _ n _ => n, fun b ob q _ => ⟨ob, k b ob q⟩, fun _ _ q => q, fun _ _ _ q => q, fun _ ps q => ⟨#[], by rw [q]; simp⟩⟩
theorem Un.refl : Un fs ex H H h h := Un.kept fun _ _ q => q
theorem Un.laid (k : ∀ b u, h.get? b = some u → h'.get? b = some u) (hp : h.objs.size ≤ a) (hn : H a = none) : Un fs ex H (upd H a o) h h' where
  keep := fun b u q _ _ _ => k b u q
  slot := fun b u q _ _ _ => ⟨u.slots, k b u q⟩
  free := fun b u q n _ => by rw [upd_ne (Nat.ne_of_lt (Nat.lt_of_lt_of_le (Heap.lt_size q) hp))]; exact n
  there := fun b u q _ => ⟨u, k b u q⟩
  tups := fun b xs q => by rw [upd_ne (ne_of_none q hn)]; exact q
  frzs := fun b u xs q => by rw [upd_ne (ne_of_none q hn)]; exact q
  tbls := fun b ps q => ⟨#[], by rw [upd_ne (ne_of_none q hn), q]; simp⟩
theorem Un.write (mu : Mut (H x)) (he : e = x ∨ H e = some (.own x)) (k : ∀ b u, b ≠ e → h.get? b = some u → h'.get? b = some u) (heo : ∃ u, h'.get? e = some u) : Un fs ex H (upd H x o) h h' := by
  have hx : ∀ b, H b = none → b ≠ x := fun b n z => by subst z; rw [n] at mu; exact mu
  have hb : ∀ b, H b = none → b ≠ e := fun b n z => by
    subst z
    rcases he with r | r
    · exact hx b n r
    · rw [n] at r; cases r
  have hm : ∀ b u, H b = some u → ¬ Mut (some u) → b ≠ x := fun b u q nm z => by subst z; rw [q] at mu; exact nm mu
  refine ⟨fun b u q n _ _ => k b u (hb b n) q, fun b u q n _ _ => ⟨u.slots, k b u (hb b n) q⟩, fun b u q n _ => by rw [upd_ne (hx b n)]; exact n, fun b u q _ => ?_,
    fun b xs q => by rw [upd_ne (hm b _ q fun z => z)]; exact q, fun b u xs q => by rw [upd_ne (hm b _ q fun z => z)]; exact q, fun b ps q => ⟨#[], by rw [upd_ne (hm b _ q fun z => z), q]; simp⟩⟩
  by_cases hbe : b = e
  · subst hbe; exact heo
  · exact ⟨u, k b u hbe q⟩
theorem Un.mono (u : Un fs ex H H1 h h1) (hs : ∀ b ∈ fs, b ∈ fs') (hx : ∀ b ∈ ex, b ∈ ex') : Un fs' ex' H H1 h h1 :=
  ⟨fun b ob q n hb he => u.keep b ob q n (fun z => hb (hs b z)) fun z => he (hx b z), fun _ _ q n _ he => u.any q n fun z => he (hx _ z), fun b ob q n he => u.free b ob q n fun z => he (hx b z), fun b ob q he => u.there b ob q fun z => he (hx b z), u.tups, u.frzs, u.tbls⟩
end

/-! ### the heap without what is tracked -/
def trk (h : Heap) (H : Hp) : List Addr := (List.range h.objs.size).filter fun a => (H a).isSome
def hidT (h : Heap) (H : Hp) : Heap := PySem.W.hideAll h (trk h H)
theorem hidT_size (h : Heap) (H : Hp) : (hidT h H).objs.size = h.objs.size := PySem.W.hideAll_size _ _
theorem hidT_get {h : Heap} {H : Hp} {b : Addr} {o : Obj} (e : h.get? b = some o) (n : H b = none) : (hidT h H).get? b = some o :=
  PySem.W.hideAll_get _ e fun hm => by
    have q : (H b).isSome = true := (List.mem_filter.mp hm).2
    rw [n] at q; simp at q
theorem of_hidT {h : Heap} {H : Hp} {b : Addr} {o : Obj} (e : (hidT h H).get? b = some o) : h.get? b = some o ∧ H b = none := by
  have e' : h.get? b = some o := PySem.W.of_hideAll (trk h H) e
  refine ⟨e', ?_⟩
  cases q : H b with
  | none => rfl
  | some x =>
    have hm : b ∈ trk h H := List.mem_filter.mpr ⟨List.mem_range.mpr (Heap.lt_size e'), by simp [q]⟩
    have z : (hidT h H).get? b = none := PySem.W.hideAll_none (trk h H) hm
    rw [z] at e; cases e

/-! ### OpenK's ledger, filled with every new object but one -/
def allNews (g h : Heap) (L : Addr) : List (Addr × Obj) := (List.range h.objs.size).filterMap fun a => if a = L ∨ (g.get? a).isSome = true then none else (h.get? a).map fun o => (a, o)
def rest (g h : Heap) (L d : Addr) : List (Addr × Obj) := (allNews g h L).filter fun p => decide (p.1 ≠ d)
end L2

namespace L2
open PySem PySem.Spec PyProof.Rows

/-- the module's facts, over the base: the heap at the law's entry without what is tracked there -/
structure Mod (K : PySem.W.Frag) (mg : Str → Option Value) (base : Heap) : Prop where
  kin : K.In base
  glob : base.Ns mainGlobals mg
  blt : ∃ mb, base.Ns builtinsNs mb ∧ ∀ x : Str, x ≠ "__name__" → mb x = bootBuiltins x
  nolimit : base.NoLimit

/-- the context: a def's body (or a comprehension's block) running. base: fixed through the whole law; s₀, H₀: the entry; outer: the frames whose slots others may change (a def's callers); stack: all frames that run;
   ex: iterators that were made ahead of the entry and are walked here (a comprehension's); fn: the names whose cells were made at the entry (a def: all; a comprehension's block: its own); calm: not within an except suite; pn: pins that every state bears; xe: what is wanted of an exception that leaves the code -/
structure Cx where
  prog : Program
  w : World
  K : PySem.W.Frag
  mg : Str → Option Value
  base : Heap
  A : Around
  N : List Str
  s_0 : Shared
  H_0 : Hp
  env : Env
  outer : List Env
  stack : List Env
  ex : List Addr
  fn : Str → Bool
  calm : Bool
  pn : List (Addr × Obj)
  xe : Value → Shared → Prop
/-- the callers' frames -/
def frs (l : List Env) : List Addr := l.filterMap (·.frame)
abbrev Cx.fs (X : Cx) : List Addr := frs X.outer

def Vis (sc : Scope) (x : Str) : Prop := sc.names.lookup x = some .local ∨ sc.names.lookup x = some .cell ∨ sc.names.lookup x = some .free
def Loc (sc : Scope) (x : Str) : Prop := sc.names.lookup x = some .local ∨ sc.names.lookup x = some .cell
def Look (env : Env) (h : Heap) (m : Str → Option Value) (x : Str) (u : Value) : Prop :=
  (env.kindOf x = some .local ∧ m x = some u) ∨ ((env.kindOf x = some .cell ∨ env.kindOf x = some .free) ∧ ∃ c, env.cells.lookup x = some c ∧ h.IsCell c (some u))

structure Cx.Ok (X : Cx) : Prop where
  mod : Mod X.K X.mg X.base
  kind : X.env.scope.kind = .function
  glob : X.env.globals = mainGlobals
  blt : X.env.builtins = builtinsNs
  above : X.s_0.heap.objs.size ≤ X.env.locals
  inj : ∀ x y c, X.env.cells.lookup x = some c → X.env.cells.lookup y = some c → x = y
  has : ∀ x, (X.env.kindOf x = some .cell ∨ X.env.kindOf x = some .free) → ∃ c, X.env.cells.lookup x = some c
  cab : ∀ x c, X.fn x = true → X.env.cells.lookup x = some c → X.s_0.heap.objs.size ≤ c
  hd : X.calm = true → X.A.handled = none
  frames : X.A.frames = some X.stack
  stk : X.stack = X.outer ∨ (X.stack = X.env :: X.outer ∧ X.env.frame = some X.env.locals)
  exf : ∀ b ∈ X.ex, b ≠ X.env.locals ∧ ∀ x c, X.env.cells.lookup x = some c → c ≠ b
  bs : ∀ b o, X.base.get? b = some o → X.s_0.heap.get? b = some o ∧ X.H_0 b = none
  bsz : X.base.objs.size ≤ X.s_0.heap.objs.size
  noex : ∀ b o, X.base.get? b = some o → b ∉ X.ex
  exfs : ∀ b ∈ X.ex, b ∉ X.fs
  funs : X.s_0.heap.FunFrames X.base X.outer
  frf : ∀ b ∈ X.fs, X.H_0 b = none

structure Inv (X : Cx) (pins : List (Addr × Obj)) (σ : List (Option V)) (H : Hp) (s : Shared) : Prop where
  ok : X.Ok
  os : s.os = X.s_0.os
  bare : AllBare s.gens
  base : Un X.fs X.ex X.H_0 H X.s_0.heap s.heap
  loc : ∃ m, s.heap.Ns X.env.locals m ∧ ∀ (i : Nat) (x : Str) (v : V), X.N[i]? = some x → σ[i]? = some (some v) → Vis X.env.scope x → ∃ u, RelV v u ∧ Look X.env s.heap m x u
  cell : ∀ x c, X.env.cells.lookup x = some c → ∃ v, s.heap.IsCell c v
  free : H X.env.locals = none
  freeC : ∀ x c, X.env.cells.lookup x = some c → H c = none
  pin : ∀ p ∈ X.pn ++ pins, s.heap.get? p.1 = some p.2 ∧ H p.1 = none ∧ p.1 ≠ X.env.locals ∧ p.1 ∉ X.fs ∧ ∀ v, p.2.data ≠ .cell v
  hok : HOk X.prog X.w H s.heap
  len : σ.length = X.N.length

section
variable {X : Cx} {pins : List (Addr × Obj)} {σ : List (Option V)} {H H' : Hp} {s : Shared} {h' : Heap}

theorem Cx.Ok.nofr (ok : X.Ok) {b : Addr} {o : Obj} (e : X.base.get? b = some o) : b ∉ X.fs := fun hb => by
  have := (ok.funs.mem hb).1
  rw [e] at this; cases this
theorem Inv.bs (I : Inv X pins σ H s) : ∀ b o, X.base.get? b = some o → s.heap.get? b = some o ∧ H b = none := fun b o e =>
  ⟨I.base.keep b o (I.ok.bs b o e).1 (I.ok.bs b o e).2 (I.ok.nofr e) (I.ok.noex b o e), I.base.free b o (I.ok.bs b o e).1 (I.ok.bs b o e).2 (I.ok.noex b o e)⟩
theorem Inv.bk (I : Inv X pins σ H s) : ∀ b o, X.base.get? b = some o → s.heap.get? b = some o := fun b o e => (I.bs b o e).1
theorem Inv.mod (I : Inv X pins σ H s) : Mod X.K X.mg X.base := I.ok.mod
theorem Inv.kIn (I : Inv X pins σ H s) : X.K.In s.heap := I.ok.mod.kin.keeps I.bk
theorem Inv.nolimit (I : Inv X pins σ H s) : s.heap.NoLimit := I.ok.mod.nolimit.keeps I.bk
theorem Inv.lt (I : Inv X pins σ H s) : X.env.locals < s.heap.objs.size := let ⟨_, hn, _⟩ := I.loc; hn.lt
theorem Inv.sz (I : Inv X pins σ H s) : X.s_0.heap.objs.size ≤ s.heap.objs.size := Nat.le_trans I.ok.above (Nat.le_of_lt I.lt)
theorem Inv.nofs (I : Inv X pins σ H s) {a : Addr} (h : s.heap.objs.size ≤ a) : a ∉ X.fs := fun hb => by
  obtain ⟨_, o, ho, _⟩ := I.ok.funs.mem hb
  exact absurd (Nat.lt_of_lt_of_le (Heap.lt_size ho) (Nat.le_trans I.sz h)) (Nat.lt_irrefl _)
theorem Inv.cne (I : Inv X pins σ H s) : ∀ x c, X.env.cells.lookup x = some c → c ≠ X.env.locals := fun x c e z => by
  obtain ⟨v, o, ho, hd⟩ := I.cell x c e
  obtain ⟨m, ⟨o', es, ep, ho', hd', _⟩, _⟩ := I.loc
  rw [z, ho'] at ho; cases ho; rw [hd'] at hd; cases hd
theorem Inv.funs (I : Inv X pins σ H s) : s.heap.FunFrames X.base X.outer := by
  have all : ∀ (l : List Env), (∀ b ∈ frs l, b ∈ X.fs) → X.s_0.heap.FunFrames X.base l → s.heap.FunFrames X.base l := by
    intro l
    induction l with
    | nil => intro _ _; trivial
    | cons env r ih =>
      intro hs hl
      obtain ⟨hk, ⟨L, o, hf, hn, ho, hd⟩, hr⟩ := hl
      have hL : L ∈ X.fs := hs L (by unfold frs; rw [List.filterMap_cons, hf]; exact List.mem_cons_self)
      obtain ⟨sl, e⟩ := I.base.slot L o ho (I.ok.frf L hL) hL fun z => I.ok.exfs L z hL
      exact ⟨hk, ⟨L, _, hf, hn, e, hd⟩, ih (fun b hb => hs b (by unfold frs; rw [List.filterMap_cons, hf]; exact List.mem_cons_of_mem _ hb)) hr⟩
  exact all X.outer (fun _ hb => hb) I.ok.funs

/-- the frames that run, for a call -/
theorem Inv.stack (I : Inv X pins σ H s) : s.heap.FunFrames X.base X.stack := by
  rcases I.ok.stk with e | ⟨e, hf⟩
  · rw [e]; exact I.funs
  · rw [e]
    obtain ⟨m, hn, _⟩ := I.loc
    refine .cons (by rw [I.ok.kind]; decide) hf hn ?_ I.funs
    exact Heap.get?_none_of_le (Nat.le_trans I.ok.bsz I.ok.above)
theorem Inv.stkSub (I : Inv X pins σ H s) : ∀ b ∈ frs X.stack, b ∈ X.env.locals :: X.fs := fun b hb => by
  rcases I.ok.stk with e | ⟨e, hf⟩
  · rw [e] at hb; exact List.mem_cons_of_mem _ hb
  · rw [e] at hb
    unfold frs at hb
    rw [List.filterMap_cons, hf] at hb
    exact hb
theorem Inv.stkFree (I : Inv X pins σ H s) : ∀ b ∈ frs X.stack, H b = none := fun b hb => by
  rcases List.mem_cons.mp (I.stkSub b hb) with e | hb
  · rw [e]; exact I.free
  · obtain ⟨_, o, ho, _⟩ := I.ok.funs.mem hb
    exact I.base.free b o ho (I.ok.frf b hb) fun z => I.ok.exfs b z hb

/-- THE STEP: the untracked objects but the frame and the records at ch are kept (the callers' frames up to slots), the frame's map is kept, the new abstract heap is held -/
theorem Inv.step {g' : Array GenState} {t' : Nat} {d' : Drawn} {ch : List Addr} (I : Inv X pins σ H s)
    (hch : ∀ b ∈ ch, (b ∈ X.ex ∨ X.s_0.heap.objs.size ≤ b) ∧ b ≠ X.env.locals ∧ (∀ x c, X.env.cells.lookup x = some c → c ≠ b) ∧ ∀ p ∈ X.pn ++ pins, p.1 ≠ b)
    (keep : ∀ b o, b ≠ X.env.locals → b ∉ X.fs → b ∉ ch → s.heap.get? b = some o → H b = none → h'.get? b = some o)
    (slot : ∀ b o, b ≠ X.env.locals → b ∈ X.fs → b ∉ ch → s.heap.get? b = some o → H b = none → ∃ sl, h'.get? b = some { o with slots := sl }) (free : ∀ b o, b ∉ ch → s.heap.get? b = some o → H b = none → H' b = none)
    (there : ∀ b o, b ∉ ch → s.heap.get? b = some o → ∃ o', h'.get? b = some o')
    (tups : ∀ b xs, H b = some (.tup xs) → H' b = some (.tup xs)) (frzs : ∀ b o u, H b = some (.frz o u) → H' b = some (.frz o u)) (tbls : ∀ b ps, H b = some (.tbl ps) → ∃ more, H' b = some (.tbl (ps ++ more)))
    (ns : ∀ m, s.heap.Ns X.env.locals m → h'.Ns X.env.locals m) (hok : HOk X.prog X.w H' h') (hg : AllBare g') :
    Inv X pins σ H' { s with heap := h', gens := g', drawn := d', toks := t' } := by
  have neL : ∀ b o, X.s_0.heap.get? b = some o → b ≠ X.env.locals := fun b o e => Nat.ne_of_lt (Nat.lt_of_lt_of_le (Heap.lt_size e) I.ok.above)
  have neC : ∀ b o, X.s_0.heap.get? b = some o → b ∉ X.ex → b ∉ ch := fun b o e hx hb => by
    rcases (hch b hb).1 with z | z
    · exact hx z
    · exact absurd (Nat.lt_of_lt_of_le (Heap.lt_size e) z) (Nat.lt_irrefl _)
  have cellK : ∀ x c, X.env.cells.lookup x = some c → ∀ v, s.heap.IsCell c v → h'.IsCell c v := fun x c e v ⟨o, ho, hd⟩ => by
    have nch : c ∉ ch := fun z => (hch c z).2.2.1 x c e rfl
    by_cases hc : c ∈ X.fs
    · obtain ⟨sl, q⟩ := slot c o (I.cne x c e) hc nch ho (I.freeC x c e)
      exact ⟨_, q, hd⟩
    · exact ⟨o, keep c o (I.cne x c e) hc nch ho (I.freeC x c e), hd⟩
  refine ⟨I.ok, I.os, hg, ⟨fun b o e n hb hx => ?_, fun b o e n hb hx => ?_, fun b o e n hx => ?_, fun b o e hx => ?_, fun b xs e => tups b xs (I.base.tups b xs e), fun b o xs e => frzs b o xs (I.base.frzs b o xs e), fun b ps e => ?_⟩, ?_, fun x c e => ?_, ?_, fun x c e => ?_, fun p hp => ?_, hok, I.len⟩
  · exact keep b o (neL b o e) hb (neC b o e hx) (I.base.keep b o e n hb hx) (I.base.free b o e n hx)
  · obtain ⟨sl, e1⟩ := I.base.slot b o e n hb hx
    obtain ⟨sl', e2⟩ := slot b _ (neL b o e) hb (neC b o e hx) e1 (I.base.free b o e n hx)
    exact ⟨sl', e2⟩
  · obtain ⟨o', e1⟩ := I.base.there b o e hx
    exact free b o' (neC b o e hx) e1 (I.base.free b o e n hx)
  · obtain ⟨o', e1⟩ := I.base.there b o e hx
    exact there b o' (neC b o e hx) e1
  · obtain ⟨m1, e1⟩ := I.base.tbls b ps e
    obtain ⟨m2, e2⟩ := tbls b _ e1
    exact ⟨m1 ++ m2, by rw [e2, Array.append_assoc]⟩
  · obtain ⟨m, hn, hl⟩ := I.loc
    refine ⟨m, ns m hn, fun i x v e1 e2 e3 => ?_⟩
    obtain ⟨u, r, l⟩ := hl i x v e1 e2 e3
    refine ⟨u, r, ?_⟩
    rcases l with l | ⟨k, c, e, z⟩
    · exact .inl l
    · exact .inr ⟨k, c, e, cellK x c e _ z⟩
  · obtain ⟨v, z⟩ := I.cell x c e
    exact ⟨v, cellK x c e v z⟩
  · obtain ⟨m, ⟨o, _, _, ho, _⟩, _⟩ := I.loc
    exact free _ o (fun z => (hch _ z).2.1 rfl) ho I.free
  · obtain ⟨v, o, ho, hd⟩ := I.cell x c e
    exact free c o (fun z => (hch c z).2.2.1 x c e rfl) ho (I.freeC x c e)
  · obtain ⟨e, n, ne, nf, d⟩ := I.pin p hp
    have nch : p.1 ∉ ch := fun z => (hch p.1 z).2.2.2 p hp rfl
    exact ⟨keep p.1 p.2 ne nf nch e n, free p.1 p.2 nch e n, ne, nf, d⟩
/-- .. where the frame's own object is kept too -/
theorem Inv.un {t' : Nat} (I : Inv X pins σ H s) (u : Un X.fs [] H H' s.heap h') (hok : HOk X.prog X.w H' h') : Inv X pins σ H' { s with heap := h', toks := t' } := by
  obtain ⟨m, ⟨o, es, ep, ho, r⟩, _⟩ := id I.loc
  obtain ⟨sl, hL⟩ := u.any ho I.free (by simp)
  exact I.step (g' := s.gens) (d' := s.drawn) (ch := []) (fun _ z => nomatch z) (fun b o _ hb _ e n => u.keep b o e n hb (by simp)) (fun b o _ hb _ e n => u.slot b o e n hb (by simp)) (fun b o _ e n => u.free b o e n (by simp)) (fun b o _ e => u.there b o e (by simp)) u.tups u.frzs u.tbls (fun m' hm => by
    obtain ⟨o', es', ep', ho', r'⟩ := hm
    rw [ho] at ho'; cases ho'
    exact ⟨_, es', ep', hL, r'⟩) hok I.bare
/-- behind a call (or a comprehension's block): the slots of this frame may have changed too, the records at ch may have turned -/
theorem Inv.call {g' : Array GenState} {t' : Nat} {d' : Drawn} {ch : List Addr} (I : Inv X pins σ H s) (u : Un (frs X.stack) ch H H' s.heap h') (hok : HOk X.prog X.w H' h') (hg : AllBare g')
    (hch : ∀ b ∈ ch, (b ∈ X.ex ∨ X.s_0.heap.objs.size ≤ b) ∧ b ≠ X.env.locals ∧ (∀ x c, X.env.cells.lookup x = some c → c ≠ b) ∧ ∀ p ∈ X.pn ++ pins, p.1 ≠ b) :
    Inv X pins σ H' { s with heap := h', gens := g', drawn := d', toks := t' } := by
  obtain ⟨m, ⟨o, es, ep, ho, r⟩, _⟩ := id I.loc
  obtain ⟨sl, hL⟩ := u.any ho I.free fun z => (hch _ z).2.1 rfl
  exact I.step (ch := ch) hch (fun b o hL hb hc e n => u.keep b o e n (fun z => (List.mem_cons.mp (I.stkSub b z)).elim hL hb) hc) (fun b o _ _ hc e n => u.any e n hc) (fun b o hc e n => u.free b o e n hc) (fun b o hc e => u.there b o e hc) u.tups u.frzs u.tbls (fun m' hm => by
    obtain ⟨o', es', ep', ho', r'⟩ := hm
    rw [ho] at ho'; cases ho'
    exact ⟨_, es', ep', hL, r'⟩) hok hg
/-- an untracked record of ours (an iterator) has turned -/
theorem Inv.turned {t' : Nat} {it : Addr} (I : Inv X pins σ H s) (k : ∀ b o, b ≠ it → s.heap.get? b = some o → h'.get? b = some o) (hn : H it = none) (hL : it ≠ X.env.locals)
    (h1 : it ∈ X.ex ∨ X.s_0.heap.objs.size ≤ it) (h2 : ∀ x c, X.env.cells.lookup x = some c → c ≠ it) (h3 : ∀ p ∈ X.pn ++ pins, p.1 ≠ it) : Inv X pins σ H { s with heap := h', toks := t' } := by
  have nit : ∀ b u, H b = some u → b ≠ it := fun b u e z => by rw [z, hn] at e; cases e
  refine I.step (g' := s.gens) (d' := s.drawn) (ch := [it]) (fun b hb => ?_) (fun b o _ _ hc e _ => k b o (fun z => hc (by simp [z])) e) (fun b o _ _ hc e _ => ⟨o.slots, k b o (fun z => hc (by simp [z])) e⟩) (fun _ _ _ _ n => n)
    (fun b o hc e => ⟨o, k b o (fun z => hc (by simp [z])) e⟩) (fun _ _ e => e) (fun _ _ _ e => e) (fun b ps e => ⟨#[], by rw [e]; simp⟩) (fun m hm => ?_) (fun b u e => ?_) I.bare
  · have e : b = it := by simpa using hb
    subst e
    exact ⟨h1, hL, h2, h3⟩
  · obtain ⟨o, es, ep, ho, r⟩ := hm
    exact ⟨o, es, ep, k _ o (Ne.symm hL) ho, r⟩
  · refine (I.hok b u e).stay (fun c v hc q => k c v ?_ q) (fun _ q => q) fun _ _ q => q
    rcases hc with z | z
    · rw [z]; exact nit b u e
    · exact nit c _ z
theorem Inv.tok (I : Inv X pins σ H s) (t : Nat) : Inv X pins σ H { s with toks := t } := I.un (h' := s.heap) (t' := t) Un.refl I.hok
/-- all objects kept -/
theorem Inv.kept {t' : Nat} (I : Inv X pins σ H s) (k : ∀ b u, s.heap.get? b = some u → h'.get? b = some u) : Inv X pins σ H { s with heap := h', toks := t' } := I.un (Un.kept k) (I.hok.kept k)
/-- a new object laid and tracked -/
theorem Inv.laid {a : Addr} {o : HO} {t' : Nat} (I : Inv X pins σ H s) (k : ∀ b u, s.heap.get? b = some u → h'.get? b = some u) (hp : s.heap.objs.size ≤ a) (new : ObjOk X.prog X.w (upd H a o) h' a o) :
    Inv X pins σ (upd H a o) { s with heap := h', toks := t' } := I.un (Un.laid k hp (I.hok.fresh hp)) (I.hok.laid k hp new)
/-- an object written -/
theorem Inv.write {x e : Addr} {o : HO} {t' : Nat} (I : Inv X pins σ H s) (mu : Mut (H x)) (he : e = x ∨ H e = some (.own x)) (k : ∀ b u, b ≠ e → s.heap.get? b = some u → h'.get? b = some u) (heo : ∃ u, h'.get? e = some u)
    (new : ObjOk X.prog X.w (upd H x o) h' x o) : Inv X pins σ (upd H x o) { s with heap := h', toks := t' } := I.un (Un.write mu he k heo) (I.hok.write mu he k heo new)
/-- forgetting slots, pins -/
theorem Inv.weak {σ' : List (Option V)} (I : Inv X pins σ H s) (hl : σ'.length = σ.length) (w : ∀ (i : Nat) v, σ'[i]? = some (some v) → σ[i]? = some (some v)) : Inv X pins σ' H s :=
  ⟨I.ok, I.os, I.bare, I.base, let ⟨m, hn, hl'⟩ := I.loc; ⟨m, hn, fun i x v e1 e2 e3 => hl' i x v e1 (w i v e2) e3⟩, I.cell, I.free, I.freeC, I.pin, I.hok, hl.trans I.len⟩
theorem Inv.pins_of {pins' : List (Addr × Obj)} (I : Inv X pins σ H s) (h : ∀ p ∈ pins', s.heap.get? p.1 = some p.2 ∧ H p.1 = none ∧ p.1 ≠ X.env.locals ∧ p.1 ∉ X.fs ∧ ∀ v, p.2.data ≠ .cell v) : Inv X pins' σ H s :=
  ⟨I.ok, I.os, I.bare, I.base, I.loc, I.cell, I.free, I.freeC, fun p hp => (List.mem_append.mp hp).elim (fun z => I.pin p (List.mem_append_left _ z)) (h p), I.hok, I.len⟩

theorem nodup_ix {N : List Str} (hN : N.Nodup) {i j : Nat} {x : Str} (a : N[i]? = some x) (b : N[j]? = some x) : i = j := by
  obtain ⟨h1, e1⟩ := List.getElem?_eq_some_iff.mp a
  obtain ⟨h2, e2⟩ := List.getElem?_eq_some_iff.mp b
  exact (List.getElem_inj hN).mp (e1.trans e2.symm)

/-- a name is stored; what changed -/
theorem store_ok2 {M : Model} {A : Around} {E : Value → Shared → Prop} {i : Nat} {x : Str} {v : V} {u : Value} {Q : Unit → Shared → Prop} (I : Inv X pins σ H s) (hN : X.N.Nodup) (hi : X.N[i]? = some x) (hx : Loc X.env.scope x) (r : RelV v u)
    (h : ∀ s', Inv X pins (σ.set i (some v)) H s' → (∃ a, Heap.SameBut a s.heap s'.heap ∧ (a = X.env.locals ∨ X.env.cells.lookup x = some a)) → Q () s') (hf : X.fn x = true ∨ X.env.scope.names.lookup x = some .local := by first | exact .inl rfl | exact .inr rfl | assumption) : wpAny M A (storeName X.env x u) Q E s := by
  obtain ⟨m, hn, hl⟩ := id I.loc
  have hcls : (X.env.scope.kind == .class || (X.env.scope.kind == .module && X.env.locals != X.env.globals)) = false := by rw [I.ok.kind]; rfl
  have hiσ : i < σ.length := by rw [I.len]; exact (List.getElem?_eq_some_iff.mp hi).1
  have cne := I.cne
  have tracked : ∀ {a : Addr} {h' : Heap}, (∃ o, s.heap.get? a = some o ∧ H a = none) → Heap.SameBut a s.heap h' → HOk X.prog X.w H h' := fun {a h'} ha hs b ob e => by
    obtain ⟨_, _, hfree⟩ := ha
    refine (I.hok b ob e).stay (fun c w' hc q => (hs.2 c ?_).trans q) (fun _ q => q) fun _ _ q => q
    rintro rfl
    rcases hc with rfl | hc
    · rw [hfree] at e; cases e
    · rw [hfree] at hc; cases hc
  rcases hx with hk | hk
  · refine wpAny_storeName_local hk hn (fun h' hn' hs => ?_) hcls
    obtain ⟨oL, _, _, hoL, _⟩ := id hn
    refine h _ ⟨I.ok, I.os, I.bare, ⟨fun b o e n hb hx => ?_, fun b o e n hb hx => ?_, I.base.free, fun b o e hx => ?_, I.base.tups, I.base.frzs, I.base.tbls⟩, ⟨_, hn', fun j y v' e1 e2 e3 => ?_⟩, fun y c e => ?_, I.free, I.freeC, fun p hp => ?_, tracked ⟨oL, hoL, I.free⟩ hs, by simpa using I.len⟩ ⟨_, hs, .inl rfl⟩
    · exact (hs.2 b (Nat.ne_of_lt (Nat.lt_of_lt_of_le (Heap.lt_size e) I.ok.above))).trans (I.base.keep b o e n hb hx)
    · obtain ⟨sl, e1⟩ := I.base.slot b o e n hb hx
      exact ⟨sl, (hs.2 b (Nat.ne_of_lt (Nat.lt_of_lt_of_le (Heap.lt_size e) I.ok.above))).trans e1⟩
    · obtain ⟨o', e1⟩ := I.base.there b o e hx
      exact ⟨o', (hs.2 b (Nat.ne_of_lt (Nat.lt_of_lt_of_le (Heap.lt_size e) I.ok.above))).trans e1⟩
    · by_cases hj : j = i
      · subst hj
        rw [hi] at e1; cases e1
        rw [List.getElem?_set_self hiσ] at e2
        cases e2
        exact ⟨u, r, .inl ⟨hk, by simp⟩⟩
      · rw [List.getElem?_set_ne (Ne.symm hj)] at e2
        obtain ⟨u', r', q⟩ := hl j y v' e1 e2 e3
        refine ⟨u', r', ?_⟩
        rcases q with ⟨k, e⟩ | ⟨k, c, e, z⟩
        · refine .inl ⟨k, ?_⟩
          have : y ≠ x := fun e => hj (nodup_ix hN e1 (e ▸ hi))
          simp [this, e]
        · exact .inr ⟨k, c, e, z.sameBut hs (cne y c e)⟩
    · obtain ⟨w', z⟩ := I.cell y c e
      exact ⟨w', z.sameBut hs (cne y c e)⟩
    · obtain ⟨e, n, ne, nf, d⟩ := I.pin p hp
      exact ⟨(hs.2 p.1 ne).trans e, n, ne, nf, d⟩
  · have hfn : X.fn x = true := by
      rcases hf with z | z
      · exact z
      · rw [z] at hk; cases hk
    obtain ⟨c, hc⟩ := I.ok.has x (.inl hk)
    obtain ⟨w', z⟩ := I.cell x c hc
    refine wpAny_storeName_cell I.ok.kind hk hc z (fun h' hc' hs => ?_)
    obtain ⟨oc, hoc, hocd⟩ := id z
    refine h { s with heap := h' } ⟨I.ok, I.os, I.bare, ⟨fun b o e n hb hx => ?_, fun b o e n hb hx => ?_, I.base.free, fun b o e hx => ?_, I.base.tups, I.base.frzs, I.base.tbls⟩, ⟨m, hn.sameBut hs (Ne.symm (cne x c hc)), fun j y v' e1 e2 e3 => ?_⟩, fun y c' e => ?_, I.free, I.freeC, fun p hp => ?_, tracked ⟨oc, hoc, I.freeC x c hc⟩ hs, by simpa using I.len⟩ ⟨c, hs, .inr hc⟩
    · exact (hs.2 b (Nat.ne_of_lt (Nat.lt_of_lt_of_le (Heap.lt_size e) (I.ok.cab x c hfn hc)))).trans (I.base.keep b o e n hb hx)
    · obtain ⟨sl, e1⟩ := I.base.slot b o e n hb hx
      exact ⟨sl, (hs.2 b (Nat.ne_of_lt (Nat.lt_of_lt_of_le (Heap.lt_size e) (I.ok.cab x c hfn hc)))).trans e1⟩
    · obtain ⟨o', e1⟩ := I.base.there b o e hx
      exact ⟨o', (hs.2 b (Nat.ne_of_lt (Nat.lt_of_lt_of_le (Heap.lt_size e) (I.ok.cab x c hfn hc)))).trans e1⟩
    · by_cases hj : j = i
      · subst hj
        rw [hi] at e1; cases e1
        rw [List.getElem?_set_self hiσ] at e2
        cases e2
        exact ⟨u, r, .inr ⟨.inl hk, c, hc, hc'⟩⟩
      · rw [List.getElem?_set_ne (Ne.symm hj)] at e2
        obtain ⟨u', r', q⟩ := hl j y v' e1 e2 e3
        refine ⟨u', r', ?_⟩
        rcases q with q | ⟨k, c', e, z'⟩
        · exact .inl q
        · refine .inr ⟨k, c', e, z'.sameBut hs ?_⟩
          rintro rfl
          exact hj (nodup_ix hN e1 (I.ok.inj _ _ _ e hc ▸ hi))
    · by_cases hcc : c' = c
      · subst hcc; exact ⟨_, hc'⟩
      · obtain ⟨w2, z2⟩ := I.cell y c' e
        exact ⟨w2, z2.sameBut hs hcc⟩
    · obtain ⟨e, n, ne, nf, d⟩ := I.pin p hp
      refine ⟨(hs.2 p.1 ?_).trans e, n, ne, nf, d⟩
      intro q
      rw [q, hoc] at e
      have q' : oc = p.2 := Option.some.inj e
      exact d w' (by rw [← q']; exact hocd)
theorem store_ok {M : Model} {A : Around} {E : Value → Shared → Prop} {i : Nat} {x : Str} {v : V} {u : Value} {Q : Unit → Shared → Prop} (I : Inv X pins σ H s) (hN : X.N.Nodup) (hi : X.N[i]? = some x) (hx : Loc X.env.scope x) (r : RelV v u)
    (h : ∀ s', Inv X pins (σ.set i (some v)) H s' → Q () s') (hf : X.fn x = true ∨ X.env.scope.names.lookup x = some .local := by first | exact .inl rfl | exact .inr rfl | assumption) : wpAny M A (storeName X.env x u) Q E s :=
  store_ok2 I hN hi hx r (fun s' I' _ => h s' I') hf
/-- behind a call or a block, the state as it is -/
theorem Inv.call' {s' : Shared} {ch : List Addr} (I : Inv X pins σ H s) (ho : s'.os = s.os) (u : Un (frs X.stack) ch H H' s.heap s'.heap) (hok : HOk X.prog X.w H' s'.heap) (hg : AllBare s'.gens)
    (hch : ∀ b ∈ ch, (b ∈ X.ex ∨ X.s_0.heap.objs.size ≤ b) ∧ b ≠ X.env.locals ∧ (∀ x c, X.env.cells.lookup x = some c → c ≠ b) ∧ ∀ p ∈ X.pn ++ pins, p.1 ≠ b) : Inv X pins σ H' s' := by
  obtain ⟨h', g', d', t', o'⟩ := s'
  have e : o' = s.os := ho
  subst e
  exact I.call (g' := g') (t' := t') (d' := d') u hok hg hch
end

/-! ### the judgements -/
/-- an exception: its class, its own dict's address (where it has one), the abstract heap behind it -/
abbrev XK := Value → Option Addr → Hp → Prop
abbrev St := List (Option V)
abbrev VK := V → Hp → Prop
/-- an expression's reading; a test's; an argument list's -/
abbrev TE := St → Hp → VK → Prop
abbrev TT := St → Hp → (Bool → Hp → Prop) → Prop
abbrev TA := St → Hp → (List V → Hp → Prop) → Prop
/-- what is wanted behind a statement -/
structure Ends where
  nx : St → Hp → Prop
  rt : VK
  bk : St → Hp → Prop := fun _ _ => False
  ct : St → Hp → Prop := fun _ _ => False
abbrev TS := Ends → St → Hp → Prop

def EP (X : Cx) (pins : List (Addr × Obj)) (σ : St) (Q : VK) (u : Value) (s' : Shared) : Prop := ∃ v H', Inv X pins σ H' s' ∧ RelV v u ∧ Q v H'
def TP (X : Cx) (pins : List (Addr × Obj)) (σ : St) (Q : Bool → Hp → Prop) (b : Bool) (s' : Shared) : Prop := ∃ H', Inv X pins σ H' s' ∧ Q b H'
def AP (X : Cx) (pins : List (Addr × Obj)) (σ : St) (Q : List V → Hp → Prop) (us : List Value) (s' : Shared) : Prop := ∃ vs H', Inv X pins σ H' s' ∧ Vals vs us ∧ Q vs H'
def SP (X : Cx) (pins : List (Addr × Obj)) (D : Ends) (f : Flow) (s' : Shared) : Prop :=
  match f with
  | .next => ∃ σ' H', Inv X pins σ' H' s' ∧ D.nx σ' H'
  | .brk => ∃ σ' H', Inv X pins σ' H' s' ∧ D.bk σ' H'
  | .cont => ∃ σ' H', Inv X pins σ' H' s' ∧ D.ct σ' H'
  | .ret u => ∃ v σ' H', Inv X pins σ' H' s' ∧ RelV v u ∧ D.rt v H'

def PE (X : Cx) (e : Expr) (t : TE) : Prop :=
  ∀ (pins : List (Addr × Obj)) (s : Shared) (σ : St) (H : Hp) (Q : VK), Inv X pins σ H s → t σ H Q → wpAny (model X.prog X.w) X.A (eval e X.env) (EP X pins σ Q) X.xe s
def PT (X : Cx) (e : Expr) (t : TT) : Prop :=
  ∀ (pins : List (Addr × Obj)) (s : Shared) (σ : St) (H : Hp) (Q : Bool → Hp → Prop), Inv X pins σ H s → t σ H Q → wpAny (model X.prog X.w) X.A (isTrue e X.env (eval e X.env)) (TP X pins σ Q) X.xe s
/-- a test whatever its 'whole' is (and, or) -/
def PW (X : Cx) (e : Expr) (t : TT) : Prop :=
  ∀ (whole : Sem Value) (pins : List (Addr × Obj)) (s : Shared) (σ : St) (H : Hp) (Q : Bool → Hp → Prop), Inv X pins σ H s → t σ H Q → wpAny (model X.prog X.w) X.A (isTrue e X.env whole) (TP X pins σ Q) X.xe s
theorem PW.pt {X : Cx} {e : Expr} {t : TT} (h : PW X e t) : PT X e t := h _
/-- an argument list (no star), from the left -/
def PA (X : Cx) (es : List Expr) (t : TA) : Prop :=
  ∀ (pos : Pos) (pins : List (Addr × Obj)) (s : Shared) (σ : St) (H : Hp) (Q : List V → Hp → Prop), Inv X pins σ H s → t σ H Q → wpAny (model X.prog X.w) X.A (spliced (backTo pos (starEach es X.env))) (AP X pins σ Q) X.xe s
def PS (X : Cx) (st : Stmt) (t : TS) : Prop :=
  ∀ (pins : List (Addr × Obj)) (s : Shared) (σ : St) (H : Hp) (D : Ends), Inv X pins σ H s → t D σ H → wpAny (model X.prog X.w) X.A (exec st X.env) (SP X pins D) X.xe s
def PSs (X : Cx) (st : List Stmt) (t : TS) : Prop :=
  ∀ (pins : List (Addr × Obj)) (s : Shared) (σ : St) (H : Hp) (D : Ends), Inv X pins σ H s → t D σ H → wpAny (model X.prog X.w) X.A (execs st X.env) (SP X pins D) X.xe s
/-- weaken the end -/
theorem thn {α : Type} {t : Sem α} {Q Q' : α → Shared → Prop} {M : Model} {A : Around} {E : Value → Shared → Prop} {s : Shared} (h : wpAny M A t Q E s) (hQ : ∀ a s, Q a s → Q' a s) : wpAny M A t Q' E s := wpAny_mono h hQ fun _ _ x => x
end L2

namespace L2
open PySem PySem.Spec PyProof.Rows
section
variable {X : Cx}


/-! ### names and constants -/
def tVar (i : Nat) : TE := fun σ H Q => ∃ v, σ[i]? = some (some v) ∧ Q v H
def tC (v : V) : TE := fun _ H Q => Q v H
theorem pe_var {i : Nat} {x : Str} {pos : Pos} (hN : X.N[i]? = some x) (hv : Vis X.env.scope x) (hd : (x == ("__debug__" : Str)) = false := by decide) (hcd : (x == ("__classdict__" : Str)) = false := by decide) : PE X (.Name x pos) (tVar i) := by
  intro pins s σ H Q I h
  obtain ⟨v, e, h⟩ := h
  obtain ⟨m, hn, hl⟩ := I.loc
  obtain ⟨u, r, l⟩ := hl i x v hN e hv
  have fin : EP X pins σ Q u s := ⟨v, H, I, r, h⟩
  rcases l with ⟨hk, hm⟩ | ⟨hk, c, hc, hcell⟩
  · exact wpAny_Name (wpAny_loadName_local I.ok.kind hk hn hm fin) hd
  · rcases hk with hk | hk
    · exact wpAny_Name (wpAny_loadName_cell I.ok.kind hk hc hcell fin) hd
    · exact wpAny_Name (wpAny_loadName_free I.ok.kind hk hc hcell fin hcd) hd
theorem pe_int {i j pos} : PE X (.Constant (.int i) j pos) (tC (.int i)) := fun _ _ _ H _ I h => wpAny_Constant_int ⟨.int i, H, I.tok _, ⟨_, rfl⟩, h⟩
theorem pe_bl {b j pos} : PE X (.Constant (.bool b) j pos) (tC (.bl b)) := fun _ _ _ H _ I h => Constant_bool ⟨.bl b, H, I, rfl, h⟩

/-- a global name of the def -/
def Gl (X : Cx) (x : Str) : Prop := X.env.kindOf x = some .globalImplicit
theorem ld_glob {E : Value → Shared → Prop} {pins : List (Addr × Obj)} {s : Shared} {σ : St} {H : Hp} {x : Str} {u : Value} {pos : Pos} {Q : Value → Shared → Prop} (I : Inv X pins σ H s) (hg : Gl X x) (hm : X.mg x = some u) (h : Q u s)
    (hd : (x == ("__debug__" : Str)) = false := by decide) : wpAny (model X.prog X.w) X.A (eval (.Name x pos) X.env) Q E s :=
  Calls.Name_function_global I.ok.kind hg (Calls.loadGlobal_global (by rw [I.ok.glob]; exact I.mod.glob.keeps I.bk) hm h) hd
theorem ld_blt {E : Value → Shared → Prop} {pins : List (Addr × Obj)} {s : Shared} {σ : St} {H : Hp} {x : Str} {u : Value} {pos : Pos} {Q : Value → Shared → Prop} (I : Inv X pins σ H s) (hg : Gl X x) (hm : X.mg x = none) (hv : bootBuiltins x = some u) (h : Q u s)
    (hn : x ≠ "__name__" := by decide) (hd : (x == ("__debug__" : Str)) = false := by decide) : wpAny (model X.prog X.w) X.A (eval (.Name x pos) X.env) Q E s := by
  obtain ⟨mb, h1, h2⟩ := I.mod.blt
  exact Calls.Name_function_global I.ok.kind hg (Calls.loadGlobal_builtin (by rw [I.ok.glob]; exact I.mod.glob.keeps I.bk) hm (by rw [I.ok.blt]; exact h1.keeps I.bk) ((h2 x hn).trans hv) h) hd
/-- a module's constant, a class, a function, as a value -/
theorem pe_glob {x : Str} {v : V} {u : Value} {pos : Pos} (hg : Gl X x) (hm : X.mg x = some u) (r : RelV v u) (hd : (x == ("__debug__" : Str)) = false := by decide) : PE X (.Name x pos) (tC v) :=
  fun _ _ _ H _ I h => ld_glob I hg hm ⟨v, H, I, r, h⟩ hd

/-! ### arithmetic -/
variable {a b : Expr} {ta tb : TE} {pos : Pos}

/-! ### comparisons -/
/-- a comparison as a value, as a test -/
def tB (t : TE) : TT := fun σ H Q => t σ H fun x H1 => ∃ c, x = .bl c ∧ Q c H1
/-- an expression whose value is a bool, as a test -/
theorem pt_val {e : Expr} {t : TE} (h : PE X e t) (he : ∀ whole, isTrue e X.env whole = (do let v ← whole; standAt e.pos; holding [v] (truthy v)) := by intro _; rfl) : PT X e (tB t) := by
  intro pins s σ H Q I hw
  refine isTrue_plain (thn (h pins s σ H _ I hw) fun v s1 ⟨x, H1, I1, r1, q1⟩ => ?_) (he _)
  obtain ⟨d, rfl, q⟩ := q1
  cases r1
  exact wpAny_truthy_bool ⟨H1, I1, q⟩

/-! ### and, or, not -/
variable {tA tB' : TT} {rest : List Expr}
def tAnd (t u : TT) : TT := fun σ H Q => t σ H fun c H1 => if c = true then u σ H1 Q else Q false H1
def tOr (t u : TT) : TT := fun σ H Q => t σ H fun c H1 => if c = true then Q true H1 else u σ H1 Q
def tNot (t : TT) : TT := fun σ H Q => t σ H fun c H1 => Q (!c) H1
theorem pw_or1 (ha : PT X a tA) : PW X (.BoolOp .Or [a] pos) tA := by
  intro wh pins s σ H Q I h
  refine isTrue_or (thn (ha pins s σ H Q I h) fun c s1 e => ?_)
  cases c with
  | false => exact isTrue_or_nil e
  | true => exact e
theorem pw_or (ha : PT X a tA) (hb : PW X (.BoolOp .Or (b :: rest) pos) tB') : PW X (.BoolOp .Or (a :: b :: rest) pos) (tOr tA tB') := by
  intro wh pins s σ H Q I h
  refine isTrue_or (thn (ha pins s σ H _ I h) fun c s1 ⟨H1, I1, q1⟩ => ?_)
  cases c with
  | true => exact ⟨H1, I1, q1⟩
  | false => exact hb wh pins s1 σ H1 Q I1 q1
theorem pt_not (ha : PT X a tA) : PT X (.UnaryOp .Not a pos) (tNot tA) := by
  intro pins s σ H Q I h
  exact isTrue_not (ha pins s σ H (fun c H1 => Q (!c) H1) I h)
/-- .. as values (bools) -/
def tAndV (ta tb : TE) : TE := fun σ H Q => ta σ H fun x H1 => ∃ c, x = .bl c ∧ if c = true then tb σ H1 Q else Q (.bl false) H1
theorem pe_one {op} {t : TE} (h : PE X a t) : PE X (.BoolOp op [a] pos) t := fun pins s σ H Q I hw => BoolOp_one (h pins s σ H Q I hw)
theorem pe_and (ha : PE X a ta) (hb : PE X (.BoolOp .And (b :: rest) pos) tb) : PE X (.BoolOp .And (a :: b :: rest) pos) (tAndV ta tb) := by
  intro pins s σ H Q I h
  refine BoolOp_and (thn (ha pins s σ H _ I h) fun v s1 ⟨x, H1, I1, r1, q1⟩ => ?_)
  obtain ⟨c, rfl, q1⟩ := q1
  cases r1
  refine wpAny_truthy_bool ?_
  cases c with
  | true => exact hb pins s1 σ H1 Q I1 q1
  | false => exact ⟨.bl false, H1, I1, rfl, q1⟩
/-- a if t else b -/
def tIf (t : TT) (ta tb : TE) : TE := fun σ H Q => t σ H fun c H1 => if c = true then ta σ H1 Q else tb σ H1 Q
theorem pe_ifExp {c : Expr} (hc : PT X c tA) (ha : PE X a ta) (hb : PE X b tb) : PE X (.IfExp c a b pos) (tIf tA ta tb) := by
  intro pins s σ H Q I h
  refine wpAny_IfExp (thn (hc pins s σ H _ I h) fun d s1 ⟨H1, I1, q1⟩ => ?_)
  cases d with
  | true => exact ha pins s1 σ H1 Q I1 q1
  | false => exact hb pins s1 σ H1 Q I1 q1
end
end L2

namespace L2
open PySem PySem.Spec PyProof.Rows

/-! ### a list, a tuple that is read: tracked, frozen, or an object of the module -/
def SqL (K : PySem.W.Frag) (H : Hp) (a : Addr) (xs : List V) : Prop :=
  Rd H a (.lst xs) ∨
    ∃ (o : Obj) (its : Array Value) (n : Nat), K.lookup a = some o ∧ o.cls = .type "list" ∧ o.dict = none ∧ o.data = .seq its n ∧ its.size ≤ sizeLine ∧ Vals xs its.toList
def SqT (K : PySem.W.Frag) (H : Hp) (a : Addr) (xs : List V) : Prop :=
  Rd H a (.tup xs) ∨
    ∃ (o : Obj) (its : Array Value) (n : Nat), K.lookup a = some o ∧ o.cls = .type "tuple" ∧ o.data = .seq its n ∧ its.size ≤ sizeLine ∧ Vals xs its.toList
def absV : Value → Option V
  | .none => some .non
  | .bool b => some (.bl b)
  | .int i _ => some (.int i)
  | .str x _ => some (.str x)
  | .bytes b _ => some (.byt b)
  | .float b _ => some (.flt b)
  | .ref a => some (.ref a)
  | .type n => some (.ty n)
  | _ => none
theorem RelV.abs {x : V} {u : Value} (r : RelV x u) : absV u = some x := by
  cases x with
  | non => cases r; rfl
  | bl _ => cases r; rfl
  | int _ => obtain ⟨t, rfl⟩ := r; rfl
  | str _ => obtain ⟨t, rfl⟩ := r; rfl
  | byt _ => obtain ⟨t, rfl⟩ := r; rfl
  | flt _ => obtain ⟨t, rfl⟩ := r; rfl
  | ref _ => cases r; rfl
  | ty _ => cases r; rfl
theorem RelV.inj {x y : V} {u : Value} (r : RelV x u) (q : RelV y u) : x = y := Option.some.inj (r.abs.symm.trans q.abs)
theorem Vals.inj : ∀ {xs ys : List V} {us : List Value}, Vals xs us → Vals ys us → xs = ys
  | _, _, _, .nil, .nil => rfl
  | _, _, _, .cons r t, .cons r' t' => by rw [r.inj r', Vals.inj t t']
section
variable {X : Cx} {pins : List (Addr × Obj)} {σ : St} {H : Hp} {s : Shared} {a : Addr} {xs ys : List V}
theorem SqL.of {K : PySem.W.Frag} (h : H a = some (.lst xs)) : SqL K H a xs := .inl (.inl h)
theorem SqT.of {K : PySem.W.Frag} (h : H a = some (.tup xs)) : SqT K H a xs := .inl (.inl h)
theorem Inv.list (I : Inv X pins σ H s) (h : SqL X.K H a xs) : ∃ its : List Value, Vals xs its ∧ PlainL s.heap a its.toArray ∧ xs.length ≤ sizeLine := by
  rcases h with h | ⟨o, its, n, hk, hc, hd, hs, hz, r⟩
  · obtain ⟨z, its, n, r, e⟩ := h.ok I.hok
    exact ⟨its, r, ⟨_, n, e, rfl, rfl, rfl⟩, z⟩
  · refine ⟨its.toList, r, ⟨o, n, I.kIn a o hk, hc, hd, by simpa using hs⟩, ?_⟩
    have e := r.length
    simp only [Array.length_toList] at e
    omega
theorem Inv.tuple (I : Inv X pins σ H s) (h : SqT X.K H a xs) : ∃ its : List Value, Vals xs its ∧ IsTup s.heap a its.toArray ∧ xs.length ≤ sizeLine := by
  rcases h with h | ⟨o, its, n, hk, hc, hs, hz, r⟩
  · obtain ⟨z, its, r, p⟩ := h.ok I.hok
    exact ⟨its, r, p, z⟩
  · refine ⟨its.toList, r, ⟨o, I.kIn a o hk, hc, n, by simpa using hs⟩, ?_⟩
    have e := r.length
    simp only [Array.length_toList] at e
    omega
end

/-! ### another wish about exceptions -/
abbrev Cx.wish (X : Cx) (E : Value → Shared → Prop) : Cx := { X with xe := E }
/-- no exception leaves -/
abbrev Cx.nox (X : Cx) : Cx := X.wish fun _ _ => False
theorem Cx.Ok.wish {X : Cx} (ok : X.Ok) (E : Value → Shared → Prop) : (X.wish E).Ok :=
  ⟨ok.mod, ok.kind, ok.glob, ok.blt, ok.above, ok.inj, ok.has, ok.cab, ok.hd, ok.frames, ok.stk, ok.exf, ok.bs, ok.bsz, ok.noex, ok.exfs, ok.funs, ok.frf⟩
theorem Cx.Ok.unwish {X : Cx} {E : Value → Shared → Prop} (ok : (X.wish E).Ok) : X.Ok :=
  ⟨ok.mod, ok.kind, ok.glob, ok.blt, ok.above, ok.inj, ok.has, ok.cab, ok.hd, ok.frames, ok.stk, ok.exf, ok.bs, ok.bsz, ok.noex, ok.exfs, ok.funs, ok.frf⟩
section
variable {X : Cx} {pins : List (Addr × Obj)} {σ : St} {H : Hp} {s : Shared} {E : Value → Shared → Prop}
theorem Inv.wish (I : Inv X pins σ H s) (E : Value → Shared → Prop) : Inv (X.wish E) pins σ H s := ⟨I.ok.wish E, I.os, I.bare, I.base, I.loc, I.cell, I.free, I.freeC, I.pin, I.hok, I.len⟩
theorem Inv.unwish (I : Inv (X.wish E) pins σ H s) : Inv X pins σ H s := ⟨I.ok.unwish, I.os, I.bare, I.base, I.loc, I.cell, I.free, I.freeC, I.pin, I.hok, I.len⟩
theorem SP.unwish {D : Ends} {f : Flow} {s' : Shared} (h : SP (X.wish E) pins D f s') : SP X pins D f s' := by
  cases f with
  | next => obtain ⟨σ', H', I, q⟩ := h; exact ⟨σ', H', I.unwish, q⟩
  | brk => obtain ⟨σ', H', I, q⟩ := h; exact ⟨σ', H', I.unwish, q⟩
  | cont => obtain ⟨σ', H', I, q⟩ := h; exact ⟨σ', H', I.unwish, q⟩
  | ret u => obtain ⟨v, σ', H', I, r, q⟩ := h; exact ⟨v, σ', H', I.unwish, r, q⟩
theorem PE.nox {e : Expr} {t : TE} (h : PE X.nox e t) : PE X e t := fun pins s σ H Q I hw =>
  wpAny_mono (h pins s σ H Q (I.wish _) hw) (fun _ _ ⟨v, H', I', r, q⟩ => ⟨v, H', I'.unwish, r, q⟩) fun _ _ z => False.elim z
theorem PT.nox {e : Expr} {t : TT} (h : PT X.nox e t) : PT X e t := fun pins s σ H Q I hw =>
  wpAny_mono (h pins s σ H Q (I.wish _) hw) (fun _ _ ⟨H', I', q⟩ => ⟨H', I'.unwish, q⟩) fun _ _ z => False.elim z
theorem PSs.nox {st : List Stmt} {t : TS} (h : PSs X.nox st t) : PSs X st t := fun pins s σ H D I hw =>
  wpAny_mono (h pins s σ H D (I.wish _) hw) (fun _ _ q => q.unwish) fun _ _ z => False.elim z
end

/-! ### blocks and small statements -/
section
variable {X : Cx} {st : Stmt} {rest : List Stmt} {t u : TS} {e : Expr} {te : TE} {pos : Pos}
def tNext : TS := fun D σ H => D.nx σ H
def tSeq (t u : TS) : TS := fun D σ H => t { D with nx := u D } σ H
theorem pss_nil : PSs X [] tNext := fun _ _ σ H _ I h => wpAny_execs_nil ⟨σ, H, I, h⟩
theorem pss_cons (h1 : PS X st t) (h2 : PSs X rest u) : PSs X (st :: rest) (tSeq t u) := by
  intro pins s σ H D I h
  refine wpAny_execs_cons (thn (h1 pins s σ H { D with nx := u D } I h) fun f s1 q => ?_)
  cases f with
  | next =>
    obtain ⟨σ', H', I', q⟩ := q
    exact h2 pins s1 σ' H' D I' q
  | ret v => exact q
  | brk => exact q
  | cont => exact q
theorem pss_one (h1 : PS X st t) : PSs X [st] t := by
  intro pins s σ H D I h
  refine wpAny_execs_cons (thn (h1 pins s σ H D I h) fun f s1 q => ?_)
  cases f with
  | next => exact wpAny_execs_nil q
  | ret v => exact q
  | brk => exact q
  | cont => exact q
/-- in a def's body nothing is shown -/
theorem Inv.quiet {pins : List (Addr × Obj)} {σ : St} {H : Hp} {s : Shared} (I : Inv X pins σ H s) : interactive X.env = false := by simp [interactive, I.ok.kind]
/-- an expression whose value is dropped -/
def tDrop (te : TE) : TS := fun D σ H => te σ H fun _ H1 => D.nx σ H1
theorem ps_expr (he : PE X e te) (hs : swapsWith e none pos.line X.env = pure false := by rfl) : PS X (.Expr e pos) (tDrop te) := by
  intro pins s σ H D I h
  exact wpAny_Expr_any (thn (he pins s σ H _ I h) fun v s1 ⟨x, H1, I1, r1, q1⟩ => ⟨σ, H1, I1, q1⟩) I.quiet hs
def tRet (te : TE) : TS := fun D σ H => te σ H D.rt
theorem ps_ret (he : PE X e te) : PS X (.Return (some e) pos) (tRet te) := by
  intro pins s σ H D I h
  exact wpAny_Return_some (thn (he pins s σ H _ I h) fun v s1 ⟨x, H1, I1, r1, q1⟩ => ⟨x, σ, H1, I1, r1, q1⟩)
def tIfS (c : TT) (t u : TS) : TS := fun D σ H => c σ H fun b H1 => if b = true then t D σ H1 else u D σ H1
theorem ps_if {c : Expr} {a b : List Stmt} {tc : TT} (hc : PT X c tc) (ha : PSs X a t) (hb : PSs X b u) : PS X (.If c a b pos) (tIfS tc t u) := by
  intro pins s σ H D I h
  refine wpAny_If (thn (hc pins s σ H _ I h) fun d s1 ⟨H1, I1, q1⟩ => ?_)
  cases d with
  | true => exact ha pins s1 σ H1 D I1 q1
  | false => exact hb pins s1 σ H1 D I1 q1
end

/-! ### targets -/
abbrev TG := V → St → Hp → (St → Hp → Prop) → Prop
def PG (X : Cx) (target : Expr) (t : TG) : Prop :=
  ∀ (pins : List (Addr × Obj)) (s : Shared) (σ : St) (H : Hp) (v : V) (u : Value) (Q : St → Hp → Prop), Inv X pins σ H s → RelV v u → t v σ H Q →
    wpAny (model X.prog X.w) X.A (assign target X.env u) (fun _ s' => ∃ σ' H', Inv X pins σ' H' s' ∧ Q σ' H') X.xe s
section
variable {X : Cx} {pos : Pos}
def gName (i : Nat) : TG := fun v σ H Q => Q (σ.set i (some v)) H
theorem pg_name {i : Nat} {x : Str} (hN : X.N.Nodup) (hi : X.N[i]? = some x) (hx : Loc X.env.scope x) (hf : X.fn x = true ∨ X.env.scope.names.lookup x = some .local := by first | exact .inl rfl | exact .inr rfl | assumption) : PG X (.Name x pos) (gName i) := by
  intro pins s σ H v u Q I r h
  exact wpAny_assign_Name (store_ok I hN hi hx r (fun s' I' => ⟨_, H, I', h⟩) hf)
/-- target = value -/
def tAsg (te : TE) (g : TG) : TS := fun D σ H => te σ H fun x H1 => g x σ H1 D.nx
/-- name = value -/
theorem ps_set {i : Nat} {x : Str} {e : Expr} {te : TE} {pos' : Pos} (hN : X.N.Nodup) (hi : X.N[i]? = some x) (hx : Loc X.env.scope x) (he : PE X e te) (hs : swapsWith e (some (.Name x pos')) pos.line X.env = pure false := by rfl) (hf : X.fn x = true ∨ X.env.scope.names.lookup x = some .local := by first | exact .inl rfl | exact .inr rfl | assumption) :
    PS X (.Assign [.Name x pos'] e pos) (tAsg te (gName i)) := by
  intro pins s σ H D I h
  refine wpAny_Assign_Name (thn (he pins s σ H _ I h) fun v s1 ⟨y, H1, I1, r1, q1⟩ => ?_) hs
  exact store_ok I1 hN hi hx r1 (fun s2 I2 => ⟨_, H1, I2, q1⟩) hf
end

/-! ### while -/
section
variable {X : Cx} {pos : Pos}
/-- the invariant W with its measure -/
def tWhile (c : TT) (tb : TS) : TS := fun D σ H => ∃ W : Nat → St → Hp → Prop, (∃ m, W m σ H) ∧ ∀ m σ H, W m σ H →
  c σ H fun b H1 => if b = true then ∃ N : St → Hp → Prop, (∀ σ' H', N σ' H' → ∃ m', m' < m ∧ W m' σ' H') ∧ tb { D with nx := N, ct := N, bk := D.nx } σ H1 else D.nx σ H1
theorem ps_while {c : Expr} {body : List Stmt} {tc : TT} {tb : TS} (hp : PassesOwn (model X.prog X.w) X.A X.env X.xe) (hc : PT X c tc) (hb : PSs X body tb) : PS X (.While c body [] pos) (tWhile tc tb) := by
  intro pins s σ H D I h
  obtain ⟨W, ⟨m0, w0⟩, turn⟩ := h
  refine wpAny_While (codeAny_whileLoop (fun n s' => ∃ σ' H', Inv X pins σ' H' s' ∧ W n σ' H') ?_ m0 ⟨σ, H, I, w0⟩)
  rintro n s1 ⟨σ1, H1, I1, w1⟩
  refine wpAny_passesOwn hp (thn (hc pins s1 σ1 H1 _ I1 (turn n σ1 H1 w1)) fun b s2 ⟨H2, I2, q2⟩ => ?_)
  cases b with
  | true =>
    obtain ⟨N, hN, q2⟩ := q2
    rw [if_pos rfl]
    refine wpAny_passesOwn hp (thn (hb pins s2 σ1 H2 _ I2 q2) fun f s3 q3 => ?_)
    cases f with
    | next =>
      obtain ⟨σ3, H3, I3, n3⟩ := q3
      obtain ⟨m', hm, w3⟩ := hN σ3 H3 n3
      exact ⟨m', hm, σ3, H3, I3, w3⟩
    | cont =>
      obtain ⟨σ3, H3, I3, n3⟩ := q3
      obtain ⟨m', hm, w3⟩ := hN σ3 H3 n3
      exact ⟨m', hm, σ3, H3, I3, w3⟩
    | brk => exact q3
    | ret v => exact q3
  | false =>
    rw [if_neg Bool.false_ne_true]
    exact wpAny_execs_nil ⟨σ1, H2, I2, q2⟩
end

/-! ### what a loop or a comprehension walks -/
/-- at turn i: it yields x (the heap may grow), or it stops -/
structure It where
  go : Nat → Hp → Prop
  yld : Nat → Hp → V → Hp → Prop
  stop : Nat → Hp → Prop
/-- the iterator's own objects may turn: they are not the frame's, not pinned, younger than the entry (or a comprehension's own) -/
def FpOk (X : Cx) (pins : List (Addr × Obj)) (H : Hp) (b : Addr) : Prop :=
  H b = none ∧ b ≠ X.env.locals ∧ b ∉ X.fs ∧ (b ∈ X.ex ∨ X.s_0.heap.objs.size ≤ b) ∧ (∀ x c, X.env.cells.lookup x = some c → c ≠ b) ∧ ∀ p ∈ X.pn ++ pins, p.1 ≠ b
theorem Inv.fpOk {X : Cx} {pins : List (Addr × Obj)} {σ : St} {H H' : Hp} {s : Shared} {b : Addr} (I : Inv X pins σ H s) (hb : s.heap.objs.size ≤ b) (hn : H' b = none) : FpOk X pins H' b := by
  refine ⟨hn, Nat.ne_of_gt (Nat.lt_of_lt_of_le I.lt hb), I.nofs hb, .inr (Nat.le_trans I.sz hb), fun x c e z => ?_, fun p hp z => ?_⟩
  · obtain ⟨v, q⟩ := I.cell x c e
    exact absurd (Nat.lt_of_lt_of_le q.lt (by rw [z]; exact hb)) (Nat.lt_irrefl _)
  · exact absurd (Nat.lt_of_lt_of_le (Heap.lt_size (I.pin p hp).1) (by rw [z]; exact hb)) (Nat.lt_irrefl _)
structure Turn (P : Program) (w : World) (K : PySem.W.Frag) (tg : Expr) (J : It) (fp : List Addr) (it : Addr) (tn : Nat → Heap → Prop) : Prop where
  mem : it ∈ fp
  obj : ∀ i h, tn i h → ∀ b ∈ fp, ∃ o, h.get? b = some o ∧ ∀ v, o.data ≠ .cell v
  keep : ∀ i h h', tn i h → (∀ b ∈ fp, ∀ o, h.get? b = some o → h'.get? b = some o) → tn i h'
  item : ∀ (X : Cx), X.prog = P → X.w = w → X.K = K → X.calm = true → ∀ (i : Nat) (pins : List (Addr × Obj)) (s : Shared) (σ : St) (H : Hp) (E : Value → Shared → Prop), Inv X pins σ H s → (∀ b ∈ fp, FpOk X pins H b) → tn i s.heap → J.go i H →
    wpAny (model P w) X.A (pyNext (.ref it)) (fun r s1 => ∃ u, r = some u ∧
      wpAny (model P w) X.A (letOwnedTupleGo tg (.ref it) u) (fun _ s2 => ∃ x H', Inv X pins σ H' s2 ∧ RelV x u ∧ J.yld i H x H' ∧ tn (i + 1) s2.heap ∧ ∀ b ∈ fp, H' b = none) E s1) E s
  done : ∀ (X : Cx), X.prog = P → X.w = w → X.K = K → X.calm = true → ∀ (i : Nat) (pins : List (Addr × Obj)) (s : Shared) (σ : St) (H : Hp) (E : Value → Shared → Prop), Inv X pins σ H s → (∀ b ∈ fp, FpOk X pins H b) → tn i s.heap → J.stop i H →
    wpAny (model P w) X.A (pyNext (.ref it)) (fun r s1 => r = none ∧ Inv X pins σ H s1) E s
  self : ∀ (A : Around) (i : Nat) (s : Shared) (Q : Value → Shared → Prop) (E : Value → Shared → Prop), tn i s.heap → Q (.ref it) s → wpAny (model P w) A (pyIter (.ref it)) Q E s
abbrev TI := St → Hp → (It → Hp → Prop) → Prop
/-- an iterator has come -/
def PIE (X : Cx) (pins : List (Addr × Obj)) (σ : St) (tg : Expr) (R : It → Hp → Prop) (itv : Value) (s2 : Shared) : Prop :=
  ∃ (it : Addr) (fp : List Addr) (tn : Nat → Heap → Prop) (J : It) (H' : Hp), itv = .ref it ∧ Inv X pins σ H' s2 ∧ Turn X.prog X.w X.K tg J fp it tn ∧ tn 0 s2.heap ∧ (∀ b ∈ fp, FpOk X pins H' b) ∧ R J H'
def PI (X : Cx) (tg iter : Expr) (wi : TI) : Prop :=
  ∀ (pins : List (Addr × Obj)) (s : Shared) (σ : St) (H : Hp) (R : It → Hp → Prop), Inv X pins σ H s → wi σ H R →
    wpAny (model X.prog X.w) X.A (eval iter X.env) (fun v s1 => wpAny (model X.prog X.w) X.A (pyIter v) (PIE X pins σ tg R) X.xe s1) X.xe s

/-- the step ahead of the store is nothing for an iterator that keeps no tuple -/
theorem go_of {M : Model} {A : Around} {E : Value → Shared → Prop} {s : Shared} {tg : Expr} {it : Addr} {u : Value} {o : Obj} {n : String} {vs : Array Value} {Q : Unit → Shared → Prop} (ho : s.heap.get? it = some o) (hc : o.cls = .type n) (hd : o.data = .fields vs)
    (hn : ["enumerate", "zip", "dict_itemiterator", "dict_reverseitemiterator", "odict_iterator", "itertools.zip_longest", "itertools.pairwise"].contains n = false) (hQ : Q () s) : wpAny M A (letOwnedTupleGo tg (.ref it) u) Q E s := by
  unfold letOwnedTupleGo
  cases tg <;> first
    | exact wpAny_pure hQ
    | (cases u <;> first
        | exact wpAny_pure hQ
        | (refine wpAny_bind (wpAny_load ho ?_)
           rw [hc, hd]
           show wpAny M A (if (["enumerate", "zip", "dict_itemiterator", "dict_reverseitemiterator", "odict_iterator", "itertools.zip_longest", "itertools.pairwise"].contains n && vs[0]? == some (rawInt _)) = true then _ else _) Q E s
           rw [if_neg (by intro h; rw [hn, Bool.false_and] at h; cases h)]
           exact wpAny_pure hQ))

/-- lo, lo + 1, .. (n of them) -/
def Itr (lo : Int) (n : Nat) : It := ⟨fun i _ => i < n, fun i H x H' => H' = H ∧ x = .int (lo + i), fun i _ => n ≤ i⟩
theorem turn_range {P : Program} {w : World} {K : PySem.W.Frag} {tg : Expr} (it : Addr) (lo : Int) (n : Nat) : Turn P w K tg (Itr lo n) [it] it (fun i h => IsRangeIter h it (lo + (i : Nat) * 1) ((n : Int) - (i : Nat)) 1) where
  mem := by simp
  obj := fun i h st b hb => by
    have e : b = it := by simpa using hb
    subst e
    exact ⟨_, st, fun v z => by
      have z' : Data.fields _ = Data.cell v := z
      cases z'⟩
  keep := fun i h h' st k => k it (by simp) _ st
  item := by
    intro X hP hw hK hc i pins s σ H E I hf st hg
    subst hP hw hK
    obtain ⟨f0, f1, f2, f3, f4, f5⟩ := hf it (by simp)
    have W := Walks.range (prog := X.prog) (w := X.w) (I.ok.hd hc) it lo 1 n
    refine W.item i s _ _ hg st fun v h' tk hv st' kk => ?_
    obtain ⟨t, rfl⟩ := hv
    have I1 : Inv X pins σ H { s with heap := h', toks := tk } := I.turned (fun b o hb e => kk b o (by simpa using hb) e) f0 f1 f3 f4 f5
    refine ⟨_, rfl, go_of (s := { s with heap := h', toks := tk }) (n := "range_iterator") st' rfl rfl (by decide) ⟨.int (lo + i), H, I1, ⟨t, ?_⟩, ⟨rfl, rfl⟩, st', fun b hb => (hf b hb).1⟩⟩
    rw [Int.mul_one]
  done := by
    intro X hP hw hK hc i pins s σ H E I hf st hg
    subst hP hw hK
    obtain ⟨f0, f1, f2, f3, f4, f5⟩ := hf it (by simp)
    exact wpAny_pyNext_range_end (I.ok.hd hc) st (by have : n ≤ i := hg; omega) fun h' eb => ⟨rfl, I.turned (t' := s.toks) (fun b o hb e => eb b o hb e) f0 f1 f3 f4 f5⟩
  self := fun _ _ _ _ _ st h => wpAny_pyIter_rangeiter st h
end L2

namespace L2
open PySem PySem.Spec PyProof.Rows
section
variable {X : Cx} {tg : Expr}
/-- a range object just made, walked -/
theorem range_it {pins : List (Addr × Obj)} {σ : St} {H : Hp} {s : Shared} {R : It → Hp → Prop} {E : Value → Shared → Prop} {lo hi : Int} {t u v : Tok} {tk : Nat} (I : Inv X pins σ H s) (h1 : -(2 ^ 62) ≤ lo) (h2 : lo < 2 ^ 62) (h3 : -(2 ^ 62) ≤ hi) (h4 : hi < 2 ^ 62)
    (q : R (Itr lo (hi - lo).toNat) H) : wpAny (model X.prog X.w) X.A (pyIter (.ref s.heap.objs.size)) (PIE X pins σ tg R) E { s with heap := s.heap.push { cls := .type "range", data := .fields #[.int lo t, .int hi u, .int 1 v] }, toks := tk } := by
  refine wpAny_pyIter_range (IsRange.new ..) (small_one h1 h2 h3 h4) ?_
  have I1 : Inv X pins σ H { s with heap := s.heap.push { cls := .type "range", data := .fields #[.int lo t, .int hi u, .int 1 v] }, toks := tk } := I.kept fun b o e => Heap.get?_push_of_some _ e
  refine ⟨(s.heap.push { cls := .type "range", data := .fields #[.int lo t, .int hi u, .int 1 v] }).objs.size, [(s.heap.push { cls := .type "range", data := .fields #[.int lo t, .int hi u, .int 1 v] }).objs.size], _, _, H, rfl,
    I1.kept (t' := tk) fun b o e => Heap.get?_push_of_some _ e, turn_range _ lo (hi - lo).toNat, ?_, fun b hb => ?_, q⟩
  · have e1 : lo + ((0 : Nat) : Int) * 1 = lo := by simp
    have e2 : (((hi - lo).toNat : Nat) : Int) - ((0 : Nat) : Int) = Builtin.Range.rangeSize lo hi 1 := by rw [rangeSize_one]; split <;> omega
    show IsRangeIter _ _ (lo + ((0 : Nat) : Int) * 1) ((((hi - lo).toNat : Nat) : Int) - ((0 : Nat) : Int)) 1
    rw [e1, e2]
    exact Heap.get?_push_size _ rfl
  · have e : b = (s.heap.push { cls := .type "range", data := .fields #[.int lo t, .int hi u, .int 1 v] }).objs.size := by simpa using hb
    subst e
    exact I1.fpOk (Nat.le_refl _) (I1.hok.fresh (Nat.le_refl _))
def iRng1 (ta : TA) : TI := fun σ H R => ta σ H fun vs H1 => ∃ j : Int, vs = [.int j] ∧ -(2 ^ 62) ≤ j ∧ j < 2 ^ 62 ∧ R (Itr 0 j.toNat) H1
theorem pi_range1 {a : Expr} {ta : TA} {p pos : Pos} (hg : Gl X "range") (hm : X.mg "range" = none) (ha : PA X [a] ta) (hs : starEach [a] X.env = [(false, eval a X.env)] := by rfl) : PI X tg (.Call (.Name "range" p) [a] [] pos) (iRng1 ta) := by
  intro pins s σ H R I h
  refine Call_ (ld_blt I hg hm boot_range (PyProof.Rows.callWith_type1 (thn (ha pos pins s σ H _ I h) fun us s1 ⟨vs, H1, I1, r1, q1⟩ => ?_) hs rfl))
  obtain ⟨j, e, q1, q2, q⟩ := q1
  subst e
  cases r1 with
  | cons r rr =>
    cases rr
    obtain ⟨t, rfl⟩ := r
    exact call_range_1 (range_it I1 (by omega) (by omega) q1 q2 (by simpa using q))

/-! ### for -/
/-- W: the invariant by the turn and a measure; N: what the body is to reach -/
def tFor (wi : TI) (g : TG) (tb : TS) : TS := fun D σ H => wi σ H fun J H1 => ∃ W : Nat → Nat → St → Hp → Prop, (∃ m, W 0 m σ H1) ∧ ∀ i m σ H, W i m σ H →
  (J.stop i H ∧ D.nx σ H) ∨ (J.go i H ∧ ∃ N : St → Hp → Prop, (∀ σ' H', N σ' H' → ∃ m', m' < m ∧ W (i + 1) m' σ' H') ∧ ∀ x H', J.yld i H x H' → g x σ H' fun σ2 H2 => tb { D with nx := N, ct := N, bk := D.nx } σ2 H2)
/-- the records at fp as they stand -/
def pinsAt (fp : List Addr) (h : Heap) : List (Addr × Obj) := fp.filterMap fun b => (h.get? b).map fun o => (b, o)
theorem mem_pinsAt {fp : List Addr} {h : Heap} {b : Addr} {o : Obj} (hb : b ∈ fp) (e : h.get? b = some o) : (b, o) ∈ pinsAt fp h := List.mem_filterMap.mpr ⟨b, hb, by rw [e]; rfl⟩
theorem of_pinsAt {fp : List Addr} {h : Heap} {p : Addr × Obj} (hp : p ∈ pinsAt fp h) : p.1 ∈ fp ∧ h.get? p.1 = some p.2 := by
  obtain ⟨b, hb, e⟩ := List.mem_filterMap.mp hp
  cases q : h.get? b with
  | none => rw [q] at e; cases e
  | some o =>
    rw [q] at e
    have e' : (b, o) = p := Option.some.inj e
    subst e'
    exact ⟨hb, q⟩
theorem Inv.pinned {pins : List (Addr × Obj)} {σ : St} {H : Hp} {s : Shared} {fp : List Addr} (I : Inv X pins σ H s) (hf : ∀ b ∈ fp, FpOk X pins H b) (ho : ∀ b ∈ fp, ∃ o, s.heap.get? b = some o ∧ ∀ v, o.data ≠ .cell v) : Inv X (pins ++ pinsAt fp s.heap) σ H s :=
  I.pins_of fun p hp => (List.mem_append.mp hp).elim (fun z => I.pin p (List.mem_append_right _ z)) fun z => by
    obtain ⟨hb, e⟩ := of_pinsAt z
    obtain ⟨f0, f1, f2, _⟩ := hf p.1 hb
    obtain ⟨o, e', d⟩ := ho p.1 hb
    rw [e] at e'; cases e'
    exact ⟨e, f0, f1, f2, d⟩
theorem Inv.unpinned {pins pl : List (Addr × Obj)} {σ : St} {H : Hp} {s : Shared} (I : Inv X (pins ++ pl) σ H s) : Inv X pins σ H s := I.pins_of fun p hp => I.pin p (List.mem_append_right _ (List.mem_append_left _ hp))
theorem ps_for {iter : Expr} {body : List Stmt} {wi : TI} {g : TG} {tb : TS} {pos : Pos} (hp : PassesOwn (model X.prog X.w) X.A X.env X.xe) (hc : X.calm = true) (hi : PI X tg iter wi) (hg : PG X tg g) (hb : PSs X body tb)
    (hs : ∀ x, foldedSetIterable iter X.env x = pure x := by intro _; rfl) : PS X (.For tg iter body [] pos) (tFor wi g tb) := by
  intro pins s σ H D I h
  refine wpAny_For (thn (hi pins s σ H _ I h) fun v s1 h1 => thn h1 fun itv s2 h2 => ?_) hs
  obtain ⟨it, fp, tn, J, H2, e, I2, T, st2, f2, W, ⟨m0, w0⟩, turn⟩ := h2
  subst e
  -- what stays true of the iterator's objects through the loop
  have stat : ∀ {H' : Hp}, (∀ b ∈ fp, H' b = none) → ∀ b ∈ fp, FpOk X pins H' b := fun hn b hb => ⟨hn b hb, (f2 b hb).2⟩
  refine codeAny_forLoop_any (fun n s' => ∃ i σ' H', Inv X pins σ' H' s' ∧ tn i s'.heap ∧ (∀ b ∈ fp, H' b = none) ∧ W i n σ' H') ?_ m0 ⟨0, σ, H2, I2, st2, fun b hb => (f2 b hb).1, w0⟩
  rintro n s3 ⟨i, σ3, H3, I3, st3, fr3, w3⟩
  rcases turn i n σ3 H3 w3 with ⟨stop, qn⟩ | ⟨go, N, hN, step⟩
  · refine wpAny_passesOwn hp (thn (T.done X rfl rfl rfl hc i pins s3 σ3 H3 X.xe I3 (stat fr3) st3 stop) fun r s4 ⟨hr, I4⟩ => ?_)
    subst hr
    exact wpAny_execs_nil ⟨σ3, H3, I4, qn⟩
  · refine wpAny_passesOwn hp (thn (T.item X rfl rfl rfl hc i pins s3 σ3 H3 X.xe I3 (stat fr3) st3 go) fun r s4 ⟨u, hr, h4⟩ => ?_)
    subst hr
    refine wpAny_passesOwn hp (thn h4 fun _ s5 ⟨x, H5, I5, r5, y5, st5, fr5⟩ => ?_)
    have I5' := I5.pinned (stat fr5) (T.obj _ _ st5)
    refine wpAny_passesOwn hp (thn (hg _ s5 σ3 H5 x u _ I5' r5 (step x H5 y5)) fun _ s6 ⟨σ6, H6, I6, q6⟩ => ?_)
    refine wpAny_passesOwn hp (thn (hb _ s6 σ6 H6 _ I6 q6) fun f s7 q7 => ?_)
    have again : ∀ {σ7 : St} {H7 : Hp}, Inv X (pins ++ pinsAt fp s5.heap) σ7 H7 s7 → N σ7 H7 → ∃ m, m < n ∧ ∃ i σ' H', Inv X pins σ' H' s7 ∧ tn i s7.heap ∧ (∀ b ∈ fp, H' b = none) ∧ W i m σ' H' := fun {σ7 H7} I7 n7 => by
      obtain ⟨m', hm, w7⟩ := hN σ7 H7 n7
      refine ⟨m', hm, i + 1, σ7, H7, I7.unpinned, T.keep _ _ _ st5 fun b hb o e => (I7.pin (b, o) (List.mem_append_right _ (List.mem_append_right _ (mem_pinsAt hb e)))).1, fun b hb => ?_, w7⟩
      obtain ⟨o, e, d⟩ := T.obj _ _ st5 b hb
      exact (I7.pin (b, o) (List.mem_append_right _ (List.mem_append_right _ (mem_pinsAt hb e)))).2.1
    cases f with
    | next => obtain ⟨σ7, H7, I7, n7⟩ := q7; exact again I7 n7
    | cont => obtain ⟨σ7, H7, I7, n7⟩ := q7; exact again I7 n7
    | brk => obtain ⟨σ7, H7, I7, q7⟩ := q7; exact ⟨σ7, H7, I7.unpinned, q7⟩
    | ret v => obtain ⟨x7, σ7, H7, I7, r7, q7⟩ := q7; exact ⟨x7, σ7, H7, I7.unpinned, r7, q7⟩
end

/-! ### the forms one uses -/
theorem for_range {lo : Int} {n : Nat} {g : TG} {tb : TS} {D : Ends} {σ : St} {H : Hp} (Pv : Nat → St → Hp → Prop) (h0 : Pv 0 σ H)
    (hs : ∀ i σ H, i < n → Pv i σ H → g (.int (lo + i)) σ H fun σ2 H2 => tb { D with nx := Pv (i + 1), ct := Pv (i + 1), bk := D.nx } σ2 H2) (hd : ∀ σ H, Pv n σ H → D.nx σ H) :
    ∃ W : Nat → Nat → St → Hp → Prop, (∃ m, W 0 m σ H) ∧ ∀ i m σ H, W i m σ H →
      ((Itr lo n).stop i H ∧ D.nx σ H) ∨ ((Itr lo n).go i H ∧ ∃ N : St → Hp → Prop, (∀ σ' H', N σ' H' → ∃ m', m' < m ∧ W (i + 1) m' σ' H') ∧ ∀ x H', (Itr lo n).yld i H x H' → g x σ H' fun σ2 H2 => tb { D with nx := N, ct := N, bk := D.nx } σ2 H2) := by
  refine ⟨fun i m σ H => m = n - i ∧ i ≤ n ∧ Pv i σ H, ⟨n, by simp, Nat.zero_le _, h0⟩, ?_⟩
  rintro i m σ H ⟨rfl, hi, p⟩
  by_cases hlt : i < n
  · refine .inr ⟨hlt, Pv (i + 1), fun σ' H' p' => ⟨n - (i + 1), by omega, rfl, hlt, p'⟩, fun x H' y => ?_⟩
    obtain ⟨e, y⟩ := y
    subst e y
    exact hs i σ _ hlt p
  · have e : i = n := by omega
    subst e
    exact .inl ⟨Nat.le_refl _, hd σ H p⟩
/-- while, by a word and a measure of the state -/
theorem while_by {c : TT} {tb : TS} {D : Ends} {σ : St} {H : Hp} (Pv : St → Hp → Prop) (μ : St → Hp → Nat) (h0 : Pv σ H)
    (hs : ∀ σ H, Pv σ H → c σ H fun b H1 => if b = true then tb { D with nx := fun σ' H' => Pv σ' H' ∧ μ σ' H' < μ σ H, ct := fun σ' H' => Pv σ' H' ∧ μ σ' H' < μ σ H, bk := D.nx } σ H1 else D.nx σ H1)
    (mono : ∀ σ H Q Q', (∀ b H1, Q b H1 → Q' b H1) → c σ H Q → c σ H Q') : tWhile c tb D σ H := by
  refine ⟨fun m σ H => m = μ σ H ∧ Pv σ H, ⟨_, rfl, h0⟩, ?_⟩
  rintro m σ H ⟨rfl, p⟩
  refine mono σ H _ _ (fun b H1 q => ?_) (hs σ H p)
  cases b with
  | true => exact ⟨_, fun σ' H' ⟨p', l⟩ => ⟨_, l, rfl, p'⟩, q⟩
  | false => exact q
end L2

namespace L2
open PySem PySem.Spec PyProof.Rows

abbrev R2 := V → V → Hp → VK → Prop
/-- a two-place operation on values: f is binaryOp op, inplaceOp op or compareOp op -/
def OpR (X : Cx) (f : Value → Value → Sem Value) (r : R2) : Prop :=
  ∀ (pins : List (Addr × Obj)) (s : Shared) (σ : St) (H : Hp) (x y : V) (v u : Value) (Q : VK), Inv X pins σ H s → RelV x v → RelV y u → r x y H Q →
    wpAny (model X.prog X.w) X.A (f v u) (EP X pins σ Q) X.xe s
/-- a call of a value that is known (a builtin, a type) with values -/
def CallR (X : Cx) (f : Value) (r : List V → Hp → VK → Prop) : Prop :=
  ∀ (pins : List (Addr × Obj)) (s : Shared) (σ : St) (H : Hp) (xs : List V) (us : List Value) (Q : VK), Inv X pins σ H s → Vals xs us → r xs H Q →
    wpAny (model X.prog X.w) X.A (call f us) (EP X pins σ Q) X.xe s

def tOp (r : R2) (ta tb : TE) : TE := fun σ H Q => ta σ H fun x H1 => tb σ H1 fun y H2 => r x y H2 Q
/-- ints in, under C, and a value out -/
def rI (C : Int → Int → Prop) (g : Int → Int → V) : R2 := fun x y H Q => ∃ i j, x = .int i ∧ y = .int j ∧ C i j ∧ Q (g i j) H
def rI0 (g : Int → Int → V) : R2 := fun x y H Q => ∃ i j, x = .int i ∧ y = .int j ∧ Q (g i j) H

section
variable {X : Cx} {a b c : Expr} {ta tb tc : TE} {pos : Pos}

theorem binT (ha : PE X a ta) (hb : PE X b tb) {pins : List (Addr × Obj)} {s : Shared} {σ : St} {H : Hp} {R : V → V → Hp → Prop} (I : Inv X pins σ H s)
    (h : ta σ H fun x H1 => tb σ H1 fun y H2 => R x y H2) {Q : Value → Shared → Prop} {f : Value → Value → Sem Value}
    (hf : ∀ v u s2 x y H2, Inv X pins σ H2 s2 → RelV x v → RelV y u → R x y H2 → wpAny (model X.prog X.w) X.A (f v u) Q X.xe s2) :
    wpAny (model X.prog X.w) X.A (eval a X.env) (fun v s₁ => wpAny (model X.prog X.w) X.A (eval b X.env) (fun u s₂ => wpAny (model X.prog X.w) X.A (f v u) Q X.xe s₂) X.xe s₁) X.xe s := by
  refine thn (ha pins s σ H _ I h) fun v s1 ⟨x, H1, I1, r1, q1⟩ => ?_
  refine thn (hb pins s1 σ H1 _ I1 q1) fun u s2 ⟨y, H2, I2, r2, q2⟩ => ?_
  exact hf v u s2 x y H2 I2 r1 r2 q2

theorem pe_op {op : Operator} {r : R2} (ho : OpR X (binaryOp op) r) (ha : PE X a ta) (hb : PE X b tb) : PE X (.BinOp a op b pos) (tOp r ta tb) := by
  intro pins s σ H Q I h
  exact wpAny_BinOp (binT ha hb I h fun v u s2 x y H2 I2 rx ry q => ho pins s2 σ H2 x y v u Q I2 rx ry q)

/-! ### ints -/
theorem opI {f : Value → Value → Sem Value} {C : Int → Int → Prop} {g : Int → Int → Int}
    (rule : ∀ (i j : Int) (t u : Tok) (s : Shared) (Q : Value → Shared → Prop) (E : Value → Shared → Prop), C i j → Q (.int (g i j) s.toks) { s with toks := s.toks + 1 } → wpAny (model X.prog X.w) X.A (f (.int i t) (.int j u)) Q E s) :
    OpR X f (rI C fun i j => .int (g i j)) := by
  intro pins s σ H x y v u Q I rx ry h
  obtain ⟨i, j, rfl, rfl, hc, q⟩ := h
  obtain ⟨t, rfl⟩ := rx
  obtain ⟨t', rfl⟩ := ry
  exact rule i j t t' s _ _ hc ⟨.int (g i j), H, I.tok _, ⟨_, rfl⟩, q⟩
theorem opI0 {f : Value → Value → Sem Value} {g : Int → Int → Int}
    (rule : ∀ (i j : Int) (t u : Tok) (s : Shared) (Q : Value → Shared → Prop) (E : Value → Shared → Prop), Q (.int (g i j) s.toks) { s with toks := s.toks + 1 } → wpAny (model X.prog X.w) X.A (f (.int i t) (.int j u)) Q E s) :
    OpR X f (rI0 fun i j => .int (g i j)) := by
  intro pins s σ H x y v u Q I rx ry h
  obtain ⟨i, j, rfl, rfl, q⟩ := h
  obtain ⟨t, rfl⟩ := rx
  obtain ⟨t', rfl⟩ := ry
  exact rule i j t t' s _ _ ⟨.int (g i j), H, I.tok _, ⟨_, rfl⟩, q⟩
theorem opB0 {f : Value → Value → Sem Value} {g : Int → Int → Bool}
    (rule : ∀ (i j : Int) (t u : Tok) (s : Shared) (Q : Value → Shared → Prop) (E : Value → Shared → Prop), Q (.bool (g i j)) s → wpAny (model X.prog X.w) X.A (f (.int i t) (.int j u)) Q E s) :
    OpR X f (rI0 fun i j => .bl (g i j)) := by
  intro pins s σ H x y v u Q I rx ry h
  obtain ⟨i, j, rfl, rfl, q⟩ := h
  obtain ⟨t, rfl⟩ := rx
  obtain ⟨t', rfl⟩ := ry
  exact rule i j t t' s _ _ ⟨.bl (g i j), H, I, rfl, q⟩

def CDiv (i j : Int) : Prop := 0 < j ∧ j < 1073741824
def CMul (i j : Int) : Prop := (-(2 ^ 64) < i ∧ i < 2 ^ 64) ∨ (-(2 ^ 64) < j ∧ j < 2 ^ 64)
theorem CMul.ok {i j : Int} (h : CMul i j) : IntMulOk i j := by
  rcases h with ⟨h1, h2⟩ | ⟨h1, h2⟩
  · exact .of_left (intBits_le_64 h1 h2)
  · exact .of_right (intBits_le_64 h1 h2)

theorem op_add : OpR X (binaryOp .Add) (rI0 fun i j => .int (i + j)) := opI0 fun _ _ _ _ _ _ _ q => add_int q
theorem op_sub : OpR X (binaryOp .Sub) (rI0 fun i j => .int (i - j)) := opI0 fun _ _ _ _ _ _ _ q => sub_int q
theorem op_mul : OpR X (binaryOp .Mult) (rI CMul fun i j => .int (i * j)) := opI fun _ _ _ _ _ _ _ hc q => mul_int q hc.ok
/-- // by a positive divisor -/
theorem op_fdiv : OpR X (binaryOp .FloorDiv) (rI CDiv fun i j => .int (i / j)) := opI fun i j _ _ _ _ _ hc q => by
  have h1 : (0 : Int) < j := hc.1
  have h2 : j < 1073741824 := hc.2
  exact floordiv_int (by omega) (by rw [Int.fdiv_eq_ediv_of_nonneg i (by omega)]; exact q) (.inl (PyProof.noPylong_small (by omega)))
/-- % by a positive divisor of any size -/
theorem op_mod : OpR X (binaryOp .Mod) (rI (fun _ j => 0 < j) fun i j => .int (i % j)) := opI fun i j _ _ _ _ _ hc q => by
  have h1 : (0 : Int) < j := hc
  exact mod_int' (by omega) (by rw [Int.fmod_eq_emod_of_nonneg i (by omega)]; exact q)



/-! ### bools among ints: n += (a < b) -/
end

/-! ### comparisons -/
/-- the scalars that == tells apart as data does -/
def scal : V → V → Bool
  | .non, .non => true | .non, .int _ => true | .int _, .non => true | .non, .bl _ => true | .bl _, .non => true | .non, .str _ => true | .str _, .non => true
  | .int _, .int _ => true | .bl _, .bl _ => true | .str _, .str _ => true | .byt _, .byt _ => true
  | .int _, .str _ => true | .str _, .int _ => true | .bl _, .str _ => true | .str _, .bl _ => true
  | _, _ => false
def rEq : R2 := fun x y H Q => scal x y = true ∧ Q (.bl (decide (x = y))) H

theorem dec_int {i j : Int} : decide (V.int i = V.int j) = (i == j) := by
  rw [Bool.eq_iff_iff]
  simp
theorem dec_bl {i j : Bool} : decide (V.bl i = V.bl j) = (i == j) := by
  rw [Bool.eq_iff_iff]
  simp
theorem dec_str {i j : Str} : decide (V.str i = V.str j) = (i == j) := by
  rw [Bool.eq_iff_iff]
  simp
theorem dec_byt {i j : Array UInt8} : decide (V.byt i = V.byt j) = (i.toList == j.toList) := by
  rw [Bool.eq_iff_iff]
  cases i
  cases j
  simp

section
variable {X : Cx} {a b c : Expr} {ta tb tc : TE} {pos : Pos}
theorem fin_bl {pins : List (Addr × Obj)} {σ : St} {H : Hp} {s : Shared} {Q : VK} {k k' : Bool} (I : Inv X pins σ H s) (q : Q (.bl k) H) (e : k = k') : EP X pins σ Q (.bool k') s := by
  subst e
  exact ⟨.bl k, H, I, rfl, q⟩
theorem op_eq : OpR X (compareOp .Eq) rEq := by
  intro pins s σ H x y v u Q I rx ry h
  obtain ⟨hs, q⟩ := h
  cases x with
  | non =>
    cases rx
    cases y with
    | non => cases ry; exact PySem.EqNone.eq_none_none (fin_bl I q (by simp))
    | bl j => cases ry; exact PySem.EqNone.eq_none_bool (fin_bl I q (by simp))
    | int j => obtain ⟨t', rfl⟩ := ry; exact PySem.EqNone.eq_none_int (fin_bl I q (by simp))
    | str j => obtain ⟨t', rfl⟩ := ry; exact PySem.EqNone.eq_none_str (fin_bl I q (by simp))
    | _ => exact absurd (show false = true from hs) Bool.false_ne_true
  | bl i =>
    cases rx
    cases y with
    | non => cases ry; exact PySem.EqNone.eq_bool_none (fin_bl I q (by simp))
    | bl j => cases ry; exact eq_bool (fin_bl I q dec_bl)
    | str j => obtain ⟨t', rfl⟩ := ry; exact PySem.EqMixed.eq_bool_str (fin_bl I q (by simp))
    | _ => exact absurd (show false = true from hs) Bool.false_ne_true
  | int i =>
    obtain ⟨t, rfl⟩ := rx
    cases y with
    | non => cases ry; exact PySem.EqNone.eq_int_none (fin_bl I q (by simp))
    | int j => obtain ⟨t', rfl⟩ := ry; exact eq_int (fin_bl I q dec_int)
    | str j => obtain ⟨t', rfl⟩ := ry; exact PySem.EqMixed.eq_int_str (fin_bl I q (by simp))
    | _ => exact absurd (show false = true from hs) Bool.false_ne_true
  | str i =>
    obtain ⟨t, rfl⟩ := rx
    cases y with
    | non => cases ry; exact PySem.EqNone.eq_str_none (fin_bl I q (by simp))
    | bl j => cases ry; exact PySem.EqMixed.eq_str_bool (fin_bl I q (by simp))
    | int j => obtain ⟨t', rfl⟩ := ry; exact PySem.EqMixed.eq_str_int (fin_bl I q (by simp))
    | str j => obtain ⟨t', rfl⟩ := ry; exact eq_str (fin_bl I q dec_str)
    | _ => exact absurd (show false = true from hs) Bool.false_ne_true
  | byt i =>
    obtain ⟨t, rfl⟩ := rx
    cases y with
    | byt j => obtain ⟨t', rfl⟩ := ry; exact PySem.W.eq_bytes (fin_bl I q dec_byt)
    | _ => exact absurd (show false = true from hs) Bool.false_ne_true
  | _ => cases y <;> exact absurd (show false = true from hs) Bool.false_ne_true

theorem op_lt : OpR X (compareOp .Lt) (rI0 fun i j => .bl (decide (i < j))) := opB0 fun _ _ _ _ _ _ _ q => lt_int q
theorem op_le : OpR X (compareOp .LtE) (rI0 fun i j => .bl (decide (i ≤ j))) := opB0 fun _ _ _ _ _ _ _ q => le_int q
theorem op_gt : OpR X (compareOp .Gt) (rI0 fun i j => .bl (decide (j < i))) := opB0 fun _ _ _ _ _ _ _ q => gt_int q
theorem op_ge : OpR X (compareOp .GtE) (rI0 fun i j => .bl (decide (j ≤ i))) := opB0 fun _ _ _ _ _ _ _ q => ge_int q



/-- two rules for one operation: by cases -/
theorem OpR.or {f : Value → Value → Sem Value} {r r' : R2} (h : OpR X f r) (h' : OpR X f r') : OpR X f (fun x y H Q => r x y H Q ∨ r' x y H Q) := by
  intro pins s σ H x y v u Q I rx ry q
  rcases q with q | q
  · exact h pins s σ H x y v u Q I rx ry q
  · exact h' pins s σ H x y v u Q I rx ry q

theorem nomark (b : Expr) {op : CmpOp} (h : op ≠ .In := by decide) (h2 : op ≠ .NotIn := by decide) : behindInMarks op b = false := by
  have e1 : (op == CmpOp.In) = false := by cases op <;> first | rfl | exact absurd rfl h
  have e2 : (op == CmpOp.NotIn) = false := by cases op <;> first | rfl | exact absurd rfl h2
  cases b <;> simp [behindInMarks, e1, e2]
/-- a comparison as a value; hm: nomark b, or (for in, not in) by with_unfolding_all rfl -/
theorem pe_cmpR {op : CmpOp} {r : R2} (ho : OpR X (compareOp op) r) (ha : PE X a ta) (hb : PE X b tb) (hm : behindInMarks op b = false) : PE X (.Compare a [op] [b] pos) (tOp r ta tb) := by
  intro pins s σ H Q I h
  exact wpAny_Compare1 (binT ha hb I h fun v u s2 x y H2 I2 rx ry q => ho pins s2 σ H2 x y v u Q I2 rx ry q) hm
/-- a reading of a value as a test -/
def tTest (t : TE) : TT := fun σ H Q => t σ H fun x H' => ∃ k, x = .bl k ∧ Q k H'
theorem pt_cmpR {op : CmpOp} {r : R2} (ho : OpR X (compareOp op) r) (ha : PE X a ta) (hb : PE X b tb) (hm : behindInMarks op b = false) : PT X (.Compare a [op] [b] pos) (tTest (tOp r ta tb)) := by
  intro pins s σ H Q I h
  refine wpAny_isTrue_Compare1 (thn (ha pins s σ H _ I h) fun v s1 ⟨x, H1, I1, r1, q1⟩ => thn (hb pins s1 σ H1 _ I1 q1) fun u s2 ⟨y, H2, I2, r2, q2⟩ =>
    thn (ho pins s2 σ H2 x y v u _ I2 r1 r2 q2) fun c s3 ⟨z, H3, I3, r3, k, e, q3⟩ => ?_) hm
  subst e
  cases r3
  exact wpAny_truthy_bool ⟨H3, I3, q3⟩

/-! ### truth -/
theorem line63 : (sizeLine : Nat) < 2 ^ 63 := by rw [sizeLine_eq]; decide

/-! ### strs and bytes -/


/-! ### scalar builtins, by CallR -/
theorem vals1 {x : V} {us : List Value} (r : Vals [x] us) : ∃ u, us = [u] ∧ RelV x u := by
  cases r with
  | cons r1 r2 => cases r2; exact ⟨_, rfl, r1⟩
end
end L2

namespace L2
open PySem PySem.Spec PyProof.Rows

/-! ### an instance, its attributes a map -/
structure ObjM (h : Heap) (x dx C : Addr) (mA : Str → Option Value) : Prop where
  obj : h.get? x = some (PySem.W.instObj C dx)
  ns : h.Ns1 dx mA
  ne : dx ≠ x

theorem lookIn_ns {h : Heap} {dx : Addr} {mA : Str → Option Value} (n : h.Ns1 dx mA) : ∃ od, h.get? dx = some od ∧ ∀ name, PySem.W.lookIn name od = some (mA name) := by
  obtain ⟨o, es, ep, ho, hd, hk, _, hm⟩ := n
  refine ⟨o, ho, fun name => ?_⟩
  have e := hm name
  unfold nsFind findBy at e
  rw [← Array.find?_toList] at e
  unfold PySem.W.lookIn
  rw [hd]
  dsimp only
  split
  · rename_i y q
    rw [q] at e
    exact congrArg some e
  · rename_i q
    rw [q] at e
    have a : es.toList.any (·.refKey) = false := by
      rw [List.any_eq_false]
      intro y hy
      obtain ⟨z, t, hkey⟩ := hk y (Array.mem_toList_iff.mp hy)
      simp [DictEntry.refKey, hkey]
    have a' : ¬ es.toList.any (·.refKey) = true := by rw [a]; exact Bool.false_ne_true
    rw [if_neg a']
    exact congrArg some e

theorem ObjM.look {h : Heap} {x dx C : Addr} {mA : Str → Option Value} (I : ObjM h x dx C mA) : ∃ od, PySem.W.InstAt h x (PySem.W.instObj C dx) C (some od) ∧ ∀ name, PySem.W.lookIn name od = some (mA name) :=
  let ⟨od, ho, hl⟩ := lookIn_ns I.ns
  ⟨od, ⟨I.obj, rfl, rfl, ho⟩, hl⟩

section
variable {prog : Program} {w : World} {A : Around} {E : Value → Shared → Prop} {s : Shared} {K : PySem.W.Frag} {x dx C f : Addr} {mA : Str → Option Value} {name : Str} {v : Value}

theorem get_map {expr : Bool} {Q : Value → Shared → Prop} (X : K.In s.heap) (I : ObjM s.heap x dx C mA) (hg : PySem.W.plainGet K C name = true) (hh : PySem.W.hasDictIn K C = true)
    (ha : PySem.W.findIn K (.ref C) name = some none) (hv : mA name = some v) (hv' : PySem.W.handedIn v = true) (h : Q v { s with toks := s.toks + 1 }) :
    wpAny (model prog w) A (getAttr (.ref x) name expr) Q E s := by
  obtain ⟨od, J, hl⟩ := I.look
  exact PySem.W.get_value X J (PySem.W.plainGet_of hg).1 (PySem.W.findObj_own hh ha rfl (by rw [hl, hv])) hv' h


theorem get_meth {pl : Sem Bool} {Q : Value × List Value → Shared → Prop} (X : K.In s.heap) (I : ObjM s.heap x dx C mA) (hg : PySem.W.plainGet K C name = true)
    (hf : PySem.W.findIn K (.ref C) name = some (some (.ref f))) (ht : PySem.W.isFn K (.ref f) = true) (hv : mA name = none) (h : Q (.ref f, [.ref x]) s) :
    wpAny (model prog w) A (getMethod (.ref x) name pl) Q E s := by
  obtain ⟨od, J, hl⟩ := I.look
  exact PySem.W.method_fn X J (PySem.W.plainGet_of hg).1 (PySem.W.plainGet_of hg).2 hf (beq_iff_eq.mp ht) (by show (PySem.W.lookIn name od).map (·.isSome) = some false; rw [hl, hv]; rfl) h

theorem set_map {ns : List Str} {Q : Unit → Shared → Prop} (X : K.In s.heap) (I : ObjM s.heap x dx C mA)
    (hs : PySem.W.findIn K (.ref C) "__setattr__" = some (some (.builtin "object.__setattr__"))) (hp : PySem.W.plainOver K C = true) (ht : PySem.W.takerIn K C name = some none) (hh : PySem.W.hasDictIn K C = true)
    (hw : PySem.Within mA ns) (hsz : ns.length ≤ sizeLine)
    (h : ∀ h', ObjM h' x dx C (fun y => if y = name then some v else mA y) → Heap.SameBut dx s.heap h' → Q () { s with heap := h', toks := s.toks + 2 }) :
    wpAny (model prog w) A (setAttr (.ref x) name v) Q E s := by
  obtain ⟨od, J, hl⟩ := I.look
  refine PySem.W.set_plain X J hs (PySem.W.osa_open (s := { s with toks := s.toks + 1 }) (r := none) X J hp ht fun b => ?_)
  obtain ⟨cd, hc, hd'⟩ := PySem.W.any_some hh
  have hx : s.heap.get? x = some ⟨.ref C, some dx, .plain, #[]⟩ := I.obj
  refine wpAny_bind (wpAny_pure (wpAny_bind (wpAny_bind (wpAny_loadPart hx (wpAny_bind (PySem.W.Looks.here (s := { s with toks := s.toks + 1 }) (PySem.W.looks_clsIn X hc) ?_))))))
  rw [hd']
  refine wpAny_pure (a := some dx) (wpAny_bind (wpAny_pure (wpAny_bind ?_)))
  refine wpAny_nsSet1 (s := { s with toks := s.toks + 1 }) I.ns fun h' hn2 hs2 => ?_
  obtain ⟨oD, esD, epD, hoD, hdD, hcD⟩ := hn2.count (PySem.Within.cons name v hw)
  refine wpAny_bind (wpAny_lookBehind hoD (by rw [hdD]; exact pastItsLine_dict (Nat.le_trans hcD (by rw [List.length_cons]; omega))) ?_)
  exact wpAny_pure (h _ ⟨(hs2.2 _ (Ne.symm I.ne)).trans I.obj, hn2, I.ne⟩ hs2)

/-- C(..): the dict at the heap's end, the instance behind it; then its __init__ -/
theorem make_map {R : Result → Shared → Prop} {vs : List Value} {kw : List (Str × Value)} (X : K.In s.heap) (hm : PySem.W.makesIn K C = true)
    (hi : PySem.W.findIn K (.ref C) "__init__" = some (some (.ref f))) (hf : PySem.W.typeIn K (.ref f) = some (.type "function"))
    (h : codeAny (model prog w) (A.under (.builtin "type.__call__" ⟨.ref C :: vs, kw⟩)) (.call (.ref f) ⟨.ref (s.heap.objs.size + 1) :: vs, kw⟩) (PySem.W.InitBack (s.heap.objs.size + 1) R)
      { s with heap := (s.heap.push PySem.W.emptyDict).push (PySem.W.instObj C s.heap.objs.size) }) :
    codeAny (model prog w) A (.call (.ref C) ⟨vs, kw⟩) R s := by
  obtain ⟨hh, g, d, t, os⟩ := s
  exact PySem.W.make_core (PySem.W.makes_of X hm) (PySem.W.looks_findIn X hi) (fun self => PySem.W.bind_fn X self hf) (.inl rfl) h
end

/-! ### the attributes as a list of pairs -/
def putF (f : Str) (v : V) : List (Str × V) → List (Str × V)
  | [] => [(f, v)]
  | (g, x) :: r => if g = f then (g, v) :: r else (g, x) :: putF f v r
theorem lookup_putF (f g : Str) (v : V) : ∀ fs : List (Str × V), (putF f v fs).lookup g = if g = f then some v else fs.lookup g
  | [] => by
    show List.lookup g [(f, v)] = _
    by_cases h : g = f
    · have hb : (g == f) = true := beq_iff_eq.mpr h
      simp only [List.lookup, hb, if_pos h]
    · have hb : (g == f) = false := beq_eq_false_iff_ne.mpr h
      simp only [List.lookup, hb, if_neg h]
  | (k, x) :: r => by
    have ih := lookup_putF f g v r
    rw [show putF f v ((k, x) :: r) = (if k = f then (k, v) :: r else (k, x) :: putF f v r) from rfl]
    by_cases hk : k = f
    · rw [if_pos hk]
      by_cases h : g = k
      · have hb : (g == k) = true := beq_iff_eq.mpr h
        simp only [List.lookup, hb, if_pos (h.trans hk)]
      · have hb : (g == k) = false := beq_eq_false_iff_ne.mpr h
        simp only [List.lookup, hb, if_neg (fun e : g = f => h (e.trans hk.symm))]
    · rw [if_neg hk]
      by_cases h : g = k
      · have hb : (g == k) = true := beq_iff_eq.mpr h
        simp only [List.lookup, hb, if_neg (fun e : g = f => hk (h.symm.trans e))]
      · have hb : (g == k) = false := beq_eq_false_iff_ne.mpr h
        simp only [List.lookup, hb]
        exact ih
theorem keys_putF (f : Str) (v : V) : ∀ fs : List (Str × V), f ∈ (putF f v fs).map (·.1) ∧ ∀ g, g ∈ fs.map (·.1) → g ∈ (putF f v fs).map (·.1)
  | [] => ⟨by simp [putF], fun g h => by simp at h⟩
  | (k, x) :: r => by
    obtain ⟨i1, i2⟩ := keys_putF f v r
    rw [show putF f v ((k, x) :: r) = (if k = f then (k, v) :: r else (k, x) :: putF f v r) from rfl]
    by_cases hk : k = f
    · rw [if_pos hk]
      subst hk
      exact ⟨by simp, fun g h => by simpa using h⟩
    · rw [if_neg hk]
      refine ⟨?_, fun g h => ?_⟩
      · rw [List.map_cons]
        exact List.mem_cons_of_mem _ i1
      · rw [List.map_cons] at h ⊢
        rcases List.mem_cons.mp h with e | e
        · exact List.mem_cons.mpr (.inl e)
        · exact List.mem_cons_of_mem _ (i2 g e)
theorem length_putF (f : Str) (v : V) : ∀ fs : List (Str × V), (putF f v fs).length ≤ fs.length + 1
  | [] => by simp [putF]
  | (k, x) :: r => by
    have ih := length_putF f v r
    rw [show putF f v ((k, x) :: r) = (if k = f then (k, v) :: r else (k, x) :: putF f v r) from rfl]
    by_cases hk : k = f
    · rw [if_pos hk, List.length_cons, List.length_cons]; omega
    · rw [if_neg hk, List.length_cons, List.length_cons]; omega

theorem RelO.some_of {v : V} {o : Option Value} (r : RelO (some v) o) : ∃ u, o = some u ∧ RelV v u := by
  cases o with
  | none => exact (show False from r).elim
  | some u => exact ⟨u, rfl, r⟩
theorem RelO.none_of {o : Option Value} (r : RelO none o) : o = none := by
  cases o with
  | none => rfl
  | some u => exact (show False from r).elim
theorem handed_of {v : V} {u : Value} (r : RelV v u) : PySem.W.handedIn u = true := by
  cases v with
  | non => cases (show u = Value.none from r); rfl
  | bl b => cases (show u = Value.bool b from r); rfl
  | int i => obtain ⟨t, e⟩ := (show ∃ t, u = Value.int i t from r); cases e; rfl
  | str x => obtain ⟨t, e⟩ := (show ∃ t, u = Value.str x t from r); cases e; rfl
  | byt b => obtain ⟨t, e⟩ := (show ∃ t, u = Value.bytes b t from r); cases e; rfl
  | flt b => obtain ⟨t, e⟩ := (show ∃ t, u = Value.float b t from r); cases e; rfl
  | ref a => cases (show u = Value.ref a from r); rfl
  | ty n => cases (show u = Value.type n from r); rfl

section
variable {P : Program} {w : World} {H H' : Hp} {h h' : Heap} {a C dx : Addr} {fs fs' : List (Str × V)}
theorem ins_get (hok : HOk P w H h) (e : H a = some (.ins C dx fs)) : ∃ mA, ObjM h a dx C mA ∧ (∀ f, RelO (fs.lookup f) (mA f)) ∧ PySem.Within mA (fs.map (·.1)) ∧ fs.length ≤ 1000 ∧ H dx = some (.own a) := by
  obtain ⟨d, z, ne, ob, mA, n, r, q⟩ := (show ObjOk P w H h a (.ins C dx fs) from hok a _ e)
  exact ⟨mA, ⟨ob, n, ne⟩, r, q, z, d⟩
end

/-! ### what of the text a class must have -/
structure Cls (K : PySem.W.Frag) (C : Addr) : Prop where
  pg : PySem.W.plainGet K C Str.empty = true
  hd : PySem.W.hasDictIn K C = true
  po : PySem.W.plainOver K C = true
  sa : PySem.W.findIn K (.ref C) "__setattr__" = some (some (.builtin "object.__setattr__"))
theorem Cls.get {K : PySem.W.Frag} {C : Addr} (c : Cls K C) (f : Str) : PySem.W.plainGet K C f = true := c.pg
/-- no class of it has the name -/
def NoAttr (K : PySem.W.Frag) (C : Addr) (f : Str) : Prop := PySem.W.findIn K (.ref C) f = some none
theorem NoAttr.taker {K : PySem.W.Frag} {C : Addr} {f : Str} (n : NoAttr K C f) : PySem.W.takerIn K C f = some none := by
  unfold PySem.W.takerIn
  rw [show PySem.W.findIn K (.ref C) f = some none from n]
  rfl
/-- a constant of the class -/
structure Con (K : PySem.W.Frag) (C : Addr) (f : Str) (v : V) (u : Value) : Prop where
  at_ : PySem.W.findIn K (.ref C) f = some (some u)
  rel : RelV v u
  get : PySem.W.specialIn K u "__get__" = some none
  cp : PySem.W.copiedNames.contains f = false
/-- a method: a plain def of the class or of one above it -/
structure Meth (K : PySem.W.Frag) (C : Addr) (m : Str) (f : Addr) : Prop where
  at_ : PySem.W.findIn K (.ref C) m = some (some (.ref f))
  fn : PySem.W.isFn K (.ref f) = true
  kp : PySem.W.keepIn K (.ref f) = true

section
variable {X : Cx} {pins : List (Addr × Obj)} {σ : St} {H : Hp} {s : Shared} {a C dx : Addr} {fs : List (Str × V)} {f : Str} {v : V} {A : Around} {E : Value → Shared → Prop}

theorem getattr_ok {b : Bool} {Q : Value → Shared → Prop} (I : Inv X pins σ H s) (e : H a = some (.ins C dx fs)) (c : Cls X.K C) (n : NoAttr X.K C f) (l : fs.lookup f = some v)
    (h : ∀ u s', Inv X pins σ H s' → RelV v u → Q u s') : wpAny (model X.prog X.w) A (getAttr (.ref a) f b) Q E s := by
  obtain ⟨mA, O, r, _, _, _⟩ := ins_get I.hok e
  obtain ⟨u, hu, ru⟩ := RelO.some_of (v := v) (o := mA f) (by rw [← l]; exact r f)
  exact get_map I.kIn O (c.get f) c.hd n hu (handed_of ru) (h u _ (I.tok _) ru)


theorem getmeth_ok {m : Str} {g : Addr} {pl : Sem Bool} {Q : Value × List Value → Shared → Prop} (I : Inv X pins σ H s) (e : H a = some (.ins C dx fs)) (c : Cls X.K C) (k : Meth X.K C m g) (l : fs.lookup m = none)
    (h : Q (.ref g, [.ref a]) s) : wpAny (model X.prog X.w) A (getMethod (.ref a) m pl) Q E s := by
  obtain ⟨mA, O, r, _, _, _⟩ := ins_get I.hok e
  have hn : mA m = none := RelO.none_of (by rw [← l]; exact r m)
  exact get_meth I.kIn O (c.get m) k.at_ k.fn hn h

theorem setattr_ok {y : V} {u : Value} {Q : Unit → Shared → Prop} (I : Inv X pins σ H s) (e : H a = some (.ins C dx fs)) (c : Cls X.K C) (n : NoAttr X.K C f) (hl : fs.length < 1000) (ry : RelV y u)
    (h : ∀ s', Inv X pins σ (upd H a (.ins C dx (putF f y fs))) s' → Q () s') : wpAny (model X.prog X.w) A (setAttr (.ref a) f u) Q E s := by
  obtain ⟨mA, O, r, wi, _, ho⟩ := ins_get I.hok e
  have hz : (fs.map (·.1)).length ≤ sizeLine := by rw [List.length_map, sizeLine_eq]; omega
  refine set_map I.kIn O c.sa c.po n.taker c.hd wi hz fun h' O' sb => h _ ?_
  have hd : ∃ o, h'.get? dx = some o := let ⟨o, _, _, e', _⟩ := O'.ns; ⟨o, e'⟩
  refine I.write (x := a) (e := dx) (by rw [e]; exact True.intro) (.inr ho) (fun b q hb z => (sb.2 b hb).trans z) hd ?_
  refine ⟨by rw [upd_ne O.ne]; exact ho, ?_, O.ne, O'.obj, _, O'.ns, fun g => ?_, fun g hg => ?_⟩
  · have := length_putF f y fs; omega
  · show RelO ((putF f y fs).lookup g) (if g = f then some u else mA g)
    rw [lookup_putF]
    by_cases q : g = f
    · rw [if_pos q, if_pos q]; exact ry
    · rw [if_neg q, if_neg q]; exact r g
  · by_cases q : g = f
    · rw [q]; exact (keys_putF f y fs).1
    · refine (keys_putF f y fs).2 g (wi g fun z => hg ?_)
      show (if g = f then some u else mA g) = none
      rw [if_neg q]; exact z

/-- a new instance, tracked, without attributes -/
theorem Inv.made (I : Inv X pins σ H s) : Inv X pins σ (upd (upd H s.heap.objs.size (.own (s.heap.objs.size + 1))) (s.heap.objs.size + 1) (.ins C s.heap.objs.size []))
    { s with heap := (s.heap.push PySem.W.emptyDict).push (PySem.W.instObj C s.heap.objs.size) } := by
  have e1 : (s.heap.push PySem.W.emptyDict).get? s.heap.objs.size = some PySem.W.emptyDict := Heap.get?_push_size s.heap rfl
  have e2 : ((s.heap.push PySem.W.emptyDict).push (PySem.W.instObj C s.heap.objs.size)).get? (s.heap.objs.size + 1) = some (PySem.W.instObj C s.heap.objs.size) := by
    have := Heap.get?_push_size (s.heap.push PySem.W.emptyDict) (o := PySem.W.instObj C s.heap.objs.size) rfl
    rwa [Heap.size_push] at this
  have e3 : (s.heap.push PySem.W.emptyDict).Ns s.heap.objs.size (fun _ => none) := ⟨PySem.W.emptyDict, #[], _, e1, rfl, (fun e he => absurd he (by simp)), fun _ => rfl⟩
  have I1 := I.laid (a := s.heap.objs.size) (o := .own (s.heap.objs.size + 1)) (h' := s.heap.push PySem.W.emptyDict) (t' := s.toks) (fun b u q => Heap.get?_push_of_some _ q) (Nat.le_refl _) ⟨_, e1⟩
  refine I1.laid (a := s.heap.objs.size + 1) (o := .ins C s.heap.objs.size []) (t' := s.toks) (fun b u q => Heap.get?_push_of_some _ q) (Nat.le_of_eq (Heap.size_push _ _)) ?_
  have ne : s.heap.objs.size ≠ s.heap.objs.size + 1 := Nat.ne_of_lt (Nat.lt_succ_self _)
  refine ⟨by rw [upd_ne ne, upd_same], Nat.zero_le _, ne, e2, fun _ => none, (Heap.Ns1.of_empty e3).at fun o q => Heap.get?_push_of_some _ q, fun _ => True.intro, fun y hy => absurd rfl hy⟩

/-- e.f where nothing but the object is asked: through attributeBase (super) and the last hold -/
theorem attr_of {prog : Program} {w : World} {env : Env} {e : Expr} {f : Str} {pos : Pos} {s : Shared} {Q : Value → Shared → Prop} (hb : attributeBase e f env (eval e env) = eval e env)
    (h : wpAny (model prog w) A (eval e env) (fun o s₁ => wpAny (model prog w) A (getAttr o f true) Q E s₁) E s) : wpAny (model prog w) A (eval (.Attribute e f pos) env) Q E s :=
  Attribute_any_ h (by rw [arm_eval_Attribute, hb])
end

/-! ### readings and rules -/
/-- e.f, an attribute of the instance -/
def tFld (K : PySem.W.Frag) (ta : TE) (f : Str) : TE := fun σ H Q => ta σ H fun x H1 => ∃ a C dx fs v, x = .ref a ∧ H1 a = some (.ins C dx fs) ∧ Cls K C ∧ NoAttr K C f ∧ fs.lookup f = some v ∧ Q v H1
/-- e.f = value -/
def sFld (K : PySem.W.Frag) (ta tv : TE) (f : Str) : TS := fun D σ H => tv σ H fun y H1 => ta σ H1 fun x H2 => ∃ a C dx fs, x = .ref a ∧ H2 a = some (.ins C dx fs) ∧ Cls K C ∧ NoAttr K C f ∧ fs.length < 1000 ∧
  D.nx σ (upd H2 a (.ins C dx (putF f y fs)))

section
variable {X : Cx} {o e value : Expr} {f : Str} {pos pos' tpos : Pos} {ta tv : TE}
theorem pe_fld (he : PE X e ta) (hb : attributeBase e f X.env (eval e X.env) = eval e X.env) : PE X (.Attribute e f pos) (tFld X.K ta f) := by
  intro pins s σ H Q I h
  refine attr_of hb (thn (he pins s σ H _ I h) fun u s1 ⟨x, H1, I1, rx, a, C, dx, fs, v, ex, ea, c, n, l, q⟩ => ?_)
  subst ex
  obtain rfl : u = Value.ref a := rx
  exact getattr_ok I1 ea c n l fun u' s2 I2 ru => ⟨v, H1, I2, ru, q⟩
theorem ps_fld (ha : PE X o ta) (hv : PE X value tv) (hs : swapsWith value (some (.Attribute o f pos')) pos.line X.env = pure false) : PS X (.Assign [.Attribute o f pos'] value pos) (sFld X.K ta tv f) := by
  intro pins s σ H D I h
  refine plainObj_wpAny_Assign_Attribute (thn (hv pins s σ H _ I h) fun u s1 ⟨y, H1, I1, ry, q⟩ => thn (ha pins s1 σ H1 _ I1 q) fun ov s2 ⟨x, H2, I2, rx, a, C, dx, fs, ex, ea, c, n, l, q2⟩ => ?_) hs
  subst ex
  obtain rfl : ov = Value.ref a := rx
  exact setattr_ok I2 ea c n l ry fun s3 I3 => ⟨σ, _, I3, q2⟩

end

/-! ### isinstance -/
section
variable {X : Cx} {pins : List (Addr × Obj)} {σ : St} {H : Hp} {s : Shared} {A : Around} {E : Value → Shared → Prop} {Q : Value → Shared → Prop} {c : Value} {b : Bool}
/-- the type of a value, as the fragment's deciders take it; for an instance its class -/
inductive TyOf (K : PySem.W.Frag) (H : Hp) : V → Value → Prop where
  | non : TyOf K H .non (.type "NoneType")
  | bl (x : Bool) : TyOf K H (.bl x) (.type "bool")
  | int (i : Int) : TyOf K H (.int i) (.type "int")
  | str (x : Str) : TyOf K H (.str x) (.type "str")
  | flt (x : UInt64) : TyOf K H (.flt x) (.type "float")
  | lst {a : Addr} {xs : List V} (e : H a = some (.lst xs)) : TyOf K H (.ref a) (.type "list")
  | frz {a : Addr} {o : Obj} {xs : List V} (e : H a = some (.frz o (.lst xs))) : TyOf K H (.ref a) (.type "list")
  | tup {a : Addr} {xs : List V} (e : H a = some (.tup xs)) : TyOf K H (.ref a) (.type "tuple")
  | dK {a : Addr} {kvs : List (Key × V)} (e : H a = some (.dK kvs)) : TyOf K H (.ref a) (.type "dict")
  | dT {a : Addr} {kvs : List (List Key × V)} (e : H a = some (.dT kvs)) : TyOf K H (.ref a) (.type "dict")
  | ins {a C dx : Addr} {fs : List (Str × V)} (e : H a = some (.ins C dx fs)) (cl : Cls K C) (ha : PySem.W.findIn K (.ref C) "__class__" = some (some (.builtin "object.__class__")))
      (hn : PySem.W.specialIn K (.builtin "object.__class__") "__get__" = some (some (.builtin "getset_descriptor.__get__"))) (htk : PySem.W.takesIn K (.builtin "object.__class__") = some true)
      (hm : PySem.W.mroIn K C (.type "object") = some true) : TyOf K H (.ref a) (.ref C)
end
end L2

namespace L2
open PySem PySem.Spec PyProof.Rows

/-! ### room -/
structure Room (k : Nat) (A : Around) : Prop where
  hd : A.handled = none
  dp : A.depth + 3 * k + 5 < recursionLimit
  un : A.units + 16 * k + 200 < cLine
theorem Room.mono {j k : Nat} {A : Around} (r : Room k A) (h : j ≤ k) : Room j A := ⟨r.hd, by have := r.dp; omega, by have := r.un; omega⟩
theorem Room.deeper {k : Nat} {A : Around} (r : Room (k + 1) A) (env : Env) : Room k (A.deeper env) :=
  ⟨r.hd, by have := r.dp; show A.depth + 1 + 3 * k + 5 < _; omega, by have := r.un; show A.units + 3 + 16 * k + 200 < _; omega⟩
theorem make_depth {A : Around} {C : Addr} {us : List Value} {kw : List (Str × Value)} : (A.under (.builtin "type.__call__" ⟨.ref C :: us, kw⟩)).depth = A.depth + 1 := by
  first | rfl | simp [Around.under, Code.weight, Code.isCreation, Code.isGuard, Code.isCaller, Code.frames, Code.isFrame, guardIds]
theorem make_units {A : Around} {C : Addr} {us : List Value} {kw : List (Str × Value)} : (A.under (.builtin "type.__call__" ⟨.ref C :: us, kw⟩)).units = A.units + 1 := by
  first | rfl | simp [Around.under, Code.cUnits, Code.frames, Code.isFrame]
theorem Room.make {k : Nat} {A : Around} (r : Room (k + 1) A) (C : Addr) (us : List Value) (kw : List (Str × Value)) : Room k (A.under (.builtin "type.__call__" ⟨.ref C :: us, kw⟩)) :=
  ⟨r.hd, by have := r.dp; rw [make_depth]; omega, by have := r.un; rw [make_units]; omega⟩
theorem Room.depth {k : Nat} {A : Around} (r : Room k A) : A.depth < recursionLimit := by have := r.dp; omega
theorem Room.units {k : Nat} {A : Around} (r : Room k A) : A.units + 64 < cLine := by have := r.un; omega

/-! ### argument lists and displays -/
def tNil : TA := fun _ H Q => Q [] H
def tCons (ta : TE) (tr : TA) : TA := fun σ H Q => ta σ H fun x H1 => tr σ H1 fun xs H2 => Q (x :: xs) H2
section
variable {X : Cx} {e : Expr} {es : List Expr} {te : TE} {t : TA} {pos : Pos}
theorem pa_nil : PA X [] tNil := fun _ _ _ _ H Q I h => Calls.spliced_nil ⟨[], H, I, .nil, h⟩
theorem pa_cons (ha : PE X e te) (hr : PA X es t) (hs : starEach (e :: es) X.env = (false, eval e X.env) :: starEach es X.env := by rfl) : PA X (e :: es) (tCons te t) := by
  intro pos pins s σ H Q I h
  rw [hs]
  show wpAny _ _ (spliced ((false, eval e X.env) :: backTo pos (starEach es X.env))) _ _ s
  refine Calls.spliced_cons (thn (ha pins s σ H _ I h) fun u s1 ⟨x, H1, I1, r1, q1⟩ => ?_)
  exact thn (hr pos pins s1 σ H1 _ I1 q1) fun us s2 ⟨xs, H2, I2, r2, q2⟩ => ⟨x :: xs, H2, I2, .cons r1 r2, q2⟩

def tLst (t : TA) : TE := fun σ H Q => t σ H fun xs H1 => xs.length ≤ sizeLine ∧ ∀ p, H1 p = none → Q (.ref p) (upd H1 p (.lst xs))
theorem pe_lst (h : PA X es t) : PE X (.List es pos) (tLst t) := by
  intro pins s σ H Q I hq
  refine wpAny_List_spliced (thn (h pos pins s σ H _ I hq) fun us s1 ⟨xs, H1, I1, r, z, q⟩ => ⟨by rw [← r.length]; exact z, ?_⟩)
  have hf : H1 s1.heap.objs.size = none := I1.hok.fresh (Nat.le_refl _)
  refine ⟨.ref s1.heap.objs.size, upd H1 s1.heap.objs.size (.lst xs), I1.laid (t' := s1.toks) (fun b u e => Heap.get?_push_of_some _ e) (Nat.le_refl _) ?_, rfl, q _ hf⟩
  exact ⟨z, us, 0, r, Heap.get?_push_size _ rfl⟩
end

/-! ### what a def promises -/
/-- a def's promise: the bound arguments in the parameters' order, the heap, the wanted end, the wanted exception -/
abbrev Sp := List V → Hp → VK → XK → Prop
/-- how an exception lies behind a call (file 08 gives it): the callers' frames, abstract heap and state ahead of the call, the wish, the exception, the state -/
abbrev CXT := List Env → Hp → Shared → XK → Value → Shared → Prop

/-- the state at a call -/
structure Env0 (P : Program) (w : World) (K : PySem.W.Frag) (mg : Str → Option Value) (base : Heap) (A : Around) (outer : List Env) (s : Shared) (H : Hp) : Prop where
  frames : A.frames = some outer
  mod : Mod K mg base
  bs : ∀ b o, base.get? b = some o → s.heap.get? b = some o ∧ H b = none
  bsz : base.objs.size ≤ s.heap.objs.size
  funs : s.heap.FunFrames base outer
  frf : ∀ b ∈ frs outer, H b = none
  hok : HOk P w H s.heap
  bare : AllBare s.gens
/-- a call's end -/
def CE (outer : List Env) (P : Program) (w : World) (H : Hp) (s : Shared) (Q : VK) (u : Value) (s' : Shared) : Prop :=
  ∃ v H', s'.os = s.os ∧ AllBare s'.gens ∧ Un (frs outer) [] H H' s.heap s'.heap ∧ HOk P w H' s'.heap ∧ RelV v u ∧ Q v H'
def CR (CX : CXT) (outer : List Env) (P : Program) (w : World) (H : Hp) (s : Shared) (Q : VK) (E : XK) (r : Result) (s' : Shared) : Prop :=
  match r with
  | .ok (.ret u) => CE outer P w H s Q u s'
  | .ok _ => False
  | .error e => CX outer H s E e s'
structure FnOk (P : Program) (w : World) (K : PySem.W.Frag) (mg : Str → Option Value) (base : Heap) (CX : CXT) (k : Nat) (f : Addr) (fd : FuncData) (ps : List Str) (sp : Sp) : Prop where
  len : ∀ vs H Q E, sp vs H Q E → vs.length = ps.length
  run : ∀ (A : Around) (outer : List Env) (s : Shared) (H : Hp) (args : Args) (us : List Value) (vs : List V) (Q : VK) (E : XK), Room k A → Env0 P w K mg base A outer s H → BindsTo s fd args (ps.zip us) → Vals vs us → sp vs H Q E →
    codeAny (model P w) A (.call (.ref f) args) (CR CX outer P w H s Q E) s
theorem FnOk.mono {P : Program} {w : World} {K : PySem.W.Frag} {mg : Str → Option Value} {base : Heap} {CX : CXT} {j k : Nat} {f : Addr} {fd : FuncData} {ps : List Str} {sp : Sp} (F : FnOk P w K mg base CX j f fd ps sp) (h : j ≤ k) :
    FnOk P w K mg base CX k f fd ps sp := ⟨F.len, fun A outer s H args us vs Q E hr => F.run A outer s H args us vs Q E (hr.mono h)⟩
/-- a weaker promise -/
theorem FnOk.imp {P : Program} {w : World} {K : PySem.W.Frag} {mg : Str → Option Value} {base : Heap} {CX : CXT} {k : Nat} {f : Addr} {fd : FuncData} {ps : List Str} {sp sp' : Sp} (F : FnOk P w K mg base CX k f fd ps sp)
    (h : ∀ vs H Q E, sp' vs H Q E → sp vs H Q E) : FnOk P w K mg base CX k f fd ps sp' :=
  ⟨fun vs H Q E q => F.len vs H Q E (h _ _ _ _ q), fun A outer s H args us vs Q E hr he hb hv hs => F.run A outer s H args us vs Q E hr he hb hv (h _ _ _ _ hs)⟩

theorem Env0.make {P : Program} {w : World} {K : PySem.W.Frag} {mg : Str → Option Value} {base : Heap} {A : Around} {outer : List Env} {s : Shared} {H : Hp} (e : Env0 P w K mg base A outer s H) (C : Addr) (us : List Value) (kw : List (Str × Value)) :
    Env0 P w K mg base (A.under (.builtin "type.__call__" ⟨.ref C :: us, kw⟩)) outer s H := ⟨by first | exact e.frames | (simpa [Around.under, Code.envs, Code.isFrame, pushEnvs] using e.frames), e.mod, e.bs, e.bsz, e.funs, e.frf, e.hok, e.bare⟩

section
variable {X : Cx} {pins : List (Addr × Obj)} {σ : St} {H : Hp} {s s' : Shared}
/-- from a body: what a callee wants -/
theorem Inv.env0 (I : Inv X pins σ H s) : Env0 X.prog X.w X.K X.mg X.base X.A X.stack s H :=
  ⟨I.ok.frames, I.ok.mod, I.bs, Nat.le_trans I.ok.bsz I.sz, I.stack, I.stkFree, I.hok, I.bare⟩
/-- behind a call -/
theorem Inv.after {Q : VK} {u : Value} (I : Inv X pins σ H s) (h : CE X.stack X.prog X.w H s Q u s') : EP X pins σ Q u s' := by
  obtain ⟨v, H', os, bare, un, hok, r, q⟩ := h
  obtain ⟨hh, g, d, t, os'⟩ := s'
  obtain rfl : os' = s.os := os
  exact ⟨v, H', I.call (h' := hh) (g' := g) (d' := d) (t' := t) (ch := []) un hok bare (fun b z => absurd z (by simp)), r, q⟩
end

/-! ### calls -/
/-- f(..): the written arguments, then the defaults dvs; E: what is wanted of an exception -/
def tCall (sp : Sp) (dvs : List V) (E : XK) (t : TA) : TE := fun σ H Q => t σ H fun vs H1 => sp (vs ++ dvs) H1 Q E
/-- o.m(..) of an instance of the class at C -/
def tMeth (C : Addr) (m : Str) (sp : Sp) (dvs : List V) (E : XK) (ta : TE) (t : TA) : TE := fun σ H Q => ta σ H fun x H1 => ∃ a dx fs, x = .ref a ∧ H1 a = some (.ins C dx fs) ∧ fs.lookup m = none ∧
  t σ H1 fun vs H2 => sp (x :: (vs ++ dvs)) H2 Q E
/-- C(..): a new instance and its dict, then __init__ -/
def tMake (C : Addr) (sp : Sp) (dvs : List V) (E : XK) (t : TA) : TE := fun σ H Q => t σ H fun vs H1 => ∀ x dx, H1 x = none → H1 dx = none → dx ≠ x →
  sp (.ref x :: (vs ++ dvs)) (upd (upd H1 dx (.own x)) x (.ins C dx [])) (fun v H2 => v = .non ∧ Q (.ref x) H2) E

/-- how the parameters are bound: us the positional arguments, kw the keywords' values by name, ds the defaults that fill up -/
def Binds (K : PySem.W.Frag) (fd : FuncData) (ps : List Str) (ds : List Value) : Prop :=
  ∀ (s : Shared) (us : List Value), K.In s.heap → (us ++ ds).length = ps.length → BindsTo s fd ⟨us, []⟩ (ps.zip (us ++ ds))
/-- every parameter is given -/
theorem Binds.all {K : PySem.W.Frag} {fd : FuncData} {ps : List Str} (h : ∀ us : List Value, us.length = ps.length → bindArgs fd ⟨us, []⟩ = pure (ps.zip us)) : Binds K fd ps [] := fun s us _ hl => by
  rw [List.append_nil] at hl ⊢
  exact .of_eq (h us hl)

/-- an exception of a callee reaches what this body wants of exceptions -/
def Passes (CX : CXT) (X : Cx) (E : XK) : Prop := ∀ (pins : List (Addr × Obj)) (σ : St) (H : Hp) (s : Shared) (e : Value) (s' : Shared), Inv X pins σ H s → CX X.stack H s E e s' → X.xe e s'

section
variable {X : Cx} {CX : CXT} {k : Nat} {f C : Addr} {fd : FuncData} {ps : List Str} {sp : Sp} {dvs : List V} {ds : List Value} {E : XK} {x m : Str} {p pos apos : Pos} {e o : Expr} {es : List Expr} {ta : TE} {t : TA}

/-- the callee runs -/
theorem run_fn {pins : List (Addr × Obj)} {σ : St} {H : Hp} {s : Shared} {Q : VK} {us : List Value} {vs : List V} (F : FnOk X.prog X.w X.K X.mg X.base CX k f fd ps sp) (hr : Room k X.A) (hb : Binds X.K fd ps ds) (hd : Vals dvs ds) (hx : Passes CX X E)
    (I : Inv X pins σ H s) (r : Vals vs us) (h : sp (vs ++ dvs) H Q E) : wpAny (model X.prog X.w) X.A (call (.ref f) us) (EP X pins σ Q) X.xe s := by
  have r2 : Vals (vs ++ dvs) (us ++ ds) := r.append hd
  have hl : (us ++ ds).length = ps.length := by rw [← r2.length]; exact F.len _ _ _ _ h
  refine wpAny_call (codeAny_mono (F.run X.A X.stack s H ⟨us, []⟩ (us ++ ds) (vs ++ dvs) Q E hr I.env0 (hb s us I.kIn hl) r2 h) fun r s' hq => ?_)
  cases r with
  | error e => exact hx pins σ H s e s' I hq
  | ok fl =>
    cases fl with
    | ret u => exact I.after hq
    | next => exact False.elim hq
    | brk => exact False.elim hq
    | cont => exact False.elim hq

theorem pe_call (F : FnOk X.prog X.w X.K X.mg X.base CX k f fd ps sp) (hr : Room k X.A) (hg : Gl X x) (hm : X.mg x = some (.ref f)) (hk : PySem.W.keepIn X.K (.ref f) = true) (hb : Binds X.K fd ps ds) (hd : Vals dvs ds) (hx : Passes CX X E)
    (ha : PA X (e :: es) t) (hdb : (x == ("__debug__" : Str)) = false := by decide) (he : starEach (e :: es) X.env = (false, eval e X.env) :: starEach es X.env := by rfl) (hpl : (backTo pos (starEach es X.env)).any (·.1) = false := by rfl) :
    PE X (.Call (.Name x p) (e :: es) [] pos) (tCall sp dvs E t) := by
  intro pins s σ H Q I h
  refine wpAny_Call_Name_kw (ld_glob I hg hm ?_ hdb)
  refine PySem.W.callWith_K (h₀ := X.base) I.ok.mod.kin hk (thn (ha pos pins s σ H _ I h) fun us s1 ⟨vs, H1, I1, r, q⟩ => ⟨I1.kIn, ?_⟩) he hpl
  exact run_fn F hr hb hd hx I1 r q

/-- o.m(e, ..) -/
theorem pe_meth {pl : Sem Bool} (he : PE X o ta) (c : Cls X.K C) (hm : Meth X.K C m f) (F : FnOk X.prog X.w X.K X.mg X.base CX k f fd ps sp) (hr : Room k X.A) (hb : Binds X.K fd ps ds) (hd : Vals dvs ds) (hx : Passes CX X E) (ha : PA X (e :: es) t)
    (hst : starEach (e :: es) X.env = (false, eval e X.env) :: starEach es X.env := by rfl) (hpl : (backTo pos (starEach es X.env)).any (·.1) = false := by rfl)
    (ht : eval (.Call (.Attribute o m apos) (e :: es) [] pos) X.env = (do
      let ov ← eval o X.env
      standAt apos.atName
      let (f, first) ← holding [ov] (getMethod ov m pl)
      callWith pos f first (backTo pos (starEach (e :: es) X.env)) (backToKw pos (keywordEach [] X.env))) := by rfl) :
    PE X (.Call (.Attribute o m apos) (e :: es) [] pos) (tMeth C m sp dvs E ta t) := by
  intro pins s σ H Q I h
  refine PySem.W.methodCall_KW (pl := pl) (thn (he pins s σ H _ I h) fun u s1 ⟨x, H1, I1, rx, a, dx, fs, ex, ea, l, q⟩ => ?_) ht
  subst ex
  obtain rfl : u = Value.ref a := rx
  refine getmeth_ok I1 ea c hm l ?_
  refine PySem.W.callWith_K (first := [.ref a]) (h₀ := X.base) I.ok.mod.kin hm.kp (thn (ha pos pins s1 σ H1 _ I1 q) fun us s2 ⟨vs, H2, I2, r, q2⟩ => ⟨I2.kIn, ?_⟩) hst hpl
  exact run_fn (us := .ref a :: us) (vs := .ref a :: vs) F hr hb hd hx I2 (.cons rfl r) q2
/-- o.m() -/
theorem pe_meth0 {pl : Sem Bool} (he : PE X o ta) (c : Cls X.K C) (hm : Meth X.K C m f) (F : FnOk X.prog X.w X.K X.mg X.base CX k f fd ps sp) (hr : Room k X.A) (hb : Binds X.K fd ps ds) (hd : Vals dvs ds) (hx : Passes CX X E)
    (ht : eval (.Call (.Attribute o m apos) [] [] pos) X.env = (do
      let ov ← eval o X.env
      standAt apos.atName
      let (f, first) ← holding [ov] (getMethod ov m pl)
      callWith pos f first (backTo pos (starEach [] X.env)) (backToKw pos (keywordEach [] X.env))) := by rfl) :
    PE X (.Call (.Attribute o m apos) [] [] pos) (tMeth C m sp dvs E ta tNil) := by
  intro pins s σ H Q I h
  refine PySem.W.methodCall_KW (pl := pl) (thn (he pins s σ H _ I h) fun u s1 ⟨x, H1, I1, rx, a, dx, fs, ex, ea, l, q⟩ => ?_) ht
  subst ex
  obtain rfl : u = Value.ref a := rx
  refine getmeth_ok I1 ea c hm l ?_
  exact PySem.W.callWith_K0 (first := [.ref a]) I1.kIn hm.kp (run_fn (us := [.ref a]) (vs := [.ref a]) F hr hb hd hx I1 (.cons rfl .nil) q)

/-- what a class must have to be made -/
structure Mk (K : PySem.W.Frag) (C f : Addr) : Prop where
  makes : PySem.W.makesIn K C = true
  init : PySem.W.findIn K (.ref C) "__init__" = some (some (.ref f))
  fn : PySem.W.isFn K (.ref f) = true
  kp : PySem.W.keepIn K (.ref C) = true

theorem run_make {pins : List (Addr × Obj)} {σ : St} {H : Hp} {s : Shared} {Q : VK} {us : List Value} {vs : List V} (M : Mk X.K C f) (F : FnOk X.prog X.w X.K X.mg X.base CX k f fd ps sp) (hr : Room (k + 1) X.A) (hb : Binds X.K fd ps ds) (hd : Vals dvs ds)
    (hx : Passes CX X E) (I : Inv X pins σ H s) (r : Vals vs us)
    (h : ∀ x dx, H x = none → H dx = none → dx ≠ x → sp (.ref x :: (vs ++ dvs)) (upd (upd H dx (.own x)) x (.ins C dx [])) (fun v H2 => v = .non ∧ Q (.ref x) H2) E) :
    wpAny (model X.prog X.w) X.A (call (.ref C) us) (EP X pins σ Q) X.xe s := by
  have hq := h (s.heap.objs.size + 1) s.heap.objs.size (I.hok.fresh (Nat.le_succ _)) (I.hok.fresh (Nat.le_refl _)) (Nat.ne_of_lt (Nat.lt_succ_self _))
  have I2 := Inv.made (C := C) I
  have r2 : Vals (V.ref (s.heap.objs.size + 1) :: (vs ++ dvs)) (Value.ref (s.heap.objs.size + 1) :: (us ++ ds)) := .cons rfl (r.append hd)
  have hl : (Value.ref (s.heap.objs.size + 1) :: us ++ ds).length = ps.length := by
    have e := r2.length
    rw [F.len _ _ _ _ hq] at e
    exact e.symm
  refine wpAny_call (make_map (f := f) I.kIn M.makes M.init (beq_iff_eq.mp M.fn) (codeAny_mono (F.run _ X.stack _ _ ⟨Value.ref (s.heap.objs.size + 1) :: us, []⟩ (Value.ref (s.heap.objs.size + 1) :: (us ++ ds)) _ _ E (hr.make C us [])
    (I2.env0.make C us []) (hb _ (Value.ref (s.heap.objs.size + 1) :: us) I2.kIn hl) r2 hq) fun r s' hq' => ?_))
  cases r with
  | error e => exact hx pins σ _ _ e s' I2 hq'
  | ok fl =>
    cases fl with
    | ret u =>
      obtain ⟨v, H', I3, rv, ev, q3⟩ := I2.after hq'
      subst ev
      exact ⟨rv, ⟨V.ref (s.heap.objs.size + 1), H', I3, rfl, q3⟩⟩
    | next => exact False.elim hq'
    | brk => exact False.elim hq'
    | cont => exact False.elim hq'
theorem pe_make0 (M : Mk X.K C f) (F : FnOk X.prog X.w X.K X.mg X.base CX k f fd ps sp) (hr : Room (k + 1) X.A) (hg : Gl X x) (hm : X.mg x = some (.ref C)) (hb : Binds X.K fd ps ds) (hd : Vals dvs ds) (hx : Passes CX X E)
    (hdb : (x == ("__debug__" : Str)) = false := by decide) : PE X (.Call (.Name x p) [] [] pos) (tMake C sp dvs E tNil) := by
  intro pins s σ H Q I h
  refine wpAny_Call_Name_kw (ld_glob I hg hm ?_ hdb)
  exact PySem.W.callWith_K0 I.kIn M.kp (run_make (us := []) M F hr hb hd hx I .nil h)
end

/-! ### keywords -/
section
variable {X : Cx} {CX : CXT} {k : Nat} {f C : Addr} {fd : FuncData} {ps ks : List Str} {sp : Sp} {E : XK} {x m : Str} {p pos apos kpos : Pos} {e o : Expr} {es : List Expr} {kws : List Keyword} {te ta : TE} {t tk : TA} {nm : Option Str}

/-- how a call with keywords binds: g puts the positional values us and the keywords' values ws (names ks) in the parameters' order, defaults among them -/
structure KBinds (K : PySem.W.Frag) (fd : FuncData) (ps ks : List Str) (g : List Value → List Value → List Value) (gV : List V → List V → List V) : Prop where
  to : ∀ (s : Shared) (us ws : List Value), K.In s.heap → (g us ws).length = ps.length → BindsTo s fd ⟨us, ks.zip ws⟩ (ps.zip (g us ws))
  rel : ∀ {vs : List V} {us : List Value} {zs : List V} {ws : List Value}, Vals vs us → Vals zs ws → Vals (gV vs zs) (g us ws)
variable {g : List Value → List Value → List Value} {gV : List V → List V → List V}
end

/-! ### a def's body keeps its promise -/
/-- names: the parameters first -/
structure FnScope (N P : List Str) (sc : Scope) : Prop where
  kind : sc.kind = .function
  co : sc.isCoroutine = false
  gen : sc.isGenerator = false
  nd : N.Nodup
  pre : N.take P.length = P
  par : ∀ x ∈ P, sc.names.lookup x = some .local ∨ sc.names.lookup x = some .cell
  nofree : ∀ y ∈ sc.names, y.2 ≠ .free

theorem bindL_out {kindOf : Str → Option NameKind} {x : Str} : ∀ {binds : List (Str × Value)} {m : Str → Option Value}, (∀ v, (x, v) ∉ binds) → bindL kindOf binds m x = m x
  | [], _, _ => rfl
  | (n, v) :: r, m, h => by
    unfold bindL
    rw [bindL_out fun w hw => h w (List.mem_cons_of_mem _ hw)]
    split
    · have : x ≠ n := by rintro rfl; exact h v List.mem_cons_self
      simp [this]
    · rfl
theorem bindC_out {kindOf : Str → Option NameKind} {x : Str} : ∀ {binds : List (Str × Value)} {m : Str → Option Value}, (∀ v, (x, v) ∉ binds) → bindC kindOf binds m x = m x
  | [], _, _ => rfl
  | (n, v) :: r, m, h => by
    unfold bindC
    rw [bindC_out fun w hw => h w (List.mem_cons_of_mem _ hw)]
    split
    · rfl
    · have : x ≠ n := by rintro rfl; exact h v List.mem_cons_self
      simp [this]
theorem bindL_get {kindOf : Str → Option NameKind} {x : Str} {v : Value} : ∀ {P : List Str} {vs : List Value} {i : Nat} {m : Str → Option Value}, P.Nodup → P[i]? = some x → vs[i]? = some v → kindOf x = some .local →
    bindL kindOf (P.zip vs) m x = some v
  | [], _, _, _, _, h, _, _ => by simp at h
  | _ :: _, [], _, _, _, _, h, _ => by simp at h
  | p :: P, w :: vs, 0, m, nd, h1, h2, hk => by
    simp at h1 h2; subst h1; subst h2
    show bindL kindOf ((p, w) :: P.zip vs) m p = _
    unfold bindL
    rw [bindL_out fun v hv => (List.nodup_cons.mp nd).1 (List.of_mem_zip hv).1, if_pos hk]
    simp
  | p :: P, w :: vs, i + 1, m, nd, h1, h2, hk => by
    show bindL kindOf ((p, w) :: P.zip vs) m x = _
    unfold bindL
    exact bindL_get (i := i) (List.nodup_cons.mp nd).2 (by simpa using h1) (by simpa using h2) hk
theorem bindC_get {kindOf : Str → Option NameKind} {x : Str} {v : Value} : ∀ {P : List Str} {vs : List Value} {i : Nat} {m : Str → Option Value}, P.Nodup → P[i]? = some x → vs[i]? = some v → kindOf x ≠ some .local →
    bindC kindOf (P.zip vs) m x = some v
  | [], _, _, _, _, h, _, _ => by simp at h
  | _ :: _, [], _, _, _, _, h, _ => by simp at h
  | p :: P, w :: vs, 0, m, nd, h1, h2, hk => by
    simp at h1 h2; subst h1; subst h2
    show bindC kindOf ((p, w) :: P.zip vs) m p = _
    unfold bindC
    rw [bindC_out fun v hv => (List.nodup_cons.mp nd).1 (List.of_mem_zip hv).1, if_neg hk]
    simp
  | p :: P, w :: vs, i + 1, m, nd, h1, h2, hk => by
    show bindC kindOf ((p, w) :: P.zip vs) m x = _
    unfold bindC
    exact bindC_get (i := i) (List.nodup_cons.mp nd).2 (by simpa using h1) (by simpa using h2) hk

/-- the names' values at the entry -/
def start (N : List Str) (vs : List V) : St := vs.map some ++ List.replicate (N.length - vs.length) none

/-- the context of a def's body, at its entry; an exception leaves the frame, then lies as CX says -/
def cxOf (CX : CXT) (P : Program) (w : World) (K : PySem.W.Frag) (mg : Str → Option Value) (base : Heap) (N : List Str) (qual : Str) (scope : Scope) (f : Addr) (cd : Value) (A : Around) (outer : List Env) (s : Shared) (H : Hp) (E : XK) : Cx where
  prog := P
  w := w
  K := K
  mg := mg
  base := base
  A := A.deeper (envOfC qual scope s.heap.objs.size f cd)
  N := N
  s_0 := s
  H_0 := H
  env := envOfC qual scope s.heap.objs.size f cd
  outer := outer
  stack := envOfC qual scope s.heap.objs.size f cd :: outer
  ex := []
  calm := true
  fn := fun _ => true
  pn := []
  xe := fun e s' => wpAny (model P w) (A.deeper (envOfC qual scope s.heap.objs.size f cd)) (leaving (envOfC qual scope s.heap.objs.size f cd) e) (fun _ s'' => CX outer H s E e s'') (fun e' s'' => CX outer H s E e' s'') s'

theorem cell_has {sc : Scope} {n : Nat} {x : Str} (h : sc.names.lookup x = some .cell) : ∃ c, (cellsFrom n sc.names []).lookup x = some c := by
  have q := PySem.W.cellsFrom_some sc.names n [] (.inl h)
  exact Option.isSome_iff_exists.mp q

theorem inv_start {CX : CXT} {P : Program} {w : World} {K : PySem.W.Frag} {mg : Str → Option Value} {base : Heap} {N ps : List Str} {qual : Str} {scope : Scope} {f : Addr} {cd : Value} {A : Around} {outer : List Env} {s s1 : Shared} {H : Hp} {E : XK} {us : List Value} {vs : List V}
    (S : FnScope N ps scope) (hd : A.handled = none) (e0 : Env0 P w K mg base A outer s H) (hl : vs.length = ps.length) (r : Vals vs us)
    (x : InCallC s s.heap.objs.size (bindL (envOfC qual scope s.heap.objs.size f cd).kindOf (ps.zip us) fun _ => none) (cellsFrom (s.heap.objs.size + 1) scope.names []) (bindC (envOfC qual scope s.heap.objs.size f cd).kindOf (ps.zip us) fun _ => none) s1) :
    Inv (cxOf CX P w K mg base N qual scope f cd A outer s H E) [] (start N vs) H s1 := by
  have hpl : ps.length ≤ N.length := by have := congrArg List.length S.pre; rw [List.length_take] at this; omega
  obtain ⟨h1, tk, rfl, hk⟩ := x.done
  have noA : ∀ b : Addr, b ∉ (cxOf CX P w K mg base N qual scope f cd A outer s H E).ex := fun b z => absurd (show b ∈ ([] : List Addr) from z) (by simp)
  refine ⟨⟨e0.mod, S.kind, rfl, rfl, Nat.le_refl _, fun y z c h1 h2 => ?_, fun y hy => ?_, fun y c _ h => ?_, fun _ => hd, Around.frames_deeper e0.frames, .inr ⟨rfl, rfl⟩, fun b z => absurd z (noA b), e0.bs, e0.bsz, fun b _ _ => noA b, fun b z => absurd z (noA b), e0.funs, e0.frf⟩,
    rfl, e0.bare, Un.kept hk, ⟨_, x.toInCall.ns, fun i y v h1 h2 h3 => ?_⟩, fun y c h => ⟨_, x.cell y c h⟩, e0.hok.fresh (Nat.le_refl _), fun y c h => ?_, fun p hp => absurd (show p ∈ ([] : List (Addr × Obj)) from hp) (by simp), e0.hok.kept hk, ?_⟩
  · exact name_of_addr x.apart (PySem.mem_of_lookup h1) (PySem.mem_of_lookup h2)
  · have hy : scope.names.lookup y = some .cell ∨ scope.names.lookup y = some .free := hy
    rcases hy with hy | hy
    · exact cell_has hy
    · exact absurd rfl (S.nofree _ (PySem.mem_of_lookup hy))
  · exact Nat.le_of_lt (x.above y c (PySem.mem_of_lookup h))
  · have hi : i < vs.length := by
      unfold start at h2
      by_cases hi : i < vs.length
      · exact hi
      · rw [List.getElem?_append_right (by simpa using hi)] at h2
        rw [List.getElem?_replicate] at h2
        split at h2 <;> cases h2
    have ha : vs[i]? = some v := by
      unfold start at h2
      rw [List.getElem?_append_left (by simpa using hi), List.getElem?_map] at h2
      cases e : vs[i]? with
      | none => rw [e] at h2; cases h2
      | some a => rw [e] at h2; cases h2; rfl
    obtain ⟨u, hu, rv⟩ := r.get ha
    have hp : ps[i]? = some y := by
      rw [← S.pre, List.getElem?_take_of_lt (by omega)]; exact h1
    have ndP : ps.Nodup := by rw [← S.pre]; exact S.nd.sublist (List.take_sublist _ _)
    refine ⟨u, rv, ?_⟩
    rcases S.par y (List.mem_of_getElem? hp) with k | k
    · exact .inl ⟨k, bindL_get ndP hp hu k⟩
    · obtain ⟨c, e⟩ := cell_has (n := s.heap.objs.size + 1) k
      refine .inr ⟨.inl k, c, e, ?_⟩
      have q := x.cell y c e
      rw [bindC_get ndP hp hu (by show scope.names.lookup y ≠ _; rw [k]; decide)] at q
      exact q
  · exact e0.hok.fresh (Nat.le_of_lt (x.above y c (PySem.mem_of_lookup h)))
  · unfold start
    show _ = N.length
    rw [List.length_append, List.length_map, List.length_replicate]
    omega

/-- THE RULE: a def (or a method) of the text, by its body. The body's reading t is chosen for each entry; it is run at the parameters' values -/
theorem fn_of {CX : CXT} {P : Program} {w : World} {K : PySem.W.Frag} {mg : Str → Option Value} {base : Heap} {k : Nat} {f : Addr} {name qual : Str} {params : Arguments} {body : List Stmt} {scope : Scope} {dV kV doc pm cdv ct oc : Value} {an od : Option Addr}
    {osl : Array (Option Value)} {N ps : List Str} {sp : Sp} (lk : K.lookup f = some ⟨oc, od, .func (PySem.W.fnOf name qual params body scope dV kV doc pm an cdv ct), osl⟩) (hcd : PySem.W.codeIn K cdv qual = true) (S : FnScope N ps scope)
    (len : ∀ vs H Q E, sp vs H Q E → vs.length = ps.length)
    (hbody : ∀ (A : Around) (outer : List Env) (s : Shared) (H : Hp) (vs : List V) (Q : VK) (E : XK), Room k (A.deeper (envOfC qual scope s.heap.objs.size f cdv)) → sp vs H Q E →
      ∃ t, PSs (cxOf CX P w K mg base N qual scope f cdv A outer s H E) body t ∧ t { nx := fun _ H' => Q .non H', rt := Q } (start N vs) H) :
    FnOk P w K mg base CX (k + 1) f (PySem.W.fnOf name qual params body scope dV kV doc pm an cdv ct) ps sp := by
  refine ⟨len, fun A outer s H args us vs Q E hr e0 hb r hsp => ?_⟩
  have hl := len _ _ _ _ hsp
  have KX : K.In s.heap := e0.mod.kin.keeps fun b o e => (e0.bs b o e).1
  have lim : s.heap.NoLimit := e0.mod.nolimit.keeps fun b o e => (e0.bs b o e).1
  have hkind : ∀ y ∈ ps.zip us, scope.names.lookup y.1 = some .local ∨ (scope.names.lookup y.1 = some .cell ∧ ((cellsFrom (s.heap.objs.size + 1) scope.names []).lookup y.1).isSome = true) := fun ⟨n, v⟩ hy => by
    rcases S.par n (List.of_mem_zip hy).1 with q | q
    · exact .inl q
    · exact .inr ⟨q, PySem.W.cellsFrom_some _ _ _ (.inl q)⟩
  refine codeAny_call_function hr.depth (KX _ _ lk) rfl S.co S.gen rfl (PySem.W.codeRec_of KX hcd) (hb _ _ _ _ ?_)
  refine wpAny_newFunctionEnv_cells S.kind hkind fun env he s1 x => ?_
  subst he
  refine ⟨lim.keeps x.toInCall.keep, codeAny_func ?_⟩
  obtain ⟨t, ht, hq⟩ := hbody A outer s H vs Q E (hr.deeper _) hsp
  have I : Inv (cxOf CX P w K mg base N qual scope f cdv A outer s H E) [] (start N vs) H s1 := inv_start S hr.hd e0 hl r x
  refine wpAny_mono (ht [] s1 (start N vs) H _ I hq) (fun fl s' hs => ?_) fun e s' hs => hs
  have fin : ∀ {σ' : St} {H' : Hp} {v : V} {u : Value}, Inv (cxOf CX P w K mg base N qual scope f cdv A outer s H E) [] σ' H' s' → RelV v u → Q v H' → CE outer P w H s Q u s' :=
    fun {σ' H' v u} J rv q => ⟨v, H', J.os, J.bare, J.base, J.hok, rv, q⟩
  cases fl with
  | ret u =>
    obtain ⟨v, σ', H', J, rv, q⟩ := hs
    exact fin J rv q
  | next =>
    obtain ⟨σ', H', J, q⟩ := hs
    exact fin (v := V.non) (u := Value.none) J rfl q
  | brk =>
    obtain ⟨_, _, _, q⟩ := hs
    exact False.elim q
  | cont =>
    obtain ⟨_, _, _, q⟩ := hs
    exact False.elim q
end L2

namespace L2
open PySem PySem.Spec PyProof.Rows
section
variable {X : Cx} {x : Str} {p pos : Pos} {e : Expr} {es : List Expr} {t : TA} {id T : String} {r : List V → Hp → VK → Prop}

def tCB (r : List V → Hp → VK → Prop) (t : TA) : TE := fun σ H Q => t σ H fun vs H1 => r vs H1 Q
/-- f(e, ..), f a built-in function -/
theorem pe_callB (hc : CallR X (.builtin id) r) (hg : Gl X x) (hm : X.mg x = none) (hv : bootBuiltins x = some (.builtin id)) (ha : PA X (e :: es) t) (hn : x ≠ "__name__" := by decide) (hdb : (x == ("__debug__" : Str)) = false := by decide)
    (he : starEach (e :: es) X.env = (false, eval e X.env) :: starEach es X.env := by rfl) (hpl : (backTo pos (starEach es X.env)).any (·.1) = false := by rfl) : PE X (.Call (.Name x p) (e :: es) [] pos) (tCB r t) := by
  intro pins s σ H Q I h
  refine wpAny_Call_Name_kw (ld_blt I hg hm hv ?_ hn hdb)
  exact PyProof.Rows.callWith_builtin1 (thn (ha pos pins s σ H _ I h) fun us s1 ⟨vs, H1, I1, r1, q1⟩ => hc pins s1 σ H1 vs us Q I1 r1 q1) he hpl
end
end L2

namespace HT
open PySem PyProof.Rows



section
open PySem.SeqAt
open PySem.AutoSeq1 (wpAny_loadPart')
open PySem.MeetsSeq PySem.MeetsSeq2 PySem.MeetsSeq3

end

section
variable {prog : Program} {w : World} {A : Around} {E : Value → Shared → Prop} {s : Shared}



/-! ### t[a:b], not the whole -/
/-- a slice's bound as a place among n (d where it is left out) -/
def sIx (n d : Nat) : Option Int → Nat
  | none => d
  | some v => if v < 0 then (v + (n : Int)).toNat else min v.toNat n
theorem sIx_nat (n d k : Nat) : sIx n d (some (k : Int)) = min k n := by
  show (if (k : Int) < 0 then ((k : Int) + (n : Int)).toNat else min (k : Int).toNat n) = min k n
  rw [if_neg (by omega), Int.toNat_natCast]

end
end HT

namespace L2
open PySem PySem.Spec PyProof.Rows

/-! ### the parts of a slice -/
abbrev TO := St → Hp → (Option Int → Hp → Prop) → Prop
/-- a slice's part (left out, or an int) -/
def PO (X : Cx) (e : Option Expr) (t : TO) : Prop :=
  ∀ (pins : List (Addr × Obj)) (s : Shared) (σ : St) (H : Hp) (Q : Option Int → Hp → Prop), Inv X pins σ H s → t σ H Q →
    wpAny (model X.prog X.w) X.A (evalPart e X.env) (fun u s' => ∃ o H', Inv X pins σ H' s' ∧ IsPart u o ∧ Q o H') X.xe s
def tNoPart : TO := fun _ H Q => Q none H
def tPart (t : TE) : TO := fun σ H Q => t σ H fun x H1 => ∃ i, x = .int i ∧ Q (some i) H1


section
variable {X : Cx} {e : Expr} {te : TE} {lo hi : Option Expr} {tl th : TO} {pos p2 : Pos}

theorem po_none : PO X none tNoPart := by
  intro pins s σ H Q I h
  rw [evalPart_none]
  exact wpAny_pure ⟨none, H, I, .none, h⟩
theorem po_some (h : PE X e te) : PO X (some e) (tPart te) := by
  intro pins s σ H Q I hw
  rw [evalPart_some]
  refine thn (h pins s σ H _ I hw) fun u s1 ⟨x, H1, I1, r1, q1⟩ => ?_
  obtain ⟨i, rfl, q⟩ := q1
  obtain ⟨t, rfl⟩ := r1
  exact ⟨some i, H1, I1, .int i t, q⟩

/-- what a slice of a value is, by values: the slice object stands at sl -/
def SlR (X : Cx) (r : V → Option Int → Option Int → Hp → VK → Prop) : Prop :=
  ∀ (pins : List (Addr × Obj)) (s : Shared) (σ : St) (H : Hp) (x : V) (v vl vu : Value) (lo hi : Option Int) (sl : Addr) (Q : VK), Inv X pins σ H s → RelV x v → s.heap.IsSliceOf sl vl vu .none → IsPart vl lo → IsPart vu hi → r x lo hi H Q →
    ∃ T id, typeLookup (.type T) "__getitem__" = pure (some (.builtin id)) ∧ s.TypeIs v T ∧ wpAny (model X.prog X.w) X.A (getItem v (.ref sl)) (EP X pins σ Q) X.xe s
theorem SlR.or {r r' : V → Option Int → Option Int → Hp → VK → Prop} (h : SlR X r) (h' : SlR X r') : SlR X (fun x lo hi H Q => r x lo hi H Q ∨ r' x lo hi H Q) := by
  intro pins s σ H x v vl vu lo hi sl Q I rx hs pl pu q
  rcases q with q | q
  · exact h pins s σ H x v vl vu lo hi sl Q I rx hs pl pu q
  · exact h' pins s σ H x v vl vu lo hi sl Q I rx hs pl pu q
def tSl (r : V → Option Int → Option Int → Hp → VK → Prop) (te : TE) (tl th : TO) : TE := fun σ H Q => te σ H fun x H1 => tl σ H1 fun l H2 => th σ H2 fun u H3 => r x l u H3 Q
/-- a[lo:hi], any a -/
theorem pe_slice {r : V → Option Int → Option Int → Hp → VK → Prop} (hr : SlR X r) (he : PE X e te) (hl : PO X lo tl) (hu : PO X hi th) : PE X (.Subscript e (.Slice lo hi none p2) pos) (tSl r te tl th) := by
  intro pins s σ H Q I h
  refine Subscript_ (thn (he pins s σ H _ I h) fun v s1 ⟨x, H1, I1, r1, q1⟩ => ?_)
  refine wpAny_Slice (thn (hl pins s1 σ H1 _ I1 q1) fun vl s2 ⟨l, H2, I2, pl, q2⟩ => thn (hu pins s2 σ H2 _ I2 q2) fun vu s3 ⟨u, H3, I3, pu, q3⟩ => ?_)
  rw [evalPart_none]
  refine wpAny_pure ?_
  have I4 : Inv X pins σ H3 { s3 with heap := s3.heap.push { cls := .type "slice", data := .fields #[vl, vu, .none] } } := I3.kept (t' := s3.toks) fun b ob q => Heap.get?_push_of_some _ q
  obtain ⟨T, id, hT, ht, hg⟩ := hr pins { s3 with heap := s3.heap.push { cls := .type "slice", data := .fields #[vl, vu, .none] } } σ H3 x v vl vu l u s3.heap.objs.size Q I4 r1 (Heap.IsSliceOf.new ..) pl pu q3
  show wpAny (model X.prog X.w) X.A (subscriptTail e (.Slice lo hi none p2) v (.ref s3.heap.objs.size)) (EP X pins σ Q) X.xe { s3 with heap := s3.heap.push { cls := .type "slice", data := .fields #[vl, vu, .none] } }
  exact tail_any (ops := [.ref s3.heap.objs.size, v]) ht hT hg (by with_unfolding_all rfl)

/-- the items of xs[lo:hi] -/
def cutV (xs : List V) (lo hi : Option Int) : List V := (xs.drop (HT.sIx xs.length 0 lo)).take (HT.sIx xs.length xs.length hi - HT.sIx xs.length 0 lo)
theorem cutV_length (xs : List V) (lo hi : Option Int) : (cutV xs lo hi).length ≤ xs.length := by
  unfold cutV
  rw [List.length_take, List.length_drop]
  omega

/-! ### t < u, t + u -/
end
end L2

namespace L2
open PySem PySem.Spec PyProof.Rows

/-! ### places -/
/-- the place that an index of any sign means -/
def ixN (n : Nat) (i : Int) : Option Nat := if 0 ≤ i then (if i < n then some i.toNat else none) else if -(n : Int) ≤ i then some (i + n).toNat else none
def atI {α : Type} (xs : List α) (i : Int) : Option α := (ixN xs.length i).bind fun j => xs[j]?
theorem ixN_seq {n : Nat} {i : Int} {j : Nat} (h : ixN n i = some j) : seqIndex? i n = some j ∧ j < n ∧ -(n : Int) ≤ i ∧ i < n := by
  unfold ixN at h
  by_cases h0 : 0 ≤ i
  · rw [if_pos h0] at h
    by_cases h1 : i < n
    · rw [if_pos h1] at h
      have e : i.toNat = j := Option.some.inj h
      exact ⟨by rw [seqIndex_of h0 h1, e], by omega, by omega, h1⟩
    · rw [if_neg h1] at h; cases h
  · rw [if_neg h0] at h
    by_cases h1 : -(n : Int) ≤ i
    · rw [if_pos h1] at h
      have e : (i + n).toNat = j := Option.some.inj h
      exact ⟨by rw [seqIndex_neg (by omega) h1, e], by omega, h1, by omega⟩
    · rw [if_neg h1] at h; cases h
theorem atI_get {α : Type} {xs : List α} {i : Int} {v : α} (h : atI xs i = some v) : ∃ j, seqIndex? i xs.length = some j ∧ xs[j]? = some v ∧ j < xs.length ∧ -(xs.length : Int) ≤ i ∧ i < xs.length := by
  unfold atI at h
  cases e : ixN xs.length i with
  | none => rw [e] at h; cases h
  | some j =>
    rw [e] at h
    obtain ⟨h1, h2, h3, h4⟩ := ixN_seq e
    exact ⟨j, h1, h, h2, h3, h4⟩
theorem atI_nat {α : Type} {xs : List α} {j : Nat} {v : α} (h : xs[j]? = some v) : atI xs (j : Int) = some v := by
  have hj : j < xs.length := (List.getElem?_eq_some_iff.mp h).1
  have e : ixN xs.length (j : Int) = some j := by
    unfold ixN
    rw [if_pos (by omega), if_pos (by omega)]; simp
  unfold atI; rw [e]; exact h

/-! ### what may be subscripted -/
/-- what stands as an index of a plain subscript -/
def PlainIx (b : Expr) : Prop := ∀ o i, subscripted b false o i = operate [o, i] (getItem o i)
/-- a subscript by values -/
def IxR (X : Cx) (r : R2) : Prop :=
  ∀ (value slice : Expr) (pins : List (Addr × Obj)) (s : Shared) (σ : St) (H : Hp) (x y : V) (v u : Value) (Q : VK), Inv X pins σ H s → RelV x v → RelV y u → r x y H Q →
    subscripted slice false v u = operate [v, u] (getItem v u) → wpAny (model X.prog X.w) X.A (subscriptTail value slice v u) (EP X pins σ Q) X.xe s
/-- a call of a builtin's method by values: the receiver, the arguments -/
def MtR (X : Cx) (id : String) (r : V → List V → Hp → VK → Prop) : Prop :=
  ∀ (pins : List (Addr × Obj)) (s : Shared) (σ : St) (H : Hp) (x : V) (xs : List V) (v : Value) (us : List Value) (Q : VK), Inv X pins σ H s → RelV x v → Vals xs us → r x xs H Q →
    wpAny (model X.prog X.w) X.A (call (.builtin id) (v :: us)) (EP X pins σ Q) X.xe s
section
variable {X : Cx} {a b : Expr} {ta tb : TE} {pos : Pos}
theorem IxR.or {r r' : R2} (h : IxR X r) (h' : IxR X r') : IxR X (fun x y H Q => r x y H Q ∨ r' x y H Q) := by
  intro value slice pins s σ H x y v u Q I rx ry q hs
  rcases q with q | q
  · exact h value slice pins s σ H x y v u Q I rx ry q hs
  · exact h' value slice pins s σ H x y v u Q I rx ry q hs
theorem MtR.or {id : String} {r r' : V → List V → Hp → VK → Prop} (h : MtR X id r) (h' : MtR X id r') : MtR X id (fun x xs H Q => r x xs H Q ∨ r' x xs H Q) := by
  intro pins s σ H x xs v us Q I rx rs q
  rcases q with q | q
  · exact h pins s σ H x xs v us Q I rx rs q
  · exact h' pins s σ H x xs v us Q I rx rs q
/-- a[b] -/
theorem pe_ix {r : R2} (hr : IxR X r) (ha : PE X a ta) (hb : PE X b tb) (hs : PlainIx b) : PE X (.Subscript a b pos) (tOp r ta tb) := by
  intro pins s σ H Q I h
  exact Subscript_ (binT ha hb I h fun v u s2 x y H2 I2 rx ry q => hr a b pins s2 σ H2 x y v u Q I2 rx ry q (hs _ _))

def rIxL (K : PySem.W.Frag) : R2 := fun x y H Q => ∃ p xs i v, x = .ref p ∧ y = .int i ∧ SqL K H p xs ∧ atI xs i = some v ∧ Q v H
def rIxT (K : PySem.W.Frag) : R2 := fun x y H Q => ∃ p xs i v, x = .ref p ∧ y = .int i ∧ SqT K H p xs ∧ atI xs i = some v ∧ Q v H
theorem ix_list : IxR X (rIxL X.K) := by
  intro value slice pins s σ H x y v u Q I rx ry h hs
  obtain ⟨p, xs, i, z, rfl, rfl, hq, he, q⟩ := h
  cases rx
  obtain ⟨t, rfl⟩ := ry
  obtain ⟨its, r, pl, hz⟩ := I.list hq
  obtain ⟨j, h1, h2, h3, h4, h5⟩ := atI_get he
  obtain ⟨w, ew, rw'⟩ := r.get h2
  have hl := r.length
  have hn := line63
  have fin : EP X pins σ Q w s := ⟨z, H, I, rw', q⟩
  by_cases h0 : 0 ≤ i
  · have hj : i.toNat = j := by
      rw [seqIndex_of h0 h5] at h1
      exact Option.some.inj h1
    exact item_listR pl.isList h0 (by omega) (by rw [hj]; simpa using ew) fin hs
  · have hj : (i + (its.toArray.size : Int)).toNat = j := by
      rw [seqIndex_neg (by omega) h4] at h1
      rw [List.size_toArray, ← hl]
      exact Option.some.inj h1
    exact subscriptTail_builtinR (x := w) pl.isList.typeIs slot_list_getitem.lookup
      (wpAny_getItem_list_neg (Q := fun r s' => r = w ∧ EP X pins σ Q r s') pl.isList (by omega) (by rw [List.size_toArray] <;> omega) (by omega) (by rw [hj]; simpa using ew) ⟨rfl, fin⟩) hs
theorem ix_tup : IxR X (rIxT X.K) := by
  intro value slice pins s σ H x y v u Q I rx ry h hs
  obtain ⟨p, xs, i, z, rfl, rfl, hq, he, q⟩ := h
  cases rx
  obtain ⟨t, rfl⟩ := ry
  obtain ⟨its, r, pl, hz⟩ := I.tuple hq
  obtain ⟨j, h1, h2, h3, h4, h5⟩ := atI_get he
  obtain ⟨w, ew, rw'⟩ := r.get h2
  have hl := r.length
  have hn := line63
  have fin : EP X pins σ Q w s := ⟨z, H, I, rw', q⟩
  exact subscriptTail_builtinR (x := w) pl.typeIs slot_tuple_getitem.lookup
    (getItem_tuple (j := j) (Q := fun r s' => r = w ∧ EP X pins σ Q r s') pl (by omega) (by omega) (by rw [List.size_toArray, ← hl]; exact h1) (by simpa using ew) ⟨rfl, fin⟩) hs

/-! ### xs[i] = v, any sign -/
theorem Inv.lst {pins : List (Addr × Obj)} {σ : St} {H : Hp} {s : Shared} {p : Addr} {xs : List V} (I : Inv X pins σ H s) (h : H p = some (.lst xs)) :
    ∃ (its : List Value) (n : Nat), Vals xs its ∧ s.heap.get? p = some { cls := .type "list", data := .seq its.toArray n } ∧ xs.length ≤ sizeLine := by
  obtain ⟨z, its, n, r, e⟩ := I.hok p _ h
  exact ⟨its, n, r, e, z⟩

/-! ### slices -/
theorem slice_bounds (lo hi : Option Int) (n : Nat) : (sliceBounds lo hi none n).1 = ((HT.sIx n 0 lo : Nat) : Int) ∧ (sliceBounds lo hi none n).2.1 = ((HT.sIx n n hi : Nat) : Int) ∧ (sliceBounds lo hi none n).2.2 = 1 := by
  refine ⟨?_, ?_, rfl⟩
  · cases lo with
    | none => simp [sliceBounds, HT.sIx]
    | some i =>
      simp only [sliceBounds, HT.sIx, Option.getD_none, show (1 : Int) > 0 by decide, if_true]
      by_cases h : i < 0
      · simp only [h, if_true] <;> omega
      · simp only [h, if_false] <;> omega
  · cases hi with
    | none => simp [sliceBounds, HT.sIx]
    | some i =>
      simp only [sliceBounds, HT.sIx, Option.getD_none, show (1 : Int) > 0 by decide, if_true]
      by_cases h : i < 0
      · simp only [h, if_true] <;> omega
      · simp only [h, if_false] <;> omega
theorem slicePick_cut (its : List Value) (lo hi : Option Int) : slicePick its.toArray lo hi none = ((its.drop (HT.sIx its.length 0 lo)).take (HT.sIx its.length its.length hi - HT.sIx its.length 0 lo)).toArray := by
  obtain ⟨h1, h2, h3⟩ := slice_bounds lo hi its.toArray.size
  unfold slicePick
  rw [h1, h2, h3]
  simp only [sliceRange_one, pick_run, List.size_toArray] <;> rfl
/-- xs[lo:hi] of a list: a new list -/
def rSlL (K : PySem.W.Frag) : V → Option Int → Option Int → Hp → VK → Prop := fun x lo hi H Q => ∃ a xs, x = .ref a ∧ SqL K H a xs ∧ ∀ p, H p = none → Q (.ref p) (upd H p (.lst (cutV xs lo hi)))
theorem sl_list : SlR X (rSlL X.K) := by
  intro pins s σ H x v vl vu lo hi sl Q I rx hs pl pu h
  obtain ⟨a, xs, rfl, hx, q⟩ := h
  cases rx
  obtain ⟨its, r, ht, hz⟩ := I.list hx
  have hlen := r.length
  refine ⟨"list", _, slot_list_getitem.lookup, ht.isList.typeIs, ?_⟩
  refine wpAny_getItem_list_slice ht.isList hs pl pu .none (by simp) ?_ (by rw [List.size_toArray] <;> omega)
  rw [slicePick_cut, ← hlen]
  refine ⟨.ref s.heap.objs.size, _, I.laid (t' := s.toks) (o := .lst (cutV xs lo hi)) (fun b ob q => Heap.get?_push_of_some _ q) (Nat.le_refl _) ?_, rfl, q _ (I.hok.fresh (Nat.le_refl _))⟩
  exact ⟨Nat.le_trans (cutV_length xs lo hi) hz, _, 0, (r.drop (HT.sIx xs.length 0 lo)).take (HT.sIx xs.length xs.length hi - HT.sIx xs.length 0 lo), Heap.get?_push_size _ rfl⟩

/-! ### in, not in: flat items -/
def flatV : V → Bool
  | .non => true
  | .bl _ => true
  | .int _ => true
  | .str _ => true
  | _ => false
/-- == of flat values -/
def eqV : V → V → Bool
  | .non, .non => true
  | .bl a, .bl b => a == b
  | .bl a, .int b => (if a then 1 else 0) == b
  | .int a, .bl b => a == (if b then 1 else 0)
  | .int a, .int b => a == b
  | .str a, .str b => a == b
  | _, _ => false
theorem eqAt_V {A : Around} {s : Shared} {y x : V} {u v : Value} (ry : RelV y u) (rx : RelV x v) (fy : flatV y = true) (fx : flatV x = true) : SeqAt.EqAt A s u v (eqV y x) := by
  cases y with
  | non =>
    cases ry
    cases x with
    | non => cases rx; exact SeqAt.EqAt.same _
    | bl b => cases rx; exact SeqAt.EqAt.none_bool b
    | int b => obtain ⟨t, rfl⟩ := rx; exact SeqAt.EqAt.none_int b t
    | str b => obtain ⟨t, rfl⟩ := rx; exact SeqAt.EqAt.none_str b t
    | _ => exact absurd (show false = true from fx) Bool.false_ne_true
  | bl a =>
    cases ry
    cases x with
    | non => cases rx; exact SeqAt.EqAt.bool_none a
    | bl b => cases rx; exact SeqAt.EqAt.bool_bool a b
    | int b => obtain ⟨t, rfl⟩ := rx; exact SeqAt.EqAt.bool_int a b t
    | str b => obtain ⟨t, rfl⟩ := rx; exact SeqAt.EqAt.bool_str a b t
    | _ => exact absurd (show false = true from fx) Bool.false_ne_true
  | int a =>
    obtain ⟨t', rfl⟩ := ry
    cases x with
    | non => cases rx; exact SeqAt.EqAt.int_none a t'
    | bl b => cases rx; exact SeqAt.EqAt.int_bool a t' b
    | int b => obtain ⟨t, rfl⟩ := rx; exact SeqAt.EqAt.int_int a t' b t
    | str b => obtain ⟨t, rfl⟩ := rx; exact SeqAt.EqAt.int_str a t' b t
    | _ => exact absurd (show false = true from fx) Bool.false_ne_true
  | str a =>
    obtain ⟨t', rfl⟩ := ry
    cases x with
    | non => cases rx; exact SeqAt.EqAt.str_none a t'
    | bl b => cases rx; exact SeqAt.EqAt.str_bool a t' b
    | int b => obtain ⟨t, rfl⟩ := rx; exact SeqAt.EqAt.str_int a t' b t
    | str b => obtain ⟨t, rfl⟩ := rx; exact SeqAt.EqAt.str_str a t' b t
    | _ => exact absurd (show false = true from fx) Bool.false_ne_true
  | _ => exact absurd (show false = true from fy) Bool.false_ne_true
/-- the items' answers, read off the values (a value's own answer does not lean on its token) -/
def eqU (x : V) (u : Value) : Bool := match u with
  | .none => eqV .non x
  | .bool b => eqV (.bl b) x
  | .int i _ => eqV (.int i) x
  | .str z _ => eqV (.str z) x
  | _ => false
theorem eqU_of {x y : V} {u : Value} (r : RelV y u) (f : flatV y = true) : eqU x u = eqV y x := by
  cases y with
  | non => cases r; rfl
  | bl b => cases r; rfl
  | int i => obtain ⟨t, rfl⟩ := r; rfl
  | str z => obtain ⟨t, rfl⟩ := r; rfl
  | _ => exact absurd (show false = true from f) Bool.false_ne_true
theorem mem_eqAt {A : Around} {s : Shared} {x : V} {v : Value} (rx : RelV x v) (fx : flatV x = true) : ∀ {xs : List V} {us : List Value}, Vals xs us → xs.all flatV = true → ∀ u ∈ us, SeqAt.EqAt A s u v (eqU x u)
  | _, _, .nil, _ => fun u hu => by cases hu
  | y :: xs, u :: us, .cons r t, f => fun u' hu => by
    rw [List.all_cons, Bool.and_eq_true] at f
    rcases List.mem_cons.mp hu with rfl | hu
    · rw [eqU_of r f.1]; exact eqAt_V r rx f.1 fx
    · exact mem_eqAt rx fx t f.2 u' hu

/-! ### len, list(x), tuple(x) of any list or tuple that is read -/
theorem call_len_seq : CallR X (.builtin "len") (fun xs H Q => ∃ p ys, xs = [.ref p] ∧ (SqL X.K H p ys ∨ SqT X.K H p ys) ∧ Q (.int ys.length) H) := by
  intro pins s σ H xs us Q I r h
  obtain ⟨p, ys, rfl, hq, q⟩ := h
  obtain ⟨u, rfl, rx⟩ := vals1 r
  cases rx
  have hn := line63
  rcases hq with hq | hq
  · obtain ⟨its, r', pl, hz⟩ := I.list hq
    have hlen := r'.length
    exact Calls.call_len_list pl.isList (by simp only [List.size_toArray] <;> omega) ⟨.int ys.length, H, I.tok _, ⟨s.toks + 1, by rw [List.size_toArray, hlen]⟩, q⟩
  · obtain ⟨its, r', pl, hz⟩ := I.tuple hq
    have hlen := r'.length
    exact len_tuple pl (by simp only [List.size_toArray] <;> omega) ⟨.int ys.length, H, I.tok _, ⟨s.toks + 1, by rw [List.size_toArray, hlen]⟩, q⟩
theorem CallR.or {f : Value} {r r' : List V → Hp → VK → Prop} (h : CallR X f r) (h' : CallR X f r') : CallR X f (fun xs H Q => r xs H Q ∨ r' xs H Q) := by
  intro pins s σ H xs us Q I rs q
  rcases q with q | q
  · exact h pins s σ H xs us Q I rs q
  · exact h' pins s σ H xs us Q I rs q

/-! ### the call of a builtin's method: o.m(..) -/
/-- the value is of that builtin type -/
def tyV (K : PySem.W.Frag) (T : String) (x : V) (H : Hp) : Prop := match x with
  | .str _ => T = "str"
  | .int _ => T = "int"
  | .ref p => (T = "list" ∧ ∃ xs, SqL K H p xs) ∨ (T = "tuple" ∧ ∃ o, K.lookup p = some o ∧ o.cls = .type "tuple" ∧ o.dict = none) ∨
      (T = "dict" ∧ ((∃ kvs, H p = some (.dK kvs)) ∨ ∃ kvs, H p = some (.dT kvs))) ∨ (T = "set" ∧ ∃ S n, H p = some (.set S n))
  | _ => False
theorem tyV_is {pins : List (Addr × Obj)} {σ : St} {H : Hp} {s : Shared} {T : String} {x : V} {v : Value} (I : Inv X pins σ H s) (r : RelV x v) (ty : tyV X.K T x H) :
    s.TypeIs v T ∧ ∀ a, v = .ref a → ∃ ob, s.heap.get? a = some ob ∧ ob.dict = none := by
  cases x with
  | str z =>
    obtain ⟨t, rfl⟩ := r
    cases (show T = "str" from ty)
    exact ⟨typeIs_str s z t, fun _ e => nomatch e⟩
  | int i =>
    obtain ⟨t, rfl⟩ := r
    cases (show T = "int" from ty)
    exact ⟨typeIs_int s i t, fun _ e => nomatch e⟩
  | ref p =>
    cases r
    rcases ty with ⟨rfl, xs, hq⟩ | ⟨rfl, o, hk, hc, hd⟩ | ⟨rfl, hk⟩ | ⟨rfl, S, n, hk⟩
    · obtain ⟨its, _, pl, _⟩ := I.list hq
      refine ⟨pl.isList.typeIs, fun a e => ?_⟩
      cases e
      obtain ⟨o, n, e, c, hd, _⟩ := pl
      exact ⟨o, e, hd⟩
    · refine ⟨⟨o, I.kIn p o hk, hc⟩, fun a e => ?_⟩
      cases e
      exact ⟨o, I.kIn _ o hk, hd⟩
    · have z : ∃ o, s.heap.get? p = some o ∧ o.ExactDict := by
        rcases hk with ⟨kvs, hk⟩ | ⟨kvs, hk⟩
        · obtain ⟨_, _, _, _, o, _, _, e, ex, _⟩ := I.hok p _ hk
          exact ⟨o, e, ex⟩
        · obtain ⟨_, _, _, _, o, _, _, e, ex, _⟩ := I.hok p _ hk
          exact ⟨o, e, ex⟩
      obtain ⟨o, e, ex⟩ := z
      refine ⟨⟨o, e, ex.1⟩, fun a e2 => ?_⟩
      cases e2
      exact ⟨o, e, ex.2.1⟩
    · obtain ⟨o, _, _, _, e, ex, _⟩ := I.hok p _ hk
      refine ⟨⟨o, e, ex.1⟩, fun a e2 => ?_⟩
      cases e2
      exact ⟨o, e, ex.2.1⟩
  | _ => exact False.elim ty
def tBM0 (K : PySem.W.Frag) (T : String) (r : V → List V → Hp → VK → Prop) (to : TE) : TE := fun σ H Q => to σ H fun x H1 => tyV K T x H1 ∧ r x [] H1 Q
def tBM (K : PySem.W.Frag) (T : String) (r : V → List V → Hp → VK → Prop) (to : TE) (t : TA) : TE := fun σ H Q => to σ H fun x H1 => tyV K T x H1 ∧ t σ H1 fun xs H2 => r x xs H2 Q
variable {o e : Expr} {es : List Expr} {to : TE} {t : TA} {name : Str} {apos cpos : Pos} {T id : String} {r : V → List V → Hp → VK → Prop}
theorem pe_bm0 (pa : PlainAttrs T) (slot : Slot T name id) (hty : typeOf (.builtin id) = pure (.type "method_descriptor")) (hm : MtR X id r) (ho : PE X o to)
    (hbase : attributeBase o name X.env (eval o X.env) = eval o X.env := by rfl) (hline : (apos.endLine == cpos.line) = true := by rfl) : PE X (.Call (.Attribute o name apos) [] [] cpos) (tBM0 X.K T r to) := by
  intro pins s σ H Q I h
  refine wpAny_Call_method0_late hbase hline (thn (ho pins s σ H _ I h) fun v s1 ⟨x, H1, I1, r1, ty, q1⟩ => ?_)
  obtain ⟨h1, h2⟩ := tyV_is I1 r1 ty
  exact ⟨T, id, pa, slot, hty, h1, h2, Calls.callWith_builtin rfl (PySem.evalArgs_none (hm pins s1 σ H1 x [] v [] Q I1 r1 .nil q1))⟩
theorem pe_bm (pa : PlainAttrs T) (slot : Slot T name id) (hty : typeOf (.builtin id) = pure (.type "method_descriptor")) (hm : MtR X id r) (ho : PE X o to) (ha : PA X (e :: es) t)
    (hbase : attributeBase o name X.env (eval o X.env) = eval o X.env := by rfl)
    (hfew : ((backTo cpos (starEach (e :: es) X.env)).all (fun x => !x.1) && (backToKw cpos (keywordEach [] X.env)).all (fun x => x.1.isSome)
      && decide ((e :: es).length + ([] : List Keyword).length + (if ([] : List Keyword).isEmpty then 0 else 1) < 30)) = true := by rfl)
    (hline : (apos.endLine == cpos.line) = true := by rfl) (hs : starEach (e :: es) X.env = (false, eval e X.env) :: starEach es X.env := by rfl) (hplain : (backTo cpos (starEach es X.env)).any (·.1) = false := by rfl) :
    PE X (.Call (.Attribute o name apos) (e :: es) [] cpos) (tBM X.K T r to t) := by
  intro pins s σ H Q I h
  refine wpAny_Call_method_late hbase hfew hline rfl (thn (ho pins s σ H _ I h) fun v s1 ⟨x, H1, I1, r1, ty, q1⟩ => ?_)
  obtain ⟨h1, h2⟩ := tyV_is I1 r1 ty
  refine ⟨T, id, pa, slot, hty, h1, h2, ?_⟩
  have hA := ha cpos pins s1 σ H1 _ I1 q1
  rw [hs] at hA ⊢
  refine Calls.callWith_builtin (by show (false || (backTo cpos (starEach es X.env)).any (·.1)) = false; rw [hplain] <;> rfl) (Calls.evalArgs_plain ?_)
  exact thn hA fun us s2 ⟨vs, H2, I2, r2, q2⟩ => hm pins s2 σ H2 x vs v us Q I2 r1 r2 q2
/- xs.append(e), list.index on a module's tuple .. are MtR facts of 06m -/
end
end L2

namespace L2
open PySem PySem.Spec PyProof.Rows

def MtM (X : Cx) (id : String) (r : V → List V → Hp → VK → Prop) : Prop :=
  ∀ (pins : List (Addr × Obj)) (s : Shared) (σ : St) (H : Hp) (x : V) (xs : List V) (v : Value) (us : List Value) (Q : VK), Inv X pins σ H s → RelV x v → Vals xs us → r x xs H Q →
    wpAny (model X.prog X.w) X.A (call (.builtin id) (v :: us)) (EP X pins σ Q) X.xe s

/-! ### lists of values -/
theorem Vals.one : ∀ {x : V} {us : List Value}, Vals [x] us → ∃ u, us = [u] ∧ RelV x u
  | _, _, .cons r .nil => ⟨_, rfl, r⟩
theorem Vals.two : ∀ {x y : V} {us : List Value}, Vals [x, y] us → ∃ u v, us = [u, v] ∧ RelV x u ∧ RelV y v
  | _, _, _, .cons r (.cons q .nil) => ⟨_, _, rfl, r, q⟩
theorem Vals.zero : ∀ {us : List Value}, Vals [] us → us = []
  | _, .nil => rfl
theorem Vals.dropLast {xs : List V} {us : List Value} (h : Vals xs us) : Vals xs.dropLast us.dropLast := by
  induction h with
  | nil => exact .nil
  | cons r t ih =>
    cases t with
    | nil => exact .nil
    | cons q t' => exact .cons r ih
theorem Vals.eraseIdx : ∀ {xs : List V} {us : List Value} (i : Nat), Vals xs us → Vals (xs.eraseIdx i) (us.eraseIdx i)
  | _, _, _, .nil => .nil
  | _, _, 0, .cons _ t => t
  | _, _, i + 1, .cons r t => .cons r (Vals.eraseIdx i t)
theorem erase_last {α : Type} (l : List α) : l.eraseIdx (l.length - 1) = l.dropLast := by
  induction l with
  | nil => rfl
  | cons a r ih =>
    cases r with
    | nil => rfl
    | cons b r =>
      have e : (a :: b :: r).length - 1 = ((b :: r).length - 1) + 1 := by
        have h1 : (a :: b :: r).length = r.length + 2 := rfl
        have h2 : (b :: r).length = r.length + 1 := rfl
        omega
      rw [e, List.eraseIdx_cons_succ, ih]
      all_goals rfl

section
variable {X : Cx} {pins : List (Addr × Obj)} {σ : St} {H : Hp} {s : Shared} {l b : Addr} {xs ys zs : List V}

/-! ### the two steps: a tracked list is rewritten, a new list is laid -/
theorem Inv.lset {its its' : List Value} {n : Nat} {f : Array Value → Array Value} {t' : Nat} (I : Inv X pins σ H s) (hH : H l = some (.lst xs))
    (e : s.heap.get? l = some { cls := .type "list", data := .seq its.toArray n }) (hf : f its.toArray = its'.toArray) (hv : Vals ys its') (hz : ys.length ≤ sizeLine) :
    Inv X pins σ (upd H l (.lst ys)) { s with heap := s.heap.update l (Obj.mapSeq f), toks := t' } := by
  have q := PySem.IsL.update e f
  rw [hf] at q
  refine I.write (x := l) (e := l) (by rw [hH]; exact trivial) (.inl rfl) (fun b' u hb hu => (Heap.get?_update_other s.heap (Obj.mapSeq f) (Ne.symm hb)).trans hu) ⟨_, q⟩ ?_
  exact ⟨hz, its', _, hv, q⟩
theorem Inv.lnew {its : List Value} {t' : Nat} (I : Inv X pins σ H s) (hv : Vals ys its) (hz : ys.length ≤ sizeLine) :
    Inv X pins σ (upd H s.heap.objs.size (.lst ys)) { s with heap := s.heap.push { cls := .type "list", data := .seq its.toArray }, toks := t' } :=
  I.laid (fun _ _ q => Heap.get?_push_of_some _ q) (Nat.le_refl _) ⟨hz, its, 0, hv, Heap.get?_push_size _ rfl⟩
theorem Inv.fresh (I : Inv X pins σ H s) : H s.heap.objs.size = none := I.hok.fresh (Nat.le_refl _)
theorem Inv.lstM (I : Inv X pins σ H s) (hH : H l = some (.lst xs)) : xs.length ≤ sizeLine ∧ ∃ (its : List Value) (n : Nat), Vals xs its ∧ xs.length = its.length ∧ s.heap.get? l = some { cls := .type "list", data := .seq its.toArray n } := by
  obtain ⟨z, its, n, r, e⟩ := I.hok l _ hH
  exact ⟨z, its, n, r, r.length, e⟩

theorem notLongL {n : Nat} (h : n ≤ sizeLine) : Builtin.List.listTooLong n = false := by
  unfold Builtin.List.listTooLong
  exact decide_eq_false (by omega)
end

section
variable {X : Cx}

/-! ### methods -/
def rAppend : V → List V → Hp → VK → Prop := fun x vs H Q => ∃ l xs y, x = .ref l ∧ vs = [y] ∧ H l = some (.lst xs) ∧ xs.length < sizeLine ∧ Q .non (upd H l (.lst (xs ++ [y])))
theorem mt_append : MtM X "list.append" rAppend := by
  intro pins s σ H x vs v us Q I rx rv h
  obtain ⟨l, xs, y, rfl, rfl, hH, hz, q⟩ := h
  cases rx
  obtain ⟨u, rfl, ru⟩ := rv.one
  obtain ⟨z, its, n, r, hl, e⟩ := I.lstM hH
  refine call_meets F.slot_list_append ⟨_, e, rfl⟩ F.entry_list_append (F.args_list_append_2 _ _) (PySem.list_append l its.toArray n u (by rw [List.size_toArray]; omega)) ⟨e, ?_⟩
  refine ⟨.non, _, I.lset (its' := its ++ [u]) hH e (by simp) (r.append (.cons ru .nil)) ?_, rfl, q⟩
  rw [List.length_append, List.length_singleton]
  omega

def rExtend : V → List V → Hp → VK → Prop := fun x vs H Q => ∃ l b xs zs, x = .ref l ∧ vs = [.ref b] ∧ H l = some (.lst xs) ∧ H b = some (.lst zs) ∧ xs.length + zs.length ≤ sizeLine ∧ Q .non (upd H l (.lst (xs ++ zs)))
theorem mt_extend : MtM X "list.extend" rExtend := by
  intro pins s σ H x vs v us Q I rx rv h
  obtain ⟨l, b, xs, zs, rfl, rfl, hH, hB, hz, q⟩ := h
  cases rx
  obtain ⟨u, rfl, ru⟩ := rv.one
  cases ru
  obtain ⟨z, its, n, r, hl, e⟩ := I.lstM hH
  obtain ⟨z2, its2, n2, r2, hl2, e2⟩ := I.lstM hB
  have hsz : its.toArray.size + its2.toArray.size ≤ sizeLine := by rw [List.size_toArray, List.size_toArray]; omega
  have hlong : ¬ (!its.toArray.isEmpty && Builtin.List.listTooLong (its.toArray.size + its2.toArray.size)) = true := by
    rw [notLongL hsz, Bool.and_false]
    exact Bool.false_ne_true
  refine call_meets F.slot_list_extend ⟨_, e, rfl⟩ F.entry_list_extend (F.args_list_extend_2 _ _)
    (AutoSeq1.list_extend_list_list_0 l its.toArray n b its2.toArray n2 hlong (by rw [List.size_toArray]; omega) (by omega)) ⟨e, e2, ?_⟩
  refine ⟨.non, _, I.lset (its' := its ++ its2) hH e (by simp) (r.append r2) ?_, rfl, q⟩
  rw [List.length_append]
  omega

def rPop : V → List V → Hp → VK → Prop := fun x vs H Q => ∃ l xs y, x = .ref l ∧ vs = [] ∧ H l = some (.lst xs) ∧ xs[xs.length - 1]? = some y ∧ Q y (upd H l (.lst xs.dropLast))
theorem mt_pop : MtM X "list.pop" rPop := by
  intro pins s σ H x vs v us Q I rx rv h
  obtain ⟨l, xs, y, rfl, rfl, hH, hy, q⟩ := h
  cases rx
  have hus := rv.zero
  subst hus
  obtain ⟨z, its, n, r, hl, e⟩ := I.lstM hH
  obtain ⟨u, hu, ru⟩ := r.get hy
  have hy' : its.toArray[its.toArray.size - 1]? = some u := by
    show its.toArray[its.length - 1]? = some u
    rw [← Array.getElem?_toList, ← hl]
    exact hu
  refine call_meets F.slot_list_pop ⟨_, e, rfl⟩ F.entry_list_pop (F.args_list_pop_1 _) (MeetsSeq.list_pop_last l its.toArray n u hy' (by rw [List.size_toArray]; omega)) ⟨e, ?_⟩
  refine ⟨y, _, I.lset (its' := its.dropLast) hH e ?_ r.dropLast ?_, ru, q⟩
  · show its.toArray.eraseIdxIfInBounds (its.toArray.size - 1) = its.dropLast.toArray
    rw [List.size_toArray, List.eraseIdxIfInBounds_toArray, erase_last]
  · rw [List.length_dropLast]
    omega




/-! ### list + list, list += list, list * int -/
def rCat : R2 := fun x y H Q => ∃ l b xs zs, x = .ref l ∧ y = .ref b ∧ H l = some (.lst xs) ∧ H b = some (.lst zs) ∧ xs.length + zs.length ≤ sizeLine ∧ ∀ p, H p = none → Q (.ref p) (upd H p (.lst (xs ++ zs)))
theorem op_cat : OpR X (binaryOp .Add) rCat := by
  intro pins s σ H x y v u Q I rx ry h
  obtain ⟨l, b, xs, zs, rfl, rfl, hH, hB, hz, q⟩ := h
  cases rx
  cases ry
  obtain ⟨z, its, n, r, hl, e⟩ := I.lstM hH
  obtain ⟨z2, its2, n2, r2, hl2, e2⟩ := I.lstM hB
  refine PySem.P.add_list e e2 ?_ (by rw [List.size_toArray, List.size_toArray]; omega)
  have ea : its.toArray ++ its2.toArray = (its ++ its2).toArray := by simp
  rw [ea]
  exact ⟨.ref _, _, I.lnew (t' := s.toks) (r.append r2) (by rw [List.length_append]; omega), rfl, q _ I.fresh⟩

/-! ### del xs[i] -/
end

/-! ### xs[a:b] = ys -/
section
variable {prog : Program} {w : World} {A : Around} {E : Value → Shared → Prop} {s : Shared}
end

section
variable {X : Cx}
end
end L2

namespace L2
open PySem PySem.Spec PyProof.Rows

theorem Vals.ints : ∀ {ns : List Int} {us : List Value}, Vals (ns.map V.int) us → IntsAre us ns
  | [], us, h => by
    rw [List.map_nil] at h
    cases h
    exact IntsAre.nil
  | n :: ns, us, h => by
    rw [List.map_cons] at h
    cases h with
    | cons r t =>
      obtain ⟨k, rfl⟩ := r
      exact IntsAre.cons n k (Vals.ints t)
theorem Vals.strs : ∀ {xs : List Str} {us : List Value}, Vals (xs.map V.str) us → StrsAre us xs
  | [], us, h => by
    rw [List.map_nil] at h
    cases h
    exact StrsAre.nil
  | x :: xs, us, h => by
    rw [List.map_cons] at h
    cases h with
    | cons r t =>
      obtain ⟨k, rfl⟩ := r
      exact StrsAre.cons x k (Vals.strs t)
theorem Vals.ref1 {a : Addr} {us : List Value} (r : Vals [V.ref a] us) : us = [Value.ref a] := by
  cases r with
  | cons r t =>
    cases t
    cases r
    rfl

/-! ### the library's walks over a list of ints, kept objects alone -/
section
variable {prog : Program} {w : World} {A : Around} {E : Value → Shared → Prop} {s : Shared} {l : Addr} {its : List Value} {ns : List Int} {Q : Value → Shared → Prop}
theorem sum_raw (hh : A.handled = none) (hl : s.heap.IsList l its.toArray) (hi : IntsAre its ns)
    (h : ∀ h' tk t', (∀ b o, s.heap.get? b = some o → h'.get? b = some o) → Q (.int ns.sum t') { s with heap := h', toks := tk }) : wpAny (model prog w) A (call (.builtin "sum") [.ref l]) Q E s := by
  obtain ⟨xs, e⟩ := hi.allInts.items
  have hn : numsOf (intItems xs).toList = ns := by rw [← e]; exact hi.numsOf
  rw [nums_intItems] at hn
  rw [e] at hl
  refine PySem.sum_intListG hh hl fun h' tk t' hk => ?_
  have := h h' tk t' hk
  rw [preSum_eq, List.take_of_length_le (by simp), hn]; exact this
theorem max_raw (hh : A.handled = none) (hl : s.heap.IsList l its.toArray) (hi : IntsAre its ns) (hne : 0 < ns.length)
    (h : ∀ h' tk M t', (∀ b o, s.heap.get? b = some o → h'.get? b = some o) → M ∈ ns → (∀ a, a ∈ ns → a ≤ M) → Q (.int M t') { s with heap := h', toks := tk }) : wpAny (model prog w) A (call (.builtin "max") [.ref l]) Q E s := by
  obtain ⟨xs, e⟩ := hi.allInts.items
  have hn : numsOf (intItems xs).toList = ns := by rw [← e]; exact hi.numsOf
  rw [nums_intItems] at hn
  subst hn
  rw [e] at hl
  have hsz : 0 < xs.size := by simpa using hne
  refine PySem.max_intList hh hl hsz fun v h' tk hv hk => ?_
  obtain ⟨t, rfl⟩ := intItems_at hv
  obtain ⟨h1, h2⟩ := argBest_gt (numAt xs) (xs.size - 1)
  refine h h' tk _ t hk ?_ fun a ha => ?_
  · rw [numAt_eq]; exact PySem.getD_mem (by rw [List.length_map, Array.length_toList]; omega)
  · obtain ⟨j, hj, rfl⟩ := mem_getD ha
    rw [List.length_map, Array.length_toList] at hj
    rw [← numAt_eq]; exact h2 j (by omega)
end

/-! ### the calls, by values (CallR of 03t; MtR of 06l) -/
section
variable {X : Cx}
/-- sum(xs) of a list of ints -/
def rSum (K : PySem.W.Frag) : List V → Hp → VK → Prop := fun vs H Q => ∃ (a : Addr) (ns : List Int), vs = [V.ref a] ∧ SqL K H a (ns.map V.int) ∧ Q (.int ns.sum) H
/-- max(xs), min(xs) of a list of ints -/
def rMax (K : PySem.W.Frag) : List V → Hp → VK → Prop := fun vs H Q => ∃ (a : Addr) (ns : List Int), vs = [V.ref a] ∧ SqL K H a (ns.map V.int) ∧ 0 < ns.length ∧ ∀ m, m ∈ ns → (∀ y, y ∈ ns → y ≤ m) → Q (.int m) H
theorem cr_sum (hc : X.calm = true) : CallR X (.builtin "sum") (rSum X.K) := by
  intro pins s σ H vs us Q I r h
  obtain ⟨a, ns, rfl, hs, q⟩ := h
  obtain ⟨its, rv, hl, _⟩ := I.list hs
  rw [Vals.ref1 r]
  exact sum_raw (I.ok.hd hc) hl.isList rv.ints fun h' tk t' hk => ⟨.int _, H, I.kept hk, ⟨_, rfl⟩, q⟩
theorem cr_max (hc : X.calm = true) : CallR X (.builtin "max") (rMax X.K) := by
  intro pins s σ H vs us Q I r h
  obtain ⟨a, ns, rfl, hs, hne, q⟩ := h
  obtain ⟨its, rv, hl, _⟩ := I.list hs
  rw [Vals.ref1 r]
  exact max_raw (I.ok.hd hc) hl.isList rv.ints hne fun h' tk m t' hk h1 h2 => ⟨.int _, H, I.kept hk, ⟨_, rfl⟩, q m h1 h2⟩

/-! sorted, sort (fewer than 64 items: the library's own bound) -/
end

/-! ### list.index, flat items -/
section
variable {X : Cx}
def rIndex (K : PySem.W.Frag) : V → List V → Hp → VK → Prop := fun x xs H Q => ∃ (a : Addr) (ys : List V) (y : V) (j : Nat) (z : V), x = V.ref a ∧ xs = [y] ∧ SqL K H a ys ∧ flatV y = true ∧ ys.all flatV = true ∧ ys[j]? = some z ∧ eqV z y = true ∧
  (∀ (m : Nat) (z' : V), m < j → ys[m]? = some z' → eqV z' y = false) ∧ Q (.int (j : Nat)) H
theorem flat_at {ys : List V} (f : ys.all flatV = true) {j : Nat} {z : V} (h : ys[j]? = some z) : flatV z = true := List.all_eq_true.mp f z (List.mem_of_getElem? h)
theorem mt_index : MtR X "list.index" (rIndex X.K) := by
  intro pins s σ H x xs v us Q I rx rxs h
  obtain ⟨a, ys, y, j, z, rfl, rfl, hs, fy, fys, hz, hzj, hno, q⟩ := h
  cases rx
  cases rxs with
  | cons ry rt =>
    rename_i uy ut
    cases rt
    obtain ⟨its, rv, ⟨⟨cls, dd, data, sl⟩, n, ho, hc, hdn, hd⟩, hlen⟩ := I.list hs
    simp only at hc hd
    subst hc hd
    obtain ⟨u, hu, ru⟩ := rv.get hz
    obtain ⟨hjl, hje⟩ := List.getElem?_eq_some_iff.mp hu
    have hvl := rv.length
    have hj : j < its.toArray.size := by simpa using hjl
    have hsl := sizeLine_eq
    refine call_meets PySem.F.slot_list_index ⟨_, ho, rfl⟩ PySem.F.entry_list_index (PySem.F.args_list_index_2 _ _)
      (SeqAt.list_indexAt a its.toArray n dd sl uy (eqU y) j hj (by omega) ?_ ?_) ⟨ho, fun u' hu' => mem_eqAt ry fy rv fys u' (by simpa using hu'), ?_⟩
    · have e1 : its.toArray[j] = u := by simpa using hje
      rw [e1, eqU_of ru (flat_at fys hz)]
      exact hzj
    · intro m hm hmj
      have hml : m < its.length := by simpa using hm
      have hmy : m < ys.length := by omega
      have hy' : ys[m]? = some ys[m] := List.getElem?_eq_getElem hmy
      obtain ⟨u2, hu2, ru2⟩ := rv.get hy'
      obtain ⟨_, hme⟩ := List.getElem?_eq_some_iff.mp hu2
      have e1 : its.toArray[m] = u2 := by simpa using hme
      rw [e1, eqU_of ru2 (flat_at fys hy')]
      exact hno m _ hmj hy'
    · exact ⟨.int (j : Nat), H, I.tok _, ⟨_, rfl⟩, q⟩
end

/-! ### type(x) of an own instance; is, is not of a module's class -/
section
variable {X : Cx}
end

/-! ### any(xs), all(xs) of a list of bools -/
section
variable {X : Cx}
end

/-! ### == and != of data at any depth: none, bools, ints, texts, lists, tuples -/
mutual
inductive Dp (K : PySem.W.Frag) (H : Hp) : V → PyData → Prop
  | non : Dp K H .non .none
  | bl (b : Bool) : Dp K H (.bl b) (.bool b)
  | int (i : Int) : Dp K H (.int i) (.int i)
  | str (x : Str) : Dp K H (.str x) (.str x)
  | lst {a : Addr} {xs : List V} {ds : List PyData} : SqL K H a xs → DpAll K H xs ds → Dp K H (.ref a) (.list ds)
  | tup {a : Addr} {xs : List V} {ds : List PyData} : SqT K H a xs → DpAll K H xs ds → Dp K H (.ref a) (.tuple ds)
inductive DpAll (K : PySem.W.Frag) (H : Hp) : List V → List PyData → Prop
  | nil : DpAll K H [] []
  | cons {v : V} {vs : List V} {d : PyData} {ds : List PyData} : Dp K H v d → DpAll K H vs ds → DpAll K H (v :: vs) (d :: ds)
end
section
variable {X : Cx} {pins : List (Addr × Obj)} {σ : St} {H : Hp} {s : Shared}
mutual
theorem Dp.reads (I : Inv X pins σ H s) : ∀ (d : PyData) (v : V) (u : Value), Dp X.K H v d → RelV v u → ∃ as, Reads s.heap u d as
  | .none, _, _, h, r => by
    cases h
    cases r
    exact ⟨_, Reads.none⟩
  | .bool b, _, _, h, r => by
    cases h
    cases r
    exact ⟨_, Reads.bool b⟩
  | .int i, _, _, h, r => by
    cases h
    obtain ⟨t, rfl⟩ := r
    exact ⟨_, Reads.int i t⟩
  | .str x, _, _, h, r => by
    cases h
    obtain ⟨t, rfl⟩ := r
    exact ⟨_, Reads.str x t⟩
  | .list ds, _, _, h, r => by
    cases h with
    | lst hs ha =>
      cases r
      obtain ⟨its, rv, ⟨o, n, ho, hc, _, hd⟩, _⟩ := I.list hs
      obtain ⟨as, hr⟩ := Dp.readsAll I ds _ its ha rv
      exact ⟨_, Reads.list ho hc hd hr⟩
  | .tuple ds, _, _, h, r => by
    cases h with
    | tup hs ha =>
      cases r
      obtain ⟨its, rv, ⟨o, ho, hc, n, hd⟩, _⟩ := I.tuple hs
      obtain ⟨as, hr⟩ := Dp.readsAll I ds _ its ha rv
      exact ⟨_, Reads.tuple ho hc hd hr⟩
  | .dict _, _, _, h, _ => by cases h
theorem Dp.readsAll (I : Inv X pins σ H s) : ∀ (ds : List PyData) (vs : List V) (us : List Value), DpAll X.K H vs ds → Vals vs us → ∃ as, ReadsAll s.heap us ds as
  | [], _, _, h, r => by
    cases h
    cases r
    exact ⟨_, ReadsAll.nil⟩
  | d :: ds, _, _, h, r => by
    cases h with
    | cons h1 h2 =>
      cases r with
      | cons r1 r2 =>
        obtain ⟨as, q1⟩ := Dp.reads I d _ _ h1 r1
        obtain ⟨bs, q2⟩ := Dp.readsAll I ds _ _ h2 r2
        exact ⟨_, ReadsAll.cons q1 q2⟩
end
end
section
variable {X : Cx}
end
end L2

namespace L2
open PySem PySem.Spec PyProof.Rows
abbrev CellAt (h : Heap) (c : Addr) (v : Option Value) : Prop := h.IsCell c v
def relS (scope sc : Scope) : Scope :=
  { scope with names := scope.names.map fun (n, k) => if (k == .free && sc.kind == .function && sc.names.lookup n == some .cell) then (n, .cell) else (n, k) }

def cloFrom (cells : List (Str × Addr)) : List (Str × NameKind) → List (Str × Addr) → List (Str × Addr)
  | [], acc => acc
  | (n, k) :: r, acc => if k == .free then cloFrom cells r ((n, (cells.lookup n).getD 0) :: acc) else cloFrom cells r acc

theorem closure_loop (env : Env) (f : Str × NameKind → List (Str × Addr) → Sem (ForInStep (List (Str × Addr))))
    (hf : ∀ n k c, f (n, k) c = if k == .free then (do let a ← cellOf env n; pure (.yield ((n, a) :: c))) else pure (.yield c)) :
    ∀ (names : List (Str × NameKind)) (acc : List (Str × Addr)), (∀ y ∈ names, y.2 = .free → ∃ c, env.cells.lookup y.1 = some c) → forIn names acc f = pure (cloFrom env.cells names acc)
  | [], acc, _ => by rw [List.forIn_nil]; rfl
  | (n, k) :: r, acc, h => by
    rw [List.forIn_cons, hf]
    have ih := fun acc => closure_loop env f hf r acc fun y hy => h y (List.mem_cons_of_mem _ hy)
    unfold cloFrom
    by_cases hk : (k == NameKind.free) = true
    · rw [if_pos hk, if_pos hk]
      obtain ⟨c, hc⟩ := h (n, k) List.mem_cons_self (by simpa using hk)
      have e : cellOf env n = pure c := by unfold cellOf; rw [hc]
      rw [e]
      have e2 : (env.cells.lookup n).getD 0 = c := by rw [hc]; rfl
      rw [e2]
      exact ih _
    · rw [if_neg hk, if_neg hk]
      exact ih _
theorem closure_ok {scope : Scope} {env : Env} (h : ∀ y ∈ scope.names, y.2 = .free → ∃ c, env.cells.lookup y.1 = some c) : closureFor scope env = pure (cloFrom env.cells scope.names []) := by
  simp only [closureFor]
  rw [closure_loop env _ (fun n k c => rfl) scope.names [] h]
  rfl

theorem mem_lookup {α : Type} : ∀ {l : List (Str × α)} {n : Str} {c : α}, (n, c) ∈ l → ∃ c', l.lookup n = some c'
  | (k, v) :: r, n, c, h => by
    rw [List.lookup_cons]
    cases hb : n == k with
    | true => exact ⟨_, rfl⟩
    | false =>
      rcases List.mem_cons.mp h with e | h
      · cases e; simp at hb
      · exact mem_lookup h

theorem cloFrom_mem {cells : List (Str × Addr)} : ∀ {names : List (Str × NameKind)} {acc : List (Str × Addr)} {n : Str} {c : Addr}, (n, c) ∈ cloFrom cells names acc → (n, c) ∈ acc ∨ ((n, .free) ∈ names ∧ c = (cells.lookup n).getD 0)
  | [], _, _, _, h => .inl h
  | (m, k) :: r, acc, n, c, h => by
    unfold cloFrom at h
    split at h
    · rename_i hk
      have hk : k = .free := by simpa using hk
      rcases cloFrom_mem h with h | ⟨h1, h2⟩
      · rcases List.mem_cons.mp h with e | h
        · cases e; exact .inr ⟨hk ▸ List.mem_cons_self, rfl⟩
        · exact .inl h
      · exact .inr ⟨List.mem_cons_of_mem _ h1, h2⟩
    · rcases cloFrom_mem h with h | ⟨h1, h2⟩
      · exact .inl h
      · exact .inr ⟨List.mem_cons_of_mem _ h1, h2⟩
theorem cloFrom_acc {cells : List (Str × Addr)} : ∀ {names : List (Str × NameKind)} {acc : List (Str × Addr)} {p : Str × Addr}, p ∈ acc → p ∈ cloFrom cells names acc
  | [], _, _, h => h
  | (m, k) :: r, acc, p, h => by
    unfold cloFrom
    split
    · exact cloFrom_acc (List.mem_cons_of_mem _ h)
    · exact cloFrom_acc h
theorem cloFrom_has {cells : List (Str × Addr)} : ∀ {names : List (Str × NameKind)} {acc : List (Str × Addr)} {n : Str}, (n, .free) ∈ names → (n, (cells.lookup n).getD 0) ∈ cloFrom cells names acc
  | (m, k) :: r, acc, n, h => by
    unfold cloFrom
    rcases List.mem_cons.mp h with e | h
    · cases e
      exact cloFrom_acc List.mem_cons_self
    · split
      · exact cloFrom_has h
      · exact cloFrom_has h

theorem cells_mem : ∀ {names : List (Str × NameKind)} {h : Heap} {acc : List (Str × Addr)} {x : Str} {c : Addr}, (x, c) ∈ cellsFrom h.objs.size names acc →
    (x, c) ∈ acc ∨ ((x, .cell) ∈ names ∧ h.objs.size ≤ c ∧ CellAt (pushCells h names) c none)
  | [], _, _, _, _, h => .inl h
  | (n, k) :: r, h, acc, x, c, hm => by
    unfold cellsFrom at hm
    unfold pushCells
    split at hm
    · rename_i hk
      rw [if_pos hk]
      have hk : k = .cell := by simpa using hk
      rw [← Heap.size_push h { cls := .type "cell", data := .cell none }] at hm
      rcases cells_mem hm with hm | ⟨h1, h2, h3⟩
      · rcases List.mem_cons.mp hm with e | hm
        · cases e
          exact .inr ⟨hk ▸ List.mem_cons_self, Nat.le_refl _, _, pushCells_keeps r _ _ _ (Heap.get?_push_size _ rfl), rfl⟩
        · exact .inl hm
      · rw [Heap.size_push] at h2
        exact .inr ⟨List.mem_cons_of_mem _ h1, Nat.le_of_succ_le h2, h3⟩
    · rename_i hk
      rw [if_neg hk]
      rcases cells_mem hm with hm | ⟨h1, h2, h3⟩
      · exact .inl hm
      · exact .inr ⟨List.mem_cons_of_mem _ h1, h2, h3⟩
theorem cells_acc : ∀ {names : List (Str × NameKind)} {n : Nat} {acc : List (Str × Addr)} {p : Str × Addr}, p ∈ acc → p ∈ cellsFrom n names acc
  | [], _, _, _, h => h
  | (m, k) :: r, n, acc, p, h => by
    unfold cellsFrom
    split
    · exact cells_acc (List.mem_cons_of_mem _ h)
    · exact cells_acc h
theorem cells_has : ∀ {names : List (Str × NameKind)} {n : Nat} {acc : List (Str × Addr)} {x : Str}, (x, .cell) ∈ names → ∃ c, (x, c) ∈ cellsFrom n names acc
  | (m, k) :: r, n, acc, x, h => by
    unfold cellsFrom
    rcases List.mem_cons.mp h with e | h
    · cases e
      exact ⟨n, cells_acc List.mem_cons_self⟩
    · split
      · exact cells_has h
      · exact cells_has h
theorem cells_inj : ∀ {names : List (Str × NameKind)} {h : Heap} {acc : List (Str × Addr)} {x y : Str} {c : Addr}, (∀ p ∈ acc, p.2 < h.objs.size) → (∀ x y c, (x, c) ∈ acc → (y, c) ∈ acc → x = y) →
    (x, c) ∈ cellsFrom h.objs.size names acc → (y, c) ∈ cellsFrom h.objs.size names acc → x = y
  | [], _, _, _, _, _, _, hi, h1, h2 => hi _ _ _ h1 h2
  | (n, k) :: r, h, acc, x, y, c, hl, hi, h1, h2 => by
    unfold cellsFrom at h1 h2
    split at h1
    · rename_i hk
      rw [if_pos hk] at h2
      rw [← Heap.size_push h { cls := .type "cell", data := .cell none }] at h1 h2
      refine cells_inj (h := h.push _) (fun p hp => ?_) (fun x y c a b => ?_) h1 h2
      · rw [Heap.size_push]
        rcases List.mem_cons.mp hp with rfl | hp
        · exact Nat.lt_succ_self _
        · exact Nat.lt_succ_of_lt (hl p hp)
      · rcases List.mem_cons.mp a with e | a <;> rcases List.mem_cons.mp b with e' | b
        · cases e; cases e'; rfl
        · cases e; exact absurd (hl _ b) (Nat.lt_irrefl _)
        · cases e'; exact absurd (hl _ a) (Nat.lt_irrefl _)
        · exact hi _ _ _ a b
    · rename_i hk
      rw [if_neg hk] at h2
      exact cells_inj hl hi h1 h2

theorem newEnv_comp {M : Model} {A : Around} {E : Value → Shared → Prop} {s : Shared} {scope : Scope} {globals : Addr} {closure : List (Str × Addr)} {qual : Str} {func : Option Addr} {code : Value} {around : Env} {builtins : Addr} {Q : Env → Shared → Prop}
    (h : Q (newEnv scope s.heap.objs.size globals (cellsFrom (s.heap.objs.size + 1) scope.names closure) qual func code (some around) builtins)
      { s with heap := pushCells (s.heap.push { cls := .type "dict", data := .dict #[] }) scope.names }) :
    wpAny M A (newFunctionEnv scope globals closure [] qual func code (some around) builtins) Q E s := by
  simp only [newFunctionEnv, Option.isSome_some, if_true]
  refine wpAny_bind (wpAny_alloc ?_)
  refine wpAny_bind (wpAny_layCells _ (fun n k c => rfl) scope.names closure _ _ ?_)
  rw [show ({ s with heap := s.heap.push { cls := .type "dict", data := .dict #[] } } : Shared).heap.objs.size = s.heap.objs.size + 1 from Heap.size_push ..]
  rw [List.forIn_nil]
  exact wpAny_bind (wpAny_pure (wpAny_pure h))

/-- every name of the written scope, in the scope that runs -/
theorem lookup_relS {sc : Scope} : ∀ {names : List (Str × NameKind)} {x : Str} {k : NameKind},
    (names.map fun (n, k) => if (k == NameKind.free && sc.kind == .function && sc.names.lookup n == some .cell) then (n, NameKind.cell) else (n, k)).lookup x = some k →
    ∃ k', names.lookup x = some k' ∧ (k = k' ∨ (k' = .free ∧ k = .cell))
  | [], _, _, h => by simp at h
  | (n, k₀) :: r, x, k, h => by
    have ih := @lookup_relS sc r x k
    have h' : List.lookup x ((if (k₀ == NameKind.free && sc.kind == .function && sc.names.lookup n == some .cell) = true then (n, NameKind.cell) else (n, k₀)) :: (r.map _)) = some k := h
    cases hx : x == n with
    | true =>
      simp only [List.lookup_cons, hx]
      by_cases hc : (k₀ == NameKind.free && sc.kind == .function && sc.names.lookup n == some .cell) = true
      · rw [if_pos hc] at h'
        simp only [List.lookup_cons, hx] at h'
        cases h'
        simp only [Bool.and_eq_true, beq_iff_eq] at hc
        exact ⟨k₀, rfl, .inr ⟨hc.1.1, rfl⟩⟩
      · rw [if_neg hc] at h'
        simp only [List.lookup_cons, hx] at h'
        cases h'
        exact ⟨_, rfl, .inl rfl⟩
    | false =>
      simp only [List.lookup_cons, hx]
      by_cases hc : (k₀ == NameKind.free && sc.kind == .function && sc.names.lookup n == some .cell) = true
      · rw [if_pos hc] at h'
        simp only [List.lookup_cons, hx] at h'
        exact ih h'
      · rw [if_neg hc] at h'
        simp only [List.lookup_cons, hx] at h'
        exact ih h'



/-- the names of a comprehension's block: its own (with their places in N), or captured -/
structure BlkOk (N : List Str) (sc scope : Scope) (own : List (Str × Nat)) : Prop where
  kind : scope.kind = .function
  uniq : ∀ y ∈ scope.names, scope.names.lookup y.1 = some y.2
  ix : ∀ p ∈ own, N[p.2]? = some p.1
  free : ∀ y ∈ scope.names, y.2 = .free → sc.names.lookup y.1 = some .cell ∨ sc.names.lookup y.1 = some .free
  own : ∀ y ∈ scope.names, y.2 = .local ∨ y.2 = .cell → y.1 ∈ own.map (·.1) ∨ y.1 ∉ N
/-- the slots of the block's own names forgotten -/
def wipe (σ : St) : List Nat → St
  | [] => σ
  | v :: vs => (wipe σ vs).set v none
theorem wipe_length (σ : St) : ∀ vs : List Nat, (wipe σ vs).length = σ.length
  | [] => rfl
  | v :: vs => by unfold wipe; rw [List.length_set, wipe_length σ vs]
theorem wipe_some {σ : St} {i : Nat} {x : V} : ∀ {vs : List Nat}, (wipe σ vs)[i]? = some (some x) → σ[i]? = some (some x) ∧ i ∉ vs
  | [], h => ⟨h, by simp⟩
  | v :: vs, h => by
    unfold wipe at h
    by_cases hi : v = i
    · subst hi
      by_cases hv : v < (wipe σ vs).length
      · rw [List.getElem?_set_self hv] at h; cases h
      · rw [List.getElem?_eq_none (by simpa using hv)] at h; cases h
    · rw [List.getElem?_set_ne hi] at h
      obtain ⟨h1, h2⟩ := wipe_some h
      exact ⟨h1, by simp only [List.mem_cons, not_or]; exact ⟨fun e => hi e.symm, h2⟩⟩

/-- the context of a block that starts at s, its iterator's objects at fp -/
abbrev Cx.blk (X : Cx) (s : Shared) (H : Hp) (scope : Scope) (cenv : Env) (fp : List Addr) : Cx := { X with s_0 := s, H_0 := H, env := cenv, outer := X.stack, ex := fp, fn := fun x => scope.names.lookup x == some .cell, pn := [], xe := fun _ _ => False }
section
variable {X : Cx} {pins : List (Addr × Obj)} {σ : St} {H : Hp} {s : Shared}
theorem block_start {scope : Scope} {own : List (Str × Nat)} {fp : List Addr} (I : Inv X pins σ H s) (ok : BlkOk X.N X.env.scope scope own) (hN : X.N.Nodup) (hfp : ∀ b ∈ fp, FpOk X pins H b ∧ b < s.heap.objs.size) :
    Inv (X.blk s H scope (compEnvC scope (cellsFrom (s.heap.objs.size + 1) scope.names (cloFrom X.env.cells scope.names [])) s.heap.objs.size X.env) fp) [] (wipe σ (own.map (·.2))) H { s with heap := pushCells (s.heap.push { cls := .type "dict", data := .dict #[] }) scope.names } := by
  have hfree : ∀ y ∈ scope.names, y.2 = .free → ∃ c, X.env.cells.lookup y.1 = some c := fun y hy e => by
    rcases ok.free y hy e with k | k
    · exact I.ok.has _ (.inl k)
    · exact I.ok.has _ (.inr k)
  generalize hcenv : compEnvC scope (cellsFrom (s.heap.objs.size + 1) scope.names (cloFrom X.env.cells scope.names [])) s.heap.objs.size X.env = cenv
  have kp : ∀ b o, s.heap.get? b = some o → (pushCells (s.heap.push { cls := .type "dict", data := .dict #[] }) scope.names).get? b = some o := fun b o e => pushCells_keeps _ _ _ _ (Heap.get?_push_of_some _ e)
  have hL : cenv.locals = s.heap.objs.size := by rw [← hcenv]; rfl
  have hcl : cenv.cells = cellsFrom (s.heap.objs.size + 1) scope.names (cloFrom X.env.cells scope.names []) := by rw [← hcenv]; rfl
  have hsc : cenv.scope = relS scope X.env.scope := by rw [← hcenv]; rfl
  rw [← Heap.size_push s.heap { cls := .type "dict", data := .dict #[] }] at hcl
  have cm : ∀ {y c}, (y, c) ∈ cloFrom X.env.cells scope.names [] → X.env.cells.lookup y = some c ∧ c < s.heap.objs.size := fun {y c} hm => by
    rcases cloFrom_mem hm with hm | ⟨h1, rfl⟩
    · cases hm
    · obtain ⟨c, hc⟩ := hfree _ h1 rfl
      rw [hc]
      obtain ⟨w, z⟩ := I.cell _ _ hc
      exact ⟨rfl, z.lt⟩
  have mem : ∀ {y c}, cenv.cells.lookup y = some c → (X.env.cells.lookup y = some c ∧ c < s.heap.objs.size) ∨ (s.heap.objs.size + 1 ≤ c ∧ CellAt (pushCells (s.heap.push { cls := .type "dict", data := .dict #[] }) scope.names) c none) := fun {y c} e => by
    rw [hcl] at e
    rcases cells_mem (PySem.mem_of_lookup e) with hm | ⟨_, h2, h3⟩
    · exact .inl (cm hm)
    · rw [Heap.size_push] at h2; exact .inr ⟨h2, h3⟩
  have look : ∀ {y}, scope.names.lookup y = some .free → ∃ c, cenv.cells.lookup y = some c ∧ X.env.cells.lookup y = some c := fun {y} hl => by
    have hy : (y, NameKind.free) ∈ scope.names := PySem.mem_of_lookup hl
    obtain ⟨c', e'⟩ := mem_lookup (cells_acc (names := scope.names) (n := (s.heap.push { cls := .type "dict", data := .dict #[] }).objs.size) (cloFrom_has (cells := X.env.cells) (acc := []) hy))
    rw [← hcl] at e'
    refine ⟨c', e', ?_⟩
    rw [hcl] at e'
    rcases cells_mem (PySem.mem_of_lookup e') with hm | ⟨h1, _, _⟩
    · exact (cm hm).1
    · have := ok.uniq _ h1
      rw [hl] at this; cases this
  have okB : (X.blk s H scope cenv fp).Ok := by
    refine ⟨I.ok.mod, by show cenv.scope.kind = _; rw [hsc]; exact ok.kind, by show cenv.globals = _; rw [← hcenv]; exact I.ok.glob, by show cenv.builtins = _; rw [← hcenv]; exact I.ok.blt, by show s.heap.objs.size ≤ cenv.locals; rw [hL]; exact Nat.le_refl _,
      fun y z c e1 e2 => ?_, fun y hy => ?_, fun y c z e => ?_, I.ok.hd, I.ok.frames, .inl rfl, fun b hb => ⟨?_, fun y c e z => ?_⟩, I.bs, Nat.le_trans I.ok.bsz I.sz, fun b o e hb => ?_, fun b hb z => ?_, I.stack, I.stkFree⟩
    · have e1 : cenv.cells.lookup y = some c := e1
      have e2 : cenv.cells.lookup z = some c := e2
      rw [hcl] at e1 e2
      refine cells_inj (fun p hp => ?_) (fun y z c a b => I.ok.inj y z c (cm a).1 (cm b).1) (PySem.mem_of_lookup e1) (PySem.mem_of_lookup e2)
      rw [Heap.size_push]
      exact Nat.lt_succ_of_lt (cm (y := p.1) (c := p.2) hp).2
    · show ∃ c, cenv.cells.lookup y = some c
      have key : ∀ k, cenv.kindOf y = some k → (k = .cell ∨ k = .free) → ∃ c, cenv.cells.lookup y = some c := fun k hk hk' => by
        unfold Env.kindOf at hk
        rw [hsc] at hk
        obtain ⟨k', e, r⟩ := lookup_relS hk
        have : k' = .cell ∨ k' = .free := by
          rcases r with rfl | ⟨rfl, _⟩
          · exact hk'
          · exact .inr rfl
        rcases this with rfl | rfl
        · obtain ⟨c, hm⟩ := cells_has (n := (s.heap.push { cls := .type "dict", data := .dict #[] }).objs.size) (acc := cloFrom X.env.cells scope.names []) (PySem.mem_of_lookup e)
          obtain ⟨c', e'⟩ := mem_lookup hm
          exact ⟨c', by rw [hcl]; exact e'⟩
        · obtain ⟨c, h1, _⟩ := look e
          exact ⟨c, h1⟩
      rcases hy with hy | hy
      · exact key _ hy (.inl rfl)
      · exact key _ hy (.inr rfl)
    · have z : (scope.names.lookup y == some NameKind.cell) = true := z
      have z : scope.names.lookup y = some .cell := by simpa using z
      have e : cenv.cells.lookup y = some c := e
      rw [hcl] at e
      rcases cells_mem (PySem.mem_of_lookup e) with hm | ⟨_, h2, _⟩
      · rcases cloFrom_mem hm with hm | ⟨h1, _⟩
        · cases hm
        · have q := ok.uniq _ h1
          rw [z] at q; cases q
      · rw [Heap.size_push] at h2
        exact Nat.le_of_succ_le h2
    · show b ≠ cenv.locals
      rw [hL]; exact Nat.ne_of_lt (hfp b hb).2
    · have e : cenv.cells.lookup y = some c := e
      rcases mem e with ⟨h1, _⟩ | ⟨h1, _⟩
      · exact (hfp b hb).1.2.2.2.2.1 y c h1 z
      · have h2 : s.heap.objs.size + 1 ≤ b := by rw [← z]; exact h1
        exact absurd (Nat.lt_of_lt_of_le (hfp b hb).2 (Nat.le_of_succ_le h2)) (Nat.lt_irrefl _)
    · rcases (hfp b hb).1.2.2.2.1 with z | z
      · exact I.ok.noex b o e z
      · exact absurd (Nat.lt_of_lt_of_le (Heap.lt_size e) (Nat.le_trans I.ok.bsz z)) (Nat.lt_irrefl _)
    · rcases List.mem_cons.mp (I.stkSub b z) with z | z
      · exact (hfp b hb).1.2.1 z
      · exact (hfp b hb).1.2.2.1 z
  refine ⟨okB, rfl, I.bare, Un.kept kp, ⟨fun _ => none, ?_, fun i y av e1 e2 e3 => ?_⟩, fun y c e => ?_, ?_, fun y c e => ?_, fun p hp => ?_, I.hok.kept kp, by rw [wipe_length]; exact I.len⟩
  · show Heap.Ns _ cenv.locals _
    rw [hL]
    exact Heap.Ns.keeps (Heap.Ns.new ..) fun b o e => pushCells_keeps _ _ _ _ e
  · obtain ⟨e2, hne⟩ := wipe_some e2
    have hfr : scope.names.lookup y = some .free ∧ (cenv.kindOf y = some .cell ∨ cenv.kindOf y = some .free) := by
      have key : ∀ k, cenv.scope.names.lookup y = some k → k = .local ∨ k = .cell ∨ k = .free → scope.names.lookup y = some .free ∧ (cenv.kindOf y = some .cell ∨ cenv.kindOf y = some .free) := fun k hk hk' => by
        have hk0 := hk
        rw [hsc] at hk
        obtain ⟨k', e, r⟩ := lookup_relS hk
        have no : ¬ (k' = .local ∨ k' = .cell) := fun hh => by
          rcases ok.own _ (PySem.mem_of_lookup e) hh with e' | e'
          · obtain ⟨p, hp, hpy⟩ := List.mem_map.mp e'
            have e3 := ok.ix p hp
            have : p.1 = y := hpy
            rw [this] at e3
            exact hne (List.mem_map.mpr ⟨p, hp, nodup_ix hN e3 e1⟩)
          · exact e' (List.mem_of_getElem? e1)
        rcases r with rfl | ⟨rfl, rfl⟩
        · rcases hk' with rfl | rfl | rfl
          · exact absurd (.inl rfl) no
          · exact absurd (.inr rfl) no
          · exact ⟨e, .inr hk0⟩
        · exact ⟨e, .inl hk0⟩
      have e3 : Vis cenv.scope y := e3
      rcases e3 with e3 | e3 | e3
      · exact key _ e3 (.inl rfl)
      · exact key _ e3 (.inr (.inl rfl))
      · exact key _ e3 (.inr (.inr rfl))
    obtain ⟨m, hn, hl⟩ := I.loc
    have hvis : Vis X.env.scope y := (ok.free _ (PySem.mem_of_lookup hfr.1) rfl).elim (fun k => .inr (.inl k)) (fun k => .inr (.inr k))
    obtain ⟨w, r, q⟩ := hl i y av e1 e2 hvis
    refine ⟨w, r, .inr ⟨hfr.2, ?_⟩⟩
    obtain ⟨c, h1, h2⟩ := look hfr.1
    rcases q with ⟨k, _⟩ | ⟨_, c', e', z⟩
    · have k : X.env.scope.names.lookup y = some .local := k
      rcases ok.free _ (PySem.mem_of_lookup hfr.1) rfl with k' | k' <;> rw [show X.env.scope.names.lookup y = _ from k'] at k <;> cases k
    · rw [h2] at e'; cases e'
      exact ⟨c, h1, z.keeps kp⟩
  · have e : cenv.cells.lookup y = some c := e
    rcases mem e with ⟨h1, _⟩ | ⟨_, z⟩
    · obtain ⟨w, z⟩ := I.cell y c h1
      exact ⟨w, z.keeps kp⟩
    · exact ⟨_, z⟩
  · show H cenv.locals = none
    rw [hL]; exact I.hok.fresh (Nat.le_refl _)
  · have e : cenv.cells.lookup y = some c := e
    rcases mem e with ⟨h1, _⟩ | ⟨h1, _⟩
    · exact I.freeC y c h1
    · exact I.hok.fresh (Nat.le_of_succ_le h1)
  · exact absurd (show p ∈ ([] : List (Addr × Obj)) ++ [] from hp) (by simp)

/-- an item appended to a tracked list -/
theorem app_ok {E : Value → Shared → Prop} {D : Addr} {xs : List V} {y : V} {v : Value} {Q : Value → Shared → Prop} (I : Inv X pins σ H s) (hD : H D = some (.lst xs)) (hz : xs.length < sizeLine) (r : RelV y v)
    (h : ∀ s', Inv X pins σ (upd H D (.lst (xs ++ [y]))) s' → Q .none s') : wpAny (model X.prog X.w) X.A (call (.builtin "list.append") [.ref D, v]) Q E s := by
  obtain ⟨hz', its, n, ri, e⟩ := I.hok D _ hD
  have hl := ri.length
  refine append_at (hsz := by rw [List.size_toArray]; omega) e fun h' sb ho' => ?_
  refine h { s with heap := h' } (I.write (t' := s.toks) (by rw [hD]; trivial) (.inl rfl) (fun b u hb q => (sb.2 b hb).trans q) ⟨_, ho'⟩ ⟨by rw [List.length_append]; exact hz, its ++ [v], n + 1, ri.append (.cons r .nil), ?_⟩)
  rw [ho']
  simp

/-- a clause's tests -/
def PTs (X : Cx) (ifs : List Expr) (t : TT) : Prop :=
  ∀ (pins : List (Addr × Obj)) (s : Shared) (σ : St) (H : Hp) (Q : Bool → Hp → Prop), Inv X pins σ H s → t σ H Q →
    wpAny (model X.prog X.w) X.A (forIn ifs true fun c r => if r = true then do let ok ← isTrue c X.env (eval c X.env); pure (ForInStep.yield ok) else pure (ForInStep.yield r)) (TP X pins σ Q) X.xe s
def tYes : TT := fun _ H Q => Q true H
theorem pts_nil : PTs X [] tYes := fun _ _ _ H _ I h => wpAny_tests_nil ⟨H, I, h⟩
end

theorem thnF {α : Type} {t : Sem α} {Q Q' : α → Shared → Prop} {M : Model} {A : Around} {E : Value → Shared → Prop} {s : Shared} (h : wpAny M A t Q (fun _ _ => False) s) (hQ : ∀ a s, Q a s → Q' a s) : wpAny M A t Q' E s := wpAny_mono h hQ fun _ _ z => False.elim z

/-- the loop of a list comprehension's block, the target of any form (codeAny_compLoop_tests asks a target that no tuple goes to; statement and proof follow it, PyProof/CompMap.lean:41-61, with the step letOwnedTupleGo kept) -/
theorem compLoop_any {prog : Program} {w : World} {A : Around} {R : Result → Shared → Prop} {s : Shared} {elt target iter : Expr} {ifs : List Expr} {scope : Scope} {pos : Pos} {it acc : Value} {env : Env} (I : Nat → Shared → Prop)
    (turn : ∀ n s, I n s → wpAny (model prog w) A (pyNext it) (fun r s₁ => match r with
      | none => R (.ok .next) s₁
      | some v => wpAny (model prog w) A (letOwnedTupleGo target it v) (fun _ s₁' => wpAny (model prog w) A (assign target env v) (fun _ s₂ =>
          wpAny (model prog w) A (forIn ifs true fun c r => if r = true then do let ok ← isTrue c env (eval c env); pure (ForInStep.yield ok) else pure (ForInStep.yield r)) (fun ok s₃ =>
            if ok = true then wpAny (model prog w) A (eval elt env) (fun x s₄ =>
              wpAny (model prog w) A (call (.builtin "list.append") [acc, x]) (fun _ s₅ => ∃ m, m < n ∧ I m s₅) (notedBy (model prog w) A env fun e s' => R (.error e) s') s₄) (notedBy (model prog w) A env fun e s' => R (.error e) s') s₃
            else ∃ m, m < n ∧ I m s₃) (notedBy (model prog w) A env fun e s' => R (.error e) s') s₂) (notedBy (model prog w) A env fun e s' => R (.error e) s') s₁') (notedBy (model prog w) A env fun e s' => R (.error e) s') s₁) (notedBy (model prog w) A env fun e s' => R (.error e) s') s)
    (n : Nat) (h : I n s) :
    codeAny (model prog w) A (.compLoop (.ListComp elt [⟨target, iter, ifs, 0⟩] scope pos) 0 it acc env) R s := by
  refine codeAny_loop rfl I (fun n s hI => ?_) n h
  show wpAny _ A ((compTurn (.ListComp elt [⟨target, iter, ifs, 0⟩] scope pos) 0 it acc env).onRaise (fun x => do noteFrame x env; theTreesLotGoes x)) _ _ s
  refine wpAny_noted ?_
  rw [compTurn_list]
  refine wpAny_bind (wpAny_standAt (wpAny_bind (wpAny_mono (turn n s hI) (fun r s₁ h₁ => ?_) fun _ _ h' => h')))
  cases r with
  | none => exact wpAny_pure h₁
  | some v =>
    refine wpAny_bind (wpAny_mono h₁ (fun _ s₁' h₁' => ?_) fun _ _ h' => h')
    refine wpAny_bind (wpAny_mono h₁' (fun _ s₂ h₂ => wpAny_bind (wpAny_mono h₂ (fun ok s₃ h₃ => ?_) fun _ _ h' => h')) fun _ _ h' => h')
    cases ok with
    | false => exact wpAny_pure ⟨rfl, h₃⟩
    | true =>
      exact wpAny_bind (wpAny_bind (wpAny_mono h₃ (fun x s₄ h₄ => wpAny_bind (wpAny_mono h₄ (fun _ s₅ h₅ => wpAny_pure (wpAny_pure ⟨rfl, h₅⟩)) fun _ _ h' => h')) fun _ _ h' => h'))

section
variable {X : Cx}
/-- [elt for target in iter if ..]: D the new list; W by the turn and a measure, Nx what a turn is to reach -/
def tLc (wi : TI) (g : TG) (tt : TT) (te : TE) (vs : List Nat) : TE := fun σ H Q => wi σ H fun J H1 => ∀ D, H1 D = none → ∃ W : Nat → Nat → Hp → Prop, (∃ m, W 0 m (upd H1 D (.lst []))) ∧ ∀ i m H, W i m H →
  (J.stop i H ∧ Q (.ref D) H) ∨ (J.go i H ∧ ∃ Nx : Hp → Prop, (∀ H', Nx H' → ∃ m', m' < m ∧ W (i + 1) m' H') ∧ ∀ x H', J.yld i H x H' → g x (wipe σ vs) H' fun σ2 H2 => wipe σ2 vs = wipe σ vs ∧ tt σ2 H2 fun b H3 =>
    if b = true then te σ2 H3 fun y H4 => ∃ acc, H4 D = some (.lst acc) ∧ acc.length < sizeLine ∧ Nx (upd H4 D (.lst (acc ++ [y]))) else Nx H3)
theorem lc_core {pins : List (Addr × Obj)} {s : Shared} {σ : St} {H : Hp} {Q : VK} {elt tg iter : Expr} {ifs : List Expr} {scope : Scope} {own : List (Str × Nat)} {pos pos' : Pos} {wi : TI} {g : TG} {tt : TT} {te : TE} {use : Option (Value → Sem Unit)} {Qf : Value → Shared → Prop}
    (hc : X.calm = true) (hN : X.N.Nodup) (I : Inv X pins σ H s) (hi : PI X tg iter wi) (ok : BlkOk X.N X.env.scope scope own)
    (hg : ∀ (s : Shared) (H : Hp) (C : Addr) (cl : List (Str × Addr)) (fp : List Addr), PG (X.blk s H scope (compEnvC scope cl C X.env) fp) tg g) (ht : ∀ (s : Shared) (H : Hp) (C : Addr) (cl : List (Str × Addr)) (fp : List Addr), PTs (X.blk s H scope (compEnvC scope cl C X.env) fp) ifs tt)
    (he : ∀ (s : Shared) (H : Hp) (C : Addr) (cl : List (Str × Addr)) (fp : List Addr), PE (X.blk s H scope (compEnvC scope cl C X.env) fp) elt te) (hs : ∀ x, foldedSetIterable iter X.env x = pure x)
    (h : tLc wi g tt te (own.map (·.2)) σ H Q)
    (hRR : ∀ D C s' m H', Inv X pins σ H' s' → Q (.ref D) H' → s'.heap.Ns C m → FpOk X pins H' C → compPost (model X.prog X.w) X.A X.xe use Qf (.ref D) C (.ok .next) s') :
    wpAny (model X.prog X.w) X.A (comprehension (.ListComp elt [⟨tg, iter, ifs, 0⟩] scope pos) scope X.env pos' (newList []) false (eval iter X.env) use) Qf X.xe s := by
  have hfree : ∀ y ∈ scope.names, y.2 = .free → ∃ c, X.env.cells.lookup y.1 = some c := fun y hy e => by
    rcases ok.free y hy e with k | k
    · exact I.ok.has _ (.inl k)
    · exact I.ok.has _ (.inr k)
  refine wpAny_comprehension_free (use := use) rfl hs (closure_ok hfree) ok.kind (fun y hy e => by rw [ok.uniq y hy, e])
    (thn (hi pins s σ H _ I h) fun xv s1 hx => thn hx fun itv s2 h2 => ?_)
  obtain ⟨it, fp, tn, J, H2, e, I2, T, st2, f2, q⟩ := h2
  subst e
  refine wpAny_newObj_type (newEnv_comp ?_) (by show 0 ≤ sizeLine; decide)
  generalize hD : s2.heap.objs.size = D
  have hDn : H2 D = none := I2.hok.fresh (Nat.le_of_eq hD)
  obtain ⟨W, ⟨m0, w0⟩, turn⟩ := q D hDn
  -- the new list
  generalize hs3 : ({ s2 with heap := s2.heap.push { cls := .type "list", data := .seq ([] : List Value).toArray } } : Shared) = s3
  have I3 : Inv X pins σ (upd H2 D (.lst [])) s3 := by
    rw [← hs3]
    refine I2.laid (t' := s2.toks) (fun b o e => Heap.get?_push_of_some _ e) (Nat.le_of_eq hD) ⟨Nat.zero_le _, [], 0, .nil, ?_⟩
    rw [← hD]
    exact Heap.get?_push_size _ rfl
  have h3 : s3.heap = s2.heap.push { cls := .type "list", data := .seq ([] : List Value).toArray } := by rw [← hs3]
  have sz : ∀ b ∈ fp, b < s2.heap.objs.size := fun b hb => by
    obtain ⟨o, e, _⟩ := T.obj _ _ st2 b hb
    exact Heap.lt_size e
  have f3 : ∀ b ∈ fp, FpOk X pins (upd H2 D (.lst [])) b ∧ b < s3.heap.objs.size := fun b hb => by
    have hlt := sz b hb
    refine ⟨⟨?_, (f2 b hb).2⟩, by rw [h3, Heap.size_push]; exact Nat.lt_succ_of_lt hlt⟩
    rw [upd_ne (by rw [← hD]; exact Nat.ne_of_lt hlt)]
    exact (f2 b hb).1
  have st3 : tn 0 s3.heap := T.keep _ _ _ st2 fun b _ o e => by rw [h3]; exact Heap.get?_push_of_some _ e
  have I4 := block_start I3 ok hN f3
  have pg := hg s3 (upd H2 D (.lst [])) s3.heap.objs.size (cellsFrom (s3.heap.objs.size + 1) scope.names (cloFrom X.env.cells scope.names [])) fp
  have pt := ht s3 (upd H2 D (.lst [])) s3.heap.objs.size (cellsFrom (s3.heap.objs.size + 1) scope.names (cloFrom X.env.cells scope.names [])) fp
  have pe := he s3 (upd H2 D (.lst [])) s3.heap.objs.size (cellsFrom (s3.heap.objs.size + 1) scope.names (cloFrom X.env.cells scope.names [])) fp
  show codeAny _ _ (.compStart (.ListComp elt [⟨tg, iter, ifs, 0⟩] scope pos) 0 (.ref it) (.ref D) (compEnvC scope (cellsFrom (s3.heap.objs.size + 1) scope.names (cloFrom X.env.cells scope.names [])) s3.heap.objs.size X.env)) (compPost (model X.prog X.w) X.A X.xe use Qf (.ref D) s3.heap.objs.size) { s3 with heap := pushCells (s3.heap.push { cls := .type "dict", data := .dict #[] }) scope.names }
  have nfp : ∀ b ∈ fp, (upd H2 D (.lst [])) b = none := fun b hb => (f3 b hb).1.1
  generalize hce : compEnvC scope (cellsFrom (s3.heap.objs.size + 1) scope.names (cloFrom X.env.cells scope.names [])) s3.heap.objs.size X.env = ce at I4 pg pt pe ⊢
  have cL : ce.locals = s3.heap.objs.size := by subst hce; rfl
  generalize hH3 : upd H2 D (.lst []) = H3 at I3 I4 pg pt pe w0 nfp f3
  generalize hs4 : ({ s3 with heap := pushCells (s3.heap.push { cls := .type "dict", data := .dict #[] }) scope.names } : Shared) = s4 at I4 ⊢
  have st4 : tn 0 s4.heap := T.keep _ _ _ st3 fun b _ o e => by rw [← hs4]; exact pushCells_keeps _ _ _ _ (Heap.get?_push_of_some _ e)
  have stat : ∀ {σ' : St} {H' : Hp} {s' : Shared}, Inv (X.blk s3 H3 scope ce fp) [] σ' H' s' → (∀ b ∈ fp, H' b = none) → ∀ b ∈ fp, FpOk (X.blk s3 H3 scope ce fp) [] H' b := fun {σ' H' s'} I' hn b hb =>
    ⟨hn b hb, (I'.ok.exf b hb).1, I'.ok.exfs b hb, .inl hb, fun x c e => (I'.ok.exf b hb).2 x c e, fun p hp => absurd (show p ∈ ([] : List (Addr × Obj)) ++ [] from hp) (by simp)⟩
  have loop : codeAny (model X.prog X.w) X.A (.compLoop (.ListComp elt [⟨tg, iter, ifs, 0⟩] scope pos) 0 (.ref it) (.ref D) ce) (compPost (model X.prog X.w) X.A X.xe use Qf (.ref D) s3.heap.objs.size) s4 := by
    refine compLoop_any (fun n s' => ∃ i H', Inv (X.blk s3 H3 scope ce fp) [] (wipe σ (own.map (·.2))) H' s' ∧ tn i s'.heap ∧ (∀ b ∈ fp, H' b = none) ∧ W i n H') ?_ m0 ⟨0, H3, I4, st4, nfp, w0⟩
    rintro n s5 ⟨i, H5, I5, st5, n5, w5⟩
    rcases turn i n H5 w5 with ⟨stop, qq⟩ | ⟨go, Nx, hNx, step⟩
    · have td := T.done (X.blk s3 H3 scope ce fp) rfl rfl rfl hc i [] s5 _ H5 (fun _ _ => False) I5 (stat I5 n5) st5 stop
      refine thnF td fun r s6 ⟨hr, I6⟩ => ?_
      subst hr
      -- back in the def's context
      have I7 : Inv X pins σ H5 s6 := I3.call' (ch := fp) I6.os I6.base I6.hok I6.bare fun b hb => ⟨(f3 b hb).1.2.2.2.1, (f3 b hb).1.2.1, (f3 b hb).1.2.2.2.2.1, (f3 b hb).1.2.2.2.2.2⟩
      have nC : H5 s3.heap.objs.size = none := by
        have z : H5 ce.locals = none := I6.free
        rw [cL] at z
        exact z
      obtain ⟨m, hn, _⟩ := I6.loc
      have hn : s6.heap.Ns ce.locals m := hn
      rw [cL] at hn
      exact hRR D s3.heap.objs.size s6 m H5 I7 qq hn (I3.fpOk (Nat.le_refl _) nC)
    · have ti := T.item (X.blk s3 H3 scope ce fp) rfl rfl rfl hc i [] s5 _ H5 (fun _ _ => False) I5 (stat I5 n5) st5 go
      refine thnF ti fun r s6 ⟨u, hr, h6⟩ => ?_
      subst hr
      refine thnF h6 fun _ s7 ⟨x, H7, I7, r7, y7, st7, n7⟩ => ?_
      have I7' := I7.pinned (stat I7 n7) (T.obj _ _ st7)
      refine thnF (pg _ s7 _ H7 x u _ I7' r7 (step x H7 y7)) fun _ s8 ⟨σ8, H8, I8, hw8, q8⟩ => ?_
      refine thnF (pt _ s8 σ8 H8 _ I8 q8) fun b s9 ⟨H9, I9, q9⟩ => ?_
      -- the turn's end
      have fin : ∀ {s' : Shared} {H' : Hp}, Inv (X.blk s3 H3 scope ce fp) ([] ++ pinsAt fp s7.heap) σ8 H' s' → Nx H' → ∃ m, m < n ∧ ∃ i H', Inv (X.blk s3 H3 scope ce fp) [] (wipe σ (own.map (·.2))) H' s' ∧ tn i s'.heap ∧ (∀ b ∈ fp, H' b = none) ∧ W i m H' := fun {s' H'} I' nx => by
        obtain ⟨m', hm, w'⟩ := hNx H' nx
        have pin' : ∀ b ∈ fp, ∀ o, s7.heap.get? b = some o → s'.heap.get? b = some o ∧ H' b = none := fun b hb o e =>
          let z := I'.pin (b, o) (List.mem_append_right _ (List.mem_append_right _ (mem_pinsAt hb e)))
          ⟨z.1, z.2.1⟩
        have hl : (wipe σ (own.map (·.2))).length = σ8.length := by rw [← hw8, wipe_length]
        refine ⟨m', hm, i + 1, H', (I'.unpinned (pins := [])).weak hl (fun j v e => ?_), T.keep _ _ _ st7 fun b hb o e => (pin' b hb o e).1, fun b hb => ?_, w'⟩
        · rw [← hw8] at e
          exact (wipe_some e).1
        · obtain ⟨o, e, _⟩ := T.obj _ _ st7 b hb
          exact (pin' b hb o e).2
      cases b with
      | false =>
        simp only [Bool.false_eq_true, if_false] at q9 ⊢
        exact fin I9 q9
      | true =>
        simp only [if_true] at q9 ⊢
        refine thnF (pe _ s9 σ8 H9 _ I9 q9) fun z s10 ⟨yv, H10, I10, r10, acc, hD10, hz10, nx⟩ => ?_
        exact app_ok (X := X.blk s3 H3 scope ce fp) I10 hD10 hz10 r10 fun s11 I11 => fin I11 nx
  exact codeAny_compStart_list loop (T.self X.A 0 _ _ _ st4 loop)
/-- as a value -/
theorem pe_lc {elt tg iter : Expr} {ifs : List Expr} {scope : Scope} {own : List (Str × Nat)} {pos : Pos} {wi : TI} {g : TG} {tt : TT} {te : TE} (hc : X.calm = true) (hN : X.N.Nodup) (hi : PI X tg iter wi) (ok : BlkOk X.N X.env.scope scope own)
    (hg : ∀ (s : Shared) (H : Hp) (C : Addr) (cl : List (Str × Addr)) (fp : List Addr), PG (X.blk s H scope (compEnvC scope cl C X.env) fp) tg g) (ht : ∀ (s : Shared) (H : Hp) (C : Addr) (cl : List (Str × Addr)) (fp : List Addr), PTs (X.blk s H scope (compEnvC scope cl C X.env) fp) ifs tt)
    (he : ∀ (s : Shared) (H : Hp) (C : Addr) (cl : List (Str × Addr)) (fp : List Addr), PE (X.blk s H scope (compEnvC scope cl C X.env) fp) elt te) (hs : ∀ x, foldedSetIterable iter X.env x = pure x := by intro _; rfl) :
    PE X (.ListComp elt [⟨tg, iter, ifs, 0⟩] scope pos) (tLc wi g tt te (own.map (·.2))) := by
  intro pins s σ H Q I h
  rw [eval_ListComp]
  refine lc_core hc hN I hi ok hg ht he hs h fun D C s' m H' I' q hn f => ⟨m, hn, fun h'' sb => ?_⟩
  obtain ⟨f0, f1, f2, f3, f4, f5⟩ := f
  exact ⟨.ref D, H', I'.turned (t' := s'.toks) (fun b o hb e => (sb.2 b hb).trans e) f0 f1 f3 f4 f5, rfl, q⟩
end

/-! ### the forms one uses -/
/-- over a range: Pv by the turn and the heap (the new list at D within) -/
theorem lc_range {lo : Int} {n : Nat} {g : TG} {tt : TT} {te : TE} {vs : List Nat} {σ : St} {H1 : Hp} {D : Addr} {Qd : Hp → Prop} (Pv : Nat → Hp → Prop) (h0 : Pv 0 (upd H1 D (.lst [])))
    (hs : ∀ i H, i < n → Pv i H → g (.int (lo + i)) (wipe σ vs) H fun σ2 H2 => wipe σ2 vs = wipe σ vs ∧ tt σ2 H2 fun b H3 =>
      if b = true then te σ2 H3 fun y H4 => ∃ acc, H4 D = some (.lst acc) ∧ acc.length < sizeLine ∧ Pv (i + 1) (upd H4 D (.lst (acc ++ [y]))) else Pv (i + 1) H3) (hd : ∀ H, Pv n H → Qd H) :
    ∃ W : Nat → Nat → Hp → Prop, (∃ m, W 0 m (upd H1 D (.lst []))) ∧ ∀ i m H, W i m H →
      ((Itr lo n).stop i H ∧ Qd H) ∨ ((Itr lo n).go i H ∧ ∃ Nx : Hp → Prop, (∀ H', Nx H' → ∃ m', m' < m ∧ W (i + 1) m' H') ∧ ∀ x H', (Itr lo n).yld i H x H' → g x (wipe σ vs) H' fun σ2 H2 => wipe σ2 vs = wipe σ vs ∧ tt σ2 H2 fun b H3 =>
        if b = true then te σ2 H3 fun y H4 => ∃ acc, H4 D = some (.lst acc) ∧ acc.length < sizeLine ∧ Nx (upd H4 D (.lst (acc ++ [y]))) else Nx H3) := by
  refine ⟨fun i m H => m = n - i ∧ i ≤ n ∧ Pv i H, ⟨n, by simp, Nat.zero_le _, h0⟩, ?_⟩
  rintro i m H ⟨rfl, hi, p⟩
  by_cases hlt : i < n
  · refine .inr ⟨hlt, Pv (i + 1), fun H' p' => ⟨n - (i + 1), by omega, rfl, hlt, p'⟩, fun x H' y => ?_⟩
    obtain ⟨e, y⟩ := y
    subst e y
    exact hs i _ hlt p
  · have e : i = n := by omega
    subst e
    exact .inl ⟨Nat.le_refl _, hd H p⟩
def blkC (N : List Str) (sc scope : Scope) (own : List (Str × Nat)) : Bool :=
  (match scope.kind with | .function => true | _ => false) && (scope.names.all fun y => decide (scope.names.lookup y.1 = some y.2)) && (own.all fun p => decide (N[p.2]? = some p.1)) &&
    (scope.names.all fun y => match y.2 with
      | .free => (match sc.names.lookup y.1 with | some .cell => true | some .free => true | _ => false)
      | .local => decide (y.1 ∈ own.map (·.1)) || decide (y.1 ∉ N)
      | .cell => decide (y.1 ∈ own.map (·.1)) || decide (y.1 ∉ N)
      | _ => true)
theorem blkOk_by {N : List Str} {sc scope : Scope} {own : List (Str × Nat)} (h : blkC N sc scope own = true) : BlkOk N sc scope own := by
  unfold blkC at h
  simp only [Bool.and_eq_true, List.all_eq_true, decide_eq_true_eq] at h
  obtain ⟨⟨⟨h1, h2⟩, h3⟩, h4⟩ := h
  refine ⟨?_, h2, h3, fun y hy e => ?_, fun y hy e => ?_⟩
  · split at h1
    · assumption
    · cases h1
  · have q := h4 y hy
    simp only [e] at q
    split at q <;> first | exact .inl (by assumption) | exact .inr (by assumption) | cases q
  · have q := h4 y hy
    rcases e with e | e <;> (simp only [e, Bool.or_eq_true, decide_eq_true_eq] at q; exact q)
end L2

namespace L2
open PySem PySem.Spec PyProof.Rows


section
variable {prog : Program} {w : World} {A : Around} {R : Result → Shared → Prop} {s : Shared} {elt t0 i0 t1 i1 : Expr} {ifs0 ifs1 : List Expr} {scope : Scope} {pos : Pos} {it acc : Value} {env : Env}
end

section
variable {X : Cx}
end
end L2

namespace L2
open PySem PySem.Spec PyProof.Rows

/-! ### lists of pairs as tables -/
section
variable {κ : Type} [DecidableEq κ]
def valV (kvs : List (κ × V)) (k : κ) : Option V := (kvs.find? fun kv => decide (kv.1 = k)).map (·.2)
/-- in its place, or at the end -/
def putK (kvs : List (κ × V)) (k : κ) (v : V) : List (κ × V) :=
  if (kvs.any fun kv => decide (kv.1 = k)) = true then kvs.map (fun kv => if kv.1 = k then (kv.1, v) else kv) else kvs ++ [(k, v)]
def dropK (kvs : List (κ × V)) (k : κ) : List (κ × V) := kvs.filter fun kv => decide (kv.1 ≠ k)

theorem valV_pos {p : κ × V} {r : List (κ × V)} {k : κ} (e : p.1 = k) : valV (p :: r) k = some p.2 := by simp [valV, List.find?_cons, e]
theorem valV_neg {p : κ × V} {r : List (κ × V)} {k : κ} (e : ¬ p.1 = k) : valV (p :: r) k = valV r k := by simp [valV, List.find?_cons, e]
theorem valV_any (k : κ) : ∀ kvs : List (κ × V), (kvs.any fun kv => decide (kv.1 = k)) = (valV kvs k).isSome
  | [] => rfl
  | p :: r => by
    rw [List.any_cons]
    by_cases e : p.1 = k
    · simp only [valV_pos e, decide_eq_true e, Bool.true_or, Option.isSome_some]
    · rw [valV_neg e, decide_eq_false e, Bool.false_or]; exact valV_any k r

theorem RelO.isSome_eq {o : Option V} {u : Option Value} (r : RelO o u) : o.isSome = u.isSome := by
  cases o with
  | none => cases u with
    | none => rfl
    | some _ => exact (show False from r).elim
  | some _ => cases u with
    | none => exact (show False from r).elim
    | some _ => rfl
theorem RelO.getD {o : Option V} {u : Option Value} {d : V} {d' : Value} (r : RelO o u) (rd : RelV d d') : RelV (o.getD d) (u.getD d') := by
  cases o with
  | none => cases u with
    | none => exact rd
    | some _ => exact (show False from r).elim
  | some _ => cases u with
    | none => exact (show False from r).elim
    | some _ => exact r

/-- raw tables of the same keys -/
theorem KV.val {kvs : List (κ × V)} {vs : List (κ × Value)} (r : KV kvs vs) (k : κ) : RelO (valV kvs k) (valueAt vs k) := by
  unfold KV at r
  induction r with
  | nil => exact True.intro
  | @cons p q ps qs h t ih =>
    obtain ⟨h1, h2⟩ := h
    by_cases e : p.1 = k
    · have e' : q.1 = k := h1.symm.trans e
      have b : valueAt (q :: qs) k = some q.2 := by simp [valueAt, List.find?_cons, e']
      rw [valV_pos e, b]; exact h2
    · have e' : ¬ q.1 = k := fun z => e (h1.trans z)
      have b : valueAt (q :: qs) k = valueAt qs k := by simp [valueAt, List.find?_cons, e']
      rw [valV_neg e, b]; exact ih
theorem KV.any {kvs : List (κ × V)} {vs : List (κ × Value)} (r : KV kvs vs) (k : κ) : (kvs.any fun kv => decide (kv.1 = k)) = vs.any fun kv => decide (kv.1 = k) := by
  unfold KV at r
  induction r with
  | nil => rfl
  | cons h t ih => rw [List.any_cons, List.any_cons, ih, h.1]
theorem KV.repl {kvs : List (κ × V)} {vs : List (κ × Value)} (r : KV kvs vs) (k : κ) {y : V} {u : Value} (ry : RelV y u) :
    KV (kvs.map fun kv => if kv.1 = k then (kv.1, y) else kv) (vs.map fun kv => if kv.1 = k then (kv.1, u) else kv) := by
  unfold KV at r ⊢
  induction r with
  | nil => exact .nil
  | @cons p q ps qs h t ih =>
    rw [List.map_cons, List.map_cons]
    refine .cons ?_ ih
    obtain ⟨h1, h2⟩ := h
    by_cases e : p.1 = k
    · rw [if_pos e, if_pos (h1.symm.trans e)]; exact ⟨h1, ry⟩
    · rw [if_neg e, if_neg (fun z => e (h1.trans z))]; exact ⟨h1, h2⟩
theorem KV.put {kvs : List (κ × V)} {vs : List (κ × Value)} (r : KV kvs vs) (k : κ) {y : V} {u : Value} (ry : RelV y u) : KV (putK kvs k y) (stored vs k u) := by
  unfold putK stored
  rw [r.any k]
  by_cases e : (vs.any fun kv => decide (kv.1 = k)) = true
  · rw [if_pos e, if_pos e]; exact r.repl k ry
  · rw [if_neg e, if_neg e]; exact Paired.snoc r ⟨rfl, ry⟩
theorem KV.drop {kvs : List (κ × V)} {vs : List (κ × Value)} (r : KV kvs vs) (k : κ) : KV (dropK kvs k) (without vs k) := by
  unfold KV at r ⊢
  unfold dropK without
  induction r with
  | nil => exact .nil
  | @cons p q ps qs h t ih =>
    obtain ⟨h1, h2⟩ := h
    rw [List.filter_cons, List.filter_cons]
    by_cases e : p.1 = k
    · have a : ¬ decide (p.1 ≠ k) = true := by simp [e]
      have b : ¬ decide (q.1 ≠ k) = true := by simp [h1.symm.trans e]
      rw [if_neg a, if_neg b]; exact ih
    · have e' : ¬ q.1 = k := fun z => e (h1.trans z)
      have a : decide (p.1 ≠ k) = true := by simp [e]
      have b : decide (q.1 ≠ k) = true := by simp [e']
      rw [if_pos a, if_pos b]; exact .cons ⟨h1, h2⟩ ih
theorem KV.keys {kvs : List (κ × V)} {vs : List (κ × Value)} (r : KV kvs vs) : kvs.map (·.1) = vs.map (·.1) := by
  unfold KV at r
  induction r with
  | nil => rfl
  | cons h t ih => rw [List.map_cons, List.map_cons, ih, h.1]
theorem KV.length {kvs : List (κ × V)} {vs : List (κ × Value)} (r : KV kvs vs) : kvs.length = vs.length := Paired.length r
end


/-! ### a tracked dict, its keys ints and texts or tuples of these -/

/-- raw entries of a dict with tuple keys -/
abbrev KT (H : Hp) : List (List Key × V) → List (List Key × Addr × Value) → Prop := Paired fun p q => p.1 = q.1 ∧ H q.2.1 = some (.tup (p.1.map kV)) ∧ RelV p.2 q.2.2
theorem KT.val {H : Hp} {kvs : List (List Key × V)} {xs : List (List Key × Addr × Value)} (r : KT H kvs xs) (k : List Key) : RelO (valV kvs k) ((atKey xs k).map (·.2)) := by
  induction r with
  | nil => exact True.intro
  | @cons p q ps qs h t ih =>
    obtain ⟨h1, _, h2⟩ := h
    by_cases e : p.1 = k
    · have e' : q.1 = k := h1.symm.trans e
      have b : atKey (q :: qs) k = some q.2 := by simp [atKey, List.find?_cons, e']
      rw [valV_pos e, b]; exact h2
    · have e' : ¬ q.1 = k := fun z => e (h1.trans z)
      have b : atKey (q :: qs) k = atKey qs k := by simp [atKey, List.find?_cons, e']
      rw [valV_neg e, b]; exact ih
theorem KT.repl {H : Hp} {kvs : List (List Key × V)} {xs : List (List Key × Addr × Value)} (r : KT H kvs xs) (k : List Key) {y : V} {u : Value} (ry : RelV y u) :
    KT H (kvs.map fun kv => if kv.1 = k then (kv.1, y) else kv) (xs.map (putAt k u)) := by
  induction r with
  | nil => exact .nil
  | @cons p q ps qs h t ih =>
    rw [List.map_cons, List.map_cons]
    refine .cons ?_ ih
    obtain ⟨h1, h2, h3⟩ := h
    unfold putAt
    by_cases e : p.1 = k
    · rw [if_pos e, if_pos (h1.symm.trans e)]; exact ⟨h1, h2, ry⟩
    · rw [if_neg e, if_neg (fun z => e (h1.trans z))]; exact ⟨h1, h2, h3⟩
theorem KT.put {H : Hp} {kvs : List (List Key × V)} {xs : List (List Key × Addr × Value)} (r : KT H kvs xs) (k : List Key) {b : Addr} {y : V} {u : Value} (hb : H b = some (.tup (k.map kV))) (ry : RelV y u) :
    KT H (putK kvs k y) (storedH xs k b u) := by
  have e : (kvs.any fun kv => decide (kv.1 = k)) = (atKey xs k).isSome := by
    rw [valV_any, (r.val k).isSome_eq, Option.isSome_map]
  unfold putK storedH
  rw [e]
  by_cases q : (atKey xs k).isSome = true
  · rw [if_pos q, if_pos q]; exact r.repl k ry
  · rw [if_neg q, if_neg q]; exact Paired.snoc r ⟨rfl, hb, ry⟩
theorem KT.keeps {H H' : Hp} {kvs : List (List Key × V)} {xs : List (List Key × Addr × Value)} (r : KT H kvs xs) (ht : ∀ b ys, H b = some (.tup ys) → H' b = some (.tup ys)) : KT H' kvs xs :=
  Paired.mapP r fun _ _ z => ⟨z.1, ht _ _ z.2.1, z.2.2⟩

section
variable {P : Program} {w : World} {H : Hp} {h : Heap} {a : Addr}
end

/-- what the dict at a holds at the key y -/
def DGet (H : Hp) (a : Addr) (y : V) (r : Option V) : Prop :=
  (∃ kvs k, Rd H a (.dK kvs) ∧ y = kV k ∧ r = valV kvs k) ∨ ∃ kvs k b, Rd H a (.dT kvs) ∧ y = .ref b ∧ H b = some (.tup (k.map kV)) ∧ r = valV kvs k
/-- the heap behind a[y] = v -/
def DPut (H : Hp) (a : Addr) (y v : V) (H' : Hp) : Prop :=
  (∃ kvs k, H a = some (.dK kvs) ∧ y = kV k ∧ kvs.length < sizeLine ∧ H' = upd H a (.dK (putK kvs k v))) ∨
  ∃ kvs k b, H a = some (.dT kvs) ∧ y = .ref b ∧ H b = some (.tup (k.map kV)) ∧ kvs.length < sizeLine ∧ H' = upd H a (.dT (putK kvs k v))
theorem DGet.k {H : Hp} {a : Addr} {kvs : List (Key × V)} {k : Key} (e : H a = some (.dK kvs)) : DGet H a (kV k) (valV kvs k) := .inl ⟨kvs, k, .inl e, rfl, rfl⟩
theorem DGet.t {H : Hp} {a b : Addr} {kvs : List (List Key × V)} {k : List Key} (e : H a = some (.dT kvs)) (eb : H b = some (.tup (k.map kV))) : DGet H a (.ref b) (valV kvs k) := .inr ⟨kvs, k, b, .inl e, rfl, eb, rfl⟩
theorem DPut.k {H : Hp} {a : Addr} {kvs : List (Key × V)} {k : Key} {v : V} (e : H a = some (.dK kvs)) (hl : kvs.length < sizeLine) : DPut H a (kV k) v (upd H a (.dK (putK kvs k v))) := .inl ⟨kvs, k, e, rfl, hl, rfl⟩
theorem DPut.t {H : Hp} {a b : Addr} {kvs : List (List Key × V)} {k : List Key} {v : V} (e : H a = some (.dT kvs)) (eb : H b = some (.tup (k.map kV))) (hl : kvs.length < sizeLine) :
    DPut H a (.ref b) v (upd H a (.dT (putK kvs k v))) := .inr ⟨kvs, k, b, e, rfl, eb, hl, rfl⟩


section
variable {X : Cx} {pins : List (Addr × Obj)} {σ : St} {H : Hp} {s : Shared} {a : Addr} {y v : V} {u r : Value} {o : Option V} {A : Around} {E : Value → Shared → Prop}


end

section
variable {X : Cx} {pins : List (Addr × Obj)} {σ : St} {H : Hp} {s : Shared} {a : Addr} {kvs : List (Key × V)} {k : Key} {u : Value} {A : Around} {E : Value → Shared → Prop}
end


/-! ### readings and rules -/



section
variable {X : Cx} {o i e value : Expr} {pos pos' tpos : Pos} {td ty tv : TE}
end


/-! ### displays -/
section
variable {X : Cx} {pos : Pos}
end




/-! ### methods -/
/-- a method call o.m(e) of a built-in, with one argument: what must be seen of the text -/
structure M1 (X : Cx) (o : Expr) (m : Str) (apos : Pos) (e : Expr) (cpos : Pos) : Prop where
  base : attributeBase o m X.env (eval o X.env) = eval o X.env
  few : ((backTo cpos (starEach [e] X.env)).all (fun x => !x.1) && (backToKw cpos (keywordEach [] X.env)).all (fun x => x.1.isSome)
    && decide (([e] : List Expr).length + ([] : List Keyword).length + (if ([] : List Keyword).isEmpty then 0 else 1) < 30)) = true
  line : (apos.endLine == cpos.line) = true
  trees : backTo cpos (starEach [e] X.env) = [(false, eval e X.env)]
structure M2 (X : Cx) (o : Expr) (m : Str) (apos : Pos) (e f : Expr) (cpos : Pos) : Prop where
  base : attributeBase o m X.env (eval o X.env) = eval o X.env
  few : ((backTo cpos (starEach [e, f] X.env)).all (fun x => !x.1) && (backToKw cpos (keywordEach [] X.env)).all (fun x => x.1.isSome)
    && decide (([e, f] : List Expr).length + ([] : List Keyword).length + (if ([] : List Keyword).isEmpty then 0 else 1) < 30)) = true
  line : (apos.endLine == cpos.line) = true
  trees : backTo cpos (starEach [e, f] X.env) = [(false, eval e X.env), (false, eval f X.env)]


section
variable {X : Cx} {pins : List (Addr × Obj)} {σ : St} {H : Hp} {s : Shared} {a : Addr} {y d : V} {u r : Value} {o : Option V} {A : Around} {E : Value → Shared → Prop}
end

section
variable {X : Cx} {o e f : Expr} {apos cpos : Pos} {td ty tx : TE}
end

/-! ### dict(d): a copy -/
section
variable {X : Cx} {pins : List (Addr × Obj)} {σ : St} {H : Hp} {s : Shared} {a : Addr} {kvs : List (Key × V)} {A : Around} {E : Value → Shared → Prop}
end


section
variable {X : Cx} {pins : List (Addr × Obj)} {σ : St} {H : Hp} {s : Shared} {a : Addr} {y : V} {u : Value} {A : Around} {E : Value → Shared → Prop}
end
end L2

namespace L2
open PySem PySem.Spec PyProof.Rows


section
variable {prog : Program} {w : World} {A : Around} {E : Value → Shared → Prop}


end

section
variable {X : Cx}
end
end L2

namespace L2
open PySem PySem.Spec PyProof.Rows


section
variable {X : Cx} {pins : List (Addr × Obj)} {σ : St} {H : Hp} {s : Shared} {h' : Heap}

/-! ### locking a thing while a statement runs -/
end
section
variable {X : Cx}

/-! ### one iterator just laid -/
end

/-! ### range with a step -/
section
variable {X : Cx} {tg : Expr}
end

/-! ### reversed(list) -/
section
variable {X : Cx} {tg : Expr}
end

/-! ### a str -/

/-! ### a dict's keys: any dict's entries -/
section
variable {prog : Program} {w : World} {A : Around} {E : Value → Shared → Prop} {s : Shared}
end

/-! ### a locked dict -/
section
variable {X : Cx} {pins : List (Addr × Obj)} {σ : St} {H : Hp} {s : Shared} {d : Addr} {o : Obj}
end

section
variable {P : Program} {w : World} {K : PySem.W.Frag} {tg : Expr} {d : Addr} {o : Obj} {es : Array DictEntry} {ep : Nat}
end

/-! ### for k in d, d.keys(), d.values(), d.items() -/
section
variable {X : Cx} {tg e : Expr} {td : TE} {apos cpos : Pos}
end

/-! ### enumerate(list) -/
/-! ### zip(list, list) -/
end L2

section 
namespace Bits
open PySem PyProof.Rows








end Bits
end 

section 
namespace TL
open PySem PySem.Builtin PySem.Builtin.Str PySem.StrLaws

abbrev tl (x : Str) : List Nat := x.cps.toList

/-! ### the list functions -/
/-- S stands at the head of l -/
def pre (S l : List Nat) : Bool := l.take S.length == S
/-- what stands before the first S, and behind it -/
def par (S : List Nat) : List Nat → List Nat → Option (List Nat × List Nat)
  | _, [] => none
  | acc, c :: r => if pre S (c :: r) = true then some (acc, (c :: r).drop S.length) else par S (acc ++ [c]) r




/-! ### the model's split and partition are these -/




/-! ### computing spl and par -/


/-! ### digits -/

/-! ### words: x.split() -/
end TL
end 

namespace L2
open PySem PySem.Spec PyProof.Rows




section
variable {X : Cx} {pins : List (Addr × Obj)} {σ : St} {H : Hp} {s : Shared} {Q : VK}
end

section
variable {X : Cx}





/-! ### of a text alone -/

/-! ### of a text and a text -/

end

section
variable {X : Cx} {o e : Expr} {to te : TE}

end
end L2

namespace L2
open PySem PySem.Spec PyProof.Rows

section
variable {X : Cx}
end

/-! ### slices of a text -/
theorem IsPart.raw {v : Value} {o : Option Int} (p : IsPart v o) : ∃ l : Option (Int × Tok), v = partValue l ∧ l.map (·.1) = o := by
  cases p with
  | none => exact ⟨none, rfl, rfl⟩
  | int i t => exact ⟨some (i, t), rfl, rfl⟩


end L2

namespace Att
open PySem PySem.W PySem.Calls PyProof.Rows

/-! ### the script -/



/-! ### the attachment: holds_open's last premise (the goal 'hc' behind k_head) from a wpAny of the law's body -/



/-! ### rules over ANY heap (no ledger) from facts about the written part K: the library's own take a ledger (News) for what they write -/
section
variable {prog : Program} {w : World} {A : Around} {E : Value → Shared → Prop} {s : Shared} {K : Frag}





/-! the whole heap as the ledger: makes every rule that writes through a ledger a rule over any heap -/

end
end Att

namespace L2
open PySem PySem.Spec PyProof.Rows



end L2

namespace L2
open PySem PySem.Spec PyProof.Rows


end L2

/- THE LAST THEOREM (shape; LID, My.* are yours):
   My.Adr: a structure of the addresses that your layer names (classes, functions); My.Txt K t: a structure (Prop) of the equations over K;
   My.txt_mk : {K} {implicit addresses ..} (e1 : nsIn K mainGlobals "law" = some (some (.ref f))) (e2 : K.lookup f = some ⟨oc, od, .func (fnOf "law" "law" params body scope dV kV doc pm an cdv ct), sl⟩) (e3 : codeIn K cdv "law" = true) .. : ∃ t, My.Txt K t

(the tactic k_is has no namespace: write k_is) -/

/-! SHORT WORDS over the layer: a def of the text, its body, what a loop and a test want. -/
namespace L2
open PySem PySem.Spec PyProof.Rows

/-! ### the text by places -/
/-- the j-th statement of a class's body -/
def inClass (s : Stmt) (j : Nat) : Stmt := match s with
  | .ClassDef _ _ _ body _ _ _ _ _ _ _ => body.getD j (.Pass ⟨0, 0, 0, 0⟩)
  | _ => .Pass ⟨0, 0, 0, 0⟩
def defArgs (s : Stmt) : Arguments := match s with
  | .FunctionDef _ a _ _ _ _ _ _ _ _ => a
  | _ => { posonlyargs := [], args := [], vararg := none, kwonlyargs := [], kw_defaults := [], kwarg := none, defaults := [] }
def defBody (s : Stmt) : List Stmt := match s with
  | .FunctionDef _ _ b _ _ _ _ _ _ _ => b
  | _ => []
def defScope (s : Stmt) : Scope := match s with
  | .FunctionDef _ _ _ _ _ _ sc _ _ _ => sc
  | _ => { kind := .function, names := [], isGenerator := false, isCoroutine := false }

/-! ### no exception leaves a def -/
abbrev CX0 : CXT := fun _ _ _ _ _ _ => False
abbrev E0 : XK := fun _ _ _ => False
theorem pass0 {X : Cx} : Passes CX0 X E0 := fun _ _ _ _ _ _ _ h => h.elim

/-! ### a def (or method) of the text as it stands behind the top -/
structure Fun (K : PySem.W.Frag) (x qual : Str) (st : Stmt) (f : Addr) (fd : FuncData) : Prop where
  ex : ∃ (oc : Value) (od : Option Addr) (kV doc pm : Value) (an : Option Addr) (cdv ct : Value) (osl : Array (Option Value)),
    fd = PySem.W.fnOf x qual (defArgs st) (defBody st) (defScope st) .none kV doc pm an cdv ct ∧ K.lookup f = some ⟨oc, od, .func fd, osl⟩ ∧ PySem.W.codeIn K cdv qual = true
  kp : PySem.W.keepIn K (.ref f) = true
section
variable {P : Program} {w : World} {K : PySem.W.Frag} {mg : Str → Option Value} {base : Heap}
/-- THE RULE for a def: its body as a term of rules, and the reading of that term -/
theorem Fun.ok {x qual : Str} {st : Stmt} {f : Addr} {fd : FuncData} {N ps : List Str} {k : Nat} {sp : Sp} (F : Fun K x qual st f fd) (S : FnScope N ps (defScope st)) (len : ∀ vs H Q E, sp vs H Q E → vs.length = ps.length)
    (hbody : ∀ (cdv : Value) (A : Around) (outer : List Env) (s : Shared) (H : Hp) (vs : List V) (Q : VK) (E : XK), Room k (A.deeper (envOfC qual (defScope st) s.heap.objs.size f cdv)) → sp vs H Q E →
      ∃ t, PSs (cxOf CX0 P w K mg base N qual (defScope st) f cdv A outer s H E).nox (defBody st) t ∧ t { nx := fun _ H' => Q .non H', rt := Q } (start N vs) H) : FnOk P w K mg base CX0 (k + 1) f fd ps sp := by
  obtain ⟨oc, od, kV, doc, pm, an, cdv, ct, osl, rfl, lk, hcd⟩ := F.ex
  refine fn_of lk hcd S len fun A outer s H vs Q E hr hsp => ?_
  obtain ⟨t, h, q⟩ := hbody cdv A outer s H vs Q E hr hsp
  exact ⟨t, h.nox, q⟩
/-- how its arguments bind (no defaults): h is «fun _ _ _ _ _ _ us hl => match us, hl with | [_, _], _ => rfl», one _ a parameter -/
theorem Fun.binds {x qual : Str} {st : Stmt} {f : Addr} {fd : FuncData} {ps : List Str} (F : Fun K x qual st f fd)
    (h : ∀ (kV doc pm : Value) (an : Option Addr) (cdv ct : Value) (us : List Value), us.length = ps.length → bindArgs (PySem.W.fnOf x qual (defArgs st) (defBody st) (defScope st) .none kV doc pm an cdv ct) ⟨us, []⟩ = pure (ps.zip us)) : Binds K fd ps [] := by
  obtain ⟨oc, od, kV, doc, pm, an, cdv, ct, osl, rfl, lk, hcd⟩ := F.ex
  exact .all (h kV doc pm an cdv ct)
theorem fun_mk {x qual : Str} {st : Stmt} {f : Addr} {oc : Value} {od an : Option Addr} {osl : Array (Option Value)} {kV doc pm cdv ct : Value} (l : K.lookup f = some ⟨oc, od, .func (PySem.W.fnOf x qual (defArgs st) (defBody st) (defScope st) .none kV doc pm an cdv ct), osl⟩)
    (c : PySem.W.codeIn K cdv qual = true) (k : PySem.W.keepIn K (.ref f) = true) : Fun K x qual st f (PySem.W.fnOf x qual (defArgs st) (defBody st) (defScope st) .none kV doc pm an cdv ct) := ⟨⟨oc, od, kV, doc, pm, an, cdv, ct, osl, rfl, l, c⟩, k⟩
end
theorem small1000 {n : Nat} (h : n ≤ 1000) : n < sizeLine := Nat.lt_of_le_of_lt h (by decide)

/-! ### expressions in short: the name that stands in the i-th slot -/
section
variable {X : Cx}
theorem pv (i : Nat) {x : Str} {pos : Pos} (hN : X.N[i]? = some x := by rfl) (hv : Vis X.env.scope x := by first | exact Or.inl rfl | exact Or.inr (Or.inl rfl) | exact Or.inr (Or.inr rfl)) (hd : (x == ("__debug__" : Str)) = false := by decide)
    (hcd : (x == ("__classdict__" : Str)) = false := by decide) : PE X (.Name x pos) (tVar i) := pe_var hN hv hd hcd
end

/-! ### tests -/
theorem iteF {A B : Prop} (h : B) : if false = true then A else B := by
  rw [if_neg Bool.false_ne_true]
  exact h
theorem iteT {A B : Prop} (h : A) : if true = true then A else B := by
  rw [if_pos rfl]
  exact h
theorem iteNS {c A B : Prop} [Decidable c] (hc : c) (h : B) : if (!decide c) = true then A else B := by
  rw [decide_eq_true hc]
  exact iteF h

/-! ### heaps -/
/-- all that was tracked is as it was -/
def Same (H H' : Hp) : Prop := ∀ b o, H b = some o → H' b = some o
theorem Same.refl (H : Hp) : Same H H := fun _ _ h => h
theorem Same.trans {H H1 H2 : Hp} (a : Same H H1) (b : Same H1 H2) : Same H H2 := fun c o h => b c o (a c o h)
theorem Same.free {H H' : Hp} (e : Same H H') {l : Addr} (h : H' l = Option.none) : H l = Option.none := by
  cases q : H l with
  | none => rfl
  | some o =>
    rw [e l o q] at h
    cases h
theorem Same.seq {K : PySem.W.Frag} {H H' : Hp} {a : Addr} {xs : List V} (e : Same H H') (h : SqL K H a xs) : SqL K H' a xs := by
  rcases h with (h | ⟨o, h⟩) | h
  · exact .inl (.inl (e _ _ h))
  · exact .inl (.inr ⟨o, e _ _ h⟩)
  · exact .inr h

/-! ### a dict's pairs: keys that differ -/
section
variable {κ : Type} [DecidableEq κ]
end
/-! ### lists -/
theorem at_of {xs : List V} {z : Int} {j : Nat} {v : V} (e : z = (j : Int)) (h : xs[j]? = some v) : atI xs z = some v := by
  rw [e]
  exact atI_nat h
/-- a new instance and its __init__ leave all that was tracked as it was -/
theorem Same.made {H H1 : Hp} {x dx C : Addr} (nx : H x = Option.none) (nd : H dx = Option.none) (k : ∀ b o, (upd (upd H dx (.own x)) x (.ins C dx [])) b = some o → b ≠ x → H1 b = some o) : Same H H1 := fun b o e =>
  k b o (by rw [upd_ne (ne_of_none e nx), upd_ne (ne_of_none e nd)]; exact e) (ne_of_none e nx)
end L2


section
set_option Elab.async false
set_option linter.all false
set_option maxRecDepth 100000
set_option maxHeartbeats 2000000
namespace L2
open PySem PySem.Spec PyProof.Rows
open PySem.W (WData Codec OpenSpec Well WellAll ReadsW ReadsAllW)
/-! ### an answer as data -/
mutual
/-- x stands for the datum d, lists and tuples all the way -/
inductive Dw (K : PySem.W.Frag) (H : Hp) : V → WData → Prop
  | non : Dw K H .non .none
  | bl (b : Bool) : Dw K H (.bl b) (.bool b)
  | int (i : Int) : Dw K H (.int i) (.int i)
  | str (x : Str) : Dw K H (.str x) (.str x)
  | byt (b : Array UInt8) : Dw K H (.byt b) (.bytes b.toList)
  | lst {a : Addr} {xs : List V} {ds : List WData} : SqL K H a xs → DwAll K H xs ds → Dw K H (.ref a) (.list ds)
  | tup {a : Addr} {xs : List V} {ds : List WData} : SqT K H a xs → DwAll K H xs ds → Dw K H (.ref a) (.tuple ds)
inductive DwAll (K : PySem.W.Frag) (H : Hp) : List V → List WData → Prop
  | nil : DwAll K H [] []
  | cons {v : V} {vs : List V} {d : WData} {ds : List WData} : Dw K H v d → DwAll K H vs ds → DwAll K H (v :: vs) (d :: ds)
end
theorem dw_ints {K : PySem.W.Frag} {H : Hp} : ∀ ns : List Int, DwAll K H (ns.map V.int) (ns.map WData.int)
  | [] => .nil
  | n :: r => .cons (.int n) (dw_ints r)
theorem ints_dw {K : PySem.W.Frag} {H : Hp} : ∀ (ns : List Int) (xs : List V), DwAll K H xs (ns.map WData.int) → xs = ns.map V.int
  | [], xs, h => by
    cases h
    rfl
  | n :: r, xs, h => by
    cases h with
    | cons h1 h2 =>
      cases h1
      rw [ints_dw r _ h2] <;> rfl
section
variable {P : Program} {w : World} {K : PySem.W.Frag} {H : Hp} {h : Heap} {R : PySem.W.WRecords} {cl : Str → Option Addr}
theorem sqL_at {a : Addr} {xs : List V} (hok : HOk P w H h) (KX : K.In h) (q : SqL K H a xs) : ∃ (its : List Value) (o : Obj) (n : Nat), Vals xs its ∧ h.get? a = some o ∧ o.cls = .type "list" ∧ o.data = .seq its.toArray n := by
  rcases q with q | ⟨o, its, n, e, hc, _, hd, _, hv⟩
  · obtain ⟨_, its, n, hv, e⟩ := (show ObjOk P w H h a (.lst xs) from q.ok hok)
    exact ⟨its, _, n, hv, e, rfl, rfl⟩
  · exact ⟨its.toList, o, n, hv, KX _ _ e, hc, by simp [hd]⟩
theorem sqT_at {a : Addr} {xs : List V} (hok : HOk P w H h) (KX : K.In h) (q : SqT K H a xs) : ∃ (its : List Value) (o : Obj) (n : Nat), Vals xs its ∧ h.get? a = some o ∧ o.cls = .type "tuple" ∧ o.data = .seq its.toArray n := by
  rcases q with q | ⟨o, its, n, e, hc, hd, _, hv⟩
  · obtain ⟨_, its, hv, o, e, hc, n, hd⟩ := (show ObjOk P w H h a (.tup xs) from q.ok hok)
    exact ⟨its, o, n, hv, e, hc, hd⟩
  · exact ⟨its.toList, o, n, hv, KX _ _ e, hc, by simp [hd]⟩
mutual
theorem Dw.reads (hok : HOk P w H h) (KX : K.In h) : ∀ (d : WData) (v : V) (u : Value), Dw K H v d → RelV v u → ∃ as, ReadsW R cl h u d as
  | .none, _, _, x, r => by
    cases x
    cases r
    exact ⟨_, ReadsW.none⟩
  | .bool b, _, _, x, r => by
    cases x
    cases r
    exact ⟨_, ReadsW.bool b⟩
  | .int i, _, _, x, r => by
    cases x
    obtain ⟨t, rfl⟩ := r
    exact ⟨_, ReadsW.int i t⟩
  | .str s, _, _, x, r => by
    cases x
    obtain ⟨t, rfl⟩ := r
    exact ⟨_, ReadsW.str s t⟩
  | .bytes b, _, _, x, r => by
    cases x
    obtain ⟨t, rfl⟩ := r
    exact ⟨_, ReadsW.bytes _ t⟩
  | .list ds, _, _, x, r => by
    cases x with
    | lst hs ha =>
      cases r
      obtain ⟨its, o, n, rv, ho, hc, hd⟩ := sqL_at hok KX hs
      obtain ⟨as, hr⟩ := Dw.readsAll hok KX ds _ its ha rv
      exact ⟨_, ReadsW.list ho hc hd hr⟩
  | .tuple ds, _, _, x, r => by
    cases x with
    | tup hs ha =>
      cases r
      obtain ⟨its, o, n, rv, ho, hc, hd⟩ := sqT_at hok KX hs
      obtain ⟨as, hr⟩ := Dw.readsAll hok KX ds _ its ha rv
      exact ⟨_, ReadsW.tuple ho hc hd hr⟩
  | .float _, _, _, x, _ => by cases x
  | .dict _, _, _, x, _ => by cases x
  | .bytearray _, _, _, x, _ => by cases x
  | .set _, _, _, x, _ => by cases x
  | .frozenset _, _, _, x, _ => by cases x
  | .obj _ _, _, _, x, _ => by cases x
theorem Dw.readsAll (hok : HOk P w H h) (KX : K.In h) : ∀ (ds : List WData) (vs : List V) (us : List Value), DwAll K H vs ds → Vals vs us → ∃ as, ReadsAllW R cl h us ds as
  | [], _, _, x, r => by
    cases x
    cases r
    exact ⟨_, ReadsAllW.nil⟩
  | d :: ds, _, _, x, r => by
    cases x with
    | cons h1 h2 =>
      cases r with
      | cons r1 r2 =>
        obtain ⟨as, q1⟩ := Dw.reads hok KX d _ _ h1 r1
        obtain ⟨bs, q2⟩ := Dw.readsAll hok KX ds _ _ h2 r2
        exact ⟨_, ReadsAllW.cons q1 q2⟩
end
end
/-! ### the arguments -/
mutual
/-- data that a codec tells -/
def plW : WData → Bool
  | .none => true
  | .bool _ => true
  | .int _ => true
  | .str _ => true
  | .bytes _ => true
  | .list xs => plWs xs
  | .tuple xs => plWs xs
  | _ => false
def plWs : List WData → Bool
  | [] => true
  | x :: r => plW x && plWs r
end
theorem plWs_map {α : Type} {f : α → WData} (h : ∀ a, plW (f a) = true) : ∀ l : List α, plWs (l.map f) = true
  | [] => rfl
  | x :: r => by
    show (plW (f x) && plWs (r.map f)) = true
    rw [h x, plWs_map h r] <;> rfl
theorem pl_enc : ∀ (c : Codec) (a : c.denote), plW (c.enc a) = true
  | .unit, _ => rfl
  | .bool, _ => rfl
  | .int _ _, _ => rfl
  | .nat _ _, _ => rfl
  | .u8, _ => rfl
  | .bytes _ _, _ => rfl
  | .text _ _ _ _, _ => rfl
  | .list _ _ c, a => plWs_map (fun x => pl_enc c x) a
  | .pair c d, a => by
    show (plW (c.enc a.1) && (plW (d.enc a.2) && true)) = true
    rw [pl_enc c a.1, pl_enc d a.2] <;> rfl
  | .triple c d e, a => by
    show (plW (c.enc a.1) && (plW (d.enc a.2.1) && (plW (e.enc a.2.2) && true))) = true
    rw [pl_enc c a.1, pl_enc d a.2.1, pl_enc e a.2.2] <;> rfl
  | .option c, none => rfl
  | .option c, some x => pl_enc c x
theorem pl_encAll : ∀ (cs : List Codec) (a : Codec.denoteAll cs), plWs (Codec.encAll cs a) = true
  | [], _ => rfl
  | c :: cs, a => by
    show (plW (c.enc a.1) && plWs (Codec.encAll cs a.2)) = true
    rw [pl_enc c a.1, pl_encAll cs a.2] <;> rfl
theorem weight_mem : ∀ {xs : List WData} {d : WData}, d ∈ xs → d.weight ≤ WData.weightAll xs
  | [], d, h => absurd h (by simp)
  | x :: r, d, h => by
    show d.weight ≤ x.weight + 1 + WData.weightAll r
    rcases List.mem_cons.mp h with e | m
    · rw [e]
      omega
    · have z := weight_mem m
      omega
def toV : Value → V
  | .none => .non
  | .bool b => .bl b
  | .int i _ => .int i
  | .str x _ => .str x
  | .bytes b _ => .byt b
  | .ref a => .ref a
  | _ => .non
/-- a value of the arguments, its objects among A -/
def OkU (A : List Addr) : Value → Prop
  | .none => True
  | .bool _ => True
  | .int _ _ => True
  | .str _ _ => True
  | .bytes _ _ => True
  | .ref a => a ∈ A
  | _ => False
theorem OkU.mono {A B : List Addr} (h : ∀ a ∈ A, a ∈ B) : ∀ {u : Value}, OkU A u → OkU B u := fun {u} x => by
  cases u with
  | ref a => exact h a x
  | none => trivial
  | bool b => trivial
  | int i t => trivial
  | str s t => trivial
  | bytes b t => trivial
  | _ => exact False.elim x
theorem relV_toV {A : List Addr} {u : Value} (x : OkU A u) : RelV (toV u) u := by
  cases u with
  | ref a => rfl
  | none => rfl
  | bool b => rfl
  | int i t => exact ⟨t, rfl⟩
  | str s t => exact ⟨t, rfl⟩
  | bytes b t => exact ⟨t, rfl⟩
  | _ => exact False.elim x
theorem vals_toV {A : List Addr} : ∀ {vs : List Value}, (∀ u ∈ vs, OkU A u) → Vals (vs.map toV) vs
  | [], _ => .nil
  | u :: r, h => .cons (relV_toV (h u (List.mem_cons_self ..))) (vals_toV fun x hx => h x (List.mem_cons_of_mem _ hx))
/-- an object of the arguments -/
def ArgOb (h : Heap) (A : List Addr) (a : Addr) : Prop := ∃ vs : List Value, vs.length ≤ sizeLine ∧ (∀ u ∈ vs, OkU A u) ∧
  (h.get? a = some { cls := .type "list", data := .seq vs.toArray } ∨ h.get? a = some { cls := .type "tuple", data := .seq vs.toArray })
theorem ArgOb.mono {h : Heap} {A B : List Addr} {a : Addr} (k : ∀ a ∈ A, a ∈ B) (x : ArgOb h A a) : ArgOb h B a := by
  obtain ⟨vs, h1, h2, h3⟩ := x
  exact ⟨vs, h1, fun u hu => (h2 u hu).mono k, h3⟩
theorem wellAll_len {P : Params} {h : Heap} : ∀ {vs : List Value} {ds : List WData}, WellAll P h vs ds → vs.length = ds.length
  | _, _, .nil => rfl
  | _, _, .cons _ b => by
    show _ + 1 = _ + 1
    rw [wellAll_len b]
theorem well_list {P : Params} {h : Heap} {v : Value} {ds : List WData} (x : Well P h v (.list ds)) : ∃ (a : Addr) (vs : List Value), v = .ref a ∧ h.get? a = some { cls := .type "list", data := .seq vs.toArray } ∧ WellAll P h vs ds := by
  cases x with
  | list ho hall => exact ⟨_, _, rfl, ho, hall⟩
theorem well_tuple {P : Params} {h : Heap} {v : Value} {ds : List WData} (x : Well P h v (.tuple ds)) : ∃ (a : Addr) (vs : List Value), v = .ref a ∧ h.get? a = some { cls := .type "tuple", data := .seq vs.toArray } ∧ WellAll P h vs ds := by
  cases x with
  | tuple ho hall => exact ⟨_, _, rfl, ho, hall⟩
theorem well_cons {P : Params} {h : Heap} {us : List Value} {d : WData} {ds : List WData} (x : WellAll P h us (d :: ds)) : ∃ (v : Value) (vs : List Value), us = v :: vs ∧ Well P h v d ∧ WellAll P h vs ds := by
  cases x with
  | cons a b => exact ⟨_, _, rfl, a, b⟩
theorem line_of {n : Nat} (h : n ≤ 1048576) : n ≤ sizeLine := Nat.le_trans h (by decide)
section
variable {P : Params} {h : Heap}
mutual
theorem area_one : ∀ (d : WData) (v : Value), Well P h v d → plW d = true → d.weight ≤ 1048576 → ∃ A : List Addr, OkU A v ∧ ∀ a ∈ A, ArgOb h A a
  | .none, _, x, _, _ => by
    cases x
    exact ⟨[], trivial, fun a m => absurd m (by simp)⟩
  | .bool b, _, x, _, _ => by
    cases x
    exact ⟨[], trivial, fun a m => absurd m (by simp)⟩
  | .int i, _, x, _, _ => by
    cases x
    exact ⟨[], trivial, fun a m => absurd m (by simp)⟩
  | .str s, _, x, _, _ => by
    cases x
    exact ⟨[], trivial, fun a m => absurd m (by simp)⟩
  | .bytes b, _, x, _, _ => by
    cases x
    exact ⟨[], trivial, fun a m => absurd m (by simp)⟩
  | .list ds, _, x, p, z => by
    obtain ⟨a, vs, rfl, ho, hall⟩ := well_list x
    have z2 : WData.weightAll ds ≤ 1048576 := z
    obtain ⟨A, h1, h2⟩ := area_all ds _ hall p fun d hd => Nat.le_trans (weight_mem hd) z2
    have k : ∀ b ∈ A, b ∈ a :: A := fun b hb => List.mem_cons_of_mem _ hb
    refine ⟨a :: A, List.mem_cons_self .., fun b hb => ?_⟩
    rcases List.mem_cons.mp hb with e | m
    · rw [e]
      exact ⟨vs, line_of (by rw [wellAll_len hall]; exact Nat.le_trans (PySem.W.length_le_weightAllW ds) z2), fun u hu => (h1 u hu).mono k, .inl ho⟩
    · exact (h2 b m).mono k
  | .tuple ds, _, x, p, z => by
    obtain ⟨a, vs, rfl, ho, hall⟩ := well_tuple x
    have z2 : WData.weightAll ds ≤ 1048576 := z
    obtain ⟨A, h1, h2⟩ := area_all ds _ hall p fun d hd => Nat.le_trans (weight_mem hd) z2
    have k : ∀ b ∈ A, b ∈ a :: A := fun b hb => List.mem_cons_of_mem _ hb
    refine ⟨a :: A, List.mem_cons_self .., fun b hb => ?_⟩
    rcases List.mem_cons.mp hb with e | m
    · rw [e]
      exact ⟨vs, line_of (by rw [wellAll_len hall]; exact Nat.le_trans (PySem.W.length_le_weightAllW ds) z2), fun u hu => (h1 u hu).mono k, .inr ho⟩
    · exact (h2 b m).mono k
  | .float _, _, _, p, _ => Bool.noConfusion (show false = true from p)
  | .dict _, _, _, p, _ => Bool.noConfusion (show false = true from p)
  | .bytearray _, _, _, p, _ => Bool.noConfusion (show false = true from p)
  | .set _, _, _, p, _ => Bool.noConfusion (show false = true from p)
  | .frozenset _, _, _, p, _ => Bool.noConfusion (show false = true from p)
  | .obj _ _, _, _, p, _ => Bool.noConfusion (show false = true from p)
theorem area_all : ∀ (ds : List WData) (vs : List Value), WellAll P h vs ds → plWs ds = true → (∀ d ∈ ds, d.weight ≤ 1048576) → ∃ A : List Addr, (∀ u ∈ vs, OkU A u) ∧ ∀ a ∈ A, ArgOb h A a
  | [], _, x, _, _ => by
    cases x
    exact ⟨[], fun u m => absurd m (by simp), fun a m => absurd m (by simp)⟩
  | d :: ds, _, x, p, z => by
    obtain ⟨v, vs, rfl, x1, x2⟩ := well_cons x
    have q : plW d = true ∧ plWs ds = true := Bool.and_eq_true_iff.mp p
    obtain ⟨A, a1, a2⟩ := area_one d v x1 q.1 (z d (List.mem_cons_self ..))
    obtain ⟨B, b1, b2⟩ := area_all ds vs x2 q.2 fun e he => z e (List.mem_cons_of_mem _ he)
    have kA : ∀ b ∈ A, b ∈ A ++ B := fun b hb => List.mem_append.mpr (.inl hb)
    have kB : ∀ b ∈ B, b ∈ A ++ B := fun b hb => List.mem_append.mpr (.inr hb)
    refine ⟨A ++ B, fun u hu => ?_, fun b hb => ?_⟩
    · rcases List.mem_cons.mp hu with e | m
      · rw [e]
        exact a1.mono kA
      · exact (b1 u m).mono kB
    · rcases List.mem_append.mp hb with m | m
      · exact (a2 b m).mono kA
      · exact (b2 b m).mono kB
end
end
/-- what is tracked of an argument's object -/
def hoOf (o : Obj) : Option HO := match o.data with
  | .seq vs _ => if (o.cls == Value.type "list") = true then some (.frz o (.lst (vs.toList.map toV))) else some (.frz o (.tup (vs.toList.map toV)))
  | _ => none
def argH (K : PySem.W.Frag) (h : Heap) (A : List Addr) : Hp := fun b => if b ∈ A then (if (K.lookup b).isNone = true then (h.get? b).bind hoOf else none) else none
/-- nothing is tracked but what is known to the object -/
def OnlyF (H : Hp) : Prop := ∀ b, H b = none ∨ ∃ o u, H b = some (.frz o u)
theorem hoOf_lst (vs : List Value) : hoOf { cls := .type "list", data := .seq vs.toArray } = some (.frz { cls := .type "list", data := .seq vs.toArray } (.lst (vs.map toV))) := by
  show (if (Value.type "list" == Value.type "list") = true then some (HO.frz { cls := .type "list", data := .seq vs.toArray } (.lst (vs.toArray.toList.map toV))) else some (HO.frz { cls := .type "list", data := .seq vs.toArray } (.tup (vs.toArray.toList.map toV)))) = _
  rw [if_pos (beq_self_eq_true _)]
theorem hoOf_tup (vs : List Value) : hoOf { cls := .type "tuple", data := .seq vs.toArray } = some (.frz { cls := .type "tuple", data := .seq vs.toArray } (.tup (vs.map toV))) := by
  show (if (Value.type "tuple" == Value.type "list") = true then some (HO.frz { cls := .type "tuple", data := .seq vs.toArray } (.lst (vs.toArray.toList.map toV))) else some (HO.frz { cls := .type "tuple", data := .seq vs.toArray } (.tup (vs.toArray.toList.map toV)))) = _
  rw [if_neg (by decide)]
section
variable {P : Program} {w : World} {K : PySem.W.Frag} {h : Heap} {A : List Addr}
theorem argH_at {b : Addr} {o : Obj} (hb : b ∈ A) (hk : K.lookup b = none) (e : h.get? b = some o) : argH K h A b = hoOf o := by
  unfold argH
  rw [if_pos hb, hk, if_pos (show (none : Option Obj).isNone = true from rfl), e] <;> rfl
theorem of_argH {b : Addr} {u : HO} (q : argH K h A b = some u) : b ∈ A ∧ K.lookup b = none := by
  unfold argH at q
  by_cases hb : b ∈ A
  · rw [if_pos hb] at q
    cases hk : K.lookup b with
    | none => exact ⟨hb, rfl⟩
    | some o =>
      rw [hk, if_neg (by simp)] at q
      cases q
  · rw [if_neg hb] at q
    cases q
/-- what stands tracked -/
theorem argH_is (ar : ∀ a ∈ A, ArgOb h A a) {b : Addr} {u : HO} (q : argH K h A b = some u) : K.lookup b = none ∧ ∃ vs : List Value, vs.length ≤ sizeLine ∧ (∀ u ∈ vs, OkU A u) ∧
    ((h.get? b = some { cls := .type "list", data := .seq vs.toArray } ∧ u = .frz { cls := .type "list", data := .seq vs.toArray } (.lst (vs.map toV))) ∨
     (h.get? b = some { cls := .type "tuple", data := .seq vs.toArray } ∧ u = .frz { cls := .type "tuple", data := .seq vs.toArray } (.tup (vs.map toV)))) := by
  obtain ⟨hb, hk⟩ := of_argH q
  obtain ⟨vs, h1, h2, h3⟩ := ar b hb
  refine ⟨hk, vs, h1, h2, ?_⟩
  rcases h3 with e | e
  · rw [argH_at hb hk e, hoOf_lst] at q
    exact .inl ⟨e, (Option.some.inj q).symm⟩
  · rw [argH_at hb hk e, hoOf_tup] at q
    exact .inr ⟨e, (Option.some.inj q).symm⟩
theorem argH_only (ar : ∀ a ∈ A, ArgOb h A a) : OnlyF (argH K h A) := fun b => by
  cases q : argH K h A b with
  | none => exact .inl rfl
  | some u =>
    obtain ⟨_, vs, _, _, ⟨_, e⟩ | ⟨_, e⟩⟩ := argH_is ar q
    · exact .inr ⟨_, _, by rw [e]⟩
    · exact .inr ⟨_, _, by rw [e]⟩
theorem argH_ok (ar : ∀ a ∈ A, ArgOb h A a) : HOk P w (argH K h A) h := fun b u q => by
  obtain ⟨_, vs, h1, h2, ⟨e, rfl⟩ | ⟨e, rfl⟩⟩ := argH_is ar q
  · exact ⟨e, by rw [List.length_map]; exact h1, vs, _, vals_toV h2, e⟩
  · exact ⟨e, by rw [List.length_map]; exact h1, vs, vals_toV h2, _, e, rfl, _, rfl⟩
theorem seq_inj {c c' : Value} {vs us : List Value} (e : (some { cls := c, data := .seq vs.toArray } : Option Obj) = some { cls := c', data := .seq us.toArray }) : c = c' ∧ vs = us := by
  have e1 := Option.some.inj e
  have e2 : c = c' := congrArg Obj.cls e1
  have e3 : Data.seq vs.toArray = Data.seq us.toArray := congrArg Obj.data e1
  injection e3 with e4
  refine ⟨e2, ?_⟩
  have e5 := congrArg Array.toList e4
  simpa using e5
/-- a list argument -/
theorem argL (KX : K.In h) (ar : ∀ a ∈ A, ArgOb h A a) {a : Addr} {vs : List Value} (ha : a ∈ A) (e : h.get? a = some { cls := .type "list", data := .seq vs.toArray }) : (∀ u ∈ vs, OkU A u) ∧ SqL K (argH K h A) a (vs.map toV) := by
  obtain ⟨us, h1, h2, h3⟩ := ar a ha
  have hu : us = vs := by
    rcases h3 with q | q
    · rw [e] at q
      exact (seq_inj q).2.symm
    · rw [e] at q
      exact absurd (Value.type.inj (seq_inj q).1) (by decide)
  subst hu
  refine ⟨h2, ?_⟩
  cases hk : K.lookup a with
  | none => exact .inl (.inr ⟨_, by rw [argH_at ha hk e, hoOf_lst]⟩)
  | some o =>
    have e2 := KX a o hk
    rw [e] at e2
    obtain rfl := Option.some.inj e2
    exact .inr ⟨_, us.toArray, _, hk, rfl, rfl, rfl, by rw [List.size_toArray]; exact h1, by simpa using vals_toV h2⟩
theorem argT (KX : K.In h) (ar : ∀ a ∈ A, ArgOb h A a) {a : Addr} {vs : List Value} (ha : a ∈ A) (e : h.get? a = some { cls := .type "tuple", data := .seq vs.toArray }) : (∀ u ∈ vs, OkU A u) ∧ SqT K (argH K h A) a (vs.map toV) := by
  obtain ⟨us, h1, h2, h3⟩ := ar a ha
  have hu : us = vs := by
    rcases h3 with q | q
    · rw [e] at q
      exact absurd (Value.type.inj (seq_inj q).1) (by decide)
    · rw [e] at q
      exact (seq_inj q).2.symm
  subst hu
  refine ⟨h2, ?_⟩
  cases hk : K.lookup a with
  | none => exact .inl (.inr ⟨_, by rw [argH_at ha hk e, hoOf_tup]⟩)
  | some o =>
    have e2 := KX a o hk
    rw [e] at e2
    obtain rfl := Option.some.inj e2
    exact .inr ⟨_, us.toArray, _, hk, rfl, rfl, by rw [List.size_toArray]; exact h1, by simpa using vals_toV h2⟩
mutual
theorem dw_one {Pm : Params} (KX : K.In h) (ar : ∀ a ∈ A, ArgOb h A a) : ∀ (d : WData) (v : Value), Well Pm h v d → plW d = true → OkU A v → Dw K (argH K h A) (toV v) d
  | .none, _, x, _, _ => by
    cases x
    exact .non
  | .bool b, _, x, _, _ => by
    cases x
    exact .bl b
  | .int i, _, x, _, _ => by
    cases x
    exact .int i
  | .str s, _, x, _, _ => by
    cases x
    exact .str s
  | .bytes b, _, x, _, _ => by
    cases x
    have z := Dw.byt (K := K) (H := argH K h A) b.toArray
    exact z
  | .list ds, _, x, p, hu => by
    obtain ⟨a, vs, rfl, ho, hall⟩ := well_list x
    obtain ⟨h2, hs⟩ := argL KX ar hu ho
    exact .lst hs (dw_all KX ar ds _ hall p h2)
  | .tuple ds, _, x, p, hu => by
    obtain ⟨a, vs, rfl, ho, hall⟩ := well_tuple x
    obtain ⟨h2, hs⟩ := argT KX ar hu ho
    exact .tup hs (dw_all KX ar ds _ hall p h2)
  | .float _, _, _, p, _ => Bool.noConfusion (show false = true from p)
  | .dict _, _, _, p, _ => Bool.noConfusion (show false = true from p)
  | .bytearray _, _, _, p, _ => Bool.noConfusion (show false = true from p)
  | .set _, _, _, p, _ => Bool.noConfusion (show false = true from p)
  | .frozenset _, _, _, p, _ => Bool.noConfusion (show false = true from p)
  | .obj _ _, _, _, p, _ => Bool.noConfusion (show false = true from p)
theorem dw_all {Pm : Params} (KX : K.In h) (ar : ∀ a ∈ A, ArgOb h A a) : ∀ (ds : List WData) (vs : List Value), WellAll Pm h vs ds → plWs ds = true → (∀ u ∈ vs, OkU A u) → DwAll K (argH K h A) (vs.map toV) ds
  | [], _, x, _, _ => by
    cases x
    exact .nil
  | d :: ds, _, x, p, hu => by
    obtain ⟨v, vs, rfl, x1, x2⟩ := well_cons x
    have q : plW d = true ∧ plWs ds = true := Bool.and_eq_true_iff.mp p
    exact .cons (dw_one KX ar d v x1 q.1 (hu _ (List.mem_cons_self ..))) (dw_all KX ar ds vs x2 q.2 fun u m => hu u (List.mem_cons_of_mem _ m))
end
end
/-! ### the call -/
theorem spec_call {P : Program} {w : World} {K : PySem.W.Frag} {mg mb : Str → Option Value} {CX : CXT} {k : Nat} {fa : Addr} {fd : FuncData} {ps : List Str} {sp : Sp} {s₁ : Shared} {vals : List Value} {ds : List WData} {R : PySem.W.WRecords} {cl : Str → Option Addr} {d0 : WData}
    (KX : K.In s₁.heap) (hns : s₁.heap.Ns mainGlobals mg) (hb : s₁.heap.Ns builtinsNs mb) (hbb : ∀ x : Str, x ≠ "__name__" → mb x = bootBuiltins x) (hlim : s₁.heap.NoLimit) (hg : s₁.gens = #[])
    (hwl : WellAll w.params s₁.heap vals ds) (hpl : plWs ds = true) (hwt : ∀ d ∈ ds, d.weight ≤ 1048576) (hr : Room k callerA)
    (F : ∀ base : Heap, K.In base → base.Ns mainGlobals mg → FnOk P w K mg base CX k fa fd ps sp) (hbind : ∀ (s : Shared) (us : List Value), us.length = ps.length → BindsTo s fd ⟨us, []⟩ (ps.zip us)) (hlen : ds.length = ps.length)
    (hsp : ∀ (H : Hp) (xs : List V), OnlyF H → DwAll K H xs ds → sp xs H (fun v H' => Dw K H' v d0) fun _ _ _ => False)
    (hCX : ∀ H e s', CX [] H s₁ (fun _ _ _ => False) e s' → False) :
    codeAny (model P w) callerA (.call (.ref fa) ⟨vals, []⟩) (fun r s' => ∃ u as, r = .ok (.ret u) ∧ ReadsW R cl s'.heap u d0 as ∧ OldK s₁.heap s'.heap ∧ s'.os = s₁.os ∧ AllBare s'.gens) s₁ := by
  obtain ⟨A, ho, ar⟩ := area_all ds vals hwl hpl hwt
  have hO : OnlyF (argH K s₁.heap A) := argH_only ar
  have hok : HOk P w (argH K s₁.heap A) s₁.heap := argH_ok ar
  have hS := dw_all KX ar ds vals hwl hpl ho
  have hV := vals_toV ho
  have hK : ∀ b u, argH K s₁.heap A b = some u → K.lookup b = none := fun b u q => (argH_is ar q).1
  have noA : ∀ {b : Addr} {o : Obj} {es : Array DictEntry} {ep : Nat}, s₁.heap.get? b = some o → o.data = .dict es ep → argH K s₁.heap A b = none := fun {b o es ep} e d => by
    cases q : argH K s₁.heap A b with
    | none => rfl
    | some u =>
      obtain ⟨_, vs, _, _, ⟨e2, _⟩ | ⟨e2, _⟩⟩ := argH_is ar q
      · rw [e2] at e
        cases e
        have d' : Data.seq vs.toArray _ = Data.dict es ep := d
        cases d'
      · rw [e2] at e
        cases e
        have d' : Data.seq vs.toArray _ = Data.dict es ep := d
        cases d'
  generalize argH K s₁.heap A = H at hO hok hS hK noA
  have base_of : ∀ {b : Addr} {o : Obj}, s₁.heap.get? b = some o → H b = none → (hidT s₁.heap H).get? b = some o := fun e n => hidT_get e n
  have nsK : ∀ {b : Addr} {m : Str → Option Value}, s₁.heap.Ns b m → (hidT s₁.heap H).Ns b m := fun {b m} ⟨o, es, ep, e, d, r⟩ => ⟨o, es, ep, base_of e (noA e d), d, r⟩
  have nK : ∀ b o, K.lookup b = some o → H b = none := fun b o e => by
    cases q : H b with
    | none => rfl
    | some u =>
      rw [hK b u q] at e
      cases e
  have hKb : K.In (hidT s₁.heap H) := fun b o e => base_of (KX b o e) (nK b o e)
  have hM : Mod K mg (hidT s₁.heap H) := ⟨hKb, nsK hns, ⟨mb, nsK hb, hbb⟩, let ⟨mc, h1, h2⟩ := hlim; ⟨mc, nsK h1, h2⟩⟩
  have e0 : Env0 P w K mg (hidT s₁.heap H) callerA [] s₁ H := ⟨rfl, hM, fun b o e => of_hidT e, Nat.le_of_eq (hidT_size _ _), trivial, fun b hb => absurd (show b ∈ ([] : List Addr) from hb) (by simp), hok, .of_eq hg⟩
  have hl : vals.length = ps.length := by rw [wellAll_len hwl]; exact hlen
  refine codeAny_mono ((F _ hKb (nsK hns)).run callerA [] s₁ H ⟨vals, []⟩ vals (vals.map toV) _ _ hr e0 (hbind s₁ vals hl) hV (hsp H _ hO hS)) fun r s' x => ?_
  cases r with
  | error e => exact (hCX H e s' x).elim
  | ok fl =>
    cases fl with
    | next => exact False.elim x
    | brk => exact False.elim x
    | cont => exact False.elim x
    | ret u =>
      obtain ⟨v, H', os, bare, un, hok', r', q⟩ := x
      have kept : ∀ b o, s₁.heap.get? b = some o → s'.heap.get? b = some o := fun b o e => by
        cases q2 : H b with
        | none => exact un.keep b o e q2 (by intro z; exact absurd (show b ∈ ([] : List Addr) from z) (by simp)) (by simp)
        | some u2 =>
          rcases hO b with z | ⟨ob, u3, z⟩
          · rw [q2] at z
            cases z
          · have z2 := un.frzs b ob _ z
            obtain ⟨e1, _⟩ := hok b _ z
            obtain ⟨e2, _⟩ := hok' b _ z2
            rw [e] at e1
            cases e1
            exact e2
      have KX' : K.In s'.heap := fun b o e => kept b o (KX b o e)
      obtain ⟨as, hrd⟩ := Dw.reads (R := R) (cl := cl) hok' KX' d0 v u q r'
      exact ⟨u, as, rfl, hrd, OldK.of_keep kept, os, bare⟩
/-! ### the row -/
theorem layable_weight {ds : List WData} (h : WData.layableAll ds = true) : ∀ d ∈ ds, d.weight ≤ 1048576 := fun d hd =>
  (PySem.W.layableW_iff.mp (List.all_eq_true.mp h d hd)).2.2
theorem encAll_len : ∀ (cs : List Codec) (a : Codec.denoteAll cs), (Codec.encAll cs a).length = cs.length
  | [], _ => rfl
  | c :: cs, a => by
    show (Codec.encAll cs a.2).length + 1 = cs.length + 1
    rw [encAll_len cs a.2]
/-- the goal that k_headS leaves (case hc), from the promise of the row's def: whatever the arguments that the codecs let and the row asks for, the def gives what stands for enc (f ..) -/
theorem walk_spec {r : OpenSpec} {k : Nat} {q : Program} {loose : List Str} {XP : (Str → Option Value) → Heap → Prop} {YP : World → Heap → Prop} {d : DefRec} {K : Params → PySem.W.Frag} {CX : World → CXT} {ps : List Str} {sp : World → Sp}
    (hwell : r.wellSaid = true) (hdf : d.params.defaults = []) (hlen : r.args.length = ps.length) (hr : Room k callerA)
    (hY : ∀ (w : World) (h : Heap), YP w h → (K w.params).In h)
    (F : ∀ (w : World) (mg : Str → Option Value) (fa : Addr) (h : Heap), YP w h → (K w.params).In h → h.Ns mainGlobals mg → mg d.name = some (.ref fa) →
      ∃ fd : FuncData, (∀ (s : Shared) (us : List Value), us.length = ps.length → BindsTo s fd ⟨us, []⟩ (ps.zip us)) ∧
        ∀ base : Heap, (K w.params).In base → base.Ns mainGlobals mg → FnOk r.prog w (K w.params) mg base (CX w) k fa fd ps (sp w))
    (hsp : ∀ (w : World) (H : Hp) (xs : List V) (a : Codec.denoteAll r.args), OnlyF H → Codec.withinAll r.args a = true → Codec.app r.args r.asked a = true → DwAll (K w.params) H xs (Codec.encAll r.args a) →
      sp w xs H (fun v H' => Dw (K w.params) H' v (r.ret.enc (Codec.app r.args r.f a))) fun _ _ _ => False)
    (hCX : ∀ (w : World) (H : Hp) (s : Shared) (e : Value) (s' : Shared), CX w [] H s (fun _ _ _ => False) e s' → False) :
    PySem.W.WalkOS q loose XP YP r d [] (fun f vs => PySem.call f vs) := by
  intro w s_0 s₁ mg mb G Y fa o pm cd doc dV kV ho hd hcd hD hmg hg args vals as hpre hlay hrd hwl hlo
  obtain ⟨a, e1, e2⟩ := PySem.W.os_pre_some hpre
  obtain ⟨e3, hwi⟩ := Codec.encAll_of_decAll r.args args a e1
  subst e3
  have KX := hY w _ Y
  obtain ⟨fd, hb, hF⟩ := F w mg fa _ Y KX G.T.g hmg
  refine PySem.W.enter_call (codeAny_mono (spec_call (R := []) (cl := classAt s_0.heap) (d0 := r.ret.enc (Codec.app r.args r.f a)) KX G.T.g G.T.b G.T.builtins G.T.nolimit hg hwl (pl_encAll _ _) (layable_weight hlay) hr hF hb (by rw [encAll_len]; exact hlen)
    (fun H xs hO hS => hsp w H xs a hO hwi e2 hS) fun H e s' => hCX w H s₁ e s') fun r' s' hq => ?_)
  obtain ⟨u, as', rfl, h1, h2, h3, h4⟩ := hq
  exact ⟨.inl ⟨u, _, as', rfl, fun _ => rfl, h1, (OpenSpec.post_iff hwell hwi _ _).mpr rfl, fun z => Bool.noConfusion (show false = true from z)⟩, h2, h3, h4⟩
/-- the same where the promise hangs on the written part alone -/
theorem walk_specK {r : OpenSpec} {k : Nat} {q : Program} {loose : List Str} {XP : (Str → Option Value) → Heap → Prop} {YP : World → Heap → Prop} {d : DefRec} {K : Params → PySem.W.Frag} {CX : CXT} {ps : List Str} {sp : PySem.W.Frag → Sp}
    (hwell : r.wellSaid = true) (hdf : d.params.defaults = []) (hlen : r.args.length = ps.length) (hr : Room k callerA)
    (hY : ∀ (w : World) (h : Heap), YP w h → (K w.params).In h)
    (F : ∀ (w : World) (mg : Str → Option Value) (fa : Addr) (h : Heap), YP w h → (K w.params).In h → h.Ns mainGlobals mg → mg d.name = some (.ref fa) →
      ∃ fd : FuncData, (∀ (s : Shared) (us : List Value), us.length = ps.length → BindsTo s fd ⟨us, []⟩ (ps.zip us)) ∧
        ∀ base : Heap, (K w.params).In base → base.Ns mainGlobals mg → FnOk r.prog w (K w.params) mg base CX k fa fd ps (sp (K w.params)))
    (hsp : ∀ (K : PySem.W.Frag) (H : Hp) (xs : List V) (a : Codec.denoteAll r.args), OnlyF H → Codec.withinAll r.args a = true → Codec.app r.args r.asked a = true → DwAll K H xs (Codec.encAll r.args a) →
      sp K xs H (fun v H' => Dw K H' v (r.ret.enc (Codec.app r.args r.f a))) fun _ _ _ => False)
    (hCX : ∀ (H : Hp) (s : Shared) (e : Value) (s' : Shared), CX [] H s (fun _ _ _ => False) e s' → False) :
    PySem.W.WalkOS q loose XP YP r d [] (fun f vs => PySem.call f vs) :=
  walk_spec (K := K) (CX := fun _ => CX) (sp := fun w => sp (K w.params)) hwell hdf hlen hr hY F (fun w H xs a h1 h2 h3 h4 => hsp (K w.params) H xs a h1 h2 h3 h4) fun _ H s e s' => hCX H s e s'
end L2
-- rests on (row put in by the clerk, for the bench that shows a file only what it spells): KE.SpHead KE.OsShapes
end


end
section
/-! The mathematics, apart from the program. -/
namespace Red
open Kp291
theorem choose_zero (n : Nat) : choose n 0 = 1 := rfl
theorem choose_succ (n k : Nat) : choose n (k + 1) = choose n k * (n - k) / (k + 1) := by
  unfold choose
  rw [List.range_succ, List.foldl_append]
  rfl
theorem choose_big (n : Nat) : ∀ k, n < k → choose n k = 0
  | 0, h => absurd h (Nat.not_lt_zero _)
  | k + 1, h => by
    rw [choose_succ]
    by_cases e : n = k
    · subst e; simp
    · rw [choose_big n k (by omega)]; simp
theorem choose_tab : ∀ n, n < 25 → ∀ k, k < 25 → choose n k ≤ 2704156 := by decide +kernel
theorem choose_le {n : Nat} (k : Nat) (h : n ≤ 24) : choose n k ≤ 2704156 := by
  by_cases e : k < 25
  · exact choose_tab n (by omega) k e
  · rw [choose_big n k (by omega)]; omega
theorem choose_tab_pos : ∀ n, n < 25 → ∀ k, k < 25 → k ≤ n → 0 < choose n k := by decide +kernel
theorem choose_pos {n k : Nat} (h : n ≤ 24) (hk : k ≤ n) : 0 < choose n k := choose_tab_pos n (by omega) k (by omega) hk
/-- one turn of Euclid -/
theorem gcd_turn (a b : Nat) : Nat.gcd a b = Nat.gcd b (a % b) := by
  rw [Nat.gcd_comm a b, Nat.gcd_rec b a, Nat.gcd_comm]
/-- a fraction as it is told -/
def fracL (a b : Nat) : List Int := [0, ((a / Nat.gcd a b : Nat) : Int), ((b / Nat.gcd a b : Nat) : Int)]
theorem fracL_eq {a b : Nat} (h : 0 < b) : fracL a b = (0 : Int) :: (Kp295.tellFrac (frac a b)).nums := by
  unfold fracL Kp295.tellFrac frac
  rw [if_neg (by omega)]
theorem just_le {m r : Nat} (n k : Nat) (hm : m ≤ 24) (hr : r ≤ m) : Kp295.justUp m r n k ≤ 2704156 * 2704156 := by
  unfold Kp295.justUp
  split
  · omega
  · exact Nat.mul_le_mul (choose_le _ (by omega)) (choose_le _ (by omega))
/-! ### the first greatest -/
/-- of 0 to n the first at which f is greatest -/
def best (f : Nat → Nat) (n : Nat) : Nat := (List.range (n + 1)).foldl (fun (b k : Nat) => if f b < f k then k else b) 0
theorem best_zero (f : Nat → Nat) : best f 0 = 0 := by
  show (if f 0 < f 0 then 0 else 0) = 0
  simp
theorem best_succ (f : Nat → Nat) (n : Nat) : best f (n + 1) = if f (best f n) < f (n + 1) then n + 1 else best f n := by
  unfold best
  rw [List.range_succ (n := n + 1), List.foldl_append]
  rfl
theorem best_is (f : Nat → Nat) : ∀ n, best f n ≤ n ∧ (∀ j, j ≤ n → f j ≤ f (best f n)) ∧ ∀ j, j < best f n → f j < f (best f n)
  | 0 => by
    rw [best_zero]
    refine ⟨Nat.le_refl _, fun j h => ?_, fun j h => absurd h (Nat.not_lt_zero _)⟩
    have e : j = 0 := by omega
    rw [e]
    exact Nat.le_refl _
  | n + 1 => by
    obtain ⟨h1, h2, h3⟩ := best_is f n
    rw [best_succ]
    by_cases h : f (best f n) < f (n + 1)
    · rw [if_pos h]
      refine ⟨Nat.le_refl _, fun j hj => ?_, fun j hj => ?_⟩
      · by_cases e : j = n + 1
        · rw [e]; exact Nat.le_refl _
        · exact Nat.le_trans (h2 j (by omega)) (Nat.le_of_lt h)
      · exact Nat.lt_of_le_of_lt (h2 j (by omega)) h
    · rw [if_neg h]
      refine ⟨by omega, fun j hj => ?_, h3⟩
      by_cases e : j = n + 1
      · rw [e]; omega
      · exact h2 j (by omega)
/-! ### so many or more -/
theorem sum_snoc0 (l : List Nat) (x : Nat) : Kp291.sum (l ++ [x]) = Kp291.sum l + x := by
  unfold Kp291.sum
  rw [List.foldl_append]
  rfl
theorem isum_snoc (l : List Int) (x : Int) : (l ++ [x]).sum = l.sum + x := by simp
theorem atLeast_is (f : Nat → Nat) (k : Nat) : ∀ n, (((List.range n).map fun j => ((f j : Nat) : Int)).drop k).sum = ((Kp291.sum ((List.range n).map fun j => if k ≤ j then f j else 0) : Nat) : Int)
  | 0 => by simp [Kp291.sum]
  | n + 1 => by
    have ih := atLeast_is f k n
    rw [List.range_succ, List.map_append, List.map_append]
    show (((List.range n).map (fun j => ((f j : Nat) : Int)) ++ [((f n : Nat) : Int)]).drop k).sum = ((Kp291.sum ((List.range n).map (fun j => if k ≤ j then f j else 0) ++ [if k ≤ n then f n else 0]) : Nat) : Int)
    rw [sum_snoc0, Int.natCast_add, ← ih]
    by_cases h : k ≤ n
    · rw [if_pos h, List.drop_append_of_le_length (by simpa using h), isum_snoc]
    · rw [if_neg h, List.drop_eq_nil_of_le (by simp; omega), List.drop_eq_nil_of_le (by simp; omega)]
      simp
theorem sum_le (B : Nat) : ∀ (n : Nat) (g : Nat → Nat), (∀ j, j < n → g j ≤ B) → Kp291.sum ((List.range n).map g) ≤ n * B
  | 0, g, h => by simp [Kp291.sum]
  | n + 1, g, h => by
    rw [List.range_succ, List.map_append]
    show Kp291.sum ((List.range n).map g ++ [g n]) ≤ _
    rw [sum_snoc0, Nat.succ_mul]
    exact Nat.add_le_add (sum_le B n g fun j hj => h j (by omega)) (h n (by omega))
theorem isum_nats : ∀ l : List Nat, (l.map fun c => ((c : Nat) : Int)).sum = ((l.sum : Nat) : Int)
  | [] => rfl
  | c :: l => by
    rw [List.map_cons, List.sum_cons, List.sum_cons, isum_nats l, Int.natCast_add]
/-! ### so many are needed -/
theorem needed_yes {m r k a c i : Nat} (hi : i < m + 1) (h : a * choose m i ≤ c * Kp295.atLeastUp m r i k) (no : ∀ j, j < i → ¬ a * choose m j ≤ c * Kp295.atLeastUp m r j k) : Kp295.needed m r k a c = some i := by
  unfold Kp295.needed
  rw [List.find?_range_eq_some]
  refine ⟨decide_eq_true h, List.mem_range.mpr hi, fun j hj => ?_⟩
  rw [decide_eq_false (no j hj)]
  rfl
theorem needed_no {m r k a c : Nat} (no : ∀ j, j < m + 1 → ¬ a * choose m j ≤ c * Kp295.atLeastUp m r j k) : Kp295.needed m r k a c = none := by
  unfold Kp295.needed
  rw [List.find?_range_eq_none]
  intro j hj
  rw [decide_eq_false (no j hj)]
  rfl
theorem just_pair (r o n k : Nat) : Kp295.justUp (r + o) r n k = if n < k then 0 else choose r k * choose o (n - k) := by
  unfold Kp295.justUp
  rw [Nat.add_sub_cancel_left]
end Red


end
section
set_option linter.all false
/-! The specification's calls and states, apart from the program. -/
namespace Red
open Kp291 (choose frac)
open Kp295 (State Call justUp)
/-- what stands in the object (begun, red and other ones left, the draws) for a state of the specification -/
def StRel (s : State) (b : Bool) (r o : Nat) (was : List Nat) : Prop := match s with
  | none => b = false
  | some d => b = true ∧ d.was = was ∧ d.box.drawn = was.length ∧ d.box.reds = was.sum ∧ (∀ c ∈ was, c ≤ 1) ∧ d.box.red = r + was.sum ∧ d.box.all = r + o + was.length ∧ r + o + was.length ≤ 24
/-- what is answered to a call that changes nothing -/
def ansOf (c : Call) (r o : Nat) (was : List Nat) : List Int := match c with
  | .chance => if r + o = 0 then [-6] else fracL r (r + o)
  | .just n k => if r + o < n then [-22] else fracL (justUp (r + o) r n k) (choose (r + o) n)
  | .all n => if r + o < n then [-22] else ((n + 1 : Nat) : Int) :: (List.range (n + 1)).map fun k => ((justUp (r + o) r n k : Nat) : Int)
  | .likeliest n => if r + o < n then [-22] else [((Kp295.likeliest (r + o) r n : Nat) : Int)]
  | .mean n => if r + o < n then [-22] else if r + o = 0 then [-6] else fracL (n * r) (r + o)
  | .spread n => if r + o < n then [-22] else if r + o < 2 then [-6] else fracL (n * r * o * (r + o - n)) ((r + o) * (r + o) * (r + o - 1))
  | .spreadBack n => if r + o < n then [-22] else if r + o = 0 then [-6] else fracL (n * r * o) ((r + o) * (r + o))
  | .atLeast n k => if r + o < n then [-22] else fracL (Kp295.atLeastUp (r + o) r n k) (choose (r + o) n)
  | .needed k a c => if c = 0 ∨ 1000 < c ∨ c < a then [-22] else match Kp295.needed (r + o) r k a c with
      | some n => [(n : Int)]
      | none => [-33]
  | .kthAt k n => if k = 0 ∨ r < k then [-33] else if n = 0 ∨ r + o < n then [-22] else fracL (if k = 0 ∨ n < k then 0 else choose (n - 1) (k - 1) * choose (r + o - n) (r - k)) (choose (r + o) r)
  | .kthMean k => if k = 0 ∨ r < k then [-33] else fracL (k * (r + o + 1)) (r + 1)
  | .two i j => if 1 < i ∨ 1 < j then [-22] else if r + o < 2 then [-6] else fracL ((if i = 1 then r else o) * (if i = j then (if i = 1 then r else o) - 1 else (if j = 1 then r else o))) ((r + o) * (r + o - 1))
  | .swapped n k => if r + o < n then [-22] else fracL (justUp (r + o) n r k) (choose (r + o) r)
  | .guess n k => if r + o < n ∨ n < k then [-22] else [((Kp295.guess (r + o) n k : Nat) : Int)]
  | .certain k => if r < k then [-33] else [((if k = 0 then 0 else o + k : Nat) : Int)]
  | .told => [((r + o + was.length : Nat) : Int), ((r + was.sum : Nat) : Int), (was.length : Int), (was.sum : Int)]
  | _ => []
/-- calls that change nothing -/
def isAsk : Call → Bool
  | .begin_ _ _ => false
  | .draw _ => false
  | .back => false
  | _ => true
theorem tell {a b : Nat} (h : 0 < b) : (Kp295.tellFrac (frac a b)).num :: (Kp295.tellFrac (frac a b)).nums = fracL a b := (fracL_eq h).symm
theorem say_ (v : Int) : (Kp295.say v).num :: (Kp295.say v).nums = [v] := rfl
theorem step_ask {d : Kp295.Desk} {b : Bool} {r o : Nat} {was : List Nat} (S : StRel (some d) b r o was) {c : Call} (h : isAsk c = true) :
    (Kp295.step (some d) c).1 = some d ∧ (Kp295.step (some d) c).2.num :: (Kp295.step (some d) c).2.nums = ansOf c r o was := by
  obtain ⟨rfl, hw, hd, hs, hle, hr, ha, hm⟩ := S
  have el : Kp295.left d.box = r + o := by unfold Kp295.left; omega
  have er : Kp295.redLeft d.box = r := by unfold Kp295.redLeft; omega
  have eo : r + o - r = o := by omega
  cases c with
  | begin_ m r => cases h
  | draw c => cases h
  | back => cases h
  | chance =>
    refine ⟨rfl, ?_⟩
    simp only [Kp295.step, ansOf, el, er]
    split
    · rfl
    · exact tell (by omega)
  | just n k =>
    refine ⟨rfl, ?_⟩
    simp only [Kp295.step, ansOf, el, er]
    split
    · rfl
    · exact tell (choose_pos (by omega) (by omega))
  | all n =>
    refine ⟨rfl, ?_⟩
    simp only [Kp295.step, ansOf, el, er]
    split
    · rfl
    · simp [Kp295.ints]
  | likeliest n =>
    refine ⟨rfl, ?_⟩
    simp only [Kp295.step, ansOf, el, er]
    split <;> rfl
  | mean n =>
    refine ⟨rfl, ?_⟩
    simp only [Kp295.step, ansOf, el, er]
    split
    · rfl
    · split
      · rfl
      · exact tell (by omega)
  | spread n =>
    refine ⟨rfl, ?_⟩
    simp only [Kp295.step, ansOf, el, er]
    split
    · rfl
    · split
      · rfl
      · unfold Kp295.spread Kp295.spreadUp
        rw [eo]
        exact tell (Nat.mul_pos (Nat.mul_pos (by omega) (by omega)) (by omega))
  | spreadBack n =>
    refine ⟨rfl, ?_⟩
    simp only [Kp295.step, ansOf, el, er]
    split
    · rfl
    · split
      · rfl
      · unfold Kp295.spreadBack
        rw [eo]
        exact tell (Nat.mul_pos (by omega) (by omega))
  | atLeast n k =>
    refine ⟨rfl, ?_⟩
    simp only [Kp295.step, ansOf, el, er]
    split
    · rfl
    · exact tell (choose_pos (by omega) (by omega))
  | needed k a c =>
    refine ⟨rfl, ?_⟩
    simp only [Kp295.step, ansOf, el, er]
    split
    · rfl
    · cases Kp295.needed (r + o) r k a c <;> rfl
  | kthAt k n =>
    refine ⟨rfl, ?_⟩
    simp only [Kp295.step, ansOf, el, er]
    split
    · rfl
    · split
      · rfl
      · exact tell (choose_pos (by omega) (by omega))
  | kthMean k =>
    refine ⟨rfl, ?_⟩
    simp only [Kp295.step, ansOf, el, er]
    split
    · rfl
    · exact tell (by omega)
  | two i j =>
    refine ⟨rfl, ?_⟩
    simp only [Kp295.step, ansOf, el, er, eo]
    split
    · rfl
    · split
      · rfl
      · exact tell (Nat.mul_pos (by omega) (by omega))
  | swapped n k =>
    refine ⟨rfl, ?_⟩
    simp only [Kp295.step, ansOf, el, er]
    split
    · rfl
    · exact tell (choose_pos (by omega) (by omega))
  | guess n k =>
    refine ⟨rfl, ?_⟩
    simp only [Kp295.step, ansOf, el, er]
    split <;> rfl
  | certain k =>
    refine ⟨rfl, ?_⟩
    simp only [Kp295.step, ansOf, el, er, eo]
    split <;> rfl
  | told =>
    refine ⟨rfl, ?_⟩
    simp only [Kp295.step, ansOf, Kp295.ints, List.map, ha, hr, hd, hs]
/-! ### the calls that change the state -/
theorem rel_begin {m r : Nat} (h : ¬ (m = 0 ∨ 24 < m ∨ m < r)) : StRel (some ⟨⟨m, r, 0, 0⟩, []⟩) true r (m - r) [] :=
  ⟨rfl, rfl, rfl, rfl, fun c hc => absurd hc (by simp), rfl, by show m = r + (m - r) + 0; omega, by show r + (m - r) + 0 ≤ 24; omega⟩
theorem sum_snoc (l : List Nat) (c : Nat) : (l ++ [c]).sum = l.sum + c := by simp
theorem rel_draw {d : Kp295.Desk} {b : Bool} {r o : Nat} {was : List Nat} (S : StRel (some d) b r o was) {c : Nat} (hc : c ≤ 1) (h0 : ¬ r + o = 0) (h : ¬ ((c = 1 ∧ r = 0) ∨ (c = 0 ∧ o = 0))) :
    StRel (some ⟨{ d.box with drawn := d.box.drawn + 1, reds := d.box.reds + c }, d.was ++ [c]⟩) b (r - c) (o - (1 - c)) (was ++ [c]) := by
  obtain ⟨rfl, hw, hd, hs, hle, hr, ha, hm⟩ := S
  refine ⟨rfl, by rw [hw], ?_, ?_, ?_, ?_, ?_, ?_⟩
  · show d.box.drawn + 1 = (was ++ [c]).length
    rw [List.length_append, hd]; rfl
  · show d.box.reds + c = (was ++ [c]).sum
    rw [sum_snoc, hs]
  · intro z hz
    rcases List.mem_append.mp hz with hz | hz
    · exact hle z hz
    · rw [List.mem_singleton.mp hz]; exact hc
  · show d.box.red = (r - c) + (was ++ [c]).sum
    rw [sum_snoc, hr]; omega
  · show d.box.all = (r - c) + (o - (1 - c)) + (was ++ [c]).length
    rw [List.length_append, ha]
    show _ = _ + (was.length + 1)
    omega
  · rw [List.length_append]
    show _ + (was.length + 1) ≤ 24
    omega
theorem rel_back {d : Kp295.Desk} {b : Bool} {r o : Nat} {ws : List Nat} {c : Nat} (S : StRel (some d) b r o (ws ++ [c])) :
    StRel (some ⟨{ d.box with drawn := d.box.drawn - 1, reds := d.box.reds - c }, d.was.dropLast⟩) b (r + c) (o + (1 - c)) ws := by
  obtain ⟨rfl, hw, hd, hs, hle, hr, ha, hm⟩ := S
  have hc : c ≤ 1 := hle c (by simp)
  rw [sum_snoc] at hs hr
  rw [List.length_append] at hd ha hm
  have e1 : ([c] : List Nat).length = 1 := rfl
  rw [e1] at hd ha hm
  refine ⟨rfl, ?_, ?_, ?_, fun z hz => hle z (List.mem_append_left _ hz), ?_, ?_, ?_⟩
  · show d.was.dropLast = ws
    rw [hw]; simp
  · show d.box.drawn - 1 = ws.length
    omega
  · show d.box.reds - c = ws.sum
    omega
  · show d.box.red = r + c + ws.sum
    omega
  · show d.box.all = r + c + (o + (1 - c)) + ws.length
    omega
  · omega
/-! ### a call by its numbers -/
theorem nat_of {z : Int} (h : 0 ≤ z) : ∃ n : Nat, z = (n : Int) ∧ z.toNat = n := ⟨z.toNat, by omega, rfl⟩
def two (p : Int) (args : List Int) (c : Call) (q : Int) (f : Nat → Nat → Call) : Prop := p = q ∧ ∃ a b : Nat, args = [(a : Int), (b : Int)] ∧ c = f a b
def one (p : Int) (args : List Int) (c : Call) (q : Int) (f : Nat → Call) : Prop := p = q ∧ ∃ a : Nat, args = [(a : Int)] ∧ c = f a
def nul (p : Int) (args : List Int) (c : Call) (q : Int) (f : Call) : Prop := p = q ∧ args = [] ∧ c = f
theorem one_of {a : Int} {args : List Int} {p q : Int} {c : Call} {f : Nat → Call} (h : ∀ z ∈ args, 0 ≤ z) (e1 : p = q) (e2 : args = [a]) (e3 : f a.toNat = c) : one p args c q f := by
  subst e2
  obtain ⟨n, e, e'⟩ := nat_of (h a (by simp))
  exact ⟨e1, n, by rw [e], by rw [← e3, e']⟩
theorem two_of {a b : Int} {args : List Int} {p q : Int} {c : Call} {f : Nat → Nat → Call} (h : ∀ z ∈ args, 0 ≤ z) (e1 : p = q) (e2 : args = [a, b]) (e3 : f a.toNat b.toNat = c) : two p args c q f := by
  subst e2
  obtain ⟨n, e, e'⟩ := nat_of (h a (by simp))
  obtain ⟨m, g, g'⟩ := nat_of (h b (by simp))
  exact ⟨e1, n, m, by rw [e, g], by rw [← e3, e', g']⟩
theorem three_of {x y z : Int} {args : List Int} {p : Int} {c : Call} (h : ∀ z ∈ args, 0 ≤ z) (e1 : p = 11) (e2 : args = [x, y, z]) (e3 : Call.needed x.toNat y.toNat z.toNat = c) : p = 11 ∧ ∃ k a m : Nat, args = [(k : Int), (a : Int), (m : Int)] ∧ c = .needed k a m := by
  subst e2
  obtain ⟨n, e, e'⟩ := nat_of (h x (by simp))
  obtain ⟨m, g, g'⟩ := nat_of (h y (by simp))
  obtain ⟨l, f, f'⟩ := nat_of (h z (by simp))
  exact ⟨e1, n, m, l, by rw [e, g, f], by rw [← e3, e', g', f']⟩
theorem callOf_inv {p : Int} {args : List Int} {c : Call} (hn : ∀ z ∈ args, 0 ≤ z) (h : Kp295Neutral.callOf [p :: args] = some c) :
    two p args c 0 .begin_ ∨ one p args c 1 .draw ∨ nul p args c 2 .back ∨ nul p args c 3 .chance ∨ two p args c 4 .just ∨ one p args c 5 .all ∨ one p args c 6 .likeliest ∨ one p args c 7 .mean ∨ one p args c 8 .spread ∨ one p args c 9 .spreadBack ∨
    two p args c 10 .atLeast ∨ (p = 11 ∧ ∃ k a m : Nat, args = [(k : Int), (a : Int), (m : Int)] ∧ c = .needed k a m) ∨ two p args c 12 .kthAt ∨ one p args c 13 .kthMean ∨ two p args c 14 .two ∨ two p args c 15 .swapped ∨ two p args c 16 .guess ∨ one p args c 17 .certain ∨ nul p args c 18 .told := by
  unfold Kp295Neutral.callOf at h
  split at h
  case h_1 e => simp only [List.cons.injEq, and_true] at e; exact .inl (two_of hn e.1 e.2 (Option.some.inj h))
  case h_2 e => simp only [List.cons.injEq, and_true] at e; exact .inr (.inl (one_of hn e.1 e.2 (Option.some.inj h)))
  case h_3 e => simp only [List.cons.injEq, and_true] at e; exact .inr (.inr (.inl (⟨e.1, e.2, (Option.some.inj h).symm⟩)))
  case h_4 e => simp only [List.cons.injEq, and_true] at e; exact .inr (.inr (.inr (.inl (⟨e.1, e.2, (Option.some.inj h).symm⟩))))
  case h_5 e => simp only [List.cons.injEq, and_true] at e; exact .inr (.inr (.inr (.inr (.inl (two_of hn e.1 e.2 (Option.some.inj h))))))
  case h_6 e => simp only [List.cons.injEq, and_true] at e; exact .inr (.inr (.inr (.inr (.inr (.inl (one_of hn e.1 e.2 (Option.some.inj h)))))))
  case h_7 e => simp only [List.cons.injEq, and_true] at e; exact .inr (.inr (.inr (.inr (.inr (.inr (.inl (one_of hn e.1 e.2 (Option.some.inj h))))))))
  case h_8 e => simp only [List.cons.injEq, and_true] at e; exact .inr (.inr (.inr (.inr (.inr (.inr (.inr (.inl (one_of hn e.1 e.2 (Option.some.inj h)))))))))
  case h_9 e => simp only [List.cons.injEq, and_true] at e; exact .inr (.inr (.inr (.inr (.inr (.inr (.inr (.inr (.inl (one_of hn e.1 e.2 (Option.some.inj h))))))))))
  case h_10 e => simp only [List.cons.injEq, and_true] at e; exact .inr (.inr (.inr (.inr (.inr (.inr (.inr (.inr (.inr (.inl (one_of hn e.1 e.2 (Option.some.inj h)))))))))))
  case h_11 e => simp only [List.cons.injEq, and_true] at e; exact .inr (.inr (.inr (.inr (.inr (.inr (.inr (.inr (.inr (.inr (.inl (two_of hn e.1 e.2 (Option.some.inj h))))))))))))
  case h_12 e => simp only [List.cons.injEq, and_true] at e; exact .inr (.inr (.inr (.inr (.inr (.inr (.inr (.inr (.inr (.inr (.inr (.inl (three_of hn e.1 e.2 (Option.some.inj h)))))))))))))
  case h_13 e => simp only [List.cons.injEq, and_true] at e; exact .inr (.inr (.inr (.inr (.inr (.inr (.inr (.inr (.inr (.inr (.inr (.inr (.inl (two_of hn e.1 e.2 (Option.some.inj h))))))))))))))
  case h_14 e => simp only [List.cons.injEq, and_true] at e; exact .inr (.inr (.inr (.inr (.inr (.inr (.inr (.inr (.inr (.inr (.inr (.inr (.inr (.inl (one_of hn e.1 e.2 (Option.some.inj h)))))))))))))))
  case h_15 e => simp only [List.cons.injEq, and_true] at e; exact .inr (.inr (.inr (.inr (.inr (.inr (.inr (.inr (.inr (.inr (.inr (.inr (.inr (.inr (.inl (two_of hn e.1 e.2 (Option.some.inj h))))))))))))))))
  case h_16 e => simp only [List.cons.injEq, and_true] at e; exact .inr (.inr (.inr (.inr (.inr (.inr (.inr (.inr (.inr (.inr (.inr (.inr (.inr (.inr (.inr (.inl (two_of hn e.1 e.2 (Option.some.inj h)))))))))))))))))
  case h_17 e => simp only [List.cons.injEq, and_true] at e; exact .inr (.inr (.inr (.inr (.inr (.inr (.inr (.inr (.inr (.inr (.inr (.inr (.inr (.inr (.inr (.inr (.inl (two_of hn e.1 e.2 (Option.some.inj h))))))))))))))))))
  case h_18 e => simp only [List.cons.injEq, and_true] at e; exact .inr (.inr (.inr (.inr (.inr (.inr (.inr (.inr (.inr (.inr (.inr (.inr (.inr (.inr (.inr (.inr (.inr (.inl (one_of hn e.1 e.2 (Option.some.inj h)))))))))))))))))))
  case h_19 e => simp only [List.cons.injEq, and_true] at e; exact .inr (.inr (.inr (.inr (.inr (.inr (.inr (.inr (.inr (.inr (.inr (.inr (.inr (.inr (.inr (.inr (.inr (.inr (⟨e.1, e.2, (Option.some.inj h).symm⟩))))))))))))))))))
  case h_20 => cases h
end Red


end
section
set_option linter.all false
/-! The list of calls, read call by call. -/
namespace Red
open Kp295 (State Call)
def COUNTS : List Nat := [2, 1, 0, 0, 2, 1, 1, 1, 1, 1, 2, 3, 2, 1, 2, 2, 2, 1, 0]
theorem shape_inv {p : Int} {n k : Nat} (h : PyKp295.shape p = some (n, k)) : k = 0 ∧ ∃ j : Nat, p = (j : Int) ∧ COUNTS[j]? = some n := by
  by_cases hp : 0 ≤ p ∧ p ≤ 18
  · obtain ⟨j, rfl⟩ : ∃ j : Nat, p = (j : Int) := ⟨p.toNat, by omega⟩
    have hj : j < 19 := by omega
    have all : ∀ j : Nat, j < 19 → PyKp295.shape (j : Int) = (COUNTS[j]?).map fun n => (n, 0) := by decide +kernel
    rw [all j hj] at h
    cases e : COUNTS[j]? with
    | none => rw [e] at h; cases h
    | some m =>
      rw [e] at h
      have h : some (m, 0) = some (n, k) := h
      cases h
      exact ⟨rfl, j, rfl, e⟩
  · exfalso
    unfold PyKp295.shape at h
    repeat (rw [if_neg (by omega)] at h)
    cases h
theorem whole_id (c : List (List Int)) : PyKp295.whole c = c := by
  unfold PyKp295.whole
  split <;> rfl
theorem map_whole (l : List (List (List Int))) : l.map PyKp295.whole = l := by
  rw [show PyKp295.whole = id from funext whole_id]
  simp
theorem nat_z {z : Int} (h : Kp295Neutral.natural z = true) : 0 ≤ z := by
  unfold Kp295Neutral.natural at h
  rw [Bool.and_eq_true, decide_eq_true_iff, decide_eq_true_iff] at h
  exact h.1
theorem asked_inv {p : Int} {args : List Int} (h : Kp295Neutral.asked1 [p :: args] = true) : (∃ x, Kp295Neutral.callOf [p :: args] = some x) ∧ ∀ z ∈ args, 0 ≤ z := by
  unfold Kp295Neutral.asked1 at h
  split at h
  all_goals try (cases h; done)
  all_goals
    rename_i e
    simp only [List.cons.injEq, and_true] at e
    obtain ⟨rfl, rfl⟩ := e
    refine ⟨⟨_, rfl⟩, ?_⟩
    try simp only [Bool.and_eq_true] at h
    intro z hz
    simp only [List.mem_cons, List.not_mem_nil, or_false] at hz
  all_goals first
    | exact hz.elim
    | (subst hz; exact nat_z h)
    | (rcases hz with hz | hz | hz <;> subst hz <;> first | exact nat_z h.1 | exact nat_z h.2.1 | exact nat_z h.2.2)
    | (rcases hz with hz | hz <;> subst hz <;> first | exact nat_z h.1 | exact nat_z h.2)
/-- between two calls: i numbers are read, g is given, s is the state -/
structure Mid (ns : List Int) (i : Nat) (g : List Int) (s : State) : Prop where
  ex : ∃ (f : Nat) (raw : List (List (List Int))), PyFlat.calls PyKp295.shape f (ns.drop i) = some raw ∧ (∀ c ∈ raw, Kp295Neutral.asked1 c = true) ∧ PyKp295.answers ns = g ++ PyFlat.told (PyFlat.played Kp295Neutral.step s raw)
  le : i ≤ ns.length
  short : (PyKp295.answers ns).length ≤ 10000000
theorem mid_start {ns : List Int} (h : PyKp295.answers_asked ns = true) : Mid ns 0 [] Kp295.start := by
  unfold PyKp295.answers_asked at h
  split at h
  · cases h
  · rename_i raw e
    simp only [Bool.and_eq_true] at h
    obtain ⟨⟨_, h2⟩, h3⟩ := h
    rw [map_whole] at h2
    unfold Kp295Neutral.asked at h2
    simp only [Bool.and_eq_true] at h2
    have sh : (PyKp295.answers ns).length ≤ 10000000 := of_decide_eq_true h3
    refine ⟨⟨_, raw, e, fun c hc => List.all_eq_true.mp h2.2.2 c hc, ?_⟩, Nat.zero_le _, sh⟩
    show PyKp295.answers ns = PyFlat.told (PyFlat.played Kp295Neutral.step Kp295Neutral.start raw)
    unfold PyKp295.answers PyKp295.calls
    rw [e]
    show PyFlat.told (PyFlat.played Kp295Neutral.step Kp295Neutral.start (raw.map PyKp295.whole)) = _
    rw [map_whole]
theorem mid_end {ns g : List Int} {i : Nat} {s : State} (M : Mid ns i g s) (h : ¬ i < ns.length) : g = PyKp295.answers ns := by
  obtain ⟨f, raw, e, _, q⟩ := M.ex
  rw [List.drop_eq_nil_of_le (by omega)] at e
  have e0 : raw = [] := by
    cases f <;> (unfold PyFlat.calls at e; cases e; rfl)
  subst e0
  rw [q]
  show g = g ++ []
  simp
theorem flat_cons {f : Nat} {p : Int} {r : List Int} {raw : List (List (List Int))} (e : PyFlat.calls PyKp295.shape f (p :: r) = some raw) :
    ∃ (j n : Nat) (raw' : List (List (List Int))) (f' : Nat), p = (j : Int) ∧ COUNTS[j]? = some n ∧ n ≤ r.length ∧ raw = [p :: r.take n] :: raw' ∧ PyFlat.calls PyKp295.shape f' (r.drop n) = some raw' := by
  cases f with
  | zero => unfold PyFlat.calls at e; cases e
  | succ f =>
    unfold PyFlat.calls PyFlat.call at e
    dsimp only at e
    cases es : PyKp295.shape p with
    | none => rw [es] at e; cases e
    | some nk =>
      obtain ⟨n, k⟩ := nk
      obtain ⟨rfl, j, ej, hj⟩ := shape_inv es
      rw [es] at e
      by_cases hl : r.length < n
      · simp only [if_pos hl] at e; cases e
      · simp only [if_neg hl] at e
        unfold PyFlat.rows at e
        cases ec : PyFlat.calls PyKp295.shape f (r.drop n) with
        | none => simp only [ec] at e; cases e
        | some raw' =>
          simp only [ec] at e
          exact ⟨j, n, raw', f, ej, hj, by omega, (Option.some.inj e).symm, ec⟩
theorem played_cons {S : Type} (step : S → List (List Int) → S × List Int) (s : S) (c : List (List Int)) (r : List (List (List Int))) : PyFlat.played step s (c :: r) = (step s c).2 :: PyFlat.played step (step s c).1 r := rfl
theorem told_cons (a : List Int) (l : List (List Int)) : PyFlat.told (a :: l) = ((a.length : Nat) : Int) :: a ++ PyFlat.told l := by
  unfold PyFlat.told
  rw [List.flatMap_cons]
theorem mid_step {ns g : List Int} {i : Nat} {s : State} (M : Mid ns i g s) (h : i < ns.length) :
    ∃ (j n : Nat) (x : Call), ns[i]? = some (j : Int) ∧ COUNTS[j]? = some n ∧ i + 1 + n ≤ ns.length ∧ Kp295Neutral.callOf [(j : Int) :: (ns.drop (i + 1)).take n] = some x ∧ (∀ z ∈ (ns.drop (i + 1)).take n, 0 ≤ z) ∧
      Mid ns (i + 1 + n) (g ++ ((((Kp295.step s x).2.num :: (Kp295.step s x).2.nums).length : Nat) : Int) :: ((Kp295.step s x).2.num :: (Kp295.step s x).2.nums)) (Kp295.step s x).1 ∧
      g.length + (1 + ((Kp295.step s x).2.num :: (Kp295.step s x).2.nums).length) ≤ 10000000 := by
  obtain ⟨f, raw, e, ha, q⟩ := M.ex
  have ed : ns.drop i = ns[i] :: ns.drop (i + 1) := List.drop_eq_getElem_cons h
  rw [ed] at e
  obtain ⟨j, n, raw', f', ej, hj, hn, er, ec⟩ := flat_cons e
  subst er
  obtain ⟨⟨x, hx⟩, hz⟩ := asked_inv (ha [ns[i] :: (ns.drop (i + 1)).take n] (by simp))
  rw [ej] at hx
  rw [List.length_drop] at hn
  have hM : PyKp295.answers ns = (g ++ ((((Kp295.step s x).2.num :: (Kp295.step s x).2.nums).length : Nat) : Int) :: ((Kp295.step s x).2.num :: (Kp295.step s x).2.nums)) ++ PyFlat.told (PyFlat.played Kp295Neutral.step (Kp295.step s x).1 raw') := by
    have e2 : Kp295Neutral.step s [ns[i] :: (ns.drop (i + 1)).take n] = ((Kp295.step s x).1, (Kp295.step s x).2.num :: (Kp295.step s x).2.nums) := by
      unfold Kp295Neutral.step
      rw [ej, hx]
    rw [q]
    rw [played_cons, e2, told_cons, List.append_assoc]
  refine ⟨j, n, x, by rw [List.getElem?_eq_getElem h, ej], hj, by omega, hx, hz, ⟨⟨f', raw', ?_, fun c hc => ha c (by simp [hc]), hM⟩, by omega, M.short⟩, ?_⟩
  · rw [List.drop_drop] at ec
    exact ec
  · have sh := M.short
    rw [hM] at sh
    simp only [List.length_append, List.length_cons] at sh ⊢
    omega
end Red


end
section
set_option linter.all false
/-! The calls that change the state: what the specification's step gives. -/
namespace Red
open Kp295 (State Call)
theorem step_begin_no {s : State} {m r : Nat} (h : m = 0 ∨ 24 < m ∨ m < r) : Kp295.step s (.begin_ m r) = (s, Kp295.say (-22)) := if_pos h
theorem step_begin {s : State} {m r : Nat} (h : ¬ (m = 0 ∨ 24 < m ∨ m < r)) : Kp295.step s (.begin_ m r) = (some ⟨⟨m, r, 0, 0⟩, []⟩, Kp295.say 0) := if_neg h
theorem step_none {c : Call} (h : ∀ m r, c ≠ .begin_ m r) : Kp295.step none c = (none, Kp295.say (-11)) := by
  cases c <;> first | rfl | exact absurd rfl (h _ _)
section
variable {d : Kp295.Desk} {b : Bool} {r o : Nat} {was : List Nat} (S : StRel (some d) b r o was) {c : Nat}
include S
theorem rel_left : Kp295.left d.box = r + o := by
  obtain ⟨rfl, hw, hd, hs, hle, hr, ha, hm⟩ := S
  unfold Kp295.left; omega
theorem rel_red : Kp295.redLeft d.box = r := by
  obtain ⟨rfl, hw, hd, hs, hle, hr, ha, hm⟩ := S
  unfold Kp295.redLeft; omega
theorem step_draw1 (h : 1 < c) : Kp295.step (some d) (.draw c) = (some d, Kp295.say (-22)) := by
  simp only [Kp295.step, rel_left S, rel_red S]
  rw [if_pos h]
theorem step_draw2 (h : c ≤ 1) (h2 : r + o = 0) : Kp295.step (some d) (.draw c) = (some d, Kp295.say (-6)) := by
  simp only [Kp295.step, rel_left S, rel_red S]
  rw [if_neg (by omega), if_pos h2]
theorem step_draw3 (h : c ≤ 1) (h2 : ¬ r + o = 0) (h3 : (c = 1 ∧ r = 0) ∨ (c = 0 ∧ o = 0)) : Kp295.step (some d) (.draw c) = (some d, Kp295.say (-33)) := by
  simp only [Kp295.step, rel_left S, rel_red S]
  rw [if_neg (by omega), if_neg h2, if_pos (by omega)]
theorem step_draw4 (h : c ≤ 1) (h2 : ¬ r + o = 0) (h3 : ¬ ((c = 1 ∧ r = 0) ∨ (c = 0 ∧ o = 0))) :
    Kp295.step (some d) (.draw c) = (some ⟨{ d.box with drawn := d.box.drawn + 1, reds := d.box.reds + c }, d.was ++ [c]⟩, Kp295.say ((r + o - 1 : Nat) : Int)) := by
  simp only [Kp295.step, rel_left S, rel_red S]
  rw [if_neg (by omega), if_neg h2, if_neg (by omega)]
theorem step_back1 (h : was = []) : Kp295.step (some d) .back = (some d, Kp295.say (-12)) := by
  have hw := S.2.1
  rw [h] at hw
  simp only [Kp295.step, hw]
  rfl
theorem step_back2 {ws : List Nat} (h : was = ws ++ [c]) : Kp295.step (some d) .back = (some ⟨{ d.box with drawn := d.box.drawn - 1, reds := d.box.reds - c }, d.was.dropLast⟩, Kp295.say (c : Int)) := by
  have hw := S.2.1
  rw [h] at hw
  have e : d.was.getLast? = some c := by rw [hw]; simp
  simp only [Kp295.step, e]
end
end Red


end
section
set_option Elab.async false
set_option linter.all false
set_option maxRecDepth 100000
set_option maxHeartbeats 2000000
namespace Red
open PySem PySem.Spec PyProof.Rows L2
open PySem.W (Codec)
/-! ### the text by places, and what the top has written -/
def top (i : Nat) : Stmt := PySem.Challenge.pw_redthings_s01_answers.main.body.getD i (.Pass ⟨0, 0, 0, 0⟩)
abbrev s_common_divisor : Stmt := top 27
abbrev s_fraction : Stmt := top 28
abbrev s_ways_to_choose : Stmt := top 29
abbrev s_sets_with : Stmt := top 30
abbrev s_first_greatest : Stmt := top 31
abbrev s_m_init : Stmt := inClass (top 32) 0
abbrev s_m_left : Stmt := inClass (top 32) 1
abbrev s_m_of_kind : Stmt := inClass (top 32) 2
abbrev s_m_begin : Stmt := inClass (top 32) 3
abbrev s_m_draw : Stmt := inClass (top 32) 4
abbrev s_m_back : Stmt := inClass (top 32) 5
abbrev s_m_chance : Stmt := inClass (top 32) 6
abbrev s_m_two : Stmt := inClass (top 32) 7
abbrev s_m_just : Stmt := inClass (top 32) 8
abbrev s_m_sets_of : Stmt := inClass (top 32) 9
abbrev s_m_all_of : Stmt := inClass (top 32) 10
abbrev s_m_likeliest : Stmt := inClass (top 32) 11
abbrev s_m_sets_with_at_least : Stmt := inClass (top 32) 12
abbrev s_m_atleast : Stmt := inClass (top 32) 13
abbrev s_m_mean : Stmt := inClass (top 32) 14
abbrev s_m_spread : Stmt := inClass (top 32) 15
abbrev s_m_spreadback : Stmt := inClass (top 32) 16
abbrev s_m_swapped : Stmt := inClass (top 32) 17
abbrev s_m_needed : Stmt := inClass (top 32) 18
abbrev s_m_certain : Stmt := inClass (top 32) 19
abbrev s_m_comes : Stmt := inClass (top 32) 20
abbrev s_m_kthat : Stmt := inClass (top 32) 21
abbrev s_m_kthmean : Stmt := inClass (top 32) 22
abbrev s_m_guess : Stmt := inClass (top 32) 23
abbrev s_m_told : Stmt := inClass (top 32) 24
abbrev s_answer_for_n_and_k : Stmt := top 33
abbrev s_answer_for_n : Stmt := top 34
abbrev s_answer_for_k : Stmt := top 35
abbrev s_answer_call : Stmt := top 36
abbrev s_answers : Stmt := top 37
/-- what the top has written -/
structure TX (K : PySem.W.Frag) (mg : Str → Option Value) where
  C : Addr
  cl : Cls K C
  mg_C : mg "Drawing" = some (.ref C)
  n_begun : NoAttr K C "begun"
  n_red : NoAttr K C "red"
  n_other : NoAttr K C "other"
  n_drawn : NoAttr K C "drawn"
  no_len : mg "len" = none
  no_range : mg "range" = none
  no_sum : mg "sum" = none
  no_max : mg "max" = none
  c_MOST_THINGS : ∃ t, mg "MOST_THINGS" = some (.int (24) t)
  c_MOST_BELOW : ∃ t, mg "MOST_BELOW" = some (.int (1000) t)
  c_NOT_AS_TOLD : ∃ t, mg "NOT_AS_TOLD" = some (.int (-22) t)
  c_TOO_FEW_LEFT : ∃ t, mg "TOO_FEW_LEFT" = some (.int (-6) t)
  c_NO_SUCH_LEFT : ∃ t, mg "NO_SUCH_LEFT" = some (.int (-33) t)
  c_NONE_DRAWN : ∃ t, mg "NONE_DRAWN" = some (.int (-12) t)
  c_NOT_BEGUN : ∃ t, mg "NOT_BEGUN" = some (.int (-11) t)
  c_BEGIN : ∃ t, mg "BEGIN" = some (.int (0) t)
  c_DRAW : ∃ t, mg "DRAW" = some (.int (1) t)
  c_BACK : ∃ t, mg "BACK" = some (.int (2) t)
  c_CHANCE : ∃ t, mg "CHANCE" = some (.int (3) t)
  c_JUST : ∃ t, mg "JUST" = some (.int (4) t)
  c_ALL_OF : ∃ t, mg "ALL_OF" = some (.int (5) t)
  c_LIKELIEST : ∃ t, mg "LIKELIEST" = some (.int (6) t)
  c_MEAN : ∃ t, mg "MEAN" = some (.int (7) t)
  c_SPREAD : ∃ t, mg "SPREAD" = some (.int (8) t)
  c_SPREADBACK : ∃ t, mg "SPREADBACK" = some (.int (9) t)
  c_ATLEAST : ∃ t, mg "ATLEAST" = some (.int (10) t)
  c_NEEDED : ∃ t, mg "NEEDED" = some (.int (11) t)
  c_KTHAT : ∃ t, mg "KTHAT" = some (.int (12) t)
  c_KTHMEAN : ∃ t, mg "KTHMEAN" = some (.int (13) t)
  c_TWO : ∃ t, mg "TWO" = some (.int (14) t)
  c_SWAPPED : ∃ t, mg "SWAPPED" = some (.int (15) t)
  c_CERTAIN : ∃ t, mg "CERTAIN" = some (.int (17) t)
  c_TOLD : ∃ t, mg "TOLD" = some (.int (18) t)
  a_ARGUMENT_COUNTS : Addr
  t_ARGUMENT_COUNTS : mg "ARGUMENT_COUNTS" = some (.ref a_ARGUMENT_COUNTS)
  q_ARGUMENT_COUNTS : ∀ H : Hp, SqT K H a_ARGUMENT_COUNTS (([2, 1, 0, 0, 2, 1, 1, 1, 1, 1, 2, 3, 2, 1, 2, 2, 2, 1, 0] : List Int).map V.int)
  f_common_divisor : Addr
  fd_common_divisor : FuncData
  F_common_divisor : Fun K "common_divisor" "common_divisor" s_common_divisor f_common_divisor fd_common_divisor
  b_common_divisor : Binds K fd_common_divisor ["first", "second"] []
  g_common_divisor : mg "common_divisor" = some (.ref f_common_divisor)
  f_fraction : Addr
  fd_fraction : FuncData
  F_fraction : Fun K "fraction" "fraction" s_fraction f_fraction fd_fraction
  b_fraction : Binds K fd_fraction ["above", "below"] []
  g_fraction : mg "fraction" = some (.ref f_fraction)
  f_ways_to_choose : Addr
  fd_ways_to_choose : FuncData
  F_ways_to_choose : Fun K "ways_to_choose" "ways_to_choose" s_ways_to_choose f_ways_to_choose fd_ways_to_choose
  b_ways_to_choose : Binds K fd_ways_to_choose ["few", "many"] []
  g_ways_to_choose : mg "ways_to_choose" = some (.ref f_ways_to_choose)
  f_sets_with : Addr
  fd_sets_with : FuncData
  F_sets_with : Fun K "sets_with" "sets_with" s_sets_with f_sets_with fd_sets_with
  b_sets_with : Binds K fd_sets_with ["red", "other", "n", "k"] []
  g_sets_with : mg "sets_with" = some (.ref f_sets_with)
  f_first_greatest : Addr
  fd_first_greatest : FuncData
  F_first_greatest : Fun K "first_greatest" "first_greatest" s_first_greatest f_first_greatest fd_first_greatest
  b_first_greatest : Binds K fd_first_greatest ["numbers"] []
  g_first_greatest : mg "first_greatest" = some (.ref f_first_greatest)
  f_m_init : Addr
  fd_m_init : FuncData
  F_m_init : Fun K "__init__" "Drawing.__init__" s_m_init f_m_init fd_m_init
  b_m_init : Binds K fd_m_init ["self"] []
  mkC : Mk K C f_m_init
  f_m_left : Addr
  fd_m_left : FuncData
  F_m_left : Fun K "left" "Drawing.left" s_m_left f_m_left fd_m_left
  b_m_left : Binds K fd_m_left ["self"] []
  M_m_left : Meth K C "left" f_m_left
  f_m_of_kind : Addr
  fd_m_of_kind : FuncData
  F_m_of_kind : Fun K "of_kind" "Drawing.of_kind" s_m_of_kind f_m_of_kind fd_m_of_kind
  b_m_of_kind : Binds K fd_m_of_kind ["self", "c"] []
  M_m_of_kind : Meth K C "of_kind" f_m_of_kind
  f_m_begin : Addr
  fd_m_begin : FuncData
  F_m_begin : Fun K "begin" "Drawing.begin" s_m_begin f_m_begin fd_m_begin
  b_m_begin : Binds K fd_m_begin ["self", "m", "r"] []
  M_m_begin : Meth K C "begin" f_m_begin
  f_m_draw : Addr
  fd_m_draw : FuncData
  F_m_draw : Fun K "draw" "Drawing.draw" s_m_draw f_m_draw fd_m_draw
  b_m_draw : Binds K fd_m_draw ["self", "c"] []
  M_m_draw : Meth K C "draw" f_m_draw
  f_m_back : Addr
  fd_m_back : FuncData
  F_m_back : Fun K "back" "Drawing.back" s_m_back f_m_back fd_m_back
  b_m_back : Binds K fd_m_back ["self"] []
  M_m_back : Meth K C "back" f_m_back
  f_m_chance : Addr
  fd_m_chance : FuncData
  F_m_chance : Fun K "chance" "Drawing.chance" s_m_chance f_m_chance fd_m_chance
  b_m_chance : Binds K fd_m_chance ["self"] []
  M_m_chance : Meth K C "chance" f_m_chance
  f_m_two : Addr
  fd_m_two : FuncData
  F_m_two : Fun K "two" "Drawing.two" s_m_two f_m_two fd_m_two
  b_m_two : Binds K fd_m_two ["self", "i", "j"] []
  M_m_two : Meth K C "two" f_m_two
  f_m_just : Addr
  fd_m_just : FuncData
  F_m_just : Fun K "just" "Drawing.just" s_m_just f_m_just fd_m_just
  b_m_just : Binds K fd_m_just ["self", "n", "k"] []
  M_m_just : Meth K C "just" f_m_just
  f_m_sets_of : Addr
  fd_m_sets_of : FuncData
  F_m_sets_of : Fun K "sets_of" "Drawing.sets_of" s_m_sets_of f_m_sets_of fd_m_sets_of
  b_m_sets_of : Binds K fd_m_sets_of ["self", "n"] []
  M_m_sets_of : Meth K C "sets_of" f_m_sets_of
  f_m_all_of : Addr
  fd_m_all_of : FuncData
  F_m_all_of : Fun K "all_of" "Drawing.all_of" s_m_all_of f_m_all_of fd_m_all_of
  b_m_all_of : Binds K fd_m_all_of ["self", "n"] []
  M_m_all_of : Meth K C "all_of" f_m_all_of
  f_m_likeliest : Addr
  fd_m_likeliest : FuncData
  F_m_likeliest : Fun K "likeliest" "Drawing.likeliest" s_m_likeliest f_m_likeliest fd_m_likeliest
  b_m_likeliest : Binds K fd_m_likeliest ["self", "n"] []
  M_m_likeliest : Meth K C "likeliest" f_m_likeliest
  f_m_sets_with_at_least : Addr
  fd_m_sets_with_at_least : FuncData
  F_m_sets_with_at_least : Fun K "sets_with_at_least" "Drawing.sets_with_at_least" s_m_sets_with_at_least f_m_sets_with_at_least fd_m_sets_with_at_least
  b_m_sets_with_at_least : Binds K fd_m_sets_with_at_least ["self", "n", "k"] []
  M_m_sets_with_at_least : Meth K C "sets_with_at_least" f_m_sets_with_at_least
  f_m_atleast : Addr
  fd_m_atleast : FuncData
  F_m_atleast : Fun K "atleast" "Drawing.atleast" s_m_atleast f_m_atleast fd_m_atleast
  b_m_atleast : Binds K fd_m_atleast ["self", "n", "k"] []
  M_m_atleast : Meth K C "atleast" f_m_atleast
  f_m_mean : Addr
  fd_m_mean : FuncData
  F_m_mean : Fun K "mean" "Drawing.mean" s_m_mean f_m_mean fd_m_mean
  b_m_mean : Binds K fd_m_mean ["self", "n"] []
  M_m_mean : Meth K C "mean" f_m_mean
  f_m_spread : Addr
  fd_m_spread : FuncData
  F_m_spread : Fun K "spread" "Drawing.spread" s_m_spread f_m_spread fd_m_spread
  b_m_spread : Binds K fd_m_spread ["self", "n"] []
  M_m_spread : Meth K C "spread" f_m_spread
  f_m_spreadback : Addr
  fd_m_spreadback : FuncData
  F_m_spreadback : Fun K "spreadback" "Drawing.spreadback" s_m_spreadback f_m_spreadback fd_m_spreadback
  b_m_spreadback : Binds K fd_m_spreadback ["self", "n"] []
  M_m_spreadback : Meth K C "spreadback" f_m_spreadback
  f_m_swapped : Addr
  fd_m_swapped : FuncData
  F_m_swapped : Fun K "swapped" "Drawing.swapped" s_m_swapped f_m_swapped fd_m_swapped
  b_m_swapped : Binds K fd_m_swapped ["self", "n", "k"] []
  M_m_swapped : Meth K C "swapped" f_m_swapped
  f_m_needed : Addr
  fd_m_needed : FuncData
  F_m_needed : Fun K "needed" "Drawing.needed" s_m_needed f_m_needed fd_m_needed
  b_m_needed : Binds K fd_m_needed ["self", "k", "a", "c"] []
  M_m_needed : Meth K C "needed" f_m_needed
  f_m_certain : Addr
  fd_m_certain : FuncData
  F_m_certain : Fun K "certain" "Drawing.certain" s_m_certain f_m_certain fd_m_certain
  b_m_certain : Binds K fd_m_certain ["self", "k"] []
  M_m_certain : Meth K C "certain" f_m_certain
  f_m_comes : Addr
  fd_m_comes : FuncData
  F_m_comes : Fun K "comes" "Drawing.comes" s_m_comes f_m_comes fd_m_comes
  b_m_comes : Binds K fd_m_comes ["self", "k"] []
  M_m_comes : Meth K C "comes" f_m_comes
  f_m_kthat : Addr
  fd_m_kthat : FuncData
  F_m_kthat : Fun K "kthat" "Drawing.kthat" s_m_kthat f_m_kthat fd_m_kthat
  b_m_kthat : Binds K fd_m_kthat ["self", "k", "n"] []
  M_m_kthat : Meth K C "kthat" f_m_kthat
  f_m_kthmean : Addr
  fd_m_kthmean : FuncData
  F_m_kthmean : Fun K "kthmean" "Drawing.kthmean" s_m_kthmean f_m_kthmean fd_m_kthmean
  b_m_kthmean : Binds K fd_m_kthmean ["self", "k"] []
  M_m_kthmean : Meth K C "kthmean" f_m_kthmean
  f_m_guess : Addr
  fd_m_guess : FuncData
  F_m_guess : Fun K "guess" "Drawing.guess" s_m_guess f_m_guess fd_m_guess
  b_m_guess : Binds K fd_m_guess ["self", "n", "k"] []
  M_m_guess : Meth K C "guess" f_m_guess
  f_m_told : Addr
  fd_m_told : FuncData
  F_m_told : Fun K "told" "Drawing.told" s_m_told f_m_told fd_m_told
  b_m_told : Binds K fd_m_told ["self"] []
  M_m_told : Meth K C "told" f_m_told
  f_answer_for_n_and_k : Addr
  fd_answer_for_n_and_k : FuncData
  F_answer_for_n_and_k : Fun K "answer_for_n_and_k" "answer_for_n_and_k" s_answer_for_n_and_k f_answer_for_n_and_k fd_answer_for_n_and_k
  b_answer_for_n_and_k : Binds K fd_answer_for_n_and_k ["drawing", "number", "n", "k"] []
  g_answer_for_n_and_k : mg "answer_for_n_and_k" = some (.ref f_answer_for_n_and_k)
  f_answer_for_n : Addr
  fd_answer_for_n : FuncData
  F_answer_for_n : Fun K "answer_for_n" "answer_for_n" s_answer_for_n f_answer_for_n fd_answer_for_n
  b_answer_for_n : Binds K fd_answer_for_n ["drawing", "number", "arguments"] []
  g_answer_for_n : mg "answer_for_n" = some (.ref f_answer_for_n)
  f_answer_for_k : Addr
  fd_answer_for_k : FuncData
  F_answer_for_k : Fun K "answer_for_k" "answer_for_k" s_answer_for_k f_answer_for_k fd_answer_for_k
  b_answer_for_k : Binds K fd_answer_for_k ["drawing", "number", "arguments"] []
  g_answer_for_k : mg "answer_for_k" = some (.ref f_answer_for_k)
  f_answer_call : Addr
  fd_answer_call : FuncData
  F_answer_call : Fun K "answer_call" "answer_call" s_answer_call f_answer_call fd_answer_call
  b_answer_call : Binds K fd_answer_call ["drawing", "number", "arguments"] []
  g_answer_call : mg "answer_call" = some (.ref f_answer_call)
  f_answers : Addr
  fd_answers : FuncData
  F_answers : Fun K "answers" "answers" s_answers f_answers fd_answers
  b_answers : Binds K fd_answers ["calls"] []
  g_answers : mg "answers" = some (.ref f_answers)
theorem sc_common_divisor : FnScope ["first", "second", "rest"] ["first", "second"] (defScope s_common_divisor) := ⟨rfl, rfl, rfl, by decide +kernel, rfl, by decide +kernel, by decide +kernel⟩
theorem sc_fraction : FnScope ["above", "below", "divisor"] ["above", "below"] (defScope s_fraction) := ⟨rfl, rfl, rfl, by decide +kernel, rfl, by decide +kernel, by decide +kernel⟩
theorem sc_ways_to_choose : FnScope ["few", "many", "ways", "step"] ["few", "many"] (defScope s_ways_to_choose) := ⟨rfl, rfl, rfl, by decide +kernel, rfl, by decide +kernel, by decide +kernel⟩
theorem sc_sets_with : FnScope ["red", "other", "n", "k"] ["red", "other", "n", "k"] (defScope s_sets_with) := ⟨rfl, rfl, rfl, by decide +kernel, rfl, by decide +kernel, by decide +kernel⟩
theorem sc_first_greatest : FnScope ["numbers"] ["numbers"] (defScope s_first_greatest) := ⟨rfl, rfl, rfl, by decide +kernel, rfl, by decide +kernel, by decide +kernel⟩
theorem sc_m_init : FnScope ["self"] ["self"] (defScope s_m_init) := ⟨rfl, rfl, rfl, by decide +kernel, rfl, by decide +kernel, by decide +kernel⟩
theorem sc_m_left : FnScope ["self"] ["self"] (defScope s_m_left) := ⟨rfl, rfl, rfl, by decide +kernel, rfl, by decide +kernel, by decide +kernel⟩
theorem sc_m_of_kind : FnScope ["self", "c"] ["self", "c"] (defScope s_m_of_kind) := ⟨rfl, rfl, rfl, by decide +kernel, rfl, by decide +kernel, by decide +kernel⟩
theorem sc_m_begin : FnScope ["self", "m", "r"] ["self", "m", "r"] (defScope s_m_begin) := ⟨rfl, rfl, rfl, by decide +kernel, rfl, by decide +kernel, by decide +kernel⟩
theorem sc_m_draw : FnScope ["self", "c"] ["self", "c"] (defScope s_m_draw) := ⟨rfl, rfl, rfl, by decide +kernel, rfl, by decide +kernel, by decide +kernel⟩
theorem sc_m_back : FnScope ["self", "c"] ["self"] (defScope s_m_back) := ⟨rfl, rfl, rfl, by decide +kernel, rfl, by decide +kernel, by decide +kernel⟩
theorem sc_m_chance : FnScope ["self"] ["self"] (defScope s_m_chance) := ⟨rfl, rfl, rfl, by decide +kernel, rfl, by decide +kernel, by decide +kernel⟩
theorem sc_m_two : FnScope ["self", "i", "j", "left", "after"] ["self", "i", "j"] (defScope s_m_two) := ⟨rfl, rfl, rfl, by decide +kernel, rfl, by decide +kernel, by decide +kernel⟩
theorem sc_m_just : FnScope ["self", "n", "k"] ["self", "n", "k"] (defScope s_m_just) := ⟨rfl, rfl, rfl, by decide +kernel, rfl, by decide +kernel, by decide +kernel⟩
theorem sc_m_sets_of : FnScope ["self", "n", "k"] ["self", "n"] (defScope s_m_sets_of) := ⟨rfl, rfl, rfl, by decide +kernel, rfl, by decide +kernel, by decide +kernel⟩
theorem sc_m_all_of : FnScope ["self", "n"] ["self", "n"] (defScope s_m_all_of) := ⟨rfl, rfl, rfl, by decide +kernel, rfl, by decide +kernel, by decide +kernel⟩
theorem sc_m_likeliest : FnScope ["self", "n"] ["self", "n"] (defScope s_m_likeliest) := ⟨rfl, rfl, rfl, by decide +kernel, rfl, by decide +kernel, by decide +kernel⟩
theorem sc_m_sets_with_at_least : FnScope ["self", "n", "k"] ["self", "n", "k"] (defScope s_m_sets_with_at_least) := ⟨rfl, rfl, rfl, by decide +kernel, rfl, by decide +kernel, by decide +kernel⟩
theorem sc_m_atleast : FnScope ["self", "n", "k"] ["self", "n", "k"] (defScope s_m_atleast) := ⟨rfl, rfl, rfl, by decide +kernel, rfl, by decide +kernel, by decide +kernel⟩
theorem sc_m_mean : FnScope ["self", "n"] ["self", "n"] (defScope s_m_mean) := ⟨rfl, rfl, rfl, by decide +kernel, rfl, by decide +kernel, by decide +kernel⟩
theorem sc_m_spread : FnScope ["self", "n", "left"] ["self", "n"] (defScope s_m_spread) := ⟨rfl, rfl, rfl, by decide +kernel, rfl, by decide +kernel, by decide +kernel⟩
theorem sc_m_spreadback : FnScope ["self", "n", "left"] ["self", "n"] (defScope s_m_spreadback) := ⟨rfl, rfl, rfl, by decide +kernel, rfl, by decide +kernel, by decide +kernel⟩
theorem sc_m_swapped : FnScope ["self", "n", "k", "left"] ["self", "n", "k"] (defScope s_m_swapped) := ⟨rfl, rfl, rfl, by decide +kernel, rfl, by decide +kernel, by decide +kernel⟩
theorem sc_m_needed : FnScope ["self", "k", "a", "c", "left", "n"] ["self", "k", "a", "c"] (defScope s_m_needed) := ⟨rfl, rfl, rfl, by decide +kernel, rfl, by decide +kernel, by decide +kernel⟩
theorem sc_m_certain : FnScope ["self", "k"] ["self", "k"] (defScope s_m_certain) := ⟨rfl, rfl, rfl, by decide +kernel, rfl, by decide +kernel, by decide +kernel⟩
theorem sc_m_comes : FnScope ["self", "k"] ["self", "k"] (defScope s_m_comes) := ⟨rfl, rfl, rfl, by decide +kernel, rfl, by decide +kernel, by decide +kernel⟩
theorem sc_m_kthat : FnScope ["self", "k", "n", "left", "ways"] ["self", "k", "n"] (defScope s_m_kthat) := ⟨rfl, rfl, rfl, by decide +kernel, rfl, by decide +kernel, by decide +kernel⟩
theorem sc_m_kthmean : FnScope ["self", "k"] ["self", "k"] (defScope s_m_kthmean) := ⟨rfl, rfl, rfl, by decide +kernel, rfl, by decide +kernel, by decide +kernel⟩
theorem sc_m_guess : FnScope ["self", "n", "k", "left", "red"] ["self", "n", "k"] (defScope s_m_guess) := ⟨rfl, rfl, rfl, by decide +kernel, rfl, by decide +kernel, by decide +kernel⟩
theorem sc_m_told : FnScope ["self", "drawn", "drawn_red"] ["self"] (defScope s_m_told) := ⟨rfl, rfl, rfl, by decide +kernel, rfl, by decide +kernel, by decide +kernel⟩
theorem sc_answer_for_n_and_k : FnScope ["drawing", "number", "n", "k"] ["drawing", "number", "n", "k"] (defScope s_answer_for_n_and_k) := ⟨rfl, rfl, rfl, by decide +kernel, rfl, by decide +kernel, by decide +kernel⟩
theorem sc_answer_for_n : FnScope ["drawing", "number", "arguments", "n"] ["drawing", "number", "arguments"] (defScope s_answer_for_n) := ⟨rfl, rfl, rfl, by decide +kernel, rfl, by decide +kernel, by decide +kernel⟩
theorem sc_answer_for_k : FnScope ["drawing", "number", "arguments", "k"] ["drawing", "number", "arguments"] (defScope s_answer_for_k) := ⟨rfl, rfl, rfl, by decide +kernel, rfl, by decide +kernel, by decide +kernel⟩
theorem sc_answer_call : FnScope ["drawing", "number", "arguments"] ["drawing", "number", "arguments"] (defScope s_answer_call) := ⟨rfl, rfl, rfl, by decide +kernel, rfl, by decide +kernel, by decide +kernel⟩
theorem sc_answers : FnScope ["calls", "drawing", "given", "place", "number", "behind", "answer"] ["calls"] (defScope s_answers) := ⟨rfl, rfl, rfl, by decide +kernel, rfl, by decide +kernel, by decide +kernel⟩
/-! ### small words over the layer -/
section
variable {X : Cx}
theorem pe_gint {x : Str} {i : Int} {pos : Pos} (hg : Gl X x) (hm : ∃ t, X.mg x = some (.int i t)) (hd : (x == ("__debug__" : Str)) = false := by decide) : PE X (.Name x pos) (tC (.int i)) := by
  obtain ⟨t, hm⟩ := hm
  exact pe_glob hg hm ⟨t, rfl⟩ hd
theorem pe_gref {x : Str} {a : Addr} {pos : Pos} (hg : Gl X x) (hm : X.mg x = some (.ref a)) (hd : (x == ("__debug__" : Str)) = false := by decide) : PE X (.Name x pos) (tC (.ref a)) :=
  pe_glob hg hm rfl hd
/-- o.f, the fragment named by itself (within a comprehension X names what is bound there) -/
theorem pe_fldK {K : PySem.W.Frag} {e : Expr} {f : Str} {pos : Pos} {ta : TE} (he : PE X e ta) (hb : attributeBase e f X.env (eval e X.env) = eval e X.env) (hK : X.K = K := by rfl) : PE X (.Attribute e f pos) (tFld K ta f) := by
  subst hK
  exact pe_fld he hb
end
theorem Same.upd {H : Hp} {p : Addr} {o : HO} (h : H p = none) : Same H (upd H p o) := fun b u e => by
  rw [upd_ne (ne_of_none e h)]
  exact e
theorem ite_t {b : Bool} {A B : Prop} (e : b = true) (h : A) : if b = true then A else B := by rw [if_pos e]; exact h
theorem ite_f {b : Bool} {A B : Prop} (e : b = false) (h : B) : if b = true then A else B := by rw [if_neg (by rw [e]; decide)]; exact h
/-- a test of ints, split -/
theorem ite_d {c A B : Prop} [Decidable c] (h1 : c → A) (h2 : ¬ c → B) : if decide c = true then A else B := by
  by_cases h : c
  · exact ite_t (decide_eq_true h) (h1 h)
  · exact ite_f (decide_eq_false h) (h2 h)
theorem ite_eq {i j : Int} {A B : Prop} (h1 : i = j → A) (h2 : ¬ i = j → B) : if decide (V.int i = V.int j) = true then A else B := by
  by_cases h : i = j
  · exact ite_t (decide_eq_true (by rw [h])) (h1 h)
  · exact ite_f (decide_eq_false fun e => h (V.int.inj e)) (h2 h)
theorem mulok {i j : Int} (h1 : 0 ≤ i) (h2 : i < 18446744073709551616) : CMul i j := .inl ⟨by omega, by omega⟩
/-- a new list of ints is handed back, all else as it was -/
def RetQ (H : Hp) (ans : List Int) (Q : VK) : Prop := ∀ (H' : Hp) (p : Addr), Same H H' → H p = none → H' p = some (.lst (ans.map V.int)) → Q (.ref p) H'
theorem RetQ.of {H : Hp} {ans : List Int} {Q : VK} {xs : List V} (k : RetQ H ans Q) (e : xs = ans.map V.int) : ∀ p, H p = none → Q (.ref p) (upd H p (.lst xs)) := fun p hp => by
  subst e
  exact k _ p (Same.upd hp) hp upd_same
/-! ### the promises of the helping functions -/
def sp_common_divisor (_ : Addr) : Sp := fun vs H Q _ => ∃ a b : Nat, vs = [.int a, .int b] ∧ Q (.int (Nat.gcd a b : Nat)) H
def sp_fraction (_ : Addr) : Sp := fun vs H Q _ => ∃ a b : Nat, vs = [.int a, .int b] ∧ 0 < b ∧ b < 1073741824 ∧ RetQ H (fracL a b) Q
def sp_ways_to_choose (_ : Addr) : Sp := fun vs H Q _ => ∃ k n : Nat, vs = [.int k, .int n] ∧ n ≤ 24 ∧ Q (.int (Kp291.choose n k : Nat)) H
def sp_sets_with (_ : Addr) : Sp := fun vs H Q _ => ∃ r o n k : Nat, vs = [.int r, .int o, .int n, .int k] ∧ r + o ≤ 24 ∧ Q (.int (Kp295.justUp (r + o) r n k : Nat)) H
/-- of a list of f's values from 0 to n: the first place of the greatest -/
def sp_first_greatest (_ : Addr) : Sp := fun vs H Q _ => ∃ (a : Addr) (f : Nat → Nat) (n : Nat), vs = [.ref a] ∧ H a = some (.lst ((List.range (n + 1)).map fun k => V.int ((f k : Nat) : Int))) ∧ Q (.int ((best f n : Nat) : Int)) H
section
variable {P : Program} {w : World} {K : PySem.W.Frag} {mg : Str → Option Value} {base : Heap}
/-- common_divisor -/
theorem ok_common_divisor (T : TX K mg) : FnOk P w K mg base CX0 1 T.f_common_divisor T.fd_common_divisor ["first", "second"] (sp_common_divisor T.C) := by
  refine T.F_common_divisor.ok sc_common_divisor (fun vs H Q E h => ?_) (fun cdv A outer s H vs Q E hr h => ?_)
  · obtain ⟨a, b, rfl, k⟩ := h
    rfl
  · obtain ⟨a, b, rfl, k⟩ := h
    -- slots: 0 first, 1 second, 2 rest
    refine ⟨_, (pss_cons (ps_while PassesOwn.never (pt_cmpR op_gt (pv 1) pe_int (nomark _)) (pss_cons (ps_set (i := 2) sc_common_divisor.nd rfl (by first | exact Or.inl rfl | exact Or.inr rfl) (pe_op op_mod (pv 0) (pv 1)))
      (pss_cons (ps_set (i := 0) sc_common_divisor.nd rfl (by first | exact Or.inl rfl | exact Or.inr rfl) (pv 1))
      (pss_one (ps_set (i := 1) sc_common_divisor.nd rfl (by first | exact Or.inl rfl | exact Or.inr rfl) (pv 2))))))
      (pss_one (ps_ret (pv 0)))), ?_⟩
    refine while_by (fun σ H' => H' = H ∧ ∃ (x y : Nat) (z : Option V), σ = [some (.int x), some (.int y), z] ∧ Nat.gcd x y = Nat.gcd a b)
      (fun σ _ => match σ with | [_, some (.int y), _] => y.toNat | _ => 0) ⟨rfl, a, b, none, rfl, rfl⟩ ?_ ?_
    · rintro σ H' ⟨rfl, x, y, z, rfl, e⟩
      refine ⟨_, rfl, _, _, rfl, rfl, _, rfl, ?_⟩
      refine ite_d (fun hy => ?_) (fun hy => ?_)
      · refine ⟨_, rfl, _, rfl, _, _, rfl, rfl, hy, ?_⟩
        refine ⟨_, rfl, _, rfl, ⟨rfl, y, x % y, some (V.int ((x : Int) % (y : Int))), ?_, ?_⟩, ?_⟩
        · show [some (V.int y), some (V.int ((x : Int) % (y : Int))), some (V.int ((x : Int) % (y : Int)))] = _
          rw [← Int.natCast_emod]
        · rw [← e]; exact (gcd_turn x y).symm
        · show ((x : Int) % (y : Int)).toNat < (y : Int).toNat
          have h : 0 < y := by omega
          have := Nat.mod_lt x h
          rw [← Int.natCast_emod]; omega
      · refine ⟨_, rfl, ?_⟩
        have h0 : y = 0 := by omega
        subst h0
        rw [Nat.gcd_zero_right] at e
        rw [e]
        exact k
    · rintro σ H' R R' hR ⟨v, h1, i, j, h2, h3, c, h4, h5⟩
      exact ⟨v, h1, i, j, h2, h3, c, h4, hR _ _ h5⟩
/-- fraction -/
theorem ok_fraction (T : TX K mg) : FnOk P w K mg base CX0 2 T.f_fraction T.fd_fraction ["above", "below"] (sp_fraction T.C) := by
  refine T.F_fraction.ok sc_fraction (fun vs H Q E h => ?_) (fun cdv A outer s H vs Q E hr h => ?_)
  · obtain ⟨a, b, rfl, hb, hb2, k⟩ := h
    rfl
  · obtain ⟨a, b, rfl, hb, hb2, k⟩ := h
    -- slots: 0 above, 1 below, 2 divisor
    refine ⟨_, (pss_cons (ps_set (i := 2) sc_fraction.nd rfl (by first | exact Or.inl rfl | exact Or.inr rfl) (pe_call (ok_common_divisor T) hr (by rfl) T.g_common_divisor T.F_common_divisor.kp T.b_common_divisor .nil pass0 (pa_cons (pv 0) (pa_cons (pv 1) pa_nil))))
      (pss_one (ps_ret (pe_lst (pa_cons pe_int (pa_cons (pe_op op_fdiv (pv 0) (pv 2)) (pa_cons (pe_op op_fdiv (pv 1) (pv 2)) pa_nil))))))), ?_⟩
    have hg : 0 < Nat.gcd a b := Nat.gcd_pos_of_pos_right a hb
    have hg2 : Nat.gcd a b ≤ b := Nat.gcd_le_right a hb
    refine ⟨_, rfl, _, rfl, a, b, rfl, ?_⟩
    refine ⟨_, rfl, _, rfl, _, _, rfl, rfl, ⟨by omega, by omega⟩, _, rfl, _, rfl, _, _, rfl, rfl, ⟨by omega, by omega⟩, ?_⟩
    refine ⟨(by show 3 ≤ sizeLine; decide), k.of ?_⟩
    simp [fracL]
/-- ways_to_choose -/
theorem ok_ways_to_choose (T : TX K mg) : FnOk P w K mg base CX0 1 T.f_ways_to_choose T.fd_ways_to_choose ["few", "many"] (sp_ways_to_choose T.C) := by
  refine T.F_ways_to_choose.ok sc_ways_to_choose (fun vs H Q E h => ?_) (fun cdv A outer s H vs Q E hr h => ?_)
  · obtain ⟨k, n, rfl, hn, q⟩ := h
    rfl
  · obtain ⟨k, n, rfl, hn, q⟩ := h
    -- slots: 0 few, 1 many, 2 ways, 3 step
    refine ⟨_, (pss_cons (ps_if (pt_cmpR op_gt (pv 0) (pv 1) (nomark _)) (pss_one (ps_ret pe_int)) pss_nil)
      (pss_cons (ps_set (i := 2) sc_ways_to_choose.nd rfl (by first | exact Or.inl rfl | exact Or.inr rfl) pe_int)
      (pss_cons (ps_for PassesOwn.never rfl (pi_range1 (by rfl) T.no_range (pa_cons (pv 0) pa_nil)) (pg_name (i := 3) sc_ways_to_choose.nd rfl (by first | exact Or.inl rfl | exact Or.inr rfl)) (pss_one (ps_set (i := 2) sc_ways_to_choose.nd rfl (by first | exact Or.inl rfl | exact Or.inr rfl) (pe_op op_fdiv (pe_op op_mul (pv 2) (pe_op op_sub (pv 1) (pv 3))) (pe_op op_add (pv 3) pe_int)))))
      (pss_one (ps_ret (pv 2)))))), ?_⟩
    refine ⟨_, rfl, _, rfl, _, _, rfl, rfl, _, rfl, ?_⟩
    refine ite_d (fun h => ?_) (fun h => ?_)
    · have e : Kp291.choose n k = 0 := choose_big n k (by omega)
      rw [e] at q
      exact q
    · refine ⟨_, rfl, _, rfl, by omega, by omega, ?_⟩
      rw [Int.toNat_natCast]
      refine for_range (fun i σ H' => H' = H ∧ ∃ z, σ = [some (.int k), some (.int n), some (.int (Kp291.choose n i : Nat)), z]) ⟨rfl, _, rfl⟩ ?_ ?_
      · rintro i σ H' hi ⟨rfl, z, rfl⟩
        have hl := choose_le (n := n) i hn
        refine ⟨_, rfl, _, rfl, _, rfl, _, _, rfl, rfl, _, _, rfl, rfl, mulok (by omega) (by omega), _, rfl, _, _, rfl, rfl, _, _, rfl, rfl, ⟨by omega, by omega⟩, rfl, some (V.int (0 + (i : Int))), ?_⟩
        show [some (V.int k), some (V.int n), some (V.int (((Kp291.choose n i : Nat) : Int) * ((n : Int) - (0 + (i : Int))) / ((0 + (i : Int)) + 1))), some (V.int (0 + (i : Int)))] = _
        have e : ((Kp291.choose n i : Nat) : Int) * ((n : Int) - (0 + (i : Int))) / ((0 + (i : Int)) + 1) = ((Kp291.choose n (i + 1) : Nat) : Int) := by
          rw [choose_succ, Int.natCast_ediv, Int.natCast_mul, Int.natCast_sub (by omega)]
          simp
        rw [e]
      · rintro σ H' ⟨rfl, z, rfl⟩
        exact ⟨_, rfl, q⟩
/-- sets_with -/
theorem ok_sets_with (T : TX K mg) : FnOk P w K mg base CX0 2 T.f_sets_with T.fd_sets_with ["red", "other", "n", "k"] (sp_sets_with T.C) := by
  refine T.F_sets_with.ok sc_sets_with (fun vs H Q E h => ?_) (fun cdv A outer s H vs Q E hr h => ?_)
  · obtain ⟨r, o, n, j, rfl, hm, k⟩ := h
    rfl
  · obtain ⟨r, o, n, j, rfl, hm, k⟩ := h
    -- slots: 0 red, 1 other, 2 n, 3 k
    refine ⟨_, (pss_cons (ps_if (pt_cmpR op_gt (pv 3) (pv 2) (nomark _)) (pss_one (ps_ret pe_int)) pss_nil)
      (pss_one (ps_ret (pe_op op_mul (pe_call (ok_ways_to_choose T) hr (by rfl) T.g_ways_to_choose T.F_ways_to_choose.kp T.b_ways_to_choose .nil pass0 (pa_cons (pv 3) (pa_cons (pv 0) pa_nil))) (pe_call (ok_ways_to_choose T) hr (by rfl) T.g_ways_to_choose T.F_ways_to_choose.kp T.b_ways_to_choose .nil pass0 (pa_cons (pe_op op_sub (pv 2) (pv 3)) (pa_cons (pv 1) pa_nil))))))), ?_⟩
    rw [just_pair] at k
    refine ⟨_, rfl, _, rfl, _, _, rfl, rfl, _, rfl, ?_⟩
    refine ite_d (fun h => ?_) fun h => ?_
    · rw [if_pos (by omega)] at k
      exact k
    · rw [if_neg (by omega)] at k
      have e : ((n : Int) - (j : Int)) = ((n - j : Nat) : Int) := by omega
      have hl := choose_le (n := r) j (by omega)
      refine ⟨_, rfl, _, rfl, j, r, rfl, by omega, ?_⟩
      refine ⟨_, rfl, _, rfl, _, _, rfl, rfl, _, rfl, n - j, o, (by show [V.int ((n : Int) - (j : Int)), V.int o] = _; rw [e]), by omega, ?_⟩
      exact ⟨_, _, rfl, rfl, mulok (by omega) (by omega), k⟩
/-- first_greatest -/
theorem ok_first_greatest (T : TX K mg) : FnOk P w K mg base CX0 1 T.f_first_greatest T.fd_first_greatest ["numbers"] (sp_first_greatest T.C) := by
  refine T.F_first_greatest.ok sc_first_greatest (fun vs H Q E h => ?_) (fun cdv A outer s H vs Q E hr h => ?_)
  · obtain ⟨a, f, n, rfl, ha, k⟩ := h
    rfl
  · obtain ⟨a, f, n, rfl, ha, k⟩ := h
    -- slots: 0 numbers
    refine ⟨_, (pss_one (ps_ret (pe_bm PySem.F.plainAttrs_list PySem.F.slot_list_index PySem.F.type_list_index mt_index (pv 0) (pa_cons (pe_callB (cr_max rfl) (by rfl) T.no_max PyProof.Rows.boot_max (pa_cons (pv 0) pa_nil)) pa_nil)))), ?_⟩
    obtain ⟨b1, b2, b3⟩ := best_is f n
    have el : ((List.range (n + 1)).map fun k => V.int ((f k : Nat) : Int)) = ((List.range (n + 1)).map fun k => ((f k : Nat) : Int)).map V.int := by rw [List.map_map]; rfl
    refine ⟨_, rfl, .inl ⟨rfl, _, SqL.of ha⟩, _, rfl, a, (List.range (n + 1)).map fun k => ((f k : Nat) : Int), rfl, SqL.of (ha.trans (congrArg (fun l => some (HO.lst l)) el)), by simp, fun m hm hy => ?_⟩
    have em : m = ((f (best f n) : Nat) : Int) := by
      obtain ⟨j, hj, e⟩ := List.mem_map.mp hm
      have hj := List.mem_range.mp hj
      have h1 := hy _ (List.mem_map.mpr ⟨best f n, List.mem_range.mpr (by omega), rfl⟩)
      have h2 := b2 j (by omega)
      omega
    subst em
    refine ⟨a, _, _, best f n, V.int ((f (best f n) : Nat) : Int), rfl, rfl, SqL.of ha, rfl, ?_, ?_, beq_self_eq_true _, ?_, k⟩
    · refine List.all_eq_true.mpr fun z hz => ?_
      obtain ⟨j, _, rfl⟩ := List.mem_map.mp hz
      rfl
    · rw [List.getElem?_map, List.getElem?_range (by omega)]
      rfl
    · intro m z' hm hz
      rw [List.getElem?_map, List.getElem?_range (by omega)] at hz
      cases hz
      have h3 := b3 m hm
      exact beq_false_of_ne (by omega)
end
end Red


end
section
set_option Elab.async false
set_option linter.all false
set_option maxRecDepth 100000
set_option maxHeartbeats 2000000
namespace Red
open PySem PySem.Spec PyProof.Rows L2
open PySem.W (Codec)
/-! ### the object -/
/-- the attributes of a Drawing, in the order in which they are first stored -/
def flds (z_begun : Bool) (z_red : Int) (z_other : Int) (z_drawn : Addr) : List (Str × V) := [("begun", .bl z_begun), ("red", .int z_red), ("other", .int z_other), ("drawn", .ref z_drawn)]
theorem lk_cons {a k : Str} {v : V} {l : List (Str × V)} : List.lookup a ((k, v) :: l) = if a = k then some v else List.lookup a l := by
  by_cases h : a = k
  · subst h; simp [List.lookup]
  · rw [if_neg h]
    have e : (a == k) = false := beq_false_of_ne h
    simp only [List.lookup, e]
theorem putF_nil (f : Str) (v : V) : putF f v [] = [(f, v)] := rfl
theorem putF_cons (f g : Str) (v u : V) (r : List (Str × V)) : putF f v ((g, u) :: r) = if g = f then (g, v) :: r else (g, u) :: putF f v r := rfl
theorem ne_begun_red : ¬ (("begun" : Str) = "red") := by decide +kernel
theorem ne_begun_other : ¬ (("begun" : Str) = "other") := by decide +kernel
theorem ne_begun_drawn : ¬ (("begun" : Str) = "drawn") := by decide +kernel
theorem ne_red_begun : ¬ (("red" : Str) = "begun") := by decide +kernel
theorem ne_red_other : ¬ (("red" : Str) = "other") := by decide +kernel
theorem ne_red_drawn : ¬ (("red" : Str) = "drawn") := by decide +kernel
theorem ne_other_begun : ¬ (("other" : Str) = "begun") := by decide +kernel
theorem ne_other_red : ¬ (("other" : Str) = "red") := by decide +kernel
theorem ne_other_drawn : ¬ (("other" : Str) = "drawn") := by decide +kernel
theorem ne_drawn_begun : ¬ (("drawn" : Str) = "begun") := by decide +kernel
theorem ne_drawn_red : ¬ (("drawn" : Str) = "red") := by decide +kernel
theorem ne_drawn_other : ¬ (("drawn" : Str) = "other") := by decide +kernel
theorem fl_begun (z_begun : Bool) (z_red : Int) (z_other : Int) (z_drawn : Addr) : (flds z_begun z_red z_other z_drawn).lookup ("begun" : Str) = some (.bl z_begun) := by
  unfold flds
  rw [lk_cons, if_pos rfl]
theorem put_begun (z_begun : Bool) (z_red : Int) (z_other : Int) (z_drawn : Addr) (y : Bool) : putF "begun" (.bl y) (flds z_begun z_red z_other z_drawn) = flds y z_red z_other z_drawn := by
  unfold flds
  rw [putF_cons, if_pos rfl]
theorem fl_red (z_begun : Bool) (z_red : Int) (z_other : Int) (z_drawn : Addr) : (flds z_begun z_red z_other z_drawn).lookup ("red" : Str) = some (.int z_red) := by
  unfold flds
  rw [lk_cons, if_neg ne_red_begun, lk_cons, if_pos rfl]
theorem put_red (z_begun : Bool) (z_red : Int) (z_other : Int) (z_drawn : Addr) (y : Int) : putF "red" (.int y) (flds z_begun z_red z_other z_drawn) = flds z_begun y z_other z_drawn := by
  unfold flds
  rw [putF_cons, if_neg ne_begun_red, putF_cons, if_pos rfl]
theorem fl_other (z_begun : Bool) (z_red : Int) (z_other : Int) (z_drawn : Addr) : (flds z_begun z_red z_other z_drawn).lookup ("other" : Str) = some (.int z_other) := by
  unfold flds
  rw [lk_cons, if_neg ne_other_begun, lk_cons, if_neg ne_other_red, lk_cons, if_pos rfl]
theorem put_other (z_begun : Bool) (z_red : Int) (z_other : Int) (z_drawn : Addr) (y : Int) : putF "other" (.int y) (flds z_begun z_red z_other z_drawn) = flds z_begun z_red y z_drawn := by
  unfold flds
  rw [putF_cons, if_neg ne_begun_other, putF_cons, if_neg ne_red_other, putF_cons, if_pos rfl]
theorem fl_drawn (z_begun : Bool) (z_red : Int) (z_other : Int) (z_drawn : Addr) : (flds z_begun z_red z_other z_drawn).lookup ("drawn" : Str) = some (.ref z_drawn) := by
  unfold flds
  rw [lk_cons, if_neg ne_drawn_begun, lk_cons, if_neg ne_drawn_red, lk_cons, if_neg ne_drawn_other, lk_cons, if_pos rfl]
theorem put_drawn (z_begun : Bool) (z_red : Int) (z_other : Int) (z_drawn : Addr) (y : Addr) : putF "drawn" (.ref y) (flds z_begun z_red z_other z_drawn) = flds z_begun z_red z_other y := by
  unfold flds
  rw [putF_cons, if_neg ne_begun_drawn, putF_cons, if_neg ne_red_drawn, putF_cons, if_neg ne_other_drawn, putF_cons, if_pos rfl]
theorem fl_no (z_begun : Bool) (z_red : Int) (z_other : Int) (z_drawn : Addr) {m : Str} (h_begun : ¬ m = "begun" := by decide +kernel) (h_red : ¬ m = "red" := by decide +kernel) (h_other : ¬ m = "other" := by decide +kernel) (h_drawn : ¬ m = "drawn" := by decide +kernel) : (flds z_begun z_red z_other z_drawn).lookup m = none := by
  unfold flds
  rw [lk_cons, if_neg h_begun, lk_cons, if_neg h_red, lk_cons, if_neg h_other, lk_cons, if_neg h_drawn]
  rfl
theorem fl_init (z_begun : Bool) (z_red : Int) (z_other : Int) (z_drawn : Addr) : putF "drawn" (.ref z_drawn) (putF "other" (.int z_other) (putF "red" (.int z_red) (putF "begun" (.bl z_begun) []))) = flds z_begun z_red z_other z_drawn := by
  simp only [putF_nil, putF_cons, if_neg ne_begun_red, if_neg ne_begun_other, if_neg ne_red_other, if_neg ne_begun_drawn, if_neg ne_red_drawn, if_neg ne_other_drawn]
  rfl
theorem lp {f : Str} {v : V} {fs : List (Str × V)} {n : Nat} (h : fs.length ≤ n) : (putF f v fs).length ≤ n + 1 := Nat.le_trans (length_putF f v fs) (Nat.succ_le_succ h)
theorem fl_len (z_begun : Bool) (z_red : Int) (z_other : Int) (z_drawn : Addr) : (flds z_begun z_red z_other z_drawn).length < 1000 := by show 4 < 1000; decide
/-- the numbers of a list, as values -/
abbrev nats (l : List Nat) : List V := l.map fun (c : Nat) => V.int c
/-- a Drawing stands at x, its list of draws at d -/
structure DrAt (C : Addr) (H : Hp) (x d : Addr) (b : Bool) (r o : Nat) (was : List Nat) : Prop where
  ob : ∃ dx, H x = some (.ins C dx (flds b r o d))
  ls : H d = some (.lst (nats was))
theorem DrAt.ne {C : Addr} {H : Hp} {x d : Addr} {b : Bool} {r o : Nat} {was : List Nat} (D : DrAt C H x d b r o was) : x ≠ d := by
  obtain ⟨dx, h⟩ := D.ob
  exact ne_of h D.ls (by intro z; cases z)
theorem DrAt.same {C : Addr} {H H' : Hp} {x d : Addr} {b : Bool} {r o : Nat} {was : List Nat} (D : DrAt C H x d b r o was) (s : Same H H') : DrAt C H' x d b r o was :=
  ⟨D.ob.imp fun _ h => s _ _ h, s _ _ D.ls⟩
/-- a call's end: the object in its new state, a new list of ints, all else as it was -/
def RetM (C : Addr) (H : Hp) (x d : Addr) (b : Bool) (r o : Nat) (was : List Nat) (ans : List Int) (Q : VK) : Prop :=
  ∀ (H' : Hp) (p d' : Addr), DrAt C H' x d' b r o was → H p = none → H' p = some (.lst (ans.map V.int)) → (d' = d ∨ H d' = none) → (∀ a u, H a = some u → a ≠ x → a ≠ d → H' a = some u) → Q (.ref p) H'
theorem RetM.q {C : Addr} {H : Hp} {x d : Addr} {b : Bool} {r o : Nat} {was : List Nat} {ans : List Int} {Q : VK} (k : RetM C H x d b r o was ans Q) (D : DrAt C H x d b r o was) : RetQ H ans Q :=
  fun H' p s hp h => k H' p d (D.same s) hp h (.inl rfl) fun a u e _ _ => s a u e
theorem RetQ.same {H H' : Hp} {ans : List Int} {Q : VK} (k : RetQ H ans Q) (s : Same H H') : RetQ H' ans Q := fun H'' p s2 hp h => k H'' p (s.trans s2) (s.free hp) h
/-! ### the promises -/
def sp_m_init (C : Addr) : Sp := fun vs H Q _ => ∃ (p dx : Addr), vs = [.ref p] ∧ H p = some (.ins C dx []) ∧ ∀ (H' : Hp) (d : Addr), DrAt C H' p d false 0 0 [] → H d = none → (∀ a u, H a = some u → a ≠ p → H' a = some u) → Q .non H'
def sp_m_left (C : Addr) : Sp := fun vs H Q _ => ∃ (x dx d : Addr) (b : Bool) (r o : Nat), vs = [.ref x] ∧ H x = some (.ins C dx (flds b r o d)) ∧ Q (.int ((r + o : Nat) : Int)) H
def sp_m_begin (C : Addr) : Sp := fun vs H Q _ => ∃ (x d : Addr) (b : Bool) (r o : Nat) (was : List Nat) (m r' : Nat), vs = [.ref x, .int m, .int r'] ∧ DrAt C H x d b r o was ∧
  (m = 0 ∨ 24 < m ∨ m < r' → RetQ H [-22] Q) ∧ (¬ (m = 0 ∨ 24 < m ∨ m < r') → RetM C H x d true r' (m - r') [] [0] Q)
def sp_m_draw (C : Addr) : Sp := fun vs H Q _ => ∃ (x d : Addr) (b : Bool) (r o : Nat) (was : List Nat) (c : Nat), vs = [.ref x, .int c] ∧ DrAt C H x d b r o was ∧ was.length ≤ 24 ∧
  (1 < c → RetQ H [-22] Q) ∧ (c ≤ 1 → r + o = 0 → RetQ H [-6] Q) ∧ (c ≤ 1 → ¬ r + o = 0 → (c = 1 ∧ r = 0) ∨ (c = 0 ∧ o = 0) → RetQ H [-33] Q) ∧
  (c ≤ 1 → ¬ r + o = 0 → ¬ ((c = 1 ∧ r = 0) ∨ (c = 0 ∧ o = 0)) → RetM C H x d b (r - c) (o - (1 - c)) (was ++ [c]) [((r + o - 1 : Nat) : Int)] Q)
def sp_m_back (C : Addr) : Sp := fun vs H Q _ => ∃ (x d : Addr) (b : Bool) (r o : Nat) (was : List Nat), vs = [.ref x] ∧ DrAt C H x d b r o was ∧ was.length ≤ 24 ∧ (∀ c ∈ was, c ≤ 1) ∧
  (was = [] → RetQ H [-12] Q) ∧ (∀ ws c, was = ws ++ [c] → RetM C H x d b (r + c) (o + (1 - c)) ws [(c : Int)] Q)
def sp_m_chance (C : Addr) : Sp := fun vs H Q _ => ∃ (x dx d : Addr) (b : Bool) (r o : Nat), vs = [.ref x] ∧ H x = some (.ins C dx (flds b r o d)) ∧ r + o ≤ 24 ∧ RetQ H (if r + o = 0 then [-6] else fracL r (r + o)) Q
def sp_m_of_kind (C : Addr) : Sp := fun vs H Q _ => ∃ (x dx d : Addr) (b : Bool) (r o c : Nat), vs = [.ref x, .int c] ∧ H x = some (.ins C dx (flds b r o d)) ∧ Q (.int ((if c = 1 then r else o : Nat) : Int)) H
def sp_m_sets_of (C : Addr) : Sp := fun vs H Q _ => ∃ (x dx d : Addr) (b : Bool) (r o n : Nat), vs = [.ref x, .int n] ∧ H x = some (.ins C dx (flds b r o d)) ∧ r + o ≤ 24 ∧ n ≤ 24 ∧
  RetQ H ((List.range (n + 1)).map fun k => ((Kp295.justUp (r + o) r n k : Nat) : Int)) Q
def sp_m_sets_with_at_least (C : Addr) : Sp := fun vs H Q _ => ∃ (x dx d : Addr) (b : Bool) (r o n k : Nat), vs = [.ref x, .int n, .int k] ∧ H x = some (.ins C dx (flds b r o d)) ∧ r + o ≤ 24 ∧ n ≤ 24 ∧
  ∀ H', Same H H' → Q (.int ((Kp295.atLeastUp (r + o) r n k : Nat) : Int)) H'
def sp_m_atleast (C : Addr) : Sp := fun vs H Q _ => ∃ (x dx d : Addr) (b : Bool) (r o n k : Nat), vs = [.ref x, .int n, .int k] ∧ H x = some (.ins C dx (flds b r o d)) ∧ r + o ≤ 24 ∧ n ≤ r + o ∧ RetQ H (fracL (Kp295.atLeastUp (r + o) r n k) (Kp291.choose (r + o) n)) Q
def sp_m_swapped (C : Addr) : Sp := fun vs H Q _ => ∃ (x dx d : Addr) (b : Bool) (r o n k : Nat), vs = [.ref x, .int n, .int k] ∧ H x = some (.ins C dx (flds b r o d)) ∧ r + o ≤ 24 ∧ n ≤ r + o ∧ RetQ H (fracL (Kp295.justUp (r + o) n r k) (Kp291.choose (r + o) r)) Q
def sp_m_guess (C : Addr) : Sp := fun vs H Q _ => ∃ (x dx d : Addr) (b : Bool) (r o n k : Nat), vs = [.ref x, .int n, .int k] ∧ H x = some (.ins C dx (flds b r o d)) ∧ r + o ≤ 24 ∧ n ≤ r + o ∧ RetQ H (if n < k then [-22] else [((Kp295.guess (r + o) n k : Nat) : Int)]) Q
def sp_m_needed (C : Addr) : Sp := fun vs H Q _ => ∃ (x dx d : Addr) (b : Bool) (r o k a c : Nat), vs = [.ref x, .int k, .int a, .int c] ∧ H x = some (.ins C dx (flds b r o d)) ∧ r + o ≤ 24 ∧ RetQ H (ansOf (.needed k a c) r o []) Q
def sp_m_certain (C : Addr) : Sp := fun vs H Q _ => ∃ (x dx d : Addr) (b : Bool) (r o k : Nat), vs = [.ref x, .int k] ∧ H x = some (.ins C dx (flds b r o d)) ∧ r + o ≤ 24 ∧ RetQ H (ansOf (.certain k) r o []) Q
def sp_m_comes (C : Addr) : Sp := fun vs H Q _ => ∃ (x dx d : Addr) (b : Bool) (r o k : Nat), vs = [.ref x, .int k] ∧ H x = some (.ins C dx (flds b r o d)) ∧ Q (.bl (decide (1 ≤ k ∧ k ≤ r))) H
def sp_m_kthat (C : Addr) : Sp := fun vs H Q _ => ∃ (x dx d : Addr) (b : Bool) (r o k n : Nat), vs = [.ref x, .int k, .int n] ∧ H x = some (.ins C dx (flds b r o d)) ∧ r + o ≤ 24 ∧ RetQ H (ansOf (.kthAt k n) r o []) Q
def sp_m_kthmean (C : Addr) : Sp := fun vs H Q _ => ∃ (x dx d : Addr) (b : Bool) (r o k : Nat), vs = [.ref x, .int k] ∧ H x = some (.ins C dx (flds b r o d)) ∧ r + o ≤ 24 ∧ RetQ H (ansOf (.kthMean k) r o []) Q
def sp_m_two (C : Addr) : Sp := fun vs H Q _ => ∃ (x dx d : Addr) (b : Bool) (r o i j : Nat), vs = [.ref x, .int i, .int j] ∧ H x = some (.ins C dx (flds b r o d)) ∧ r + o ≤ 24 ∧ RetQ H (ansOf (.two i j) r o []) Q
def sp_m_told (C : Addr) : Sp := fun vs H Q _ => ∃ (x d : Addr) (b : Bool) (r o : Nat) (was : List Nat), vs = [.ref x] ∧ DrAt C H x d b r o was ∧ RetQ H (ansOf .told r o was) Q
def sp_m_just (C : Addr) : Sp := fun vs H Q _ => ∃ (x dx d : Addr) (b : Bool) (r o n k : Nat), vs = [.ref x, .int n, .int k] ∧ H x = some (.ins C dx (flds b r o d)) ∧ r + o ≤ 24 ∧ n ≤ r + o ∧ RetQ H (fracL (Kp295.justUp (r + o) r n k) (Kp291.choose (r + o) n)) Q
def sp_m_all_of (C : Addr) : Sp := fun vs H Q _ => ∃ (x dx d : Addr) (b : Bool) (r o n : Nat), vs = [.ref x, .int n] ∧ H x = some (.ins C dx (flds b r o d)) ∧ r + o ≤ 24 ∧ n ≤ r + o ∧
  RetQ H (((n + 1 : Nat) : Int) :: (List.range (n + 1)).map fun k => ((Kp295.justUp (r + o) r n k : Nat) : Int)) Q
def sp_m_likeliest (C : Addr) : Sp := fun vs H Q _ => ∃ (x dx d : Addr) (b : Bool) (r o n : Nat), vs = [.ref x, .int n] ∧ H x = some (.ins C dx (flds b r o d)) ∧ r + o ≤ 24 ∧ n ≤ r + o ∧ RetQ H [((Kp295.likeliest (r + o) r n : Nat) : Int)] Q
def sp_m_mean (C : Addr) : Sp := fun vs H Q _ => ∃ (x dx d : Addr) (b : Bool) (r o n : Nat), vs = [.ref x, .int n] ∧ H x = some (.ins C dx (flds b r o d)) ∧ r + o ≤ 24 ∧ n ≤ r + o ∧ RetQ H (if r + o = 0 then [-6] else fracL (n * r) (r + o)) Q
def sp_m_spread (C : Addr) : Sp := fun vs H Q _ => ∃ (x dx d : Addr) (b : Bool) (r o n : Nat), vs = [.ref x, .int n] ∧ H x = some (.ins C dx (flds b r o d)) ∧ r + o ≤ 24 ∧ n ≤ r + o ∧
  RetQ H (if r + o < 2 then [-6] else fracL (n * r * o * (r + o - n)) ((r + o) * (r + o) * (r + o - 1))) Q
def sp_m_spreadback (C : Addr) : Sp := fun vs H Q _ => ∃ (x dx d : Addr) (b : Bool) (r o n : Nat), vs = [.ref x, .int n] ∧ H x = some (.ins C dx (flds b r o d)) ∧ r + o ≤ 24 ∧ n ≤ r + o ∧
  RetQ H (if r + o = 0 then [-6] else fracL (n * r * o) ((r + o) * (r + o))) Q
theorem one_le : 1 ≤ sizeLine := by decide
theorem and_join {t u : TT} {σ : L2.St} {H : Hp} {Q : Bool → Hp → Prop} {p q : Bool} (h1 : ∀ R : Bool → Hp → Prop, R p H → t σ H R) (h2 : p = true → ∀ R : Bool → Hp → Prop, R q H → u σ H R) (h : Q (p && q) H) : tAnd t u σ H Q := by
  refine h1 _ ?_
  cases p with
  | true => exact h2 rfl Q h
  | false => exact h
theorem or_join {t u : TT} {σ : L2.St} {H : Hp} {Q : Bool → Hp → Prop} {p q : Bool} (h1 : ∀ R : Bool → Hp → Prop, R p H → t σ H R) (h2 : p = false → ∀ R : Bool → Hp → Prop, R q H → u σ H R) (h : Q (p || q) H) : tOr t u σ H Q := by
  refine h1 _ ?_
  cases p with
  | true => exact h
  | false => exact h2 rfl Q h
theorem ite_n {c A B : Prop} [Decidable c] (h1 : ¬ c → A) (h2 : c → B) : if (!decide c) = true then A else B := by
  by_cases h : c
  · exact iteNS h (h2 h)
  · rw [decide_eq_false h]
    exact iteT (h1 h)
theorem nx_i {D : Ends} {σ : L2.St} {H : Hp} (h : D.nx σ H) : tNext D σ H := h
theorem seq_if {c : TT} {t u r : TS} {D : Ends} {σ : L2.St} {H : Hp} (h : c σ H fun b H1 => if b = true then t { D with nx := r D } σ H1 else u { D with nx := r D } σ H1) : tSeq (tIfS c t u) r D σ H := h
theorem one_if {c : TT} {t u : TS} {D : Ends} {σ : L2.St} {H : Hp} (h : c σ H fun b H1 => if b = true then t D σ H1 else u D σ H1) : tIfS c t u D σ H := h
theorem veq {i j : Int} : decide (V.int i = V.int j) = true ↔ i = j := by
  rw [decide_eq_true_iff]
  exact ⟨V.int.inj, fun h => by rw [h]⟩
theorem ite_and {a b : Bool} {X Y : Prop} (h1 : a = true → b = true → X) (h2 : ¬ (a = true ∧ b = true) → Y) : if (a && b) = true then X else Y := by
  by_cases h : a = true ∧ b = true
  · rw [if_pos (by rw [h.1, h.2]; rfl)]; exact h1 h.1 h.2
  · rw [if_neg (by rw [Bool.and_eq_true]; exact h)]; exact h2 h
theorem ite_or {a b : Bool} {X Y : Prop} (h1 : a = true ∨ b = true → X) (h2 : ¬ (a = true ∨ b = true) → Y) : if (a || b) = true then X else Y := by
  by_cases h : a = true ∨ b = true
  · rw [if_pos (by rw [Bool.or_eq_true]; exact h)]; exact h1 h
  · rw [if_neg (by rw [Bool.or_eq_true]; exact h)]; exact h2 h
section
variable {P : Program} {w : World} {K : PySem.W.Frag} {mg : Str → Option Value} {base : Heap}
/-- Drawing.__init__ -/
theorem ok_m_init (T : TX K mg) : FnOk P w K mg base CX0 1 T.f_m_init T.fd_m_init ["self"] (sp_m_init T.C) := by
  refine T.F_m_init.ok sc_m_init (fun vs H Q E h => ?_) (fun cdv A outer s H vs Q E hr h => ?_)
  · obtain ⟨p, dx, rfl, hp, k⟩ := h
    rfl
  · obtain ⟨p, dx, rfl, hp, k⟩ := h
    -- slots: 0 self
    refine ⟨_, (pss_cons (ps_fld (pv 0) pe_bl rfl)
      (pss_cons (ps_fld (pv 0) pe_int rfl)
      (pss_cons (ps_fld (pv 0) pe_int rfl)
      (pss_one (ps_fld (pv 0) (pe_lst pa_nil) rfl))))), ?_⟩
    refine ⟨_, rfl, p, T.C, dx, _, rfl, hp, T.cl, T.n_begun, (by show 0 < 1000; decide), ?_⟩
    refine ⟨_, rfl, p, T.C, dx, _, rfl, upd_same, T.cl, T.n_red, (by show 1 < 1000; decide), ?_⟩
    refine ⟨_, rfl, p, T.C, dx, _, rfl, upd_same, T.cl, T.n_other, Nat.lt_of_le_of_lt (lp (lp (Nat.zero_le 0))) (by decide), ?_⟩
    rw [upd_upd, upd_upd]
    refine ⟨Nat.zero_le _, fun d hd => ?_⟩
    have npd : p ≠ d := ne_of_none upd_same hd
    refine ⟨_, rfl, p, T.C, dx, _, rfl, (by rw [upd_ne npd]; exact upd_same), T.cl, T.n_drawn, Nat.lt_of_le_of_lt (lp (lp (lp (Nat.zero_le 0)))) (by decide), ?_⟩
    have hd0 : H d = none := by rw [upd_ne npd.symm] at hd; exact hd
    refine k _ d ⟨⟨dx, Eq.trans upd_same (congrArg (fun l => some (HO.ins T.C dx l)) (fl_init false 0 0 d))⟩, by rw [upd_ne npd.symm, upd_same]; rfl⟩ hd0 fun a u e ha => ?_
    rw [upd_ne ha, upd_ne (ne_of_none e hd0), upd_ne ha]
    exact e
/-- Drawing.left -/
theorem ok_m_left (T : TX K mg) : FnOk P w K mg base CX0 1 T.f_m_left T.fd_m_left ["self"] (sp_m_left T.C) := by
  refine T.F_m_left.ok sc_m_left (fun vs H Q E h => ?_) (fun cdv A outer s H vs Q E hr h => ?_)
  · obtain ⟨x, dx, d, b, r, o, rfl, hx, k⟩ := h
    rfl
  · obtain ⟨x, dx, d, b, r, o, rfl, hx, k⟩ := h
    -- slots: 0 self
    refine ⟨_, (pss_one (ps_ret (pe_op op_add (pe_fld (pv 0) rfl) (pe_fld (pv 0) rfl)))), ?_⟩
    exact ⟨_, rfl, x, T.C, dx, _, _, rfl, hx, T.cl, T.n_red, fl_red _ _ _ _, _, rfl, x, T.C, dx, _, _, rfl, hx, T.cl, T.n_other, fl_other _ _ _ _, _, _, rfl, rfl, k⟩
/-- Drawing.of_kind -/
theorem ok_m_of_kind (T : TX K mg) : FnOk P w K mg base CX0 1 T.f_m_of_kind T.fd_m_of_kind ["self", "c"] (sp_m_of_kind T.C) := by
  refine T.F_m_of_kind.ok sc_m_of_kind (fun vs H Q E h => ?_) (fun cdv A outer s H vs Q E hr h => ?_)
  · obtain ⟨x, dx, d, b, r, o, c, rfl, hx, k⟩ := h
    rfl
  · obtain ⟨x, dx, d, b, r, o, c, rfl, hx, k⟩ := h
    -- slots: 0 self, 1 c
    refine ⟨_, (pss_one (ps_ret (pe_ifExp (pt_cmpR op_eq (pv 1) pe_int (nomark _)) (pe_fld (pv 0) rfl) (pe_fld (pv 0) rfl)))), ?_⟩
    refine ⟨_, rfl, rfl, _, rfl, ?_⟩
    refine ite_eq (fun h => ?_) fun h => ?_
    · rw [if_pos (by omega)] at k
      exact ⟨_, rfl, x, T.C, dx, _, _, rfl, hx, T.cl, T.n_red, fl_red _ _ _ _, k⟩
    · rw [if_neg (by omega)] at k
      exact ⟨_, rfl, x, T.C, dx, _, _, rfl, hx, T.cl, T.n_other, fl_other _ _ _ _, k⟩
end
end Red


end
section
set_option Elab.async false
set_option linter.all false
set_option maxRecDepth 100000
set_option maxHeartbeats 2000000
namespace Red
open PySem PySem.Spec PyProof.Rows L2
open PySem.W (Codec)
section
variable {P : Program} {w : World} {K : PySem.W.Frag} {mg : Str → Option Value} {base : Heap}
/-- Drawing.begin -/
theorem ok_m_begin (T : TX K mg) : FnOk P w K mg base CX0 1 T.f_m_begin T.fd_m_begin ["self", "m", "r"] (sp_m_begin T.C) := by
  refine T.F_m_begin.ok sc_m_begin (fun vs H Q E h => ?_) (fun cdv A outer s H vs Q E hr h => ?_)
  · obtain ⟨x, d, b, r, o, was, m, r', rfl, D, k1, k2⟩ := h
    rfl
  · obtain ⟨x, d, b, r, o, was, m, r', rfl, D, k1, k2⟩ := h
    -- slots: 0 self, 1 m, 2 r
    refine ⟨_, (pss_cons (ps_if (PW.pt (pw_or (pt_cmpR op_lt (pv 1) pe_int (nomark _)) (pw_or (pt_cmpR op_gt (pv 1) (pe_gint (by rfl) T.c_MOST_THINGS) (nomark _)) (pw_or1 (pt_cmpR op_gt (pv 2) (pv 1) (nomark _)))))) (pss_one (ps_ret (pe_lst (pa_cons (pe_gint (by rfl) T.c_NOT_AS_TOLD) pa_nil)))) pss_nil)
      (pss_cons (ps_fld (pv 0) pe_bl rfl)
      (pss_cons (ps_fld (pv 0) (pv 2) rfl)
      (pss_cons (ps_fld (pv 0) (pe_op op_sub (pv 1) (pv 2)) rfl)
      (pss_cons (ps_fld (pv 0) (pe_lst pa_nil) rfl)
      (pss_one (ps_ret (pe_lst (pa_cons pe_int pa_nil))))))))), ?_⟩
    obtain ⟨dx, hx⟩ := D.ob
    have nxd := D.ne
    have bad : (m = 0 ∨ 24 < m ∨ m < r') → ∀ p, H p = none → Q (.ref p) (upd H p (.lst [.int (-22)])) := fun h => (k1 h).of rfl
    refine ⟨_, rfl, _, _, rfl, rfl, _, rfl, ?_⟩
    refine ite_d (fun h => iteT ⟨one_le, bad (by omega)⟩) fun h1 => ?_
    refine ⟨_, rfl, _, _, rfl, rfl, _, rfl, ?_⟩
    refine ite_d (fun h => iteT ⟨one_le, bad (by omega)⟩) fun h2 => ?_
    refine ⟨_, rfl, _, rfl, _, _, rfl, rfl, _, rfl, ?_⟩
    refine ite_d (fun h => ⟨one_le, bad (by omega)⟩) fun h3 => ?_
    have k := k2 (by omega)
    refine ⟨_, rfl, x, T.C, dx, _, rfl, hx, T.cl, T.n_begun, fl_len _ _ _ _, ?_⟩
    rw [put_begun]
    refine ⟨_, rfl, _, rfl, x, T.C, dx, _, rfl, upd_same, T.cl, T.n_red, fl_len _ _ _ _, ?_⟩
    rw [put_red, upd_upd]
    refine ⟨_, rfl, _, rfl, _, _, rfl, rfl, _, rfl, x, T.C, dx, _, rfl, upd_same, T.cl, T.n_other, fl_len _ _ _ _, ?_⟩
    rw [put_other, upd_upd]
    refine ⟨Nat.zero_le _, fun e he => ?_⟩
    have nxe : x ≠ e := ne_of_none upd_same he
    have he0 : H e = none := by rw [upd_ne nxe.symm] at he; exact he
    refine ⟨_, rfl, x, T.C, dx, _, rfl, (by rw [upd_ne nxe]; exact upd_same), T.cl, T.n_drawn, fl_len _ _ _ _, ?_⟩
    rw [put_drawn]
    refine ⟨one_le, fun p hp => ?_⟩
    have npx : x ≠ p := ne_of_none upd_same hp
    have npe : e ≠ p := ne_of_none (by rw [upd_ne nxe.symm, upd_same]) hp
    have hp0 : H p = none := by rw [upd_ne npx.symm, upd_ne npe.symm, upd_ne npx.symm] at hp; exact hp
    have em : ((m : Int) - (r' : Int)) = ((m - r' : Nat) : Int) := by omega
    refine k _ p e ⟨⟨dx, ?_⟩, ?_⟩ hp0 upd_same (.inr he0) fun a u ea ha hd => ?_
    · rw [upd_ne npx, upd_same, em]
    · rw [upd_ne npe, upd_ne nxe.symm, upd_same]; rfl
    · rw [upd_ne (ne_of_none ea hp0), upd_ne ha, upd_ne (ne_of_none ea he0), upd_ne ha]
      exact ea
/-- Drawing.draw -/
theorem ok_m_draw (T : TX K mg) : FnOk P w K mg base CX0 2 T.f_m_draw T.fd_m_draw ["self", "c"] (sp_m_draw T.C) := by
  refine T.F_m_draw.ok sc_m_draw (fun vs H Q E h => ?_) (fun cdv A outer s H vs Q E hr h => ?_)
  · obtain ⟨x, d, b, r, o, was, c, rfl, D, hw, k1, k2, k3, k4⟩ := h
    rfl
  · obtain ⟨x, d, b, r, o, was, c, rfl, D, hw, k1, k2, k3, k4⟩ := h
    -- slots: 0 self, 1 c
    refine ⟨_, (pss_cons (ps_if (pt_cmpR op_gt (pv 1) pe_int (nomark _)) (pss_one (ps_ret (pe_lst (pa_cons (pe_gint (by rfl) T.c_NOT_AS_TOLD) pa_nil)))) pss_nil)
      (pss_cons (ps_if (pt_cmpR op_eq (pe_meth0 (pv 0) T.cl T.M_m_left (ok_m_left T) hr T.b_m_left .nil pass0) pe_int (nomark _)) (pss_one (ps_ret (pe_lst (pa_cons (pe_gint (by rfl) T.c_TOO_FEW_LEFT) pa_nil)))) pss_nil)
      (pss_cons (ps_if (pt_cmpR op_eq (pe_meth (pv 0) T.cl T.M_m_of_kind (ok_m_of_kind T) hr T.b_m_of_kind .nil pass0 (pa_cons (pv 1) pa_nil)) pe_int (nomark _)) (pss_one (ps_ret (pe_lst (pa_cons (pe_gint (by rfl) T.c_NO_SUCH_LEFT) pa_nil)))) pss_nil)
      (pss_cons (ps_fld (pv 0) (pe_op op_sub (pe_fld (pv 0) rfl) (pv 1)) rfl)
      (pss_cons (ps_fld (pv 0) (pe_op op_sub (pe_fld (pv 0) rfl) (pe_op op_sub pe_int (pv 1))) rfl)
      (pss_cons (ps_expr (pe_bm PySem.F.plainAttrs_list PySem.F.slot_list_append PySem.F.type_list_append mt_append (pe_fld (pv 0) rfl) (pa_cons (pv 1) pa_nil)))
      (pss_one (ps_ret (pe_lst (pa_cons (pe_meth0 (pv 0) T.cl T.M_m_left (ok_m_left T) hr T.b_m_left .nil pass0) pa_nil)))))))))), ?_⟩
    obtain ⟨dx, hx⟩ := D.ob
    have nxd := D.ne
    refine ⟨_, rfl, _, _, rfl, rfl, _, rfl, ?_⟩
    refine ite_d (fun h => ⟨one_le, (k1 (by omega)).of rfl⟩) fun h1 => ?_
    have hc : c ≤ 1 := by omega
    refine ⟨_, rfl, x, dx, _, rfl, hx, fl_no _ _ _ _, x, dx, d, b, r, o, rfl, hx, rfl, _, rfl, ?_⟩
    refine ite_eq (fun h => ⟨one_le, (k2 hc (by omega)).of rfl⟩) fun h2 => ?_
    have h2' : ¬ r + o = 0 := by omega
    refine ⟨_, rfl, x, dx, _, rfl, hx, fl_no _ _ _ _, _, rfl, x, dx, d, b, r, o, c, rfl, hx, rfl, _, rfl, ?_⟩
    refine ite_eq (fun h => ⟨one_le, (k3 hc h2' (by split at h <;> omega)).of rfl⟩) fun h3 => ?_
    have h4 : ¬ ((c = 1 ∧ r = 0) ∨ (c = 0 ∧ o = 0)) := by split at h3 <;> omega
    have k := k4 hc h2' h4
    have er : ((r : Int) - (c : Int)) = ((r - c : Nat) : Int) := by omega
    have eo : ((o : Int) - (1 - (c : Int))) = ((o - (1 - c) : Nat) : Int) := by omega
    -- self.red = self.red - c
    refine ⟨_, rfl, x, T.C, dx, _, _, rfl, hx, T.cl, T.n_red, fl_red _ _ _ _, _, rfl, _, _, rfl, rfl, _, rfl, x, T.C, dx, _, rfl, hx, T.cl, T.n_red, fl_len _ _ _ _, ?_⟩
    rw [put_red, er]
    -- self.other = self.other - (1 - c)
    refine ⟨_, rfl, x, T.C, dx, _, _, rfl, upd_same, T.cl, T.n_other, fl_other _ _ _ _, _, rfl, _, _, rfl, rfl, _, _, rfl, rfl, _, rfl, x, T.C, dx, _, rfl, upd_same, T.cl, T.n_other, fl_len _ _ _ _, ?_⟩
    rw [put_other, eo, upd_upd]
    -- self.drawn.append(c)
    have hd : (upd H x (.ins T.C dx (flds b ((r - c : Nat) : Int) ((o - (1 - c) : Nat) : Int) d))) d = some (.lst (nats was)) := by rw [upd_ne nxd.symm]; exact D.ls
    refine ⟨_, rfl, x, T.C, dx, _, _, rfl, upd_same, T.cl, T.n_drawn, fl_drawn _ _ _ _, .inl ⟨rfl, _, SqL.of hd⟩, _, rfl, d, _, _, rfl, rfl, hd, (by rw [List.length_map]; exact small1000 (by omega)), ?_⟩
    -- return [self.left()]
    have hx2 : ∀ u, (upd (upd H x (.ins T.C dx (flds b ((r - c : Nat) : Int) ((o - (1 - c) : Nat) : Int) d))) d u) x = some (.ins T.C dx (flds b ((r - c : Nat) : Int) ((o - (1 - c) : Nat) : Int) d)) := fun u => by rw [upd_ne nxd, upd_same]
    refine ⟨_, rfl, x, dx, _, rfl, hx2 _, fl_no _ _ _ _, x, dx, d, b, r - c, o - (1 - c), rfl, hx2 _, one_le, fun p hp => ?_⟩
    have npx : x ≠ p := ne_of_none (hx2 _) hp
    have npd : d ≠ p := ne_of_none upd_same hp
    have hp0 : H p = none := by rw [upd_ne npd.symm, upd_ne npx.symm] at hp; exact hp
    have el : ((r - c) + (o - (1 - c)) : Nat) = r + o - 1 := by omega
    refine k _ p d ⟨⟨dx, ?_⟩, ?_⟩ hp0 ?_ (.inl rfl) fun a u ea ha hda => ?_
    · rw [upd_ne npx]; exact hx2 _
    · rw [upd_ne npd, upd_same]; simp [nats]
    · rw [upd_same, el]; rfl
    · rw [upd_ne (ne_of_none ea hp0), upd_ne hda, upd_ne ha]; exact ea
/-- Drawing.back -/
theorem ok_m_back (T : TX K mg) : FnOk P w K mg base CX0 1 T.f_m_back T.fd_m_back ["self"] (sp_m_back T.C) := by
  refine T.F_m_back.ok sc_m_back (fun vs H Q E h => ?_) (fun cdv A outer s H vs Q E hr h => ?_)
  · obtain ⟨x, d, b, r, o, was, rfl, D, hw, hle, k1, k2⟩ := h
    rfl
  · obtain ⟨x, d, b, r, o, was, rfl, D, hw, hle, k1, k2⟩ := h
    -- slots: 0 self, 1 c
    refine ⟨_, (pss_cons (ps_if (pt_cmpR op_eq (pe_callB call_len_seq (by rfl) T.no_len PySem.boot_len (pa_cons (pe_fld (pv 0) rfl) pa_nil)) pe_int (nomark _)) (pss_one (ps_ret (pe_lst (pa_cons (pe_gint (by rfl) T.c_NONE_DRAWN) pa_nil)))) pss_nil)
      (pss_cons (ps_set (i := 1) sc_m_back.nd rfl (by first | exact Or.inl rfl | exact Or.inr rfl) (pe_bm0 PySem.F.plainAttrs_list PySem.F.slot_list_pop PySem.F.type_list_pop mt_pop (pe_fld (pv 0) rfl)))
      (pss_cons (ps_fld (pv 0) (pe_op op_add (pe_fld (pv 0) rfl) (pv 1)) rfl)
      (pss_cons (ps_fld (pv 0) (pe_op op_add (pe_fld (pv 0) rfl) (pe_op op_sub pe_int (pv 1))) rfl)
      (pss_one (ps_ret (pe_lst (pa_cons (pv 1) pa_nil)))))))), ?_⟩
    obtain ⟨dx, hx⟩ := D.ob
    have nxd := D.ne
    refine ⟨_, rfl, x, T.C, dx, _, _, rfl, hx, T.cl, T.n_drawn, fl_drawn _ _ _ _, d, _, rfl, .inl (SqL.of D.ls), rfl, _, rfl, ?_⟩
    refine ite_eq (fun h => ?_) fun h => ?_
    · rw [List.length_map] at h
      have e : was = [] := List.eq_nil_of_length_eq_zero (by omega)
      exact ⟨one_le, (k1 e).of rfl⟩
    · rw [List.length_map] at h
      have hne : was ≠ [] := fun e => h (by rw [e]; rfl)
      obtain ⟨ws, c, e⟩ : ∃ ws c, was = ws ++ [c] := ⟨was.dropLast, was.getLast hne, (List.dropLast_concat_getLast hne).symm⟩
      have k := k2 ws c e
      have hc : c ≤ 1 := hle c (by rw [e]; simp)
      subst e
      refine ⟨_, rfl, x, T.C, dx, _, _, rfl, hx, T.cl, T.n_drawn, fl_drawn _ _ _ _, .inl ⟨rfl, _, SqL.of D.ls⟩, d, nats (ws ++ [c]), V.int c, rfl, rfl, D.ls, (by simp [nats]), ?_⟩
      have ed : (nats (ws ++ [c])).dropLast = nats ws := by simp [nats]
      rw [ed]
      have hx1 : (upd H d (.lst (nats ws))) x = some (.ins T.C dx (flds b r o d)) := by rw [upd_ne nxd]; exact hx
      refine ⟨_, rfl, x, T.C, dx, _, _, rfl, hx1, T.cl, T.n_red, fl_red _ _ _ _, _, rfl, _, _, rfl, rfl, _, rfl, x, T.C, dx, _, rfl, hx1, T.cl, T.n_red, fl_len _ _ _ _, ?_⟩
      rw [put_red]
      refine ⟨_, rfl, x, T.C, dx, _, _, rfl, upd_same, T.cl, T.n_other, fl_other _ _ _ _, _, rfl, _, _, rfl, rfl, _, _, rfl, rfl, _, rfl, x, T.C, dx, _, rfl, upd_same, T.cl, T.n_other, fl_len _ _ _ _, ?_⟩
      rw [put_other, upd_upd]
      refine ⟨_, rfl, one_le, fun p hp => ?_⟩
      have eo : ((o : Int) + (1 - (c : Int))) = ((o + (1 - c) : Nat) : Int) := by omega
      have er : ((r : Int) + (c : Int)) = ((r + c : Nat) : Int) := by omega
      rw [eo, er] at *
      have npx : x ≠ p := ne_of_none upd_same hp
      have npd : d ≠ p := ne_of_none (by rw [upd_ne nxd.symm, upd_same]) hp
      have hp0 : H p = none := by rw [upd_ne npx.symm, upd_ne npd.symm] at hp; exact hp
      refine k _ p d ⟨⟨dx, ?_⟩, ?_⟩ hp0 upd_same (.inl rfl) fun a u ea ha hda => ?_
      · rw [upd_ne npx, upd_same]
      · rw [upd_ne npd, upd_ne nxd.symm, upd_same]
      · rw [upd_ne (ne_of_none ea hp0), upd_ne ha, upd_ne hda]; exact ea
end
end Red


end
section
set_option Elab.async false
set_option linter.all false
set_option maxRecDepth 100000
set_option maxHeartbeats 2000000
namespace Red
open PySem PySem.Spec PyProof.Rows L2
open PySem.W (Codec)
theorem two_same (A : Nat) : (A : Int) * ((A : Int) - 1) = ((A * (A - 1) : Nat) : Int) := by
  cases A with
  | zero => rfl
  | succ A =>
    have e : ((A + 1 : Nat) : Int) - 1 = ((A + 1 - 1 : Nat) : Int) := by omega
    rw [e, Int.natCast_mul]
theorem mulokN {n : Nat} {j : Int} (h : n ≤ 24) : CMul (n : Int) j := mulok (by omega) (by omega)
theorem bnd {a b A B : Nat} (h1 : a ≤ A) (h2 : b ≤ B) : a * b ≤ A * B := Nat.mul_le_mul h1 h2
section
variable {P : Program} {w : World} {K : PySem.W.Frag} {mg : Str → Option Value} {base : Heap}
/-- Drawing.chance -/
theorem ok_m_chance (T : TX K mg) : FnOk P w K mg base CX0 3 T.f_m_chance T.fd_m_chance ["self"] (sp_m_chance T.C) := by
  refine T.F_m_chance.ok sc_m_chance (fun vs H Q E h => ?_) (fun cdv A outer s H vs Q E hr h => ?_)
  · obtain ⟨x, dx, d, b, r, o, rfl, hx, hm, k⟩ := h
    rfl
  · obtain ⟨x, dx, d, b, r, o, rfl, hx, hm, k⟩ := h
    -- slots: 0 self
    refine ⟨_, (pss_cons (ps_if (pt_cmpR op_eq (pe_meth0 (pv 0) T.cl T.M_m_left (ok_m_left T) (hr.mono (by decide)) T.b_m_left .nil pass0) pe_int (nomark _)) (pss_one (ps_ret (pe_lst (pa_cons (pe_gint (by rfl) T.c_TOO_FEW_LEFT) pa_nil)))) pss_nil)
      (pss_one (ps_ret (pe_call (ok_fraction T) hr (by rfl) T.g_fraction T.F_fraction.kp T.b_fraction .nil pass0 (pa_cons (pe_fld (pv 0) rfl) (pa_cons (pe_meth0 (pv 0) T.cl T.M_m_left (ok_m_left T) (hr.mono (by decide)) T.b_m_left .nil pass0) pa_nil)))))), ?_⟩
    refine ⟨_, rfl, x, dx, _, rfl, hx, fl_no _ _ _ _, x, dx, d, b, r, o, rfl, hx, rfl, _, rfl, ?_⟩
    refine ite_eq (fun h => ?_) fun h => ?_
    · rw [if_pos (by omega)] at k
      exact ⟨one_le, k.of rfl⟩
    · rw [if_neg (by omega)] at k
      exact ⟨_, rfl, x, T.C, dx, _, _, rfl, hx, T.cl, T.n_red, fl_red _ _ _ _, _, rfl, x, dx, _, rfl, hx, fl_no _ _ _ _, x, dx, d, b, r, o, rfl, hx, r, r + o, rfl, by omega, by omega, k⟩
/-- Drawing.just -/
theorem ok_m_just (T : TX K mg) : FnOk P w K mg base CX0 3 T.f_m_just T.fd_m_just ["self", "n", "k"] (sp_m_just T.C) := by
  refine T.F_m_just.ok sc_m_just (fun vs H Q E h => ?_) (fun cdv A outer s H vs Q E hr h => ?_)
  · obtain ⟨x, dx, d, b, r, o, n, j, rfl, hx, hm, hn, k⟩ := h
    rfl
  · obtain ⟨x, dx, d, b, r, o, n, j, rfl, hx, hm, hn, k⟩ := h
    -- slots: 0 self, 1 n, 2 k
    refine ⟨_, (pss_one (ps_ret (pe_call (ok_fraction T) hr (by rfl) T.g_fraction T.F_fraction.kp T.b_fraction .nil pass0 (pa_cons (pe_call (ok_sets_with T) hr (by rfl) T.g_sets_with T.F_sets_with.kp T.b_sets_with .nil pass0 (pa_cons (pe_fld (pv 0) rfl) (pa_cons (pe_fld (pv 0) rfl) (pa_cons (pv 1) (pa_cons (pv 2) pa_nil))))) (pa_cons (pe_call (ok_ways_to_choose T) (hr.mono (by decide)) (by rfl) T.g_ways_to_choose T.F_ways_to_choose.kp T.b_ways_to_choose .nil pass0 (pa_cons (pv 1) (pa_cons (pe_meth0 (pv 0) T.cl T.M_m_left (ok_m_left T) (hr.mono (by decide)) T.b_m_left .nil pass0) pa_nil))) pa_nil))))), ?_⟩
    have hp := choose_pos hm hn
    have hl := choose_le (n := r + o) n hm
    exact ⟨_, rfl, x, T.C, dx, _, _, rfl, hx, T.cl, T.n_red, fl_red _ _ _ _, _, rfl, x, T.C, dx, _, _, rfl, hx, T.cl, T.n_other, fl_other _ _ _ _, _, rfl, _, rfl, r, o, n, j, rfl, hm, _, rfl, _, rfl, x, dx, _, rfl, hx, fl_no _ _ _ _, x, dx, d, b, r, o, rfl, hx, n, r + o, rfl, hm, _, _, rfl, hp, by omega, k⟩
/-- Drawing.mean -/
theorem ok_m_mean (T : TX K mg) : FnOk P w K mg base CX0 3 T.f_m_mean T.fd_m_mean ["self", "n"] (sp_m_mean T.C) := by
  refine T.F_m_mean.ok sc_m_mean (fun vs H Q E h => ?_) (fun cdv A outer s H vs Q E hr h => ?_)
  · obtain ⟨x, dx, d, b, r, o, n, rfl, hx, hm, hn, k⟩ := h
    rfl
  · obtain ⟨x, dx, d, b, r, o, n, rfl, hx, hm, hn, k⟩ := h
    -- slots: 0 self, 1 n
    refine ⟨_, (pss_cons (ps_if (pt_cmpR op_eq (pe_meth0 (pv 0) T.cl T.M_m_left (ok_m_left T) (hr.mono (by decide)) T.b_m_left .nil pass0) pe_int (nomark _)) (pss_one (ps_ret (pe_lst (pa_cons (pe_gint (by rfl) T.c_TOO_FEW_LEFT) pa_nil)))) pss_nil)
      (pss_one (ps_ret (pe_call (ok_fraction T) hr (by rfl) T.g_fraction T.F_fraction.kp T.b_fraction .nil pass0 (pa_cons (pe_op op_mul (pv 1) (pe_fld (pv 0) rfl)) (pa_cons (pe_meth0 (pv 0) T.cl T.M_m_left (ok_m_left T) (hr.mono (by decide)) T.b_m_left .nil pass0) pa_nil)))))), ?_⟩
    refine ⟨_, rfl, x, dx, _, rfl, hx, fl_no _ _ _ _, x, dx, d, b, r, o, rfl, hx, rfl, _, rfl, ?_⟩
    refine ite_eq (fun h => ?_) fun h => ?_
    · rw [if_pos (by omega)] at k
      exact ⟨one_le, k.of rfl⟩
    · rw [if_neg (by omega)] at k
      exact ⟨_, rfl, _, rfl, x, T.C, dx, _, _, rfl, hx, T.cl, T.n_red, fl_red _ _ _ _, _, _, rfl, rfl, mulok (by omega) (by omega), _, rfl, x, dx, _, rfl, hx, fl_no _ _ _ _, x, dx, d, b, r, o, rfl, hx, n * r, r + o, by rw [Int.natCast_mul]; rfl, by omega, by omega, k⟩
/-- Drawing.spread -/
theorem ok_m_spread (T : TX K mg) : FnOk P w K mg base CX0 3 T.f_m_spread T.fd_m_spread ["self", "n"] (sp_m_spread T.C) := by
  refine T.F_m_spread.ok sc_m_spread (fun vs H Q E h => ?_) (fun cdv A outer s H vs Q E hr h => ?_)
  · obtain ⟨x, dx, d, b, r, o, n, rfl, hx, hm, hn, k⟩ := h
    rfl
  · obtain ⟨x, dx, d, b, r, o, n, rfl, hx, hm, hn, k⟩ := h
    -- slots: 0 self, 1 n, 2 left
    refine ⟨_, (pss_cons (ps_set (i := 2) sc_m_spread.nd rfl (by first | exact Or.inl rfl | exact Or.inr rfl) (pe_meth0 (pv 0) T.cl T.M_m_left (ok_m_left T) (hr.mono (by decide)) T.b_m_left .nil pass0))
      (pss_cons (ps_if (pt_cmpR op_lt (pv 2) pe_int (nomark _)) (pss_one (ps_ret (pe_lst (pa_cons (pe_gint (by rfl) T.c_TOO_FEW_LEFT) pa_nil)))) pss_nil)
      (pss_one (ps_ret (pe_call (ok_fraction T) hr (by rfl) T.g_fraction T.F_fraction.kp T.b_fraction .nil pass0 (pa_cons (pe_op op_mul (pe_op op_mul (pe_op op_mul (pv 1) (pe_fld (pv 0) rfl)) (pe_fld (pv 0) rfl)) (pe_op op_sub (pv 2) (pv 1))) (pa_cons (pe_op op_mul (pe_op op_mul (pv 2) (pv 2)) (pe_op op_sub (pv 2) pe_int)) pa_nil))))))), ?_⟩
    refine ⟨_, rfl, x, dx, _, rfl, hx, fl_no _ _ _ _, x, dx, d, b, r, o, rfl, hx, ?_⟩
    refine ⟨_, rfl, _, _, rfl, rfl, _, rfl, ?_⟩
    refine ite_d (fun h => ?_) fun h => ?_
    · rw [if_pos (by omega)] at k
      exact ⟨one_le, k.of rfl⟩
    · rw [if_neg (by omega)] at k
      have b1 : n * r ≤ 24 * 24 := bnd (by omega) (by omega)
      have b2 : n * r * o ≤ 24 * 24 * 24 := bnd b1 (by omega)
      have b3 : (r + o) * (r + o) ≤ 24 * 24 := bnd (by omega) (by omega)
      have b4 : (r + o) * (r + o) * (r + o - 1) ≤ 24 * 24 * 24 := bnd b3 (by omega)
      have b5 : 0 < (r + o) * (r + o) * (r + o - 1) := Nat.mul_pos (Nat.mul_pos (by omega) (by omega)) (by omega)
      have c1 : ((n : Int) * (r : Int)) = ((n * r : Nat) : Int) := (Int.natCast_mul _ _).symm
      have c2 : ((n * r : Nat) : Int) * (o : Int) = ((n * r * o : Nat) : Int) := (Int.natCast_mul _ _).symm
      have c3 : ((r + o : Nat) : Int) * ((r + o : Nat) : Int) = (((r + o) * (r + o) : Nat) : Int) := (Int.natCast_mul _ _).symm
      have c0 : ((r + o : Nat) : Int) - (n : Int) = ((r + o - n : Nat) : Int) := by omega
      have c4 : ((r + o : Nat) : Int) - 1 = ((r + o - 1 : Nat) : Int) := by omega
      have c5 : ((n * r * o : Nat) : Int) * ((r + o - n : Nat) : Int) = ((n * r * o * (r + o - n) : Nat) : Int) := (Int.natCast_mul _ _).symm
      have c6 : (((r + o) * (r + o) : Nat) : Int) * ((r + o - 1 : Nat) : Int) = (((r + o) * (r + o) * (r + o - 1) : Nat) : Int) := (Int.natCast_mul _ _).symm
      have m1 : CMul ((n : Int) * (r : Int)) (o : Int) := by rw [c1]; exact mulok (by omega) (by omega)
      have m2 : CMul ((n : Int) * (r : Int) * (o : Int)) (((r + o : Nat) : Int) - (n : Int)) := by rw [c1, c2]; exact mulok (by omega) (by omega)
      have m3 : CMul (((r + o : Nat) : Int) * ((r + o : Nat) : Int)) (((r + o : Nat) : Int) - 1) := by rw [c3]; exact mulok (by omega) (by omega)
      refine ⟨_, rfl, _, rfl, x, T.C, dx, _, _, rfl, hx, T.cl, T.n_red, fl_red _ _ _ _, _, _, rfl, rfl, mulok (by omega) (by omega), _, rfl, x, T.C, dx, _, _, rfl, hx, T.cl, T.n_other, fl_other _ _ _ _, _, _, rfl, rfl, m1, _, rfl, _, rfl, _, _, rfl, rfl, _, _, rfl, rfl, m2, ?_⟩
      refine ⟨_, rfl, _, rfl, _, _, rfl, rfl, mulok (by omega) (by omega), _, rfl, _, _, rfl, rfl, _, _, rfl, rfl, m3, n * r * o * (r + o - n), (r + o) * (r + o) * (r + o - 1), ?_, b5, by omega, k⟩
      show [V.int ((n : Int) * (r : Int) * (o : Int) * (((r + o : Nat) : Int) - (n : Int))), V.int (((r + o : Nat) : Int) * ((r + o : Nat) : Int) * (((r + o : Nat) : Int) - 1))] = _
      rw [c1, c2, c0, c5, c3, c4, c6]
/-- Drawing.spreadback -/
theorem ok_m_spreadback (T : TX K mg) : FnOk P w K mg base CX0 3 T.f_m_spreadback T.fd_m_spreadback ["self", "n"] (sp_m_spreadback T.C) := by
  refine T.F_m_spreadback.ok sc_m_spreadback (fun vs H Q E h => ?_) (fun cdv A outer s H vs Q E hr h => ?_)
  · obtain ⟨x, dx, d, b, r, o, n, rfl, hx, hm, hn, k⟩ := h
    rfl
  · obtain ⟨x, dx, d, b, r, o, n, rfl, hx, hm, hn, k⟩ := h
    -- slots: 0 self, 1 n, 2 left
    refine ⟨_, (pss_cons (ps_set (i := 2) sc_m_spreadback.nd rfl (by first | exact Or.inl rfl | exact Or.inr rfl) (pe_meth0 (pv 0) T.cl T.M_m_left (ok_m_left T) (hr.mono (by decide)) T.b_m_left .nil pass0))
      (pss_cons (ps_if (pt_cmpR op_eq (pv 2) pe_int (nomark _)) (pss_one (ps_ret (pe_lst (pa_cons (pe_gint (by rfl) T.c_TOO_FEW_LEFT) pa_nil)))) pss_nil)
      (pss_one (ps_ret (pe_call (ok_fraction T) hr (by rfl) T.g_fraction T.F_fraction.kp T.b_fraction .nil pass0 (pa_cons (pe_op op_mul (pe_op op_mul (pv 1) (pe_fld (pv 0) rfl)) (pe_fld (pv 0) rfl)) (pa_cons (pe_op op_mul (pv 2) (pv 2)) pa_nil))))))), ?_⟩
    refine ⟨_, rfl, x, dx, _, rfl, hx, fl_no _ _ _ _, x, dx, d, b, r, o, rfl, hx, ?_⟩
    refine ⟨_, rfl, rfl, _, rfl, ?_⟩
    refine ite_eq (fun h => ?_) fun h => ?_
    · rw [if_pos (by omega)] at k
      exact ⟨one_le, k.of rfl⟩
    · rw [if_neg (by omega)] at k
      have b1 : n * r ≤ 24 * 24 := bnd (by omega) (by omega)
      have b3 : (r + o) * (r + o) ≤ 24 * 24 := bnd (by omega) (by omega)
      have b5 : 0 < (r + o) * (r + o) := Nat.mul_pos (by omega) (by omega)
      have c1 : ((n : Int) * (r : Int)) = ((n * r : Nat) : Int) := (Int.natCast_mul _ _).symm
      have c2 : ((n * r : Nat) : Int) * (o : Int) = ((n * r * o : Nat) : Int) := (Int.natCast_mul _ _).symm
      have c3 : ((r + o : Nat) : Int) * ((r + o : Nat) : Int) = (((r + o) * (r + o) : Nat) : Int) := (Int.natCast_mul _ _).symm
      have m1 : CMul ((n : Int) * (r : Int)) (o : Int) := by rw [c1]; exact mulok (by omega) (by omega)
      refine ⟨_, rfl, _, rfl, x, T.C, dx, _, _, rfl, hx, T.cl, T.n_red, fl_red _ _ _ _, _, _, rfl, rfl, mulok (by omega) (by omega), _, rfl, x, T.C, dx, _, _, rfl, hx, T.cl, T.n_other, fl_other _ _ _ _, _, _, rfl, rfl, m1, ?_⟩
      refine ⟨_, rfl, _, rfl, _, _, rfl, rfl, mulok (by omega) (by omega), n * r * o, (r + o) * (r + o), ?_, b5, by omega, k⟩
      show [V.int ((n : Int) * (r : Int) * (o : Int)), V.int (((r + o : Nat) : Int) * ((r + o : Nat) : Int))] = _
      rw [c1, c2, c3]
/-- Drawing.two -/
theorem ok_m_two (T : TX K mg) : FnOk P w K mg base CX0 3 T.f_m_two T.fd_m_two ["self", "i", "j"] (sp_m_two T.C) := by
  refine T.F_m_two.ok sc_m_two (fun vs H Q E h => ?_) (fun cdv A outer s H vs Q E hr h => ?_)
  · obtain ⟨x, dx, d, b, r, o, i, j, rfl, hx, hm, k⟩ := h
    rfl
  · obtain ⟨x, dx, d, b, r, o, i, j, rfl, hx, hm, k⟩ := h
    -- slots: 0 self, 1 i, 2 j, 3 left, 4 after
    refine ⟨_, (pss_cons (ps_if (PW.pt (pw_or (pt_cmpR op_gt (pv 1) pe_int (nomark _)) (pw_or1 (pt_cmpR op_gt (pv 2) pe_int (nomark _))))) (pss_one (ps_ret (pe_lst (pa_cons (pe_gint (by rfl) T.c_NOT_AS_TOLD) pa_nil)))) pss_nil)
      (pss_cons (ps_set (i := 3) sc_m_two.nd rfl (by first | exact Or.inl rfl | exact Or.inr rfl) (pe_meth0 (pv 0) T.cl T.M_m_left (ok_m_left T) (hr.mono (by decide)) T.b_m_left .nil pass0))
      (pss_cons (ps_if (pt_cmpR op_lt (pv 3) pe_int (nomark _)) (pss_one (ps_ret (pe_lst (pa_cons (pe_gint (by rfl) T.c_TOO_FEW_LEFT) pa_nil)))) pss_nil)
      (pss_cons (ps_set (i := 4) sc_m_two.nd rfl (by first | exact Or.inl rfl | exact Or.inr rfl) (pe_meth (pv 0) T.cl T.M_m_of_kind (ok_m_of_kind T) (hr.mono (by decide)) T.b_m_of_kind .nil pass0 (pa_cons (pv 2) pa_nil)))
      (pss_cons (ps_if (pt_cmpR op_eq (pv 1) (pv 2) (nomark _)) (pss_one (ps_set (i := 4) sc_m_two.nd rfl (by first | exact Or.inl rfl | exact Or.inr rfl) (pe_op op_sub (pv 4) pe_int))) pss_nil)
      (pss_one (ps_ret (pe_call (ok_fraction T) hr (by rfl) T.g_fraction T.F_fraction.kp T.b_fraction .nil pass0 (pa_cons (pe_op op_mul (pe_meth (pv 0) T.cl T.M_m_of_kind (ok_m_of_kind T) (hr.mono (by decide)) T.b_m_of_kind .nil pass0 (pa_cons (pv 1) pa_nil)) (pv 4)) (pa_cons (pe_op op_mul (pv 3) (pe_op op_sub (pv 3) pe_int)) pa_nil)))))))))), ?_⟩
    have bad : 1 < i ∨ 1 < j → ∀ p, H p = none → Q (.ref p) (upd H p (.lst [.int (-22)])) := fun h => by
      have e : ansOf (.two i j) r o [] = _ := if_pos h
      rw [e] at k
      exact k.of rfl
    refine ⟨_, rfl, _, _, rfl, rfl, _, rfl, ?_⟩
    refine ite_d (fun h => iteT ⟨one_le, bad (by omega)⟩) fun h1 => ?_
    refine ⟨_, rfl, _, _, rfl, rfl, _, rfl, ?_⟩
    refine ite_d (fun h => ⟨one_le, bad (by omega)⟩) fun h2 => ?_
    have e : ansOf (.two i j) r o [] = _ := if_neg (by omega)
    rw [e] at k
    refine ⟨_, rfl, x, dx, _, rfl, hx, fl_no _ _ _ _, x, dx, d, b, r, o, rfl, hx, ?_⟩
    refine ⟨_, rfl, _, _, rfl, rfl, _, rfl, ?_⟩
    refine ite_d (fun h => ?_) fun h => ?_
    · rw [if_pos (by omega)] at k
      exact ⟨one_le, k.of rfl⟩
    rw [if_neg (by omega)] at k
    have b3 : (r + o) * (r + o - 1) ≤ 24 * 24 := bnd (by omega) (by omega)
    have b5 : 0 < (r + o) * (r + o - 1) := Nat.mul_pos (by omega) (by omega)
    have c4 : ((r + o : Nat) : Int) - 1 = ((r + o - 1 : Nat) : Int) := by omega
    have c6 : ((r + o : Nat) : Int) * ((r + o - 1 : Nat) : Int) = (((r + o) * (r + o - 1) : Nat) : Int) := (Int.natCast_mul _ _).symm
    have hA : (if i = 1 then r else o) ≤ 24 := by split <;> omega
    refine ⟨_, rfl, x, dx, _, rfl, hx, fl_no _ _ _ _, _, rfl, x, dx, d, b, r, o, j, rfl, hx, ?_⟩
    refine ⟨_, rfl, _, rfl, rfl, _, rfl, ?_⟩
    refine ite_eq (fun h => ?_) fun h => ?_
    · have e : i = j := by omega
      subst e
      rw [if_pos rfl] at k
      refine ⟨_, rfl, _, _, rfl, rfl, ?_⟩
      refine ⟨_, rfl, x, dx, _, rfl, hx, fl_no _ _ _ _, _, rfl, x, dx, d, b, r, o, i, rfl, hx, _, rfl, _, _, rfl, rfl, mulokN hA, ?_⟩
      refine ⟨_, rfl, _, rfl, _, _, rfl, rfl, _, _, rfl, rfl, mulok (by omega) (by omega), (if i = 1 then r else o) * ((if i = 1 then r else o) - 1), (r + o) * (r + o - 1), ?_, b5, by omega, k⟩
      show [V.int (((if i = 1 then r else o : Nat) : Int) * (((if i = 1 then r else o : Nat) : Int) - 1)), V.int (((r + o : Nat) : Int) * (((r + o : Nat) : Int) - 1))] = _
      rw [two_same, c4, c6]
    · rw [if_neg (show ¬ i = j by omega)] at k
      refine ⟨_, rfl, x, dx, _, rfl, hx, fl_no _ _ _ _, _, rfl, x, dx, d, b, r, o, i, rfl, hx, _, rfl, _, _, rfl, rfl, mulokN hA, ?_⟩
      refine ⟨_, rfl, _, rfl, _, _, rfl, rfl, _, _, rfl, rfl, mulok (by omega) (by omega), (if i = 1 then r else o) * (if j = 1 then r else o), (r + o) * (r + o - 1), ?_, b5, by omega, k⟩
      show [V.int (((if i = 1 then r else o : Nat) : Int) * ((if j = 1 then r else o : Nat) : Int)), V.int (((r + o : Nat) : Int) * (((r + o : Nat) : Int) - 1))] = _
      rw [← Int.natCast_mul, c4, c6]
/-- Drawing.swapped -/
theorem ok_m_swapped (T : TX K mg) : FnOk P w K mg base CX0 3 T.f_m_swapped T.fd_m_swapped ["self", "n", "k"] (sp_m_swapped T.C) := by
  refine T.F_m_swapped.ok sc_m_swapped (fun vs H Q E h => ?_) (fun cdv A outer s H vs Q E hr h => ?_)
  · obtain ⟨x, dx, d, b, r, o, n, j, rfl, hx, hm, hn, k⟩ := h
    rfl
  · obtain ⟨x, dx, d, b, r, o, n, j, rfl, hx, hm, hn, k⟩ := h
    -- slots: 0 self, 1 n, 2 k, 3 left
    refine ⟨_, (pss_cons (ps_set (i := 3) sc_m_swapped.nd rfl (by first | exact Or.inl rfl | exact Or.inr rfl) (pe_meth0 (pv 0) T.cl T.M_m_left (ok_m_left T) (hr.mono (by decide)) T.b_m_left .nil pass0))
      (pss_one (ps_ret (pe_call (ok_fraction T) hr (by rfl) T.g_fraction T.F_fraction.kp T.b_fraction .nil pass0 (pa_cons (pe_call (ok_sets_with T) hr (by rfl) T.g_sets_with T.F_sets_with.kp T.b_sets_with .nil pass0 (pa_cons (pv 1) (pa_cons (pe_op op_sub (pv 3) (pv 1)) (pa_cons (pe_fld (pv 0) rfl) (pa_cons (pv 2) pa_nil))))) (pa_cons (pe_call (ok_ways_to_choose T) (hr.mono (by decide)) (by rfl) T.g_ways_to_choose T.F_ways_to_choose.kp T.b_ways_to_choose .nil pass0 (pa_cons (pe_fld (pv 0) rfl) (pa_cons (pv 3) pa_nil))) pa_nil)))))), ?_⟩
    have hp := choose_pos (n := r + o) (k := r) hm (by omega)
    have hl := choose_le (n := r + o) r hm
    have e : ((r + o : Nat) : Int) - (n : Int) = ((r + o - n : Nat) : Int) := by omega
    have k' : RetQ H (fracL (Kp295.justUp (n + (r + o - n)) n r j) (Kp291.choose (r + o) r)) Q := by
      rw [show n + (r + o - n) = r + o by omega]
      exact k
    refine ⟨_, rfl, x, dx, _, rfl, hx, fl_no _ _ _ _, x, dx, d, b, r, o, rfl, hx, ?_⟩
    refine ⟨_, rfl, _, rfl, _, rfl, _, _, rfl, rfl, _, rfl, x, T.C, dx, _, _, rfl, hx, T.cl, T.n_red, fl_red _ _ _ _, _, rfl, n, r + o - n, r, j, (by show [V.int n, V.int (((r + o : Nat) : Int) - (n : Int)), V.int r, V.int j] = _; rw [e]), by omega, ?_⟩
    exact ⟨_, rfl, x, T.C, dx, _, _, rfl, hx, T.cl, T.n_red, fl_red _ _ _ _, _, rfl, r, r + o, rfl, hm, _, _, rfl, hp, by omega, k'⟩
/-- Drawing.certain -/
theorem ok_m_certain (T : TX K mg) : FnOk P w K mg base CX0 1 T.f_m_certain T.fd_m_certain ["self", "k"] (sp_m_certain T.C) := by
  refine T.F_m_certain.ok sc_m_certain (fun vs H Q E h => ?_) (fun cdv A outer s H vs Q E hr h => ?_)
  · obtain ⟨x, dx, d, b, r, o, j, rfl, hx, hm, k⟩ := h
    rfl
  · obtain ⟨x, dx, d, b, r, o, j, rfl, hx, hm, k⟩ := h
    -- slots: 0 self, 1 k
    refine ⟨_, (pss_cons (ps_if (pt_cmpR op_gt (pv 1) (pe_fld (pv 0) rfl) (nomark _)) (pss_one (ps_ret (pe_lst (pa_cons (pe_gint (by rfl) T.c_NO_SUCH_LEFT) pa_nil)))) pss_nil)
      (pss_cons (ps_if (pt_cmpR op_eq (pv 1) pe_int (nomark _)) (pss_one (ps_ret (pe_lst (pa_cons pe_int pa_nil)))) pss_nil)
      (pss_one (ps_ret (pe_lst (pa_cons (pe_op op_add (pe_fld (pv 0) rfl) (pv 1)) pa_nil)))))), ?_⟩
    refine ⟨_, rfl, _, rfl, x, T.C, dx, _, _, rfl, hx, T.cl, T.n_red, fl_red _ _ _ _, _, _, rfl, rfl, _, rfl, ?_⟩
    refine ite_d (fun h => ?_) fun h => ?_
    · have e : ansOf (.certain j) r o [] = _ := if_pos (show r < j by omega)
      rw [e] at k
      exact ⟨one_le, k.of rfl⟩
    have e : ansOf (.certain j) r o [] = _ := if_neg (show ¬ r < j by omega)
    rw [e] at k
    refine ⟨_, rfl, rfl, _, rfl, ?_⟩
    refine ite_eq (fun h => ?_) fun h => ?_
    · rw [if_pos (by omega)] at k
      exact ⟨one_le, k.of rfl⟩
    · rw [if_neg (by omega)] at k
      exact ⟨_, rfl, x, T.C, dx, _, _, rfl, hx, T.cl, T.n_other, fl_other _ _ _ _, _, rfl, _, _, rfl, rfl, one_le, k.of rfl⟩
/-- Drawing.comes -/
theorem ok_m_comes (T : TX K mg) : FnOk P w K mg base CX0 1 T.f_m_comes T.fd_m_comes ["self", "k"] (sp_m_comes T.C) := by
  refine T.F_m_comes.ok sc_m_comes (fun vs H Q E h => ?_) (fun cdv A outer s H vs Q E hr h => ?_)
  · obtain ⟨x, dx, d, b, r, o, j, rfl, hx, k⟩ := h
    rfl
  · obtain ⟨x, dx, d, b, r, o, j, rfl, hx, k⟩ := h
    -- slots: 0 self, 1 k
    refine ⟨_, (pss_one (ps_ret (pe_and (pe_cmpR op_ge (pv 1) pe_int (nomark _)) (pe_one (pe_cmpR op_le (pv 1) (pe_fld (pv 0) rfl) (nomark _)))))), ?_⟩
    refine ⟨_, rfl, _, _, rfl, rfl, _, rfl, ?_⟩
    refine ite_d (fun h => ?_) fun h => ?_
    · have e : decide (1 ≤ j ∧ j ≤ r) = decide ((j : Int) ≤ (r : Int)) := decide_eq_decide.mpr (by omega)
      rw [e] at k
      exact ⟨_, rfl, _, rfl, x, T.C, dx, _, _, rfl, hx, T.cl, T.n_red, fl_red _ _ _ _, _, _, rfl, rfl, k⟩
    · rw [decide_eq_false (by omega)] at k
      exact k
/-- Drawing.kthat -/
theorem ok_m_kthat (T : TX K mg) : FnOk P w K mg base CX0 3 T.f_m_kthat T.fd_m_kthat ["self", "k", "n"] (sp_m_kthat T.C) := by
  refine T.F_m_kthat.ok sc_m_kthat (fun vs H Q E h => ?_) (fun cdv A outer s H vs Q E hr h => ?_)
  · obtain ⟨x, dx, d, b, r, o, j, n, rfl, hx, hm, k⟩ := h
    rfl
  · obtain ⟨x, dx, d, b, r, o, j, n, rfl, hx, hm, k⟩ := h
    -- slots: 0 self, 1 k, 2 n, 3 left, 4 ways
    refine ⟨_, (pss_cons (ps_if (pt_not (pt_val (pe_meth (pv 0) T.cl T.M_m_comes (ok_m_comes T) (hr.mono (by decide)) T.b_m_comes .nil pass0 (pa_cons (pv 1) pa_nil)))) (pss_one (ps_ret (pe_lst (pa_cons (pe_gint (by rfl) T.c_NO_SUCH_LEFT) pa_nil)))) pss_nil)
      (pss_cons (ps_set (i := 3) sc_m_kthat.nd rfl (by first | exact Or.inl rfl | exact Or.inr rfl) (pe_meth0 (pv 0) T.cl T.M_m_left (ok_m_left T) (hr.mono (by decide)) T.b_m_left .nil pass0))
      (pss_cons (ps_if (PW.pt (pw_or (pt_cmpR op_eq (pv 2) pe_int (nomark _)) (pw_or1 (pt_cmpR op_gt (pv 2) (pv 3) (nomark _))))) (pss_one (ps_ret (pe_lst (pa_cons (pe_gint (by rfl) T.c_NOT_AS_TOLD) pa_nil)))) pss_nil)
      (pss_cons (ps_set (i := 4) sc_m_kthat.nd rfl (by first | exact Or.inl rfl | exact Or.inr rfl) (pe_op op_mul (pe_call (ok_ways_to_choose T) (hr.mono (by decide)) (by rfl) T.g_ways_to_choose T.F_ways_to_choose.kp T.b_ways_to_choose .nil pass0 (pa_cons (pe_op op_sub (pv 1) pe_int) (pa_cons (pe_op op_sub (pv 2) pe_int) pa_nil))) (pe_call (ok_ways_to_choose T) (hr.mono (by decide)) (by rfl) T.g_ways_to_choose T.F_ways_to_choose.kp T.b_ways_to_choose .nil pass0 (pa_cons (pe_op op_sub (pe_fld (pv 0) rfl) (pv 1)) (pa_cons (pe_op op_sub (pv 3) (pv 2)) pa_nil)))))
      (pss_one (ps_ret (pe_call (ok_fraction T) hr (by rfl) T.g_fraction T.F_fraction.kp T.b_fraction .nil pass0 (pa_cons (pv 4) (pa_cons (pe_call (ok_ways_to_choose T) (hr.mono (by decide)) (by rfl) T.g_ways_to_choose T.F_ways_to_choose.kp T.b_ways_to_choose .nil pass0 (pa_cons (pe_fld (pv 0) rfl) (pa_cons (pv 3) pa_nil))) pa_nil))))))))), ?_⟩
    refine ⟨_, rfl, x, dx, _, rfl, hx, fl_no _ _ _ _, _, rfl, x, dx, d, b, r, o, j, rfl, hx, _, rfl, ?_⟩
    refine ite_n (fun h => ?_) fun hj => ?_
    · have e : ansOf (.kthAt j n) r o [] = _ := if_pos (show j = 0 ∨ r < j by omega)
      rw [e] at k
      exact ⟨one_le, k.of rfl⟩
    have e : ansOf (.kthAt j n) r o [] = _ := if_neg (show ¬ (j = 0 ∨ r < j) by omega)
    rw [e] at k
    refine ⟨_, rfl, x, dx, _, rfl, hx, fl_no _ _ _ _, x, dx, d, b, r, o, rfl, hx, ?_⟩
    have bad : n = 0 ∨ r + o < n → ∀ p, H p = none → Q (.ref p) (upd H p (.lst [.int (-22)])) := fun h => by
      rw [if_pos h] at k
      exact k.of rfl
    refine ⟨_, rfl, rfl, _, rfl, ?_⟩
    refine ite_eq (fun h => iteT ⟨one_le, bad (by omega)⟩) fun h1 => ?_
    refine ⟨_, rfl, _, rfl, _, _, rfl, rfl, _, rfl, ?_⟩
    refine ite_d (fun h => ⟨one_le, bad (by omega)⟩) fun h2 => ?_
    rw [if_neg (show ¬ (n = 0 ∨ r + o < n) by omega)] at k
    have ew : (if j = 0 ∨ n < j then 0 else Kp291.choose (n - 1) (j - 1) * Kp291.choose (r + o - n) (r - j)) = Kp291.choose (n - 1) (j - 1) * Kp291.choose (r + o - n) (r - j) := by
      by_cases h : n < j
      · rw [if_pos (.inr h), choose_big (n - 1) (j - 1) (by omega), Nat.zero_mul]
      · rw [if_neg (by omega)]
    rw [ew] at k
    have hp := choose_pos (n := r + o) (k := r) hm (by omega)
    have hl := choose_le (n := r + o) r hm
    have hl2 := choose_le (n := n - 1) (j - 1) (by omega)
    have c1 : (j : Int) - 1 = ((j - 1 : Nat) : Int) := by omega
    have c2 : (n : Int) - 1 = ((n - 1 : Nat) : Int) := by omega
    have c3 : (r : Int) - (j : Int) = ((r - j : Nat) : Int) := by omega
    have c4 : ((r + o : Nat) : Int) - (n : Int) = ((r + o - n : Nat) : Int) := by omega
    refine ⟨_, rfl, _, _, rfl, rfl, _, rfl, _, _, rfl, rfl, j - 1, n - 1, (by show [V.int ((j : Int) - 1), V.int ((n : Int) - 1)] = _; rw [c1, c2]), by omega, ?_⟩
    refine ⟨_, rfl, x, T.C, dx, _, _, rfl, hx, T.cl, T.n_red, fl_red _ _ _ _, _, rfl, _, _, rfl, rfl, _, rfl, _, rfl, _, _, rfl, rfl, r - j, r + o - n, (by show [V.int ((r : Int) - (j : Int)), V.int (((r + o : Nat) : Int) - (n : Int))] = _; rw [c3, c4]), by omega, ?_⟩
    refine ⟨_, _, rfl, rfl, mulok (by omega) (by omega), ?_⟩
    exact ⟨_, rfl, _, rfl, x, T.C, dx, _, _, rfl, hx, T.cl, T.n_red, fl_red _ _ _ _, _, rfl, r, r + o, rfl, hm, Kp291.choose (n - 1) (j - 1) * Kp291.choose (r + o - n) (r - j), _, rfl, hp, by omega, k⟩
/-- Drawing.kthmean -/
theorem ok_m_kthmean (T : TX K mg) : FnOk P w K mg base CX0 3 T.f_m_kthmean T.fd_m_kthmean ["self", "k"] (sp_m_kthmean T.C) := by
  refine T.F_m_kthmean.ok sc_m_kthmean (fun vs H Q E h => ?_) (fun cdv A outer s H vs Q E hr h => ?_)
  · obtain ⟨x, dx, d, b, r, o, j, rfl, hx, hm, k⟩ := h
    rfl
  · obtain ⟨x, dx, d, b, r, o, j, rfl, hx, hm, k⟩ := h
    -- slots: 0 self, 1 k
    refine ⟨_, (pss_cons (ps_if (pt_not (pt_val (pe_meth (pv 0) T.cl T.M_m_comes (ok_m_comes T) (hr.mono (by decide)) T.b_m_comes .nil pass0 (pa_cons (pv 1) pa_nil)))) (pss_one (ps_ret (pe_lst (pa_cons (pe_gint (by rfl) T.c_NO_SUCH_LEFT) pa_nil)))) pss_nil)
      (pss_one (ps_ret (pe_call (ok_fraction T) hr (by rfl) T.g_fraction T.F_fraction.kp T.b_fraction .nil pass0 (pa_cons (pe_op op_mul (pv 1) (pe_op op_add (pe_meth0 (pv 0) T.cl T.M_m_left (ok_m_left T) (hr.mono (by decide)) T.b_m_left .nil pass0) pe_int)) (pa_cons (pe_op op_add (pe_fld (pv 0) rfl) pe_int) pa_nil)))))), ?_⟩
    refine ⟨_, rfl, x, dx, _, rfl, hx, fl_no _ _ _ _, _, rfl, x, dx, d, b, r, o, j, rfl, hx, _, rfl, ?_⟩
    refine ite_n (fun h => ?_) fun hj => ?_
    · have e : ansOf (.kthMean j) r o [] = _ := if_pos (show j = 0 ∨ r < j by omega)
      rw [e] at k
      exact ⟨one_le, k.of rfl⟩
    have e : ansOf (.kthMean j) r o [] = _ := if_neg (show ¬ (j = 0 ∨ r < j) by omega)
    rw [e] at k
    refine ⟨_, rfl, _, rfl, x, dx, _, rfl, hx, fl_no _ _ _ _, x, dx, d, b, r, o, rfl, hx, _, _, rfl, rfl, _, _, rfl, rfl, mulok (by omega) (by omega), _, rfl, x, T.C, dx, _, _, rfl, hx, T.cl, T.n_red, fl_red _ _ _ _, _, _, rfl, rfl, j * (r + o + 1), r + 1, ?_, by omega, by omega, k⟩
    show [V.int ((j : Int) * (((r + o : Nat) : Int) + 1)), V.int ((r : Int) + 1)] = _
    rw [Int.natCast_mul]
    rfl
/-- Drawing.told -/
theorem ok_m_told (T : TX K mg) : FnOk P w K mg base CX0 2 T.f_m_told T.fd_m_told ["self"] (sp_m_told T.C) := by
  refine T.F_m_told.ok sc_m_told (fun vs H Q E h => ?_) (fun cdv A outer s H vs Q E hr h => ?_)
  · obtain ⟨x, d, b, r, o, was, rfl, D, k⟩ := h
    rfl
  · obtain ⟨x, d, b, r, o, was, rfl, D, k⟩ := h
    -- slots: 0 self, 1 drawn, 2 drawn_red
    refine ⟨_, (pss_cons (ps_set (i := 1) sc_m_told.nd rfl (by first | exact Or.inl rfl | exact Or.inr rfl) (pe_callB call_len_seq (by rfl) T.no_len PySem.boot_len (pa_cons (pe_fld (pv 0) rfl) pa_nil)))
      (pss_cons (ps_set (i := 2) sc_m_told.nd rfl (by first | exact Or.inl rfl | exact Or.inr rfl) (pe_callB (cr_sum rfl) (by rfl) T.no_sum PyProof.Rows.boot_sum (pa_cons (pe_fld (pv 0) rfl) pa_nil)))
      (pss_one (ps_ret (pe_lst (pa_cons (pe_op op_add (pe_meth0 (pv 0) T.cl T.M_m_left (ok_m_left T) hr T.b_m_left .nil pass0) (pv 1)) (pa_cons (pe_op op_add (pe_fld (pv 0) rfl) (pv 2)) (pa_cons (pv 1) (pa_cons (pv 2) pa_nil))))))))), ?_⟩
    obtain ⟨dx, hx⟩ := D.ob
    have en : nats was = (was.map fun c => ((c : Nat) : Int)).map V.int := by rw [List.map_map]; rfl
    refine ⟨_, rfl, x, T.C, dx, _, _, rfl, hx, T.cl, T.n_drawn, fl_drawn _ _ _ _, d, _, rfl, .inl (SqL.of D.ls), ?_⟩
    refine ⟨_, rfl, x, T.C, dx, _, _, rfl, hx, T.cl, T.n_drawn, fl_drawn _ _ _ _, d, was.map (fun c => ((c : Nat) : Int)), rfl, SqL.of (D.ls.trans (congrArg (fun l => some (HO.lst l)) en)), ?_⟩
    refine ⟨_, rfl, x, dx, _, rfl, hx, fl_no _ _ _ _, x, dx, d, b, r, o, rfl, hx, _, rfl, _, _, rfl, rfl, _, rfl, x, T.C, dx, _, _, rfl, hx, T.cl, T.n_red, fl_red _ _ _ _, _, rfl, _, _, rfl, rfl, _, rfl, _, rfl, (by show 4 ≤ sizeLine; decide), k.of ?_⟩
    rw [isum_nats]
    show [V.int (((r + o : Nat) : Int) + ((nats was).length : Nat)), V.int ((r : Int) + ((was.sum : Nat) : Int)), V.int ((nats was).length : Nat), V.int ((was.sum : Nat) : Int)] = _
    rw [List.length_map]
    rfl
end
end Red


end
section
set_option Elab.async false
set_option linter.all false
set_option maxRecDepth 100000
set_option maxHeartbeats 2000000
namespace Red
open PySem PySem.Spec PyProof.Rows L2
open PySem.W (Codec)
theorem tyes_i {σ : L2.St} {H : Hp} {Q : Bool → Hp → Prop} (h : Q true H) : tYes σ H Q := h
/-- a comprehension over a range, by what holds between two turns -/
theorem lc_range {lo : Int} {n : Nat} {g : TG} {tt : TT} {te : TE} {vs : List Nat} {σ : L2.St} {H1 : Hp} {D : Addr} {Q : VK} (Pv : Nat → Hp → Prop) (h0 : Pv 0 (upd H1 D (.lst [])))
    (hs : ∀ i H, i < n → Pv i H → g (.int (lo + i)) (wipe σ vs) H fun σ2 H2 => wipe σ2 vs = wipe σ vs ∧ tt σ2 H2 fun b H3 => if b = true then te σ2 H3 fun y H4 => ∃ acc, H4 D = some (.lst acc) ∧ acc.length < sizeLine ∧ Pv (i + 1) (upd H4 D (.lst (acc ++ [y]))) else Pv (i + 1) H3)
    (hd : ∀ H, Pv n H → Q (.ref D) H) :
    ∃ W : Nat → Nat → Hp → Prop, (∃ m, W 0 m (upd H1 D (.lst []))) ∧ ∀ i m H, W i m H →
      ((Itr lo n).stop i H ∧ Q (.ref D) H) ∨ ((Itr lo n).go i H ∧ ∃ Nx : Hp → Prop, (∀ H', Nx H' → ∃ m', m' < m ∧ W (i + 1) m' H') ∧ ∀ x H', (Itr lo n).yld i H x H' → g x (wipe σ vs) H' fun σ2 H2 => wipe σ2 vs = wipe σ vs ∧ tt σ2 H2 fun b H3 =>
        if b = true then te σ2 H3 fun y H4 => ∃ acc, H4 D = some (.lst acc) ∧ acc.length < sizeLine ∧ Nx (upd H4 D (.lst (acc ++ [y]))) else Nx H3) := by
  refine ⟨fun i m H => m = n - i ∧ i ≤ n ∧ Pv i H, ⟨n, by simp, Nat.zero_le _, h0⟩, ?_⟩
  rintro i m H ⟨rfl, hi, p⟩
  by_cases hlt : i < n
  · refine .inr ⟨hlt, Pv (i + 1), fun H' p' => ⟨n - (i + 1), by omega, rfl, hlt, p'⟩, fun x H' y => ?_⟩
    obtain ⟨e, y⟩ := y
    subst e y
    exact hs i _ hlt p
  · have e : i = n := by omega
    subst e
    exact .inl ⟨Nat.le_refl _, hd H p⟩
theorem cut_from (ns : List Int) (k : Nat) : cutV (ns.map V.int) (some (k : Int)) none = (ns.drop k).map V.int := by
  unfold cutV
  have e : HT.sIx (ns.map V.int).length (ns.map V.int).length none = (ns.map V.int).length := rfl
  rw [e, HT.sIx_nat, List.length_map]
  by_cases h : k ≤ ns.length
  · rw [Nat.min_eq_left h, List.take_of_length_le (by rw [List.length_drop, List.length_map]; omega), List.map_drop]
  · rw [Nat.min_eq_right (by omega), List.drop_eq_nil_of_le (by rw [List.length_map]; omega), List.drop_eq_nil_of_le (by omega), Nat.sub_self]
    rfl
section
variable {P : Program} {w : World} {K : PySem.W.Frag} {mg : Str → Option Value} {base : Heap}
/-- Drawing.sets_of -/
theorem ok_m_sets_of (T : TX K mg) : FnOk P w K mg base CX0 3 T.f_m_sets_of T.fd_m_sets_of ["self", "n"] (sp_m_sets_of T.C) := by
  refine T.F_m_sets_of.ok sc_m_sets_of (fun vs H Q E h => ?_) (fun cdv A outer s H vs Q E hr h => ?_)
  · obtain ⟨x, dx, d, b, r, o, n, rfl, hx, hm, hn, k⟩ := h
    rfl
  · obtain ⟨x, dx, d, b, r, o, n, rfl, hx, hm, hn, k⟩ := h
    -- slots: 0 self, 1 n, 2 k
    refine ⟨_, (pss_one (ps_ret (pe_lc (own := [("k", 2)]) rfl sc_m_sets_of.nd (pi_range1 (by rfl) T.no_range (pa_cons (pe_op op_add (pv 1) pe_int) pa_nil)) (blkOk_by (by show blkC ["self", "n", "k"] (defScope s_m_sets_of) _ [("k", 2)] = true; decide +kernel)) (fun _ _ _ _ _ => pg_name (i := 2) sc_m_sets_of.nd rfl (Or.inl rfl)) (fun _ _ _ _ _ => pts_nil) (fun _ _ _ _ _ => (pe_call (ok_sets_with T) hr (by rfl) T.g_sets_with T.F_sets_with.kp T.b_sets_with .nil pass0 (pa_cons (pe_fldK (K := K) (pv 0) rfl) (pa_cons (pe_fldK (K := K) (pv 0) rfl) (pa_cons (pv 1) (pa_cons (pv 2) pa_nil))))))))), ?_⟩
    refine ⟨_, rfl, _, _, rfl, rfl, _, rfl, by omega, by omega, ?_⟩
    have en : ((n : Int) + 1).toNat = n + 1 := by omega
    rw [en]
    intro D hD
    have s2 : Same H (upd H D (.lst [])) := Same.upd hD
    refine lc_range (Q := Q) (fun i H' => Same H H' ∧ H' D = some (.lst ((List.range i).map fun k => V.int ((Kp295.justUp (r + o) r n k : Nat) : Int)))) ⟨s2, upd_same⟩ ?_ ?_
    · rintro i H' hi ⟨s3, hD'⟩
      have ez : ((0 : Int) + (i : Int)) = ((i : Nat) : Int) := by omega
      rw [ez]
      have hx' : H' x = some (.ins T.C dx (flds b r o d)) := s3 _ _ hx
      refine ⟨rfl, ?_⟩
      refine tyes_i ?_
      refine iteT ?_
      refine ⟨_, rfl, x, T.C, dx, _, _, rfl, hx', T.cl, T.n_red, fl_red _ _ _ _, _, rfl, x, T.C, dx, _, _, rfl, hx', T.cl, T.n_other, fl_other _ _ _ _, _, rfl, _, rfl, r, o, n, i, rfl, hm, _, hD', (by rw [List.length_map, List.length_range]; exact small1000 (by omega)), fun a u ea => ?_, ?_⟩
      · rw [upd_ne (ne_of_none ea hD)]
        exact s3 _ _ ea
      · rw [upd_same, List.range_succ, List.map_append]
        rfl
    · rintro H' ⟨s3, hD'⟩
      refine k H' D s3 hD ?_
      rw [hD', List.map_map]
      rfl
/-- Drawing.all_of -/
theorem ok_m_all_of (T : TX K mg) : FnOk P w K mg base CX0 4 T.f_m_all_of T.fd_m_all_of ["self", "n"] (sp_m_all_of T.C) := by
  refine T.F_m_all_of.ok sc_m_all_of (fun vs H Q E h => ?_) (fun cdv A outer s H vs Q E hr h => ?_)
  · obtain ⟨x, dx, d, b, r, o, n, rfl, hx, hm, hn, k⟩ := h
    rfl
  · obtain ⟨x, dx, d, b, r, o, n, rfl, hx, hm, hn, k⟩ := h
    -- slots: 0 self, 1 n
    refine ⟨_, (pss_one (ps_ret (pe_op op_cat (pe_lst (pa_cons (pe_op op_add (pv 1) pe_int) pa_nil)) (pe_meth (pv 0) T.cl T.M_m_sets_of (ok_m_sets_of T) hr T.b_m_sets_of .nil pass0 (pa_cons (pv 1) pa_nil))))), ?_⟩
    refine ⟨_, rfl, _, _, rfl, rfl, one_le, fun p hp => ?_⟩
    have s1 : Same H (upd H p (.lst [.int ((n : Int) + 1)])) := Same.upd hp
    have hx1 := s1 _ _ hx
    refine ⟨_, rfl, x, dx, _, rfl, hx1, fl_no _ _ _ _, _, rfl, x, dx, d, b, r, o, n, rfl, hx1, hm, by omega, fun H' q s hq hq' => ?_⟩
    refine ⟨p, q, _, _, rfl, rfl, s _ _ upd_same, hq', (by rw [List.length_map, List.length_map, List.length_range]; exact Nat.le_of_lt (small1000 (by show 1 + (n + 1) ≤ 1000; omega))), fun z hz => ?_⟩
    have s4 : Same H H' := s1.trans s
    refine k _ z (s4.trans (Same.upd hz)) (s4.free hz) ?_
    rw [upd_same]
    rfl
/-- Drawing.likeliest -/
theorem ok_m_likeliest (T : TX K mg) : FnOk P w K mg base CX0 4 T.f_m_likeliest T.fd_m_likeliest ["self", "n"] (sp_m_likeliest T.C) := by
  refine T.F_m_likeliest.ok sc_m_likeliest (fun vs H Q E h => ?_) (fun cdv A outer s H vs Q E hr h => ?_)
  · obtain ⟨x, dx, d, b, r, o, n, rfl, hx, hm, hn, k⟩ := h
    rfl
  · obtain ⟨x, dx, d, b, r, o, n, rfl, hx, hm, hn, k⟩ := h
    -- slots: 0 self, 1 n
    refine ⟨_, (pss_one (ps_ret (pe_lst (pa_cons (pe_call (ok_first_greatest T) (hr.mono (by decide)) (by rfl) T.g_first_greatest T.F_first_greatest.kp T.b_first_greatest .nil pass0 (pa_cons (pe_meth (pv 0) T.cl T.M_m_sets_of (ok_m_sets_of T) hr T.b_m_sets_of .nil pass0 (pa_cons (pv 1) pa_nil)) pa_nil)) pa_nil)))), ?_⟩
    refine ⟨_, rfl, x, dx, _, rfl, hx, fl_no _ _ _ _, _, rfl, x, dx, d, b, r, o, n, rfl, hx, hm, by omega, fun H' q s hq hq' => ?_⟩
    exact ⟨q, Kp295.justUp (r + o) r n, n, rfl, (by rw [hq', List.map_map]; rfl), one_le, (k.same s).of rfl⟩
/-- Drawing.sets_with_at_least -/
theorem ok_m_sets_with_at_least (T : TX K mg) : FnOk P w K mg base CX0 4 T.f_m_sets_with_at_least T.fd_m_sets_with_at_least ["self", "n", "k"] (sp_m_sets_with_at_least T.C) := by
  refine T.F_m_sets_with_at_least.ok sc_m_sets_with_at_least (fun vs H Q E h => ?_) (fun cdv A outer s H vs Q E hr h => ?_)
  · obtain ⟨x, dx, d, b, r, o, n, j, rfl, hx, hm, hn, k⟩ := h
    rfl
  · obtain ⟨x, dx, d, b, r, o, n, j, rfl, hx, hm, hn, k⟩ := h
    -- slots: 0 self, 1 n, 2 k
    refine ⟨_, (pss_one (ps_ret (pe_callB (cr_sum rfl) (by rfl) T.no_sum PyProof.Rows.boot_sum (pa_cons (pe_slice sl_list (pe_meth (pv 0) T.cl T.M_m_sets_of (ok_m_sets_of T) hr T.b_m_sets_of .nil pass0 (pa_cons (pv 1) pa_nil)) (po_some (pv 2)) po_none) pa_nil)))), ?_⟩
    refine ⟨_, rfl, x, dx, _, rfl, hx, fl_no _ _ _ _, _, rfl, x, dx, d, b, r, o, n, rfl, hx, hm, hn, fun H' q s hq hq' => ?_⟩
    refine ⟨_, rfl, _, rfl, q, _, rfl, SqL.of hq', fun p hp => ?_⟩
    refine ⟨p, _, rfl, SqL.of (Eq.trans upd_same (congrArg (fun l => some (HO.lst l)) (cut_from _ j))), ?_⟩
    have e := atLeast_is (Kp295.justUp (r + o) r n) j (n + 1)
    rw [e]
    exact k _ (s.trans (Same.upd hp))
/-- Drawing.atleast -/
theorem ok_m_atleast (T : TX K mg) : FnOk P w K mg base CX0 5 T.f_m_atleast T.fd_m_atleast ["self", "n", "k"] (sp_m_atleast T.C) := by
  refine T.F_m_atleast.ok sc_m_atleast (fun vs H Q E h => ?_) (fun cdv A outer s H vs Q E hr h => ?_)
  · obtain ⟨x, dx, d, b, r, o, n, j, rfl, hx, hm, hn, k⟩ := h
    rfl
  · obtain ⟨x, dx, d, b, r, o, n, j, rfl, hx, hm, hn, k⟩ := h
    -- slots: 0 self, 1 n, 2 k
    refine ⟨_, (pss_one (ps_ret (pe_call (ok_fraction T) (hr.mono (by decide)) (by rfl) T.g_fraction T.F_fraction.kp T.b_fraction .nil pass0 (pa_cons (pe_meth (pv 0) T.cl T.M_m_sets_with_at_least (ok_m_sets_with_at_least T) hr T.b_m_sets_with_at_least .nil pass0 (pa_cons (pv 1) (pa_cons (pv 2) pa_nil))) (pa_cons (pe_call (ok_ways_to_choose T) (hr.mono (by decide)) (by rfl) T.g_ways_to_choose T.F_ways_to_choose.kp T.b_ways_to_choose .nil pass0 (pa_cons (pv 1) (pa_cons (pe_meth0 (pv 0) T.cl T.M_m_left (ok_m_left T) (hr.mono (by decide)) T.b_m_left .nil pass0) pa_nil))) pa_nil))))), ?_⟩
    have hp := choose_pos hm hn
    have hl := choose_le (n := r + o) n hm
    refine ⟨_, rfl, x, dx, _, rfl, hx, fl_no _ _ _ _, _, rfl, _, rfl, x, dx, d, b, r, o, n, j, rfl, hx, hm, by omega, fun H' s => ?_⟩
    have hx' := s _ _ hx
    exact ⟨_, rfl, _, rfl, x, dx, _, rfl, hx', fl_no _ _ _ _, x, dx, d, b, r, o, rfl, hx', n, r + o, rfl, hm, _, _, rfl, hp, by omega, k.same s⟩
/-- Drawing.needed -/
theorem ok_m_needed (T : TX K mg) : FnOk P w K mg base CX0 5 T.f_m_needed T.fd_m_needed ["self", "k", "a", "c"] (sp_m_needed T.C) := by
  refine T.F_m_needed.ok sc_m_needed (fun vs H Q E h => ?_) (fun cdv A outer s H vs Q E hr h => ?_)
  · obtain ⟨x, dx, d, b, r, o, j, a, c, rfl, hx, hm, k⟩ := h
    rfl
  · obtain ⟨x, dx, d, b, r, o, j, a, c, rfl, hx, hm, k⟩ := h
    -- slots: 0 self, 1 k, 2 a, 3 c, 4 left, 5 n
    refine ⟨_, (pss_cons (ps_if (PW.pt (pw_or (pt_cmpR op_lt (pv 3) pe_int (nomark _)) (pw_or (pt_cmpR op_gt (pv 3) (pe_gint (by rfl) T.c_MOST_BELOW) (nomark _)) (pw_or1 (pt_cmpR op_gt (pv 2) (pv 3) (nomark _)))))) (pss_one (ps_ret (pe_lst (pa_cons (pe_gint (by rfl) T.c_NOT_AS_TOLD) pa_nil)))) pss_nil)
      (pss_cons (ps_set (i := 4) sc_m_needed.nd rfl (by first | exact Or.inl rfl | exact Or.inr rfl) (pe_meth0 (pv 0) T.cl T.M_m_left (ok_m_left T) (hr.mono (by decide)) T.b_m_left .nil pass0))
      (pss_cons (ps_for PassesOwn.never rfl (pi_range1 (by rfl) T.no_range (pa_cons (pe_op op_add (pv 4) pe_int) pa_nil)) (pg_name (i := 5) sc_m_needed.nd rfl (by first | exact Or.inl rfl | exact Or.inr rfl)) (pss_one (ps_if (pt_cmpR op_ge (pe_op op_mul (pe_meth (pv 0) T.cl T.M_m_sets_with_at_least (ok_m_sets_with_at_least T) hr T.b_m_sets_with_at_least .nil pass0 (pa_cons (pv 5) (pa_cons (pv 1) pa_nil))) (pv 3)) (pe_op op_mul (pv 2) (pe_call (ok_ways_to_choose T) (hr.mono (by decide)) (by rfl) T.g_ways_to_choose T.F_ways_to_choose.kp T.b_ways_to_choose .nil pass0 (pa_cons (pv 5) (pa_cons (pv 4) pa_nil)))) (nomark _)) (pss_one (ps_ret (pe_lst (pa_cons (pv 5) pa_nil)))) pss_nil)))
      (pss_one (ps_ret (pe_lst (pa_cons (pe_gint (by rfl) T.c_NO_SUCH_LEFT) pa_nil))))))), ?_⟩
    have bad : (c = 0 ∨ 1000 < c ∨ c < a) → ∀ p, H p = none → Q (.ref p) (upd H p (.lst [.int (-22)])) := fun h => by
      have e : ansOf (.needed j a c) r o [] = _ := if_pos h
      rw [e] at k
      exact k.of rfl
    refine ⟨_, rfl, _, _, rfl, rfl, _, rfl, ?_⟩
    refine ite_d (fun h => iteT ⟨one_le, bad (by omega)⟩) fun h1 => ?_
    refine ⟨_, rfl, _, _, rfl, rfl, _, rfl, ?_⟩
    refine ite_d (fun h => iteT ⟨one_le, bad (by omega)⟩) fun h2 => ?_
    refine ⟨_, rfl, _, rfl, _, _, rfl, rfl, _, rfl, ?_⟩
    refine ite_d (fun h => ⟨one_le, bad (by omega)⟩) fun h3 => ?_
    have e : ansOf (.needed j a c) r o [] = _ := if_neg (show ¬ (c = 0 ∨ 1000 < c ∨ c < a) by omega)
    rw [e] at k
    refine ⟨_, rfl, x, dx, _, rfl, hx, fl_no _ _ _ _, x, dx, d, b, r, o, rfl, hx, ?_⟩
    refine ⟨_, rfl, _, _, rfl, rfl, _, rfl, by omega, by omega, ?_⟩
    have en : (((r + o : Nat) : Int) + 1).toNat = r + o + 1 := by omega
    rw [en]
    refine for_range (fun i σ H' => Same H H' ∧ ∃ z, σ = [some (.ref x), some (.int j), some (.int a), some (.int c), some (.int ((r + o : Nat) : Int)), z] ∧ ∀ l, l < i → ¬ a * Kp291.choose (r + o) l ≤ c * Kp295.atLeastUp (r + o) r l j)
      ⟨Same.refl H, none, rfl, fun l hl => absurd hl (Nat.not_lt_zero _)⟩ ?_ ?_
    · rintro i σ H' hi ⟨s, z, rfl, no⟩
      have ez : ((0 : Int) + (i : Int)) = ((i : Nat) : Int) := by omega
      rw [ez]
      have hx' := s _ _ hx
      refine ⟨_, rfl, x, dx, _, rfl, hx', fl_no _ _ _ _, _, rfl, _, rfl, x, dx, d, b, r, o, i, j, rfl, hx', hm, by omega, fun H2 s2 => ?_⟩
      refine ⟨_, rfl, _, _, rfl, rfl, .inr ⟨by omega, by omega⟩, _, rfl, _, rfl, _, rfl, i, r + o, rfl, hm, _, _, rfl, rfl, mulok (by omega) (by omega), _, _, rfl, rfl, _, rfl, ?_⟩
      refine ite_d (fun h => ?_) fun h => ?_
      · have h' : a * Kp291.choose (r + o) i ≤ Kp295.atLeastUp (r + o) r i j * c := Int.ofNat_le.mp h
        rw [Nat.mul_comm _ c] at h'
        rw [needed_yes hi h' no] at k
        exact ⟨_, rfl, one_le, (k.same (s.trans s2)).of rfl⟩
      · refine ⟨s.trans s2, some (.int i), rfl, fun l hl => ?_⟩
        by_cases el : l = i
        · subst el
          intro h'
          rw [Nat.mul_comm c _] at h'
          exact h (Int.ofNat_le.mpr h')
        · exact no l (by omega)
    · rintro σ H' ⟨s, z, rfl, no⟩
      rw [needed_no no] at k
      exact ⟨one_le, (k.same s).of rfl⟩
/-- Drawing.guess -/
theorem ok_m_guess (T : TX K mg) : FnOk P w K mg base CX0 3 T.f_m_guess T.fd_m_guess ["self", "n", "k"] (sp_m_guess T.C) := by
  refine T.F_m_guess.ok sc_m_guess (fun vs H Q E h => ?_) (fun cdv A outer s H vs Q E hr h => ?_)
  · obtain ⟨x, dx, d, b, r, o, n, j, rfl, hx, hm, hn, k⟩ := h
    rfl
  · obtain ⟨x, dx, d, b, r, o, n, j, rfl, hx, hm, hn, k⟩ := h
    -- slots: 0 self, 1 n, 2 k, 3 left, 4 red
    refine ⟨_, (pss_cons (ps_if (pt_cmpR op_gt (pv 2) (pv 1) (nomark _)) (pss_one (ps_ret (pe_lst (pa_cons (pe_gint (by rfl) T.c_NOT_AS_TOLD) pa_nil)))) pss_nil)
      (pss_cons (ps_set (i := 3) sc_m_guess.nd rfl (by first | exact Or.inl rfl | exact Or.inr rfl) (pe_meth0 (pv 0) T.cl T.M_m_left (ok_m_left T) (hr.mono (by decide)) T.b_m_left .nil pass0))
      (pss_one (ps_ret (pe_lst (pa_cons (pe_call (ok_first_greatest T) (hr.mono (by decide)) (by rfl) T.g_first_greatest T.F_first_greatest.kp T.b_first_greatest .nil pass0 (pa_cons (pe_lc (own := [("red", 4)]) rfl sc_m_guess.nd (pi_range1 (by rfl) T.no_range (pa_cons (pe_op op_add (pv 3) pe_int) pa_nil)) (blkOk_by (by show blkC ["self", "n", "k", "left", "red"] (defScope s_m_guess) _ [("red", 4)] = true; decide +kernel)) (fun _ _ _ _ _ => pg_name (i := 4) sc_m_guess.nd rfl (Or.inl rfl)) (fun _ _ _ _ _ => pts_nil) (fun _ _ _ _ _ => (pe_call (ok_sets_with T) hr (by rfl) T.g_sets_with T.F_sets_with.kp T.b_sets_with .nil pass0 (pa_cons (pv 4) (pa_cons (pe_op op_sub (pv 3) (pv 4)) (pa_cons (pv 1) (pa_cons (pv 2) pa_nil))))))) pa_nil)) pa_nil)))))), ?_⟩
    refine ⟨_, rfl, _, rfl, _, _, rfl, rfl, _, rfl, ?_⟩
    refine ite_d (fun h => ?_) fun h => ?_
    · rw [if_pos (by omega)] at k
      exact ⟨one_le, k.of rfl⟩
    rw [if_neg (by omega)] at k
    refine ⟨_, rfl, x, dx, _, rfl, hx, fl_no _ _ _ _, x, dx, d, b, r, o, rfl, hx, ?_⟩
    refine ⟨_, rfl, _, _, rfl, rfl, _, rfl, by omega, by omega, ?_⟩
    have en : (((r + o : Nat) : Int) + 1).toNat = r + o + 1 := by omega
    rw [en]
    intro D hD
    have s2 : Same H (upd H D (.lst [])) := Same.upd hD
    refine lc_range (Q := fun y H2 => sp_first_greatest T.C [y] H2 (fun v H3 => 1 ≤ sizeLine ∧ ∀ p, H3 p = none → Q (.ref p) (upd H3 p (.lst [v]))) E) (fun i H' => Same H H' ∧ H' D = some (.lst ((List.range i).map fun l => V.int ((Kp295.justUp (r + o) l n j : Nat) : Int)))) ⟨s2, upd_same⟩ ?_ ?_
    · rintro i H' hi ⟨s3, hD'⟩
      have ez : ((0 : Int) + (i : Int)) = ((i : Nat) : Int) := by omega
      rw [ez]
      have e1 : ((r + o : Nat) : Int) - (i : Int) = ((r + o - i : Nat) : Int) := by omega
      have e2 : i + (r + o - i) = r + o := by omega
      refine ⟨rfl, ?_⟩
      refine tyes_i ?_
      refine iteT ?_
      refine ⟨_, rfl, _, rfl, _, rfl, _, _, rfl, rfl, _, rfl, _, rfl, i, r + o - i, n, j, (by show [V.int i, V.int (((r + o : Nat) : Int) - (i : Int)), V.int n, V.int j] = _; rw [e1]), by omega, _, hD', (by rw [List.length_map, List.length_range]; exact small1000 (by omega)), fun a u ea => ?_, ?_⟩
      · rw [upd_ne (ne_of_none ea hD)]
        exact s3 _ _ ea
      · rw [upd_same, List.range_succ, List.map_append, e2]
        rfl
    · rintro H' ⟨s3, hD'⟩
      exact ⟨D, fun l => Kp295.justUp (r + o) l n j, r + o, rfl, hD', one_le, (k.same s3).of rfl⟩
end
end Red


end
section
set_option Elab.async false
set_option linter.all false
set_option maxRecDepth 100000
set_option maxHeartbeats 2000000
namespace Red
open PySem PySem.Spec PyProof.Rows L2
open PySem.W (Codec)
theorem if_no {i j : Int} {A B : Prop} (h : ¬ i = j) (k : B) : if decide (V.int i = V.int j) = true then A else B := ite_eq (fun e => absurd e h) fun _ => k
theorem if_yes {i j : Int} {A B : Prop} (h : i = j) (k : A) : if decide (V.int i = V.int j) = true then A else B := ite_eq (fun _ => k) fun e => absurd h e
/-- a Drawing in a state of the specification -/
def ObjAt (C : Addr) (H : Hp) (x d : Addr) (s : Kp295.State) : Prop := ∃ (b : Bool) (r o : Nat) (was : List Nat), DrAt C H x d b r o was ∧ StRel s b r o was
/-- a call's end, by the specification's step -/
def RetS (C : Addr) (H : Hp) (x d : Addr) (s : Kp295.State) (ans : List Int) (Q : VK) : Prop :=
  ∀ (H' : Hp) (p d' : Addr), ObjAt C H' x d' s → H p = none → H' p = some (.lst (ans.map V.int)) → (d' = d ∨ H d' = none) → (∀ a u, H a = some u → a ≠ x → a ≠ d → H' a = some u) → Q (.ref p) H'
theorem RetS.q {C : Addr} {H : Hp} {x d : Addr} {s : Kp295.State} {ans : List Int} {Q : VK} (k : RetS C H x d s ans Q) (O : ObjAt C H x d s) : RetQ H ans Q := by
  obtain ⟨b, r, o, was, D, S⟩ := O
  exact fun H' p e hp h => k H' p d ⟨b, r, o, was, D.same e, S⟩ hp h (.inl rfl) fun a u ea _ _ => e a u ea
theorem RetS.m {C : Addr} {H : Hp} {x d : Addr} {s : Kp295.State} {ans : List Int} {Q : VK} {b : Bool} {r o : Nat} {was : List Nat} (k : RetS C H x d s ans Q) (S : StRel s b r o was) : RetM C H x d b r o was ans Q :=
  fun H' p d' D hp h hd kp => k H' p d' ⟨b, r, o, was, D, S⟩ hp h hd kp
def sp_answer_for_n_and_k (C : Addr) : Sp := fun vs H Q _ => ∃ (x dx d : Addr) (b : Bool) (r o : Nat) (was : List Nat) (p : Int) (n k : Nat) (c : Kp295.Call), vs = [.ref x, .int p, .int n, .int k] ∧ H x = some (.ins C dx (flds b r o d)) ∧ r + o ≤ 24 ∧ n ≤ r + o ∧
  ((p = 4 ∧ c = .just n k) ∨ (p = 10 ∧ c = .atLeast n k) ∨ (p = 15 ∧ c = .swapped n k) ∨ (p = 16 ∧ c = .guess n k)) ∧ RetQ H (ansOf c r o was) Q
def sp_answer_for_n (C : Addr) : Sp := fun vs H Q _ => ∃ (x dx d ar : Addr) (b : Bool) (r o : Nat) (was : List Nat) (p : Int) (args : List Int) (c : Kp295.Call), vs = [.ref x, .int p, .ref ar] ∧ H x = some (.ins C dx (flds b r o d)) ∧ r + o ≤ 24 ∧
  H ar = some (.lst (args.map V.int)) ∧ Kp295Neutral.callOf [p :: args] = some c ∧ (∀ z ∈ args, 0 ≤ z) ∧ ((4 ≤ p ∧ p ≤ 10) ∨ p = 15 ∨ p = 16) ∧ RetQ H (ansOf c r o was) Q
def sp_answer_for_k (C : Addr) : Sp := fun vs H Q _ => ∃ (x dx d ar : Addr) (b : Bool) (r o : Nat) (was : List Nat) (p : Int) (args : List Int) (c : Kp295.Call), vs = [.ref x, .int p, .ref ar] ∧ H x = some (.ins C dx (flds b r o d)) ∧ r + o ≤ 24 ∧
  H ar = some (.lst (args.map V.int)) ∧ Kp295Neutral.callOf [p :: args] = some c ∧ (∀ z ∈ args, 0 ≤ z) ∧ (p = 11 ∨ p = 12 ∨ p = 13 ∨ p = 17) ∧ RetQ H (ansOf c r o was) Q
theorem ans_guess {r o n k : Nat} {was : List Nat} (h : n ≤ r + o) : ansOf (.guess n k) r o was = if n < k then [-22] else [((Kp295.guess (r + o) n k : Nat) : Int)] := by
  by_cases e : n < k
  · rw [if_pos e]
    exact if_pos (.inr e)
  · rw [if_neg e]
    exact if_neg (by omega)
section
variable {P : Program} {w : World} {K : PySem.W.Frag} {mg : Str → Option Value} {base : Heap}
/-- answer_for_n_and_k -/
theorem ok_answer_for_n_and_k (T : TX K mg) : FnOk P w K mg base CX0 6 T.f_answer_for_n_and_k T.fd_answer_for_n_and_k ["drawing", "number", "n", "k"] (sp_answer_for_n_and_k T.C) := by
  refine T.F_answer_for_n_and_k.ok sc_answer_for_n_and_k (fun vs H Q E h => ?_) (fun cdv A outer s H vs Q E hr h => ?_)
  · obtain ⟨x, dx, d, b, r, o, was, p, n, j, c, rfl, hx, hm, hn, hc, k⟩ := h
    rfl
  · obtain ⟨x, dx, d, b, r, o, was, p, n, j, c, rfl, hx, hm, hn, hc, k⟩ := h
    -- slots: 0 drawing, 1 number, 2 n, 3 k
    refine ⟨_, (pss_cons (ps_if (pt_cmpR op_eq (pv 1) (pe_gint (by rfl) T.c_JUST) (nomark _)) (pss_one (ps_ret (pe_meth (pv 0) T.cl T.M_m_just (ok_m_just T) (hr.mono (by decide)) T.b_m_just .nil pass0 (pa_cons (pv 2) (pa_cons (pv 3) pa_nil))))) pss_nil)
      (pss_cons (ps_if (pt_cmpR op_eq (pv 1) (pe_gint (by rfl) T.c_ATLEAST) (nomark _)) (pss_one (ps_ret (pe_meth (pv 0) T.cl T.M_m_atleast (ok_m_atleast T) hr T.b_m_atleast .nil pass0 (pa_cons (pv 2) (pa_cons (pv 3) pa_nil))))) pss_nil)
      (pss_cons (ps_if (pt_cmpR op_eq (pv 1) (pe_gint (by rfl) T.c_SWAPPED) (nomark _)) (pss_one (ps_ret (pe_meth (pv 0) T.cl T.M_m_swapped (ok_m_swapped T) (hr.mono (by decide)) T.b_m_swapped .nil pass0 (pa_cons (pv 2) (pa_cons (pv 3) pa_nil))))) pss_nil)
      (pss_one (ps_ret (pe_meth (pv 0) T.cl T.M_m_guess (ok_m_guess T) (hr.mono (by decide)) T.b_m_guess .nil pass0 (pa_cons (pv 2) (pa_cons (pv 3) pa_nil)))))))), ?_⟩
    rcases hc with ⟨rfl, rfl⟩ | ⟨rfl, rfl⟩ | ⟨rfl, rfl⟩ | ⟨rfl, rfl⟩
    · have e2 : ansOf (.just n j) r o was = _ := if_neg (show ¬ r + o < n by omega)
      rw [e2] at k
      refine ⟨_, rfl, rfl, _, rfl, if_yes rfl ?_⟩
      exact ⟨_, rfl, x, dx, _, rfl, hx, fl_no _ _ _ _, _, rfl, _, rfl, x, dx, d, b, r, o, n, j, rfl, hx, hm, hn, k⟩
    · have e2 : ansOf (.atLeast n j) r o was = _ := if_neg (show ¬ r + o < n by omega)
      rw [e2] at k
      refine ⟨_, rfl, rfl, _, rfl, if_no (by decide) ?_⟩
      refine ⟨_, rfl, rfl, _, rfl, if_yes rfl ?_⟩
      exact ⟨_, rfl, x, dx, _, rfl, hx, fl_no _ _ _ _, _, rfl, _, rfl, x, dx, d, b, r, o, n, j, rfl, hx, hm, hn, k⟩
    · have e2 : ansOf (.swapped n j) r o was = _ := if_neg (show ¬ r + o < n by omega)
      rw [e2] at k
      refine ⟨_, rfl, rfl, _, rfl, if_no (by decide) ?_⟩
      refine ⟨_, rfl, rfl, _, rfl, if_no (by decide) ?_⟩
      refine ⟨_, rfl, rfl, _, rfl, if_yes rfl ?_⟩
      exact ⟨_, rfl, x, dx, _, rfl, hx, fl_no _ _ _ _, _, rfl, _, rfl, x, dx, d, b, r, o, n, j, rfl, hx, hm, hn, k⟩
    · rw [ans_guess hn] at k
      refine ⟨_, rfl, rfl, _, rfl, if_no (by decide) ?_⟩
      refine ⟨_, rfl, rfl, _, rfl, if_no (by decide) ?_⟩
      refine ⟨_, rfl, rfl, _, rfl, if_no (by decide) ?_⟩
      exact ⟨_, rfl, x, dx, _, rfl, hx, fl_no _ _ _ _, _, rfl, _, rfl, x, dx, d, b, r, o, n, j, rfl, hx, hm, hn, k⟩
/-- answer_for_n -/
theorem ok_answer_for_n (T : TX K mg) : FnOk P w K mg base CX0 7 T.f_answer_for_n T.fd_answer_for_n ["drawing", "number", "arguments"] (sp_answer_for_n T.C) := by
  refine T.F_answer_for_n.ok sc_answer_for_n (fun vs H Q E h => ?_) (fun cdv A outer s H vs Q E hr h => ?_)
  · obtain ⟨x, dx, d, ar, b, r, o, was, p, args, c, rfl, hx, hm, har, hc, hz, hp, k⟩ := h
    rfl
  · obtain ⟨x, dx, d, ar, b, r, o, was, p, args, c, rfl, hx, hm, har, hc, hz, hp, k⟩ := h
    -- slots: 0 drawing, 1 number, 2 arguments, 3 n
    refine ⟨_, (pss_cons (ps_set (i := 3) sc_answer_for_n.nd rfl (by first | exact Or.inl rfl | exact Or.inr rfl) (pe_ix ix_list (pv 2) pe_int (fun _ _ => rfl)))
      (pss_cons (ps_if (pt_cmpR op_gt (pv 3) (pe_meth0 (pv 0) T.cl T.M_m_left (ok_m_left T) (hr.mono (by decide)) T.b_m_left .nil pass0) (nomark _)) (pss_one (ps_ret (pe_lst (pa_cons (pe_gint (by rfl) T.c_NOT_AS_TOLD) pa_nil)))) pss_nil)
      (pss_cons (ps_if (pt_cmpR op_eq (pv 1) (pe_gint (by rfl) T.c_ALL_OF) (nomark _)) (pss_one (ps_ret (pe_meth (pv 0) T.cl T.M_m_all_of (ok_m_all_of T) (hr.mono (by decide)) T.b_m_all_of .nil pass0 (pa_cons (pv 3) pa_nil)))) pss_nil)
      (pss_cons (ps_if (pt_cmpR op_eq (pv 1) (pe_gint (by rfl) T.c_LIKELIEST) (nomark _)) (pss_one (ps_ret (pe_meth (pv 0) T.cl T.M_m_likeliest (ok_m_likeliest T) (hr.mono (by decide)) T.b_m_likeliest .nil pass0 (pa_cons (pv 3) pa_nil)))) pss_nil)
      (pss_cons (ps_if (pt_cmpR op_eq (pv 1) (pe_gint (by rfl) T.c_MEAN) (nomark _)) (pss_one (ps_ret (pe_meth (pv 0) T.cl T.M_m_mean (ok_m_mean T) (hr.mono (by decide)) T.b_m_mean .nil pass0 (pa_cons (pv 3) pa_nil)))) pss_nil)
      (pss_cons (ps_if (pt_cmpR op_eq (pv 1) (pe_gint (by rfl) T.c_SPREAD) (nomark _)) (pss_one (ps_ret (pe_meth (pv 0) T.cl T.M_m_spread (ok_m_spread T) (hr.mono (by decide)) T.b_m_spread .nil pass0 (pa_cons (pv 3) pa_nil)))) pss_nil)
      (pss_cons (ps_if (pt_cmpR op_eq (pv 1) (pe_gint (by rfl) T.c_SPREADBACK) (nomark _)) (pss_one (ps_ret (pe_meth (pv 0) T.cl T.M_m_spreadback (ok_m_spreadback T) (hr.mono (by decide)) T.b_m_spreadback .nil pass0 (pa_cons (pv 3) pa_nil)))) pss_nil)
      (pss_one (ps_ret (pe_call (ok_answer_for_n_and_k T) hr (by rfl) T.g_answer_for_n_and_k T.F_answer_for_n_and_k.kp T.b_answer_for_n_and_k .nil pass0 (pa_cons (pv 0) (pa_cons (pv 1) (pa_cons (pv 3) (pa_cons (pe_ix ix_list (pv 2) pe_int (fun _ _ => rfl)) pa_nil)))))))))))))), ?_⟩
    have hfirst : ∃ (n : Nat) (tl : List Int), args = (n : Int) :: tl ∧ (r + o < n → ansOf c r o was = [-22]) := by
      rcases callOf_inv hz hc with h | h | h | h | h | h | h | h | h | h | h | h | h | h | h | h | h | h | h <;> first
        | (have := h.1; omega)
        | (obtain ⟨rfl, n, k, rfl, rfl⟩ := h; exact ⟨n, _, rfl, fun h => if_pos h⟩)
        | (obtain ⟨rfl, n, k, rfl, rfl⟩ := h; exact ⟨n, _, rfl, fun h => if_pos (Or.inl h)⟩)
        | (obtain ⟨rfl, n, rfl, rfl⟩ := h; exact ⟨n, _, rfl, fun h => if_pos h⟩)
    obtain ⟨n, tl, rfl, h22⟩ := hfirst
    refine ⟨_, rfl, ar, _, _, _, rfl, rfl, SqL.of har, at_of (j := 0) (v := V.int n) rfl rfl, ?_⟩
    refine ⟨_, rfl, _, rfl, x, dx, _, rfl, hx, fl_no _ _ _ _, x, dx, d, b, r, o, rfl, hx, _, _, rfl, rfl, _, rfl, ?_⟩
    refine ite_d (fun h => ?_) fun h => ?_
    · rw [h22 (by omega)] at k
      exact ⟨one_le, k.of rfl⟩
    have hn : n ≤ r + o := by omega
    rcases callOf_inv hz hc with h | h | h | h | h | h | h | h | h | h | h | h | h | h | h | h | h | h | h <;> try (have := h.1; omega)
    · obtain ⟨rfl, n', j, e, rfl⟩ := h
      obtain ⟨e1, rfl⟩ := List.cons.inj e
      have e1 := Int.ofNat.inj e1
      subst e1
      refine ⟨_, rfl, rfl, _, rfl, if_no (by decide) ?_⟩
      refine ⟨_, rfl, rfl, _, rfl, if_no (by decide) ?_⟩
      refine ⟨_, rfl, rfl, _, rfl, if_no (by decide) ?_⟩
      refine ⟨_, rfl, rfl, _, rfl, if_no (by decide) ?_⟩
      refine ⟨_, rfl, rfl, _, rfl, if_no (by decide) ?_⟩
      exact ⟨_, rfl, _, rfl, _, rfl, _, rfl, ar, _, _, _, rfl, rfl, SqL.of har, at_of (j := 1) (v := V.int j) rfl rfl, x, dx, d, b, r, o, was, 4, n, j, _, rfl, hx, hm, hn, .inl ⟨rfl, rfl⟩, k⟩
    · obtain ⟨rfl, n', e, rfl⟩ := h
      obtain ⟨e1, rfl⟩ := List.cons.inj e
      have e1 := Int.ofNat.inj e1
      subst e1
      have e2 : ansOf (.all n) r o was = _ := if_neg (show ¬ r + o < n by omega)
      rw [e2] at k
      refine ⟨_, rfl, rfl, _, rfl, if_yes rfl ?_⟩
      exact ⟨_, rfl, x, dx, _, rfl, hx, fl_no _ _ _ _, _, rfl, x, dx, d, b, r, o, n, rfl, hx, hm, hn, k⟩
    · obtain ⟨rfl, n', e, rfl⟩ := h
      obtain ⟨e1, rfl⟩ := List.cons.inj e
      have e1 := Int.ofNat.inj e1
      subst e1
      have e2 : ansOf (.likeliest n) r o was = _ := if_neg (show ¬ r + o < n by omega)
      rw [e2] at k
      refine ⟨_, rfl, rfl, _, rfl, if_no (by decide) ?_⟩
      refine ⟨_, rfl, rfl, _, rfl, if_yes rfl ?_⟩
      exact ⟨_, rfl, x, dx, _, rfl, hx, fl_no _ _ _ _, _, rfl, x, dx, d, b, r, o, n, rfl, hx, hm, hn, k⟩
    · obtain ⟨rfl, n', e, rfl⟩ := h
      obtain ⟨e1, rfl⟩ := List.cons.inj e
      have e1 := Int.ofNat.inj e1
      subst e1
      have e2 : ansOf (.mean n) r o was = _ := if_neg (show ¬ r + o < n by omega)
      rw [e2] at k
      refine ⟨_, rfl, rfl, _, rfl, if_no (by decide) ?_⟩
      refine ⟨_, rfl, rfl, _, rfl, if_no (by decide) ?_⟩
      refine ⟨_, rfl, rfl, _, rfl, if_yes rfl ?_⟩
      exact ⟨_, rfl, x, dx, _, rfl, hx, fl_no _ _ _ _, _, rfl, x, dx, d, b, r, o, n, rfl, hx, hm, hn, k⟩
    · obtain ⟨rfl, n', e, rfl⟩ := h
      obtain ⟨e1, rfl⟩ := List.cons.inj e
      have e1 := Int.ofNat.inj e1
      subst e1
      have e2 : ansOf (.spread n) r o was = _ := if_neg (show ¬ r + o < n by omega)
      rw [e2] at k
      refine ⟨_, rfl, rfl, _, rfl, if_no (by decide) ?_⟩
      refine ⟨_, rfl, rfl, _, rfl, if_no (by decide) ?_⟩
      refine ⟨_, rfl, rfl, _, rfl, if_no (by decide) ?_⟩
      refine ⟨_, rfl, rfl, _, rfl, if_yes rfl ?_⟩
      exact ⟨_, rfl, x, dx, _, rfl, hx, fl_no _ _ _ _, _, rfl, x, dx, d, b, r, o, n, rfl, hx, hm, hn, k⟩
    · obtain ⟨rfl, n', e, rfl⟩ := h
      obtain ⟨e1, rfl⟩ := List.cons.inj e
      have e1 := Int.ofNat.inj e1
      subst e1
      have e2 : ansOf (.spreadBack n) r o was = _ := if_neg (show ¬ r + o < n by omega)
      rw [e2] at k
      refine ⟨_, rfl, rfl, _, rfl, if_no (by decide) ?_⟩
      refine ⟨_, rfl, rfl, _, rfl, if_no (by decide) ?_⟩
      refine ⟨_, rfl, rfl, _, rfl, if_no (by decide) ?_⟩
      refine ⟨_, rfl, rfl, _, rfl, if_no (by decide) ?_⟩
      refine ⟨_, rfl, rfl, _, rfl, if_yes rfl ?_⟩
      exact ⟨_, rfl, x, dx, _, rfl, hx, fl_no _ _ _ _, _, rfl, x, dx, d, b, r, o, n, rfl, hx, hm, hn, k⟩
    · obtain ⟨rfl, n', j, e, rfl⟩ := h
      obtain ⟨e1, rfl⟩ := List.cons.inj e
      have e1 := Int.ofNat.inj e1
      subst e1
      refine ⟨_, rfl, rfl, _, rfl, if_no (by decide) ?_⟩
      refine ⟨_, rfl, rfl, _, rfl, if_no (by decide) ?_⟩
      refine ⟨_, rfl, rfl, _, rfl, if_no (by decide) ?_⟩
      refine ⟨_, rfl, rfl, _, rfl, if_no (by decide) ?_⟩
      refine ⟨_, rfl, rfl, _, rfl, if_no (by decide) ?_⟩
      exact ⟨_, rfl, _, rfl, _, rfl, _, rfl, ar, _, _, _, rfl, rfl, SqL.of har, at_of (j := 1) (v := V.int j) rfl rfl, x, dx, d, b, r, o, was, 10, n, j, _, rfl, hx, hm, hn, .inr (.inl ⟨rfl, rfl⟩), k⟩
    · obtain ⟨rfl, n', j, e, rfl⟩ := h
      obtain ⟨e1, rfl⟩ := List.cons.inj e
      have e1 := Int.ofNat.inj e1
      subst e1
      refine ⟨_, rfl, rfl, _, rfl, if_no (by decide) ?_⟩
      refine ⟨_, rfl, rfl, _, rfl, if_no (by decide) ?_⟩
      refine ⟨_, rfl, rfl, _, rfl, if_no (by decide) ?_⟩
      refine ⟨_, rfl, rfl, _, rfl, if_no (by decide) ?_⟩
      refine ⟨_, rfl, rfl, _, rfl, if_no (by decide) ?_⟩
      exact ⟨_, rfl, _, rfl, _, rfl, _, rfl, ar, _, _, _, rfl, rfl, SqL.of har, at_of (j := 1) (v := V.int j) rfl rfl, x, dx, d, b, r, o, was, 15, n, j, _, rfl, hx, hm, hn, .inr (.inr (.inl ⟨rfl, rfl⟩)), k⟩
    · obtain ⟨rfl, n', j, e, rfl⟩ := h
      obtain ⟨e1, rfl⟩ := List.cons.inj e
      have e1 := Int.ofNat.inj e1
      subst e1
      refine ⟨_, rfl, rfl, _, rfl, if_no (by decide) ?_⟩
      refine ⟨_, rfl, rfl, _, rfl, if_no (by decide) ?_⟩
      refine ⟨_, rfl, rfl, _, rfl, if_no (by decide) ?_⟩
      refine ⟨_, rfl, rfl, _, rfl, if_no (by decide) ?_⟩
      refine ⟨_, rfl, rfl, _, rfl, if_no (by decide) ?_⟩
      exact ⟨_, rfl, _, rfl, _, rfl, _, rfl, ar, _, _, _, rfl, rfl, SqL.of har, at_of (j := 1) (v := V.int j) rfl rfl, x, dx, d, b, r, o, was, 16, n, j, _, rfl, hx, hm, hn, .inr (.inr (.inr ⟨rfl, rfl⟩)), k⟩
/-- answer_for_k -/
theorem ok_answer_for_k (T : TX K mg) : FnOk P w K mg base CX0 6 T.f_answer_for_k T.fd_answer_for_k ["drawing", "number", "arguments"] (sp_answer_for_k T.C) := by
  refine T.F_answer_for_k.ok sc_answer_for_k (fun vs H Q E h => ?_) (fun cdv A outer s H vs Q E hr h => ?_)
  · obtain ⟨x, dx, d, ar, b, r, o, was, p, args, c, rfl, hx, hm, har, hc, hz, hp, k⟩ := h
    rfl
  · obtain ⟨x, dx, d, ar, b, r, o, was, p, args, c, rfl, hx, hm, har, hc, hz, hp, k⟩ := h
    -- slots: 0 drawing, 1 number, 2 arguments, 3 k
    refine ⟨_, (pss_cons (ps_set (i := 3) sc_answer_for_k.nd rfl (by first | exact Or.inl rfl | exact Or.inr rfl) (pe_ix ix_list (pv 2) pe_int (fun _ _ => rfl)))
      (pss_cons (ps_if (pt_cmpR op_eq (pv 1) (pe_gint (by rfl) T.c_NEEDED) (nomark _)) (pss_one (ps_ret (pe_meth (pv 0) T.cl T.M_m_needed (ok_m_needed T) hr T.b_m_needed .nil pass0 (pa_cons (pv 3) (pa_cons (pe_ix ix_list (pv 2) pe_int (fun _ _ => rfl)) (pa_cons (pe_ix ix_list (pv 2) pe_int (fun _ _ => rfl)) pa_nil)))))) pss_nil)
      (pss_cons (ps_if (pt_cmpR op_eq (pv 1) (pe_gint (by rfl) T.c_KTHAT) (nomark _)) (pss_one (ps_ret (pe_meth (pv 0) T.cl T.M_m_kthat (ok_m_kthat T) (hr.mono (by decide)) T.b_m_kthat .nil pass0 (pa_cons (pv 3) (pa_cons (pe_ix ix_list (pv 2) pe_int (fun _ _ => rfl)) pa_nil))))) pss_nil)
      (pss_cons (ps_if (pt_cmpR op_eq (pv 1) (pe_gint (by rfl) T.c_KTHMEAN) (nomark _)) (pss_one (ps_ret (pe_meth (pv 0) T.cl T.M_m_kthmean (ok_m_kthmean T) (hr.mono (by decide)) T.b_m_kthmean .nil pass0 (pa_cons (pv 3) pa_nil)))) pss_nil)
      (pss_one (ps_ret (pe_meth (pv 0) T.cl T.M_m_certain (ok_m_certain T) (hr.mono (by decide)) T.b_m_certain .nil pass0 (pa_cons (pv 3) pa_nil)))))))), ?_⟩
    rcases callOf_inv hz hc with h | h | h | h | h | h | h | h | h | h | h | h | h | h | h | h | h | h | h <;> try (have := h.1; omega)
    · obtain ⟨rfl, j, a, m, rfl, rfl⟩ := h
      refine ⟨_, rfl, ar, _, _, _, rfl, rfl, SqL.of har, at_of (j := 0) (v := V.int j) rfl rfl, ?_⟩
      refine ⟨_, rfl, rfl, _, rfl, if_yes rfl ?_⟩
      exact ⟨_, rfl, x, dx, _, rfl, hx, fl_no _ _ _ _, _, rfl, _, rfl, ar, _, _, _, rfl, rfl, SqL.of har, at_of (j := 1) (v := V.int a) rfl rfl, _, rfl, ar, _, _, _, rfl, rfl, SqL.of har, at_of (j := 2) (v := V.int m) rfl rfl, x, dx, d, b, r, o, j, a, m, rfl, hx, hm, k⟩
    · obtain ⟨rfl, j, n, rfl, rfl⟩ := h
      refine ⟨_, rfl, ar, _, _, _, rfl, rfl, SqL.of har, at_of (j := 0) (v := V.int j) rfl rfl, ?_⟩
      refine ⟨_, rfl, rfl, _, rfl, if_no (by decide) ?_⟩
      refine ⟨_, rfl, rfl, _, rfl, if_yes rfl ?_⟩
      exact ⟨_, rfl, x, dx, _, rfl, hx, fl_no _ _ _ _, _, rfl, _, rfl, ar, _, _, _, rfl, rfl, SqL.of har, at_of (j := 1) (v := V.int n) rfl rfl, x, dx, d, b, r, o, j, n, rfl, hx, hm, k⟩
    · obtain ⟨rfl, j, rfl, rfl⟩ := h
      refine ⟨_, rfl, ar, _, _, _, rfl, rfl, SqL.of har, at_of (j := 0) (v := V.int j) rfl rfl, ?_⟩
      refine ⟨_, rfl, rfl, _, rfl, if_no (by decide) ?_⟩
      refine ⟨_, rfl, rfl, _, rfl, if_no (by decide) ?_⟩
      refine ⟨_, rfl, rfl, _, rfl, if_yes rfl ?_⟩
      exact ⟨_, rfl, x, dx, _, rfl, hx, fl_no _ _ _ _, _, rfl, x, dx, d, b, r, o, j, rfl, hx, hm, k⟩
    · obtain ⟨rfl, j, rfl, rfl⟩ := h
      refine ⟨_, rfl, ar, _, _, _, rfl, rfl, SqL.of har, at_of (j := 0) (v := V.int j) rfl rfl, ?_⟩
      refine ⟨_, rfl, rfl, _, rfl, if_no (by decide) ?_⟩
      refine ⟨_, rfl, rfl, _, rfl, if_no (by decide) ?_⟩
      refine ⟨_, rfl, rfl, _, rfl, if_no (by decide) ?_⟩
      exact ⟨_, rfl, x, dx, _, rfl, hx, fl_no _ _ _ _, _, rfl, x, dx, d, b, r, o, j, rfl, hx, hm, k⟩
end
end Red


end
section
set_option Elab.async false
set_option linter.all false
set_option maxRecDepth 100000
set_option maxHeartbeats 2000000
namespace Red
open PySem PySem.Spec PyProof.Rows L2
open PySem.W (Codec)
abbrev ansS (s : Kp295.State) (c : Kp295.Call) : List Int := (Kp295.step s c).2.num :: (Kp295.step s c).2.nums
def sp_answer_call (C : Addr) : Sp := fun vs H Q _ => ∃ (x d ar : Addr) (s : Kp295.State) (p : Int) (args : List Int) (c : Kp295.Call), vs = [.ref x, .int p, .ref ar] ∧ ObjAt C H x d s ∧
  H ar = some (.lst (args.map V.int)) ∧ Kp295Neutral.callOf [p :: args] = some c ∧ (∀ z ∈ args, 0 ≤ z) ∧ RetS C H x d (Kp295.step s c).1 (ansS s c) Q
section
variable {P : Program} {w : World} {K : PySem.W.Frag} {mg : Str → Option Value} {base : Heap}
/-- answer_call -/
theorem ok_answer_call (T : TX K mg) : FnOk P w K mg base CX0 8 T.f_answer_call T.fd_answer_call ["drawing", "number", "arguments"] (sp_answer_call T.C) := by
  refine T.F_answer_call.ok sc_answer_call (fun vs H Q E h => ?_) (fun cdv A outer s H vs Q E hr h => ?_)
  · obtain ⟨x, d, ar, s', p, args, c, rfl, O, har, hc, hz, k⟩ := h
    rfl
  · obtain ⟨x, d, ar, s', p, args, c, rfl, O, har, hc, hz, k⟩ := h
    -- slots: 0 drawing, 1 number, 2 arguments
    refine ⟨_, (pss_cons (ps_if (pt_cmpR op_eq (pv 1) (pe_gint (by rfl) T.c_BEGIN) (nomark _)) (pss_one (ps_ret (pe_meth (pv 0) T.cl T.M_m_begin (ok_m_begin T) (hr.mono (by decide)) T.b_m_begin .nil pass0 (pa_cons (pe_ix ix_list (pv 2) pe_int (fun _ _ => rfl)) (pa_cons (pe_ix ix_list (pv 2) pe_int (fun _ _ => rfl)) pa_nil))))) pss_nil)
      (pss_cons (ps_if (pt_not (pt_val (pe_fld (pv 0) rfl))) (pss_one (ps_ret (pe_lst (pa_cons (pe_gint (by rfl) T.c_NOT_BEGUN) pa_nil)))) pss_nil)
      (pss_cons (ps_if (pt_cmpR op_eq (pv 1) (pe_gint (by rfl) T.c_DRAW) (nomark _)) (pss_one (ps_ret (pe_meth (pv 0) T.cl T.M_m_draw (ok_m_draw T) (hr.mono (by decide)) T.b_m_draw .nil pass0 (pa_cons (pe_ix ix_list (pv 2) pe_int (fun _ _ => rfl)) pa_nil)))) pss_nil)
      (pss_cons (ps_if (pt_cmpR op_eq (pv 1) (pe_gint (by rfl) T.c_BACK) (nomark _)) (pss_one (ps_ret (pe_meth0 (pv 0) T.cl T.M_m_back (ok_m_back T) (hr.mono (by decide)) T.b_m_back .nil pass0))) pss_nil)
      (pss_cons (ps_if (pt_cmpR op_eq (pv 1) (pe_gint (by rfl) T.c_CHANCE) (nomark _)) (pss_one (ps_ret (pe_meth0 (pv 0) T.cl T.M_m_chance (ok_m_chance T) (hr.mono (by decide)) T.b_m_chance .nil pass0))) pss_nil)
      (pss_cons (ps_if (pt_cmpR op_eq (pv 1) (pe_gint (by rfl) T.c_TWO) (nomark _)) (pss_one (ps_ret (pe_meth (pv 0) T.cl T.M_m_two (ok_m_two T) (hr.mono (by decide)) T.b_m_two .nil pass0 (pa_cons (pe_ix ix_list (pv 2) pe_int (fun _ _ => rfl)) (pa_cons (pe_ix ix_list (pv 2) pe_int (fun _ _ => rfl)) pa_nil))))) pss_nil)
      (pss_cons (ps_if (pt_cmpR op_eq (pv 1) (pe_gint (by rfl) T.c_TOLD) (nomark _)) (pss_one (ps_ret (pe_meth0 (pv 0) T.cl T.M_m_told (ok_m_told T) (hr.mono (by decide)) T.b_m_told .nil pass0))) pss_nil)
      (pss_cons (ps_if (PW.pt (pw_or (pt_cmpR op_eq (pv 1) (pe_gint (by rfl) T.c_NEEDED) (nomark _)) (pw_or (pt_cmpR op_eq (pv 1) (pe_gint (by rfl) T.c_KTHAT) (nomark _)) (pw_or (pt_cmpR op_eq (pv 1) (pe_gint (by rfl) T.c_KTHMEAN) (nomark _)) (pw_or1 (pt_cmpR op_eq (pv 1) (pe_gint (by rfl) T.c_CERTAIN) (nomark _))))))) (pss_one (ps_ret (pe_call (ok_answer_for_k T) (hr.mono (by decide)) (by rfl) T.g_answer_for_k T.F_answer_for_k.kp T.b_answer_for_k .nil pass0 (pa_cons (pv 0) (pa_cons (pv 1) (pa_cons (pv 2) pa_nil)))))) pss_nil)
      (pss_one (ps_ret (pe_call (ok_answer_for_n T) hr (by rfl) T.g_answer_for_n T.F_answer_for_n.kp T.b_answer_for_n .nil pass0 (pa_cons (pv 0) (pa_cons (pv 1) (pa_cons (pv 2) pa_nil)))))))))))))), ?_⟩
    obtain ⟨b, r, o, was, D, S⟩ := id O
    obtain ⟨dx, hx⟩ := D.ob
    rcases callOf_inv hz hc with h | hrest
    · obtain ⟨rfl, m, r', rfl, rfl⟩ := h
      refine ⟨_, rfl, rfl, _, rfl, if_yes rfl ?_⟩
      refine ⟨_, rfl, x, dx, _, rfl, hx, fl_no _ _ _ _, _, rfl, ar, _, _, _, rfl, rfl, SqL.of har, at_of (j := 0) (v := V.int m) rfl rfl, _, rfl, ar, _, _, _, rfl, rfl, SqL.of har, at_of (j := 1) (v := V.int r') rfl rfl, x, d, b, r, o, was, m, r', rfl, D, fun h => ?_, fun h => ?_⟩
      · rw [ansS, step_begin_no h] at k
        exact k.q O
      · rw [ansS, step_begin h] at k
        exact k.m (rel_begin h)
    have hp0 : ¬ p = 0 ∧ ∀ m r, c ≠ .begin_ m r := by
      rcases hrest with h | h | h | h | h | h | h | h | h | h | h | h | h | h | h | h | h | h <;> first
        | (obtain ⟨rfl, n, k, m, rfl, rfl⟩ := h; exact ⟨by decide, fun _ _ e => nomatch e⟩)
        | (obtain ⟨rfl, n, k, rfl, rfl⟩ := h; exact ⟨by decide, fun _ _ e => nomatch e⟩)
        | (obtain ⟨rfl, n, rfl, rfl⟩ := h; exact ⟨by decide, fun _ _ e => nomatch e⟩)
        | (obtain ⟨rfl, rfl, rfl⟩ := h; exact ⟨by decide, fun _ _ e => nomatch e⟩)
    refine ⟨_, rfl, rfl, _, rfl, if_no hp0.1 ?_⟩
    refine ⟨_, rfl, x, T.C, dx, _, _, rfl, hx, T.cl, T.n_begun, fl_begun _ _ _ _, b, rfl, ?_⟩
    cases s' with
    | none =>
      have eb : b = false := S
      subst eb
      rw [ansS, step_none hp0.2] at k
      exact iteT ⟨one_le, (k.q O).of rfl⟩
    | some d0 =>
      have eb : b = true := S.1
      subst eb
      refine iteF ?_
      have hm : r + o + was.length ≤ 24 := S.2.2.2.2.2.2.2
      have ask : isAsk c = true → RetQ H (ansOf c r o was) Q := fun h => by
        obtain ⟨e1, e2⟩ := step_ask S h
        rw [ansS, e1, e2] at k
        exact k.q O
      rcases hrest with h | h | h | h
      · obtain ⟨rfl, c, rfl, rfl⟩ := h
        refine ⟨_, rfl, rfl, _, rfl, if_yes rfl ?_⟩
        refine ⟨_, rfl, x, dx, _, rfl, hx, fl_no _ _ _ _, _, rfl, ar, _, _, _, rfl, rfl, SqL.of har, at_of (j := 0) (v := V.int c) rfl rfl, x, d, true, r, o, was, c, rfl, D, by omega, fun h => ?_, fun h1 h2 => ?_, fun h1 h2 h3 => ?_, fun h1 h2 h3 => ?_⟩
        · rw [ansS, step_draw1 S h] at k
          exact k.q O
        · rw [ansS, step_draw2 S h1 h2] at k
          exact k.q O
        · rw [ansS, step_draw3 S h1 h2 h3] at k
          exact k.q O
        · rw [ansS, step_draw4 S h1 h2 h3] at k
          exact k.m (rel_draw S h1 h2 h3)
      · obtain ⟨rfl, rfl, rfl⟩ := h
        refine ⟨_, rfl, rfl, _, rfl, if_no (by decide) ?_⟩
        refine ⟨_, rfl, rfl, _, rfl, if_yes rfl ?_⟩
        refine ⟨_, rfl, x, dx, _, rfl, hx, fl_no _ _ _ _, x, d, true, r, o, was, rfl, D, by omega, S.2.2.2.2.1, fun h => ?_, fun ws c h => ?_⟩
        · rw [ansS, step_back1 S h] at k
          exact k.q O
        · rw [ansS, step_back2 S h] at k
          subst h
          exact k.m (rel_back S)
      · obtain ⟨rfl, rfl, rfl⟩ := h
        refine ⟨_, rfl, rfl, _, rfl, if_no (by decide) ?_⟩
        refine ⟨_, rfl, rfl, _, rfl, if_no (by decide) ?_⟩
        refine ⟨_, rfl, rfl, _, rfl, if_yes rfl ?_⟩
        exact ⟨_, rfl, x, dx, _, rfl, hx, fl_no _ _ _ _, x, dx, d, true, r, o, rfl, hx, by omega, ask rfl⟩
      · have h4 : (4 ≤ p ∧ p ≤ 18) ∧ isAsk c = true := by
          rcases h with h | h | h | h | h | h | h | h | h | h | h | h | h | h | h <;> first
            | (obtain ⟨rfl, n, k, m, rfl, rfl⟩ := h; exact ⟨by decide, rfl⟩)
            | (obtain ⟨rfl, n, k, rfl, rfl⟩ := h; exact ⟨by decide, rfl⟩)
            | (obtain ⟨rfl, n, rfl, rfl⟩ := h; exact ⟨by decide, rfl⟩)
            | (obtain ⟨rfl, rfl, rfl⟩ := h; exact ⟨by decide, rfl⟩)
        obtain ⟨⟨h5, h6⟩, h7⟩ := h4
        refine ⟨_, rfl, rfl, _, rfl, if_no (by omega) ?_⟩
        refine ⟨_, rfl, rfl, _, rfl, if_no (by omega) ?_⟩
        refine ⟨_, rfl, rfl, _, rfl, if_no (by omega) ?_⟩
        by_cases p14 : p = 14
        · rcases h with h | h | h | h | h | h | h | h | h | h | h | h | h | h | h <;> try (have := h.1; omega)
          obtain ⟨rfl, i, j, rfl, rfl⟩ := h
          refine ⟨_, rfl, rfl, _, rfl, if_yes rfl ?_⟩
          exact ⟨_, rfl, x, dx, _, rfl, hx, fl_no _ _ _ _, _, rfl, ar, _, _, _, rfl, rfl, SqL.of har, at_of (j := 0) (v := V.int i) rfl rfl, _, rfl, ar, _, _, _, rfl, rfl, SqL.of har, at_of (j := 1) (v := V.int j) rfl rfl, x, dx, d, true, r, o, i, j, rfl, hx, by omega, ask rfl⟩
        refine ⟨_, rfl, rfl, _, rfl, if_no p14 ?_⟩
        by_cases p18 : p = 18
        · rcases h with h | h | h | h | h | h | h | h | h | h | h | h | h | h | h <;> try (have := h.1; omega)
          obtain ⟨rfl, rfl, rfl⟩ := h
          refine ⟨_, rfl, rfl, _, rfl, if_yes rfl ?_⟩
          exact ⟨_, rfl, x, dx, _, rfl, hx, fl_no _ _ _ _, x, d, true, r, o, was, rfl, D, ask rfl⟩
        refine ⟨_, rfl, rfl, _, rfl, if_no p18 ?_⟩
        by_cases hk : p = 11 ∨ p = 12 ∨ p = 13 ∨ p = 17
        · rcases id hk with e | e | e | e
          · refine ⟨_, rfl, rfl, _, rfl, if_yes e (iteT ?_)⟩
            exact ⟨_, rfl, _, rfl, _, rfl, x, dx, d, ar, true, r, o, was, p, args, c, rfl, hx, by omega, har, hc, hz, hk, ask h7⟩
          · refine ⟨_, rfl, rfl, _, rfl, if_no (by omega) ?_⟩
            refine ⟨_, rfl, rfl, _, rfl, if_yes e (iteT ?_)⟩
            exact ⟨_, rfl, _, rfl, _, rfl, x, dx, d, ar, true, r, o, was, p, args, c, rfl, hx, by omega, har, hc, hz, hk, ask h7⟩
          · refine ⟨_, rfl, rfl, _, rfl, if_no (by omega) ?_⟩
            refine ⟨_, rfl, rfl, _, rfl, if_no (by omega) ?_⟩
            refine ⟨_, rfl, rfl, _, rfl, if_yes e (iteT ?_)⟩
            exact ⟨_, rfl, _, rfl, _, rfl, x, dx, d, ar, true, r, o, was, p, args, c, rfl, hx, by omega, har, hc, hz, hk, ask h7⟩
          · refine ⟨_, rfl, rfl, _, rfl, if_no (by omega) ?_⟩
            refine ⟨_, rfl, rfl, _, rfl, if_no (by omega) ?_⟩
            refine ⟨_, rfl, rfl, _, rfl, if_no (by omega) ?_⟩
            refine ⟨_, rfl, rfl, _, rfl, if_yes e ?_⟩
            exact ⟨_, rfl, _, rfl, _, rfl, x, dx, d, ar, true, r, o, was, p, args, c, rfl, hx, by omega, har, hc, hz, hk, ask h7⟩
        · refine ⟨_, rfl, rfl, _, rfl, if_no (by omega) ?_⟩
          refine ⟨_, rfl, rfl, _, rfl, if_no (by omega) ?_⟩
          refine ⟨_, rfl, rfl, _, rfl, if_no (by omega) ?_⟩
          refine ⟨_, rfl, rfl, _, rfl, if_no (by omega) ?_⟩
          exact ⟨_, rfl, _, rfl, _, rfl, x, dx, d, ar, true, r, o, was, p, args, c, rfl, hx, by omega, har, hc, hz, by omega, ask h7⟩
end
end Red


end
section
set_option Elab.async false
set_option linter.all false
set_option maxRecDepth 100000
set_option maxHeartbeats 2000000
namespace Red
open PySem PySem.Spec PyProof.Rows L2
open PySem.W (Codec)
theorem counts_at {j n : Nat} (h : COUNTS[j]? = some n) : (([2, 1, 0, 0, 2, 1, 1, 1, 1, 1, 2, 3, 2, 1, 2, 2, 2, 1, 0] : List Int).map V.int)[j]? = some (V.int (n : Int)) := by
  have hj : j < 19 := (List.getElem?_eq_some_iff.mp h).1
  have all : ∀ j : Nat, j < 19 → ([2, 1, 0, 0, 2, 1, 1, 1, 1, 1, 2, 3, 2, 1, 2, 2, 2, 1, 0] : List Int)[j]? = (COUNTS[j]?).map fun n => (n : Int) := by decide +kernel
  rw [List.getElem?_map, all j hj, h]
  rfl
theorem cut_at {ns : List Int} {i n : Nat} (h : i + 1 + n ≤ ns.length) : cutV (ns.map V.int) (some ((i : Int) + 1)) (some ((i : Int) + 1 + (n : Int))) = ((ns.drop (i + 1)).take n).map V.int := by
  have e1 : ((i : Int) + 1) = ((i + 1 : Nat) : Int) := by omega
  have e2 : ((i : Int) + 1 + (n : Int)) = ((i + 1 + n : Nat) : Int) := by omega
  unfold cutV
  rw [e2, e1, HT.sIx_nat, HT.sIx_nat, List.length_map, Nat.min_eq_left (by omega), Nat.min_eq_left (by omega), List.map_take, List.map_drop]
  have e3 : i + 1 + n - (i + 1) = n := by omega
  rw [e3]
theorem ten7 {n : Nat} (h : n ≤ 10000000) : n ≤ sizeLine := Nat.le_trans h (by decide)
def sp_answers (K : PySem.W.Frag) : Sp := fun vs H Q _ => ∃ (a : Addr) (ns : List Int), vs = [.ref a] ∧ SqL K H a (ns.map V.int) ∧ PyKp295.answers_asked ns = true ∧
  ∀ (H' : Hp) (p : Addr), H' p = some (.lst ((PyKp295.answers ns).map V.int)) → Q (.ref p) H'
section
variable {P : Program} {w : World} {K : PySem.W.Frag} {mg : Str → Option Value} {base : Heap}
/-- answers -/
theorem ok_answers (T : TX K mg) : FnOk P w K mg base CX0 9 T.f_answers T.fd_answers ["calls"] (sp_answers K) := by
  refine T.F_answers.ok sc_answers (fun vs H Q E h => ?_) (fun cdv A outer s H vs Q E hr h => ?_)
  · obtain ⟨a, ns, rfl, hS, hask, k⟩ := h
    rfl
  · obtain ⟨a, ns, rfl, hS, hask, k⟩ := h
    -- slots: 0 calls, 1 drawing, 2 given, 3 place, 4 number, 5 behind, 6 answer
    refine ⟨_, (pss_cons (ps_set (i := 1) sc_answers.nd rfl (by first | exact Or.inl rfl | exact Or.inr rfl) (pe_make0 T.mkC (ok_m_init T) (hr.mono (by decide)) (by rfl) T.mg_C T.b_m_init .nil pass0))
      (pss_cons (ps_set (i := 2) sc_answers.nd rfl (by first | exact Or.inl rfl | exact Or.inr rfl) (pe_lst pa_nil))
      (pss_cons (ps_set (i := 3) sc_answers.nd rfl (by first | exact Or.inl rfl | exact Or.inr rfl) pe_int)
      (pss_cons (ps_while PassesOwn.never (pt_cmpR op_lt (pv 3) (pe_callB call_len_seq (by rfl) T.no_len PySem.boot_len (pa_cons (pv 0) pa_nil)) (nomark _)) (pss_cons (ps_set (i := 4) sc_answers.nd rfl (by first | exact Or.inl rfl | exact Or.inr rfl) (pe_ix ix_list (pv 0) (pv 3) (fun _ _ => rfl)))
      (pss_cons (ps_set (i := 5) sc_answers.nd rfl (by first | exact Or.inl rfl | exact Or.inr rfl) (pe_op op_add (pe_op op_add (pv 3) pe_int) (pe_ix ix_tup (pe_gref (by rfl) T.t_ARGUMENT_COUNTS) (pv 4) (fun _ _ => rfl))))
      (pss_cons (ps_set (i := 6) sc_answers.nd rfl (by first | exact Or.inl rfl | exact Or.inr rfl) (pe_call (ok_answer_call T) hr (by rfl) T.g_answer_call T.F_answer_call.kp T.b_answer_call .nil pass0 (pa_cons (pv 1) (pa_cons (pv 4) (pa_cons (pe_slice sl_list (pv 0) (po_some (pe_op op_add (pv 3) pe_int)) (po_some (pv 5))) pa_nil)))))
      (pss_cons (ps_expr (pe_bm PySem.F.plainAttrs_list PySem.F.slot_list_append PySem.F.type_list_append mt_append (pv 2) (pa_cons (pe_callB call_len_seq (by rfl) T.no_len PySem.boot_len (pa_cons (pv 6) pa_nil)) pa_nil)))
      (pss_cons (ps_expr (pe_bm PySem.F.plainAttrs_list PySem.F.slot_list_extend PySem.F.type_list_extend mt_extend (pv 2) (pa_cons (pv 6) pa_nil)))
      (pss_one (ps_set (i := 3) sc_answers.nd rfl (by first | exact Or.inl rfl | exact Or.inr rfl) (pv 5)))))))))
      (pss_one (ps_ret (pv 2))))))), ?_⟩
    -- drawing = Drawing()
    intro x dx nx ndx nex
    refine ⟨x, dx, rfl, upd_same, fun H1 d0 D0 hd0 kp0 => ⟨rfl, ?_⟩⟩
    have s0 : Same H (upd (upd H dx (.own x)) x (.ins T.C dx [])) := fun b u e => by
      rw [upd_ne (ne_of_none e nx), upd_ne (ne_of_none e ndx)]
      exact e
    have s1 : Same H H1 := fun b u e => kp0 b u (s0 b u e) (ne_of_none e nx)
    have nd0 : H d0 = none := s0.free hd0
    -- given = []; place = 0
    refine ⟨Nat.zero_le _, fun g hg => ?_⟩
    have s2 : Same H1 (upd H1 g (.lst [])) := Same.upd hg
    have ng : H g = none := s1.free hg
    refine while_by (fun σ H' => ∃ (i : Nat) (given : List Int) (s' : Kp295.State) (d : Addr) (z4 z5 z6 : Option V), σ = [some (.ref a), some (.ref x), some (.ref g), some (.int i), z4, z5, z6] ∧ Same H H' ∧ ObjAt T.C H' x d s' ∧ H' g = some (.lst (given.map V.int)) ∧ g ≠ d ∧ H d = none ∧ Mid ns i given s')
      (fun σ _ => match σ with | [_, _, _, some (.int i), _, _, _] => ns.length - i.toNat | _ => 0)
      ⟨0, [], Kp295.start, d0, none, none, none, rfl, s1.trans s2, ⟨false, 0, 0, [], D0.same s2, rfl⟩, upd_same, (ne_of_none D0.ls hg).symm, nd0, mid_start hask⟩ ?_ ?_
    · rintro σ H' ⟨i, given, s', d, z4, z5, z6, rfl, sH, O, hgv, ngd, hd, M⟩
      have hSq := sH.seq hS
      refine ⟨_, rfl, _, rfl, a, _, rfl, .inl hSq, _, _, rfl, rfl, _, rfl, ?_⟩
      rw [List.length_map]
      refine ite_d (fun hi => ?_) fun hi => ?_
      · have hi' : i < ns.length := by omega
        obtain ⟨j, n, c, hij, hj, hle, hc, hz, M', hlen⟩ := mid_step M hi'
        -- number = calls[place]
        refine ⟨_, rfl, _, rfl, a, _, _, _, rfl, rfl, hSq, at_of (j := i) (v := V.int j) rfl (by rw [List.getElem?_map, hij]; rfl), ?_⟩
        -- behind = place + 1 + ARGUMENT_COUNTS[number]
        refine ⟨_, rfl, _, _, rfl, rfl, _, rfl, T.a_ARGUMENT_COUNTS, _, _, _, rfl, rfl, T.q_ARGUMENT_COUNTS _, at_of (j := j) rfl (counts_at hj), _, _, rfl, rfl, ?_⟩
        -- answer = answer_call(drawing, number, calls[place + 1:behind])
        refine ⟨_, rfl, _, rfl, _, rfl, _, rfl, _, _, rfl, rfl, _, rfl, _, rfl, _, rfl, a, _, rfl, hSq, fun ar har => ?_⟩
        have e0 : cutV (ns.map V.int) (some ((i : Int) + 1)) (some ((i : Int) + 1 + (n : Int))) = _ := cut_at hle
        have sA : Same H' (upd H' ar (.lst (cutV (ns.map V.int) (some ((i : Int) + 1)) (some ((i : Int) + 1 + (n : Int)))))) := Same.upd har
        obtain ⟨b, r, o, was, D, S⟩ := id O
        have OA : ObjAt T.C (upd H' ar (.lst (cutV (ns.map V.int) (some ((i : Int) + 1)) (some ((i : Int) + 1 + (n : Int)))))) x d s' := ⟨b, r, o, was, D.same sA, S⟩
        refine ⟨x, d, ar, s', (j : Int), (ns.drop (i + 1)).take n, c, rfl, OA, Eq.trans upd_same (congrArg (fun l => some (HO.lst l)) e0), hc, hz, fun H2 p d' O2 hp hpl hdd kp => ?_⟩
        have gA := sA _ _ hgv
        obtain ⟨dxx, hx⟩ := D.ob
        have ngx : g ≠ x := ne_of hgv hx (by intro q; cases q)
        have g2 : H2 g = some (.lst (given.map V.int)) := kp g _ gA ngx ngd
        have npg : p ≠ g := (ne_of_none gA hp).symm
        have ngd' : g ≠ d' := by
          rcases hdd with rfl | hdd
          · exact ngd
          · exact ne_of_none gA hdd
        have hd' : H d' = none := by
          rcases hdd with rfl | hdd
          · exact hd
          · exact (sH.trans sA).free hdd
        have sH2 : Same H H2 := fun q u e => kp q u (sA _ _ (sH _ _ e)) (ne_of_none e nx) (ne_of_none e hd)
        -- given.append(len(answer))
        refine ⟨_, rfl, .inl ⟨rfl, _, SqL.of g2⟩, _, rfl, p, _, rfl, .inl (SqL.of hpl), g, _, _, rfl, rfl, g2, (by rw [List.length_map]; exact Nat.lt_of_lt_of_le (by omega) (ten7 hlen)), ?_⟩
        -- given.extend(answer)
        have hpl2 : ∀ u, (upd H2 g u) p = some (.lst ((ansS s' c).map V.int)) := fun u => by rw [upd_ne npg]; exact hpl
        refine ⟨_, rfl, .inl ⟨rfl, _, SqL.of upd_same⟩, _, rfl, g, p, _, _, rfl, rfl, upd_same, hpl2 _, ?_, ?_⟩
        · rw [List.length_append, List.length_map, List.length_map]
          refine ten7 ?_
          have := hlen
          show given.length + 1 + (ansS s' c).length ≤ 10000000
          unfold ansS
          omega
        rw [upd_upd]
        -- place = behind
        refine ⟨_, rfl, ⟨i + 1 + n, _, _, d', _, _, _, rfl, ?_, ?_, ?_, ngd', hd', M'⟩, ?_⟩
        · exact fun q u e => by rw [upd_ne (ne_of_none e ng)]; exact sH2 q u e
        · obtain ⟨b2, r2, o2, was2, D2, S2⟩ := O2
          obtain ⟨dx2, hx2⟩ := D2.ob
          exact ⟨b2, r2, o2, was2, ⟨⟨dx2, by rw [upd_ne ngx.symm]; exact hx2⟩, by rw [upd_ne ngd'.symm]; exact D2.ls⟩, S2⟩
        · have eL : ((ansS s' c).map V.int).length = (ansS s' c).length := List.length_map ..
          rw [upd_same, eL, List.append_assoc, List.map_append]
          rfl
        · show ns.length - ((i : Int) + 1 + (n : Int)).toNat < ns.length - (i : Int).toNat
          omega
      · have e := mid_end M (by omega)
        subst e
        exact ⟨_, rfl, k H' g hgv⟩
    · rintro σ H' R R' hR ⟨v, h1, v2, h2, q, ys, h3, h4, i, j, h5, h6, c, h7, h8⟩
      exact ⟨v, h1, v2, h2, q, ys, h3, h4, i, j, h5, h6, c, h7, hR _ _ h8⟩
end
end Red


end
section
set_option Elab.async false
set_option linter.all false
set_option maxRecDepth 100000
set_option maxHeartbeats 2000000
namespace Red
open PySem PySem.Spec PyProof.Rows L2
open PySem.W (Codec)
/-! ### what the top has written -/
noncomputable def tx_mk {K : PySem.W.Frag} {h : Heap} {mg : Str → Option Value} {C f1 f2 f3 f4 f5 f6 f7 f8 f9 f10 f11 f12 f13 f14 f15 f16 f17 f18 f19 f20 f21 f22 f23 f24 f25 f26 f27 f28 f29 f30 f31 f32 f33 f34 f35 ta0 : Addr} (X : K.In h) (G : h.Ns mainGlobals mg)
    {od1 an1 od2 an2 od3 an3 od4 an4 od5 an5 od6 an6 od7 an7 od8 an8 od9 an9 od10 an10 od11 an11 od12 an12 od13 an13 od14 an14 od15 an15 od16 an16 od17 an17 od18 an18 od19 an19 od20 an20 od21 an21 od22 an22 od23 an23 od24 an24 od25 an25 od26 an26 od27 an27 od28 an28 od29 an29 od30 an30 od31 an31 od32 an32 od33 an33 od34 an34 od35 an35 od_t0 : Option Addr} {sl1 sl2 sl3 sl4 sl5 sl6 sl7 sl8 sl9 sl10 sl11 sl12 sl13 sl14 sl15 sl16 sl17 sl18 sl19 sl20 sl21 sl22 sl23 sl24 sl25 sl26 sl27 sl28 sl29 sl30 sl31 sl32 sl33 sl34 sl35 sl_t0 : Array (Option Value)}
    {oc1 kV1 dc1 pm1 cd1 ct1 oc2 kV2 dc2 pm2 cd2 ct2 oc3 kV3 dc3 pm3 cd3 ct3 oc4 kV4 dc4 pm4 cd4 ct4 oc5 kV5 dc5 pm5 cd5 ct5 oc6 kV6 dc6 pm6 cd6 ct6 oc7 kV7 dc7 pm7 cd7 ct7 oc8 kV8 dc8 pm8 cd8 ct8 oc9 kV9 dc9 pm9 cd9 ct9 oc10 kV10 dc10 pm10 cd10 ct10 oc11 kV11 dc11 pm11 cd11 ct11 oc12 kV12 dc12 pm12 cd12 ct12 oc13 kV13 dc13 pm13 cd13 ct13 oc14 kV14 dc14 pm14 cd14 ct14 oc15 kV15 dc15 pm15 cd15 ct15 oc16 kV16 dc16 pm16 cd16 ct16 oc17 kV17 dc17 pm17 cd17 ct17 oc18 kV18 dc18 pm18 cd18 ct18 oc19 kV19 dc19 pm19 cd19 ct19 oc20 kV20 dc20 pm20 cd20 ct20 oc21 kV21 dc21 pm21 cd21 ct21 oc22 kV22 dc22 pm22 cd22 ct22 oc23 kV23 dc23 pm23 cd23 ct23 oc24 kV24 dc24 pm24 cd24 ct24 oc25 kV25 dc25 pm25 cd25 ct25 oc26 kV26 dc26 pm26 cd26 ct26 oc27 kV27 dc27 pm27 cd27 ct27 oc28 kV28 dc28 pm28 cd28 ct28 oc29 kV29 dc29 pm29 cd29 ct29 oc30 kV30 dc30 pm30 cd30 ct30 oc31 kV31 dc31 pm31 cd31 ct31 oc32 kV32 dc32 pm32 cd32 ct32 oc33 kV33 dc33 pm33 cd33 ct33 oc34 kV34 dc34 pm34 cd34 ct34 oc35 kV35 dc35 pm35 cd35 ct35 : Value} {tk0 tk1 tk2 tk3 tk4 tk5 tk6 tk7 tk8 tk9 tk10 tk11 tk12 tk13 tk14 tk15 tk16 tk17 tk18 tk19 tk20 tk21 tk22 tk23 tk24 w0_0 w0_1 w0_2 w0_3 w0_4 w0_5 w0_6 w0_7 w0_8 w0_9 w0_10 w0_11 w0_12 w0_13 w0_14 w0_15 w0_16 w0_17 w0_18 : Tok} {nt0 : Nat}
    (aC : PySem.W.nsIn K mainGlobals "Drawing" = some (some (.ref C)))
    (a1 : PySem.W.nsIn K mainGlobals "common_divisor" = some (some (.ref f1)))
    (l1 : K.lookup f1 = some ⟨oc1, od1, .func (PySem.W.fnOf "common_divisor" "common_divisor" (defArgs s_common_divisor) (defBody s_common_divisor) (defScope s_common_divisor) .none kV1 dc1 pm1 an1 cd1 ct1), sl1⟩)
    (c1 : PySem.W.codeIn K cd1 "common_divisor" = true)
    (k1 : PySem.W.keepIn K (.ref f1) = true)
    (a2 : PySem.W.nsIn K mainGlobals "fraction" = some (some (.ref f2)))
    (l2 : K.lookup f2 = some ⟨oc2, od2, .func (PySem.W.fnOf "fraction" "fraction" (defArgs s_fraction) (defBody s_fraction) (defScope s_fraction) .none kV2 dc2 pm2 an2 cd2 ct2), sl2⟩)
    (c2 : PySem.W.codeIn K cd2 "fraction" = true)
    (k2 : PySem.W.keepIn K (.ref f2) = true)
    (a3 : PySem.W.nsIn K mainGlobals "ways_to_choose" = some (some (.ref f3)))
    (l3 : K.lookup f3 = some ⟨oc3, od3, .func (PySem.W.fnOf "ways_to_choose" "ways_to_choose" (defArgs s_ways_to_choose) (defBody s_ways_to_choose) (defScope s_ways_to_choose) .none kV3 dc3 pm3 an3 cd3 ct3), sl3⟩)
    (c3 : PySem.W.codeIn K cd3 "ways_to_choose" = true)
    (k3 : PySem.W.keepIn K (.ref f3) = true)
    (a4 : PySem.W.nsIn K mainGlobals "sets_with" = some (some (.ref f4)))
    (l4 : K.lookup f4 = some ⟨oc4, od4, .func (PySem.W.fnOf "sets_with" "sets_with" (defArgs s_sets_with) (defBody s_sets_with) (defScope s_sets_with) .none kV4 dc4 pm4 an4 cd4 ct4), sl4⟩)
    (c4 : PySem.W.codeIn K cd4 "sets_with" = true)
    (k4 : PySem.W.keepIn K (.ref f4) = true)
    (a5 : PySem.W.nsIn K mainGlobals "first_greatest" = some (some (.ref f5)))
    (l5 : K.lookup f5 = some ⟨oc5, od5, .func (PySem.W.fnOf "first_greatest" "first_greatest" (defArgs s_first_greatest) (defBody s_first_greatest) (defScope s_first_greatest) .none kV5 dc5 pm5 an5 cd5 ct5), sl5⟩)
    (c5 : PySem.W.codeIn K cd5 "first_greatest" = true)
    (k5 : PySem.W.keepIn K (.ref f5) = true)
    (a6 : PySem.W.findIn K (.ref C) "__init__" = some (some (.ref f6)))
    (i6 : PySem.W.isFn K (.ref f6) = true)
    (l6 : K.lookup f6 = some ⟨oc6, od6, .func (PySem.W.fnOf "__init__" "Drawing.__init__" (defArgs s_m_init) (defBody s_m_init) (defScope s_m_init) .none kV6 dc6 pm6 an6 cd6 ct6), sl6⟩)
    (c6 : PySem.W.codeIn K cd6 "Drawing.__init__" = true)
    (k6 : PySem.W.keepIn K (.ref f6) = true)
    (a7 : PySem.W.findIn K (.ref C) "left" = some (some (.ref f7)))
    (i7 : PySem.W.isFn K (.ref f7) = true)
    (l7 : K.lookup f7 = some ⟨oc7, od7, .func (PySem.W.fnOf "left" "Drawing.left" (defArgs s_m_left) (defBody s_m_left) (defScope s_m_left) .none kV7 dc7 pm7 an7 cd7 ct7), sl7⟩)
    (c7 : PySem.W.codeIn K cd7 "Drawing.left" = true)
    (k7 : PySem.W.keepIn K (.ref f7) = true)
    (a8 : PySem.W.findIn K (.ref C) "of_kind" = some (some (.ref f8)))
    (i8 : PySem.W.isFn K (.ref f8) = true)
    (l8 : K.lookup f8 = some ⟨oc8, od8, .func (PySem.W.fnOf "of_kind" "Drawing.of_kind" (defArgs s_m_of_kind) (defBody s_m_of_kind) (defScope s_m_of_kind) .none kV8 dc8 pm8 an8 cd8 ct8), sl8⟩)
    (c8 : PySem.W.codeIn K cd8 "Drawing.of_kind" = true)
    (k8 : PySem.W.keepIn K (.ref f8) = true)
    (a9 : PySem.W.findIn K (.ref C) "begin" = some (some (.ref f9)))
    (i9 : PySem.W.isFn K (.ref f9) = true)
    (l9 : K.lookup f9 = some ⟨oc9, od9, .func (PySem.W.fnOf "begin" "Drawing.begin" (defArgs s_m_begin) (defBody s_m_begin) (defScope s_m_begin) .none kV9 dc9 pm9 an9 cd9 ct9), sl9⟩)
    (c9 : PySem.W.codeIn K cd9 "Drawing.begin" = true)
    (k9 : PySem.W.keepIn K (.ref f9) = true)
    (a10 : PySem.W.findIn K (.ref C) "draw" = some (some (.ref f10)))
    (i10 : PySem.W.isFn K (.ref f10) = true)
    (l10 : K.lookup f10 = some ⟨oc10, od10, .func (PySem.W.fnOf "draw" "Drawing.draw" (defArgs s_m_draw) (defBody s_m_draw) (defScope s_m_draw) .none kV10 dc10 pm10 an10 cd10 ct10), sl10⟩)
    (c10 : PySem.W.codeIn K cd10 "Drawing.draw" = true)
    (k10 : PySem.W.keepIn K (.ref f10) = true)
    (a11 : PySem.W.findIn K (.ref C) "back" = some (some (.ref f11)))
    (i11 : PySem.W.isFn K (.ref f11) = true)
    (l11 : K.lookup f11 = some ⟨oc11, od11, .func (PySem.W.fnOf "back" "Drawing.back" (defArgs s_m_back) (defBody s_m_back) (defScope s_m_back) .none kV11 dc11 pm11 an11 cd11 ct11), sl11⟩)
    (c11 : PySem.W.codeIn K cd11 "Drawing.back" = true)
    (k11 : PySem.W.keepIn K (.ref f11) = true)
    (a12 : PySem.W.findIn K (.ref C) "chance" = some (some (.ref f12)))
    (i12 : PySem.W.isFn K (.ref f12) = true)
    (l12 : K.lookup f12 = some ⟨oc12, od12, .func (PySem.W.fnOf "chance" "Drawing.chance" (defArgs s_m_chance) (defBody s_m_chance) (defScope s_m_chance) .none kV12 dc12 pm12 an12 cd12 ct12), sl12⟩)
    (c12 : PySem.W.codeIn K cd12 "Drawing.chance" = true)
    (k12 : PySem.W.keepIn K (.ref f12) = true)
    (a13 : PySem.W.findIn K (.ref C) "two" = some (some (.ref f13)))
    (i13 : PySem.W.isFn K (.ref f13) = true)
    (l13 : K.lookup f13 = some ⟨oc13, od13, .func (PySem.W.fnOf "two" "Drawing.two" (defArgs s_m_two) (defBody s_m_two) (defScope s_m_two) .none kV13 dc13 pm13 an13 cd13 ct13), sl13⟩)
    (c13 : PySem.W.codeIn K cd13 "Drawing.two" = true)
    (k13 : PySem.W.keepIn K (.ref f13) = true)
    (a14 : PySem.W.findIn K (.ref C) "just" = some (some (.ref f14)))
    (i14 : PySem.W.isFn K (.ref f14) = true)
    (l14 : K.lookup f14 = some ⟨oc14, od14, .func (PySem.W.fnOf "just" "Drawing.just" (defArgs s_m_just) (defBody s_m_just) (defScope s_m_just) .none kV14 dc14 pm14 an14 cd14 ct14), sl14⟩)
    (c14 : PySem.W.codeIn K cd14 "Drawing.just" = true)
    (k14 : PySem.W.keepIn K (.ref f14) = true)
    (a15 : PySem.W.findIn K (.ref C) "sets_of" = some (some (.ref f15)))
    (i15 : PySem.W.isFn K (.ref f15) = true)
    (l15 : K.lookup f15 = some ⟨oc15, od15, .func (PySem.W.fnOf "sets_of" "Drawing.sets_of" (defArgs s_m_sets_of) (defBody s_m_sets_of) (defScope s_m_sets_of) .none kV15 dc15 pm15 an15 cd15 ct15), sl15⟩)
    (c15 : PySem.W.codeIn K cd15 "Drawing.sets_of" = true)
    (k15 : PySem.W.keepIn K (.ref f15) = true)
    (a16 : PySem.W.findIn K (.ref C) "all_of" = some (some (.ref f16)))
    (i16 : PySem.W.isFn K (.ref f16) = true)
    (l16 : K.lookup f16 = some ⟨oc16, od16, .func (PySem.W.fnOf "all_of" "Drawing.all_of" (defArgs s_m_all_of) (defBody s_m_all_of) (defScope s_m_all_of) .none kV16 dc16 pm16 an16 cd16 ct16), sl16⟩)
    (c16 : PySem.W.codeIn K cd16 "Drawing.all_of" = true)
    (k16 : PySem.W.keepIn K (.ref f16) = true)
    (a17 : PySem.W.findIn K (.ref C) "likeliest" = some (some (.ref f17)))
    (i17 : PySem.W.isFn K (.ref f17) = true)
    (l17 : K.lookup f17 = some ⟨oc17, od17, .func (PySem.W.fnOf "likeliest" "Drawing.likeliest" (defArgs s_m_likeliest) (defBody s_m_likeliest) (defScope s_m_likeliest) .none kV17 dc17 pm17 an17 cd17 ct17), sl17⟩)
    (c17 : PySem.W.codeIn K cd17 "Drawing.likeliest" = true)
    (k17 : PySem.W.keepIn K (.ref f17) = true)
    (a18 : PySem.W.findIn K (.ref C) "sets_with_at_least" = some (some (.ref f18)))
    (i18 : PySem.W.isFn K (.ref f18) = true)
    (l18 : K.lookup f18 = some ⟨oc18, od18, .func (PySem.W.fnOf "sets_with_at_least" "Drawing.sets_with_at_least" (defArgs s_m_sets_with_at_least) (defBody s_m_sets_with_at_least) (defScope s_m_sets_with_at_least) .none kV18 dc18 pm18 an18 cd18 ct18), sl18⟩)
    (c18 : PySem.W.codeIn K cd18 "Drawing.sets_with_at_least" = true)
    (k18 : PySem.W.keepIn K (.ref f18) = true)
    (a19 : PySem.W.findIn K (.ref C) "atleast" = some (some (.ref f19)))
    (i19 : PySem.W.isFn K (.ref f19) = true)
    (l19 : K.lookup f19 = some ⟨oc19, od19, .func (PySem.W.fnOf "atleast" "Drawing.atleast" (defArgs s_m_atleast) (defBody s_m_atleast) (defScope s_m_atleast) .none kV19 dc19 pm19 an19 cd19 ct19), sl19⟩)
    (c19 : PySem.W.codeIn K cd19 "Drawing.atleast" = true)
    (k19 : PySem.W.keepIn K (.ref f19) = true)
    (a20 : PySem.W.findIn K (.ref C) "mean" = some (some (.ref f20)))
    (i20 : PySem.W.isFn K (.ref f20) = true)
    (l20 : K.lookup f20 = some ⟨oc20, od20, .func (PySem.W.fnOf "mean" "Drawing.mean" (defArgs s_m_mean) (defBody s_m_mean) (defScope s_m_mean) .none kV20 dc20 pm20 an20 cd20 ct20), sl20⟩)
    (c20 : PySem.W.codeIn K cd20 "Drawing.mean" = true)
    (k20 : PySem.W.keepIn K (.ref f20) = true)
    (a21 : PySem.W.findIn K (.ref C) "spread" = some (some (.ref f21)))
    (i21 : PySem.W.isFn K (.ref f21) = true)
    (l21 : K.lookup f21 = some ⟨oc21, od21, .func (PySem.W.fnOf "spread" "Drawing.spread" (defArgs s_m_spread) (defBody s_m_spread) (defScope s_m_spread) .none kV21 dc21 pm21 an21 cd21 ct21), sl21⟩)
    (c21 : PySem.W.codeIn K cd21 "Drawing.spread" = true)
    (k21 : PySem.W.keepIn K (.ref f21) = true)
    (a22 : PySem.W.findIn K (.ref C) "spreadback" = some (some (.ref f22)))
    (i22 : PySem.W.isFn K (.ref f22) = true)
    (l22 : K.lookup f22 = some ⟨oc22, od22, .func (PySem.W.fnOf "spreadback" "Drawing.spreadback" (defArgs s_m_spreadback) (defBody s_m_spreadback) (defScope s_m_spreadback) .none kV22 dc22 pm22 an22 cd22 ct22), sl22⟩)
    (c22 : PySem.W.codeIn K cd22 "Drawing.spreadback" = true)
    (k22 : PySem.W.keepIn K (.ref f22) = true)
    (a23 : PySem.W.findIn K (.ref C) "swapped" = some (some (.ref f23)))
    (i23 : PySem.W.isFn K (.ref f23) = true)
    (l23 : K.lookup f23 = some ⟨oc23, od23, .func (PySem.W.fnOf "swapped" "Drawing.swapped" (defArgs s_m_swapped) (defBody s_m_swapped) (defScope s_m_swapped) .none kV23 dc23 pm23 an23 cd23 ct23), sl23⟩)
    (c23 : PySem.W.codeIn K cd23 "Drawing.swapped" = true)
    (k23 : PySem.W.keepIn K (.ref f23) = true)
    (a24 : PySem.W.findIn K (.ref C) "needed" = some (some (.ref f24)))
    (i24 : PySem.W.isFn K (.ref f24) = true)
    (l24 : K.lookup f24 = some ⟨oc24, od24, .func (PySem.W.fnOf "needed" "Drawing.needed" (defArgs s_m_needed) (defBody s_m_needed) (defScope s_m_needed) .none kV24 dc24 pm24 an24 cd24 ct24), sl24⟩)
    (c24 : PySem.W.codeIn K cd24 "Drawing.needed" = true)
    (k24 : PySem.W.keepIn K (.ref f24) = true)
    (a25 : PySem.W.findIn K (.ref C) "certain" = some (some (.ref f25)))
    (i25 : PySem.W.isFn K (.ref f25) = true)
    (l25 : K.lookup f25 = some ⟨oc25, od25, .func (PySem.W.fnOf "certain" "Drawing.certain" (defArgs s_m_certain) (defBody s_m_certain) (defScope s_m_certain) .none kV25 dc25 pm25 an25 cd25 ct25), sl25⟩)
    (c25 : PySem.W.codeIn K cd25 "Drawing.certain" = true)
    (k25 : PySem.W.keepIn K (.ref f25) = true)
    (a26 : PySem.W.findIn K (.ref C) "comes" = some (some (.ref f26)))
    (i26 : PySem.W.isFn K (.ref f26) = true)
    (l26 : K.lookup f26 = some ⟨oc26, od26, .func (PySem.W.fnOf "comes" "Drawing.comes" (defArgs s_m_comes) (defBody s_m_comes) (defScope s_m_comes) .none kV26 dc26 pm26 an26 cd26 ct26), sl26⟩)
    (c26 : PySem.W.codeIn K cd26 "Drawing.comes" = true)
    (k26 : PySem.W.keepIn K (.ref f26) = true)
    (a27 : PySem.W.findIn K (.ref C) "kthat" = some (some (.ref f27)))
    (i27 : PySem.W.isFn K (.ref f27) = true)
    (l27 : K.lookup f27 = some ⟨oc27, od27, .func (PySem.W.fnOf "kthat" "Drawing.kthat" (defArgs s_m_kthat) (defBody s_m_kthat) (defScope s_m_kthat) .none kV27 dc27 pm27 an27 cd27 ct27), sl27⟩)
    (c27 : PySem.W.codeIn K cd27 "Drawing.kthat" = true)
    (k27 : PySem.W.keepIn K (.ref f27) = true)
    (a28 : PySem.W.findIn K (.ref C) "kthmean" = some (some (.ref f28)))
    (i28 : PySem.W.isFn K (.ref f28) = true)
    (l28 : K.lookup f28 = some ⟨oc28, od28, .func (PySem.W.fnOf "kthmean" "Drawing.kthmean" (defArgs s_m_kthmean) (defBody s_m_kthmean) (defScope s_m_kthmean) .none kV28 dc28 pm28 an28 cd28 ct28), sl28⟩)
    (c28 : PySem.W.codeIn K cd28 "Drawing.kthmean" = true)
    (k28 : PySem.W.keepIn K (.ref f28) = true)
    (a29 : PySem.W.findIn K (.ref C) "guess" = some (some (.ref f29)))
    (i29 : PySem.W.isFn K (.ref f29) = true)
    (l29 : K.lookup f29 = some ⟨oc29, od29, .func (PySem.W.fnOf "guess" "Drawing.guess" (defArgs s_m_guess) (defBody s_m_guess) (defScope s_m_guess) .none kV29 dc29 pm29 an29 cd29 ct29), sl29⟩)
    (c29 : PySem.W.codeIn K cd29 "Drawing.guess" = true)
    (k29 : PySem.W.keepIn K (.ref f29) = true)
    (a30 : PySem.W.findIn K (.ref C) "told" = some (some (.ref f30)))
    (i30 : PySem.W.isFn K (.ref f30) = true)
    (l30 : K.lookup f30 = some ⟨oc30, od30, .func (PySem.W.fnOf "told" "Drawing.told" (defArgs s_m_told) (defBody s_m_told) (defScope s_m_told) .none kV30 dc30 pm30 an30 cd30 ct30), sl30⟩)
    (c30 : PySem.W.codeIn K cd30 "Drawing.told" = true)
    (k30 : PySem.W.keepIn K (.ref f30) = true)
    (a31 : PySem.W.nsIn K mainGlobals "answer_for_n_and_k" = some (some (.ref f31)))
    (l31 : K.lookup f31 = some ⟨oc31, od31, .func (PySem.W.fnOf "answer_for_n_and_k" "answer_for_n_and_k" (defArgs s_answer_for_n_and_k) (defBody s_answer_for_n_and_k) (defScope s_answer_for_n_and_k) .none kV31 dc31 pm31 an31 cd31 ct31), sl31⟩)
    (c31 : PySem.W.codeIn K cd31 "answer_for_n_and_k" = true)
    (k31 : PySem.W.keepIn K (.ref f31) = true)
    (a32 : PySem.W.nsIn K mainGlobals "answer_for_n" = some (some (.ref f32)))
    (l32 : K.lookup f32 = some ⟨oc32, od32, .func (PySem.W.fnOf "answer_for_n" "answer_for_n" (defArgs s_answer_for_n) (defBody s_answer_for_n) (defScope s_answer_for_n) .none kV32 dc32 pm32 an32 cd32 ct32), sl32⟩)
    (c32 : PySem.W.codeIn K cd32 "answer_for_n" = true)
    (k32 : PySem.W.keepIn K (.ref f32) = true)
    (a33 : PySem.W.nsIn K mainGlobals "answer_for_k" = some (some (.ref f33)))
    (l33 : K.lookup f33 = some ⟨oc33, od33, .func (PySem.W.fnOf "answer_for_k" "answer_for_k" (defArgs s_answer_for_k) (defBody s_answer_for_k) (defScope s_answer_for_k) .none kV33 dc33 pm33 an33 cd33 ct33), sl33⟩)
    (c33 : PySem.W.codeIn K cd33 "answer_for_k" = true)
    (k33 : PySem.W.keepIn K (.ref f33) = true)
    (a34 : PySem.W.nsIn K mainGlobals "answer_call" = some (some (.ref f34)))
    (l34 : K.lookup f34 = some ⟨oc34, od34, .func (PySem.W.fnOf "answer_call" "answer_call" (defArgs s_answer_call) (defBody s_answer_call) (defScope s_answer_call) .none kV34 dc34 pm34 an34 cd34 ct34), sl34⟩)
    (c34 : PySem.W.codeIn K cd34 "answer_call" = true)
    (k34 : PySem.W.keepIn K (.ref f34) = true)
    (a35 : PySem.W.nsIn K mainGlobals "answers" = some (some (.ref f35)))
    (l35 : K.lookup f35 = some ⟨oc35, od35, .func (PySem.W.fnOf "answers" "answers" (defArgs s_answers) (defBody s_answers) (defScope s_answers) .none kV35 dc35 pm35 an35 cd35 ct35), sl35⟩)
    (c35 : PySem.W.codeIn K cd35 "answers" = true)
    (k35 : PySem.W.keepIn K (.ref f35) = true)
    (pg : PySem.W.plainGet K C Str.empty = true)
    (hd : PySem.W.hasDictIn K C = true)
    (po : PySem.W.plainOver K C = true)
    (sa : PySem.W.findIn K (.ref C) "__setattr__" = some (some (.builtin "object.__setattr__")))
    (mk : PySem.W.makesIn K C = true)
    (kc : PySem.W.keepIn K (.ref C) = true)
    (n_begun : PySem.W.findIn K (.ref C) "begun" = some none)
    (n_red : PySem.W.findIn K (.ref C) "red" = some none)
    (n_other : PySem.W.findIn K (.ref C) "other" = some none)
    (n_drawn : PySem.W.findIn K (.ref C) "drawn" = some none)
    (z1 : PySem.W.nsIn K mainGlobals "len" = some none)
    (z2 : PySem.W.nsIn K mainGlobals "range" = some none)
    (z3 : PySem.W.nsIn K mainGlobals "sum" = some none)
    (z4 : PySem.W.nsIn K mainGlobals "max" = some none)
    (e0 : PySem.W.nsIn K mainGlobals "MOST_THINGS" = some (some (.int (24) tk0)))
    (e1 : PySem.W.nsIn K mainGlobals "MOST_BELOW" = some (some (.int (1000) tk1)))
    (e2 : PySem.W.nsIn K mainGlobals "NOT_AS_TOLD" = some (some (.int (-22) tk2)))
    (e3 : PySem.W.nsIn K mainGlobals "TOO_FEW_LEFT" = some (some (.int (-6) tk3)))
    (e4 : PySem.W.nsIn K mainGlobals "NO_SUCH_LEFT" = some (some (.int (-33) tk4)))
    (e5 : PySem.W.nsIn K mainGlobals "NONE_DRAWN" = some (some (.int (-12) tk5)))
    (e6 : PySem.W.nsIn K mainGlobals "NOT_BEGUN" = some (some (.int (-11) tk6)))
    (e7 : PySem.W.nsIn K mainGlobals "BEGIN" = some (some (.int (0) tk7)))
    (e8 : PySem.W.nsIn K mainGlobals "DRAW" = some (some (.int (1) tk8)))
    (e9 : PySem.W.nsIn K mainGlobals "BACK" = some (some (.int (2) tk9)))
    (e10 : PySem.W.nsIn K mainGlobals "CHANCE" = some (some (.int (3) tk10)))
    (e11 : PySem.W.nsIn K mainGlobals "JUST" = some (some (.int (4) tk11)))
    (e12 : PySem.W.nsIn K mainGlobals "ALL_OF" = some (some (.int (5) tk12)))
    (e13 : PySem.W.nsIn K mainGlobals "LIKELIEST" = some (some (.int (6) tk13)))
    (e14 : PySem.W.nsIn K mainGlobals "MEAN" = some (some (.int (7) tk14)))
    (e15 : PySem.W.nsIn K mainGlobals "SPREAD" = some (some (.int (8) tk15)))
    (e16 : PySem.W.nsIn K mainGlobals "SPREADBACK" = some (some (.int (9) tk16)))
    (e17 : PySem.W.nsIn K mainGlobals "ATLEAST" = some (some (.int (10) tk17)))
    (e18 : PySem.W.nsIn K mainGlobals "NEEDED" = some (some (.int (11) tk18)))
    (e19 : PySem.W.nsIn K mainGlobals "KTHAT" = some (some (.int (12) tk19)))
    (e20 : PySem.W.nsIn K mainGlobals "KTHMEAN" = some (some (.int (13) tk20)))
    (e21 : PySem.W.nsIn K mainGlobals "TWO" = some (some (.int (14) tk21)))
    (e22 : PySem.W.nsIn K mainGlobals "SWAPPED" = some (some (.int (15) tk22)))
    (e23 : PySem.W.nsIn K mainGlobals "CERTAIN" = some (some (.int (17) tk23)))
    (e24 : PySem.W.nsIn K mainGlobals "TOLD" = some (some (.int (18) tk24)))
    (u0 : PySem.W.nsIn K mainGlobals "ARGUMENT_COUNTS" = some (some (.ref ta0)))
    (v0 : K.lookup ta0 = some ⟨.type "tuple", od_t0, .seq #[.int 2 w0_0, .int 1 w0_1, .int 0 w0_2, .int 0 w0_3, .int 2 w0_4, .int 1 w0_5, .int 1 w0_6, .int 1 w0_7, .int 1 w0_8, .int 1 w0_9, .int 2 w0_10, .int 3 w0_11, .int 2 w0_12, .int 1 w0_13, .int 2 w0_14, .int 2 w0_15, .int 2 w0_16, .int 1 w0_17, .int 0 w0_18] nt0, sl_t0⟩)
    : TX K mg := {
    C := C, cl := ⟨pg, hd, po, sa⟩, mg_C := PySem.W.mg_of X G aC, no_len := PySem.W.mg_none_of X G z1, no_range := PySem.W.mg_none_of X G z2, no_sum := PySem.W.mg_none_of X G z3, no_max := PySem.W.mg_none_of X G z4,
    n_begun := n_begun,
    n_red := n_red,
    n_other := n_other,
    n_drawn := n_drawn,
    c_MOST_THINGS := ⟨_, PySem.W.mg_of X G e0⟩,
    c_MOST_BELOW := ⟨_, PySem.W.mg_of X G e1⟩,
    c_NOT_AS_TOLD := ⟨_, PySem.W.mg_of X G e2⟩,
    c_TOO_FEW_LEFT := ⟨_, PySem.W.mg_of X G e3⟩,
    c_NO_SUCH_LEFT := ⟨_, PySem.W.mg_of X G e4⟩,
    c_NONE_DRAWN := ⟨_, PySem.W.mg_of X G e5⟩,
    c_NOT_BEGUN := ⟨_, PySem.W.mg_of X G e6⟩,
    c_BEGIN := ⟨_, PySem.W.mg_of X G e7⟩,
    c_DRAW := ⟨_, PySem.W.mg_of X G e8⟩,
    c_BACK := ⟨_, PySem.W.mg_of X G e9⟩,
    c_CHANCE := ⟨_, PySem.W.mg_of X G e10⟩,
    c_JUST := ⟨_, PySem.W.mg_of X G e11⟩,
    c_ALL_OF := ⟨_, PySem.W.mg_of X G e12⟩,
    c_LIKELIEST := ⟨_, PySem.W.mg_of X G e13⟩,
    c_MEAN := ⟨_, PySem.W.mg_of X G e14⟩,
    c_SPREAD := ⟨_, PySem.W.mg_of X G e15⟩,
    c_SPREADBACK := ⟨_, PySem.W.mg_of X G e16⟩,
    c_ATLEAST := ⟨_, PySem.W.mg_of X G e17⟩,
    c_NEEDED := ⟨_, PySem.W.mg_of X G e18⟩,
    c_KTHAT := ⟨_, PySem.W.mg_of X G e19⟩,
    c_KTHMEAN := ⟨_, PySem.W.mg_of X G e20⟩,
    c_TWO := ⟨_, PySem.W.mg_of X G e21⟩,
    c_SWAPPED := ⟨_, PySem.W.mg_of X G e22⟩,
    c_CERTAIN := ⟨_, PySem.W.mg_of X G e23⟩,
    c_TOLD := ⟨_, PySem.W.mg_of X G e24⟩,
    a_ARGUMENT_COUNTS := ta0, t_ARGUMENT_COUNTS := PySem.W.mg_of X G u0,
    q_ARGUMENT_COUNTS := fun H => .inr ⟨_, _, _, v0, rfl, rfl, by show 19 ≤ _; decide, by repeat (first | exact .nil | refine .cons ⟨_, rfl⟩ ?_)⟩,
    f_common_divisor := f1, fd_common_divisor := _, F_common_divisor := fun_mk (st := s_common_divisor) l1 c1 k1,
    b_common_divisor := (fun_mk (st := s_common_divisor) l1 c1 k1).binds (ps := ["first", "second"]) fun _ _ _ _ _ _ us hl => match us, hl with | [_, _], _ => rfl,
    g_common_divisor := PySem.W.mg_of X G a1,
    f_fraction := f2, fd_fraction := _, F_fraction := fun_mk (st := s_fraction) l2 c2 k2,
    b_fraction := (fun_mk (st := s_fraction) l2 c2 k2).binds (ps := ["above", "below"]) fun _ _ _ _ _ _ us hl => match us, hl with | [_, _], _ => rfl,
    g_fraction := PySem.W.mg_of X G a2,
    f_ways_to_choose := f3, fd_ways_to_choose := _, F_ways_to_choose := fun_mk (st := s_ways_to_choose) l3 c3 k3,
    b_ways_to_choose := (fun_mk (st := s_ways_to_choose) l3 c3 k3).binds (ps := ["few", "many"]) fun _ _ _ _ _ _ us hl => match us, hl with | [_, _], _ => rfl,
    g_ways_to_choose := PySem.W.mg_of X G a3,
    f_sets_with := f4, fd_sets_with := _, F_sets_with := fun_mk (st := s_sets_with) l4 c4 k4,
    b_sets_with := (fun_mk (st := s_sets_with) l4 c4 k4).binds (ps := ["red", "other", "n", "k"]) fun _ _ _ _ _ _ us hl => match us, hl with | [_, _, _, _], _ => rfl,
    g_sets_with := PySem.W.mg_of X G a4,
    f_first_greatest := f5, fd_first_greatest := _, F_first_greatest := fun_mk (st := s_first_greatest) l5 c5 k5,
    b_first_greatest := (fun_mk (st := s_first_greatest) l5 c5 k5).binds (ps := ["numbers"]) fun _ _ _ _ _ _ us hl => match us, hl with | [_], _ => rfl,
    g_first_greatest := PySem.W.mg_of X G a5,
    f_m_init := f6, fd_m_init := _, F_m_init := fun_mk (st := s_m_init) l6 c6 k6,
    b_m_init := (fun_mk (st := s_m_init) l6 c6 k6).binds (ps := ["self"]) fun _ _ _ _ _ _ us hl => match us, hl with | [_], _ => rfl,
    mkC := ⟨mk, a6, i6, kc⟩,
    f_m_left := f7, fd_m_left := _, F_m_left := fun_mk (st := s_m_left) l7 c7 k7,
    b_m_left := (fun_mk (st := s_m_left) l7 c7 k7).binds (ps := ["self"]) fun _ _ _ _ _ _ us hl => match us, hl with | [_], _ => rfl,
    M_m_left := ⟨a7, i7, k7⟩,
    f_m_of_kind := f8, fd_m_of_kind := _, F_m_of_kind := fun_mk (st := s_m_of_kind) l8 c8 k8,
    b_m_of_kind := (fun_mk (st := s_m_of_kind) l8 c8 k8).binds (ps := ["self", "c"]) fun _ _ _ _ _ _ us hl => match us, hl with | [_, _], _ => rfl,
    M_m_of_kind := ⟨a8, i8, k8⟩,
    f_m_begin := f9, fd_m_begin := _, F_m_begin := fun_mk (st := s_m_begin) l9 c9 k9,
    b_m_begin := (fun_mk (st := s_m_begin) l9 c9 k9).binds (ps := ["self", "m", "r"]) fun _ _ _ _ _ _ us hl => match us, hl with | [_, _, _], _ => rfl,
    M_m_begin := ⟨a9, i9, k9⟩,
    f_m_draw := f10, fd_m_draw := _, F_m_draw := fun_mk (st := s_m_draw) l10 c10 k10,
    b_m_draw := (fun_mk (st := s_m_draw) l10 c10 k10).binds (ps := ["self", "c"]) fun _ _ _ _ _ _ us hl => match us, hl with | [_, _], _ => rfl,
    M_m_draw := ⟨a10, i10, k10⟩,
    f_m_back := f11, fd_m_back := _, F_m_back := fun_mk (st := s_m_back) l11 c11 k11,
    b_m_back := (fun_mk (st := s_m_back) l11 c11 k11).binds (ps := ["self"]) fun _ _ _ _ _ _ us hl => match us, hl with | [_], _ => rfl,
    M_m_back := ⟨a11, i11, k11⟩,
    f_m_chance := f12, fd_m_chance := _, F_m_chance := fun_mk (st := s_m_chance) l12 c12 k12,
    b_m_chance := (fun_mk (st := s_m_chance) l12 c12 k12).binds (ps := ["self"]) fun _ _ _ _ _ _ us hl => match us, hl with | [_], _ => rfl,
    M_m_chance := ⟨a12, i12, k12⟩,
    f_m_two := f13, fd_m_two := _, F_m_two := fun_mk (st := s_m_two) l13 c13 k13,
    b_m_two := (fun_mk (st := s_m_two) l13 c13 k13).binds (ps := ["self", "i", "j"]) fun _ _ _ _ _ _ us hl => match us, hl with | [_, _, _], _ => rfl,
    M_m_two := ⟨a13, i13, k13⟩,
    f_m_just := f14, fd_m_just := _, F_m_just := fun_mk (st := s_m_just) l14 c14 k14,
    b_m_just := (fun_mk (st := s_m_just) l14 c14 k14).binds (ps := ["self", "n", "k"]) fun _ _ _ _ _ _ us hl => match us, hl with | [_, _, _], _ => rfl,
    M_m_just := ⟨a14, i14, k14⟩,
    f_m_sets_of := f15, fd_m_sets_of := _, F_m_sets_of := fun_mk (st := s_m_sets_of) l15 c15 k15,
    b_m_sets_of := (fun_mk (st := s_m_sets_of) l15 c15 k15).binds (ps := ["self", "n"]) fun _ _ _ _ _ _ us hl => match us, hl with | [_, _], _ => rfl,
    M_m_sets_of := ⟨a15, i15, k15⟩,
    f_m_all_of := f16, fd_m_all_of := _, F_m_all_of := fun_mk (st := s_m_all_of) l16 c16 k16,
    b_m_all_of := (fun_mk (st := s_m_all_of) l16 c16 k16).binds (ps := ["self", "n"]) fun _ _ _ _ _ _ us hl => match us, hl with | [_, _], _ => rfl,
    M_m_all_of := ⟨a16, i16, k16⟩,
    f_m_likeliest := f17, fd_m_likeliest := _, F_m_likeliest := fun_mk (st := s_m_likeliest) l17 c17 k17,
    b_m_likeliest := (fun_mk (st := s_m_likeliest) l17 c17 k17).binds (ps := ["self", "n"]) fun _ _ _ _ _ _ us hl => match us, hl with | [_, _], _ => rfl,
    M_m_likeliest := ⟨a17, i17, k17⟩,
    f_m_sets_with_at_least := f18, fd_m_sets_with_at_least := _, F_m_sets_with_at_least := fun_mk (st := s_m_sets_with_at_least) l18 c18 k18,
    b_m_sets_with_at_least := (fun_mk (st := s_m_sets_with_at_least) l18 c18 k18).binds (ps := ["self", "n", "k"]) fun _ _ _ _ _ _ us hl => match us, hl with | [_, _, _], _ => rfl,
    M_m_sets_with_at_least := ⟨a18, i18, k18⟩,
    f_m_atleast := f19, fd_m_atleast := _, F_m_atleast := fun_mk (st := s_m_atleast) l19 c19 k19,
    b_m_atleast := (fun_mk (st := s_m_atleast) l19 c19 k19).binds (ps := ["self", "n", "k"]) fun _ _ _ _ _ _ us hl => match us, hl with | [_, _, _], _ => rfl,
    M_m_atleast := ⟨a19, i19, k19⟩,
    f_m_mean := f20, fd_m_mean := _, F_m_mean := fun_mk (st := s_m_mean) l20 c20 k20,
    b_m_mean := (fun_mk (st := s_m_mean) l20 c20 k20).binds (ps := ["self", "n"]) fun _ _ _ _ _ _ us hl => match us, hl with | [_, _], _ => rfl,
    M_m_mean := ⟨a20, i20, k20⟩,
    f_m_spread := f21, fd_m_spread := _, F_m_spread := fun_mk (st := s_m_spread) l21 c21 k21,
    b_m_spread := (fun_mk (st := s_m_spread) l21 c21 k21).binds (ps := ["self", "n"]) fun _ _ _ _ _ _ us hl => match us, hl with | [_, _], _ => rfl,
    M_m_spread := ⟨a21, i21, k21⟩,
    f_m_spreadback := f22, fd_m_spreadback := _, F_m_spreadback := fun_mk (st := s_m_spreadback) l22 c22 k22,
    b_m_spreadback := (fun_mk (st := s_m_spreadback) l22 c22 k22).binds (ps := ["self", "n"]) fun _ _ _ _ _ _ us hl => match us, hl with | [_, _], _ => rfl,
    M_m_spreadback := ⟨a22, i22, k22⟩,
    f_m_swapped := f23, fd_m_swapped := _, F_m_swapped := fun_mk (st := s_m_swapped) l23 c23 k23,
    b_m_swapped := (fun_mk (st := s_m_swapped) l23 c23 k23).binds (ps := ["self", "n", "k"]) fun _ _ _ _ _ _ us hl => match us, hl with | [_, _, _], _ => rfl,
    M_m_swapped := ⟨a23, i23, k23⟩,
    f_m_needed := f24, fd_m_needed := _, F_m_needed := fun_mk (st := s_m_needed) l24 c24 k24,
    b_m_needed := (fun_mk (st := s_m_needed) l24 c24 k24).binds (ps := ["self", "k", "a", "c"]) fun _ _ _ _ _ _ us hl => match us, hl with | [_, _, _, _], _ => rfl,
    M_m_needed := ⟨a24, i24, k24⟩,
    f_m_certain := f25, fd_m_certain := _, F_m_certain := fun_mk (st := s_m_certain) l25 c25 k25,
    b_m_certain := (fun_mk (st := s_m_certain) l25 c25 k25).binds (ps := ["self", "k"]) fun _ _ _ _ _ _ us hl => match us, hl with | [_, _], _ => rfl,
    M_m_certain := ⟨a25, i25, k25⟩,
    f_m_comes := f26, fd_m_comes := _, F_m_comes := fun_mk (st := s_m_comes) l26 c26 k26,
    b_m_comes := (fun_mk (st := s_m_comes) l26 c26 k26).binds (ps := ["self", "k"]) fun _ _ _ _ _ _ us hl => match us, hl with | [_, _], _ => rfl,
    M_m_comes := ⟨a26, i26, k26⟩,
    f_m_kthat := f27, fd_m_kthat := _, F_m_kthat := fun_mk (st := s_m_kthat) l27 c27 k27,
    b_m_kthat := (fun_mk (st := s_m_kthat) l27 c27 k27).binds (ps := ["self", "k", "n"]) fun _ _ _ _ _ _ us hl => match us, hl with | [_, _, _], _ => rfl,
    M_m_kthat := ⟨a27, i27, k27⟩,
    f_m_kthmean := f28, fd_m_kthmean := _, F_m_kthmean := fun_mk (st := s_m_kthmean) l28 c28 k28,
    b_m_kthmean := (fun_mk (st := s_m_kthmean) l28 c28 k28).binds (ps := ["self", "k"]) fun _ _ _ _ _ _ us hl => match us, hl with | [_, _], _ => rfl,
    M_m_kthmean := ⟨a28, i28, k28⟩,
    f_m_guess := f29, fd_m_guess := _, F_m_guess := fun_mk (st := s_m_guess) l29 c29 k29,
    b_m_guess := (fun_mk (st := s_m_guess) l29 c29 k29).binds (ps := ["self", "n", "k"]) fun _ _ _ _ _ _ us hl => match us, hl with | [_, _, _], _ => rfl,
    M_m_guess := ⟨a29, i29, k29⟩,
    f_m_told := f30, fd_m_told := _, F_m_told := fun_mk (st := s_m_told) l30 c30 k30,
    b_m_told := (fun_mk (st := s_m_told) l30 c30 k30).binds (ps := ["self"]) fun _ _ _ _ _ _ us hl => match us, hl with | [_], _ => rfl,
    M_m_told := ⟨a30, i30, k30⟩,
    f_answer_for_n_and_k := f31, fd_answer_for_n_and_k := _, F_answer_for_n_and_k := fun_mk (st := s_answer_for_n_and_k) l31 c31 k31,
    b_answer_for_n_and_k := (fun_mk (st := s_answer_for_n_and_k) l31 c31 k31).binds (ps := ["drawing", "number", "n", "k"]) fun _ _ _ _ _ _ us hl => match us, hl with | [_, _, _, _], _ => rfl,
    g_answer_for_n_and_k := PySem.W.mg_of X G a31,
    f_answer_for_n := f32, fd_answer_for_n := _, F_answer_for_n := fun_mk (st := s_answer_for_n) l32 c32 k32,
    b_answer_for_n := (fun_mk (st := s_answer_for_n) l32 c32 k32).binds (ps := ["drawing", "number", "arguments"]) fun _ _ _ _ _ _ us hl => match us, hl with | [_, _, _], _ => rfl,
    g_answer_for_n := PySem.W.mg_of X G a32,
    f_answer_for_k := f33, fd_answer_for_k := _, F_answer_for_k := fun_mk (st := s_answer_for_k) l33 c33 k33,
    b_answer_for_k := (fun_mk (st := s_answer_for_k) l33 c33 k33).binds (ps := ["drawing", "number", "arguments"]) fun _ _ _ _ _ _ us hl => match us, hl with | [_, _, _], _ => rfl,
    g_answer_for_k := PySem.W.mg_of X G a33,
    f_answer_call := f34, fd_answer_call := _, F_answer_call := fun_mk (st := s_answer_call) l34 c34 k34,
    b_answer_call := (fun_mk (st := s_answer_call) l34 c34 k34).binds (ps := ["drawing", "number", "arguments"]) fun _ _ _ _ _ _ us hl => match us, hl with | [_, _, _], _ => rfl,
    g_answer_call := PySem.W.mg_of X G a34,
    f_answers := f35, fd_answers := _, F_answers := fun_mk (st := s_answers) l35 c35 k35,
    b_answers := (fun_mk (st := s_answers) l35 c35 k35).binds (ps := ["calls"]) fun _ _ _ _ _ _ us hl => match us, hl with | [_], _ => rfl,
    g_answers := PySem.W.mg_of X G a35
  }
theorem all_mk {P : Program} {w : World} {K : PySem.W.Frag} {h : Heap} {mg : Str → Option Value} {fa C f1 f2 f3 f4 f5 f6 f7 f8 f9 f10 f11 f12 f13 f14 f15 f16 f17 f18 f19 f20 f21 f22 f23 f24 f25 f26 f27 f28 f29 f30 f31 f32 f33 f34 f35 ta0 : Addr} (X : K.In h) (G : h.Ns mainGlobals mg) (hfa : mg "answers" = some (.ref fa))
    {od1 an1 od2 an2 od3 an3 od4 an4 od5 an5 od6 an6 od7 an7 od8 an8 od9 an9 od10 an10 od11 an11 od12 an12 od13 an13 od14 an14 od15 an15 od16 an16 od17 an17 od18 an18 od19 an19 od20 an20 od21 an21 od22 an22 od23 an23 od24 an24 od25 an25 od26 an26 od27 an27 od28 an28 od29 an29 od30 an30 od31 an31 od32 an32 od33 an33 od34 an34 od35 an35 od_t0 : Option Addr} {sl1 sl2 sl3 sl4 sl5 sl6 sl7 sl8 sl9 sl10 sl11 sl12 sl13 sl14 sl15 sl16 sl17 sl18 sl19 sl20 sl21 sl22 sl23 sl24 sl25 sl26 sl27 sl28 sl29 sl30 sl31 sl32 sl33 sl34 sl35 sl_t0 : Array (Option Value)}
    {oc1 kV1 dc1 pm1 cd1 ct1 oc2 kV2 dc2 pm2 cd2 ct2 oc3 kV3 dc3 pm3 cd3 ct3 oc4 kV4 dc4 pm4 cd4 ct4 oc5 kV5 dc5 pm5 cd5 ct5 oc6 kV6 dc6 pm6 cd6 ct6 oc7 kV7 dc7 pm7 cd7 ct7 oc8 kV8 dc8 pm8 cd8 ct8 oc9 kV9 dc9 pm9 cd9 ct9 oc10 kV10 dc10 pm10 cd10 ct10 oc11 kV11 dc11 pm11 cd11 ct11 oc12 kV12 dc12 pm12 cd12 ct12 oc13 kV13 dc13 pm13 cd13 ct13 oc14 kV14 dc14 pm14 cd14 ct14 oc15 kV15 dc15 pm15 cd15 ct15 oc16 kV16 dc16 pm16 cd16 ct16 oc17 kV17 dc17 pm17 cd17 ct17 oc18 kV18 dc18 pm18 cd18 ct18 oc19 kV19 dc19 pm19 cd19 ct19 oc20 kV20 dc20 pm20 cd20 ct20 oc21 kV21 dc21 pm21 cd21 ct21 oc22 kV22 dc22 pm22 cd22 ct22 oc23 kV23 dc23 pm23 cd23 ct23 oc24 kV24 dc24 pm24 cd24 ct24 oc25 kV25 dc25 pm25 cd25 ct25 oc26 kV26 dc26 pm26 cd26 ct26 oc27 kV27 dc27 pm27 cd27 ct27 oc28 kV28 dc28 pm28 cd28 ct28 oc29 kV29 dc29 pm29 cd29 ct29 oc30 kV30 dc30 pm30 cd30 ct30 oc31 kV31 dc31 pm31 cd31 ct31 oc32 kV32 dc32 pm32 cd32 ct32 oc33 kV33 dc33 pm33 cd33 ct33 oc34 kV34 dc34 pm34 cd34 ct34 oc35 kV35 dc35 pm35 cd35 ct35 : Value} {tk0 tk1 tk2 tk3 tk4 tk5 tk6 tk7 tk8 tk9 tk10 tk11 tk12 tk13 tk14 tk15 tk16 tk17 tk18 tk19 tk20 tk21 tk22 tk23 tk24 w0_0 w0_1 w0_2 w0_3 w0_4 w0_5 w0_6 w0_7 w0_8 w0_9 w0_10 w0_11 w0_12 w0_13 w0_14 w0_15 w0_16 w0_17 w0_18 : Tok} {nt0 : Nat}
    (aC : PySem.W.nsIn K mainGlobals "Drawing" = some (some (.ref C)))
    (a1 : PySem.W.nsIn K mainGlobals "common_divisor" = some (some (.ref f1)))
    (l1 : K.lookup f1 = some ⟨oc1, od1, .func (PySem.W.fnOf "common_divisor" "common_divisor" (defArgs s_common_divisor) (defBody s_common_divisor) (defScope s_common_divisor) .none kV1 dc1 pm1 an1 cd1 ct1), sl1⟩)
    (c1 : PySem.W.codeIn K cd1 "common_divisor" = true)
    (k1 : PySem.W.keepIn K (.ref f1) = true)
    (a2 : PySem.W.nsIn K mainGlobals "fraction" = some (some (.ref f2)))
    (l2 : K.lookup f2 = some ⟨oc2, od2, .func (PySem.W.fnOf "fraction" "fraction" (defArgs s_fraction) (defBody s_fraction) (defScope s_fraction) .none kV2 dc2 pm2 an2 cd2 ct2), sl2⟩)
    (c2 : PySem.W.codeIn K cd2 "fraction" = true)
    (k2 : PySem.W.keepIn K (.ref f2) = true)
    (a3 : PySem.W.nsIn K mainGlobals "ways_to_choose" = some (some (.ref f3)))
    (l3 : K.lookup f3 = some ⟨oc3, od3, .func (PySem.W.fnOf "ways_to_choose" "ways_to_choose" (defArgs s_ways_to_choose) (defBody s_ways_to_choose) (defScope s_ways_to_choose) .none kV3 dc3 pm3 an3 cd3 ct3), sl3⟩)
    (c3 : PySem.W.codeIn K cd3 "ways_to_choose" = true)
    (k3 : PySem.W.keepIn K (.ref f3) = true)
    (a4 : PySem.W.nsIn K mainGlobals "sets_with" = some (some (.ref f4)))
    (l4 : K.lookup f4 = some ⟨oc4, od4, .func (PySem.W.fnOf "sets_with" "sets_with" (defArgs s_sets_with) (defBody s_sets_with) (defScope s_sets_with) .none kV4 dc4 pm4 an4 cd4 ct4), sl4⟩)
    (c4 : PySem.W.codeIn K cd4 "sets_with" = true)
    (k4 : PySem.W.keepIn K (.ref f4) = true)
    (a5 : PySem.W.nsIn K mainGlobals "first_greatest" = some (some (.ref f5)))
    (l5 : K.lookup f5 = some ⟨oc5, od5, .func (PySem.W.fnOf "first_greatest" "first_greatest" (defArgs s_first_greatest) (defBody s_first_greatest) (defScope s_first_greatest) .none kV5 dc5 pm5 an5 cd5 ct5), sl5⟩)
    (c5 : PySem.W.codeIn K cd5 "first_greatest" = true)
    (k5 : PySem.W.keepIn K (.ref f5) = true)
    (a6 : PySem.W.findIn K (.ref C) "__init__" = some (some (.ref f6)))
    (i6 : PySem.W.isFn K (.ref f6) = true)
    (l6 : K.lookup f6 = some ⟨oc6, od6, .func (PySem.W.fnOf "__init__" "Drawing.__init__" (defArgs s_m_init) (defBody s_m_init) (defScope s_m_init) .none kV6 dc6 pm6 an6 cd6 ct6), sl6⟩)
    (c6 : PySem.W.codeIn K cd6 "Drawing.__init__" = true)
    (k6 : PySem.W.keepIn K (.ref f6) = true)
    (a7 : PySem.W.findIn K (.ref C) "left" = some (some (.ref f7)))
    (i7 : PySem.W.isFn K (.ref f7) = true)
    (l7 : K.lookup f7 = some ⟨oc7, od7, .func (PySem.W.fnOf "left" "Drawing.left" (defArgs s_m_left) (defBody s_m_left) (defScope s_m_left) .none kV7 dc7 pm7 an7 cd7 ct7), sl7⟩)
    (c7 : PySem.W.codeIn K cd7 "Drawing.left" = true)
    (k7 : PySem.W.keepIn K (.ref f7) = true)
    (a8 : PySem.W.findIn K (.ref C) "of_kind" = some (some (.ref f8)))
    (i8 : PySem.W.isFn K (.ref f8) = true)
    (l8 : K.lookup f8 = some ⟨oc8, od8, .func (PySem.W.fnOf "of_kind" "Drawing.of_kind" (defArgs s_m_of_kind) (defBody s_m_of_kind) (defScope s_m_of_kind) .none kV8 dc8 pm8 an8 cd8 ct8), sl8⟩)
    (c8 : PySem.W.codeIn K cd8 "Drawing.of_kind" = true)
    (k8 : PySem.W.keepIn K (.ref f8) = true)
    (a9 : PySem.W.findIn K (.ref C) "begin" = some (some (.ref f9)))
    (i9 : PySem.W.isFn K (.ref f9) = true)
    (l9 : K.lookup f9 = some ⟨oc9, od9, .func (PySem.W.fnOf "begin" "Drawing.begin" (defArgs s_m_begin) (defBody s_m_begin) (defScope s_m_begin) .none kV9 dc9 pm9 an9 cd9 ct9), sl9⟩)
    (c9 : PySem.W.codeIn K cd9 "Drawing.begin" = true)
    (k9 : PySem.W.keepIn K (.ref f9) = true)
    (a10 : PySem.W.findIn K (.ref C) "draw" = some (some (.ref f10)))
    (i10 : PySem.W.isFn K (.ref f10) = true)
    (l10 : K.lookup f10 = some ⟨oc10, od10, .func (PySem.W.fnOf "draw" "Drawing.draw" (defArgs s_m_draw) (defBody s_m_draw) (defScope s_m_draw) .none kV10 dc10 pm10 an10 cd10 ct10), sl10⟩)
    (c10 : PySem.W.codeIn K cd10 "Drawing.draw" = true)
    (k10 : PySem.W.keepIn K (.ref f10) = true)
    (a11 : PySem.W.findIn K (.ref C) "back" = some (some (.ref f11)))
    (i11 : PySem.W.isFn K (.ref f11) = true)
    (l11 : K.lookup f11 = some ⟨oc11, od11, .func (PySem.W.fnOf "back" "Drawing.back" (defArgs s_m_back) (defBody s_m_back) (defScope s_m_back) .none kV11 dc11 pm11 an11 cd11 ct11), sl11⟩)
    (c11 : PySem.W.codeIn K cd11 "Drawing.back" = true)
    (k11 : PySem.W.keepIn K (.ref f11) = true)
    (a12 : PySem.W.findIn K (.ref C) "chance" = some (some (.ref f12)))
    (i12 : PySem.W.isFn K (.ref f12) = true)
    (l12 : K.lookup f12 = some ⟨oc12, od12, .func (PySem.W.fnOf "chance" "Drawing.chance" (defArgs s_m_chance) (defBody s_m_chance) (defScope s_m_chance) .none kV12 dc12 pm12 an12 cd12 ct12), sl12⟩)
    (c12 : PySem.W.codeIn K cd12 "Drawing.chance" = true)
    (k12 : PySem.W.keepIn K (.ref f12) = true)
    (a13 : PySem.W.findIn K (.ref C) "two" = some (some (.ref f13)))
    (i13 : PySem.W.isFn K (.ref f13) = true)
    (l13 : K.lookup f13 = some ⟨oc13, od13, .func (PySem.W.fnOf "two" "Drawing.two" (defArgs s_m_two) (defBody s_m_two) (defScope s_m_two) .none kV13 dc13 pm13 an13 cd13 ct13), sl13⟩)
    (c13 : PySem.W.codeIn K cd13 "Drawing.two" = true)
    (k13 : PySem.W.keepIn K (.ref f13) = true)
    (a14 : PySem.W.findIn K (.ref C) "just" = some (some (.ref f14)))
    (i14 : PySem.W.isFn K (.ref f14) = true)
    (l14 : K.lookup f14 = some ⟨oc14, od14, .func (PySem.W.fnOf "just" "Drawing.just" (defArgs s_m_just) (defBody s_m_just) (defScope s_m_just) .none kV14 dc14 pm14 an14 cd14 ct14), sl14⟩)
    (c14 : PySem.W.codeIn K cd14 "Drawing.just" = true)
    (k14 : PySem.W.keepIn K (.ref f14) = true)
    (a15 : PySem.W.findIn K (.ref C) "sets_of" = some (some (.ref f15)))
    (i15 : PySem.W.isFn K (.ref f15) = true)
    (l15 : K.lookup f15 = some ⟨oc15, od15, .func (PySem.W.fnOf "sets_of" "Drawing.sets_of" (defArgs s_m_sets_of) (defBody s_m_sets_of) (defScope s_m_sets_of) .none kV15 dc15 pm15 an15 cd15 ct15), sl15⟩)
    (c15 : PySem.W.codeIn K cd15 "Drawing.sets_of" = true)
    (k15 : PySem.W.keepIn K (.ref f15) = true)
    (a16 : PySem.W.findIn K (.ref C) "all_of" = some (some (.ref f16)))
    (i16 : PySem.W.isFn K (.ref f16) = true)
    (l16 : K.lookup f16 = some ⟨oc16, od16, .func (PySem.W.fnOf "all_of" "Drawing.all_of" (defArgs s_m_all_of) (defBody s_m_all_of) (defScope s_m_all_of) .none kV16 dc16 pm16 an16 cd16 ct16), sl16⟩)
    (c16 : PySem.W.codeIn K cd16 "Drawing.all_of" = true)
    (k16 : PySem.W.keepIn K (.ref f16) = true)
    (a17 : PySem.W.findIn K (.ref C) "likeliest" = some (some (.ref f17)))
    (i17 : PySem.W.isFn K (.ref f17) = true)
    (l17 : K.lookup f17 = some ⟨oc17, od17, .func (PySem.W.fnOf "likeliest" "Drawing.likeliest" (defArgs s_m_likeliest) (defBody s_m_likeliest) (defScope s_m_likeliest) .none kV17 dc17 pm17 an17 cd17 ct17), sl17⟩)
    (c17 : PySem.W.codeIn K cd17 "Drawing.likeliest" = true)
    (k17 : PySem.W.keepIn K (.ref f17) = true)
    (a18 : PySem.W.findIn K (.ref C) "sets_with_at_least" = some (some (.ref f18)))
    (i18 : PySem.W.isFn K (.ref f18) = true)
    (l18 : K.lookup f18 = some ⟨oc18, od18, .func (PySem.W.fnOf "sets_with_at_least" "Drawing.sets_with_at_least" (defArgs s_m_sets_with_at_least) (defBody s_m_sets_with_at_least) (defScope s_m_sets_with_at_least) .none kV18 dc18 pm18 an18 cd18 ct18), sl18⟩)
    (c18 : PySem.W.codeIn K cd18 "Drawing.sets_with_at_least" = true)
    (k18 : PySem.W.keepIn K (.ref f18) = true)
    (a19 : PySem.W.findIn K (.ref C) "atleast" = some (some (.ref f19)))
    (i19 : PySem.W.isFn K (.ref f19) = true)
    (l19 : K.lookup f19 = some ⟨oc19, od19, .func (PySem.W.fnOf "atleast" "Drawing.atleast" (defArgs s_m_atleast) (defBody s_m_atleast) (defScope s_m_atleast) .none kV19 dc19 pm19 an19 cd19 ct19), sl19⟩)
    (c19 : PySem.W.codeIn K cd19 "Drawing.atleast" = true)
    (k19 : PySem.W.keepIn K (.ref f19) = true)
    (a20 : PySem.W.findIn K (.ref C) "mean" = some (some (.ref f20)))
    (i20 : PySem.W.isFn K (.ref f20) = true)
    (l20 : K.lookup f20 = some ⟨oc20, od20, .func (PySem.W.fnOf "mean" "Drawing.mean" (defArgs s_m_mean) (defBody s_m_mean) (defScope s_m_mean) .none kV20 dc20 pm20 an20 cd20 ct20), sl20⟩)
    (c20 : PySem.W.codeIn K cd20 "Drawing.mean" = true)
    (k20 : PySem.W.keepIn K (.ref f20) = true)
    (a21 : PySem.W.findIn K (.ref C) "spread" = some (some (.ref f21)))
    (i21 : PySem.W.isFn K (.ref f21) = true)
    (l21 : K.lookup f21 = some ⟨oc21, od21, .func (PySem.W.fnOf "spread" "Drawing.spread" (defArgs s_m_spread) (defBody s_m_spread) (defScope s_m_spread) .none kV21 dc21 pm21 an21 cd21 ct21), sl21⟩)
    (c21 : PySem.W.codeIn K cd21 "Drawing.spread" = true)
    (k21 : PySem.W.keepIn K (.ref f21) = true)
    (a22 : PySem.W.findIn K (.ref C) "spreadback" = some (some (.ref f22)))
    (i22 : PySem.W.isFn K (.ref f22) = true)
    (l22 : K.lookup f22 = some ⟨oc22, od22, .func (PySem.W.fnOf "spreadback" "Drawing.spreadback" (defArgs s_m_spreadback) (defBody s_m_spreadback) (defScope s_m_spreadback) .none kV22 dc22 pm22 an22 cd22 ct22), sl22⟩)
    (c22 : PySem.W.codeIn K cd22 "Drawing.spreadback" = true)
    (k22 : PySem.W.keepIn K (.ref f22) = true)
    (a23 : PySem.W.findIn K (.ref C) "swapped" = some (some (.ref f23)))
    (i23 : PySem.W.isFn K (.ref f23) = true)
    (l23 : K.lookup f23 = some ⟨oc23, od23, .func (PySem.W.fnOf "swapped" "Drawing.swapped" (defArgs s_m_swapped) (defBody s_m_swapped) (defScope s_m_swapped) .none kV23 dc23 pm23 an23 cd23 ct23), sl23⟩)
    (c23 : PySem.W.codeIn K cd23 "Drawing.swapped" = true)
    (k23 : PySem.W.keepIn K (.ref f23) = true)
    (a24 : PySem.W.findIn K (.ref C) "needed" = some (some (.ref f24)))
    (i24 : PySem.W.isFn K (.ref f24) = true)
    (l24 : K.lookup f24 = some ⟨oc24, od24, .func (PySem.W.fnOf "needed" "Drawing.needed" (defArgs s_m_needed) (defBody s_m_needed) (defScope s_m_needed) .none kV24 dc24 pm24 an24 cd24 ct24), sl24⟩)
    (c24 : PySem.W.codeIn K cd24 "Drawing.needed" = true)
    (k24 : PySem.W.keepIn K (.ref f24) = true)
    (a25 : PySem.W.findIn K (.ref C) "certain" = some (some (.ref f25)))
    (i25 : PySem.W.isFn K (.ref f25) = true)
    (l25 : K.lookup f25 = some ⟨oc25, od25, .func (PySem.W.fnOf "certain" "Drawing.certain" (defArgs s_m_certain) (defBody s_m_certain) (defScope s_m_certain) .none kV25 dc25 pm25 an25 cd25 ct25), sl25⟩)
    (c25 : PySem.W.codeIn K cd25 "Drawing.certain" = true)
    (k25 : PySem.W.keepIn K (.ref f25) = true)
    (a26 : PySem.W.findIn K (.ref C) "comes" = some (some (.ref f26)))
    (i26 : PySem.W.isFn K (.ref f26) = true)
    (l26 : K.lookup f26 = some ⟨oc26, od26, .func (PySem.W.fnOf "comes" "Drawing.comes" (defArgs s_m_comes) (defBody s_m_comes) (defScope s_m_comes) .none kV26 dc26 pm26 an26 cd26 ct26), sl26⟩)
    (c26 : PySem.W.codeIn K cd26 "Drawing.comes" = true)
    (k26 : PySem.W.keepIn K (.ref f26) = true)
    (a27 : PySem.W.findIn K (.ref C) "kthat" = some (some (.ref f27)))
    (i27 : PySem.W.isFn K (.ref f27) = true)
    (l27 : K.lookup f27 = some ⟨oc27, od27, .func (PySem.W.fnOf "kthat" "Drawing.kthat" (defArgs s_m_kthat) (defBody s_m_kthat) (defScope s_m_kthat) .none kV27 dc27 pm27 an27 cd27 ct27), sl27⟩)
    (c27 : PySem.W.codeIn K cd27 "Drawing.kthat" = true)
    (k27 : PySem.W.keepIn K (.ref f27) = true)
    (a28 : PySem.W.findIn K (.ref C) "kthmean" = some (some (.ref f28)))
    (i28 : PySem.W.isFn K (.ref f28) = true)
    (l28 : K.lookup f28 = some ⟨oc28, od28, .func (PySem.W.fnOf "kthmean" "Drawing.kthmean" (defArgs s_m_kthmean) (defBody s_m_kthmean) (defScope s_m_kthmean) .none kV28 dc28 pm28 an28 cd28 ct28), sl28⟩)
    (c28 : PySem.W.codeIn K cd28 "Drawing.kthmean" = true)
    (k28 : PySem.W.keepIn K (.ref f28) = true)
    (a29 : PySem.W.findIn K (.ref C) "guess" = some (some (.ref f29)))
    (i29 : PySem.W.isFn K (.ref f29) = true)
    (l29 : K.lookup f29 = some ⟨oc29, od29, .func (PySem.W.fnOf "guess" "Drawing.guess" (defArgs s_m_guess) (defBody s_m_guess) (defScope s_m_guess) .none kV29 dc29 pm29 an29 cd29 ct29), sl29⟩)
    (c29 : PySem.W.codeIn K cd29 "Drawing.guess" = true)
    (k29 : PySem.W.keepIn K (.ref f29) = true)
    (a30 : PySem.W.findIn K (.ref C) "told" = some (some (.ref f30)))
    (i30 : PySem.W.isFn K (.ref f30) = true)
    (l30 : K.lookup f30 = some ⟨oc30, od30, .func (PySem.W.fnOf "told" "Drawing.told" (defArgs s_m_told) (defBody s_m_told) (defScope s_m_told) .none kV30 dc30 pm30 an30 cd30 ct30), sl30⟩)
    (c30 : PySem.W.codeIn K cd30 "Drawing.told" = true)
    (k30 : PySem.W.keepIn K (.ref f30) = true)
    (a31 : PySem.W.nsIn K mainGlobals "answer_for_n_and_k" = some (some (.ref f31)))
    (l31 : K.lookup f31 = some ⟨oc31, od31, .func (PySem.W.fnOf "answer_for_n_and_k" "answer_for_n_and_k" (defArgs s_answer_for_n_and_k) (defBody s_answer_for_n_and_k) (defScope s_answer_for_n_and_k) .none kV31 dc31 pm31 an31 cd31 ct31), sl31⟩)
    (c31 : PySem.W.codeIn K cd31 "answer_for_n_and_k" = true)
    (k31 : PySem.W.keepIn K (.ref f31) = true)
    (a32 : PySem.W.nsIn K mainGlobals "answer_for_n" = some (some (.ref f32)))
    (l32 : K.lookup f32 = some ⟨oc32, od32, .func (PySem.W.fnOf "answer_for_n" "answer_for_n" (defArgs s_answer_for_n) (defBody s_answer_for_n) (defScope s_answer_for_n) .none kV32 dc32 pm32 an32 cd32 ct32), sl32⟩)
    (c32 : PySem.W.codeIn K cd32 "answer_for_n" = true)
    (k32 : PySem.W.keepIn K (.ref f32) = true)
    (a33 : PySem.W.nsIn K mainGlobals "answer_for_k" = some (some (.ref f33)))
    (l33 : K.lookup f33 = some ⟨oc33, od33, .func (PySem.W.fnOf "answer_for_k" "answer_for_k" (defArgs s_answer_for_k) (defBody s_answer_for_k) (defScope s_answer_for_k) .none kV33 dc33 pm33 an33 cd33 ct33), sl33⟩)
    (c33 : PySem.W.codeIn K cd33 "answer_for_k" = true)
    (k33 : PySem.W.keepIn K (.ref f33) = true)
    (a34 : PySem.W.nsIn K mainGlobals "answer_call" = some (some (.ref f34)))
    (l34 : K.lookup f34 = some ⟨oc34, od34, .func (PySem.W.fnOf "answer_call" "answer_call" (defArgs s_answer_call) (defBody s_answer_call) (defScope s_answer_call) .none kV34 dc34 pm34 an34 cd34 ct34), sl34⟩)
    (c34 : PySem.W.codeIn K cd34 "answer_call" = true)
    (k34 : PySem.W.keepIn K (.ref f34) = true)
    (a35 : PySem.W.nsIn K mainGlobals "answers" = some (some (.ref f35)))
    (l35 : K.lookup f35 = some ⟨oc35, od35, .func (PySem.W.fnOf "answers" "answers" (defArgs s_answers) (defBody s_answers) (defScope s_answers) .none kV35 dc35 pm35 an35 cd35 ct35), sl35⟩)
    (c35 : PySem.W.codeIn K cd35 "answers" = true)
    (k35 : PySem.W.keepIn K (.ref f35) = true)
    (pg : PySem.W.plainGet K C Str.empty = true)
    (hd : PySem.W.hasDictIn K C = true)
    (po : PySem.W.plainOver K C = true)
    (sa : PySem.W.findIn K (.ref C) "__setattr__" = some (some (.builtin "object.__setattr__")))
    (mk : PySem.W.makesIn K C = true)
    (kc : PySem.W.keepIn K (.ref C) = true)
    (n_begun : PySem.W.findIn K (.ref C) "begun" = some none)
    (n_red : PySem.W.findIn K (.ref C) "red" = some none)
    (n_other : PySem.W.findIn K (.ref C) "other" = some none)
    (n_drawn : PySem.W.findIn K (.ref C) "drawn" = some none)
    (z1 : PySem.W.nsIn K mainGlobals "len" = some none)
    (z2 : PySem.W.nsIn K mainGlobals "range" = some none)
    (z3 : PySem.W.nsIn K mainGlobals "sum" = some none)
    (z4 : PySem.W.nsIn K mainGlobals "max" = some none)
    (e0 : PySem.W.nsIn K mainGlobals "MOST_THINGS" = some (some (.int (24) tk0)))
    (e1 : PySem.W.nsIn K mainGlobals "MOST_BELOW" = some (some (.int (1000) tk1)))
    (e2 : PySem.W.nsIn K mainGlobals "NOT_AS_TOLD" = some (some (.int (-22) tk2)))
    (e3 : PySem.W.nsIn K mainGlobals "TOO_FEW_LEFT" = some (some (.int (-6) tk3)))
    (e4 : PySem.W.nsIn K mainGlobals "NO_SUCH_LEFT" = some (some (.int (-33) tk4)))
    (e5 : PySem.W.nsIn K mainGlobals "NONE_DRAWN" = some (some (.int (-12) tk5)))
    (e6 : PySem.W.nsIn K mainGlobals "NOT_BEGUN" = some (some (.int (-11) tk6)))
    (e7 : PySem.W.nsIn K mainGlobals "BEGIN" = some (some (.int (0) tk7)))
    (e8 : PySem.W.nsIn K mainGlobals "DRAW" = some (some (.int (1) tk8)))
    (e9 : PySem.W.nsIn K mainGlobals "BACK" = some (some (.int (2) tk9)))
    (e10 : PySem.W.nsIn K mainGlobals "CHANCE" = some (some (.int (3) tk10)))
    (e11 : PySem.W.nsIn K mainGlobals "JUST" = some (some (.int (4) tk11)))
    (e12 : PySem.W.nsIn K mainGlobals "ALL_OF" = some (some (.int (5) tk12)))
    (e13 : PySem.W.nsIn K mainGlobals "LIKELIEST" = some (some (.int (6) tk13)))
    (e14 : PySem.W.nsIn K mainGlobals "MEAN" = some (some (.int (7) tk14)))
    (e15 : PySem.W.nsIn K mainGlobals "SPREAD" = some (some (.int (8) tk15)))
    (e16 : PySem.W.nsIn K mainGlobals "SPREADBACK" = some (some (.int (9) tk16)))
    (e17 : PySem.W.nsIn K mainGlobals "ATLEAST" = some (some (.int (10) tk17)))
    (e18 : PySem.W.nsIn K mainGlobals "NEEDED" = some (some (.int (11) tk18)))
    (e19 : PySem.W.nsIn K mainGlobals "KTHAT" = some (some (.int (12) tk19)))
    (e20 : PySem.W.nsIn K mainGlobals "KTHMEAN" = some (some (.int (13) tk20)))
    (e21 : PySem.W.nsIn K mainGlobals "TWO" = some (some (.int (14) tk21)))
    (e22 : PySem.W.nsIn K mainGlobals "SWAPPED" = some (some (.int (15) tk22)))
    (e23 : PySem.W.nsIn K mainGlobals "CERTAIN" = some (some (.int (17) tk23)))
    (e24 : PySem.W.nsIn K mainGlobals "TOLD" = some (some (.int (18) tk24)))
    (u0 : PySem.W.nsIn K mainGlobals "ARGUMENT_COUNTS" = some (some (.ref ta0)))
    (v0 : K.lookup ta0 = some ⟨.type "tuple", od_t0, .seq #[.int 2 w0_0, .int 1 w0_1, .int 0 w0_2, .int 0 w0_3, .int 2 w0_4, .int 1 w0_5, .int 1 w0_6, .int 1 w0_7, .int 1 w0_8, .int 1 w0_9, .int 2 w0_10, .int 3 w0_11, .int 2 w0_12, .int 1 w0_13, .int 2 w0_14, .int 2 w0_15, .int 2 w0_16, .int 1 w0_17, .int 0 w0_18] nt0, sl_t0⟩)
    : ∃ fd : FuncData, (∀ (s : Shared) (us : List Value), us.length = (["calls"] : List Str).length → BindsTo s fd ⟨us, []⟩ ((["calls"] : List Str).zip us)) ∧ ∀ base : Heap, K.In base → base.Ns mainGlobals mg → FnOk P w K mg base CX0 9 fa fd ["calls"] (sp_answers K) := by
  have e := hfa.symm.trans (PySem.W.mg_of X G a35)
  cases e
  exact ⟨PySem.W.fnOf "answers" "answers" (defArgs s_answers) (defBody s_answers) (defScope s_answers) .none kV35 dc35 pm35 an35 cd35 ct35, fun s us hu => match us, hu with | [_], _ => .of_eq rfl, fun base _ _ => ok_answers (tx_mk X G aC a1 l1 c1 k1 a2 l2 c2 k2 a3 l3 c3 k3 a4 l4 c4 k4 a5 l5 c5 k5 a6 i6 l6 c6 k6 a7 i7 l7 c7 k7 a8 i8 l8 c8 k8 a9 i9 l9 c9 k9 a10 i10 l10 c10 k10 a11 i11 l11 c11 k11 a12 i12 l12 c12 k12 a13 i13 l13 c13 k13 a14 i14 l14 c14 k14 a15 i15 l15 c15 k15 a16 i16 l16 c16 k16 a17 i17 l17 c17 k17 a18 i18 l18 c18 k18 a19 i19 l19 c19 k19 a20 i20 l20 c20 k20 a21 i21 l21 c21 k21 a22 i22 l22 c22 k22 a23 i23 l23 c23 k23 a24 i24 l24 c24 k24 a25 i25 l25 c25 k25 a26 i26 l26 c26 k26 a27 i27 l27 c27 k27 a28 i28 l28 c28 k28 a29 i29 l29 c29 k29 a30 i30 l30 c30 k30 a31 l31 c31 k31 a32 l32 c32 k32 a33 l33 c33 k33 a34 l34 c34 k34 a35 l35 c35 k35 pg hd po sa mk kc n_begun n_red n_other n_drawn z1 z2 z3 z4 e0 e1 e2 e3 e4 e5 e6 e7 e8 e9 e10 e11 e12 e13 e14 e15 e16 e17 e18 e19 e20 e21 e22 e23 e24 u0 v0)⟩
end Red
open PySem PySem.W PyProof.Rows
set_option maxRecDepth 100000 in
set_option maxHeartbeats 0 in
theorem PySem.Challenge.cw_redthings_s01_answers_holds : PySem.Challenge.rw_redthings_s01_answers.Holds := by
  w_on; k_headS; (case hw => exact ⟨[.list [.int 18]], by decide +kernel, by decide +kernel⟩)
  k_fillS
  refine L2.walk_specK (r := PySem.Challenge.rw_redthings_s01_answers) (k := 9) (CX := L2.CX0) (ps := ["calls"]) (sp := Red.sp_answers) (by decide +kernel) rfl rfl ⟨rfl, by decide, by decide⟩ (fun w h Y => PySem.W.kIn_of Y) ?F ?S (fun _ _ _ _ z => z)
  case F =>
    intro w mg fa h Y KX G hmg
    refine' Red.all_mk KX G hmg ?aC ?a1 ?l1 ?c1 ?k1 ?a2 ?l2 ?c2 ?k2 ?a3 ?l3 ?c3 ?k3 ?a4 ?l4 ?c4 ?k4 ?a5 ?l5 ?c5 ?k5 ?a6 ?i6 ?l6 ?c6 ?k6 ?a7 ?i7 ?l7 ?c7 ?k7 ?a8 ?i8 ?l8 ?c8 ?k8 ?a9 ?i9 ?l9 ?c9 ?k9 ?a10 ?i10 ?l10 ?c10 ?k10 ?a11 ?i11 ?l11 ?c11 ?k11 ?a12 ?i12 ?l12 ?c12 ?k12 ?a13 ?i13 ?l13 ?c13 ?k13 ?a14 ?i14 ?l14 ?c14 ?k14 ?a15 ?i15 ?l15 ?c15 ?k15 ?a16 ?i16 ?l16 ?c16 ?k16 ?a17 ?i17 ?l17 ?c17 ?k17 ?a18 ?i18 ?l18 ?c18 ?k18 ?a19 ?i19 ?l19 ?c19 ?k19 ?a20 ?i20 ?l20 ?c20 ?k20 ?a21 ?i21 ?l21 ?c21 ?k21 ?a22 ?i22 ?l22 ?c22 ?k22 ?a23 ?i23 ?l23 ?c23 ?k23 ?a24 ?i24 ?l24 ?c24 ?k24 ?a25 ?i25 ?l25 ?c25 ?k25 ?a26 ?i26 ?l26 ?c26 ?k26 ?a27 ?i27 ?l27 ?c27 ?k27 ?a28 ?i28 ?l28 ?c28 ?k28 ?a29 ?i29 ?l29 ?c29 ?k29 ?a30 ?i30 ?l30 ?c30 ?k30 ?a31 ?l31 ?c31 ?k31 ?a32 ?l32 ?c32 ?k32 ?a33 ?l33 ?c33 ?k33 ?a34 ?l34 ?c34 ?k34 ?a35 ?l35 ?c35 ?k35 ?pg ?hd ?po ?sa ?mk ?kc ?n_begun ?n_red ?n_other ?n_drawn ?z1 ?z2 ?z3 ?z4 ?e0 ?e1 ?e2 ?e3 ?e4 ?e5 ?e6 ?e7 ?e8 ?e9 ?e10 ?e11 ?e12 ?e13 ?e14 ?e15 ?e16 ?e17 ?e18 ?e19 ?e20 ?e21 ?e22 ?e23 ?e24 ?u0 ?v0
    (case aC => k_is)
    (case a1 => k_is)
    (case l1 => k_is)
    (case c1 => k_is)
    (case k1 => k_is)
    (case a2 => k_is)
    (case l2 => k_is)
    (case c2 => k_is)
    (case k2 => k_is)
    (case a3 => k_is)
    (case l3 => k_is)
    (case c3 => k_is)
    (case k3 => k_is)
    (case a4 => k_is)
    (case l4 => k_is)
    (case c4 => k_is)
    (case k4 => k_is)
    (case a5 => k_is)
    (case l5 => k_is)
    (case c5 => k_is)
    (case k5 => k_is)
    (case a6 => k_is)
    (case i6 => k_is)
    (case l6 => k_is)
    (case c6 => k_is)
    (case k6 => k_is)
    (case a7 => k_is)
    (case i7 => k_is)
    (case l7 => k_is)
    (case c7 => k_is)
    (case k7 => k_is)
    (case a8 => k_is)
    (case i8 => k_is)
    (case l8 => k_is)
    (case c8 => k_is)
    (case k8 => k_is)
    (case a9 => k_is)
    (case i9 => k_is)
    (case l9 => k_is)
    (case c9 => k_is)
    (case k9 => k_is)
    (case a10 => k_is)
    (case i10 => k_is)
    (case l10 => k_is)
    (case c10 => k_is)
    (case k10 => k_is)
    (case a11 => k_is)
    (case i11 => k_is)
    (case l11 => k_is)
    (case c11 => k_is)
    (case k11 => k_is)
    (case a12 => k_is)
    (case i12 => k_is)
    (case l12 => k_is)
    (case c12 => k_is)
    (case k12 => k_is)
    (case a13 => k_is)
    (case i13 => k_is)
    (case l13 => k_is)
    (case c13 => k_is)
    (case k13 => k_is)
    (case a14 => k_is)
    (case i14 => k_is)
    (case l14 => k_is)
    (case c14 => k_is)
    (case k14 => k_is)
    (case a15 => k_is)
    (case i15 => k_is)
    (case l15 => k_is)
    (case c15 => k_is)
    (case k15 => k_is)
    (case a16 => k_is)
    (case i16 => k_is)
    (case l16 => k_is)
    (case c16 => k_is)
    (case k16 => k_is)
    (case a17 => k_is)
    (case i17 => k_is)
    (case l17 => k_is)
    (case c17 => k_is)
    (case k17 => k_is)
    (case a18 => k_is)
    (case i18 => k_is)
    (case l18 => k_is)
    (case c18 => k_is)
    (case k18 => k_is)
    (case a19 => k_is)
    (case i19 => k_is)
    (case l19 => k_is)
    (case c19 => k_is)
    (case k19 => k_is)
    (case a20 => k_is)
    (case i20 => k_is)
    (case l20 => k_is)
    (case c20 => k_is)
    (case k20 => k_is)
    (case a21 => k_is)
    (case i21 => k_is)
    (case l21 => k_is)
    (case c21 => k_is)
    (case k21 => k_is)
    (case a22 => k_is)
    (case i22 => k_is)
    (case l22 => k_is)
    (case c22 => k_is)
    (case k22 => k_is)
    (case a23 => k_is)
    (case i23 => k_is)
    (case l23 => k_is)
    (case c23 => k_is)
    (case k23 => k_is)
    (case a24 => k_is)
    (case i24 => k_is)
    (case l24 => k_is)
    (case c24 => k_is)
    (case k24 => k_is)
    (case a25 => k_is)
    (case i25 => k_is)
    (case l25 => k_is)
    (case c25 => k_is)
    (case k25 => k_is)
    (case a26 => k_is)
    (case i26 => k_is)
    (case l26 => k_is)
    (case c26 => k_is)
    (case k26 => k_is)
    (case a27 => k_is)
    (case i27 => k_is)
    (case l27 => k_is)
    (case c27 => k_is)
    (case k27 => k_is)
    (case a28 => k_is)
    (case i28 => k_is)
    (case l28 => k_is)
    (case c28 => k_is)
    (case k28 => k_is)
    (case a29 => k_is)
    (case i29 => k_is)
    (case l29 => k_is)
    (case c29 => k_is)
    (case k29 => k_is)
    (case a30 => k_is)
    (case i30 => k_is)
    (case l30 => k_is)
    (case c30 => k_is)
    (case k30 => k_is)
    (case a31 => k_is)
    (case l31 => k_is)
    (case c31 => k_is)
    (case k31 => k_is)
    (case a32 => k_is)
    (case l32 => k_is)
    (case c32 => k_is)
    (case k32 => k_is)
    (case a33 => k_is)
    (case l33 => k_is)
    (case c33 => k_is)
    (case k33 => k_is)
    (case a34 => k_is)
    (case l34 => k_is)
    (case c34 => k_is)
    (case k34 => k_is)
    (case a35 => k_is)
    (case l35 => k_is)
    (case c35 => k_is)
    (case k35 => k_is)
    (case pg => k_is)
    (case hd => k_is)
    (case po => k_is)
    (case sa => k_is)
    (case mk => k_is)
    (case kc => k_is)
    (case n_begun => k_is)
    (case n_red => k_is)
    (case n_other => k_is)
    (case n_drawn => k_is)
    (case z1 => k_is)
    (case z2 => k_is)
    (case z3 => k_is)
    (case z4 => k_is)
    (case e0 => k_is)
    (case e1 => k_is)
    (case e2 => k_is)
    (case e3 => k_is)
    (case e4 => k_is)
    (case e5 => k_is)
    (case e6 => k_is)
    (case e7 => k_is)
    (case e8 => k_is)
    (case e9 => k_is)
    (case e10 => k_is)
    (case e11 => k_is)
    (case e12 => k_is)
    (case e13 => k_is)
    (case e14 => k_is)
    (case e15 => k_is)
    (case e16 => k_is)
    (case e17 => k_is)
    (case e18 => k_is)
    (case e19 => k_is)
    (case e20 => k_is)
    (case e21 => k_is)
    (case e22 => k_is)
    (case e23 => k_is)
    (case e24 => k_is)
    (case u0 => k_is)
    (case v0 => k_is)
  case S =>
    intro K H xs a hO hwi hask hx
    cases hx with
    | cons h1 h2 =>
      cases h2
      cases h1 with
      | lst hs ha =>
        have e := L2.ints_dw a.1 _ ha
        subst e
        exact ⟨_, a.1, rfl, hs, hask, fun H' p hp => .lst (L2.SqL.of hp) (L2.dw_ints _)⟩
#print axioms PySem.Challenge.cw_redthings_s01_answers_holds


end
