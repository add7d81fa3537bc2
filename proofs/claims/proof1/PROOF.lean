import PyProof.Rows.All
import Wide.All
import OpenK.AllK
import Wide.FinOn
import PyProof.EqAt
import PyProof.EqKinds
import PyProof.TupleCall
import KE.BitLaws
import Open.SpecLaws
import KE.OsHead
import KE.OsGo
import PySem.Challenge.RW_doorcardsdesk_s01_answers
set_option Elab.async false
set_option linter.all false
set_option maxRecDepth 100000
/-! THE HAND LAYER, for ints, bools, texts, own classes, lists, tuples, dicts, comprehensions, walks over dicts, enumerate, zip, reversed, texts, calls, loops. Paste it whole ahead of your own text; what your proof does not reach may be deleted. -/
namespace L2
open PySem PySem.Spec PyProof.Rows

/-- a key: an int or a str -/
abbrev Key := Sum Int Str
def keyIs : Key → Value → Bool
  | .inl k, v => Value.isInt k v
  | .inr x, v => Value.isStrOf x v
def keyH (w : World) : Key → Int
  | .inl k => hashInt k
  | .inr x => hashStr w x
theorem keyIs_shape : ∀ {k : Key} {v : Value}, keyIs k v = true → (∃ i t, k = Sum.inl i ∧ v = Value.int i t) ∨ (∃ x t, k = Sum.inr x ∧ v = Value.str x t)
  | .inl i, v, h => by
    obtain ⟨t, e⟩ := Value.isInt_shape (k := i) (v := v) h
    exact .inl ⟨i, t, rfl, e⟩
  | .inr x, v, h => by
    obtain ⟨t, e⟩ := Value.isStrOf_shape (x := x) (v := v) h
    exact .inr ⟨x, t, rfl, e⟩
theorem key_ll (a b : Int) : decide ((Sum.inl a : Key) = Sum.inl b) = (a == b) := by
  by_cases e : a = b
  · subst e; simp
  · have h : ¬ (Sum.inl a : Key) = Sum.inl b := fun q => e (Sum.inl.inj q)
    rw [decide_eq_false h]
    exact (beq_eq_false_iff_ne.mpr e).symm
theorem key_rr (a b : Str) : decide ((Sum.inr a : Key) = Sum.inr b) = decide (a = b) := by
  by_cases e : a = b
  · subst e; simp
  · have h : ¬ (Sum.inr a : Key) = Sum.inr b := fun q => e (Sum.inr.inj q)
    rw [decide_eq_false h, decide_eq_false e]
theorem key_lr (a : Int) (b : Str) : decide ((Sum.inl a : Key) = Sum.inr b) = false := decide_eq_false (fun q => nomatch q)
theorem key_rl (a : Str) (b : Int) : decide ((Sum.inr a : Key) = Sum.inl b) = false := decide_eq_false (fun q => nomatch q)

def mixKind (prog : Program) (w : World) : PySem.KeyKind prog w Key where
  is := keyIs
  hash := keyH w
  inj := fun v a b ha hb => by
    rcases keyIs_shape ha with ⟨i, t, rfl, rfl⟩ | ⟨x, t, rfl, rfl⟩
    · rcases keyIs_shape hb with ⟨j, u, rfl, e⟩ | ⟨y, u, rfl, e⟩
      · injection e with e1 _; rw [e1]
      · exact nomatch e
    · rcases keyIs_shape hb with ⟨j, u, rfl, e⟩ | ⟨y, u, rfl, e⟩
      · exact nomatch e
      · injection e with e1 _; rw [e1]
  byValue := fun k v h => by
    rcases keyIs_shape h with ⟨i, t, rfl, rfl⟩ | ⟨x, t, rfl, rfl⟩ <;> rfl
  pyHash := fun hv h => by
    rcases keyIs_shape hv with ⟨i, t, rfl, rfl⟩ | ⟨x, t, rfl, rfl⟩
    · exact wpAny_pyHash_int h
    · exact wpAny_pyHash_str h
  eqBool := fun hu hv h => by
    rcases keyIs_shape hu with ⟨i, t, rfl, rfl⟩ | ⟨x, t, rfl, rfl⟩
    · rcases keyIs_shape hv with ⟨j, u, rfl, rfl⟩ | ⟨y, u, rfl, rfl⟩
      · rw [key_ll] at h; exact wpAny_eqBool_int h
      · rw [key_lr] at h; exact SeqAt.EqAt.int_str i t y u _ _ _ _ h
    · rcases keyIs_shape hv with ⟨j, u, rfl, rfl⟩ | ⟨y, u, rfl, rfl⟩
      · rw [key_rl] at h; exact SeqAt.EqAt.str_int x t j u _ _ _ _ h
      · rw [key_rr] at h; exact wpAny_eqBool_str h
  «strs» := fun k x t v h => by
    rcases keyIs_shape h with ⟨i, u, rfl, e⟩ | ⟨y, u, rfl, e⟩
    · exact nomatch e
    · injection e with e1 _
      subst e1
      cases v <;> rfl

end L2

namespace L2
open PySem PySem.Spec PyProof.Rows

/-- a value, without the heap -/
inductive V where
  | non | bl (b : Bool) | int (i : Int) | str (x : Str) | byt (b : Array UInt8) | flt (b : UInt64) | ref (a : Addr) | ty (n : String)
  deriving DecidableEq

def RelV : V → Value → Prop
  | .non, u => u = Value.none
  | .bl b, u => u = Value.bool b
  | .int i, u => ∃ t, u = Value.int i t
  | .str x, u => ∃ t, u = Value.str x t
  | .byt b, u => ∃ t, u = Value.bytes b t
  | .flt b, u => ∃ t, u = Value.float b t
  | .ref a, u => u = Value.ref a
  | .ty n, u => u = Value.type n

abbrev Vals : List V → List Value → Prop := Paired RelV
theorem Vals.length {xs : List V} {us : List Value} (r : Vals xs us) : xs.length = us.length := Paired.length r
theorem Vals.get : ∀ {xs : List V} {us : List Value} {i : Nat} {x : V}, Vals xs us → xs[i]? = some x → ∃ u, us[i]? = some u ∧ RelV x u
  | _, _, _, _, .nil, e => by simp at e
  | _, _, 0, _, .cons r _, e => by simp at e; subst e; exact ⟨_, rfl, r⟩
  | _, _, i + 1, x, .cons _ t, e => by
    obtain ⟨u, h1, h2⟩ := Vals.get (i := i) (x := x) t (by simpa using e)
    exact ⟨u, by simpa using h1, h2⟩
theorem Vals.set {x : V} {u : Value} (r : RelV x u) : ∀ {xs : List V} {us : List Value} (i : Nat), Vals xs us → Vals (xs.set i x) (us.set i u)
  | _, _, _, .nil => .nil
  | _, _, 0, .cons _ t => .cons r t
  | _, _, i + 1, .cons q t => .cons q (Vals.set r i t)
theorem Vals.append : ∀ {xs ys : List V} {us ws : List Value}, Vals xs us → Vals ys ws → Vals (xs ++ ys) (us ++ ws)
  | _, _, _, _, .nil, s => s
  | _, _, _, _, .cons r t, s => .cons r (Vals.append t s)
theorem Vals.take : ∀ {xs : List V} {us : List Value} (n : Nat), Vals xs us → Vals (xs.take n) (us.take n)
  | _, _, 0, _ => .nil
  | _, _, _ + 1, .nil => .nil
  | _, _, n + 1, .cons r t => .cons r (Vals.take n t)
theorem Vals.drop : ∀ {xs : List V} {us : List Value} (n : Nat), Vals xs us → Vals (xs.drop n) (us.drop n)
  | _, _, 0, r => r
  | _, _, _ + 1, .nil => .nil
  | _, _, n + 1, .cons _ t => Vals.drop n t
theorem Vals.none_of : ∀ {xs : List V} {us : List Value} {i : Nat}, Vals xs us → xs[i]? = none → us[i]? = none := fun {xs us i} r e => by
  have h1 := r.length
  have h2 : xs.length ≤ i := List.getElem?_eq_none_iff.mp e
  exact List.getElem?_eq_none_iff.mpr (by omega)

def RelO : Option V → Option Value → Prop
  | some v, some u => RelV v u
  | none, none => True
  | _, _ => False
def KV {κ : Type} : List (κ × V) → List (κ × Value) → Prop := Paired fun (p : κ × V) (q : κ × Value) => p.1 = q.1 ∧ RelV p.2 q.2

/-- a key of a dict (00_mix): an int or a text -/
def kV : Key → V
  | .inl i => .int i
  | .inr x => .str x

/-- what stands at a tracked address -/
inductive HO where
  /-- a list -/
  | lst (xs : List V)
  /-- a tuple (never changes) -/
  | tup (xs : List V)
  /-- a dict whose keys are ints and texts; one whose keys are tuples of ints and texts (the empty one is both) -/
  | dK (kvs : List (Key × V)) | dT (kvs : List (List Key × V))
  /-- a set of ints: its members, its size -/
  | set (S : Int → Bool) (n : Nat)
  /-- an instance of the class at C, its dict at dx, its attributes -/
  | ins (C dx : Addr) (fs : List (Str × V))
  /-- the dict of the instance at x -/
  | own (x : Addr)
  /-- the dict of an exception -/
  | xd (fs : List (Str × V))
  /-- a bound method, f of x -/
  | met (f x : Addr)
  /-- a range object lo, lo + 1, .. below hi -/
  | rng (lo hi : Int)
  /-- a thing that is known to the object (the script; a dict while a loop walks it): read, never written while it is so -/
  | frz (o : Obj) (u : HO)
  /-- a code object's table -/
  | tbl (ps : Array Value)
  /-- any other thing, by what is true of its one object (a def of one's own: SetO a S n := HO.ext fun h => ..) -/
  | ext (φ : Heap → Prop)

abbrev Hp := Addr → Option HO
def upd (H : Hp) (a : Addr) (o : HO) : Hp := fun b => if b = a then some o else H b
theorem upd_same {H : Hp} {a : Addr} {o : HO} : upd H a o a = some o := by unfold upd; rw [if_pos rfl]
theorem upd_ne {H : Hp} {a b : Addr} {o : HO} (h : b ≠ a) : upd H a o b = H b := by unfold upd; rw [if_neg h]
theorem upd_upd {H : Hp} {a : Addr} {o u : HO} : upd (upd H a o) a u = upd H a u := by
  funext b; unfold upd; split <;> rfl
/-- two objects of different content stand apart -/
theorem ne_of {H : Hp} {a b : Addr} {o u : HO} (h : H a = some o) (h' : H b = some u) (d : o ≠ u) : a ≠ b := by
  intro e; subst e; rw [h] at h'; exact d (Option.some.inj h')
theorem ne_of_none {H : Hp} {a b : Addr} {o : HO} (h : H a = some o) (h' : H b = none) : a ≠ b := by
  intro e; subst e; rw [h] at h'; cases h'

section
variable (P : Program) (w : World)
def ObjOk (H : Hp) (h : Heap) (a : Addr) : HO → Prop
  | .lst xs => xs.length ≤ sizeLine ∧ ∃ (its : List Value) (n : Nat), Vals xs its ∧ h.get? a = some { cls := .type "list", data := .seq its.toArray n }
  | .tup xs => xs.length ≤ sizeLine ∧ ∃ its : List Value, Vals xs its ∧ IsTup h a its.toArray
  | .dK kvs => kvs.length ≤ sizeLine ∧ (a == sysModules) = false ∧ ∃ vs, KV kvs vs ∧ h.DictOf (mixKind P w) a vs
  | .dT kvs => kvs.length ≤ sizeLine ∧ (a == sysModules) = false ∧ ∃ xs : List (List Key × Addr × Value),
      Paired (fun (p : List Key × V) (q : List Key × Addr × Value) => p.1 = q.1 ∧ H q.2.1 = some (.tup (p.1.map kV)) ∧ RelV p.2 q.2.2) kvs xs ∧
      ∃ o es ep, h.get? a = some o ∧ o.ExactDict ∧ o.data = .dict es ep ∧ es.toList = xs.map (entryOfKey (tupleKind (mixKind P w))) ∧ (xs.map (·.1)).Nodup
  | .set S n => h.SetOf (intKind P w) a S n
  | .ins C dx fs => H dx = some (.own a) ∧ fs.length ≤ 1000 ∧ dx ≠ a ∧ h.get? a = some (PySem.W.instObj C dx) ∧
      ∃ mA, h.Ns1 dx mA ∧ (∀ f, RelO (fs.lookup f) (mA f)) ∧ PySem.Within mA (fs.map (·.1))
  | .own _ => ∃ o, h.get? a = some o
  | .xd fs => ∃ mA, h.Ns1 a mA ∧ ∀ f, RelO (fs.lookup f) (mA f)
  | .rng lo hi => ∃ t u v, h.get? a = some { cls := .type "range", data := .fields #[.int lo t, .int hi u, .int 1 v] }
  | .frz o u => h.get? a = some o ∧ ObjOk H h a u
  | .tbl ps => h.get? a = some { cls := .none, data := .fields ps }
  | .met f x => h.get? a = some (PySem.W.methodObj (.ref f) (.ref x))
  | .ext φ => φ h ∧ (∃ o, h.get? a = some o) ∧ ∀ h1 h2 : Heap, φ h1 → (∀ o, h1.get? a = some o → h2.get? a = some o) → φ h2
/-- the abstract heap is held -/
def HOk (H : Hp) (h : Heap) : Prop := ∀ a o, H a = some o → ObjOk P w H h a o
end

section
variable {P : Program} {w : World} {H H' : Hp} {h h' : Heap} {a : Addr} {o : HO}
theorem ObjOk.lt (x : ObjOk P w H h a o) : a < h.objs.size := by
  cases o with
  | lst xs => obtain ⟨_, _, _, _, e⟩ := x; exact Heap.lt_size e
  | tup xs => obtain ⟨_, _, _, p⟩ := x; exact p.lt
  | dK kvs => obtain ⟨_, _, _, _, o, _, _, e, _⟩ := x; exact Heap.lt_size e
  | dT kvs => obtain ⟨_, _, _, _, o, _, _, e, _⟩ := x; exact Heap.lt_size e
  | set S n => obtain ⟨o, _, _, _, e, _⟩ := x; exact Heap.lt_size e
  | ins C dx fs => obtain ⟨_, _, _, e, _⟩ := x; exact Heap.lt_size e
  | own y => obtain ⟨_, e⟩ := x; exact Heap.lt_size e
  | xd fs => obtain ⟨_, ⟨_, _, _, e, _⟩, _⟩ := x; exact Heap.lt_size e
  | rng lo hi => obtain ⟨_, _, _, e⟩ := x; exact Heap.lt_size e
  | frz ob u => obtain ⟨e, _⟩ := x; exact Heap.lt_size e
  | tbl ps => exact Heap.lt_size (show h.get? a = some _ from x)
  | met f y => exact Heap.lt_size (show h.get? a = some _ from x)
  | ext φ => obtain ⟨_, ⟨_, e⟩, _⟩ := x; exact Heap.lt_size e
theorem Paired.mapP {α β : Type} {F G : α → β → Prop} : ∀ {l₁ : List α} {l₂ : List β}, Paired F l₁ l₂ → (∀ a b, F a b → G a b) → Paired G l₁ l₂
  | _, _, .nil, _ => .nil
  | _, _, .cons r t, f => .cons (f _ _ r) (Paired.mapP t f)
/-- what an object's description leans on: its own object, its own dict, the tuples -/
theorem ObjOk.stay (x : ObjOk P w H h a o) (k : ∀ b u, (b = a ∨ H b = some (.own a)) → h.get? b = some u → h'.get? b = some u)
    (ho : ∀ b, H b = some (.own a) → H' b = some (.own a)) (ht : ∀ b xs, H b = some (.tup xs) → H' b = some (.tup xs)) : ObjOk P w H' h' a o := by
  induction o with
  | lst xs => obtain ⟨z, its, n, r, e⟩ := x; exact ⟨z, its, n, r, k _ _ (.inl rfl) e⟩
  | tup xs => obtain ⟨z, its, r, ob, e, c⟩ := x; exact ⟨z, its, r, ob, k _ _ (.inl rfl) e, c⟩
  | dK kvs => obtain ⟨z, y, vs, r, ob, es, ep, e, c⟩ := x; exact ⟨z, y, vs, r, ob, es, ep, k _ _ (.inl rfl) e, c⟩
  | dT kvs =>
    obtain ⟨z, y, xs, r, ob, es, ep, e, c⟩ := x
    exact ⟨z, y, xs, Paired.mapP r fun p q z => ⟨z.1, ht _ _ z.2.1, z.2.2⟩, ob, es, ep, k _ _ (.inl rfl) e, c⟩
  | set S n => obtain ⟨ob, es, ep, t, e, c⟩ := x; exact ⟨ob, es, ep, t, k _ _ (.inl rfl) e, c⟩
  | ins C dx fs =>
    obtain ⟨d, z, ne, e, mA, ⟨od, es, ep, e2, c⟩, r⟩ := x
    exact ⟨ho _ d, z, ne, k _ _ (.inl rfl) e, mA, ⟨od, es, ep, k _ _ (.inr d) e2, c⟩, r⟩
  | own y => obtain ⟨ob, e⟩ := x; exact ⟨ob, k _ _ (.inl rfl) e⟩
  | xd fs => obtain ⟨mA, ⟨od, es, ep, e, c⟩, r⟩ := x; exact ⟨mA, ⟨od, es, ep, k _ _ (.inl rfl) e, c⟩, r⟩
  | rng lo hi => obtain ⟨t, u, v, e⟩ := x; exact ⟨t, u, v, k _ _ (.inl rfl) e⟩
  | frz ob u ih => obtain ⟨e, q⟩ := x; exact ⟨k _ _ (.inl rfl) e, ih q⟩
  | tbl ps =>
    have e : h.get? a = some { cls := .none, data := .fields ps } := x
    show h'.get? a = some { cls := .none, data := .fields ps }
    exact k a _ (.inl rfl) e
  | met f y =>
    have e : h.get? a = some (PySem.W.methodObj (.ref f) (.ref y)) := x
    show h'.get? a = some (PySem.W.methodObj (.ref f) (.ref y))
    exact k a _ (.inl rfl) e
  | ext φ => obtain ⟨p, ⟨o, e⟩, st⟩ := x; exact ⟨st _ _ p fun o q => k _ _ (.inl rfl) q, ⟨o, k _ _ (.inl rfl) e⟩, st⟩
theorem HOk.lt (x : HOk P w H h) (e : H a = some o) : a < h.objs.size := (x a o e).lt
theorem HOk.fresh (x : HOk P w H h) (e : h.objs.size ≤ a) : H a = none := by
  cases q : H a with
  | none => rfl
  | some u => exact absurd (Nat.lt_of_lt_of_le (x.lt q) e) (Nat.lt_irrefl _)
/-- every object of the heap is kept -/
theorem HOk.kept (x : HOk P w H h) (k : ∀ b u, h.get? b = some u → h'.get? b = some u) : HOk P w H h' := fun a o e =>
  (x a o e).stay (fun b u _ q => k b u q) (fun _ q => q) fun _ _ q => q
/-- a new object is laid and tracked -/
theorem HOk.laid (x : HOk P w H h) (k : ∀ b u, h.get? b = some u → h'.get? b = some u) (hp : h.objs.size ≤ a) (new : ObjOk P w (upd H a o) h' a o) : HOk P w (upd H a o) h' := fun b u e => by
  have hn := x.fresh hp
  by_cases hb : b = a
  · subst hb; rw [upd_same] at e; cases e; exact new
  · rw [upd_ne hb] at e
    exact (x b u e).stay (fun c v _ q => k c v q) (fun c q => by rw [upd_ne (ne_of_none q hn)]; exact q) fun c xs q => by rw [upd_ne (ne_of_none q hn)]; exact q
end

/-- what may be read as u: it is u, or a known u -/
def Rd (H : Hp) (a : Addr) (u : HO) : Prop := H a = some u ∨ ∃ o, H a = some (.frz o u)
theorem Rd.of {H : Hp} {a : Addr} {u : HO} (h : H a = some u) : Rd H a u := .inl h
theorem Rd.ok {P : Program} {w : World} {H : Hp} {h : Heap} {a : Addr} {u : HO} (r : Rd H a u) (x : HOk P w H h) : ObjOk P w H h a u := by
  rcases r with r | ⟨o, r⟩
  · exact x a u r
  · obtain ⟨_, q⟩ := x a _ r
    exact q
/-- what may be written -/
def Mut : Option HO → Prop
  | some (.lst _) => True
  | some (.dK _) => True
  | some (.dT _) => True
  | some (.set _ _) => True
  | some (.ins _ _ _) => True
  | some (.ext _) => True
  | _ => False
section
variable {P : Program} {w : World} {H : Hp} {h h' : Heap} {x e : Addr} {o' : HO}
/-- the object at e is changed: x itself, or the dict of the instance x -/
theorem HOk.write (ok : HOk P w H h) (mu : Mut (H x)) (he : e = x ∨ H e = some (.own x)) (k : ∀ b u, b ≠ e → h.get? b = some u → h'.get? b = some u) (heo : ∃ u, h'.get? e = some u)
    (new : ObjOk P w (upd H x o') h' x o') : HOk P w (upd H x o') h' := fun b u q => by
  have nown : ∀ c y, H c = some (.own y) → c ≠ x := fun c y r z => by subst z; rw [r] at mu; exact mu
  have ntup : ∀ c xs, H c = some (.tup xs) → c ≠ x := fun c xs r z => by subst z; rw [r] at mu; exact mu
  by_cases hb : b = x
  · subst hb; rw [upd_same] at q; cases q; exact new
  · rw [upd_ne hb] at q
    by_cases hbe : b = e
    · have q' : H b = some (.own x) := by
        rcases he with z | z
        · exact absurd (hbe.trans z) hb
        · rw [hbe]; exact z
      rw [q] at q'; cases q'
      obtain ⟨v, hv⟩ := heo
      exact ⟨v, by rw [hbe]; exact hv⟩
    · refine (ok b u q).stay (fun c v hc r => k c v ?_ r) (fun c r => by rw [upd_ne (nown c b r)]; exact r) fun c xs r => by rw [upd_ne (ntup c xs r)]; exact r
      rcases hc with rfl | hc
      · exact hbe
      · rintro rfl
        rcases he with z | z
        · exact nown c b hc z
        · rw [hc] at z; cases z; exact hb rfl
end

/-! ### kept unless tracked; of the frames at fs (the callers') the slots may change (an exception that passes writes there); of the records at ex (iterators) nothing is said -/
structure Un (fs ex : List Addr) (H H' : Hp) (h h' : Heap) : Prop where
  keep : ∀ b o, h.get? b = some o → H b = none → b ∉ fs → b ∉ ex → h'.get? b = some o
  slot : ∀ b o, h.get? b = some o → H b = none → b ∈ fs → b ∉ ex → ∃ sl, h'.get? b = some { o with slots := sl }
  free : ∀ b o, h.get? b = some o → H b = none → b ∉ ex → H' b = none
  there : ∀ b o, h.get? b = some o → b ∉ ex → ∃ o', h'.get? b = some o'
  tups : ∀ b xs, H b = some (.tup xs) → H' b = some (.tup xs)
  frzs : ∀ b o u, H b = some (.frz o u) → H' b = some (.frz o u)
  tbls : ∀ b ps, H b = some (.tbl ps) → ∃ more, H' b = some (.tbl (ps ++ more))
section
variable {fs fs' ex ex' : List Addr} {H H1 H2 : Hp} {h h1 h2 h' : Heap} {a x e : Addr} {o : HO}
theorem Un.any (u : Un fs ex H H1 h h1) {b : Addr} {ob : Obj} (q : h.get? b = some ob) (n : H b = none) (hx : b ∉ ex) : ∃ sl, h1.get? b = some { ob with slots := sl } := by
  by_cases hb : b ∈ fs
  · exact u.slot b ob q n hb hx
  · exact ⟨ob.slots, u.keep b ob q n hb hx⟩
theorem Un.trans (a : Un fs ex H H1 h h1) (b : Un fs ex H1 H2 h1 h2) : Un fs ex H H2 h h2 where
  keep := fun c ob q n hc hx => b.keep c ob (a.keep c ob q n hc hx) (a.free c ob q n hx) hc hx
  slot := fun c ob q n hc hx => by
    obtain ⟨sl, e1⟩ := a.slot c ob q n hc hx
    obtain ⟨sl', e2⟩ := b.slot c _ e1 (a.free c ob q n hx) hc hx
    exact ⟨sl', e2⟩
  free := fun c ob q n hx => by
    obtain ⟨o', e1⟩ := a.there c ob q hx
    exact b.free c o' e1 (a.free c ob q n hx) hx
  there := fun c ob q hx => by
    obtain ⟨o', e1⟩ := a.there c ob q hx
    exact b.there c o' e1 hx
  tups := fun c xs q => b.tups c xs (a.tups c xs q)
  frzs := fun c ob xs q => b.frzs c ob xs (a.frzs c ob xs q)
  tbls := fun c ps q => by
    obtain ⟨m1, e1⟩ := a.tbls c ps q
    obtain ⟨m2, e2⟩ := b.tbls c _ e1
    exact ⟨m1 ++ m2, by rw [e2, Array.append_assoc]⟩
theorem Un.kept (k : ∀ b u, h.get? b = some u → h'.get? b = some u) : Un fs ex H H h h' :=
  ⟨fun b ob q _ _ _ => k b ob q, fun b ob q _ _ _ => ⟨ob.slots, k b ob q⟩, fun _ _ _ n _ => n, fun b ob q _ => ⟨ob, k b ob q⟩, fun _ _ q => q, fun _ _ _ q => q, fun _ ps q => ⟨#[], by rw [q]; simp⟩⟩
theorem Un.refl : Un fs ex H H h h := Un.kept fun _ _ q => q
theorem Un.laid (k : ∀ b u, h.get? b = some u → h'.get? b = some u) (hp : h.objs.size ≤ a) (hn : H a = none) : Un fs ex H (upd H a o) h h' where
  keep := fun b u q _ _ _ => k b u q
  slot := fun b u q _ _ _ => ⟨u.slots, k b u q⟩
  free := fun b u q n _ => by rw [upd_ne (Nat.ne_of_lt (Nat.lt_of_lt_of_le (Heap.lt_size q) hp))]; exact n
  there := fun b u q _ => ⟨u, k b u q⟩
  tups := fun b xs q => by rw [upd_ne (ne_of_none q hn)]; exact q
  frzs := fun b u xs q => by rw [upd_ne (ne_of_none q hn)]; exact q
  tbls := fun b ps q => ⟨#[], by rw [upd_ne (ne_of_none q hn), q]; simp⟩
theorem Un.write (mu : Mut (H x)) (he : e = x ∨ H e = some (.own x)) (k : ∀ b u, b ≠ e → h.get? b = some u → h'.get? b = some u) (heo : ∃ u, h'.get? e = some u) : Un fs ex H (upd H x o) h h' := by
  have hx : ∀ b, H b = none → b ≠ x := fun b n z => by subst z; rw [n] at mu; exact mu
  have hb : ∀ b, H b = none → b ≠ e := fun b n z => by
    subst z
    rcases he with r | r
    · exact hx b n r
    · rw [n] at r; cases r
  have hm : ∀ b u, H b = some u → ¬ Mut (some u) → b ≠ x := fun b u q nm z => by subst z; rw [q] at mu; exact nm mu
  refine ⟨fun b u q n _ _ => k b u (hb b n) q, fun b u q n _ _ => ⟨u.slots, k b u (hb b n) q⟩, fun b u q n _ => by rw [upd_ne (hx b n)]; exact n, fun b u q _ => ?_,
    fun b xs q => by rw [upd_ne (hm b _ q fun z => z)]; exact q, fun b u xs q => by rw [upd_ne (hm b _ q fun z => z)]; exact q, fun b ps q => ⟨#[], by rw [upd_ne (hm b _ q fun z => z), q]; simp⟩⟩
  by_cases hbe : b = e
  · subst hbe; exact heo
  · exact ⟨u, k b u hbe q⟩
theorem Un.mono (u : Un fs ex H H1 h h1) (hs : ∀ b ∈ fs, b ∈ fs') (hx : ∀ b ∈ ex, b ∈ ex') : Un fs' ex' H H1 h h1 :=
  ⟨fun b ob q n hb he => u.keep b ob q n (fun z => hb (hs b z)) fun z => he (hx b z), fun _ _ q n _ he => u.any q n fun z => he (hx _ z), fun b ob q n he => u.free b ob q n fun z => he (hx b z), fun b ob q he => u.there b ob q fun z => he (hx b z), u.tups, u.frzs, u.tbls⟩
end

/-! ### the heap without what is tracked -/
def trk (h : Heap) (H : Hp) : List Addr := (List.range h.objs.size).filter fun a => (H a).isSome
def hidT (h : Heap) (H : Hp) : Heap := PySem.W.hideAll h (trk h H)
theorem hidT_size (h : Heap) (H : Hp) : (hidT h H).objs.size = h.objs.size := PySem.W.hideAll_size _ _
theorem hidT_get {h : Heap} {H : Hp} {b : Addr} {o : Obj} (e : h.get? b = some o) (n : H b = none) : (hidT h H).get? b = some o :=
  PySem.W.hideAll_get _ e fun hm => by
    have q : (H b).isSome = true := (List.mem_filter.mp hm).2
    rw [n] at q; simp at q
theorem of_hidT {h : Heap} {H : Hp} {b : Addr} {o : Obj} (e : (hidT h H).get? b = some o) : h.get? b = some o ∧ H b = none := by
  have e' : h.get? b = some o := PySem.W.of_hideAll (trk h H) e
  refine ⟨e', ?_⟩
  cases q : H b with
  | none => rfl
  | some x =>
    have hm : b ∈ trk h H := List.mem_filter.mpr ⟨List.mem_range.mpr (Heap.lt_size e'), by simp [q]⟩
    have z : (hidT h H).get? b = none := PySem.W.hideAll_none (trk h H) hm
    rw [z] at e; cases e

/-! ### OpenK's ledger, filled with every new object but one -/
def allNews (g h : Heap) (L : Addr) : List (Addr × Obj) := (List.range h.objs.size).filterMap fun a => if a = L ∨ (g.get? a).isSome = true then none else (h.get? a).map fun o => (a, o)
def rest (g h : Heap) (L d : Addr) : List (Addr × Obj) := (allNews g h L).filter fun p => decide (p.1 ≠ d)
end L2

namespace L2
open PySem PySem.Spec PyProof.Rows

/-- the module's facts, over the base: the heap at the law's entry without what is tracked there -/
structure Mod (K : PySem.W.Frag) (mg : Str → Option Value) (base : Heap) : Prop where
  kin : K.In base
  glob : base.Ns mainGlobals mg
  blt : ∃ mb, base.Ns builtinsNs mb ∧ ∀ x : Str, x ≠ "__name__" → mb x = bootBuiltins x
  nolimit : base.NoLimit

/-- the context: a def's body (or a comprehension's block) running. base: fixed through the whole law; s₀, H₀: the entry; outer: the frames whose slots others may change (a def's callers); stack: all frames that run;
   ex: iterators that were made ahead of the entry and are walked here (a comprehension's); fn: the names whose cells were made at the entry (a def: all; a comprehension's block: its own); calm: not within an except suite; pn: pins that every state bears; xe: what is wanted of an exception that leaves the code -/
structure Cx where
  prog : Program
  w : World
  K : PySem.W.Frag
  mg : Str → Option Value
  base : Heap
  A : Around
  N : List Str
  s_0 : Shared
  H_0 : Hp
  env : Env
  outer : List Env
  stack : List Env
  ex : List Addr
  fn : Str → Bool
  calm : Bool
  pn : List (Addr × Obj)
  xe : Value → Shared → Prop
/-- the callers' frames -/
def frs (l : List Env) : List Addr := l.filterMap (·.frame)
abbrev Cx.fs (X : Cx) : List Addr := frs X.outer

def Vis (sc : Scope) (x : Str) : Prop := sc.names.lookup x = some .local ∨ sc.names.lookup x = some .cell ∨ sc.names.lookup x = some .free
def Loc (sc : Scope) (x : Str) : Prop := sc.names.lookup x = some .local ∨ sc.names.lookup x = some .cell
def Look (env : Env) (h : Heap) (m : Str → Option Value) (x : Str) (u : Value) : Prop :=
  (env.kindOf x = some .local ∧ m x = some u) ∨ ((env.kindOf x = some .cell ∨ env.kindOf x = some .free) ∧ ∃ c, env.cells.lookup x = some c ∧ h.IsCell c (some u))

structure Cx.Ok (X : Cx) : Prop where
  mod : Mod X.K X.mg X.base
  kind : X.env.scope.kind = .function
  glob : X.env.globals = mainGlobals
  blt : X.env.builtins = builtinsNs
  above : X.s_0.heap.objs.size ≤ X.env.locals
  inj : ∀ x y c, X.env.cells.lookup x = some c → X.env.cells.lookup y = some c → x = y
  has : ∀ x, (X.env.kindOf x = some .cell ∨ X.env.kindOf x = some .free) → ∃ c, X.env.cells.lookup x = some c
  cab : ∀ x c, X.fn x = true → X.env.cells.lookup x = some c → X.s_0.heap.objs.size ≤ c
  hd : X.calm = true → X.A.handled = none
  frames : X.A.frames = some X.stack
  stk : X.stack = X.outer ∨ (X.stack = X.env :: X.outer ∧ X.env.frame = some X.env.locals)
  exf : ∀ b ∈ X.ex, b ≠ X.env.locals ∧ ∀ x c, X.env.cells.lookup x = some c → c ≠ b
  bs : ∀ b o, X.base.get? b = some o → X.s_0.heap.get? b = some o ∧ X.H_0 b = none
  bsz : X.base.objs.size ≤ X.s_0.heap.objs.size
  noex : ∀ b o, X.base.get? b = some o → b ∉ X.ex
  exfs : ∀ b ∈ X.ex, b ∉ X.fs
  funs : X.s_0.heap.FunFrames X.base X.outer
  frf : ∀ b ∈ X.fs, X.H_0 b = none

structure Inv (X : Cx) (pins : List (Addr × Obj)) (σ : List (Option V)) (H : Hp) (s : Shared) : Prop where
  ok : X.Ok
  os : s.os = X.s_0.os
  bare : AllBare s.gens
  base : Un X.fs X.ex X.H_0 H X.s_0.heap s.heap
  loc : ∃ m, s.heap.Ns X.env.locals m ∧ ∀ (i : Nat) (x : Str) (v : V), X.N[i]? = some x → σ[i]? = some (some v) → Vis X.env.scope x → ∃ u, RelV v u ∧ Look X.env s.heap m x u
  cell : ∀ x c, X.env.cells.lookup x = some c → ∃ v, s.heap.IsCell c v
  free : H X.env.locals = none
  freeC : ∀ x c, X.env.cells.lookup x = some c → H c = none
  pin : ∀ p ∈ X.pn ++ pins, s.heap.get? p.1 = some p.2 ∧ H p.1 = none ∧ p.1 ≠ X.env.locals ∧ p.1 ∉ X.fs ∧ ∀ v, p.2.data ≠ .cell v
  hok : HOk X.prog X.w H s.heap
  len : σ.length = X.N.length

section
variable {X : Cx} {pins : List (Addr × Obj)} {σ : List (Option V)} {H H' : Hp} {s : Shared} {h' : Heap}

theorem Cx.Ok.nofr (ok : X.Ok) {b : Addr} {o : Obj} (e : X.base.get? b = some o) : b ∉ X.fs := fun hb => by
  have := (ok.funs.mem hb).1
  rw [e] at this; cases this
theorem Inv.bs (I : Inv X pins σ H s) : ∀ b o, X.base.get? b = some o → s.heap.get? b = some o ∧ H b = none := fun b o e =>
  ⟨I.base.keep b o (I.ok.bs b o e).1 (I.ok.bs b o e).2 (I.ok.nofr e) (I.ok.noex b o e), I.base.free b o (I.ok.bs b o e).1 (I.ok.bs b o e).2 (I.ok.noex b o e)⟩
theorem Inv.bk (I : Inv X pins σ H s) : ∀ b o, X.base.get? b = some o → s.heap.get? b = some o := fun b o e => (I.bs b o e).1
theorem Inv.mod (I : Inv X pins σ H s) : Mod X.K X.mg X.base := I.ok.mod
theorem Inv.kIn (I : Inv X pins σ H s) : X.K.In s.heap := I.ok.mod.kin.keeps I.bk
theorem Inv.nolimit (I : Inv X pins σ H s) : s.heap.NoLimit := I.ok.mod.nolimit.keeps I.bk
/-- the frame over the base: for OpenK's rules (K.In X.base is I.mod.kin) -/
theorem Inv.fr (I : Inv X pins σ H s) : ∃ m, Fr X.base X.env.locals s.heap m :=
  let ⟨m, hn, _⟩ := I.loc
  ⟨m, hn, I.bk, Nat.le_trans I.ok.bsz I.ok.above⟩
theorem Inv.lt (I : Inv X pins σ H s) : X.env.locals < s.heap.objs.size := let ⟨_, hn, _⟩ := I.loc; hn.lt
theorem Inv.sz (I : Inv X pins σ H s) : X.s_0.heap.objs.size ≤ s.heap.objs.size := Nat.le_trans I.ok.above (Nat.le_of_lt I.lt)
theorem Inv.nofs (I : Inv X pins σ H s) {a : Addr} (h : s.heap.objs.size ≤ a) : a ∉ X.fs := fun hb => by
  obtain ⟨_, o, ho, _⟩ := I.ok.funs.mem hb
  exact absurd (Nat.lt_of_lt_of_le (Heap.lt_size ho) (Nat.le_trans I.sz h)) (Nat.lt_irrefl _)
theorem Inv.cne (I : Inv X pins σ H s) : ∀ x c, X.env.cells.lookup x = some c → c ≠ X.env.locals := fun x c e z => by
  obtain ⟨v, o, ho, hd⟩ := I.cell x c e
  obtain ⟨m, ⟨o', es, ep, ho', hd', _⟩, _⟩ := I.loc
  rw [z, ho'] at ho; cases ho; rw [hd'] at hd; cases hd
theorem Inv.funs (I : Inv X pins σ H s) : s.heap.FunFrames X.base X.outer := by
  have all : ∀ (l : List Env), (∀ b ∈ frs l, b ∈ X.fs) → X.s_0.heap.FunFrames X.base l → s.heap.FunFrames X.base l := by
    intro l
    induction l with
    | nil => intro _ _; trivial
    | cons env r ih =>
      intro hs hl
      obtain ⟨hk, ⟨L, o, hf, hn, ho, hd⟩, hr⟩ := hl
      have hL : L ∈ X.fs := hs L (by unfold frs; rw [List.filterMap_cons, hf]; exact List.mem_cons_self)
      obtain ⟨sl, e⟩ := I.base.slot L o ho (I.ok.frf L hL) hL fun z => I.ok.exfs L z hL
      exact ⟨hk, ⟨L, _, hf, hn, e, hd⟩, ih (fun b hb => hs b (by unfold frs; rw [List.filterMap_cons, hf]; exact List.mem_cons_of_mem _ hb)) hr⟩
  exact all X.outer (fun _ hb => hb) I.ok.funs

/-- the frames that run, for a call -/
theorem Inv.stack (I : Inv X pins σ H s) : s.heap.FunFrames X.base X.stack := by
  rcases I.ok.stk with e | ⟨e, hf⟩
  · rw [e]; exact I.funs
  · rw [e]
    obtain ⟨m, hn, _⟩ := I.loc
    refine .cons (by rw [I.ok.kind]; decide) hf hn ?_ I.funs
    exact Heap.get?_none_of_le (Nat.le_trans I.ok.bsz I.ok.above)
theorem Inv.stkSub (I : Inv X pins σ H s) : ∀ b ∈ frs X.stack, b ∈ X.env.locals :: X.fs := fun b hb => by
  rcases I.ok.stk with e | ⟨e, hf⟩
  · rw [e] at hb; exact List.mem_cons_of_mem _ hb
  · rw [e] at hb
    unfold frs at hb
    rw [List.filterMap_cons, hf] at hb
    exact hb
theorem Inv.stkFree (I : Inv X pins σ H s) : ∀ b ∈ frs X.stack, H b = none := fun b hb => by
  rcases List.mem_cons.mp (I.stkSub b hb) with e | hb
  · rw [e]; exact I.free
  · obtain ⟨_, o, ho, _⟩ := I.ok.funs.mem hb
    exact I.base.free b o ho (I.ok.frf b hb) fun z => I.ok.exfs b z hb

/-- THE STEP: the untracked objects but the frame and the records at ch are kept (the callers' frames up to slots), the frame's map is kept, the new abstract heap is held -/
theorem Inv.step {g' : Array GenState} {t' : Nat} {d' : Drawn} {ch : List Addr} (I : Inv X pins σ H s)
    (hch : ∀ b ∈ ch, (b ∈ X.ex ∨ X.s_0.heap.objs.size ≤ b) ∧ b ≠ X.env.locals ∧ (∀ x c, X.env.cells.lookup x = some c → c ≠ b) ∧ ∀ p ∈ X.pn ++ pins, p.1 ≠ b)
    (keep : ∀ b o, b ≠ X.env.locals → b ∉ X.fs → b ∉ ch → s.heap.get? b = some o → H b = none → h'.get? b = some o)
    (slot : ∀ b o, b ≠ X.env.locals → b ∈ X.fs → b ∉ ch → s.heap.get? b = some o → H b = none → ∃ sl, h'.get? b = some { o with slots := sl }) (free : ∀ b o, b ∉ ch → s.heap.get? b = some o → H b = none → H' b = none)
    (there : ∀ b o, b ∉ ch → s.heap.get? b = some o → ∃ o', h'.get? b = some o')
    (tups : ∀ b xs, H b = some (.tup xs) → H' b = some (.tup xs)) (frzs : ∀ b o u, H b = some (.frz o u) → H' b = some (.frz o u)) (tbls : ∀ b ps, H b = some (.tbl ps) → ∃ more, H' b = some (.tbl (ps ++ more)))
    (ns : ∀ m, s.heap.Ns X.env.locals m → h'.Ns X.env.locals m) (hok : HOk X.prog X.w H' h') (hg : AllBare g') :
    Inv X pins σ H' { s with heap := h', gens := g', drawn := d', toks := t' } := by
  have neL : ∀ b o, X.s_0.heap.get? b = some o → b ≠ X.env.locals := fun b o e => Nat.ne_of_lt (Nat.lt_of_lt_of_le (Heap.lt_size e) I.ok.above)
  have neC : ∀ b o, X.s_0.heap.get? b = some o → b ∉ X.ex → b ∉ ch := fun b o e hx hb => by
    rcases (hch b hb).1 with z | z
    · exact hx z
    · exact absurd (Nat.lt_of_lt_of_le (Heap.lt_size e) z) (Nat.lt_irrefl _)
  have cellK : ∀ x c, X.env.cells.lookup x = some c → ∀ v, s.heap.IsCell c v → h'.IsCell c v := fun x c e v ⟨o, ho, hd⟩ => by
    have nch : c ∉ ch := fun z => (hch c z).2.2.1 x c e rfl
    by_cases hc : c ∈ X.fs
    · obtain ⟨sl, q⟩ := slot c o (I.cne x c e) hc nch ho (I.freeC x c e)
      exact ⟨_, q, hd⟩
    · exact ⟨o, keep c o (I.cne x c e) hc nch ho (I.freeC x c e), hd⟩
  refine ⟨I.ok, I.os, hg, ⟨fun b o e n hb hx => ?_, fun b o e n hb hx => ?_, fun b o e n hx => ?_, fun b o e hx => ?_, fun b xs e => tups b xs (I.base.tups b xs e), fun b o xs e => frzs b o xs (I.base.frzs b o xs e), fun b ps e => ?_⟩, ?_, fun x c e => ?_, ?_, fun x c e => ?_, fun p hp => ?_, hok, I.len⟩
  · exact keep b o (neL b o e) hb (neC b o e hx) (I.base.keep b o e n hb hx) (I.base.free b o e n hx)
  · obtain ⟨sl, e1⟩ := I.base.slot b o e n hb hx
    obtain ⟨sl', e2⟩ := slot b _ (neL b o e) hb (neC b o e hx) e1 (I.base.free b o e n hx)
    exact ⟨sl', e2⟩
  · obtain ⟨o', e1⟩ := I.base.there b o e hx
    exact free b o' (neC b o e hx) e1 (I.base.free b o e n hx)
  · obtain ⟨o', e1⟩ := I.base.there b o e hx
    exact there b o' (neC b o e hx) e1
  · obtain ⟨m1, e1⟩ := I.base.tbls b ps e
    obtain ⟨m2, e2⟩ := tbls b _ e1
    exact ⟨m1 ++ m2, by rw [e2, Array.append_assoc]⟩
  · obtain ⟨m, hn, hl⟩ := I.loc
    refine ⟨m, ns m hn, fun i x v e1 e2 e3 => ?_⟩
    obtain ⟨u, r, l⟩ := hl i x v e1 e2 e3
    refine ⟨u, r, ?_⟩
    rcases l with l | ⟨k, c, e, z⟩
    · exact .inl l
    · exact .inr ⟨k, c, e, cellK x c e _ z⟩
  · obtain ⟨v, z⟩ := I.cell x c e
    exact ⟨v, cellK x c e v z⟩
  · obtain ⟨m, ⟨o, _, _, ho, _⟩, _⟩ := I.loc
    exact free _ o (fun z => (hch _ z).2.1 rfl) ho I.free
  · obtain ⟨v, o, ho, hd⟩ := I.cell x c e
    exact free c o (fun z => (hch c z).2.2.1 x c e rfl) ho (I.freeC x c e)
  · obtain ⟨e, n, ne, nf, d⟩ := I.pin p hp
    have nch : p.1 ∉ ch := fun z => (hch p.1 z).2.2.2 p hp rfl
    exact ⟨keep p.1 p.2 ne nf nch e n, free p.1 p.2 nch e n, ne, nf, d⟩
/-- .. where the frame's own object is kept too -/
theorem Inv.un {t' : Nat} (I : Inv X pins σ H s) (u : Un X.fs [] H H' s.heap h') (hok : HOk X.prog X.w H' h') : Inv X pins σ H' { s with heap := h', toks := t' } := by
  obtain ⟨m, ⟨o, es, ep, ho, r⟩, _⟩ := id I.loc
  obtain ⟨sl, hL⟩ := u.any ho I.free (by simp)
  exact I.step (g' := s.gens) (d' := s.drawn) (ch := []) (fun _ z => nomatch z) (fun b o _ hb _ e n => u.keep b o e n hb (by simp)) (fun b o _ hb _ e n => u.slot b o e n hb (by simp)) (fun b o _ e n => u.free b o e n (by simp)) (fun b o _ e => u.there b o e (by simp)) u.tups u.frzs u.tbls (fun m' hm => by
    obtain ⟨o', es', ep', ho', r'⟩ := hm
    rw [ho] at ho'; cases ho'
    exact ⟨_, es', ep', hL, r'⟩) hok I.bare
/-- behind a call (or a comprehension's block): the slots of this frame may have changed too, the records at ch may have turned -/
theorem Inv.call {g' : Array GenState} {t' : Nat} {d' : Drawn} {ch : List Addr} (I : Inv X pins σ H s) (u : Un (frs X.stack) ch H H' s.heap h') (hok : HOk X.prog X.w H' h') (hg : AllBare g')
    (hch : ∀ b ∈ ch, (b ∈ X.ex ∨ X.s_0.heap.objs.size ≤ b) ∧ b ≠ X.env.locals ∧ (∀ x c, X.env.cells.lookup x = some c → c ≠ b) ∧ ∀ p ∈ X.pn ++ pins, p.1 ≠ b) :
    Inv X pins σ H' { s with heap := h', gens := g', drawn := d', toks := t' } := by
  obtain ⟨m, ⟨o, es, ep, ho, r⟩, _⟩ := id I.loc
  obtain ⟨sl, hL⟩ := u.any ho I.free fun z => (hch _ z).2.1 rfl
  exact I.step (ch := ch) hch (fun b o hL hb hc e n => u.keep b o e n (fun z => (List.mem_cons.mp (I.stkSub b z)).elim hL hb) hc) (fun b o _ _ hc e n => u.any e n hc) (fun b o hc e n => u.free b o e n hc) (fun b o hc e => u.there b o e hc) u.tups u.frzs u.tbls (fun m' hm => by
    obtain ⟨o', es', ep', ho', r'⟩ := hm
    rw [ho] at ho'; cases ho'
    exact ⟨_, es', ep', hL, r'⟩) hok hg
/-- an untracked record of ours (an iterator) has turned -/
theorem Inv.turned {t' : Nat} {it : Addr} (I : Inv X pins σ H s) (k : ∀ b o, b ≠ it → s.heap.get? b = some o → h'.get? b = some o) (hn : H it = none) (hL : it ≠ X.env.locals)
    (h1 : it ∈ X.ex ∨ X.s_0.heap.objs.size ≤ it) (h2 : ∀ x c, X.env.cells.lookup x = some c → c ≠ it) (h3 : ∀ p ∈ X.pn ++ pins, p.1 ≠ it) : Inv X pins σ H { s with heap := h', toks := t' } := by
  have nit : ∀ b u, H b = some u → b ≠ it := fun b u e z => by rw [z, hn] at e; cases e
  refine I.step (g' := s.gens) (d' := s.drawn) (ch := [it]) (fun b hb => ?_) (fun b o _ _ hc e _ => k b o (fun z => hc (by simp [z])) e) (fun b o _ _ hc e _ => ⟨o.slots, k b o (fun z => hc (by simp [z])) e⟩) (fun _ _ _ _ n => n)
    (fun b o hc e => ⟨o, k b o (fun z => hc (by simp [z])) e⟩) (fun _ _ e => e) (fun _ _ _ e => e) (fun b ps e => ⟨#[], by rw [e]; simp⟩) (fun m hm => ?_) (fun b u e => ?_) I.bare
  · have e : b = it := by simpa using hb
    subst e
    exact ⟨h1, hL, h2, h3⟩
  · obtain ⟨o, es, ep, ho, r⟩ := hm
    exact ⟨o, es, ep, k _ o (Ne.symm hL) ho, r⟩
  · refine (I.hok b u e).stay (fun c v hc q => k c v ?_ q) (fun _ q => q) fun _ _ q => q
    rcases hc with z | z
    · rw [z]; exact nit b u e
    · exact nit c _ z
theorem Inv.tok (I : Inv X pins σ H s) (t : Nat) : Inv X pins σ H { s with toks := t } := I.un (h' := s.heap) (t' := t) Un.refl I.hok
/-- all objects kept -/
theorem Inv.kept {t' : Nat} (I : Inv X pins σ H s) (k : ∀ b u, s.heap.get? b = some u → h'.get? b = some u) : Inv X pins σ H { s with heap := h', toks := t' } := I.un (Un.kept k) (I.hok.kept k)
/-- a new object laid and tracked -/
theorem Inv.laid {a : Addr} {o : HO} {t' : Nat} (I : Inv X pins σ H s) (k : ∀ b u, s.heap.get? b = some u → h'.get? b = some u) (hp : s.heap.objs.size ≤ a) (new : ObjOk X.prog X.w (upd H a o) h' a o) :
    Inv X pins σ (upd H a o) { s with heap := h', toks := t' } := I.un (Un.laid k hp (I.hok.fresh hp)) (I.hok.laid k hp new)
/-- an object written -/
theorem Inv.write {x e : Addr} {o : HO} {t' : Nat} (I : Inv X pins σ H s) (mu : Mut (H x)) (he : e = x ∨ H e = some (.own x)) (k : ∀ b u, b ≠ e → s.heap.get? b = some u → h'.get? b = some u) (heo : ∃ u, h'.get? e = some u)
    (new : ObjOk X.prog X.w (upd H x o) h' x o) : Inv X pins σ (upd H x o) { s with heap := h', toks := t' } := I.un (Un.write mu he k heo) (I.hok.write mu he k heo new)
/-- forgetting slots, pins -/
theorem Inv.weak {σ' : List (Option V)} (I : Inv X pins σ H s) (hl : σ'.length = σ.length) (w : ∀ (i : Nat) v, σ'[i]? = some (some v) → σ[i]? = some (some v)) : Inv X pins σ' H s :=
  ⟨I.ok, I.os, I.bare, I.base, let ⟨m, hn, hl'⟩ := I.loc; ⟨m, hn, fun i x v e1 e2 e3 => hl' i x v e1 (w i v e2) e3⟩, I.cell, I.free, I.freeC, I.pin, I.hok, hl.trans I.len⟩
theorem Inv.pins_of {pins' : List (Addr × Obj)} (I : Inv X pins σ H s) (h : ∀ p ∈ pins', s.heap.get? p.1 = some p.2 ∧ H p.1 = none ∧ p.1 ≠ X.env.locals ∧ p.1 ∉ X.fs ∧ ∀ v, p.2.data ≠ .cell v) : Inv X pins' σ H s :=
  ⟨I.ok, I.os, I.bare, I.base, I.loc, I.cell, I.free, I.freeC, fun p hp => (List.mem_append.mp hp).elim (fun z => I.pin p (List.mem_append_left _ z)) (h p), I.hok, I.len⟩

theorem nodup_ix {N : List Str} (hN : N.Nodup) {i j : Nat} {x : Str} (a : N[i]? = some x) (b : N[j]? = some x) : i = j := by
  obtain ⟨h1, e1⟩ := List.getElem?_eq_some_iff.mp a
  obtain ⟨h2, e2⟩ := List.getElem?_eq_some_iff.mp b
  exact (List.getElem_inj hN).mp (e1.trans e2.symm)

/-- a name is stored; what changed -/
theorem store_ok2 {M : Model} {A : Around} {E : Value → Shared → Prop} {i : Nat} {x : Str} {v : V} {u : Value} {Q : Unit → Shared → Prop} (I : Inv X pins σ H s) (hN : X.N.Nodup) (hi : X.N[i]? = some x) (hx : Loc X.env.scope x) (r : RelV v u)
    (h : ∀ s', Inv X pins (σ.set i (some v)) H s' → (∃ a, Heap.SameBut a s.heap s'.heap ∧ (a = X.env.locals ∨ X.env.cells.lookup x = some a)) → Q () s') (hf : X.fn x = true ∨ X.env.scope.names.lookup x = some .local := by first | exact .inl rfl | exact .inr rfl | assumption) : wpAny M A (storeName X.env x u) Q E s := by
  obtain ⟨m, hn, hl⟩ := id I.loc
  have hcls : (X.env.scope.kind == .class || (X.env.scope.kind == .module && X.env.locals != X.env.globals)) = false := by rw [I.ok.kind]; rfl
  have hiσ : i < σ.length := by rw [I.len]; exact (List.getElem?_eq_some_iff.mp hi).1
  have cne := I.cne
  have tracked : ∀ {a : Addr} {h' : Heap}, (∃ o, s.heap.get? a = some o ∧ H a = none) → Heap.SameBut a s.heap h' → HOk X.prog X.w H h' := fun {a h'} ha hs b ob e => by
    obtain ⟨_, _, hfree⟩ := ha
    refine (I.hok b ob e).stay (fun c w' hc q => (hs.2 c ?_).trans q) (fun _ q => q) fun _ _ q => q
    rintro rfl
    rcases hc with rfl | hc
    · rw [hfree] at e; cases e
    · rw [hfree] at hc; cases hc
  rcases hx with hk | hk
  · refine wpAny_storeName_local hk hn (fun h' hn' hs => ?_) hcls
    obtain ⟨oL, _, _, hoL, _⟩ := id hn
    refine h _ ⟨I.ok, I.os, I.bare, ⟨fun b o e n hb hx => ?_, fun b o e n hb hx => ?_, I.base.free, fun b o e hx => ?_, I.base.tups, I.base.frzs, I.base.tbls⟩, ⟨_, hn', fun j y v' e1 e2 e3 => ?_⟩, fun y c e => ?_, I.free, I.freeC, fun p hp => ?_, tracked ⟨oL, hoL, I.free⟩ hs, by simpa using I.len⟩ ⟨_, hs, .inl rfl⟩
    · exact (hs.2 b (Nat.ne_of_lt (Nat.lt_of_lt_of_le (Heap.lt_size e) I.ok.above))).trans (I.base.keep b o e n hb hx)
    · obtain ⟨sl, e1⟩ := I.base.slot b o e n hb hx
      exact ⟨sl, (hs.2 b (Nat.ne_of_lt (Nat.lt_of_lt_of_le (Heap.lt_size e) I.ok.above))).trans e1⟩
    · obtain ⟨o', e1⟩ := I.base.there b o e hx
      exact ⟨o', (hs.2 b (Nat.ne_of_lt (Nat.lt_of_lt_of_le (Heap.lt_size e) I.ok.above))).trans e1⟩
    · by_cases hj : j = i
      · subst hj
        rw [hi] at e1; cases e1
        rw [List.getElem?_set_self hiσ] at e2
        cases e2
        exact ⟨u, r, .inl ⟨hk, by simp⟩⟩
      · rw [List.getElem?_set_ne (Ne.symm hj)] at e2
        obtain ⟨u', r', q⟩ := hl j y v' e1 e2 e3
        refine ⟨u', r', ?_⟩
        rcases q with ⟨k, e⟩ | ⟨k, c, e, z⟩
        · refine .inl ⟨k, ?_⟩
          have : y ≠ x := fun e => hj (nodup_ix hN e1 (e ▸ hi))
          simp [this, e]
        · exact .inr ⟨k, c, e, z.sameBut hs (cne y c e)⟩
    · obtain ⟨w', z⟩ := I.cell y c e
      exact ⟨w', z.sameBut hs (cne y c e)⟩
    · obtain ⟨e, n, ne, nf, d⟩ := I.pin p hp
      exact ⟨(hs.2 p.1 ne).trans e, n, ne, nf, d⟩
  · have hfn : X.fn x = true := by
      rcases hf with z | z
      · exact z
      · rw [z] at hk; cases hk
    obtain ⟨c, hc⟩ := I.ok.has x (.inl hk)
    obtain ⟨w', z⟩ := I.cell x c hc
    refine wpAny_storeName_cell I.ok.kind hk hc z (fun h' hc' hs => ?_)
    obtain ⟨oc, hoc, hocd⟩ := id z
    refine h { s with heap := h' } ⟨I.ok, I.os, I.bare, ⟨fun b o e n hb hx => ?_, fun b o e n hb hx => ?_, I.base.free, fun b o e hx => ?_, I.base.tups, I.base.frzs, I.base.tbls⟩, ⟨m, hn.sameBut hs (Ne.symm (cne x c hc)), fun j y v' e1 e2 e3 => ?_⟩, fun y c' e => ?_, I.free, I.freeC, fun p hp => ?_, tracked ⟨oc, hoc, I.freeC x c hc⟩ hs, by simpa using I.len⟩ ⟨c, hs, .inr hc⟩
    · exact (hs.2 b (Nat.ne_of_lt (Nat.lt_of_lt_of_le (Heap.lt_size e) (I.ok.cab x c hfn hc)))).trans (I.base.keep b o e n hb hx)
    · obtain ⟨sl, e1⟩ := I.base.slot b o e n hb hx
      exact ⟨sl, (hs.2 b (Nat.ne_of_lt (Nat.lt_of_lt_of_le (Heap.lt_size e) (I.ok.cab x c hfn hc)))).trans e1⟩
    · obtain ⟨o', e1⟩ := I.base.there b o e hx
      exact ⟨o', (hs.2 b (Nat.ne_of_lt (Nat.lt_of_lt_of_le (Heap.lt_size e) (I.ok.cab x c hfn hc)))).trans e1⟩
    · by_cases hj : j = i
      · subst hj
        rw [hi] at e1; cases e1
        rw [List.getElem?_set_self hiσ] at e2
        cases e2
        exact ⟨u, r, .inr ⟨.inl hk, c, hc, hc'⟩⟩
      · rw [List.getElem?_set_ne (Ne.symm hj)] at e2
        obtain ⟨u', r', q⟩ := hl j y v' e1 e2 e3
        refine ⟨u', r', ?_⟩
        rcases q with q | ⟨k, c', e, z'⟩
        · exact .inl q
        · refine .inr ⟨k, c', e, z'.sameBut hs ?_⟩
          rintro rfl
          exact hj (nodup_ix hN e1 (I.ok.inj _ _ _ e hc ▸ hi))
    · by_cases hcc : c' = c
      · subst hcc; exact ⟨_, hc'⟩
      · obtain ⟨w2, z2⟩ := I.cell y c' e
        exact ⟨w2, z2.sameBut hs hcc⟩
    · obtain ⟨e, n, ne, nf, d⟩ := I.pin p hp
      refine ⟨(hs.2 p.1 ?_).trans e, n, ne, nf, d⟩
      intro q
      rw [q, hoc] at e
      have q' : oc = p.2 := Option.some.inj e
      exact d w' (by rw [← q']; exact hocd)
theorem store_ok {M : Model} {A : Around} {E : Value → Shared → Prop} {i : Nat} {x : Str} {v : V} {u : Value} {Q : Unit → Shared → Prop} (I : Inv X pins σ H s) (hN : X.N.Nodup) (hi : X.N[i]? = some x) (hx : Loc X.env.scope x) (r : RelV v u)
    (h : ∀ s', Inv X pins (σ.set i (some v)) H s' → Q () s') (hf : X.fn x = true ∨ X.env.scope.names.lookup x = some .local := by first | exact .inl rfl | exact .inr rfl | assumption) : wpAny M A (storeName X.env x u) Q E s :=
  store_ok2 I hN hi hx r (fun s' I' _ => h s' I') hf
/-- behind a call or a block, the state as it is -/
theorem Inv.call' {s' : Shared} {ch : List Addr} (I : Inv X pins σ H s) (ho : s'.os = s.os) (u : Un (frs X.stack) ch H H' s.heap s'.heap) (hok : HOk X.prog X.w H' s'.heap) (hg : AllBare s'.gens)
    (hch : ∀ b ∈ ch, (b ∈ X.ex ∨ X.s_0.heap.objs.size ≤ b) ∧ b ≠ X.env.locals ∧ (∀ x c, X.env.cells.lookup x = some c → c ≠ b) ∧ ∀ p ∈ X.pn ++ pins, p.1 ≠ b) : Inv X pins σ H' s' := by
  obtain ⟨h', g', d', t', o'⟩ := s'
  have e : o' = s.os := ho
  subst e
  exact I.call (g' := g') (t' := t') (d' := d') u hok hg hch
end

/-! ### the judgements -/
/-- an exception: its class, its own dict's address (where it has one), the abstract heap behind it -/
abbrev XK := Value → Option Addr → Hp → Prop
abbrev St := List (Option V)
abbrev VK := V → Hp → Prop
/-- an expression's reading; a test's; an argument list's -/
abbrev TE := St → Hp → VK → Prop
abbrev TT := St → Hp → (Bool → Hp → Prop) → Prop
abbrev TA := St → Hp → (List V → Hp → Prop) → Prop
/-- what is wanted behind a statement -/
structure Ends where
  nx : St → Hp → Prop
  rt : VK
  bk : St → Hp → Prop := fun _ _ => False
  ct : St → Hp → Prop := fun _ _ => False
abbrev TS := Ends → St → Hp → Prop

def EP (X : Cx) (pins : List (Addr × Obj)) (σ : St) (Q : VK) (u : Value) (s' : Shared) : Prop := ∃ v H', Inv X pins σ H' s' ∧ RelV v u ∧ Q v H'
def TP (X : Cx) (pins : List (Addr × Obj)) (σ : St) (Q : Bool → Hp → Prop) (b : Bool) (s' : Shared) : Prop := ∃ H', Inv X pins σ H' s' ∧ Q b H'
def AP (X : Cx) (pins : List (Addr × Obj)) (σ : St) (Q : List V → Hp → Prop) (us : List Value) (s' : Shared) : Prop := ∃ vs H', Inv X pins σ H' s' ∧ Vals vs us ∧ Q vs H'
def SP (X : Cx) (pins : List (Addr × Obj)) (D : Ends) (f : Flow) (s' : Shared) : Prop :=
  match f with
  | .next => ∃ σ' H', Inv X pins σ' H' s' ∧ D.nx σ' H'
  | .brk => ∃ σ' H', Inv X pins σ' H' s' ∧ D.bk σ' H'
  | .cont => ∃ σ' H', Inv X pins σ' H' s' ∧ D.ct σ' H'
  | .ret u => ∃ v σ' H', Inv X pins σ' H' s' ∧ RelV v u ∧ D.rt v H'

def PE (X : Cx) (e : Expr) (t : TE) : Prop :=
  ∀ (pins : List (Addr × Obj)) (s : Shared) (σ : St) (H : Hp) (Q : VK), Inv X pins σ H s → t σ H Q → wpAny (model X.prog X.w) X.A (eval e X.env) (EP X pins σ Q) X.xe s
def PT (X : Cx) (e : Expr) (t : TT) : Prop :=
  ∀ (pins : List (Addr × Obj)) (s : Shared) (σ : St) (H : Hp) (Q : Bool → Hp → Prop), Inv X pins σ H s → t σ H Q → wpAny (model X.prog X.w) X.A (isTrue e X.env (eval e X.env)) (TP X pins σ Q) X.xe s
/-- a test whatever its 'whole' is (and, or) -/
def PW (X : Cx) (e : Expr) (t : TT) : Prop :=
  ∀ (whole : Sem Value) (pins : List (Addr × Obj)) (s : Shared) (σ : St) (H : Hp) (Q : Bool → Hp → Prop), Inv X pins σ H s → t σ H Q → wpAny (model X.prog X.w) X.A (isTrue e X.env whole) (TP X pins σ Q) X.xe s
theorem PW.pt {X : Cx} {e : Expr} {t : TT} (h : PW X e t) : PT X e t := h _
/-- an argument list (no star), from the left -/
def PA (X : Cx) (es : List Expr) (t : TA) : Prop :=
  ∀ (pos : Pos) (pins : List (Addr × Obj)) (s : Shared) (σ : St) (H : Hp) (Q : List V → Hp → Prop), Inv X pins σ H s → t σ H Q → wpAny (model X.prog X.w) X.A (spliced (backTo pos (starEach es X.env))) (AP X pins σ Q) X.xe s
def PS (X : Cx) (st : Stmt) (t : TS) : Prop :=
  ∀ (pins : List (Addr × Obj)) (s : Shared) (σ : St) (H : Hp) (D : Ends), Inv X pins σ H s → t D σ H → wpAny (model X.prog X.w) X.A (exec st X.env) (SP X pins D) X.xe s
def PSs (X : Cx) (st : List Stmt) (t : TS) : Prop :=
  ∀ (pins : List (Addr × Obj)) (s : Shared) (σ : St) (H : Hp) (D : Ends), Inv X pins σ H s → t D σ H → wpAny (model X.prog X.w) X.A (execs st X.env) (SP X pins D) X.xe s
/-- weaken the end -/
theorem thn {α : Type} {t : Sem α} {Q Q' : α → Shared → Prop} {M : Model} {A : Around} {E : Value → Shared → Prop} {s : Shared} (h : wpAny M A t Q E s) (hQ : ∀ a s, Q a s → Q' a s) : wpAny M A t Q' E s := wpAny_mono h hQ fun _ _ x => x
end L2

namespace L2
open PySem PySem.Spec PyProof.Rows
section
variable {X : Cx}

/-! ### names and constants -/
def tVar (i : Nat) : TE := fun σ H Q => ∃ v, σ[i]? = some (some v) ∧ Q v H
def tC (v : V) : TE := fun _ H Q => Q v H
theorem pe_var {i : Nat} {x : Str} {pos : Pos} (hN : X.N[i]? = some x) (hv : Vis X.env.scope x) (hd : (x == ("__debug__" : Str)) = false := by decide) (hcd : (x == ("__classdict__" : Str)) = false := by decide) : PE X (.Name x pos) (tVar i) := by
  intro pins s σ H Q I h
  obtain ⟨v, e, h⟩ := h
  obtain ⟨m, hn, hl⟩ := I.loc
  obtain ⟨u, r, l⟩ := hl i x v hN e hv
  have fin : EP X pins σ Q u s := ⟨v, H, I, r, h⟩
  rcases l with ⟨hk, hm⟩ | ⟨hk, c, hc, hcell⟩
  · exact wpAny_Name (wpAny_loadName_local I.ok.kind hk hn hm fin) hd
  · rcases hk with hk | hk
    · exact wpAny_Name (wpAny_loadName_cell I.ok.kind hk hc hcell fin) hd
    · exact wpAny_Name (wpAny_loadName_free I.ok.kind hk hc hcell fin hcd) hd
theorem pe_int {i j pos} : PE X (.Constant (.int i) j pos) (tC (.int i)) := fun _ _ _ H _ I h => wpAny_Constant_int ⟨.int i, H, I.tok _, ⟨_, rfl⟩, h⟩
theorem pe_bl {b j pos} : PE X (.Constant (.bool b) j pos) (tC (.bl b)) := fun _ _ _ H _ I h => Constant_bool ⟨.bl b, H, I, rfl, h⟩
theorem pe_non {j pos} : PE X (.Constant .none j pos) (tC .non) := fun _ _ _ H _ I h => Constant_none ⟨.non, H, I, rfl, h⟩
/-- a global name of the def -/
def Gl (X : Cx) (x : Str) : Prop := X.env.kindOf x = some .globalImplicit
theorem ld_glob {E : Value → Shared → Prop} {pins : List (Addr × Obj)} {s : Shared} {σ : St} {H : Hp} {x : Str} {u : Value} {pos : Pos} {Q : Value → Shared → Prop} (I : Inv X pins σ H s) (hg : Gl X x) (hm : X.mg x = some u) (h : Q u s)
    (hd : (x == ("__debug__" : Str)) = false := by decide) : wpAny (model X.prog X.w) X.A (eval (.Name x pos) X.env) Q E s :=
  Calls.Name_function_global I.ok.kind hg (Calls.loadGlobal_global (by rw [I.ok.glob]; exact I.mod.glob.keeps I.bk) hm h) hd
theorem ld_blt {E : Value → Shared → Prop} {pins : List (Addr × Obj)} {s : Shared} {σ : St} {H : Hp} {x : Str} {u : Value} {pos : Pos} {Q : Value → Shared → Prop} (I : Inv X pins σ H s) (hg : Gl X x) (hm : X.mg x = none) (hv : bootBuiltins x = some u) (h : Q u s)
    (hn : x ≠ "__name__" := by decide) (hd : (x == ("__debug__" : Str)) = false := by decide) : wpAny (model X.prog X.w) X.A (eval (.Name x pos) X.env) Q E s := by
  obtain ⟨mb, h1, h2⟩ := I.mod.blt
  exact Calls.Name_function_global I.ok.kind hg (Calls.loadGlobal_builtin (by rw [I.ok.glob]; exact I.mod.glob.keeps I.bk) hm (by rw [I.ok.blt]; exact h1.keeps I.bk) ((h2 x hn).trans hv) h) hd
/-- a module's constant, a class, a function, as a value -/
theorem pe_glob {x : Str} {v : V} {u : Value} {pos : Pos} (hg : Gl X x) (hm : X.mg x = some u) (r : RelV v u) (hd : (x == ("__debug__" : Str)) = false := by decide) : PE X (.Name x pos) (tC v) :=
  fun _ _ _ H _ I h => ld_glob I hg hm ⟨v, H, I, r, h⟩ hd
/-! ### arithmetic -/
/-- two ints -/
def t2I (ta tb : TE) (k : Int → Int → Hp → Prop) : St → Hp → Prop := fun σ H => ta σ H fun x H1 => tb σ H1 fun y H2 => ∃ i j, x = .int i ∧ y = .int j ∧ k i j H2
variable {a b : Expr} {ta tb : TE} {pos : Pos}
/-! ### comparisons -/
def tCmp (p : Int → Int → Bool) (ta tb : TE) : TE := fun σ H Q => t2I ta tb (fun i j H2 => Q (.bl (p i j)) H2) σ H
abbrev tLt : TE → TE → TE := tCmp fun i j => decide (i < j)
abbrev tLe : TE → TE → TE := tCmp fun i j => decide (i ≤ j)
abbrev tGt : TE → TE → TE := tCmp fun i j => decide (j < i)
abbrev tGe : TE → TE → TE := tCmp fun i j => decide (j ≤ i)
abbrev tEqI : TE → TE → TE := tCmp fun i j => decide (i = j)
abbrev tNeI : TE → TE → TE := tCmp fun i j => !decide (i = j)
/-- a comparison as a value, as a test -/
def tB (t : TE) : TT := fun σ H Q => t σ H fun x H1 => ∃ c, x = .bl c ∧ Q c H1
/-- an expression whose value is a bool, as a test -/
theorem pt_val {e : Expr} {t : TE} (h : PE X e t) (he : ∀ whole, isTrue e X.env whole = (do let v ← whole; standAt e.pos; holding [v] (truthy v)) := by intro _; rfl) : PT X e (tB t) := by
  intro pins s σ H Q I hw
  refine isTrue_plain (thn (h pins s σ H _ I hw) fun v s1 ⟨x, H1, I1, r1, q1⟩ => ?_) (he _)
  obtain ⟨d, rfl, q⟩ := q1
  cases r1
  exact wpAny_truthy_bool ⟨H1, I1, q⟩

/-! ### and, or, not -/
variable {tA tB' : TT} {rest : List Expr}
def tAnd (t u : TT) : TT := fun σ H Q => t σ H fun c H1 => if c = true then u σ H1 Q else Q false H1
def tOr (t u : TT) : TT := fun σ H Q => t σ H fun c H1 => if c = true then Q true H1 else u σ H1 Q
def tNot (t : TT) : TT := fun σ H Q => t σ H fun c H1 => Q (!c) H1
theorem pw_and1 (ha : PT X a tA) : PW X (.BoolOp .And [a] pos) tA := by
  intro wh pins s σ H Q I h
  refine isTrue_and (thn (ha pins s σ H Q I h) fun c s1 e => ?_)
  cases c with
  | true => exact isTrue_and_nil e
  | false => exact e
theorem pw_or1 (ha : PT X a tA) : PW X (.BoolOp .Or [a] pos) tA := by
  intro wh pins s σ H Q I h
  refine isTrue_or (thn (ha pins s σ H Q I h) fun c s1 e => ?_)
  cases c with
  | false => exact isTrue_or_nil e
  | true => exact e
theorem pw_and (ha : PT X a tA) (hb : PW X (.BoolOp .And (b :: rest) pos) tB') : PW X (.BoolOp .And (a :: b :: rest) pos) (tAnd tA tB') := by
  intro wh pins s σ H Q I h
  refine isTrue_and (thn (ha pins s σ H _ I h) fun c s1 ⟨H1, I1, q1⟩ => ?_)
  cases c with
  | true => exact hb wh pins s1 σ H1 Q I1 q1
  | false => exact ⟨H1, I1, q1⟩
theorem pw_or (ha : PT X a tA) (hb : PW X (.BoolOp .Or (b :: rest) pos) tB') : PW X (.BoolOp .Or (a :: b :: rest) pos) (tOr tA tB') := by
  intro wh pins s σ H Q I h
  refine isTrue_or (thn (ha pins s σ H _ I h) fun c s1 ⟨H1, I1, q1⟩ => ?_)
  cases c with
  | true => exact ⟨H1, I1, q1⟩
  | false => exact hb wh pins s1 σ H1 Q I1 q1
theorem pt_not (ha : PT X a tA) : PT X (.UnaryOp .Not a pos) (tNot tA) := by
  intro pins s σ H Q I h
  exact isTrue_not (ha pins s σ H (fun c H1 => Q (!c) H1) I h)
/-- .. as values (bools) -/
def tAndV (ta tb : TE) : TE := fun σ H Q => ta σ H fun x H1 => ∃ c, x = .bl c ∧ if c = true then tb σ H1 Q else Q (.bl false) H1
def tOrV (ta tb : TE) : TE := fun σ H Q => ta σ H fun x H1 => ∃ c, x = .bl c ∧ if c = true then Q (.bl true) H1 else tb σ H1 Q
theorem pe_one {op} {t : TE} (h : PE X a t) : PE X (.BoolOp op [a] pos) t := fun pins s σ H Q I hw => BoolOp_one (h pins s σ H Q I hw)
theorem pe_and (ha : PE X a ta) (hb : PE X (.BoolOp .And (b :: rest) pos) tb) : PE X (.BoolOp .And (a :: b :: rest) pos) (tAndV ta tb) := by
  intro pins s σ H Q I h
  refine BoolOp_and (thn (ha pins s σ H _ I h) fun v s1 ⟨x, H1, I1, r1, q1⟩ => ?_)
  obtain ⟨c, rfl, q1⟩ := q1
  cases r1
  refine wpAny_truthy_bool ?_
  cases c with
  | true => exact hb pins s1 σ H1 Q I1 q1
  | false => exact ⟨.bl false, H1, I1, rfl, q1⟩
theorem pe_or (ha : PE X a ta) (hb : PE X (.BoolOp .Or (b :: rest) pos) tb) : PE X (.BoolOp .Or (a :: b :: rest) pos) (tOrV ta tb) := by
  intro pins s σ H Q I h
  refine BoolOp_or (thn (ha pins s σ H _ I h) fun v s1 ⟨x, H1, I1, r1, q1⟩ => ?_)
  obtain ⟨c, rfl, q1⟩ := q1
  cases r1
  refine wpAny_truthy_bool ?_
  cases c with
  | false => exact hb pins s1 σ H1 Q I1 q1
  | true => exact ⟨.bl true, H1, I1, rfl, q1⟩
/-- a if t else b -/
def tIf (t : TT) (ta tb : TE) : TE := fun σ H Q => t σ H fun c H1 => if c = true then ta σ H1 Q else tb σ H1 Q
theorem pe_ifExp {c : Expr} (hc : PT X c tA) (ha : PE X a ta) (hb : PE X b tb) : PE X (.IfExp c a b pos) (tIf tA ta tb) := by
  intro pins s σ H Q I h
  refine wpAny_IfExp (thn (hc pins s σ H _ I h) fun d s1 ⟨H1, I1, q1⟩ => ?_)
  cases d with
  | true => exact ha pins s1 σ H1 Q I1 q1
  | false => exact hb pins s1 σ H1 Q I1 q1
end
end L2

namespace L2
open PySem PySem.Spec PyProof.Rows

/-! ### a list, a tuple that is read: tracked, frozen, or an object of the module -/
def SqL (K : PySem.W.Frag) (H : Hp) (a : Addr) (xs : List V) : Prop :=
  Rd H a (.lst xs) ∨
    ∃ (o : Obj) (its : Array Value) (n : Nat), K.lookup a = some o ∧ o.cls = .type "list" ∧ o.dict = none ∧ o.data = .seq its n ∧ its.size ≤ sizeLine ∧ Vals xs its.toList
def SqT (K : PySem.W.Frag) (H : Hp) (a : Addr) (xs : List V) : Prop :=
  Rd H a (.tup xs) ∨
    ∃ (o : Obj) (its : Array Value) (n : Nat), K.lookup a = some o ∧ o.cls = .type "tuple" ∧ o.data = .seq its n ∧ its.size ≤ sizeLine ∧ Vals xs its.toList
def absV : Value → Option V
  | .none => some .non
  | .bool b => some (.bl b)
  | .int i _ => some (.int i)
  | .str x _ => some (.str x)
  | .bytes b _ => some (.byt b)
  | .float b _ => some (.flt b)
  | .ref a => some (.ref a)
  | .type n => some (.ty n)
  | _ => none
theorem RelV.abs {x : V} {u : Value} (r : RelV x u) : absV u = some x := by
  cases x with
  | non => cases r; rfl
  | bl _ => cases r; rfl
  | int _ => obtain ⟨t, rfl⟩ := r; rfl
  | str _ => obtain ⟨t, rfl⟩ := r; rfl
  | byt _ => obtain ⟨t, rfl⟩ := r; rfl
  | flt _ => obtain ⟨t, rfl⟩ := r; rfl
  | ref _ => cases r; rfl
  | ty _ => cases r; rfl
theorem RelV.inj {x y : V} {u : Value} (r : RelV x u) (q : RelV y u) : x = y := Option.some.inj (r.abs.symm.trans q.abs)
theorem Vals.inj : ∀ {xs ys : List V} {us : List Value}, Vals xs us → Vals ys us → xs = ys
  | _, _, _, .nil, .nil => rfl
  | _, _, _, .cons r t, .cons r' t' => by rw [r.inj r', Vals.inj t t']
section
variable {X : Cx} {pins : List (Addr × Obj)} {σ : St} {H : Hp} {s : Shared} {a : Addr} {xs ys : List V}
theorem SqL.of {K : PySem.W.Frag} (h : H a = some (.lst xs)) : SqL K H a xs := .inl (.inl h)
theorem SqT.of {K : PySem.W.Frag} (h : H a = some (.tup xs)) : SqT K H a xs := .inl (.inl h)
theorem Inv.list (I : Inv X pins σ H s) (h : SqL X.K H a xs) : ∃ its : List Value, Vals xs its ∧ PlainL s.heap a its.toArray ∧ xs.length ≤ sizeLine := by
  rcases h with h | ⟨o, its, n, hk, hc, hd, hs, hz, r⟩
  · obtain ⟨z, its, n, r, e⟩ := h.ok I.hok
    exact ⟨its, r, ⟨_, n, e, rfl, rfl, rfl⟩, z⟩
  · refine ⟨its.toList, r, ⟨o, n, I.kIn a o hk, hc, hd, by simpa using hs⟩, ?_⟩
    have e := r.length
    simp only [Array.length_toList] at e
    omega
theorem Inv.tuple (I : Inv X pins σ H s) (h : SqT X.K H a xs) : ∃ its : List Value, Vals xs its ∧ IsTup s.heap a its.toArray ∧ xs.length ≤ sizeLine := by
  rcases h with h | ⟨o, its, n, hk, hc, hs, hz, r⟩
  · obtain ⟨z, its, r, p⟩ := h.ok I.hok
    exact ⟨its, r, p, z⟩
  · refine ⟨its.toList, r, ⟨o, I.kIn a o hk, hc, n, by simpa using hs⟩, ?_⟩
    have e := r.length
    simp only [Array.length_toList] at e
    omega
theorem Inv.list_inj (I : Inv X pins σ H s) (h : SqL X.K H a xs) (h' : SqL X.K H a ys) : xs = ys := by
  obtain ⟨its, r, ⟨o, n, e, _, _, d⟩, _⟩ := I.list h
  obtain ⟨its', r', ⟨o', n', e', _, _, d'⟩, _⟩ := I.list h'
  rw [e] at e'; cases e'
  rw [d] at d'
  injection d' with d1 _
  have : its = its' := by simpa using congrArg Array.toList d1
  subst this
  exact r.inj r'
end

/-! ### another wish about exceptions -/
abbrev Cx.wish (X : Cx) (E : Value → Shared → Prop) : Cx := { X with xe := E }
/-- no exception leaves -/
abbrev Cx.nox (X : Cx) : Cx := X.wish fun _ _ => False
theorem Cx.Ok.wish {X : Cx} (ok : X.Ok) (E : Value → Shared → Prop) : (X.wish E).Ok :=
  ⟨ok.mod, ok.kind, ok.glob, ok.blt, ok.above, ok.inj, ok.has, ok.cab, ok.hd, ok.frames, ok.stk, ok.exf, ok.bs, ok.bsz, ok.noex, ok.exfs, ok.funs, ok.frf⟩
theorem Cx.Ok.unwish {X : Cx} {E : Value → Shared → Prop} (ok : (X.wish E).Ok) : X.Ok :=
  ⟨ok.mod, ok.kind, ok.glob, ok.blt, ok.above, ok.inj, ok.has, ok.cab, ok.hd, ok.frames, ok.stk, ok.exf, ok.bs, ok.bsz, ok.noex, ok.exfs, ok.funs, ok.frf⟩
section
variable {X : Cx} {pins : List (Addr × Obj)} {σ : St} {H : Hp} {s : Shared} {E : Value → Shared → Prop}
theorem Inv.wish (I : Inv X pins σ H s) (E : Value → Shared → Prop) : Inv (X.wish E) pins σ H s := ⟨I.ok.wish E, I.os, I.bare, I.base, I.loc, I.cell, I.free, I.freeC, I.pin, I.hok, I.len⟩
theorem Inv.unwish (I : Inv (X.wish E) pins σ H s) : Inv X pins σ H s := ⟨I.ok.unwish, I.os, I.bare, I.base, I.loc, I.cell, I.free, I.freeC, I.pin, I.hok, I.len⟩
theorem SP.unwish {D : Ends} {f : Flow} {s' : Shared} (h : SP (X.wish E) pins D f s') : SP X pins D f s' := by
  cases f with
  | next => obtain ⟨σ', H', I, q⟩ := h; exact ⟨σ', H', I.unwish, q⟩
  | brk => obtain ⟨σ', H', I, q⟩ := h; exact ⟨σ', H', I.unwish, q⟩
  | cont => obtain ⟨σ', H', I, q⟩ := h; exact ⟨σ', H', I.unwish, q⟩
  | ret u => obtain ⟨v, σ', H', I, r, q⟩ := h; exact ⟨v, σ', H', I.unwish, r, q⟩
theorem PE.nox {e : Expr} {t : TE} (h : PE X.nox e t) : PE X e t := fun pins s σ H Q I hw =>
  wpAny_mono (h pins s σ H Q (I.wish _) hw) (fun _ _ ⟨v, H', I', r, q⟩ => ⟨v, H', I'.unwish, r, q⟩) fun _ _ z => False.elim z
theorem PT.nox {e : Expr} {t : TT} (h : PT X.nox e t) : PT X e t := fun pins s σ H Q I hw =>
  wpAny_mono (h pins s σ H Q (I.wish _) hw) (fun _ _ ⟨H', I', q⟩ => ⟨H', I'.unwish, q⟩) fun _ _ z => False.elim z
theorem PSs.nox {st : List Stmt} {t : TS} (h : PSs X.nox st t) : PSs X st t := fun pins s σ H D I hw =>
  wpAny_mono (h pins s σ H D (I.wish _) hw) (fun _ _ q => q.unwish) fun _ _ z => False.elim z
end

/-! ### blocks and small statements -/
section
variable {X : Cx} {st : Stmt} {rest : List Stmt} {t u : TS} {e : Expr} {te : TE} {pos : Pos}
def tNext : TS := fun D σ H => D.nx σ H
def tSeq (t u : TS) : TS := fun D σ H => t { D with nx := u D } σ H
theorem pss_nil : PSs X [] tNext := fun _ _ σ H _ I h => wpAny_execs_nil ⟨σ, H, I, h⟩
theorem pss_cons (h1 : PS X st t) (h2 : PSs X rest u) : PSs X (st :: rest) (tSeq t u) := by
  intro pins s σ H D I h
  refine wpAny_execs_cons (thn (h1 pins s σ H { D with nx := u D } I h) fun f s1 q => ?_)
  cases f with
  | next =>
    obtain ⟨σ', H', I', q⟩ := q
    exact h2 pins s1 σ' H' D I' q
  | ret v => exact q
  | brk => exact q
  | cont => exact q
theorem pss_one (h1 : PS X st t) : PSs X [st] t := by
  intro pins s σ H D I h
  refine wpAny_execs_cons (thn (h1 pins s σ H D I h) fun f s1 q => ?_)
  cases f with
  | next => exact wpAny_execs_nil q
  | ret v => exact q
  | brk => exact q
  | cont => exact q
/-- in a def's body nothing is shown -/
theorem Inv.quiet {pins : List (Addr × Obj)} {σ : St} {H : Hp} {s : Shared} (I : Inv X pins σ H s) : interactive X.env = false := by simp [interactive, I.ok.kind]
/-- an expression whose value is dropped -/
def tDrop (te : TE) : TS := fun D σ H => te σ H fun _ H1 => D.nx σ H1
theorem ps_expr (he : PE X e te) (hs : swapsWith e none pos.line X.env = pure false := by rfl) : PS X (.Expr e pos) (tDrop te) := by
  intro pins s σ H D I h
  exact wpAny_Expr_any (thn (he pins s σ H _ I h) fun v s1 ⟨x, H1, I1, r1, q1⟩ => ⟨σ, H1, I1, q1⟩) I.quiet hs
def tRet (te : TE) : TS := fun D σ H => te σ H D.rt
theorem ps_ret (he : PE X e te) : PS X (.Return (some e) pos) (tRet te) := by
  intro pins s σ H D I h
  exact wpAny_Return_some (thn (he pins s σ H _ I h) fun v s1 ⟨x, H1, I1, r1, q1⟩ => ⟨x, σ, H1, I1, r1, q1⟩)
def tIfS (c : TT) (t u : TS) : TS := fun D σ H => c σ H fun b H1 => if b = true then t D σ H1 else u D σ H1
theorem ps_if {c : Expr} {a b : List Stmt} {tc : TT} (hc : PT X c tc) (ha : PSs X a t) (hb : PSs X b u) : PS X (.If c a b pos) (tIfS tc t u) := by
  intro pins s σ H D I h
  refine wpAny_If (thn (hc pins s σ H _ I h) fun d s1 ⟨H1, I1, q1⟩ => ?_)
  cases d with
  | true => exact ha pins s1 σ H1 D I1 q1
  | false => exact hb pins s1 σ H1 D I1 q1
end

/-! ### targets -/
abbrev TG := V → St → Hp → (St → Hp → Prop) → Prop
abbrev TGs := List V → St → Hp → (St → Hp → Prop) → Prop
def PG (X : Cx) (target : Expr) (t : TG) : Prop :=
  ∀ (pins : List (Addr × Obj)) (s : Shared) (σ : St) (H : Hp) (v : V) (u : Value) (Q : St → Hp → Prop), Inv X pins σ H s → RelV v u → t v σ H Q →
    wpAny (model X.prog X.w) X.A (assign target X.env u) (fun _ s' => ∃ σ' H', Inv X pins σ' H' s' ∧ Q σ' H') X.xe s
/-- several targets, one after another -/
def PGs (X : Cx) (ts : List Expr) (t : TGs) : Prop :=
  ∀ (pins : List (Addr × Obj)) (s : Shared) (σ : St) (H : Hp) (vs : List V) (us : List Value) (Q : St → Hp → Prop), Inv X pins σ H s → Vals vs us → t vs σ H Q →
    wpAny (model X.prog X.w) X.A (assignInOrder ((assignEach ts X.env).map (·.2)) us) (fun _ s' => ∃ σ' H', Inv X pins σ' H' s' ∧ Q σ' H') X.xe s
/-- o[i] = v, by values -/
abbrev TSet := V → V → V → Hp → (Hp → Prop) → Prop
/-- a op= b, by values -/
abbrev TIp := V → V → Hp → VK → Prop
section
variable {X : Cx} {pos : Pos}
def gName (i : Nat) : TG := fun v σ H Q => Q (σ.set i (some v)) H
theorem pg_name {i : Nat} {x : Str} (hN : X.N.Nodup) (hi : X.N[i]? = some x) (hx : Loc X.env.scope x) (hf : X.fn x = true ∨ X.env.scope.names.lookup x = some .local := by first | exact .inl rfl | exact .inr rfl | assumption) : PG X (.Name x pos) (gName i) := by
  intro pins s σ H v u Q I r h
  exact wpAny_assign_Name (store_ok I hN hi hx r (fun s' I' => ⟨_, H, I', h⟩) hf)
def gNil : TGs := fun vs σ H Q => vs = [] ∧ Q σ H
def gCons (t : TG) (u : TGs) : TGs := fun vs σ H Q => ∃ v r, vs = v :: r ∧ t v σ H fun σ' H' => u r σ' H' Q
theorem pgs_nil : PGs X [] gNil := by
  intro pins s σ H vs us Q I r h
  obtain ⟨e, h⟩ := h
  subst e
  cases r
  exact assignInOrder_nil ⟨σ, H, I, h⟩
theorem pgs_cons {e : Expr} {es : List Expr} {t : TG} {u : TGs} (h1 : PG X e t) (h2 : PGs X es u)
    (hs : (assignEach (e :: es) X.env).map (·.2) = assign e X.env :: (assignEach es X.env).map (·.2) := by rfl) : PGs X (e :: es) (gCons t u) := by
  intro pins s σ H vs us Q I r h
  obtain ⟨v, vr, e1, h⟩ := h
  subst e1
  cases r with
  | cons r rr =>
    rw [hs]
    refine assignInOrder_cons (thn (h1 pins s σ H _ _ _ I r h) fun _ s1 ⟨σ1, H1, I1, q1⟩ => ?_)
    exact h2 pins s1 σ1 H1 _ _ Q I1 rr q1
/-- (a, b, ..) = a tuple of that length -/
def gTup (K : PySem.W.Frag) (n : Nat) (t : TGs) : TG := fun v σ H Q => ∃ a xs, v = .ref a ∧ SqT K H a xs ∧ xs.length = n ∧ t xs σ H Q
theorem pg_tup {es : List Expr} {k : Nat} {t : TGs} {n : Nat} (hc : X.calm = true) (h : PGs X es t)
    (hn : (assignEach es X.env).length = n := by rfl) (hst : (assignEach es X.env).findIdx? (·.1) = none := by rfl) : PG X (.Tuple es k pos) (gTup X.K n t) := by
  intro pins s σ H v u Q I r hw
  obtain ⟨a, xs, e1, hq, hl, hw⟩ := hw
  subst e1
  cases r
  obtain ⟨its, rv, ht, hz⟩ := I.tuple hq
  refine assign_Tuple_tuple (I.ok.hd hc) ht (by simp [hn, ← hl, rv.length]) hst fun h' hx => ?_
  have I1 : Inv X pins σ H { s with heap := h' } := I.kept (t' := s.toks) fun b o e => hx b o (Nat.ne_of_lt (Heap.lt_size e)) e
  exact h pins _ σ H xs _ Q I1 (by simpa using rv) hw
/-- target = value -/
def tAsg (te : TE) (g : TG) : TS := fun D σ H => te σ H fun x H1 => g x σ H1 D.nx
/-- name = value -/
theorem ps_set {i : Nat} {x : Str} {e : Expr} {te : TE} {pos' : Pos} (hN : X.N.Nodup) (hi : X.N[i]? = some x) (hx : Loc X.env.scope x) (he : PE X e te) (hs : swapsWith e (some (.Name x pos')) pos.line X.env = pure false := by rfl) (hf : X.fn x = true ∨ X.env.scope.names.lookup x = some .local := by first | exact .inl rfl | exact .inr rfl | assumption) :
    PS X (.Assign [.Name x pos'] e pos) (tAsg te (gName i)) := by
  intro pins s σ H D I h
  refine wpAny_Assign_Name (thn (he pins s σ H _ I h) fun v s1 ⟨y, H1, I1, r1, q1⟩ => ?_) hs
  exact store_ok I1 hN hi hx r1 (fun s2 I2 => ⟨_, H1, I2, q1⟩) hf
end

/-! ### while -/
section
variable {X : Cx} {pos : Pos}
/-- the invariant W with its measure -/
def tWhile (c : TT) (tb : TS) : TS := fun D σ H => ∃ W : Nat → St → Hp → Prop, (∃ m, W m σ H) ∧ ∀ m σ H, W m σ H →
  c σ H fun b H1 => if b = true then ∃ N : St → Hp → Prop, (∀ σ' H', N σ' H' → ∃ m', m' < m ∧ W m' σ' H') ∧ tb { D with nx := N, ct := N, bk := D.nx } σ H1 else D.nx σ H1
theorem ps_while {c : Expr} {body : List Stmt} {tc : TT} {tb : TS} (hp : PassesOwn (model X.prog X.w) X.A X.env X.xe) (hc : PT X c tc) (hb : PSs X body tb) : PS X (.While c body [] pos) (tWhile tc tb) := by
  intro pins s σ H D I h
  obtain ⟨W, ⟨m0, w0⟩, turn⟩ := h
  refine wpAny_While (codeAny_whileLoop (fun n s' => ∃ σ' H', Inv X pins σ' H' s' ∧ W n σ' H') ?_ m0 ⟨σ, H, I, w0⟩)
  rintro n s1 ⟨σ1, H1, I1, w1⟩
  refine wpAny_passesOwn hp (thn (hc pins s1 σ1 H1 _ I1 (turn n σ1 H1 w1)) fun b s2 ⟨H2, I2, q2⟩ => ?_)
  cases b with
  | true =>
    obtain ⟨N, hN, q2⟩ := q2
    rw [if_pos rfl]
    refine wpAny_passesOwn hp (thn (hb pins s2 σ1 H2 _ I2 q2) fun f s3 q3 => ?_)
    cases f with
    | next =>
      obtain ⟨σ3, H3, I3, n3⟩ := q3
      obtain ⟨m', hm, w3⟩ := hN σ3 H3 n3
      exact ⟨m', hm, σ3, H3, I3, w3⟩
    | cont =>
      obtain ⟨σ3, H3, I3, n3⟩ := q3
      obtain ⟨m', hm, w3⟩ := hN σ3 H3 n3
      exact ⟨m', hm, σ3, H3, I3, w3⟩
    | brk => exact q3
    | ret v => exact q3
  | false =>
    rw [if_neg Bool.false_ne_true]
    exact wpAny_execs_nil ⟨σ1, H2, I2, q2⟩
end

/-! ### what a loop or a comprehension walks -/
/-- at turn i: it yields x (the heap may grow), or it stops -/
structure It where
  go : Nat → Hp → Prop
  yld : Nat → Hp → V → Hp → Prop
  stop : Nat → Hp → Prop
/-- the iterator's own objects may turn: they are not the frame's, not pinned, younger than the entry (or a comprehension's own) -/
def FpOk (X : Cx) (pins : List (Addr × Obj)) (H : Hp) (b : Addr) : Prop :=
  H b = none ∧ b ≠ X.env.locals ∧ b ∉ X.fs ∧ (b ∈ X.ex ∨ X.s_0.heap.objs.size ≤ b) ∧ (∀ x c, X.env.cells.lookup x = some c → c ≠ b) ∧ ∀ p ∈ X.pn ++ pins, p.1 ≠ b
theorem Inv.fpOk {X : Cx} {pins : List (Addr × Obj)} {σ : St} {H H' : Hp} {s : Shared} {b : Addr} (I : Inv X pins σ H s) (hb : s.heap.objs.size ≤ b) (hn : H' b = none) : FpOk X pins H' b := by
  refine ⟨hn, Nat.ne_of_gt (Nat.lt_of_lt_of_le I.lt hb), I.nofs hb, .inr (Nat.le_trans I.sz hb), fun x c e z => ?_, fun p hp z => ?_⟩
  · obtain ⟨v, q⟩ := I.cell x c e
    exact absurd (Nat.lt_of_lt_of_le q.lt (by rw [z]; exact hb)) (Nat.lt_irrefl _)
  · exact absurd (Nat.lt_of_lt_of_le (Heap.lt_size (I.pin p hp).1) (by rw [z]; exact hb)) (Nat.lt_irrefl _)
structure Turn (P : Program) (w : World) (K : PySem.W.Frag) (tg : Expr) (J : It) (fp : List Addr) (it : Addr) (tn : Nat → Heap → Prop) : Prop where
  mem : it ∈ fp
  obj : ∀ i h, tn i h → ∀ b ∈ fp, ∃ o, h.get? b = some o ∧ ∀ v, o.data ≠ .cell v
  keep : ∀ i h h', tn i h → (∀ b ∈ fp, ∀ o, h.get? b = some o → h'.get? b = some o) → tn i h'
  item : ∀ (X : Cx), X.prog = P → X.w = w → X.K = K → X.calm = true → ∀ (i : Nat) (pins : List (Addr × Obj)) (s : Shared) (σ : St) (H : Hp) (E : Value → Shared → Prop), Inv X pins σ H s → (∀ b ∈ fp, FpOk X pins H b) → tn i s.heap → J.go i H →
    wpAny (model P w) X.A (pyNext (.ref it)) (fun r s1 => ∃ u, r = some u ∧
      wpAny (model P w) X.A (letOwnedTupleGo tg (.ref it) u) (fun _ s2 => ∃ x H', Inv X pins σ H' s2 ∧ RelV x u ∧ J.yld i H x H' ∧ tn (i + 1) s2.heap ∧ ∀ b ∈ fp, H' b = none) E s1) E s
  done : ∀ (X : Cx), X.prog = P → X.w = w → X.K = K → X.calm = true → ∀ (i : Nat) (pins : List (Addr × Obj)) (s : Shared) (σ : St) (H : Hp) (E : Value → Shared → Prop), Inv X pins σ H s → (∀ b ∈ fp, FpOk X pins H b) → tn i s.heap → J.stop i H →
    wpAny (model P w) X.A (pyNext (.ref it)) (fun r s1 => r = none ∧ Inv X pins σ H s1) E s
  self : ∀ (A : Around) (i : Nat) (s : Shared) (Q : Value → Shared → Prop) (E : Value → Shared → Prop), tn i s.heap → Q (.ref it) s → wpAny (model P w) A (pyIter (.ref it)) Q E s
abbrev TI := St → Hp → (It → Hp → Prop) → Prop
/-- an iterator has come -/
def PIE (X : Cx) (pins : List (Addr × Obj)) (σ : St) (tg : Expr) (R : It → Hp → Prop) (itv : Value) (s2 : Shared) : Prop :=
  ∃ (it : Addr) (fp : List Addr) (tn : Nat → Heap → Prop) (J : It) (H' : Hp), itv = .ref it ∧ Inv X pins σ H' s2 ∧ Turn X.prog X.w X.K tg J fp it tn ∧ tn 0 s2.heap ∧ (∀ b ∈ fp, FpOk X pins H' b) ∧ R J H'
def PI (X : Cx) (tg iter : Expr) (wi : TI) : Prop :=
  ∀ (pins : List (Addr × Obj)) (s : Shared) (σ : St) (H : Hp) (R : It → Hp → Prop), Inv X pins σ H s → wi σ H R →
    wpAny (model X.prog X.w) X.A (eval iter X.env) (fun v s1 => wpAny (model X.prog X.w) X.A (pyIter v) (PIE X pins σ tg R) X.xe s1) X.xe s

/-- the step ahead of the store is nothing for an iterator that keeps no tuple -/
theorem go_of {M : Model} {A : Around} {E : Value → Shared → Prop} {s : Shared} {tg : Expr} {it : Addr} {u : Value} {o : Obj} {n : String} {vs : Array Value} {Q : Unit → Shared → Prop} (ho : s.heap.get? it = some o) (hc : o.cls = .type n) (hd : o.data = .fields vs)
    (hn : ["enumerate", "zip", "dict_itemiterator", "dict_reverseitemiterator", "odict_iterator", "itertools.zip_longest", "itertools.pairwise"].contains n = false) (hQ : Q () s) : wpAny M A (letOwnedTupleGo tg (.ref it) u) Q E s := by
  unfold letOwnedTupleGo
  cases tg <;> first
    | exact wpAny_pure hQ
    | (cases u <;> first
        | exact wpAny_pure hQ
        | (refine wpAny_bind (wpAny_load ho ?_)
           rw [hc, hd]
           show wpAny M A (if (["enumerate", "zip", "dict_itemiterator", "dict_reverseitemiterator", "odict_iterator", "itertools.zip_longest", "itertools.pairwise"].contains n && vs[0]? == some (rawInt _)) = true then _ else _) Q E s
           rw [if_neg (by intro h; rw [hn, Bool.false_and] at h; cases h)]
           exact wpAny_pure hQ))

/-- the list at a, as it stands at each turn (a loop may append to it) -/
def Itl (K : PySem.W.Frag) (a : Addr) : It :=
  ⟨fun i H => ∃ xs x, SqL K H a xs ∧ xs[i]? = some x, fun i H x H' => H' = H ∧ ∀ xs, SqL K H a xs → xs[i]? = some x, fun i H => ∃ xs, SqL K H a xs ∧ xs.length ≤ i⟩
/-- lo, lo + 1, .. (n of them) -/
def Itr (lo : Int) (n : Nat) : It := ⟨fun i _ => i < n, fun i H x H' => H' = H ∧ x = .int (lo + i), fun i _ => n ≤ i⟩
theorem turn_list {P : Program} {w : World} {K : PySem.W.Frag} {tg : Expr} (a it : Addr) : Turn P w K tg (Itl K a) [it] it (fun i h => h.IsListIter it a i) where
  mem := by simp
  obj := fun i h st b hb => by
    have e : b = it := by simpa using hb
    subst e
    obtain ⟨o, e, c, d⟩ := st
    exact ⟨o, e, fun v z => by rw [d] at z; cases z⟩
  keep := fun i h h' st k => st.at fun o e => k it (by simp) o e
  item := by
    intro X hP hw hK hc i pins s σ H E I hf st hg
    subst hP hw hK
    obtain ⟨xs, x, hq, hx⟩ := hg
    obtain ⟨its, rv, p, hz⟩ := I.list hq
    obtain ⟨u, hu, ru⟩ := rv.get hx
    obtain ⟨f0, f1, f2, f3, f4, f5⟩ := hf it (by simp)
    refine wpAny_pyNext_list_item st p.isList (x := u) (by simpa using hu) fun h' st' sb => ?_
    have I1 : Inv X pins σ H { s with heap := h' } := I.turned (t' := s.toks) (fun b o hb e => (sb.2 b hb).trans e) f0 f1 f3 f4 f5
    obtain ⟨o, e, c, d⟩ := id st'
    exact ⟨u, rfl, go_of (s := { s with heap := h' }) e c d (by decide) ⟨x, H, I1, ru, ⟨rfl, fun ys hy => by rw [I.list_inj hy hq]; exact hx⟩, st', fun b hb => (hf b hb).1⟩⟩
  done := by
    intro X hP hw hK hc i pins s σ H E I hf st hg
    subst hP hw hK
    obtain ⟨xs, hq, hx⟩ := hg
    obtain ⟨its, rv, p, hz⟩ := I.list hq
    obtain ⟨f0, f1, f2, f3, f4, f5⟩ := hf it (by simp)
    have hl := rv.length
    exact wpAny_pyNext_list_end (I.ok.hd hc) st p.isList (by simp; omega) fun h' eb => ⟨rfl, I.turned (t' := s.toks) (fun b o hb e => eb b o hb e) f0 f1 f3 f4 f5⟩
  self := fun _ _ _ _ _ st h => wpAny_pyIter_listiter st h
theorem turn_range {P : Program} {w : World} {K : PySem.W.Frag} {tg : Expr} (it : Addr) (lo : Int) (n : Nat) : Turn P w K tg (Itr lo n) [it] it (fun i h => IsRangeIter h it (lo + (i : Nat) * 1) ((n : Int) - (i : Nat)) 1) where
  mem := by simp
  obj := fun i h st b hb => by
    have e : b = it := by simpa using hb
    subst e
    exact ⟨_, st, fun v z => by
      have z' : Data.fields _ = Data.cell v := z
      cases z'⟩
  keep := fun i h h' st k => k it (by simp) _ st
  item := by
    intro X hP hw hK hc i pins s σ H E I hf st hg
    subst hP hw hK
    obtain ⟨f0, f1, f2, f3, f4, f5⟩ := hf it (by simp)
    have W := Walks.range (prog := X.prog) (w := X.w) (I.ok.hd hc) it lo 1 n
    refine W.item i s _ _ hg st fun v h' tk hv st' kk => ?_
    obtain ⟨t, rfl⟩ := hv
    have I1 : Inv X pins σ H { s with heap := h', toks := tk } := I.turned (fun b o hb e => kk b o (by simpa using hb) e) f0 f1 f3 f4 f5
    refine ⟨_, rfl, go_of (s := { s with heap := h', toks := tk }) (n := "range_iterator") st' rfl rfl (by decide) ⟨.int (lo + i), H, I1, ⟨t, ?_⟩, ⟨rfl, rfl⟩, st', fun b hb => (hf b hb).1⟩⟩
    rw [Int.mul_one]
  done := by
    intro X hP hw hK hc i pins s σ H E I hf st hg
    subst hP hw hK
    obtain ⟨f0, f1, f2, f3, f4, f5⟩ := hf it (by simp)
    exact wpAny_pyNext_range_end (I.ok.hd hc) st (by have : n ≤ i := hg; omega) fun h' eb => ⟨rfl, I.turned (t' := s.toks) (fun b o hb e => eb b o hb e) f0 f1 f3 f4 f5⟩
  self := fun _ _ _ _ _ st h => wpAny_pyIter_rangeiter st h
end L2

namespace L2
open PySem PySem.Spec PyProof.Rows
section
variable {X : Cx} {tg : Expr}
def iList (K : PySem.W.Frag) (tl : TE) : TI := fun σ H R => tl σ H fun x H1 => ∃ a, x = .ref a ∧ (∃ xs, SqL K H1 a xs) ∧ R (Itl K a) H1
theorem pi_list {l : Expr} {tl : TE} (hl : PE X l tl) : PI X tg l (iList X.K tl) := by
  intro pins s σ H R I h
  refine thn (hl pins s σ H _ I h) fun v s1 ⟨x, H1, I1, r1, q1⟩ => ?_
  obtain ⟨a, e, ⟨xs, hq⟩, q⟩ := q1
  subst e
  cases r1
  obtain ⟨its, rv, p, hz⟩ := I1.list hq
  refine wpAny_pyIter_list p.isList ?_
  refine ⟨s1.heap.objs.size, [s1.heap.objs.size], _, _, H1, rfl, I1.kept (t' := s1.toks) fun b o e => Heap.get?_push_of_some _ e, turn_list a _, ⟨_, Heap.get?_push_size _ rfl, rfl, rfl⟩, fun b hb => ?_, q⟩
  have e : b = s1.heap.objs.size := by simpa using hb
  subst e
  exact I1.fpOk (Nat.le_refl _) (I1.hok.fresh (Nat.le_refl _))
/-- a range object just made, walked -/
theorem range_it {pins : List (Addr × Obj)} {σ : St} {H : Hp} {s : Shared} {R : It → Hp → Prop} {E : Value → Shared → Prop} {lo hi : Int} {t u v : Tok} {tk : Nat} (I : Inv X pins σ H s) (h1 : -(2 ^ 62) ≤ lo) (h2 : lo < 2 ^ 62) (h3 : -(2 ^ 62) ≤ hi) (h4 : hi < 2 ^ 62)
    (q : R (Itr lo (hi - lo).toNat) H) : wpAny (model X.prog X.w) X.A (pyIter (.ref s.heap.objs.size)) (PIE X pins σ tg R) E { s with heap := s.heap.push { cls := .type "range", data := .fields #[.int lo t, .int hi u, .int 1 v] }, toks := tk } := by
  refine wpAny_pyIter_range (IsRange.new ..) (small_one h1 h2 h3 h4) ?_
  have I1 : Inv X pins σ H { s with heap := s.heap.push { cls := .type "range", data := .fields #[.int lo t, .int hi u, .int 1 v] }, toks := tk } := I.kept fun b o e => Heap.get?_push_of_some _ e
  refine ⟨(s.heap.push { cls := .type "range", data := .fields #[.int lo t, .int hi u, .int 1 v] }).objs.size, [(s.heap.push { cls := .type "range", data := .fields #[.int lo t, .int hi u, .int 1 v] }).objs.size], _, _, H, rfl,
    I1.kept (t' := tk) fun b o e => Heap.get?_push_of_some _ e, turn_range _ lo (hi - lo).toNat, ?_, fun b hb => ?_, q⟩
  · have e1 : lo + ((0 : Nat) : Int) * 1 = lo := by simp
    have e2 : (((hi - lo).toNat : Nat) : Int) - ((0 : Nat) : Int) = Builtin.Range.rangeSize lo hi 1 := by rw [rangeSize_one]; split <;> omega
    show IsRangeIter _ _ (lo + ((0 : Nat) : Int) * 1) ((((hi - lo).toNat : Nat) : Int) - ((0 : Nat) : Int)) 1
    rw [e1, e2]
    exact Heap.get?_push_size _ rfl
  · have e : b = (s.heap.push { cls := .type "range", data := .fields #[.int lo t, .int hi u, .int 1 v] }).objs.size := by simpa using hb
    subst e
    exact I1.fpOk (Nat.le_refl _) (I1.hok.fresh (Nat.le_refl _))
def iRng1 (ta : TA) : TI := fun σ H R => ta σ H fun vs H1 => ∃ j : Int, vs = [.int j] ∧ -(2 ^ 62) ≤ j ∧ j < 2 ^ 62 ∧ R (Itr 0 j.toNat) H1
theorem pi_range1 {a : Expr} {ta : TA} {p pos : Pos} (hg : Gl X "range") (hm : X.mg "range" = none) (ha : PA X [a] ta) (hs : starEach [a] X.env = [(false, eval a X.env)] := by rfl) : PI X tg (.Call (.Name "range" p) [a] [] pos) (iRng1 ta) := by
  intro pins s σ H R I h
  refine Call_ (ld_blt I hg hm boot_range (PyProof.Rows.callWith_type1 (thn (ha pos pins s σ H _ I h) fun us s1 ⟨vs, H1, I1, r1, q1⟩ => ?_) hs rfl))
  obtain ⟨j, e, q1, q2, q⟩ := q1
  subst e
  cases r1 with
  | cons r rr =>
    cases rr
    obtain ⟨t, rfl⟩ := r
    exact call_range_1 (range_it I1 (by omega) (by omega) q1 q2 (by simpa using q))
/-! ### for -/
/-- W: the invariant by the turn and a measure; N: what the body is to reach -/
def tFor (wi : TI) (g : TG) (tb : TS) : TS := fun D σ H => wi σ H fun J H1 => ∃ W : Nat → Nat → St → Hp → Prop, (∃ m, W 0 m σ H1) ∧ ∀ i m σ H, W i m σ H →
  (J.stop i H ∧ D.nx σ H) ∨ (J.go i H ∧ ∃ N : St → Hp → Prop, (∀ σ' H', N σ' H' → ∃ m', m' < m ∧ W (i + 1) m' σ' H') ∧ ∀ x H', J.yld i H x H' → g x σ H' fun σ2 H2 => tb { D with nx := N, ct := N, bk := D.nx } σ2 H2)
/-- the records at fp as they stand -/
def pinsAt (fp : List Addr) (h : Heap) : List (Addr × Obj) := fp.filterMap fun b => (h.get? b).map fun o => (b, o)
theorem mem_pinsAt {fp : List Addr} {h : Heap} {b : Addr} {o : Obj} (hb : b ∈ fp) (e : h.get? b = some o) : (b, o) ∈ pinsAt fp h := List.mem_filterMap.mpr ⟨b, hb, by rw [e]; rfl⟩
theorem of_pinsAt {fp : List Addr} {h : Heap} {p : Addr × Obj} (hp : p ∈ pinsAt fp h) : p.1 ∈ fp ∧ h.get? p.1 = some p.2 := by
  obtain ⟨b, hb, e⟩ := List.mem_filterMap.mp hp
  cases q : h.get? b with
  | none => rw [q] at e; cases e
  | some o =>
    rw [q] at e
    have e' : (b, o) = p := Option.some.inj e
    subst e'
    exact ⟨hb, q⟩
theorem Inv.pinned {pins : List (Addr × Obj)} {σ : St} {H : Hp} {s : Shared} {fp : List Addr} (I : Inv X pins σ H s) (hf : ∀ b ∈ fp, FpOk X pins H b) (ho : ∀ b ∈ fp, ∃ o, s.heap.get? b = some o ∧ ∀ v, o.data ≠ .cell v) : Inv X (pins ++ pinsAt fp s.heap) σ H s :=
  I.pins_of fun p hp => (List.mem_append.mp hp).elim (fun z => I.pin p (List.mem_append_right _ z)) fun z => by
    obtain ⟨hb, e⟩ := of_pinsAt z
    obtain ⟨f0, f1, f2, _⟩ := hf p.1 hb
    obtain ⟨o, e', d⟩ := ho p.1 hb
    rw [e] at e'; cases e'
    exact ⟨e, f0, f1, f2, d⟩
theorem Inv.unpinned {pins pl : List (Addr × Obj)} {σ : St} {H : Hp} {s : Shared} (I : Inv X (pins ++ pl) σ H s) : Inv X pins σ H s := I.pins_of fun p hp => I.pin p (List.mem_append_right _ (List.mem_append_left _ hp))
theorem ps_for {iter : Expr} {body : List Stmt} {wi : TI} {g : TG} {tb : TS} {pos : Pos} (hp : PassesOwn (model X.prog X.w) X.A X.env X.xe) (hc : X.calm = true) (hi : PI X tg iter wi) (hg : PG X tg g) (hb : PSs X body tb)
    (hs : ∀ x, foldedSetIterable iter X.env x = pure x := by intro _; rfl) : PS X (.For tg iter body [] pos) (tFor wi g tb) := by
  intro pins s σ H D I h
  refine wpAny_For (thn (hi pins s σ H _ I h) fun v s1 h1 => thn h1 fun itv s2 h2 => ?_) hs
  obtain ⟨it, fp, tn, J, H2, e, I2, T, st2, f2, W, ⟨m0, w0⟩, turn⟩ := h2
  subst e
  -- what stays true of the iterator's objects through the loop
  have stat : ∀ {H' : Hp}, (∀ b ∈ fp, H' b = none) → ∀ b ∈ fp, FpOk X pins H' b := fun hn b hb => ⟨hn b hb, (f2 b hb).2⟩
  refine codeAny_forLoop_any (fun n s' => ∃ i σ' H', Inv X pins σ' H' s' ∧ tn i s'.heap ∧ (∀ b ∈ fp, H' b = none) ∧ W i n σ' H') ?_ m0 ⟨0, σ, H2, I2, st2, fun b hb => (f2 b hb).1, w0⟩
  rintro n s3 ⟨i, σ3, H3, I3, st3, fr3, w3⟩
  rcases turn i n σ3 H3 w3 with ⟨stop, qn⟩ | ⟨go, N, hN, step⟩
  · refine wpAny_passesOwn hp (thn (T.done X rfl rfl rfl hc i pins s3 σ3 H3 X.xe I3 (stat fr3) st3 stop) fun r s4 ⟨hr, I4⟩ => ?_)
    subst hr
    exact wpAny_execs_nil ⟨σ3, H3, I4, qn⟩
  · refine wpAny_passesOwn hp (thn (T.item X rfl rfl rfl hc i pins s3 σ3 H3 X.xe I3 (stat fr3) st3 go) fun r s4 ⟨u, hr, h4⟩ => ?_)
    subst hr
    refine wpAny_passesOwn hp (thn h4 fun _ s5 ⟨x, H5, I5, r5, y5, st5, fr5⟩ => ?_)
    have I5' := I5.pinned (stat fr5) (T.obj _ _ st5)
    refine wpAny_passesOwn hp (thn (hg _ s5 σ3 H5 x u _ I5' r5 (step x H5 y5)) fun _ s6 ⟨σ6, H6, I6, q6⟩ => ?_)
    refine wpAny_passesOwn hp (thn (hb _ s6 σ6 H6 _ I6 q6) fun f s7 q7 => ?_)
    have again : ∀ {σ7 : St} {H7 : Hp}, Inv X (pins ++ pinsAt fp s5.heap) σ7 H7 s7 → N σ7 H7 → ∃ m, m < n ∧ ∃ i σ' H', Inv X pins σ' H' s7 ∧ tn i s7.heap ∧ (∀ b ∈ fp, H' b = none) ∧ W i m σ' H' := fun {σ7 H7} I7 n7 => by
      obtain ⟨m', hm, w7⟩ := hN σ7 H7 n7
      refine ⟨m', hm, i + 1, σ7, H7, I7.unpinned, T.keep _ _ _ st5 fun b hb o e => (I7.pin (b, o) (List.mem_append_right _ (List.mem_append_right _ (mem_pinsAt hb e)))).1, fun b hb => ?_, w7⟩
      obtain ⟨o, e, d⟩ := T.obj _ _ st5 b hb
      exact (I7.pin (b, o) (List.mem_append_right _ (List.mem_append_right _ (mem_pinsAt hb e)))).2.1
    cases f with
    | next => obtain ⟨σ7, H7, I7, n7⟩ := q7; exact again I7 n7
    | cont => obtain ⟨σ7, H7, I7, n7⟩ := q7; exact again I7 n7
    | brk => obtain ⟨σ7, H7, I7, q7⟩ := q7; exact ⟨σ7, H7, I7.unpinned, q7⟩
    | ret v => obtain ⟨x7, σ7, H7, I7, r7, q7⟩ := q7; exact ⟨x7, σ7, H7, I7.unpinned, r7, q7⟩
end

/-! ### the forms one uses -/
/-- over a list that the body leaves as it is -/
theorem for_list {K : PySem.W.Frag} {a : Addr} {xs : List V} {g : TG} {tb : TS} {D : Ends} {σ : St} {H : Hp} (Pv : Nat → St → Hp → Prop) (h0 : Pv 0 σ H) (hl : ∀ i σ H, i ≤ xs.length → Pv i σ H → SqL K H a xs)
    (hs : ∀ i x σ H, xs[i]? = some x → Pv i σ H → g x σ H fun σ2 H2 => tb { D with nx := Pv (i + 1), ct := Pv (i + 1), bk := D.nx } σ2 H2) (hd : ∀ σ H, Pv xs.length σ H → D.nx σ H) :
    ∃ W : Nat → Nat → St → Hp → Prop, (∃ m, W 0 m σ H) ∧ ∀ i m σ H, W i m σ H →
      ((Itl K a).stop i H ∧ D.nx σ H) ∨ ((Itl K a).go i H ∧ ∃ N : St → Hp → Prop, (∀ σ' H', N σ' H' → ∃ m', m' < m ∧ W (i + 1) m' σ' H') ∧ ∀ x H', (Itl K a).yld i H x H' → g x σ H' fun σ2 H2 => tb { D with nx := N, ct := N, bk := D.nx } σ2 H2) := by
  refine ⟨fun i m σ H => m = xs.length - i ∧ i ≤ xs.length ∧ Pv i σ H, ⟨xs.length, by simp, Nat.zero_le _, h0⟩, ?_⟩
  rintro i m σ H ⟨rfl, hi, p⟩
  have q := hl i σ H hi p
  by_cases hlt : i < xs.length
  · refine .inr ⟨⟨xs, xs[i], q, by simp [hlt]⟩, Pv (i + 1), fun σ' H' p' => ⟨xs.length - (i + 1), by omega, rfl, hlt, p'⟩, fun x H' y => ?_⟩
    obtain ⟨e, y⟩ := y
    subst e
    exact hs i x σ _ (y xs q) p
  · have e : i = xs.length := by omega
    subst e
    exact .inl ⟨⟨xs, q, Nat.le_refl _⟩, hd σ H p⟩
theorem for_range {lo : Int} {n : Nat} {g : TG} {tb : TS} {D : Ends} {σ : St} {H : Hp} (Pv : Nat → St → Hp → Prop) (h0 : Pv 0 σ H)
    (hs : ∀ i σ H, i < n → Pv i σ H → g (.int (lo + i)) σ H fun σ2 H2 => tb { D with nx := Pv (i + 1), ct := Pv (i + 1), bk := D.nx } σ2 H2) (hd : ∀ σ H, Pv n σ H → D.nx σ H) :
    ∃ W : Nat → Nat → St → Hp → Prop, (∃ m, W 0 m σ H) ∧ ∀ i m σ H, W i m σ H →
      ((Itr lo n).stop i H ∧ D.nx σ H) ∨ ((Itr lo n).go i H ∧ ∃ N : St → Hp → Prop, (∀ σ' H', N σ' H' → ∃ m', m' < m ∧ W (i + 1) m' σ' H') ∧ ∀ x H', (Itr lo n).yld i H x H' → g x σ H' fun σ2 H2 => tb { D with nx := N, ct := N, bk := D.nx } σ2 H2) := by
  refine ⟨fun i m σ H => m = n - i ∧ i ≤ n ∧ Pv i σ H, ⟨n, by simp, Nat.zero_le _, h0⟩, ?_⟩
  rintro i m σ H ⟨rfl, hi, p⟩
  by_cases hlt : i < n
  · refine .inr ⟨hlt, Pv (i + 1), fun σ' H' p' => ⟨n - (i + 1), by omega, rfl, hlt, p'⟩, fun x H' y => ?_⟩
    obtain ⟨e, y⟩ := y
    subst e y
    exact hs i σ _ hlt p
  · have e : i = n := by omega
    subst e
    exact .inl ⟨Nat.le_refl _, hd σ H p⟩
end L2

namespace L2
open PySem PySem.Spec PyProof.Rows

abbrev R2 := V → V → Hp → VK → Prop
/-- a two-place operation on values: f is binaryOp op, inplaceOp op or compareOp op -/
def OpR (X : Cx) (f : Value → Value → Sem Value) (r : R2) : Prop :=
  ∀ (pins : List (Addr × Obj)) (s : Shared) (σ : St) (H : Hp) (x y : V) (v u : Value) (Q : VK), Inv X pins σ H s → RelV x v → RelV y u → r x y H Q →
    wpAny (model X.prog X.w) X.A (f v u) (EP X pins σ Q) X.xe s
/-- a call of a value that is known (a builtin, a type) with values -/
def CallR (X : Cx) (f : Value) (r : List V → Hp → VK → Prop) : Prop :=
  ∀ (pins : List (Addr × Obj)) (s : Shared) (σ : St) (H : Hp) (xs : List V) (us : List Value) (Q : VK), Inv X pins σ H s → Vals xs us → r xs H Q →
    wpAny (model X.prog X.w) X.A (call f us) (EP X pins σ Q) X.xe s
def tOp (r : R2) (ta tb : TE) : TE := fun σ H Q => ta σ H fun x H1 => tb σ H1 fun y H2 => r x y H2 Q
/-- ints in, under C, and a value out -/
def rI (C : Int → Int → Prop) (g : Int → Int → V) : R2 := fun x y H Q => ∃ i j, x = .int i ∧ y = .int j ∧ C i j ∧ Q (g i j) H
def rI0 (g : Int → Int → V) : R2 := fun x y H Q => ∃ i j, x = .int i ∧ y = .int j ∧ Q (g i j) H
section
variable {X : Cx} {a b c : Expr} {ta tb tc : TE} {pos : Pos}

theorem binT (ha : PE X a ta) (hb : PE X b tb) {pins : List (Addr × Obj)} {s : Shared} {σ : St} {H : Hp} {R : V → V → Hp → Prop} (I : Inv X pins σ H s)
    (h : ta σ H fun x H1 => tb σ H1 fun y H2 => R x y H2) {Q : Value → Shared → Prop} {f : Value → Value → Sem Value}
    (hf : ∀ v u s2 x y H2, Inv X pins σ H2 s2 → RelV x v → RelV y u → R x y H2 → wpAny (model X.prog X.w) X.A (f v u) Q X.xe s2) :
    wpAny (model X.prog X.w) X.A (eval a X.env) (fun v s₁ => wpAny (model X.prog X.w) X.A (eval b X.env) (fun u s₂ => wpAny (model X.prog X.w) X.A (f v u) Q X.xe s₂) X.xe s₁) X.xe s := by
  refine thn (ha pins s σ H _ I h) fun v s1 ⟨x, H1, I1, r1, q1⟩ => ?_
  refine thn (hb pins s1 σ H1 _ I1 q1) fun u s2 ⟨y, H2, I2, r2, q2⟩ => ?_
  exact hf v u s2 x y H2 I2 r1 r2 q2

theorem pe_op {op : Operator} {r : R2} (ho : OpR X (binaryOp op) r) (ha : PE X a ta) (hb : PE X b tb) : PE X (.BinOp a op b pos) (tOp r ta tb) := by
  intro pins s σ H Q I h
  exact wpAny_BinOp (binT ha hb I h fun v u s2 x y H2 I2 rx ry q => ho pins s2 σ H2 x y v u Q I2 rx ry q)
/-! ### ints -/
theorem opI {f : Value → Value → Sem Value} {C : Int → Int → Prop} {g : Int → Int → Int}
    (rule : ∀ (i j : Int) (t u : Tok) (s : Shared) (Q : Value → Shared → Prop) (E : Value → Shared → Prop), C i j → Q (.int (g i j) s.toks) { s with toks := s.toks + 1 } → wpAny (model X.prog X.w) X.A (f (.int i t) (.int j u)) Q E s) :
    OpR X f (rI C fun i j => .int (g i j)) := by
  intro pins s σ H x y v u Q I rx ry h
  obtain ⟨i, j, rfl, rfl, hc, q⟩ := h
  obtain ⟨t, rfl⟩ := rx
  obtain ⟨t', rfl⟩ := ry
  exact rule i j t t' s _ _ hc ⟨.int (g i j), H, I.tok _, ⟨_, rfl⟩, q⟩
theorem opI0 {f : Value → Value → Sem Value} {g : Int → Int → Int}
    (rule : ∀ (i j : Int) (t u : Tok) (s : Shared) (Q : Value → Shared → Prop) (E : Value → Shared → Prop), Q (.int (g i j) s.toks) { s with toks := s.toks + 1 } → wpAny (model X.prog X.w) X.A (f (.int i t) (.int j u)) Q E s) :
    OpR X f (rI0 fun i j => .int (g i j)) := by
  intro pins s σ H x y v u Q I rx ry h
  obtain ⟨i, j, rfl, rfl, q⟩ := h
  obtain ⟨t, rfl⟩ := rx
  obtain ⟨t', rfl⟩ := ry
  exact rule i j t t' s _ _ ⟨.int (g i j), H, I.tok _, ⟨_, rfl⟩, q⟩
theorem opB0 {f : Value → Value → Sem Value} {g : Int → Int → Bool}
    (rule : ∀ (i j : Int) (t u : Tok) (s : Shared) (Q : Value → Shared → Prop) (E : Value → Shared → Prop), Q (.bool (g i j)) s → wpAny (model X.prog X.w) X.A (f (.int i t) (.int j u)) Q E s) :
    OpR X f (rI0 fun i j => .bl (g i j)) := by
  intro pins s σ H x y v u Q I rx ry h
  obtain ⟨i, j, rfl, rfl, q⟩ := h
  obtain ⟨t, rfl⟩ := rx
  obtain ⟨t', rfl⟩ := ry
  exact rule i j t t' s _ _ ⟨.bl (g i j), H, I, rfl, q⟩

def CDiv (i j : Int) : Prop := 0 < j ∧ j < 1073741824
def CPow (i j : Int) : Prop := 0 ≤ j ∧ j ≤ 1000000 ∧ i.natAbs < 2 ^ 64
def CMul (i j : Int) : Prop := (-(2 ^ 64) < i ∧ i < 2 ^ 64) ∨ (-(2 ^ 64) < j ∧ j < 2 ^ 64)
theorem CMul.ok {i j : Int} (h : CMul i j) : IntMulOk i j := by
  rcases h with ⟨h1, h2⟩ | ⟨h1, h2⟩
  · exact .of_left (intBits_le_64 h1 h2)
  · exact .of_right (intBits_le_64 h1 h2)
theorem two_pow_nn (k : Nat) : (0 : Int) ≤ 2 ^ k := by
  rw [two_pow_cast]
  exact Int.natCast_nonneg _

theorem op_add : OpR X (binaryOp .Add) (rI0 fun i j => .int (i + j)) := opI0 fun _ _ _ _ _ _ _ q => add_int q
theorem op_sub : OpR X (binaryOp .Sub) (rI0 fun i j => .int (i - j)) := opI0 fun _ _ _ _ _ _ _ q => sub_int q
theorem op_mul : OpR X (binaryOp .Mult) (rI CMul fun i j => .int (i * j)) := opI fun _ _ _ _ _ _ _ hc q => mul_int q hc.ok
/-- // by a positive divisor -/
theorem op_fdiv : OpR X (binaryOp .FloorDiv) (rI CDiv fun i j => .int (i / j)) := opI fun i j _ _ _ _ _ hc q => by
  have h1 : (0 : Int) < j := hc.1
  have h2 : j < 1073741824 := hc.2
  exact floordiv_int (by omega) (by rw [Int.fdiv_eq_ediv_of_nonneg i (by omega)]; exact q) (.inl (PyProof.noPylong_small (by omega)))
/-- % by a positive divisor of any size -/
theorem op_mod : OpR X (binaryOp .Mod) (rI (fun _ j => 0 < j) fun i j => .int (i % j)) := opI fun i j _ _ _ _ _ hc q => by
  have h1 : (0 : Int) < j := hc
  exact mod_int' (by omega) (by rw [Int.fmod_eq_emod_of_nonneg i (by omega)]; exact q)
theorem op_shl : OpR X (binaryOp .LShift) (rI CPow fun i j => .int (i * 2 ^ j.toNat)) := opI fun _ _ _ _ _ _ _ hc q => lshift_int_small hc.1 hc.2.1 hc.2.2 q
theorem op_shr : OpR X (binaryOp .RShift) (rI (fun _ j => 0 ≤ j) fun i j => .int (i / 2 ^ j.toNat)) := opI fun i j _ _ _ _ _ hc q =>
  rshift_int hc (by rw [Int.fdiv_eq_ediv_of_nonneg i (two_pow_nn _)]; exact q)
theorem op_and : OpR X (binaryOp .BitAnd) (rI0 fun i j => .int (Builtin.bitAnd i j)) := opI0 fun _ _ _ _ _ _ _ q => and_int q
theorem op_or : OpR X (binaryOp .BitOr) (rI0 fun i j => .int (Builtin.bitOr i j)) := opI0 fun _ _ _ _ _ _ _ q => or_int q
theorem op_xor : OpR X (binaryOp .BitXor) (rI0 fun i j => .int (Builtin.bitXor i j)) := opI0 fun _ _ _ _ _ _ _ q => xor_int q

/-! ### bools among ints: n += (a < b) -/
end

/-! ### comparisons -/
/-- the scalars that == tells apart as data does -/
def scal : V → V → Bool
  | .non, .non => true | .non, .int _ => true | .int _, .non => true | .non, .bl _ => true | .bl _, .non => true | .non, .str _ => true | .str _, .non => true
  | .int _, .int _ => true | .bl _, .bl _ => true | .str _, .str _ => true | .byt _, .byt _ => true
  | .int _, .str _ => true | .str _, .int _ => true | .bl _, .str _ => true | .str _, .bl _ => true
  | _, _ => false
def rEq : R2 := fun x y H Q => scal x y = true ∧ Q (.bl (decide (x = y))) H
def rNe : R2 := fun x y H Q => scal x y = true ∧ Q (.bl (!decide (x = y))) H

theorem dec_int {i j : Int} : decide (V.int i = V.int j) = (i == j) := by
  rw [Bool.eq_iff_iff]
  simp
theorem dec_bl {i j : Bool} : decide (V.bl i = V.bl j) = (i == j) := by
  rw [Bool.eq_iff_iff]
  simp
theorem dec_str {i j : Str} : decide (V.str i = V.str j) = (i == j) := by
  rw [Bool.eq_iff_iff]
  simp
theorem dec_byt {i j : Array UInt8} : decide (V.byt i = V.byt j) = (i.toList == j.toList) := by
  rw [Bool.eq_iff_iff]
  cases i
  cases j
  simp

section
variable {X : Cx} {a b c : Expr} {ta tb tc : TE} {pos : Pos}
theorem fin_bl {pins : List (Addr × Obj)} {σ : St} {H : Hp} {s : Shared} {Q : VK} {k k' : Bool} (I : Inv X pins σ H s) (q : Q (.bl k) H) (e : k = k') : EP X pins σ Q (.bool k') s := by
  subst e
  exact ⟨.bl k, H, I, rfl, q⟩
theorem op_eq : OpR X (compareOp .Eq) rEq := by
  intro pins s σ H x y v u Q I rx ry h
  obtain ⟨hs, q⟩ := h
  cases x with
  | non =>
    cases rx
    cases y with
    | non => cases ry; exact PySem.EqNone.eq_none_none (fin_bl I q (by simp))
    | bl j => cases ry; exact PySem.EqNone.eq_none_bool (fin_bl I q (by simp))
    | int j => obtain ⟨t', rfl⟩ := ry; exact PySem.EqNone.eq_none_int (fin_bl I q (by simp))
    | str j => obtain ⟨t', rfl⟩ := ry; exact PySem.EqNone.eq_none_str (fin_bl I q (by simp))
    | _ => exact absurd (show false = true from hs) Bool.false_ne_true
  | bl i =>
    cases rx
    cases y with
    | non => cases ry; exact PySem.EqNone.eq_bool_none (fin_bl I q (by simp))
    | bl j => cases ry; exact eq_bool (fin_bl I q dec_bl)
    | str j => obtain ⟨t', rfl⟩ := ry; exact PySem.EqMixed.eq_bool_str (fin_bl I q (by simp))
    | _ => exact absurd (show false = true from hs) Bool.false_ne_true
  | int i =>
    obtain ⟨t, rfl⟩ := rx
    cases y with
    | non => cases ry; exact PySem.EqNone.eq_int_none (fin_bl I q (by simp))
    | int j => obtain ⟨t', rfl⟩ := ry; exact eq_int (fin_bl I q dec_int)
    | str j => obtain ⟨t', rfl⟩ := ry; exact PySem.EqMixed.eq_int_str (fin_bl I q (by simp))
    | _ => exact absurd (show false = true from hs) Bool.false_ne_true
  | str i =>
    obtain ⟨t, rfl⟩ := rx
    cases y with
    | non => cases ry; exact PySem.EqNone.eq_str_none (fin_bl I q (by simp))
    | bl j => cases ry; exact PySem.EqMixed.eq_str_bool (fin_bl I q (by simp))
    | int j => obtain ⟨t', rfl⟩ := ry; exact PySem.EqMixed.eq_str_int (fin_bl I q (by simp))
    | str j => obtain ⟨t', rfl⟩ := ry; exact eq_str (fin_bl I q dec_str)
    | _ => exact absurd (show false = true from hs) Bool.false_ne_true
  | byt i =>
    obtain ⟨t, rfl⟩ := rx
    cases y with
    | byt j => obtain ⟨t', rfl⟩ := ry; exact PySem.W.eq_bytes (fin_bl I q dec_byt)
    | _ => exact absurd (show false = true from hs) Bool.false_ne_true
  | _ => cases y <;> exact absurd (show false = true from hs) Bool.false_ne_true
theorem op_ne : OpR X (compareOp .NotEq) rNe := by
  intro pins s σ H x y v u Q I rx ry h
  obtain ⟨hs, q⟩ := h
  cases x with
  | non =>
    cases rx
    cases y with
    | non => cases ry; exact PySem.EqNone.ne_none_none (fin_bl I q (by simp))
    | bl j => cases ry; exact PySem.EqNone.ne_none_bool (fin_bl I q (by simp))
    | int j => obtain ⟨t', rfl⟩ := ry; exact PySem.EqNone.ne_none_int (fin_bl I q (by simp))
    | str j => obtain ⟨t', rfl⟩ := ry; exact PySem.EqNone.ne_none_str (fin_bl I q (by simp))
    | _ => exact absurd (show false = true from hs) Bool.false_ne_true
  | bl i =>
    cases rx
    cases y with
    | non => cases ry; exact PySem.EqNone.ne_bool_none (fin_bl I q (by simp))
    | bl j => cases ry; exact ne_bool (fin_bl I q (congrArg not dec_bl))
    | str j => obtain ⟨t', rfl⟩ := ry; exact PySem.EqMixed.ne_bool_str (fin_bl I q (by simp))
    | _ => exact absurd (show false = true from hs) Bool.false_ne_true
  | int i =>
    obtain ⟨t, rfl⟩ := rx
    cases y with
    | non => cases ry; exact PySem.EqNone.ne_int_none (fin_bl I q (by simp))
    | int j => obtain ⟨t', rfl⟩ := ry; exact ne_int (fin_bl I q (congrArg not dec_int))
    | str j => obtain ⟨t', rfl⟩ := ry; exact PySem.EqMixed.ne_int_str (fin_bl I q (by simp))
    | _ => exact absurd (show false = true from hs) Bool.false_ne_true
  | str i =>
    obtain ⟨t, rfl⟩ := rx
    cases y with
    | non => cases ry; exact PySem.EqNone.ne_str_none (fin_bl I q (by simp))
    | bl j => cases ry; exact PySem.EqMixed.ne_str_bool (fin_bl I q (by simp))
    | int j => obtain ⟨t', rfl⟩ := ry; exact PySem.EqMixed.ne_str_int (fin_bl I q (by simp))
    | str j => obtain ⟨t', rfl⟩ := ry; exact ne_str (fin_bl I q (congrArg not dec_str))
    | _ => exact absurd (show false = true from hs) Bool.false_ne_true
  | byt i =>
    obtain ⟨t, rfl⟩ := rx
    cases y with
    | byt j => obtain ⟨t', rfl⟩ := ry; exact PySem.W.ne_bytes (fin_bl I q (congrArg not dec_byt))
    | _ => exact absurd (show false = true from hs) Bool.false_ne_true
  | _ => cases y <;> exact absurd (show false = true from hs) Bool.false_ne_true

theorem op_lt : OpR X (compareOp .Lt) (rI0 fun i j => .bl (decide (i < j))) := opB0 fun _ _ _ _ _ _ _ q => lt_int q
theorem op_le : OpR X (compareOp .LtE) (rI0 fun i j => .bl (decide (i ≤ j))) := opB0 fun _ _ _ _ _ _ _ q => le_int q
theorem op_gt : OpR X (compareOp .Gt) (rI0 fun i j => .bl (decide (j < i))) := opB0 fun _ _ _ _ _ _ _ q => gt_int q
theorem op_ge : OpR X (compareOp .GtE) (rI0 fun i j => .bl (decide (j ≤ i))) := opB0 fun _ _ _ _ _ _ _ q => ge_int q
/-- is None, is not None: the right side a value none -/
theorem op_isN : OpR X (compareOp .Is) (fun x y H Q => y = .non ∧ Q (.bl (decide (x = .non))) H) := by
  intro pins s σ H x y v u Q I rx ry h
  obtain ⟨rfl, q⟩ := h
  cases ry
  refine is_none_gen (fin_bl I q ?_)
  cases x <;> first
    | (cases rx; rfl)
    | (obtain ⟨t, rfl⟩ := rx; rfl)
theorem op_notN : OpR X (compareOp .IsNot) (fun x y H Q => y = .non ∧ Q (.bl (!decide (x = .non))) H) := by
  intro pins s σ H x y v u Q I rx ry h
  obtain ⟨rfl, q⟩ := h
  cases ry
  refine isnot_none_gen (fin_bl I q ?_)
  cases x <;> first
    | (cases rx; rfl)
    | (obtain ⟨t, rfl⟩ := rx; rfl)

/-- two rules for one operation: by cases -/
theorem OpR.or {f : Value → Value → Sem Value} {r r' : R2} (h : OpR X f r) (h' : OpR X f r') : OpR X f (fun x y H Q => r x y H Q ∨ r' x y H Q) := by
  intro pins s σ H x y v u Q I rx ry q
  rcases q with q | q
  · exact h pins s σ H x y v u Q I rx ry q
  · exact h' pins s σ H x y v u Q I rx ry q

theorem nomark (b : Expr) {op : CmpOp} (h : op ≠ .In := by decide) (h2 : op ≠ .NotIn := by decide) : behindInMarks op b = false := by
  have e1 : (op == CmpOp.In) = false := by cases op <;> first | rfl | exact absurd rfl h
  have e2 : (op == CmpOp.NotIn) = false := by cases op <;> first | rfl | exact absurd rfl h2
  cases b <;> simp [behindInMarks, e1, e2]
/-- a comparison as a value; hm: nomark b, or (for in, not in) by with_unfolding_all rfl -/
theorem pe_cmpR {op : CmpOp} {r : R2} (ho : OpR X (compareOp op) r) (ha : PE X a ta) (hb : PE X b tb) (hm : behindInMarks op b = false) : PE X (.Compare a [op] [b] pos) (tOp r ta tb) := by
  intro pins s σ H Q I h
  exact wpAny_Compare1 (binT ha hb I h fun v u s2 x y H2 I2 rx ry q => ho pins s2 σ H2 x y v u Q I2 rx ry q) hm
/-- a reading of a value as a test -/
def tTest (t : TE) : TT := fun σ H Q => t σ H fun x H' => ∃ k, x = .bl k ∧ Q k H'
theorem pt_cmpR {op : CmpOp} {r : R2} (ho : OpR X (compareOp op) r) (ha : PE X a ta) (hb : PE X b tb) (hm : behindInMarks op b = false) : PT X (.Compare a [op] [b] pos) (tTest (tOp r ta tb)) := by
  intro pins s σ H Q I h
  refine wpAny_isTrue_Compare1 (thn (ha pins s σ H _ I h) fun v s1 ⟨x, H1, I1, r1, q1⟩ => thn (hb pins s1 σ H1 _ I1 q1) fun u s2 ⟨y, H2, I2, r2, q2⟩ =>
    thn (ho pins s2 σ H2 x y v u _ I2 r1 r2 q2) fun c s3 ⟨z, H3, I3, r3, k, e, q3⟩ => ?_) hm
  subst e
  cases r3
  exact wpAny_truthy_bool ⟨H3, I3, q3⟩
/-- a op1 b op2 c -/
def tChain (r r' : R2) (ta tb tc : TE) : TE := fun σ H Q => ta σ H fun x H1 => tb σ H1 fun y H2 => r x y H2 fun z H3 => ∃ k, z = .bl k ∧
  (if k = true then tc σ H3 fun w' H4 => r' y w' H4 Q else Q (.bl false) H3)
theorem pe_chain {op op' : CmpOp} {r r' : R2} (ho : OpR X (compareOp op) r) (ho' : OpR X (compareOp op') r') (ha : PE X a ta) (hb : PE X b tb) (hc : PE X c tc)
    (hm : lastMarks [op, op'] [b, c] = false := by with_unfolding_all rfl) : PE X (.Compare a [op, op'] [b, c] pos) (tChain r r' ta tb tc) := by
  intro pins s σ H Q I h
  refine Compare_chain (thn (ha pins s σ H _ I h) fun v s1 ⟨x, H1, I1, r1, q1⟩ => chain_link (thn (hb pins s1 σ H1 _ I1 q1) fun u s2 ⟨y, H2, I2, r2, q2⟩ =>
    thn (ho pins s2 σ H2 x y v u _ I2 r1 r2 q2) fun d s3 ⟨z, H3, I3, r3, k, e, q3⟩ => ?_)) hm
  subst e
  cases r3
  refine wpAny_truthy_bool ?_
  cases k with
  | false => exact ite_ff ⟨.bl false, H3, I3, rfl, q3⟩
  | true => exact ite_tt (chain_last (thn (hc pins s3 σ H3 _ I3 q3) fun w' s4 ⟨z', H4, I4, r4, q4⟩ => ho' pins s4 σ H4 y z' u w' Q I4 r2 r4 q4))
/-! ### truth -/
theorem line63 : (sizeLine : Nat) < 2 ^ 63 := by rw [sizeLine_eq]; decide
/-! ### strs and bytes -/
/-! ### scalar builtins, by CallR -/
theorem vals1 {x : V} {us : List Value} (r : Vals [x] us) : ∃ u, us = [u] ∧ RelV x u := by
  cases r with
  | cons r1 r2 => cases r2; exact ⟨_, rfl, r1⟩
theorem vals2 {x y : V} {us : List Value} (r : Vals [x, y] us) : ∃ u w', us = [u, w'] ∧ RelV x u ∧ RelV y w' := by
  cases r with
  | cons r1 r2 =>
    cases r2 with
    | cons r3 r4 => cases r4; exact ⟨_, _, rfl, r1, r3⟩
theorem call_max2 (hc : X.calm = true) : CallR X (.builtin "max") (fun xs H Q => ∃ i j, xs = [.int i, .int j] ∧ Q (.int (if j > i then j else i)) H) := by
  intro pins s σ H xs us Q I r h
  obtain ⟨i, j, rfl, q⟩ := h
  obtain ⟨u, w', rfl, ⟨t, rfl⟩, ⟨t', rfl⟩⟩ := vals2 r
  refine max_two_ints (I.ok.hd hc) fun h' tk k => ⟨_, H, I.kept k, ?_, q⟩
  by_cases hj : j > i
  · rw [if_pos hj, if_pos hj]; exact ⟨_, rfl⟩
  · rw [if_neg hj, if_neg hj]; exact ⟨_, rfl⟩
end
end L2

namespace L2
open PySem PySem.Spec PyProof.Rows

/-! ### an instance, its attributes a map -/
structure ObjM (h : Heap) (x dx C : Addr) (mA : Str → Option Value) : Prop where
  obj : h.get? x = some (PySem.W.instObj C dx)
  ns : h.Ns1 dx mA
  ne : dx ≠ x

theorem lookIn_ns {h : Heap} {dx : Addr} {mA : Str → Option Value} (n : h.Ns1 dx mA) : ∃ od, h.get? dx = some od ∧ ∀ name, PySem.W.lookIn name od = some (mA name) := by
  obtain ⟨o, es, ep, ho, hd, hk, _, hm⟩ := n
  refine ⟨o, ho, fun name => ?_⟩
  have e := hm name
  unfold nsFind findBy at e
  rw [← Array.find?_toList] at e
  unfold PySem.W.lookIn
  rw [hd]
  dsimp only
  split
  · rename_i y q
    rw [q] at e
    exact congrArg some e
  · rename_i q
    rw [q] at e
    have a : es.toList.any (·.refKey) = false := by
      rw [List.any_eq_false]
      intro y hy
      obtain ⟨z, t, hkey⟩ := hk y (Array.mem_toList_iff.mp hy)
      simp [DictEntry.refKey, hkey]
    have a' : ¬ es.toList.any (·.refKey) = true := by rw [a]; exact Bool.false_ne_true
    rw [if_neg a']
    exact congrArg some e

theorem ObjM.look {h : Heap} {x dx C : Addr} {mA : Str → Option Value} (I : ObjM h x dx C mA) : ∃ od, PySem.W.InstAt h x (PySem.W.instObj C dx) C (some od) ∧ ∀ name, PySem.W.lookIn name od = some (mA name) :=
  let ⟨od, ho, hl⟩ := lookIn_ns I.ns
  ⟨od, ⟨I.obj, rfl, rfl, ho⟩, hl⟩

section
variable {prog : Program} {w : World} {A : Around} {E : Value → Shared → Prop} {s : Shared} {K : PySem.W.Frag} {x dx C f : Addr} {mA : Str → Option Value} {name : Str} {v : Value}

theorem get_map {expr : Bool} {Q : Value → Shared → Prop} (X : K.In s.heap) (I : ObjM s.heap x dx C mA) (hg : PySem.W.plainGet K C name = true) (hh : PySem.W.hasDictIn K C = true)
    (ha : PySem.W.findIn K (.ref C) name = some none) (hv : mA name = some v) (hv' : PySem.W.handedIn v = true) (h : Q v { s with toks := s.toks + 1 }) :
    wpAny (model prog w) A (getAttr (.ref x) name expr) Q E s := by
  obtain ⟨od, J, hl⟩ := I.look
  exact PySem.W.get_value X J (PySem.W.plainGet_of hg).1 (PySem.W.findObj_own hh ha rfl (by rw [hl, hv])) hv' h

theorem get_meth {pl : Sem Bool} {Q : Value × List Value → Shared → Prop} (X : K.In s.heap) (I : ObjM s.heap x dx C mA) (hg : PySem.W.plainGet K C name = true)
    (hf : PySem.W.findIn K (.ref C) name = some (some (.ref f))) (ht : PySem.W.isFn K (.ref f) = true) (hv : mA name = none) (h : Q (.ref f, [.ref x]) s) :
    wpAny (model prog w) A (getMethod (.ref x) name pl) Q E s := by
  obtain ⟨od, J, hl⟩ := I.look
  exact PySem.W.method_fn X J (PySem.W.plainGet_of hg).1 (PySem.W.plainGet_of hg).2 hf (beq_iff_eq.mp ht) (by show (PySem.W.lookIn name od).map (·.isSome) = some false; rw [hl, hv]; rfl) h

theorem set_map {ns : List Str} {Q : Unit → Shared → Prop} (X : K.In s.heap) (I : ObjM s.heap x dx C mA)
    (hs : PySem.W.findIn K (.ref C) "__setattr__" = some (some (.builtin "object.__setattr__"))) (hp : PySem.W.plainOver K C = true) (ht : PySem.W.takerIn K C name = some none) (hh : PySem.W.hasDictIn K C = true)
    (hw : PySem.Within mA ns) (hsz : ns.length ≤ sizeLine)
    (h : ∀ h', ObjM h' x dx C (fun y => if y = name then some v else mA y) → Heap.SameBut dx s.heap h' → Q () { s with heap := h', toks := s.toks + 2 }) :
    wpAny (model prog w) A (setAttr (.ref x) name v) Q E s := by
  obtain ⟨od, J, hl⟩ := I.look
  refine PySem.W.set_plain X J hs (PySem.W.osa_open (s := { s with toks := s.toks + 1 }) (r := none) X J hp ht fun b => ?_)
  obtain ⟨cd, hc, hd'⟩ := PySem.W.any_some hh
  have hx : s.heap.get? x = some ⟨.ref C, some dx, .plain, #[]⟩ := I.obj
  refine wpAny_bind (wpAny_pure (wpAny_bind (wpAny_bind (wpAny_loadPart hx (wpAny_bind (PySem.W.Looks.here (s := { s with toks := s.toks + 1 }) (PySem.W.looks_clsIn X hc) ?_))))))
  rw [hd']
  refine wpAny_pure (a := some dx) (wpAny_bind (wpAny_pure (wpAny_bind ?_)))
  refine wpAny_nsSet1 (s := { s with toks := s.toks + 1 }) I.ns fun h' hn2 hs2 => ?_
  obtain ⟨oD, esD, epD, hoD, hdD, hcD⟩ := hn2.count (PySem.Within.cons name v hw)
  refine wpAny_bind (wpAny_lookBehind hoD (by rw [hdD]; exact pastItsLine_dict (Nat.le_trans hcD (by rw [List.length_cons]; omega))) ?_)
  exact wpAny_pure (h _ ⟨(hs2.2 _ (Ne.symm I.ne)).trans I.obj, hn2, I.ne⟩ hs2)

/-- C(..): the dict at the heap's end, the instance behind it; then its __init__ -/
theorem make_map {R : Result → Shared → Prop} {vs : List Value} {kw : List (Str × Value)} (X : K.In s.heap) (hm : PySem.W.makesIn K C = true)
    (hi : PySem.W.findIn K (.ref C) "__init__" = some (some (.ref f))) (hf : PySem.W.typeIn K (.ref f) = some (.type "function"))
    (h : codeAny (model prog w) (A.under (.builtin "type.__call__" ⟨.ref C :: vs, kw⟩)) (.call (.ref f) ⟨.ref (s.heap.objs.size + 1) :: vs, kw⟩) (PySem.W.InitBack (s.heap.objs.size + 1) R)
      { s with heap := (s.heap.push PySem.W.emptyDict).push (PySem.W.instObj C s.heap.objs.size) }) :
    codeAny (model prog w) A (.call (.ref C) ⟨vs, kw⟩) R s := by
  obtain ⟨hh, g, d, t, os⟩ := s
  exact PySem.W.make_core (PySem.W.makes_of X hm) (PySem.W.looks_findIn X hi) (fun self => PySem.W.bind_fn X self hf) (.inl rfl) h
end

/-! ### the attributes as a list of pairs -/
def putF (f : Str) (v : V) : List (Str × V) → List (Str × V)
  | [] => [(f, v)]
  | (g, x) :: r => if g = f then (g, v) :: r else (g, x) :: putF f v r
theorem lookup_putF (f g : Str) (v : V) : ∀ fs : List (Str × V), (putF f v fs).lookup g = if g = f then some v else fs.lookup g
  | [] => by
    show List.lookup g [(f, v)] = _
    by_cases h : g = f
    · have hb : (g == f) = true := beq_iff_eq.mpr h
      simp only [List.lookup, hb, if_pos h]
    · have hb : (g == f) = false := beq_eq_false_iff_ne.mpr h
      simp only [List.lookup, hb, if_neg h]
  | (k, x) :: r => by
    have ih := lookup_putF f g v r
    rw [show putF f v ((k, x) :: r) = (if k = f then (k, v) :: r else (k, x) :: putF f v r) from rfl]
    by_cases hk : k = f
    · rw [if_pos hk]
      by_cases h : g = k
      · have hb : (g == k) = true := beq_iff_eq.mpr h
        simp only [List.lookup, hb, if_pos (h.trans hk)]
      · have hb : (g == k) = false := beq_eq_false_iff_ne.mpr h
        simp only [List.lookup, hb, if_neg (fun e : g = f => h (e.trans hk.symm))]
    · rw [if_neg hk]
      by_cases h : g = k
      · have hb : (g == k) = true := beq_iff_eq.mpr h
        simp only [List.lookup, hb, if_neg (fun e : g = f => hk (h.symm.trans e))]
      · have hb : (g == k) = false := beq_eq_false_iff_ne.mpr h
        simp only [List.lookup, hb]
        exact ih
theorem keys_putF (f : Str) (v : V) : ∀ fs : List (Str × V), f ∈ (putF f v fs).map (·.1) ∧ ∀ g, g ∈ fs.map (·.1) → g ∈ (putF f v fs).map (·.1)
  | [] => ⟨by simp [putF], fun g h => by simp at h⟩
  | (k, x) :: r => by
    obtain ⟨i1, i2⟩ := keys_putF f v r
    rw [show putF f v ((k, x) :: r) = (if k = f then (k, v) :: r else (k, x) :: putF f v r) from rfl]
    by_cases hk : k = f
    · rw [if_pos hk]
      subst hk
      exact ⟨by simp, fun g h => by simpa using h⟩
    · rw [if_neg hk]
      refine ⟨?_, fun g h => ?_⟩
      · rw [List.map_cons]
        exact List.mem_cons_of_mem _ i1
      · rw [List.map_cons] at h ⊢
        rcases List.mem_cons.mp h with e | e
        · exact List.mem_cons.mpr (.inl e)
        · exact List.mem_cons_of_mem _ (i2 g e)
theorem length_putF (f : Str) (v : V) : ∀ fs : List (Str × V), (putF f v fs).length ≤ fs.length + 1
  | [] => by simp [putF]
  | (k, x) :: r => by
    have ih := length_putF f v r
    rw [show putF f v ((k, x) :: r) = (if k = f then (k, v) :: r else (k, x) :: putF f v r) from rfl]
    by_cases hk : k = f
    · rw [if_pos hk, List.length_cons, List.length_cons]; omega
    · rw [if_neg hk, List.length_cons, List.length_cons]; omega

theorem RelO.some_of {v : V} {o : Option Value} (r : RelO (some v) o) : ∃ u, o = some u ∧ RelV v u := by
  cases o with
  | none => exact (show False from r).elim
  | some u => exact ⟨u, rfl, r⟩
theorem RelO.none_of {o : Option Value} (r : RelO none o) : o = none := by
  cases o with
  | none => rfl
  | some u => exact (show False from r).elim
theorem handed_of {v : V} {u : Value} (r : RelV v u) : PySem.W.handedIn u = true := by
  cases v with
  | non => cases (show u = Value.none from r); rfl
  | bl b => cases (show u = Value.bool b from r); rfl
  | int i => obtain ⟨t, e⟩ := (show ∃ t, u = Value.int i t from r); cases e; rfl
  | str x => obtain ⟨t, e⟩ := (show ∃ t, u = Value.str x t from r); cases e; rfl
  | byt b => obtain ⟨t, e⟩ := (show ∃ t, u = Value.bytes b t from r); cases e; rfl
  | flt b => obtain ⟨t, e⟩ := (show ∃ t, u = Value.float b t from r); cases e; rfl
  | ref a => cases (show u = Value.ref a from r); rfl
  | ty n => cases (show u = Value.type n from r); rfl

section
variable {P : Program} {w : World} {H H' : Hp} {h h' : Heap} {a C dx : Addr} {fs fs' : List (Str × V)}
theorem ins_get (hok : HOk P w H h) (e : H a = some (.ins C dx fs)) : ∃ mA, ObjM h a dx C mA ∧ (∀ f, RelO (fs.lookup f) (mA f)) ∧ PySem.Within mA (fs.map (·.1)) ∧ fs.length ≤ 1000 ∧ H dx = some (.own a) := by
  obtain ⟨d, z, ne, ob, mA, n, r, q⟩ := (show ObjOk P w H h a (.ins C dx fs) from hok a _ e)
  exact ⟨mA, ⟨ob, n, ne⟩, r, q, z, d⟩
end

/-! ### what of the text a class must have -/
structure Cls (K : PySem.W.Frag) (C : Addr) : Prop where
  pg : PySem.W.plainGet K C Str.empty = true
  hd : PySem.W.hasDictIn K C = true
  po : PySem.W.plainOver K C = true
  sa : PySem.W.findIn K (.ref C) "__setattr__" = some (some (.builtin "object.__setattr__"))
theorem Cls.get {K : PySem.W.Frag} {C : Addr} (c : Cls K C) (f : Str) : PySem.W.plainGet K C f = true := c.pg
/-- no class of it has the name -/
def NoAttr (K : PySem.W.Frag) (C : Addr) (f : Str) : Prop := PySem.W.findIn K (.ref C) f = some none
theorem NoAttr.taker {K : PySem.W.Frag} {C : Addr} {f : Str} (n : NoAttr K C f) : PySem.W.takerIn K C f = some none := by
  unfold PySem.W.takerIn
  rw [show PySem.W.findIn K (.ref C) f = some none from n]
  rfl
/-- a constant of the class -/
structure Con (K : PySem.W.Frag) (C : Addr) (f : Str) (v : V) (u : Value) : Prop where
  at_ : PySem.W.findIn K (.ref C) f = some (some u)
  rel : RelV v u
  get : PySem.W.specialIn K u "__get__" = some none
  cp : PySem.W.copiedNames.contains f = false
/-- a method: a plain def of the class or of one above it -/
structure Meth (K : PySem.W.Frag) (C : Addr) (m : Str) (f : Addr) : Prop where
  at_ : PySem.W.findIn K (.ref C) m = some (some (.ref f))
  fn : PySem.W.isFn K (.ref f) = true
  kp : PySem.W.keepIn K (.ref f) = true

section
variable {X : Cx} {pins : List (Addr × Obj)} {σ : St} {H : Hp} {s : Shared} {a C dx : Addr} {fs : List (Str × V)} {f : Str} {v : V} {A : Around} {E : Value → Shared → Prop}

theorem getattr_ok {b : Bool} {Q : Value → Shared → Prop} (I : Inv X pins σ H s) (e : H a = some (.ins C dx fs)) (c : Cls X.K C) (n : NoAttr X.K C f) (l : fs.lookup f = some v)
    (h : ∀ u s', Inv X pins σ H s' → RelV v u → Q u s') : wpAny (model X.prog X.w) A (getAttr (.ref a) f b) Q E s := by
  obtain ⟨mA, O, r, _, _, _⟩ := ins_get I.hok e
  obtain ⟨u, hu, ru⟩ := RelO.some_of (v := v) (o := mA f) (by rw [← l]; exact r f)
  exact get_map I.kIn O (c.get f) c.hd n hu (handed_of ru) (h u _ (I.tok _) ru)

theorem getmeth_ok {m : Str} {g : Addr} {pl : Sem Bool} {Q : Value × List Value → Shared → Prop} (I : Inv X pins σ H s) (e : H a = some (.ins C dx fs)) (c : Cls X.K C) (k : Meth X.K C m g) (l : fs.lookup m = none)
    (h : Q (.ref g, [.ref a]) s) : wpAny (model X.prog X.w) A (getMethod (.ref a) m pl) Q E s := by
  obtain ⟨mA, O, r, _, _, _⟩ := ins_get I.hok e
  have hn : mA m = none := RelO.none_of (by rw [← l]; exact r m)
  exact get_meth I.kIn O (c.get m) k.at_ k.fn hn h

theorem setattr_ok {y : V} {u : Value} {Q : Unit → Shared → Prop} (I : Inv X pins σ H s) (e : H a = some (.ins C dx fs)) (c : Cls X.K C) (n : NoAttr X.K C f) (hl : fs.length < 1000) (ry : RelV y u)
    (h : ∀ s', Inv X pins σ (upd H a (.ins C dx (putF f y fs))) s' → Q () s') : wpAny (model X.prog X.w) A (setAttr (.ref a) f u) Q E s := by
  obtain ⟨mA, O, r, wi, _, ho⟩ := ins_get I.hok e
  have hz : (fs.map (·.1)).length ≤ sizeLine := by rw [List.length_map, sizeLine_eq]; omega
  refine set_map I.kIn O c.sa c.po n.taker c.hd wi hz fun h' O' sb => h _ ?_
  have hd : ∃ o, h'.get? dx = some o := let ⟨o, _, _, e', _⟩ := O'.ns; ⟨o, e'⟩
  refine I.write (x := a) (e := dx) (by rw [e]; exact True.intro) (.inr ho) (fun b q hb z => (sb.2 b hb).trans z) hd ?_
  refine ⟨by rw [upd_ne O.ne]; exact ho, ?_, O.ne, O'.obj, _, O'.ns, fun g => ?_, fun g hg => ?_⟩
  · have := length_putF f y fs; omega
  · show RelO ((putF f y fs).lookup g) (if g = f then some u else mA g)
    rw [lookup_putF]
    by_cases q : g = f
    · rw [if_pos q, if_pos q]; exact ry
    · rw [if_neg q, if_neg q]; exact r g
  · by_cases q : g = f
    · rw [q]; exact (keys_putF f y fs).1
    · refine (keys_putF f y fs).2 g (wi g fun z => hg ?_)
      show (if g = f then some u else mA g) = none
      rw [if_neg q]; exact z

/-- a new instance, tracked, without attributes -/
theorem Inv.made (I : Inv X pins σ H s) : Inv X pins σ (upd (upd H s.heap.objs.size (.own (s.heap.objs.size + 1))) (s.heap.objs.size + 1) (.ins C s.heap.objs.size []))
    { s with heap := (s.heap.push PySem.W.emptyDict).push (PySem.W.instObj C s.heap.objs.size) } := by
  have e1 : (s.heap.push PySem.W.emptyDict).get? s.heap.objs.size = some PySem.W.emptyDict := Heap.get?_push_size s.heap rfl
  have e2 : ((s.heap.push PySem.W.emptyDict).push (PySem.W.instObj C s.heap.objs.size)).get? (s.heap.objs.size + 1) = some (PySem.W.instObj C s.heap.objs.size) := by
    have := Heap.get?_push_size (s.heap.push PySem.W.emptyDict) (o := PySem.W.instObj C s.heap.objs.size) rfl
    rwa [Heap.size_push] at this
  have e3 : (s.heap.push PySem.W.emptyDict).Ns s.heap.objs.size (fun _ => none) := ⟨PySem.W.emptyDict, #[], _, e1, rfl, (fun e he => absurd he (by simp)), fun _ => rfl⟩
  have I1 := I.laid (a := s.heap.objs.size) (o := .own (s.heap.objs.size + 1)) (h' := s.heap.push PySem.W.emptyDict) (t' := s.toks) (fun b u q => Heap.get?_push_of_some _ q) (Nat.le_refl _) ⟨_, e1⟩
  refine I1.laid (a := s.heap.objs.size + 1) (o := .ins C s.heap.objs.size []) (t' := s.toks) (fun b u q => Heap.get?_push_of_some _ q) (Nat.le_of_eq (Heap.size_push _ _)) ?_
  have ne : s.heap.objs.size ≠ s.heap.objs.size + 1 := Nat.ne_of_lt (Nat.lt_succ_self _)
  refine ⟨by rw [upd_ne ne, upd_same], Nat.zero_le _, ne, e2, fun _ => none, (Heap.Ns1.of_empty e3).at fun o q => Heap.get?_push_of_some _ q, fun _ => True.intro, fun y hy => absurd rfl hy⟩

/-- e.f where nothing but the object is asked: through attributeBase (super) and the last hold -/
theorem attr_of {prog : Program} {w : World} {env : Env} {e : Expr} {f : Str} {pos : Pos} {s : Shared} {Q : Value → Shared → Prop} (hb : attributeBase e f env (eval e env) = eval e env)
    (h : wpAny (model prog w) A (eval e env) (fun o s₁ => wpAny (model prog w) A (getAttr o f true) Q E s₁) E s) : wpAny (model prog w) A (eval (.Attribute e f pos) env) Q E s :=
  Attribute_any_ h (by rw [arm_eval_Attribute, hb])
end

/-! ### readings and rules -/
/-- e.f, an attribute of the instance -/
def tFld (K : PySem.W.Frag) (ta : TE) (f : Str) : TE := fun σ H Q => ta σ H fun x H1 => ∃ a C dx fs v, x = .ref a ∧ H1 a = some (.ins C dx fs) ∧ Cls K C ∧ NoAttr K C f ∧ fs.lookup f = some v ∧ Q v H1
/-- e.f = value -/
def sFld (K : PySem.W.Frag) (ta tv : TE) (f : Str) : TS := fun D σ H => tv σ H fun y H1 => ta σ H1 fun x H2 => ∃ a C dx fs, x = .ref a ∧ H2 a = some (.ins C dx fs) ∧ Cls K C ∧ NoAttr K C f ∧ fs.length < 1000 ∧
  D.nx σ (upd H2 a (.ins C dx (putF f y fs)))
section
variable {X : Cx} {o e value : Expr} {f : Str} {pos pos' tpos : Pos} {ta tv : TE}
theorem pe_fld (he : PE X e ta) (hb : attributeBase e f X.env (eval e X.env) = eval e X.env) : PE X (.Attribute e f pos) (tFld X.K ta f) := by
  intro pins s σ H Q I h
  refine attr_of hb (thn (he pins s σ H _ I h) fun u s1 ⟨x, H1, I1, rx, a, C, dx, fs, v, ex, ea, c, n, l, q⟩ => ?_)
  subst ex
  obtain rfl : u = Value.ref a := rx
  exact getattr_ok I1 ea c n l fun u' s2 I2 ru => ⟨v, H1, I2, ru, q⟩
theorem ps_fld (ha : PE X o ta) (hv : PE X value tv) (hs : swapsWith value (some (.Attribute o f pos')) pos.line X.env = pure false) : PS X (.Assign [.Attribute o f pos'] value pos) (sFld X.K ta tv f) := by
  intro pins s σ H D I h
  refine plainObj_wpAny_Assign_Attribute (thn (hv pins s σ H _ I h) fun u s1 ⟨y, H1, I1, ry, q⟩ => thn (ha pins s1 σ H1 _ I1 q) fun ov s2 ⟨x, H2, I2, rx, a, C, dx, fs, ex, ea, c, n, l, q2⟩ => ?_) hs
  subst ex
  obtain rfl : ov = Value.ref a := rx
  exact setattr_ok I2 ea c n l ry fun s3 I3 => ⟨σ, _, I3, q2⟩
end

/-! ### isinstance -/
section
variable {X : Cx} {pins : List (Addr × Obj)} {σ : St} {H : Hp} {s : Shared} {A : Around} {E : Value → Shared → Prop} {Q : Value → Shared → Prop} {c : Value} {b : Bool}
/-- the type of a value, as the fragment's deciders take it; for an instance its class -/
inductive TyOf (K : PySem.W.Frag) (H : Hp) : V → Value → Prop where
  | non : TyOf K H .non (.type "NoneType")
  | bl (x : Bool) : TyOf K H (.bl x) (.type "bool")
  | int (i : Int) : TyOf K H (.int i) (.type "int")
  | str (x : Str) : TyOf K H (.str x) (.type "str")
  | flt (x : UInt64) : TyOf K H (.flt x) (.type "float")
  | lst {a : Addr} {xs : List V} (e : H a = some (.lst xs)) : TyOf K H (.ref a) (.type "list")
  | frz {a : Addr} {o : Obj} {xs : List V} (e : H a = some (.frz o (.lst xs))) : TyOf K H (.ref a) (.type "list")
  | tup {a : Addr} {xs : List V} (e : H a = some (.tup xs)) : TyOf K H (.ref a) (.type "tuple")
  | dK {a : Addr} {kvs : List (Key × V)} (e : H a = some (.dK kvs)) : TyOf K H (.ref a) (.type "dict")
  | dT {a : Addr} {kvs : List (List Key × V)} (e : H a = some (.dT kvs)) : TyOf K H (.ref a) (.type "dict")
  | ins {a C dx : Addr} {fs : List (Str × V)} (e : H a = some (.ins C dx fs)) (cl : Cls K C) (ha : PySem.W.findIn K (.ref C) "__class__" = some (some (.builtin "object.__class__")))
      (hn : PySem.W.specialIn K (.builtin "object.__class__") "__get__" = some (some (.builtin "getset_descriptor.__get__"))) (htk : PySem.W.takesIn K (.builtin "object.__class__") = some true)
      (hm : PySem.W.mroIn K C (.type "object") = some true) : TyOf K H (.ref a) (.ref C)
end
end L2

namespace L2
open PySem PySem.Spec PyProof.Rows

/-! ### room -/
structure Room (k : Nat) (A : Around) : Prop where
  hd : A.handled = none
  dp : A.depth + 3 * k + 5 < recursionLimit
  un : A.units + 16 * k + 200 < cLine
theorem Room.mono {j k : Nat} {A : Around} (r : Room k A) (h : j ≤ k) : Room j A := ⟨r.hd, by have := r.dp; omega, by have := r.un; omega⟩
theorem Room.deeper {k : Nat} {A : Around} (r : Room (k + 1) A) (env : Env) : Room k (A.deeper env) :=
  ⟨r.hd, by have := r.dp; show A.depth + 1 + 3 * k + 5 < _; omega, by have := r.un; show A.units + 3 + 16 * k + 200 < _; omega⟩
theorem make_depth {A : Around} {C : Addr} {us : List Value} {kw : List (Str × Value)} : (A.under (.builtin "type.__call__" ⟨.ref C :: us, kw⟩)).depth = A.depth + 1 := by
  first | rfl | simp [Around.under, Code.weight, Code.isCreation, Code.isGuard, Code.isCaller, Code.frames, Code.isFrame, guardIds]
theorem make_units {A : Around} {C : Addr} {us : List Value} {kw : List (Str × Value)} : (A.under (.builtin "type.__call__" ⟨.ref C :: us, kw⟩)).units = A.units + 1 := by
  first | rfl | simp [Around.under, Code.cUnits, Code.frames, Code.isFrame]
theorem Room.make {k : Nat} {A : Around} (r : Room (k + 1) A) (C : Addr) (us : List Value) (kw : List (Str × Value)) : Room k (A.under (.builtin "type.__call__" ⟨.ref C :: us, kw⟩)) :=
  ⟨r.hd, by have := r.dp; rw [make_depth]; omega, by have := r.un; rw [make_units]; omega⟩
theorem Room.depth {k : Nat} {A : Around} (r : Room k A) : A.depth < recursionLimit := by have := r.dp; omega
theorem Room.units {k : Nat} {A : Around} (r : Room k A) : A.units + 64 < cLine := by have := r.un; omega
/-! ### argument lists and displays -/
def tNil : TA := fun _ H Q => Q [] H
def tCons (ta : TE) (tr : TA) : TA := fun σ H Q => ta σ H fun x H1 => tr σ H1 fun xs H2 => Q (x :: xs) H2
section
variable {X : Cx} {e : Expr} {es : List Expr} {te : TE} {t : TA} {pos : Pos}
theorem pa_nil : PA X [] tNil := fun _ _ _ _ H Q I h => Calls.spliced_nil ⟨[], H, I, .nil, h⟩
theorem pa_cons (ha : PE X e te) (hr : PA X es t) (hs : starEach (e :: es) X.env = (false, eval e X.env) :: starEach es X.env := by rfl) : PA X (e :: es) (tCons te t) := by
  intro pos pins s σ H Q I h
  rw [hs]
  show wpAny _ _ (spliced ((false, eval e X.env) :: backTo pos (starEach es X.env))) _ _ s
  refine Calls.spliced_cons (thn (ha pins s σ H _ I h) fun u s1 ⟨x, H1, I1, r1, q1⟩ => ?_)
  exact thn (hr pos pins s1 σ H1 _ I1 q1) fun us s2 ⟨xs, H2, I2, r2, q2⟩ => ⟨x :: xs, H2, I2, .cons r1 r2, q2⟩

/-- a tuple, a list of written items -/
def tTup (t : TA) : TE := fun σ H Q => t σ H fun xs H1 => xs.length ≤ sizeLine ∧ ∀ p, H1 p = none → Q (.ref p) (upd H1 p (.tup xs))
def tLst (t : TA) : TE := fun σ H Q => t σ H fun xs H1 => xs.length ≤ sizeLine ∧ ∀ p, H1 p = none → Q (.ref p) (upd H1 p (.lst xs))
theorem pe_tup {x1} (h : PA X es t) : PE X (.Tuple es x1 pos) (tTup t) := by
  intro pins s σ H Q I hq
  refine wpAny_Tuple_spliced (thn (h pos pins s σ H _ I hq) fun us s1 ⟨xs, H1, I1, r, z, q⟩ => ⟨by rw [← r.length]; exact z, ?_⟩)
  have hf : H1 s1.heap.objs.size = none := I1.hok.fresh (Nat.le_refl _)
  refine ⟨.ref s1.heap.objs.size, upd H1 s1.heap.objs.size (.tup xs), I1.laid (t' := s1.toks) (fun b u e => Heap.get?_push_of_some _ e) (Nat.le_refl _) ?_, rfl, q _ hf⟩
  exact ⟨z, us, r, ⟨_, Heap.get?_push_size _ rfl, rfl, _, rfl⟩⟩
theorem pe_lst (h : PA X es t) : PE X (.List es pos) (tLst t) := by
  intro pins s σ H Q I hq
  refine wpAny_List_spliced (thn (h pos pins s σ H _ I hq) fun us s1 ⟨xs, H1, I1, r, z, q⟩ => ⟨by rw [← r.length]; exact z, ?_⟩)
  have hf : H1 s1.heap.objs.size = none := I1.hok.fresh (Nat.le_refl _)
  refine ⟨.ref s1.heap.objs.size, upd H1 s1.heap.objs.size (.lst xs), I1.laid (t' := s1.toks) (fun b u e => Heap.get?_push_of_some _ e) (Nat.le_refl _) ?_, rfl, q _ hf⟩
  exact ⟨z, us, 0, r, Heap.get?_push_size _ rfl⟩
end

/-! ### what a def promises -/
/-- a def's promise: the bound arguments in the parameters' order, the heap, the wanted end, the wanted exception -/
abbrev Sp := List V → Hp → VK → XK → Prop
/-- how an exception lies behind a call (file 08 gives it): the callers' frames, abstract heap and state ahead of the call, the wish, the exception, the state -/
abbrev CXT := List Env → Hp → Shared → XK → Value → Shared → Prop

/-- the state at a call -/
structure Env0 (P : Program) (w : World) (K : PySem.W.Frag) (mg : Str → Option Value) (base : Heap) (A : Around) (outer : List Env) (s : Shared) (H : Hp) : Prop where
  frames : A.frames = some outer
  mod : Mod K mg base
  bs : ∀ b o, base.get? b = some o → s.heap.get? b = some o ∧ H b = none
  bsz : base.objs.size ≤ s.heap.objs.size
  funs : s.heap.FunFrames base outer
  frf : ∀ b ∈ frs outer, H b = none
  hok : HOk P w H s.heap
  bare : AllBare s.gens
/-- a call's end -/
def CE (outer : List Env) (P : Program) (w : World) (H : Hp) (s : Shared) (Q : VK) (u : Value) (s' : Shared) : Prop :=
  ∃ v H', s'.os = s.os ∧ AllBare s'.gens ∧ Un (frs outer) [] H H' s.heap s'.heap ∧ HOk P w H' s'.heap ∧ RelV v u ∧ Q v H'
def CR (CX : CXT) (outer : List Env) (P : Program) (w : World) (H : Hp) (s : Shared) (Q : VK) (E : XK) (r : Result) (s' : Shared) : Prop :=
  match r with
  | .ok (.ret u) => CE outer P w H s Q u s'
  | .ok _ => False
  | .error e => CX outer H s E e s'
structure FnOk (P : Program) (w : World) (K : PySem.W.Frag) (mg : Str → Option Value) (base : Heap) (CX : CXT) (k : Nat) (f : Addr) (fd : FuncData) (ps : List Str) (sp : Sp) : Prop where
  len : ∀ vs H Q E, sp vs H Q E → vs.length = ps.length
  run : ∀ (A : Around) (outer : List Env) (s : Shared) (H : Hp) (args : Args) (us : List Value) (vs : List V) (Q : VK) (E : XK), Room k A → Env0 P w K mg base A outer s H → BindsTo s fd args (ps.zip us) → Vals vs us → sp vs H Q E →
    codeAny (model P w) A (.call (.ref f) args) (CR CX outer P w H s Q E) s
theorem FnOk.mono {P : Program} {w : World} {K : PySem.W.Frag} {mg : Str → Option Value} {base : Heap} {CX : CXT} {j k : Nat} {f : Addr} {fd : FuncData} {ps : List Str} {sp : Sp} (F : FnOk P w K mg base CX j f fd ps sp) (h : j ≤ k) :
    FnOk P w K mg base CX k f fd ps sp := ⟨F.len, fun A outer s H args us vs Q E hr => F.run A outer s H args us vs Q E (hr.mono h)⟩
theorem Env0.make {P : Program} {w : World} {K : PySem.W.Frag} {mg : Str → Option Value} {base : Heap} {A : Around} {outer : List Env} {s : Shared} {H : Hp} (e : Env0 P w K mg base A outer s H) (C : Addr) (us : List Value) (kw : List (Str × Value)) :
    Env0 P w K mg base (A.under (.builtin "type.__call__" ⟨.ref C :: us, kw⟩)) outer s H := ⟨by first | exact e.frames | (simpa [Around.under, Code.envs, Code.isFrame, pushEnvs] using e.frames), e.mod, e.bs, e.bsz, e.funs, e.frf, e.hok, e.bare⟩
section
variable {X : Cx} {pins : List (Addr × Obj)} {σ : St} {H : Hp} {s s' : Shared}
/-- from a body: what a callee wants -/
theorem Inv.env0 (I : Inv X pins σ H s) : Env0 X.prog X.w X.K X.mg X.base X.A X.stack s H :=
  ⟨I.ok.frames, I.ok.mod, I.bs, Nat.le_trans I.ok.bsz I.sz, I.stack, I.stkFree, I.hok, I.bare⟩
/-- behind a call -/
theorem Inv.after {Q : VK} {u : Value} (I : Inv X pins σ H s) (h : CE X.stack X.prog X.w H s Q u s') : EP X pins σ Q u s' := by
  obtain ⟨v, H', os, bare, un, hok, r, q⟩ := h
  obtain ⟨hh, g, d, t, os'⟩ := s'
  obtain rfl : os' = s.os := os
  exact ⟨v, H', I.call (h' := hh) (g' := g) (d' := d) (t' := t) (ch := []) un hok bare (fun b z => absurd z (by simp)), r, q⟩
end

/-! ### calls -/
/-- f(..): the written arguments, then the defaults dvs; E: what is wanted of an exception -/
def tCall (sp : Sp) (dvs : List V) (E : XK) (t : TA) : TE := fun σ H Q => t σ H fun vs H1 => sp (vs ++ dvs) H1 Q E
/-- o.m(..) of an instance of the class at C -/
def tMeth (C : Addr) (m : Str) (sp : Sp) (dvs : List V) (E : XK) (ta : TE) (t : TA) : TE := fun σ H Q => ta σ H fun x H1 => ∃ a dx fs, x = .ref a ∧ H1 a = some (.ins C dx fs) ∧ fs.lookup m = none ∧
  t σ H1 fun vs H2 => sp (x :: (vs ++ dvs)) H2 Q E
/-- C(..): a new instance and its dict, then __init__ -/
def tMake (C : Addr) (sp : Sp) (dvs : List V) (E : XK) (t : TA) : TE := fun σ H Q => t σ H fun vs H1 => ∀ x dx, H1 x = none → H1 dx = none → dx ≠ x →
  sp (.ref x :: (vs ++ dvs)) (upd (upd H1 dx (.own x)) x (.ins C dx [])) (fun v H2 => v = .non ∧ Q (.ref x) H2) E

/-- how the parameters are bound: us the positional arguments, kw the keywords' values by name, ds the defaults that fill up -/
def Binds (K : PySem.W.Frag) (fd : FuncData) (ps : List Str) (ds : List Value) : Prop :=
  ∀ (s : Shared) (us : List Value), K.In s.heap → (us ++ ds).length = ps.length → BindsTo s fd ⟨us, []⟩ (ps.zip (us ++ ds))
/-- every parameter is given -/
theorem Binds.all {K : PySem.W.Frag} {fd : FuncData} {ps : List Str} (h : ∀ us : List Value, us.length = ps.length → bindArgs fd ⟨us, []⟩ = pure (ps.zip us)) : Binds K fd ps [] := fun s us _ hl => by
  rw [List.append_nil] at hl ⊢
  exact .of_eq (h us hl)

/-- an exception of a callee reaches what this body wants of exceptions -/
def Passes (CX : CXT) (X : Cx) (E : XK) : Prop := ∀ (pins : List (Addr × Obj)) (σ : St) (H : Hp) (s : Shared) (e : Value) (s' : Shared), Inv X pins σ H s → CX X.stack H s E e s' → X.xe e s'

section
variable {X : Cx} {CX : CXT} {k : Nat} {f C : Addr} {fd : FuncData} {ps : List Str} {sp : Sp} {dvs : List V} {ds : List Value} {E : XK} {x m : Str} {p pos apos : Pos} {e o : Expr} {es : List Expr} {ta : TE} {t : TA}

/-- the callee runs -/
theorem run_fn {pins : List (Addr × Obj)} {σ : St} {H : Hp} {s : Shared} {Q : VK} {us : List Value} {vs : List V} (F : FnOk X.prog X.w X.K X.mg X.base CX k f fd ps sp) (hr : Room k X.A) (hb : Binds X.K fd ps ds) (hd : Vals dvs ds) (hx : Passes CX X E)
    (I : Inv X pins σ H s) (r : Vals vs us) (h : sp (vs ++ dvs) H Q E) : wpAny (model X.prog X.w) X.A (call (.ref f) us) (EP X pins σ Q) X.xe s := by
  have r2 : Vals (vs ++ dvs) (us ++ ds) := r.append hd
  have hl : (us ++ ds).length = ps.length := by rw [← r2.length]; exact F.len _ _ _ _ h
  refine wpAny_call (codeAny_mono (F.run X.A X.stack s H ⟨us, []⟩ (us ++ ds) (vs ++ dvs) Q E hr I.env0 (hb s us I.kIn hl) r2 h) fun r s' hq => ?_)
  cases r with
  | error e => exact hx pins σ H s e s' I hq
  | ok fl =>
    cases fl with
    | ret u => exact I.after hq
    | next => exact False.elim hq
    | brk => exact False.elim hq
    | cont => exact False.elim hq

theorem pe_call (F : FnOk X.prog X.w X.K X.mg X.base CX k f fd ps sp) (hr : Room k X.A) (hg : Gl X x) (hm : X.mg x = some (.ref f)) (hk : PySem.W.keepIn X.K (.ref f) = true) (hb : Binds X.K fd ps ds) (hd : Vals dvs ds) (hx : Passes CX X E)
    (ha : PA X (e :: es) t) (hdb : (x == ("__debug__" : Str)) = false := by decide) (he : starEach (e :: es) X.env = (false, eval e X.env) :: starEach es X.env := by rfl) (hpl : (backTo pos (starEach es X.env)).any (·.1) = false := by rfl) :
    PE X (.Call (.Name x p) (e :: es) [] pos) (tCall sp dvs E t) := by
  intro pins s σ H Q I h
  refine wpAny_Call_Name_kw (ld_glob I hg hm ?_ hdb)
  refine PySem.W.callWith_K (h₀ := X.base) I.ok.mod.kin hk (thn (ha pos pins s σ H _ I h) fun us s1 ⟨vs, H1, I1, r, q⟩ => ⟨I1.kIn, ?_⟩) he hpl
  exact run_fn F hr hb hd hx I1 r q
theorem pe_call0 (F : FnOk X.prog X.w X.K X.mg X.base CX k f fd ps sp) (hr : Room k X.A) (hg : Gl X x) (hm : X.mg x = some (.ref f)) (hk : PySem.W.keepIn X.K (.ref f) = true) (hb : Binds X.K fd ps ds) (hd : Vals dvs ds) (hx : Passes CX X E)
    (hdb : (x == ("__debug__" : Str)) = false := by decide) : PE X (.Call (.Name x p) [] [] pos) (tCall sp dvs E tNil) := by
  intro pins s σ H Q I h
  refine wpAny_Call_Name_kw (ld_glob I hg hm ?_ hdb)
  exact PySem.W.callWith_K0 I.kIn hk (run_fn (us := []) F hr hb hd hx I .nil h)

/-- o.m(e, ..) -/
theorem pe_meth {pl : Sem Bool} (he : PE X o ta) (c : Cls X.K C) (hm : Meth X.K C m f) (F : FnOk X.prog X.w X.K X.mg X.base CX k f fd ps sp) (hr : Room k X.A) (hb : Binds X.K fd ps ds) (hd : Vals dvs ds) (hx : Passes CX X E) (ha : PA X (e :: es) t)
    (hst : starEach (e :: es) X.env = (false, eval e X.env) :: starEach es X.env := by rfl) (hpl : (backTo pos (starEach es X.env)).any (·.1) = false := by rfl)
    (ht : eval (.Call (.Attribute o m apos) (e :: es) [] pos) X.env = (do
      let ov ← eval o X.env
      standAt apos.atName
      let (f, first) ← holding [ov] (getMethod ov m pl)
      callWith pos f first (backTo pos (starEach (e :: es) X.env)) (backToKw pos (keywordEach [] X.env))) := by rfl) :
    PE X (.Call (.Attribute o m apos) (e :: es) [] pos) (tMeth C m sp dvs E ta t) := by
  intro pins s σ H Q I h
  refine PySem.W.methodCall_KW (pl := pl) (thn (he pins s σ H _ I h) fun u s1 ⟨x, H1, I1, rx, a, dx, fs, ex, ea, l, q⟩ => ?_) ht
  subst ex
  obtain rfl : u = Value.ref a := rx
  refine getmeth_ok I1 ea c hm l ?_
  refine PySem.W.callWith_K (first := [.ref a]) (h₀ := X.base) I.ok.mod.kin hm.kp (thn (ha pos pins s1 σ H1 _ I1 q) fun us s2 ⟨vs, H2, I2, r, q2⟩ => ⟨I2.kIn, ?_⟩) hst hpl
  exact run_fn (us := .ref a :: us) (vs := .ref a :: vs) F hr hb hd hx I2 (.cons rfl r) q2
/-- o.m() -/
theorem pe_meth0 {pl : Sem Bool} (he : PE X o ta) (c : Cls X.K C) (hm : Meth X.K C m f) (F : FnOk X.prog X.w X.K X.mg X.base CX k f fd ps sp) (hr : Room k X.A) (hb : Binds X.K fd ps ds) (hd : Vals dvs ds) (hx : Passes CX X E)
    (ht : eval (.Call (.Attribute o m apos) [] [] pos) X.env = (do
      let ov ← eval o X.env
      standAt apos.atName
      let (f, first) ← holding [ov] (getMethod ov m pl)
      callWith pos f first (backTo pos (starEach [] X.env)) (backToKw pos (keywordEach [] X.env))) := by rfl) :
    PE X (.Call (.Attribute o m apos) [] [] pos) (tMeth C m sp dvs E ta tNil) := by
  intro pins s σ H Q I h
  refine PySem.W.methodCall_KW (pl := pl) (thn (he pins s σ H _ I h) fun u s1 ⟨x, H1, I1, rx, a, dx, fs, ex, ea, l, q⟩ => ?_) ht
  subst ex
  obtain rfl : u = Value.ref a := rx
  refine getmeth_ok I1 ea c hm l ?_
  exact PySem.W.callWith_K0 (first := [.ref a]) I1.kIn hm.kp (run_fn (us := [.ref a]) (vs := [.ref a]) F hr hb hd hx I1 (.cons rfl .nil) q)

/-- what a class must have to be made -/
structure Mk (K : PySem.W.Frag) (C f : Addr) : Prop where
  makes : PySem.W.makesIn K C = true
  init : PySem.W.findIn K (.ref C) "__init__" = some (some (.ref f))
  fn : PySem.W.isFn K (.ref f) = true
  kp : PySem.W.keepIn K (.ref C) = true

theorem run_make {pins : List (Addr × Obj)} {σ : St} {H : Hp} {s : Shared} {Q : VK} {us : List Value} {vs : List V} (M : Mk X.K C f) (F : FnOk X.prog X.w X.K X.mg X.base CX k f fd ps sp) (hr : Room (k + 1) X.A) (hb : Binds X.K fd ps ds) (hd : Vals dvs ds)
    (hx : Passes CX X E) (I : Inv X pins σ H s) (r : Vals vs us)
    (h : ∀ x dx, H x = none → H dx = none → dx ≠ x → sp (.ref x :: (vs ++ dvs)) (upd (upd H dx (.own x)) x (.ins C dx [])) (fun v H2 => v = .non ∧ Q (.ref x) H2) E) :
    wpAny (model X.prog X.w) X.A (call (.ref C) us) (EP X pins σ Q) X.xe s := by
  have hq := h (s.heap.objs.size + 1) s.heap.objs.size (I.hok.fresh (Nat.le_succ _)) (I.hok.fresh (Nat.le_refl _)) (Nat.ne_of_lt (Nat.lt_succ_self _))
  have I2 := Inv.made (C := C) I
  have r2 : Vals (V.ref (s.heap.objs.size + 1) :: (vs ++ dvs)) (Value.ref (s.heap.objs.size + 1) :: (us ++ ds)) := .cons rfl (r.append hd)
  have hl : (Value.ref (s.heap.objs.size + 1) :: us ++ ds).length = ps.length := by
    have e := r2.length
    rw [F.len _ _ _ _ hq] at e
    exact e.symm
  refine wpAny_call (make_map (f := f) I.kIn M.makes M.init (beq_iff_eq.mp M.fn) (codeAny_mono (F.run _ X.stack _ _ ⟨Value.ref (s.heap.objs.size + 1) :: us, []⟩ (Value.ref (s.heap.objs.size + 1) :: (us ++ ds)) _ _ E (hr.make C us [])
    (I2.env0.make C us []) (hb _ (Value.ref (s.heap.objs.size + 1) :: us) I2.kIn hl) r2 hq) fun r s' hq' => ?_))
  cases r with
  | error e => exact hx pins σ _ _ e s' I2 hq'
  | ok fl =>
    cases fl with
    | ret u =>
      obtain ⟨v, H', I3, rv, ev, q3⟩ := I2.after hq'
      subst ev
      exact ⟨rv, ⟨V.ref (s.heap.objs.size + 1), H', I3, rfl, q3⟩⟩
    | next => exact False.elim hq'
    | brk => exact False.elim hq'
    | cont => exact False.elim hq'
theorem pe_make (M : Mk X.K C f) (F : FnOk X.prog X.w X.K X.mg X.base CX k f fd ps sp) (hr : Room (k + 1) X.A) (hg : Gl X x) (hm : X.mg x = some (.ref C)) (hb : Binds X.K fd ps ds) (hd : Vals dvs ds) (hx : Passes CX X E)
    (ha : PA X (e :: es) t) (hdb : (x == ("__debug__" : Str)) = false := by decide) (he : starEach (e :: es) X.env = (false, eval e X.env) :: starEach es X.env := by rfl) (hpl : (backTo pos (starEach es X.env)).any (·.1) = false := by rfl) :
    PE X (.Call (.Name x p) (e :: es) [] pos) (tMake C sp dvs E t) := by
  intro pins s σ H Q I h
  refine wpAny_Call_Name_kw (ld_glob I hg hm ?_ hdb)
  refine PySem.W.callWith_K (h₀ := X.base) I.ok.mod.kin M.kp (thn (ha pos pins s σ H _ I h) fun us s1 ⟨vs, H1, I1, r, q⟩ => ⟨I1.kIn, ?_⟩) he hpl
  exact run_make M F hr hb hd hx I1 r q
theorem pe_make0 (M : Mk X.K C f) (F : FnOk X.prog X.w X.K X.mg X.base CX k f fd ps sp) (hr : Room (k + 1) X.A) (hg : Gl X x) (hm : X.mg x = some (.ref C)) (hb : Binds X.K fd ps ds) (hd : Vals dvs ds) (hx : Passes CX X E)
    (hdb : (x == ("__debug__" : Str)) = false := by decide) : PE X (.Call (.Name x p) [] [] pos) (tMake C sp dvs E tNil) := by
  intro pins s σ H Q I h
  refine wpAny_Call_Name_kw (ld_glob I hg hm ?_ hdb)
  exact PySem.W.callWith_K0 I.kIn M.kp (run_make (us := []) M F hr hb hd hx I .nil h)
end

/-! ### keywords -/
section
variable {X : Cx} {CX : CXT} {k : Nat} {f C : Addr} {fd : FuncData} {ps ks : List Str} {sp : Sp} {E : XK} {x m : Str} {p pos apos kpos : Pos} {e o : Expr} {es : List Expr} {kws : List Keyword} {te ta : TE} {t tk : TA} {nm : Option Str}
/-- how a call with keywords binds: g puts the positional values us and the keywords' values ws (names ks) in the parameters' order, defaults among them -/
structure KBinds (K : PySem.W.Frag) (fd : FuncData) (ps ks : List Str) (g : List Value → List Value → List Value) (gV : List V → List V → List V) : Prop where
  to : ∀ (s : Shared) (us ws : List Value), K.In s.heap → (g us ws).length = ps.length → BindsTo s fd ⟨us, ks.zip ws⟩ (ps.zip (g us ws))
  rel : ∀ {vs : List V} {us : List Value} {zs : List V} {ws : List Value}, Vals vs us → Vals zs ws → Vals (gV vs zs) (g us ws)
variable {g : List Value → List Value → List Value} {gV : List V → List V → List V}
end

/-! ### a def's body keeps its promise -/
/-- names: the parameters first -/
structure FnScope (N P : List Str) (sc : Scope) : Prop where
  kind : sc.kind = .function
  co : sc.isCoroutine = false
  gen : sc.isGenerator = false
  nd : N.Nodup
  pre : N.take P.length = P
  par : ∀ x ∈ P, sc.names.lookup x = some .local ∨ sc.names.lookup x = some .cell
  nofree : ∀ y ∈ sc.names, y.2 ≠ .free

theorem bindL_out {kindOf : Str → Option NameKind} {x : Str} : ∀ {binds : List (Str × Value)} {m : Str → Option Value}, (∀ v, (x, v) ∉ binds) → bindL kindOf binds m x = m x
  | [], _, _ => rfl
  | (n, v) :: r, m, h => by
    unfold bindL
    rw [bindL_out fun w hw => h w (List.mem_cons_of_mem _ hw)]
    split
    · have : x ≠ n := by rintro rfl; exact h v List.mem_cons_self
      simp [this]
    · rfl
theorem bindC_out {kindOf : Str → Option NameKind} {x : Str} : ∀ {binds : List (Str × Value)} {m : Str → Option Value}, (∀ v, (x, v) ∉ binds) → bindC kindOf binds m x = m x
  | [], _, _ => rfl
  | (n, v) :: r, m, h => by
    unfold bindC
    rw [bindC_out fun w hw => h w (List.mem_cons_of_mem _ hw)]
    split
    · rfl
    · have : x ≠ n := by rintro rfl; exact h v List.mem_cons_self
      simp [this]
theorem bindL_get {kindOf : Str → Option NameKind} {x : Str} {v : Value} : ∀ {P : List Str} {vs : List Value} {i : Nat} {m : Str → Option Value}, P.Nodup → P[i]? = some x → vs[i]? = some v → kindOf x = some .local →
    bindL kindOf (P.zip vs) m x = some v
  | [], _, _, _, _, h, _, _ => by simp at h
  | _ :: _, [], _, _, _, _, h, _ => by simp at h
  | p :: P, w :: vs, 0, m, nd, h1, h2, hk => by
    simp at h1 h2; subst h1; subst h2
    show bindL kindOf ((p, w) :: P.zip vs) m p = _
    unfold bindL
    rw [bindL_out fun v hv => (List.nodup_cons.mp nd).1 (List.of_mem_zip hv).1, if_pos hk]
    simp
  | p :: P, w :: vs, i + 1, m, nd, h1, h2, hk => by
    show bindL kindOf ((p, w) :: P.zip vs) m x = _
    unfold bindL
    exact bindL_get (i := i) (List.nodup_cons.mp nd).2 (by simpa using h1) (by simpa using h2) hk
theorem bindC_get {kindOf : Str → Option NameKind} {x : Str} {v : Value} : ∀ {P : List Str} {vs : List Value} {i : Nat} {m : Str → Option Value}, P.Nodup → P[i]? = some x → vs[i]? = some v → kindOf x ≠ some .local →
    bindC kindOf (P.zip vs) m x = some v
  | [], _, _, _, _, h, _, _ => by simp at h
  | _ :: _, [], _, _, _, _, h, _ => by simp at h
  | p :: P, w :: vs, 0, m, nd, h1, h2, hk => by
    simp at h1 h2; subst h1; subst h2
    show bindC kindOf ((p, w) :: P.zip vs) m p = _
    unfold bindC
    rw [bindC_out fun v hv => (List.nodup_cons.mp nd).1 (List.of_mem_zip hv).1, if_neg hk]
    simp
  | p :: P, w :: vs, i + 1, m, nd, h1, h2, hk => by
    show bindC kindOf ((p, w) :: P.zip vs) m x = _
    unfold bindC
    exact bindC_get (i := i) (List.nodup_cons.mp nd).2 (by simpa using h1) (by simpa using h2) hk

/-- the names' values at the entry -/
def start (N : List Str) (vs : List V) : St := vs.map some ++ List.replicate (N.length - vs.length) none

/-- the context of a def's body, at its entry; an exception leaves the frame, then lies as CX says -/
def cxOf (CX : CXT) (P : Program) (w : World) (K : PySem.W.Frag) (mg : Str → Option Value) (base : Heap) (N : List Str) (qual : Str) (scope : Scope) (f : Addr) (cd : Value) (A : Around) (outer : List Env) (s : Shared) (H : Hp) (E : XK) : Cx where
  prog := P
  w := w
  K := K
  mg := mg
  base := base
  A := A.deeper (envOfC qual scope s.heap.objs.size f cd)
  N := N
  s_0 := s
  H_0 := H
  env := envOfC qual scope s.heap.objs.size f cd
  outer := outer
  stack := envOfC qual scope s.heap.objs.size f cd :: outer
  ex := []
  calm := true
  fn := fun _ => true
  pn := []
  xe := fun e s' => wpAny (model P w) (A.deeper (envOfC qual scope s.heap.objs.size f cd)) (leaving (envOfC qual scope s.heap.objs.size f cd) e) (fun _ s'' => CX outer H s E e s'') (fun e' s'' => CX outer H s E e' s'') s'

theorem cell_has {sc : Scope} {n : Nat} {x : Str} (h : sc.names.lookup x = some .cell) : ∃ c, (cellsFrom n sc.names []).lookup x = some c := by
  have q := PySem.W.cellsFrom_some sc.names n [] (.inl h)
  exact Option.isSome_iff_exists.mp q

theorem inv_start {CX : CXT} {P : Program} {w : World} {K : PySem.W.Frag} {mg : Str → Option Value} {base : Heap} {N ps : List Str} {qual : Str} {scope : Scope} {f : Addr} {cd : Value} {A : Around} {outer : List Env} {s s1 : Shared} {H : Hp} {E : XK} {us : List Value} {vs : List V}
    (S : FnScope N ps scope) (hd : A.handled = none) (e0 : Env0 P w K mg base A outer s H) (hl : vs.length = ps.length) (r : Vals vs us)
    (x : InCallC s s.heap.objs.size (bindL (envOfC qual scope s.heap.objs.size f cd).kindOf (ps.zip us) fun _ => none) (cellsFrom (s.heap.objs.size + 1) scope.names []) (bindC (envOfC qual scope s.heap.objs.size f cd).kindOf (ps.zip us) fun _ => none) s1) :
    Inv (cxOf CX P w K mg base N qual scope f cd A outer s H E) [] (start N vs) H s1 := by
  have hpl : ps.length ≤ N.length := by have := congrArg List.length S.pre; rw [List.length_take] at this; omega
  obtain ⟨h1, tk, rfl, hk⟩ := x.done
  have noA : ∀ b : Addr, b ∉ (cxOf CX P w K mg base N qual scope f cd A outer s H E).ex := fun b z => absurd (show b ∈ ([] : List Addr) from z) (by simp)
  refine ⟨⟨e0.mod, S.kind, rfl, rfl, Nat.le_refl _, fun y z c h1 h2 => ?_, fun y hy => ?_, fun y c _ h => ?_, fun _ => hd, Around.frames_deeper e0.frames, .inr ⟨rfl, rfl⟩, fun b z => absurd z (noA b), e0.bs, e0.bsz, fun b _ _ => noA b, fun b z => absurd z (noA b), e0.funs, e0.frf⟩,
    rfl, e0.bare, Un.kept hk, ⟨_, x.toInCall.ns, fun i y v h1 h2 h3 => ?_⟩, fun y c h => ⟨_, x.cell y c h⟩, e0.hok.fresh (Nat.le_refl _), fun y c h => ?_, fun p hp => absurd (show p ∈ ([] : List (Addr × Obj)) from hp) (by simp), e0.hok.kept hk, ?_⟩
  · exact name_of_addr x.apart (PySem.mem_of_lookup h1) (PySem.mem_of_lookup h2)
  · have hy : scope.names.lookup y = some .cell ∨ scope.names.lookup y = some .free := hy
    rcases hy with hy | hy
    · exact cell_has hy
    · exact absurd rfl (S.nofree _ (PySem.mem_of_lookup hy))
  · exact Nat.le_of_lt (x.above y c (PySem.mem_of_lookup h))
  · have hi : i < vs.length := by
      unfold start at h2
      by_cases hi : i < vs.length
      · exact hi
      · rw [List.getElem?_append_right (by simpa using hi)] at h2
        rw [List.getElem?_replicate] at h2
        split at h2 <;> cases h2
    have ha : vs[i]? = some v := by
      unfold start at h2
      rw [List.getElem?_append_left (by simpa using hi), List.getElem?_map] at h2
      cases e : vs[i]? with
      | none => rw [e] at h2; cases h2
      | some a => rw [e] at h2; cases h2; rfl
    obtain ⟨u, hu, rv⟩ := r.get ha
    have hp : ps[i]? = some y := by
      rw [← S.pre, List.getElem?_take_of_lt (by omega)]; exact h1
    have ndP : ps.Nodup := by rw [← S.pre]; exact S.nd.sublist (List.take_sublist _ _)
    refine ⟨u, rv, ?_⟩
    rcases S.par y (List.mem_of_getElem? hp) with k | k
    · exact .inl ⟨k, bindL_get ndP hp hu k⟩
    · obtain ⟨c, e⟩ := cell_has (n := s.heap.objs.size + 1) k
      refine .inr ⟨.inl k, c, e, ?_⟩
      have q := x.cell y c e
      rw [bindC_get ndP hp hu (by show scope.names.lookup y ≠ _; rw [k]; decide)] at q
      exact q
  · exact e0.hok.fresh (Nat.le_of_lt (x.above y c (PySem.mem_of_lookup h)))
  · unfold start
    show _ = N.length
    rw [List.length_append, List.length_map, List.length_replicate]
    omega

/-- THE RULE: a def (or a method) of the text, by its body. The body's reading t is chosen for each entry; it is run at the parameters' values -/
theorem fn_of {CX : CXT} {P : Program} {w : World} {K : PySem.W.Frag} {mg : Str → Option Value} {base : Heap} {k : Nat} {f : Addr} {name qual : Str} {params : Arguments} {body : List Stmt} {scope : Scope} {dV kV doc pm cdv ct oc : Value} {an od : Option Addr}
    {osl : Array (Option Value)} {N ps : List Str} {sp : Sp} (lk : K.lookup f = some ⟨oc, od, .func (PySem.W.fnOf name qual params body scope dV kV doc pm an cdv ct), osl⟩) (hcd : PySem.W.codeIn K cdv qual = true) (S : FnScope N ps scope)
    (len : ∀ vs H Q E, sp vs H Q E → vs.length = ps.length)
    (hbody : ∀ (A : Around) (outer : List Env) (s : Shared) (H : Hp) (vs : List V) (Q : VK) (E : XK), Room k (A.deeper (envOfC qual scope s.heap.objs.size f cdv)) → sp vs H Q E →
      ∃ t, PSs (cxOf CX P w K mg base N qual scope f cdv A outer s H E) body t ∧ t { nx := fun _ H' => Q .non H', rt := Q } (start N vs) H) :
    FnOk P w K mg base CX (k + 1) f (PySem.W.fnOf name qual params body scope dV kV doc pm an cdv ct) ps sp := by
  refine ⟨len, fun A outer s H args us vs Q E hr e0 hb r hsp => ?_⟩
  have hl := len _ _ _ _ hsp
  have KX : K.In s.heap := e0.mod.kin.keeps fun b o e => (e0.bs b o e).1
  have lim : s.heap.NoLimit := e0.mod.nolimit.keeps fun b o e => (e0.bs b o e).1
  have hkind : ∀ y ∈ ps.zip us, scope.names.lookup y.1 = some .local ∨ (scope.names.lookup y.1 = some .cell ∧ ((cellsFrom (s.heap.objs.size + 1) scope.names []).lookup y.1).isSome = true) := fun ⟨n, v⟩ hy => by
    rcases S.par n (List.of_mem_zip hy).1 with q | q
    · exact .inl q
    · exact .inr ⟨q, PySem.W.cellsFrom_some _ _ _ (.inl q)⟩
  refine codeAny_call_function hr.depth (KX _ _ lk) rfl S.co S.gen rfl (PySem.W.codeRec_of KX hcd) (hb _ _ _ _ ?_)
  refine wpAny_newFunctionEnv_cells S.kind hkind fun env he s1 x => ?_
  subst he
  refine ⟨lim.keeps x.toInCall.keep, codeAny_func ?_⟩
  obtain ⟨t, ht, hq⟩ := hbody A outer s H vs Q E (hr.deeper _) hsp
  have I : Inv (cxOf CX P w K mg base N qual scope f cdv A outer s H E) [] (start N vs) H s1 := inv_start S hr.hd e0 hl r x
  refine wpAny_mono (ht [] s1 (start N vs) H _ I hq) (fun fl s' hs => ?_) fun e s' hs => hs
  have fin : ∀ {σ' : St} {H' : Hp} {v : V} {u : Value}, Inv (cxOf CX P w K mg base N qual scope f cdv A outer s H E) [] σ' H' s' → RelV v u → Q v H' → CE outer P w H s Q u s' :=
    fun {σ' H' v u} J rv q => ⟨v, H', J.os, J.bare, J.base, J.hok, rv, q⟩
  cases fl with
  | ret u =>
    obtain ⟨v, σ', H', J, rv, q⟩ := hs
    exact fin J rv q
  | next =>
    obtain ⟨σ', H', J, q⟩ := hs
    exact fin (v := V.non) (u := Value.none) J rfl q
  | brk =>
    obtain ⟨_, _, _, q⟩ := hs
    exact False.elim q
  | cont =>
    obtain ⟨_, _, _, q⟩ := hs
    exact False.elim q
end L2

namespace L2
open PySem PySem.Spec PyProof.Rows
section
variable {X : Cx} {x : Str} {p pos : Pos} {e : Expr} {es : List Expr} {t : TA} {id T : String} {r : List V → Hp → VK → Prop}

def tCB (r : List V → Hp → VK → Prop) (t : TA) : TE := fun σ H Q => t σ H fun vs H1 => r vs H1 Q
/-- f(e, ..), f a built-in function -/
theorem pe_callB (hc : CallR X (.builtin id) r) (hg : Gl X x) (hm : X.mg x = none) (hv : bootBuiltins x = some (.builtin id)) (ha : PA X (e :: es) t) (hn : x ≠ "__name__" := by decide) (hdb : (x == ("__debug__" : Str)) = false := by decide)
    (he : starEach (e :: es) X.env = (false, eval e X.env) :: starEach es X.env := by rfl) (hpl : (backTo pos (starEach es X.env)).any (·.1) = false := by rfl) : PE X (.Call (.Name x p) (e :: es) [] pos) (tCB r t) := by
  intro pins s σ H Q I h
  refine wpAny_Call_Name_kw (ld_blt I hg hm hv ?_ hn hdb)
  exact PyProof.Rows.callWith_builtin1 (thn (ha pos pins s σ H _ I h) fun us s1 ⟨vs, H1, I1, r1, q1⟩ => hc pins s1 σ H1 vs us Q I1 r1 q1) he hpl
/-- T(e, ..), T a built-in type -/
theorem pe_callTy (hc : CallR X (.type T) r) (hg : Gl X x) (hm : X.mg x = none) (hv : bootBuiltins x = some (.type T)) (ha : PA X (e :: es) t) (hn : x ≠ "__name__" := by decide) (hdb : (x == ("__debug__" : Str)) = false := by decide)
    (he : starEach (e :: es) X.env = (false, eval e X.env) :: starEach es X.env := by rfl) (hpl : (backTo pos (starEach es X.env)).any (·.1) = false := by rfl) : PE X (.Call (.Name x p) (e :: es) [] pos) (tCB r t) := by
  intro pins s σ H Q I h
  refine wpAny_Call_Name_kw (ld_blt I hg hm hv ?_ hn hdb)
  exact PyProof.Rows.callWith_type1 (thn (ha pos pins s σ H _ I h) fun us s1 ⟨vs, H1, I1, r1, q1⟩ => hc pins s1 σ H1 vs us Q I1 r1 q1) he hpl
end
end L2

namespace HT
open PySem PyProof.Rows

section
open PySem.SeqAt
open PySem.AutoSeq1 (wpAny_loadPart')
open PySem.MeetsSeq PySem.MeetsSeq2 PySem.MeetsSeq3

end

section
variable {prog : Program} {w : World} {A : Around} {E : Value → Shared → Prop} {s : Shared}

/-! ### t[a:b], not the whole -/
/-- a slice's bound as a place among n (d where it is left out) -/
def sIx (n d : Nat) : Option Int → Nat
  | none => d
  | some v => if v < 0 then (v + (n : Int)).toNat else min v.toNat n
theorem sIx_none (n d : Nat) : sIx n d none = d := rfl
theorem sIx_nat (n d k : Nat) : sIx n d (some (k : Int)) = min k n := by
  show (if (k : Int) < 0 then ((k : Int) + (n : Int)).toNat else min (k : Int).toNat n) = min k n
  rw [if_neg (by omega), Int.toNat_natCast]
end
end HT

namespace L2
open PySem PySem.Spec PyProof.Rows

/-! ### the parts of a slice -/
abbrev TO := St → Hp → (Option Int → Hp → Prop) → Prop
/-- a slice's part (left out, or an int) -/
def PO (X : Cx) (e : Option Expr) (t : TO) : Prop :=
  ∀ (pins : List (Addr × Obj)) (s : Shared) (σ : St) (H : Hp) (Q : Option Int → Hp → Prop), Inv X pins σ H s → t σ H Q →
    wpAny (model X.prog X.w) X.A (evalPart e X.env) (fun u s' => ∃ o H', Inv X pins σ H' s' ∧ IsPart u o ∧ Q o H') X.xe s
def tNoPart : TO := fun _ H Q => Q none H
def tPart (t : TE) : TO := fun σ H Q => t σ H fun x H1 => ∃ i, x = .int i ∧ Q (some i) H1

section
variable {X : Cx} {e : Expr} {te : TE} {lo hi : Option Expr} {tl th : TO} {pos p2 : Pos}

theorem po_none : PO X none tNoPart := by
  intro pins s σ H Q I h
  rw [evalPart_none]
  exact wpAny_pure ⟨none, H, I, .none, h⟩
theorem po_some (h : PE X e te) : PO X (some e) (tPart te) := by
  intro pins s σ H Q I hw
  rw [evalPart_some]
  refine thn (h pins s σ H _ I hw) fun u s1 ⟨x, H1, I1, r1, q1⟩ => ?_
  obtain ⟨i, rfl, q⟩ := q1
  obtain ⟨t, rfl⟩ := r1
  exact ⟨some i, H1, I1, .int i t, q⟩

/-- what a slice of a value is, by values: the slice object stands at sl -/
def SlR (X : Cx) (r : V → Option Int → Option Int → Hp → VK → Prop) : Prop :=
  ∀ (pins : List (Addr × Obj)) (s : Shared) (σ : St) (H : Hp) (x : V) (v vl vu : Value) (lo hi : Option Int) (sl : Addr) (Q : VK), Inv X pins σ H s → RelV x v → s.heap.IsSliceOf sl vl vu .none → IsPart vl lo → IsPart vu hi → r x lo hi H Q →
    ∃ T id, typeLookup (.type T) "__getitem__" = pure (some (.builtin id)) ∧ s.TypeIs v T ∧ wpAny (model X.prog X.w) X.A (getItem v (.ref sl)) (EP X pins σ Q) X.xe s
theorem SlR.or {r r' : V → Option Int → Option Int → Hp → VK → Prop} (h : SlR X r) (h' : SlR X r') : SlR X (fun x lo hi H Q => r x lo hi H Q ∨ r' x lo hi H Q) := by
  intro pins s σ H x v vl vu lo hi sl Q I rx hs pl pu q
  rcases q with q | q
  · exact h pins s σ H x v vl vu lo hi sl Q I rx hs pl pu q
  · exact h' pins s σ H x v vl vu lo hi sl Q I rx hs pl pu q
def tSl (r : V → Option Int → Option Int → Hp → VK → Prop) (te : TE) (tl th : TO) : TE := fun σ H Q => te σ H fun x H1 => tl σ H1 fun l H2 => th σ H2 fun u H3 => r x l u H3 Q
/-- a[lo:hi], any a -/
theorem pe_slice {r : V → Option Int → Option Int → Hp → VK → Prop} (hr : SlR X r) (he : PE X e te) (hl : PO X lo tl) (hu : PO X hi th) : PE X (.Subscript e (.Slice lo hi none p2) pos) (tSl r te tl th) := by
  intro pins s σ H Q I h
  refine Subscript_ (thn (he pins s σ H _ I h) fun v s1 ⟨x, H1, I1, r1, q1⟩ => ?_)
  refine wpAny_Slice (thn (hl pins s1 σ H1 _ I1 q1) fun vl s2 ⟨l, H2, I2, pl, q2⟩ => thn (hu pins s2 σ H2 _ I2 q2) fun vu s3 ⟨u, H3, I3, pu, q3⟩ => ?_)
  rw [evalPart_none]
  refine wpAny_pure ?_
  have I4 : Inv X pins σ H3 { s3 with heap := s3.heap.push { cls := .type "slice", data := .fields #[vl, vu, .none] } } := I3.kept (t' := s3.toks) fun b ob q => Heap.get?_push_of_some _ q
  obtain ⟨T, id, hT, ht, hg⟩ := hr pins { s3 with heap := s3.heap.push { cls := .type "slice", data := .fields #[vl, vu, .none] } } σ H3 x v vl vu l u s3.heap.objs.size Q I4 r1 (Heap.IsSliceOf.new ..) pl pu q3
  show wpAny (model X.prog X.w) X.A (subscriptTail e (.Slice lo hi none p2) v (.ref s3.heap.objs.size)) (EP X pins σ Q) X.xe { s3 with heap := s3.heap.push { cls := .type "slice", data := .fields #[vl, vu, .none] } }
  exact tail_any (ops := [.ref s3.heap.objs.size, v]) ht hT hg (by with_unfolding_all rfl)

/-- the items of xs[lo:hi] -/
def cutV (xs : List V) (lo hi : Option Int) : List V := (xs.drop (HT.sIx xs.length 0 lo)).take (HT.sIx xs.length xs.length hi - HT.sIx xs.length 0 lo)
theorem cutV_length (xs : List V) (lo hi : Option Int) : (cutV xs lo hi).length ≤ xs.length := by
  unfold cutV
  rw [List.length_take, List.length_drop]
  omega
/-! ### t < u, t + u -/
end
end L2

namespace L2
open PySem PySem.Spec PyProof.Rows

/-! ### places -/
/-- the place that an index of any sign means -/
def ixN (n : Nat) (i : Int) : Option Nat := if 0 ≤ i then (if i < n then some i.toNat else none) else if -(n : Int) ≤ i then some (i + n).toNat else none
def atI {α : Type} (xs : List α) (i : Int) : Option α := (ixN xs.length i).bind fun j => xs[j]?
theorem ixN_seq {n : Nat} {i : Int} {j : Nat} (h : ixN n i = some j) : seqIndex? i n = some j ∧ j < n ∧ -(n : Int) ≤ i ∧ i < n := by
  unfold ixN at h
  by_cases h0 : 0 ≤ i
  · rw [if_pos h0] at h
    by_cases h1 : i < n
    · rw [if_pos h1] at h
      have e : i.toNat = j := Option.some.inj h
      exact ⟨by rw [seqIndex_of h0 h1, e], by omega, by omega, h1⟩
    · rw [if_neg h1] at h; cases h
  · rw [if_neg h0] at h
    by_cases h1 : -(n : Int) ≤ i
    · rw [if_pos h1] at h
      have e : (i + n).toNat = j := Option.some.inj h
      exact ⟨by rw [seqIndex_neg (by omega) h1, e], by omega, h1, by omega⟩
    · rw [if_neg h1] at h; cases h
theorem atI_get {α : Type} {xs : List α} {i : Int} {v : α} (h : atI xs i = some v) : ∃ j, seqIndex? i xs.length = some j ∧ xs[j]? = some v ∧ j < xs.length ∧ -(xs.length : Int) ≤ i ∧ i < xs.length := by
  unfold atI at h
  cases e : ixN xs.length i with
  | none => rw [e] at h; cases h
  | some j =>
    rw [e] at h
    obtain ⟨h1, h2, h3, h4⟩ := ixN_seq e
    exact ⟨j, h1, h, h2, h3, h4⟩
theorem atI_nat {α : Type} {xs : List α} {j : Nat} {v : α} (h : xs[j]? = some v) : atI xs (j : Int) = some v := by
  have hj : j < xs.length := (List.getElem?_eq_some_iff.mp h).1
  have e : ixN xs.length (j : Int) = some j := by
    unfold ixN
    rw [if_pos (by omega), if_pos (by omega)]; simp
  unfold atI; rw [e]; exact h
/-! ### what may be subscripted -/
/-- what stands as an index of a plain subscript -/
def PlainIx (b : Expr) : Prop := ∀ o i, subscripted b false o i = operate [o, i] (getItem o i)
/-- a subscript by values -/
def IxR (X : Cx) (r : R2) : Prop :=
  ∀ (value slice : Expr) (pins : List (Addr × Obj)) (s : Shared) (σ : St) (H : Hp) (x y : V) (v u : Value) (Q : VK), Inv X pins σ H s → RelV x v → RelV y u → r x y H Q →
    subscripted slice false v u = operate [v, u] (getItem v u) → wpAny (model X.prog X.w) X.A (subscriptTail value slice v u) (EP X pins σ Q) X.xe s
/-- a call of a builtin's method by values: the receiver, the arguments -/
def MtR (X : Cx) (id : String) (r : V → List V → Hp → VK → Prop) : Prop :=
  ∀ (pins : List (Addr × Obj)) (s : Shared) (σ : St) (H : Hp) (x : V) (xs : List V) (v : Value) (us : List Value) (Q : VK), Inv X pins σ H s → RelV x v → Vals xs us → r x xs H Q →
    wpAny (model X.prog X.w) X.A (call (.builtin id) (v :: us)) (EP X pins σ Q) X.xe s
section
variable {X : Cx} {a b : Expr} {ta tb : TE} {pos : Pos}
theorem IxR.or {r r' : R2} (h : IxR X r) (h' : IxR X r') : IxR X (fun x y H Q => r x y H Q ∨ r' x y H Q) := by
  intro value slice pins s σ H x y v u Q I rx ry q hs
  rcases q with q | q
  · exact h value slice pins s σ H x y v u Q I rx ry q hs
  · exact h' value slice pins s σ H x y v u Q I rx ry q hs
theorem MtR.or {id : String} {r r' : V → List V → Hp → VK → Prop} (h : MtR X id r) (h' : MtR X id r') : MtR X id (fun x xs H Q => r x xs H Q ∨ r' x xs H Q) := by
  intro pins s σ H x xs v us Q I rx rs q
  rcases q with q | q
  · exact h pins s σ H x xs v us Q I rx rs q
  · exact h' pins s σ H x xs v us Q I rx rs q
/-- a[b] -/
theorem pe_ix {r : R2} (hr : IxR X r) (ha : PE X a ta) (hb : PE X b tb) (hs : PlainIx b) : PE X (.Subscript a b pos) (tOp r ta tb) := by
  intro pins s σ H Q I h
  exact Subscript_ (binT ha hb I h fun v u s2 x y H2 I2 rx ry q => hr a b pins s2 σ H2 x y v u Q I2 rx ry q (hs _ _))

def rIxL (K : PySem.W.Frag) : R2 := fun x y H Q => ∃ p xs i v, x = .ref p ∧ y = .int i ∧ SqL K H p xs ∧ atI xs i = some v ∧ Q v H
def rIxT (K : PySem.W.Frag) : R2 := fun x y H Q => ∃ p xs i v, x = .ref p ∧ y = .int i ∧ SqT K H p xs ∧ atI xs i = some v ∧ Q v H
theorem ix_list : IxR X (rIxL X.K) := by
  intro value slice pins s σ H x y v u Q I rx ry h hs
  obtain ⟨p, xs, i, z, rfl, rfl, hq, he, q⟩ := h
  cases rx
  obtain ⟨t, rfl⟩ := ry
  obtain ⟨its, r, pl, hz⟩ := I.list hq
  obtain ⟨j, h1, h2, h3, h4, h5⟩ := atI_get he
  obtain ⟨w, ew, rw'⟩ := r.get h2
  have hl := r.length
  have hn := line63
  have fin : EP X pins σ Q w s := ⟨z, H, I, rw', q⟩
  by_cases h0 : 0 ≤ i
  · have hj : i.toNat = j := by
      rw [seqIndex_of h0 h5] at h1
      exact Option.some.inj h1
    exact item_listR pl.isList h0 (by omega) (by rw [hj]; simpa using ew) fin hs
  · have hj : (i + (its.toArray.size : Int)).toNat = j := by
      rw [seqIndex_neg (by omega) h4] at h1
      rw [List.size_toArray, ← hl]
      exact Option.some.inj h1
    exact subscriptTail_builtinR (x := w) pl.isList.typeIs slot_list_getitem.lookup
      (wpAny_getItem_list_neg (Q := fun r s' => r = w ∧ EP X pins σ Q r s') pl.isList (by omega) (by rw [List.size_toArray] <;> omega) (by omega) (by rw [hj]; simpa using ew) ⟨rfl, fin⟩) hs
theorem ix_tup : IxR X (rIxT X.K) := by
  intro value slice pins s σ H x y v u Q I rx ry h hs
  obtain ⟨p, xs, i, z, rfl, rfl, hq, he, q⟩ := h
  cases rx
  obtain ⟨t, rfl⟩ := ry
  obtain ⟨its, r, pl, hz⟩ := I.tuple hq
  obtain ⟨j, h1, h2, h3, h4, h5⟩ := atI_get he
  obtain ⟨w, ew, rw'⟩ := r.get h2
  have hl := r.length
  have hn := line63
  have fin : EP X pins σ Q w s := ⟨z, H, I, rw', q⟩
  exact subscriptTail_builtinR (x := w) pl.typeIs slot_tuple_getitem.lookup
    (getItem_tuple (j := j) (Q := fun r s' => r = w ∧ EP X pins σ Q r s') pl (by omega) (by omega) (by rw [List.size_toArray, ← hl]; exact h1) (by simpa using ew) ⟨rfl, fin⟩) hs
/-! ### xs[i] = v, any sign -/
theorem Inv.lst {pins : List (Addr × Obj)} {σ : St} {H : Hp} {s : Shared} {p : Addr} {xs : List V} (I : Inv X pins σ H s) (h : H p = some (.lst xs)) :
    ∃ (its : List Value) (n : Nat), Vals xs its ∧ s.heap.get? p = some { cls := .type "list", data := .seq its.toArray n } ∧ xs.length ≤ sizeLine := by
  obtain ⟨z, its, n, r, e⟩ := I.hok p _ h
  exact ⟨its, n, r, e, z⟩
/-! ### slices -/
theorem slice_bounds (lo hi : Option Int) (n : Nat) : (sliceBounds lo hi none n).1 = ((HT.sIx n 0 lo : Nat) : Int) ∧ (sliceBounds lo hi none n).2.1 = ((HT.sIx n n hi : Nat) : Int) ∧ (sliceBounds lo hi none n).2.2 = 1 := by
  refine ⟨?_, ?_, rfl⟩
  · cases lo with
    | none => simp [sliceBounds, HT.sIx]
    | some i =>
      simp only [sliceBounds, HT.sIx, Option.getD_none, show (1 : Int) > 0 by decide, if_true]
      by_cases h : i < 0
      · simp only [h, if_true] <;> omega
      · simp only [h, if_false] <;> omega
  · cases hi with
    | none => simp [sliceBounds, HT.sIx]
    | some i =>
      simp only [sliceBounds, HT.sIx, Option.getD_none, show (1 : Int) > 0 by decide, if_true]
      by_cases h : i < 0
      · simp only [h, if_true] <;> omega
      · simp only [h, if_false] <;> omega
theorem slicePick_cut (its : List Value) (lo hi : Option Int) : slicePick its.toArray lo hi none = ((its.drop (HT.sIx its.length 0 lo)).take (HT.sIx its.length its.length hi - HT.sIx its.length 0 lo)).toArray := by
  obtain ⟨h1, h2, h3⟩ := slice_bounds lo hi its.toArray.size
  unfold slicePick
  rw [h1, h2, h3]
  simp only [sliceRange_one, pick_run, List.size_toArray] <;> rfl
/-- xs[lo:hi] of a list: a new list -/
def rSlL (K : PySem.W.Frag) : V → Option Int → Option Int → Hp → VK → Prop := fun x lo hi H Q => ∃ a xs, x = .ref a ∧ SqL K H a xs ∧ ∀ p, H p = none → Q (.ref p) (upd H p (.lst (cutV xs lo hi)))
theorem sl_list : SlR X (rSlL X.K) := by
  intro pins s σ H x v vl vu lo hi sl Q I rx hs pl pu h
  obtain ⟨a, xs, rfl, hx, q⟩ := h
  cases rx
  obtain ⟨its, r, ht, hz⟩ := I.list hx
  have hlen := r.length
  refine ⟨"list", _, slot_list_getitem.lookup, ht.isList.typeIs, ?_⟩
  refine wpAny_getItem_list_slice ht.isList hs pl pu .none (by simp) ?_ (by rw [List.size_toArray] <;> omega)
  rw [slicePick_cut, ← hlen]
  refine ⟨.ref s.heap.objs.size, _, I.laid (t' := s.toks) (o := .lst (cutV xs lo hi)) (fun b ob q => Heap.get?_push_of_some _ q) (Nat.le_refl _) ?_, rfl, q _ (I.hok.fresh (Nat.le_refl _))⟩
  exact ⟨Nat.le_trans (cutV_length xs lo hi) hz, _, 0, (r.drop (HT.sIx xs.length 0 lo)).take (HT.sIx xs.length xs.length hi - HT.sIx xs.length 0 lo), Heap.get?_push_size _ rfl⟩

/-! ### in, not in: flat items -/
def flatV : V → Bool
  | .non => true
  | .bl _ => true
  | .int _ => true
  | .str _ => true
  | _ => false
/-- == of flat values -/
def eqV : V → V → Bool
  | .non, .non => true
  | .bl a, .bl b => a == b
  | .bl a, .int b => (if a then 1 else 0) == b
  | .int a, .bl b => a == (if b then 1 else 0)
  | .int a, .int b => a == b
  | .str a, .str b => a == b
  | _, _ => false
theorem eqAt_V {A : Around} {s : Shared} {y x : V} {u v : Value} (ry : RelV y u) (rx : RelV x v) (fy : flatV y = true) (fx : flatV x = true) : SeqAt.EqAt A s u v (eqV y x) := by
  cases y with
  | non =>
    cases ry
    cases x with
    | non => cases rx; exact SeqAt.EqAt.same _
    | bl b => cases rx; exact SeqAt.EqAt.none_bool b
    | int b => obtain ⟨t, rfl⟩ := rx; exact SeqAt.EqAt.none_int b t
    | str b => obtain ⟨t, rfl⟩ := rx; exact SeqAt.EqAt.none_str b t
    | _ => exact absurd (show false = true from fx) Bool.false_ne_true
  | bl a =>
    cases ry
    cases x with
    | non => cases rx; exact SeqAt.EqAt.bool_none a
    | bl b => cases rx; exact SeqAt.EqAt.bool_bool a b
    | int b => obtain ⟨t, rfl⟩ := rx; exact SeqAt.EqAt.bool_int a b t
    | str b => obtain ⟨t, rfl⟩ := rx; exact SeqAt.EqAt.bool_str a b t
    | _ => exact absurd (show false = true from fx) Bool.false_ne_true
  | int a =>
    obtain ⟨t', rfl⟩ := ry
    cases x with
    | non => cases rx; exact SeqAt.EqAt.int_none a t'
    | bl b => cases rx; exact SeqAt.EqAt.int_bool a t' b
    | int b => obtain ⟨t, rfl⟩ := rx; exact SeqAt.EqAt.int_int a t' b t
    | str b => obtain ⟨t, rfl⟩ := rx; exact SeqAt.EqAt.int_str a t' b t
    | _ => exact absurd (show false = true from fx) Bool.false_ne_true
  | str a =>
    obtain ⟨t', rfl⟩ := ry
    cases x with
    | non => cases rx; exact SeqAt.EqAt.str_none a t'
    | bl b => cases rx; exact SeqAt.EqAt.str_bool a t' b
    | int b => obtain ⟨t, rfl⟩ := rx; exact SeqAt.EqAt.str_int a t' b t
    | str b => obtain ⟨t, rfl⟩ := rx; exact SeqAt.EqAt.str_str a t' b t
    | _ => exact absurd (show false = true from fx) Bool.false_ne_true
  | _ => exact absurd (show false = true from fy) Bool.false_ne_true
/-- the items' answers, read off the values (a value's own answer does not lean on its token) -/
def eqU (x : V) (u : Value) : Bool := match u with
  | .none => eqV .non x
  | .bool b => eqV (.bl b) x
  | .int i _ => eqV (.int i) x
  | .str z _ => eqV (.str z) x
  | _ => false
theorem eqU_of {x y : V} {u : Value} (r : RelV y u) (f : flatV y = true) : eqU x u = eqV y x := by
  cases y with
  | non => cases r; rfl
  | bl b => cases r; rfl
  | int i => obtain ⟨t, rfl⟩ := r; rfl
  | str z => obtain ⟨t, rfl⟩ := r; rfl
  | _ => exact absurd (show false = true from f) Bool.false_ne_true
theorem any_eqU {x : V} : ∀ {xs : List V} {us : List Value}, Vals xs us → xs.all flatV = true → us.any (eqU x) = xs.any fun y => eqV y x
  | _, _, .nil, _ => rfl
  | y :: xs, u :: us, .cons r t, f => by
    rw [List.all_cons, Bool.and_eq_true] at f
    rw [List.any_cons, List.any_cons, eqU_of r f.1, any_eqU t f.2]
theorem mem_eqAt {A : Around} {s : Shared} {x : V} {v : Value} (rx : RelV x v) (fx : flatV x = true) : ∀ {xs : List V} {us : List Value}, Vals xs us → xs.all flatV = true → ∀ u ∈ us, SeqAt.EqAt A s u v (eqU x u)
  | _, _, .nil, _ => fun u hu => by cases hu
  | y :: xs, u :: us, .cons r t, f => fun u' hu => by
    rw [List.all_cons, Bool.and_eq_true] at f
    rcases List.mem_cons.mp hu with rfl | hu
    · rw [eqU_of r f.1]; exact eqAt_V r rx f.1 fx
    · exact mem_eqAt rx fx t f.2 u' hu
def inV (x : V) (xs : List V) : Bool := xs.any fun y => eqV y x
/-- x in a list or tuple of flat items -/
def rIn (K : PySem.W.Frag) (neg : Bool) : R2 := fun x y H Q => ∃ p xs, y = .ref p ∧ (SqL K H p xs ∨ SqT K H p xs) ∧ flatV x = true ∧ xs.all flatV = true ∧ Q (.bl (if neg then !inV x xs else inV x xs)) H
theorem op_in_seq : OpR X (compareOp .In) (rIn X.K false) := by
  intro pins s σ H x y v u Q I rx ry h
  obtain ⟨p, xs, rfl, hq, fx, fs, q⟩ := h
  cases ry
  rcases hq with hq | hq
  · obtain ⟨its, r, pl, hz⟩ := I.list hq
    refine SeqAt.in_listAt (eqU x) pl.isList (fun w hw => mem_eqAt rx fx r fs w (by simpa using hw)) ⟨.bl _, H, I, rfl, ?_⟩
    rw [show its.toArray.any (eqU x) = its.any (eqU x) by simp, any_eqU r fs]
    exact q
  · obtain ⟨its, r, pl, hz⟩ := I.tuple hq
    refine SeqAt.in_tupleAt (eqU x) pl (fun w hw => mem_eqAt rx fx r fs w (by simpa using hw)) ⟨.bl _, H, I, rfl, ?_⟩
    rw [show its.toArray.any (eqU x) = its.any (eqU x) by simp, any_eqU r fs]
    exact q
/-! ### len, list(x), tuple(x) of any list or tuple that is read -/
theorem call_len_seq : CallR X (.builtin "len") (fun xs H Q => ∃ p ys, xs = [.ref p] ∧ (SqL X.K H p ys ∨ SqT X.K H p ys) ∧ Q (.int ys.length) H) := by
  intro pins s σ H xs us Q I r h
  obtain ⟨p, ys, rfl, hq, q⟩ := h
  obtain ⟨u, rfl, rx⟩ := vals1 r
  cases rx
  have hn := line63
  rcases hq with hq | hq
  · obtain ⟨its, r', pl, hz⟩ := I.list hq
    have hlen := r'.length
    exact Calls.call_len_list pl.isList (by simp only [List.size_toArray] <;> omega) ⟨.int ys.length, H, I.tok _, ⟨s.toks + 1, by rw [List.size_toArray, hlen]⟩, q⟩
  · obtain ⟨its, r', pl, hz⟩ := I.tuple hq
    have hlen := r'.length
    exact len_tuple pl (by simp only [List.size_toArray] <;> omega) ⟨.int ys.length, H, I.tok _, ⟨s.toks + 1, by rw [List.size_toArray, hlen]⟩, q⟩
theorem CallR.or {f : Value} {r r' : List V → Hp → VK → Prop} (h : CallR X f r) (h' : CallR X f r') : CallR X f (fun xs H Q => r xs H Q ∨ r' xs H Q) := by
  intro pins s σ H xs us Q I rs q
  rcases q with q | q
  · exact h pins s σ H xs us Q I rs q
  · exact h' pins s σ H xs us Q I rs q
theorem call_list_of : CallR X (.type "list") (fun xs H Q => ∃ p ys, xs = [.ref p] ∧ (SqL X.K H p ys ∨ SqT X.K H p ys) ∧ ∀ l, H l = none → Q (.ref l) (upd H l (.lst ys))) := by
  intro pins s σ H xs us Q I r h
  obtain ⟨p, ys, rfl, hq, q⟩ := h
  obtain ⟨u, rfl, rx⟩ := vals1 r
  cases rx
  have fin : ∀ (its : List Value), Vals ys its → ys.length ≤ sizeLine → ∀ (h' : Heap) (c' : Nat), (∀ b o', s.heap.get? b = some o' → h'.get? b = some o') →
      h'.get? s.heap.objs.size = some { cls := .type "list", dict := none, data := .seq its.toArray c', slots := #[] } → EP X pins σ Q (.ref s.heap.objs.size) { s with heap := h' } := fun its r' hz h' c' kp e =>
    ⟨.ref s.heap.objs.size, _, I.laid (t' := s.toks) kp (Nat.le_refl _) (show ObjOk X.prog X.w _ h' _ (.lst ys) from ⟨hz, its, c', r', e⟩), rfl, q _ (I.hok.fresh (Nat.le_refl _))⟩
  rcases hq with hq | hq
  · obtain ⟨its, r', pl, hz⟩ := I.list hq
    have hlen := r'.length
    obtain ⟨o, ho, hc, n, hd⟩ := pl.isList
    exact call_list_seq p (.inl rfl) ho hc hd (fun h' c' kp e => fin its r' hz h' c' kp e) (by simp only [List.size_toArray] <;> omega)
  · obtain ⟨its, r', pl, hz⟩ := I.tuple hq
    have hlen := r'.length
    obtain ⟨o, ho, hc, n, hd⟩ := pl
    exact call_list_seq p (.inr rfl) ho hc hd (fun h' c' kp e => fin its r' hz h' c' kp e) (by simp only [List.size_toArray] <;> omega)
/-! ### the call of a builtin's method: o.m(..) -/
/-- the value is of that builtin type -/
def tyV (K : PySem.W.Frag) (T : String) (x : V) (H : Hp) : Prop := match x with
  | .str _ => T = "str"
  | .int _ => T = "int"
  | .ref p => (T = "list" ∧ ∃ xs, SqL K H p xs) ∨ (T = "tuple" ∧ ∃ o, K.lookup p = some o ∧ o.cls = .type "tuple" ∧ o.dict = none) ∨
      (T = "dict" ∧ ((∃ kvs, H p = some (.dK kvs)) ∨ ∃ kvs, H p = some (.dT kvs))) ∨ (T = "set" ∧ ∃ S n, H p = some (.set S n))
  | _ => False
theorem tyV_is {pins : List (Addr × Obj)} {σ : St} {H : Hp} {s : Shared} {T : String} {x : V} {v : Value} (I : Inv X pins σ H s) (r : RelV x v) (ty : tyV X.K T x H) :
    s.TypeIs v T ∧ ∀ a, v = .ref a → ∃ ob, s.heap.get? a = some ob ∧ ob.dict = none := by
  cases x with
  | str z =>
    obtain ⟨t, rfl⟩ := r
    cases (show T = "str" from ty)
    exact ⟨typeIs_str s z t, fun _ e => nomatch e⟩
  | int i =>
    obtain ⟨t, rfl⟩ := r
    cases (show T = "int" from ty)
    exact ⟨typeIs_int s i t, fun _ e => nomatch e⟩
  | ref p =>
    cases r
    rcases ty with ⟨rfl, xs, hq⟩ | ⟨rfl, o, hk, hc, hd⟩ | ⟨rfl, hk⟩ | ⟨rfl, S, n, hk⟩
    · obtain ⟨its, _, pl, _⟩ := I.list hq
      refine ⟨pl.isList.typeIs, fun a e => ?_⟩
      cases e
      obtain ⟨o, n, e, c, hd, _⟩ := pl
      exact ⟨o, e, hd⟩
    · refine ⟨⟨o, I.kIn p o hk, hc⟩, fun a e => ?_⟩
      cases e
      exact ⟨o, I.kIn _ o hk, hd⟩
    · have z : ∃ o, s.heap.get? p = some o ∧ o.ExactDict := by
        rcases hk with ⟨kvs, hk⟩ | ⟨kvs, hk⟩
        · obtain ⟨_, _, _, _, o, _, _, e, ex, _⟩ := I.hok p _ hk
          exact ⟨o, e, ex⟩
        · obtain ⟨_, _, _, _, o, _, _, e, ex, _⟩ := I.hok p _ hk
          exact ⟨o, e, ex⟩
      obtain ⟨o, e, ex⟩ := z
      refine ⟨⟨o, e, ex.1⟩, fun a e2 => ?_⟩
      cases e2
      exact ⟨o, e, ex.2.1⟩
    · obtain ⟨o, _, _, _, e, ex, _⟩ := I.hok p _ hk
      refine ⟨⟨o, e, ex.1⟩, fun a e2 => ?_⟩
      cases e2
      exact ⟨o, e, ex.2.1⟩
  | _ => exact False.elim ty
def tBM (K : PySem.W.Frag) (T : String) (r : V → List V → Hp → VK → Prop) (to : TE) (t : TA) : TE := fun σ H Q => to σ H fun x H1 => tyV K T x H1 ∧ t σ H1 fun xs H2 => r x xs H2 Q
variable {o e : Expr} {es : List Expr} {to : TE} {t : TA} {name : Str} {apos cpos : Pos} {T id : String} {r : V → List V → Hp → VK → Prop}
theorem pe_bm (pa : PlainAttrs T) (slot : Slot T name id) (hty : typeOf (.builtin id) = pure (.type "method_descriptor")) (hm : MtR X id r) (ho : PE X o to) (ha : PA X (e :: es) t)
    (hbase : attributeBase o name X.env (eval o X.env) = eval o X.env := by rfl)
    (hfew : ((backTo cpos (starEach (e :: es) X.env)).all (fun x => !x.1) && (backToKw cpos (keywordEach [] X.env)).all (fun x => x.1.isSome)
      && decide ((e :: es).length + ([] : List Keyword).length + (if ([] : List Keyword).isEmpty then 0 else 1) < 30)) = true := by rfl)
    (hline : (apos.endLine == cpos.line) = true := by rfl) (hs : starEach (e :: es) X.env = (false, eval e X.env) :: starEach es X.env := by rfl) (hplain : (backTo cpos (starEach es X.env)).any (·.1) = false := by rfl) :
    PE X (.Call (.Attribute o name apos) (e :: es) [] cpos) (tBM X.K T r to t) := by
  intro pins s σ H Q I h
  refine wpAny_Call_method_late hbase hfew hline rfl (thn (ho pins s σ H _ I h) fun v s1 ⟨x, H1, I1, r1, ty, q1⟩ => ?_)
  obtain ⟨h1, h2⟩ := tyV_is I1 r1 ty
  refine ⟨T, id, pa, slot, hty, h1, h2, ?_⟩
  have hA := ha cpos pins s1 σ H1 _ I1 q1
  rw [hs] at hA ⊢
  refine Calls.callWith_builtin (by show (false || (backTo cpos (starEach es X.env)).any (·.1)) = false; rw [hplain] <;> rfl) (Calls.evalArgs_plain ?_)
  exact thn hA fun us s2 ⟨vs, H2, I2, r2, q2⟩ => hm pins s2 σ H2 x vs v us Q I2 r1 r2 q2
/- xs.append(e), list.index on a module's tuple .. are MtR facts of 06m -/
end
end L2

namespace L2
open PySem PySem.Spec PyProof.Rows

def MtM (X : Cx) (id : String) (r : V → List V → Hp → VK → Prop) : Prop :=
  ∀ (pins : List (Addr × Obj)) (s : Shared) (σ : St) (H : Hp) (x : V) (xs : List V) (v : Value) (us : List Value) (Q : VK), Inv X pins σ H s → RelV x v → Vals xs us → r x xs H Q →
    wpAny (model X.prog X.w) X.A (call (.builtin id) (v :: us)) (EP X pins σ Q) X.xe s

/-! ### lists of values -/
theorem Vals.one : ∀ {x : V} {us : List Value}, Vals [x] us → ∃ u, us = [u] ∧ RelV x u
  | _, _, .cons r .nil => ⟨_, rfl, r⟩
theorem Vals.two : ∀ {x y : V} {us : List Value}, Vals [x, y] us → ∃ u v, us = [u, v] ∧ RelV x u ∧ RelV y v
  | _, _, _, .cons r (.cons q .nil) => ⟨_, _, rfl, r, q⟩
theorem Vals.zero : ∀ {us : List Value}, Vals [] us → us = []
  | _, .nil => rfl
theorem Vals.rep {xs : List V} {us : List Value} (h : Vals xs us) : ∀ k : Nat, Vals (List.replicate k xs).flatten (List.replicate k us).flatten
  | 0 => .nil
  | k + 1 => by
    rw [List.replicate_succ, List.replicate_succ, List.flatten_cons, List.flatten_cons]
    exact Vals.append h (Vals.rep h k)
theorem foldl_rep (its : List Value) : ∀ (k : Nat) (acc : List Value),
    List.foldl (fun x1 x2 => x1 ++ x2) acc.toArray (List.replicate k its.toArray) = (acc ++ (List.replicate k its).flatten).toArray
  | 0, acc => by simp
  | k + 1, acc => by
    have e : acc.toArray ++ its.toArray = (acc ++ its).toArray := by simp
    have e2 : (acc ++ its) ++ (List.replicate k its).flatten = acc ++ (List.replicate (k + 1) its).flatten := by
      rw [List.replicate_succ, List.flatten_cons, List.append_assoc]
    rw [← e2, ← foldl_rep its k (acc ++ its), ← e, List.replicate_succ, List.foldl_cons]

section
variable {X : Cx} {pins : List (Addr × Obj)} {σ : St} {H : Hp} {s : Shared} {l b : Addr} {xs ys zs : List V}

/-! ### the two steps: a tracked list is rewritten, a new list is laid -/
theorem Inv.lset {its its' : List Value} {n : Nat} {f : Array Value → Array Value} {t' : Nat} (I : Inv X pins σ H s) (hH : H l = some (.lst xs))
    (e : s.heap.get? l = some { cls := .type "list", data := .seq its.toArray n }) (hf : f its.toArray = its'.toArray) (hv : Vals ys its') (hz : ys.length ≤ sizeLine) :
    Inv X pins σ (upd H l (.lst ys)) { s with heap := s.heap.update l (Obj.mapSeq f), toks := t' } := by
  have q := PySem.IsL.update e f
  rw [hf] at q
  refine I.write (x := l) (e := l) (by rw [hH]; exact trivial) (.inl rfl) (fun b' u hb hu => (Heap.get?_update_other s.heap (Obj.mapSeq f) (Ne.symm hb)).trans hu) ⟨_, q⟩ ?_
  exact ⟨hz, its', _, hv, q⟩
theorem Inv.lnew {its : List Value} {t' : Nat} (I : Inv X pins σ H s) (hv : Vals ys its) (hz : ys.length ≤ sizeLine) :
    Inv X pins σ (upd H s.heap.objs.size (.lst ys)) { s with heap := s.heap.push { cls := .type "list", data := .seq its.toArray }, toks := t' } :=
  I.laid (fun _ _ q => Heap.get?_push_of_some _ q) (Nat.le_refl _) ⟨hz, its, 0, hv, Heap.get?_push_size _ rfl⟩
theorem Inv.fresh (I : Inv X pins σ H s) : H s.heap.objs.size = none := I.hok.fresh (Nat.le_refl _)
theorem Inv.lstM (I : Inv X pins σ H s) (hH : H l = some (.lst xs)) : xs.length ≤ sizeLine ∧ ∃ (its : List Value) (n : Nat), Vals xs its ∧ xs.length = its.length ∧ s.heap.get? l = some { cls := .type "list", data := .seq its.toArray n } := by
  obtain ⟨z, its, n, r, e⟩ := I.hok l _ hH
  exact ⟨z, its, n, r, r.length, e⟩

theorem notLongL {n : Nat} (h : n ≤ sizeLine) : Builtin.List.listTooLong n = false := by
  unfold Builtin.List.listTooLong
  exact decide_eq_false (by omega)
end

section
variable {X : Cx}

/-! ### methods -/
def rAppend : V → List V → Hp → VK → Prop := fun x vs H Q => ∃ l xs y, x = .ref l ∧ vs = [y] ∧ H l = some (.lst xs) ∧ xs.length < sizeLine ∧ Q .non (upd H l (.lst (xs ++ [y])))
theorem mt_append : MtM X "list.append" rAppend := by
  intro pins s σ H x vs v us Q I rx rv h
  obtain ⟨l, xs, y, rfl, rfl, hH, hz, q⟩ := h
  cases rx
  obtain ⟨u, rfl, ru⟩ := rv.one
  obtain ⟨z, its, n, r, hl, e⟩ := I.lstM hH
  refine call_meets F.slot_list_append ⟨_, e, rfl⟩ F.entry_list_append (F.args_list_append_2 _ _) (PySem.list_append l its.toArray n u (by rw [List.size_toArray]; omega)) ⟨e, ?_⟩
  refine ⟨.non, _, I.lset (its' := its ++ [u]) hH e (by simp) (r.append (.cons ru .nil)) ?_, rfl, q⟩
  rw [List.length_append, List.length_singleton]
  omega

def rExtend : V → List V → Hp → VK → Prop := fun x vs H Q => ∃ l b xs zs, x = .ref l ∧ vs = [.ref b] ∧ H l = some (.lst xs) ∧ H b = some (.lst zs) ∧ xs.length + zs.length ≤ sizeLine ∧ Q .non (upd H l (.lst (xs ++ zs)))
theorem mt_extend : MtM X "list.extend" rExtend := by
  intro pins s σ H x vs v us Q I rx rv h
  obtain ⟨l, b, xs, zs, rfl, rfl, hH, hB, hz, q⟩ := h
  cases rx
  obtain ⟨u, rfl, ru⟩ := rv.one
  cases ru
  obtain ⟨z, its, n, r, hl, e⟩ := I.lstM hH
  obtain ⟨z2, its2, n2, r2, hl2, e2⟩ := I.lstM hB
  have hsz : its.toArray.size + its2.toArray.size ≤ sizeLine := by rw [List.size_toArray, List.size_toArray]; omega
  have hlong : ¬ (!its.toArray.isEmpty && Builtin.List.listTooLong (its.toArray.size + its2.toArray.size)) = true := by
    rw [notLongL hsz, Bool.and_false]
    exact Bool.false_ne_true
  refine call_meets F.slot_list_extend ⟨_, e, rfl⟩ F.entry_list_extend (F.args_list_extend_2 _ _)
    (AutoSeq1.list_extend_list_list_0 l its.toArray n b its2.toArray n2 hlong (by rw [List.size_toArray]; omega) (by omega)) ⟨e, e2, ?_⟩
  refine ⟨.non, _, I.lset (its' := its ++ its2) hH e (by simp) (r.append r2) ?_, rfl, q⟩
  rw [List.length_append]
  omega

/-! ### list + list, list += list, list * int -/
def rCat : R2 := fun x y H Q => ∃ l b xs zs, x = .ref l ∧ y = .ref b ∧ H l = some (.lst xs) ∧ H b = some (.lst zs) ∧ xs.length + zs.length ≤ sizeLine ∧ ∀ p, H p = none → Q (.ref p) (upd H p (.lst (xs ++ zs)))
theorem op_cat : OpR X (binaryOp .Add) rCat := by
  intro pins s σ H x y v u Q I rx ry h
  obtain ⟨l, b, xs, zs, rfl, rfl, hH, hB, hz, q⟩ := h
  cases rx
  cases ry
  obtain ⟨z, its, n, r, hl, e⟩ := I.lstM hH
  obtain ⟨z2, its2, n2, r2, hl2, e2⟩ := I.lstM hB
  refine PySem.P.add_list e e2 ?_ (by rw [List.size_toArray, List.size_toArray]; omega)
  have ea : its.toArray ++ its2.toArray = (its ++ its2).toArray := by simp
  rw [ea]
  exact ⟨.ref _, _, I.lnew (t' := s.toks) (r.append r2) (by rw [List.length_append]; omega), rfl, q _ I.fresh⟩
/-- a list times an int (a negative one is nothing) -/
def rRep : R2 := fun x y H Q => ∃ l k xs, x = .ref l ∧ y = .int k ∧ H l = some (.lst xs) ∧ -(2 ^ 63) ≤ k ∧ k < 2 ^ 63 ∧ xs.length * k.toNat ≤ sizeLine ∧
  ∀ p, H p = none → Q (.ref p) (upd H p (.lst (List.replicate k.toNat xs).flatten))
theorem len_rep {α : Type} (xs : List α) (k : Nat) : (List.replicate k xs).flatten.length = k * xs.length := by
  induction k with
  | zero => simp
  | succ k ih => rw [List.replicate_succ, List.flatten_cons, List.length_append, ih, Nat.succ_mul, Nat.add_comm]
theorem op_rep : OpR X (binaryOp .Mult) rRep := by
  intro pins s σ H x y v u Q I rx ry h
  obtain ⟨l, k, xs, rfl, rfl, hH, h1, h2, hz, q⟩ := h
  cases rx
  obtain ⟨t, rfl⟩ := ry
  obtain ⟨z, its, n, r, hl, e⟩ := I.lstM hH
  have hlen : its.toArray.size * k.toNat ≤ sizeLine := by rw [List.size_toArray, ← hl]; exact hz
  have hcap : ¬ its.toArray.size * k.toNat > (2 ^ 63 - 1) / 8 := by
    have : (sizeLine : Nat) ≤ (2 ^ 63 - 1) / 8 := by decide
    omega
  have hfit : ¬ (!Builtin.List.listFitsIndex k) = true := by
    rw [fitsIndex_both h1 h2]
    exact Bool.false_ne_true
  have hlong : ¬ Builtin.List.listTooLong (its.toArray.size * k.toNat) = true := by
    rw [notLongL hlen]
    exact Bool.false_ne_true
  have hnew : List.foldl (fun x1 x2 => x1 ++ x2) #[] (List.replicate (if its.toArray.isEmpty = true then 0 else k.toNat) its.toArray) = (List.replicate k.toNat its).flatten.toArray := by
    have f0 : ∀ m : Nat, List.foldl (fun x1 x2 => x1 ++ x2) #[] (List.replicate m its.toArray) = (List.replicate m its).flatten.toArray := fun m => by
      have := foldl_rep its m []
      rw [List.nil_append] at this
      exact this
    rw [f0]
    cases its with
    | nil => simp
    | cons a r' => rw [if_neg (by simp)]
  refine wpAny_binaryOp_repeat_ref (T := "list") (U := "int") (by decide) ⟨_, e, rfl⟩ (fun s' => typeIs_int s' k t) noFill_list_mul F.fills_int_mul F.slot_int_rmul repeat_list F.slot_int_index.lookup
    (call_meets F.slot_int_rmul (typeIs_int s k t) F.entry_int_rmul (F.args_int_rmul_2 _ _) (int___rmul___int_list k t l its.toArray n)
      ⟨e, rfl, ⟨_, e, rfl⟩, call_meets F.slot_list_mul ⟨_, e, rfl⟩ F.entry_list_mul (F.args_list_mul_2 _ _) (AutoListH.list___mul___list_int_3 l its.toArray n k t hfit hcap hlong) ⟨e, ?_⟩⟩)
  rw [hnew]
  exact ⟨.ref _, _, I.lnew (t' := s.toks) (r.rep k.toNat) (by rw [len_rep, Nat.mul_comm]; exact hz), rfl, q _ I.fresh⟩

/-! ### del xs[i] -/
end

/-! ### xs[a:b] = ys -/
section
variable {prog : Program} {w : World} {A : Around} {E : Value → Shared → Prop} {s : Shared}
end

section
variable {X : Cx}
end
end L2

namespace L2
open PySem PySem.Spec PyProof.Rows

theorem Vals.ints : ∀ {ns : List Int} {us : List Value}, Vals (ns.map V.int) us → IntsAre us ns
  | [], us, h => by
    rw [List.map_nil] at h
    cases h
    exact IntsAre.nil
  | n :: ns, us, h => by
    rw [List.map_cons] at h
    cases h with
    | cons r t =>
      obtain ⟨k, rfl⟩ := r
      exact IntsAre.cons n k (Vals.ints t)
theorem Vals.strs : ∀ {xs : List Str} {us : List Value}, Vals (xs.map V.str) us → StrsAre us xs
  | [], us, h => by
    rw [List.map_nil] at h
    cases h
    exact StrsAre.nil
  | x :: xs, us, h => by
    rw [List.map_cons] at h
    cases h with
    | cons r t =>
      obtain ⟨k, rfl⟩ := r
      exact StrsAre.cons x k (Vals.strs t)
/-! ### the library's walks over a list of ints, kept objects alone -/
section
variable {prog : Program} {w : World} {A : Around} {E : Value → Shared → Prop} {s : Shared} {l : Addr} {its : List Value} {ns : List Int} {Q : Value → Shared → Prop}
end

/-! ### the calls, by values (CallR of 03t; MtR of 06l) -/
section
variable {X : Cx}
/-! sorted, sort (fewer than 64 items: the library's own bound) -/
end

/-! ### list.index, flat items -/
section
variable {X : Cx}
end

/-! ### type(x) of an own instance; is, is not of a module's class -/
section
variable {X : Cx}
end

/-! ### any(xs), all(xs) of a list of bools -/
section
variable {X : Cx}
end

/-! ### == and != of data at any depth: none, bools, ints, texts, lists, tuples -/
mutual
inductive Dp (K : PySem.W.Frag) (H : Hp) : V → PyData → Prop
  | non : Dp K H .non .none
  | bl (b : Bool) : Dp K H (.bl b) (.bool b)
  | int (i : Int) : Dp K H (.int i) (.int i)
  | str (x : Str) : Dp K H (.str x) (.str x)
  | lst {a : Addr} {xs : List V} {ds : List PyData} : SqL K H a xs → DpAll K H xs ds → Dp K H (.ref a) (.list ds)
  | tup {a : Addr} {xs : List V} {ds : List PyData} : SqT K H a xs → DpAll K H xs ds → Dp K H (.ref a) (.tuple ds)
inductive DpAll (K : PySem.W.Frag) (H : Hp) : List V → List PyData → Prop
  | nil : DpAll K H [] []
  | cons {v : V} {vs : List V} {d : PyData} {ds : List PyData} : Dp K H v d → DpAll K H vs ds → DpAll K H (v :: vs) (d :: ds)
end
section
variable {X : Cx} {pins : List (Addr × Obj)} {σ : St} {H : Hp} {s : Shared}
mutual
theorem Dp.reads (I : Inv X pins σ H s) : ∀ (d : PyData) (v : V) (u : Value), Dp X.K H v d → RelV v u → ∃ as, Reads s.heap u d as
  | .none, _, _, h, r => by
    cases h
    cases r
    exact ⟨_, Reads.none⟩
  | .bool b, _, _, h, r => by
    cases h
    cases r
    exact ⟨_, Reads.bool b⟩
  | .int i, _, _, h, r => by
    cases h
    obtain ⟨t, rfl⟩ := r
    exact ⟨_, Reads.int i t⟩
  | .str x, _, _, h, r => by
    cases h
    obtain ⟨t, rfl⟩ := r
    exact ⟨_, Reads.str x t⟩
  | .list ds, _, _, h, r => by
    cases h with
    | lst hs ha =>
      cases r
      obtain ⟨its, rv, ⟨o, n, ho, hc, _, hd⟩, _⟩ := I.list hs
      obtain ⟨as, hr⟩ := Dp.readsAll I ds _ its ha rv
      exact ⟨_, Reads.list ho hc hd hr⟩
  | .tuple ds, _, _, h, r => by
    cases h with
    | tup hs ha =>
      cases r
      obtain ⟨its, rv, ⟨o, ho, hc, n, hd⟩, _⟩ := I.tuple hs
      obtain ⟨as, hr⟩ := Dp.readsAll I ds _ its ha rv
      exact ⟨_, Reads.tuple ho hc hd hr⟩
  | .dict _, _, _, h, _ => by cases h
theorem Dp.readsAll (I : Inv X pins σ H s) : ∀ (ds : List PyData) (vs : List V) (us : List Value), DpAll X.K H vs ds → Vals vs us → ∃ as, ReadsAll s.heap us ds as
  | [], _, _, h, r => by
    cases h
    cases r
    exact ⟨_, ReadsAll.nil⟩
  | d :: ds, _, _, h, r => by
    cases h with
    | cons h1 h2 =>
      cases r with
      | cons r1 r2 =>
        obtain ⟨as, q1⟩ := Dp.reads I d _ _ h1 r1
        obtain ⟨bs, q2⟩ := Dp.readsAll I ds _ _ h2 r2
        exact ⟨_, ReadsAll.cons q1 q2⟩
end
end
section
variable {X : Cx}
def rNeD (K : PySem.W.Frag) : R2 := fun x y H Q => ∃ d e, Dp K H x d ∧ Dp K H y e ∧ SeqAt.shaped d = true ∧ SeqAt.shaped e = true ∧ Q (.bl (!PyData.eqv d e)) H
theorem op_neD (hu : X.A.units + 64 < cLine) : OpR X (compareOp .NotEq) (rNeD X.K) := by
  intro pins s σ H x y v u Q I rx ry h
  obtain ⟨d, e, hd, he, sd, se, q⟩ := h
  obtain ⟨as, r1⟩ := Dp.reads I d x v hd rx
  obtain ⟨bs, r2⟩ := Dp.reads I e y u he ry
  exact SeqAt.compareNe_shaped r1 r2 sd se hu ⟨.bl _, H, I, rfl, q⟩
end
end L2

namespace L2
open PySem PySem.Spec PyProof.Rows
abbrev CellAt (h : Heap) (c : Addr) (v : Option Value) : Prop := h.IsCell c v
def relS (scope sc : Scope) : Scope :=
  { scope with names := scope.names.map fun (n, k) => if (k == .free && sc.kind == .function && sc.names.lookup n == some .cell) then (n, .cell) else (n, k) }

def cloFrom (cells : List (Str × Addr)) : List (Str × NameKind) → List (Str × Addr) → List (Str × Addr)
  | [], acc => acc
  | (n, k) :: r, acc => if k == .free then cloFrom cells r ((n, (cells.lookup n).getD 0) :: acc) else cloFrom cells r acc

theorem closure_loop (env : Env) (f : Str × NameKind → List (Str × Addr) → Sem (ForInStep (List (Str × Addr))))
    (hf : ∀ n k c, f (n, k) c = if k == .free then (do let a ← cellOf env n; pure (.yield ((n, a) :: c))) else pure (.yield c)) :
    ∀ (names : List (Str × NameKind)) (acc : List (Str × Addr)), (∀ y ∈ names, y.2 = .free → ∃ c, env.cells.lookup y.1 = some c) → forIn names acc f = pure (cloFrom env.cells names acc)
  | [], acc, _ => by rw [List.forIn_nil]; rfl
  | (n, k) :: r, acc, h => by
    rw [List.forIn_cons, hf]
    have ih := fun acc => closure_loop env f hf r acc fun y hy => h y (List.mem_cons_of_mem _ hy)
    unfold cloFrom
    by_cases hk : (k == NameKind.free) = true
    · rw [if_pos hk, if_pos hk]
      obtain ⟨c, hc⟩ := h (n, k) List.mem_cons_self (by simpa using hk)
      have e : cellOf env n = pure c := by unfold cellOf; rw [hc]
      rw [e]
      have e2 : (env.cells.lookup n).getD 0 = c := by rw [hc]; rfl
      rw [e2]
      exact ih _
    · rw [if_neg hk, if_neg hk]
      exact ih _
theorem closure_ok {scope : Scope} {env : Env} (h : ∀ y ∈ scope.names, y.2 = .free → ∃ c, env.cells.lookup y.1 = some c) : closureFor scope env = pure (cloFrom env.cells scope.names []) := by
  simp only [closureFor]
  rw [closure_loop env _ (fun n k c => rfl) scope.names [] h]
  rfl

theorem mem_lookup {α : Type} : ∀ {l : List (Str × α)} {n : Str} {c : α}, (n, c) ∈ l → ∃ c', l.lookup n = some c'
  | (k, v) :: r, n, c, h => by
    rw [List.lookup_cons]
    cases hb : n == k with
    | true => exact ⟨_, rfl⟩
    | false =>
      rcases List.mem_cons.mp h with e | h
      · cases e; simp at hb
      · exact mem_lookup h

theorem cloFrom_mem {cells : List (Str × Addr)} : ∀ {names : List (Str × NameKind)} {acc : List (Str × Addr)} {n : Str} {c : Addr}, (n, c) ∈ cloFrom cells names acc → (n, c) ∈ acc ∨ ((n, .free) ∈ names ∧ c = (cells.lookup n).getD 0)
  | [], _, _, _, h => .inl h
  | (m, k) :: r, acc, n, c, h => by
    unfold cloFrom at h
    split at h
    · rename_i hk
      have hk : k = .free := by simpa using hk
      rcases cloFrom_mem h with h | ⟨h1, h2⟩
      · rcases List.mem_cons.mp h with e | h
        · cases e; exact .inr ⟨hk ▸ List.mem_cons_self, rfl⟩
        · exact .inl h
      · exact .inr ⟨List.mem_cons_of_mem _ h1, h2⟩
    · rcases cloFrom_mem h with h | ⟨h1, h2⟩
      · exact .inl h
      · exact .inr ⟨List.mem_cons_of_mem _ h1, h2⟩
theorem cloFrom_acc {cells : List (Str × Addr)} : ∀ {names : List (Str × NameKind)} {acc : List (Str × Addr)} {p : Str × Addr}, p ∈ acc → p ∈ cloFrom cells names acc
  | [], _, _, h => h
  | (m, k) :: r, acc, p, h => by
    unfold cloFrom
    split
    · exact cloFrom_acc (List.mem_cons_of_mem _ h)
    · exact cloFrom_acc h
theorem cloFrom_has {cells : List (Str × Addr)} : ∀ {names : List (Str × NameKind)} {acc : List (Str × Addr)} {n : Str}, (n, .free) ∈ names → (n, (cells.lookup n).getD 0) ∈ cloFrom cells names acc
  | (m, k) :: r, acc, n, h => by
    unfold cloFrom
    rcases List.mem_cons.mp h with e | h
    · cases e
      exact cloFrom_acc List.mem_cons_self
    · split
      · exact cloFrom_has h
      · exact cloFrom_has h

theorem cells_mem : ∀ {names : List (Str × NameKind)} {h : Heap} {acc : List (Str × Addr)} {x : Str} {c : Addr}, (x, c) ∈ cellsFrom h.objs.size names acc →
    (x, c) ∈ acc ∨ ((x, .cell) ∈ names ∧ h.objs.size ≤ c ∧ CellAt (pushCells h names) c none)
  | [], _, _, _, _, h => .inl h
  | (n, k) :: r, h, acc, x, c, hm => by
    unfold cellsFrom at hm
    unfold pushCells
    split at hm
    · rename_i hk
      rw [if_pos hk]
      have hk : k = .cell := by simpa using hk
      rw [← Heap.size_push h { cls := .type "cell", data := .cell none }] at hm
      rcases cells_mem hm with hm | ⟨h1, h2, h3⟩
      · rcases List.mem_cons.mp hm with e | hm
        · cases e
          exact .inr ⟨hk ▸ List.mem_cons_self, Nat.le_refl _, _, pushCells_keeps r _ _ _ (Heap.get?_push_size _ rfl), rfl⟩
        · exact .inl hm
      · rw [Heap.size_push] at h2
        exact .inr ⟨List.mem_cons_of_mem _ h1, Nat.le_of_succ_le h2, h3⟩
    · rename_i hk
      rw [if_neg hk]
      rcases cells_mem hm with hm | ⟨h1, h2, h3⟩
      · exact .inl hm
      · exact .inr ⟨List.mem_cons_of_mem _ h1, h2, h3⟩
theorem cells_acc : ∀ {names : List (Str × NameKind)} {n : Nat} {acc : List (Str × Addr)} {p : Str × Addr}, p ∈ acc → p ∈ cellsFrom n names acc
  | [], _, _, _, h => h
  | (m, k) :: r, n, acc, p, h => by
    unfold cellsFrom
    split
    · exact cells_acc (List.mem_cons_of_mem _ h)
    · exact cells_acc h
theorem cells_has : ∀ {names : List (Str × NameKind)} {n : Nat} {acc : List (Str × Addr)} {x : Str}, (x, .cell) ∈ names → ∃ c, (x, c) ∈ cellsFrom n names acc
  | (m, k) :: r, n, acc, x, h => by
    unfold cellsFrom
    rcases List.mem_cons.mp h with e | h
    · cases e
      exact ⟨n, cells_acc List.mem_cons_self⟩
    · split
      · exact cells_has h
      · exact cells_has h
theorem cells_inj : ∀ {names : List (Str × NameKind)} {h : Heap} {acc : List (Str × Addr)} {x y : Str} {c : Addr}, (∀ p ∈ acc, p.2 < h.objs.size) → (∀ x y c, (x, c) ∈ acc → (y, c) ∈ acc → x = y) →
    (x, c) ∈ cellsFrom h.objs.size names acc → (y, c) ∈ cellsFrom h.objs.size names acc → x = y
  | [], _, _, _, _, _, _, hi, h1, h2 => hi _ _ _ h1 h2
  | (n, k) :: r, h, acc, x, y, c, hl, hi, h1, h2 => by
    unfold cellsFrom at h1 h2
    split at h1
    · rename_i hk
      rw [if_pos hk] at h2
      rw [← Heap.size_push h { cls := .type "cell", data := .cell none }] at h1 h2
      refine cells_inj (h := h.push _) (fun p hp => ?_) (fun x y c a b => ?_) h1 h2
      · rw [Heap.size_push]
        rcases List.mem_cons.mp hp with rfl | hp
        · exact Nat.lt_succ_self _
        · exact Nat.lt_succ_of_lt (hl p hp)
      · rcases List.mem_cons.mp a with e | a <;> rcases List.mem_cons.mp b with e' | b
        · cases e; cases e'; rfl
        · cases e; exact absurd (hl _ b) (Nat.lt_irrefl _)
        · cases e'; exact absurd (hl _ a) (Nat.lt_irrefl _)
        · exact hi _ _ _ a b
    · rename_i hk
      rw [if_neg hk] at h2
      exact cells_inj hl hi h1 h2

theorem newEnv_comp {M : Model} {A : Around} {E : Value → Shared → Prop} {s : Shared} {scope : Scope} {globals : Addr} {closure : List (Str × Addr)} {qual : Str} {func : Option Addr} {code : Value} {around : Env} {builtins : Addr} {Q : Env → Shared → Prop}
    (h : Q (newEnv scope s.heap.objs.size globals (cellsFrom (s.heap.objs.size + 1) scope.names closure) qual func code (some around) builtins)
      { s with heap := pushCells (s.heap.push { cls := .type "dict", data := .dict #[] }) scope.names }) :
    wpAny M A (newFunctionEnv scope globals closure [] qual func code (some around) builtins) Q E s := by
  simp only [newFunctionEnv, Option.isSome_some, if_true]
  refine wpAny_bind (wpAny_alloc ?_)
  refine wpAny_bind (wpAny_layCells _ (fun n k c => rfl) scope.names closure _ _ ?_)
  rw [show ({ s with heap := s.heap.push { cls := .type "dict", data := .dict #[] } } : Shared).heap.objs.size = s.heap.objs.size + 1 from Heap.size_push ..]
  rw [List.forIn_nil]
  exact wpAny_bind (wpAny_pure (wpAny_pure h))

/-- every name of the written scope, in the scope that runs -/
theorem lookup_relS {sc : Scope} : ∀ {names : List (Str × NameKind)} {x : Str} {k : NameKind},
    (names.map fun (n, k) => if (k == NameKind.free && sc.kind == .function && sc.names.lookup n == some .cell) then (n, NameKind.cell) else (n, k)).lookup x = some k →
    ∃ k', names.lookup x = some k' ∧ (k = k' ∨ (k' = .free ∧ k = .cell))
  | [], _, _, h => by simp at h
  | (n, k₀) :: r, x, k, h => by
    have ih := @lookup_relS sc r x k
    have h' : List.lookup x ((if (k₀ == NameKind.free && sc.kind == .function && sc.names.lookup n == some .cell) = true then (n, NameKind.cell) else (n, k₀)) :: (r.map _)) = some k := h
    cases hx : x == n with
    | true =>
      simp only [List.lookup_cons, hx]
      by_cases hc : (k₀ == NameKind.free && sc.kind == .function && sc.names.lookup n == some .cell) = true
      · rw [if_pos hc] at h'
        simp only [List.lookup_cons, hx] at h'
        cases h'
        simp only [Bool.and_eq_true, beq_iff_eq] at hc
        exact ⟨k₀, rfl, .inr ⟨hc.1.1, rfl⟩⟩
      · rw [if_neg hc] at h'
        simp only [List.lookup_cons, hx] at h'
        cases h'
        exact ⟨_, rfl, .inl rfl⟩
    | false =>
      simp only [List.lookup_cons, hx]
      by_cases hc : (k₀ == NameKind.free && sc.kind == .function && sc.names.lookup n == some .cell) = true
      · rw [if_pos hc] at h'
        simp only [List.lookup_cons, hx] at h'
        exact ih h'
      · rw [if_neg hc] at h'
        simp only [List.lookup_cons, hx] at h'
        exact ih h'
/-- the names of a comprehension's block: its own (with their places in N), or captured -/
structure BlkOk (N : List Str) (sc scope : Scope) (own : List (Str × Nat)) : Prop where
  kind : scope.kind = .function
  uniq : ∀ y ∈ scope.names, scope.names.lookup y.1 = some y.2
  ix : ∀ p ∈ own, N[p.2]? = some p.1
  free : ∀ y ∈ scope.names, y.2 = .free → sc.names.lookup y.1 = some .cell ∨ sc.names.lookup y.1 = some .free
  own : ∀ y ∈ scope.names, y.2 = .local ∨ y.2 = .cell → y.1 ∈ own.map (·.1) ∨ y.1 ∉ N
/-- the slots of the block's own names forgotten -/
def wipe (σ : St) : List Nat → St
  | [] => σ
  | v :: vs => (wipe σ vs).set v none
theorem wipe_length (σ : St) : ∀ vs : List Nat, (wipe σ vs).length = σ.length
  | [] => rfl
  | v :: vs => by unfold wipe; rw [List.length_set, wipe_length σ vs]
theorem wipe_some {σ : St} {i : Nat} {x : V} : ∀ {vs : List Nat}, (wipe σ vs)[i]? = some (some x) → σ[i]? = some (some x) ∧ i ∉ vs
  | [], h => ⟨h, by simp⟩
  | v :: vs, h => by
    unfold wipe at h
    by_cases hi : v = i
    · subst hi
      by_cases hv : v < (wipe σ vs).length
      · rw [List.getElem?_set_self hv] at h; cases h
      · rw [List.getElem?_eq_none (by simpa using hv)] at h; cases h
    · rw [List.getElem?_set_ne hi] at h
      obtain ⟨h1, h2⟩ := wipe_some h
      exact ⟨h1, by simp only [List.mem_cons, not_or]; exact ⟨fun e => hi e.symm, h2⟩⟩

/-- the context of a block that starts at s, its iterator's objects at fp -/
abbrev Cx.blk (X : Cx) (s : Shared) (H : Hp) (scope : Scope) (cenv : Env) (fp : List Addr) : Cx := { X with s_0 := s, H_0 := H, env := cenv, outer := X.stack, ex := fp, fn := fun x => scope.names.lookup x == some .cell, pn := [], xe := fun _ _ => False }
section
variable {X : Cx} {pins : List (Addr × Obj)} {σ : St} {H : Hp} {s : Shared}
theorem block_start {scope : Scope} {own : List (Str × Nat)} {fp : List Addr} (I : Inv X pins σ H s) (ok : BlkOk X.N X.env.scope scope own) (hN : X.N.Nodup) (hfp : ∀ b ∈ fp, FpOk X pins H b ∧ b < s.heap.objs.size) :
    Inv (X.blk s H scope (compEnvC scope (cellsFrom (s.heap.objs.size + 1) scope.names (cloFrom X.env.cells scope.names [])) s.heap.objs.size X.env) fp) [] (wipe σ (own.map (·.2))) H { s with heap := pushCells (s.heap.push { cls := .type "dict", data := .dict #[] }) scope.names } := by
  have hfree : ∀ y ∈ scope.names, y.2 = .free → ∃ c, X.env.cells.lookup y.1 = some c := fun y hy e => by
    rcases ok.free y hy e with k | k
    · exact I.ok.has _ (.inl k)
    · exact I.ok.has _ (.inr k)
  generalize hcenv : compEnvC scope (cellsFrom (s.heap.objs.size + 1) scope.names (cloFrom X.env.cells scope.names [])) s.heap.objs.size X.env = cenv
  have kp : ∀ b o, s.heap.get? b = some o → (pushCells (s.heap.push { cls := .type "dict", data := .dict #[] }) scope.names).get? b = some o := fun b o e => pushCells_keeps _ _ _ _ (Heap.get?_push_of_some _ e)
  have hL : cenv.locals = s.heap.objs.size := by rw [← hcenv]; rfl
  have hcl : cenv.cells = cellsFrom (s.heap.objs.size + 1) scope.names (cloFrom X.env.cells scope.names []) := by rw [← hcenv]; rfl
  have hsc : cenv.scope = relS scope X.env.scope := by rw [← hcenv]; rfl
  rw [← Heap.size_push s.heap { cls := .type "dict", data := .dict #[] }] at hcl
  have cm : ∀ {y c}, (y, c) ∈ cloFrom X.env.cells scope.names [] → X.env.cells.lookup y = some c ∧ c < s.heap.objs.size := fun {y c} hm => by
    rcases cloFrom_mem hm with hm | ⟨h1, rfl⟩
    · cases hm
    · obtain ⟨c, hc⟩ := hfree _ h1 rfl
      rw [hc]
      obtain ⟨w, z⟩ := I.cell _ _ hc
      exact ⟨rfl, z.lt⟩
  have mem : ∀ {y c}, cenv.cells.lookup y = some c → (X.env.cells.lookup y = some c ∧ c < s.heap.objs.size) ∨ (s.heap.objs.size + 1 ≤ c ∧ CellAt (pushCells (s.heap.push { cls := .type "dict", data := .dict #[] }) scope.names) c none) := fun {y c} e => by
    rw [hcl] at e
    rcases cells_mem (PySem.mem_of_lookup e) with hm | ⟨_, h2, h3⟩
    · exact .inl (cm hm)
    · rw [Heap.size_push] at h2; exact .inr ⟨h2, h3⟩
  have look : ∀ {y}, scope.names.lookup y = some .free → ∃ c, cenv.cells.lookup y = some c ∧ X.env.cells.lookup y = some c := fun {y} hl => by
    have hy : (y, NameKind.free) ∈ scope.names := PySem.mem_of_lookup hl
    obtain ⟨c', e'⟩ := mem_lookup (cells_acc (names := scope.names) (n := (s.heap.push { cls := .type "dict", data := .dict #[] }).objs.size) (cloFrom_has (cells := X.env.cells) (acc := []) hy))
    rw [← hcl] at e'
    refine ⟨c', e', ?_⟩
    rw [hcl] at e'
    rcases cells_mem (PySem.mem_of_lookup e') with hm | ⟨h1, _, _⟩
    · exact (cm hm).1
    · have := ok.uniq _ h1
      rw [hl] at this; cases this
  have okB : (X.blk s H scope cenv fp).Ok := by
    refine ⟨I.ok.mod, by show cenv.scope.kind = _; rw [hsc]; exact ok.kind, by show cenv.globals = _; rw [← hcenv]; exact I.ok.glob, by show cenv.builtins = _; rw [← hcenv]; exact I.ok.blt, by show s.heap.objs.size ≤ cenv.locals; rw [hL]; exact Nat.le_refl _,
      fun y z c e1 e2 => ?_, fun y hy => ?_, fun y c z e => ?_, I.ok.hd, I.ok.frames, .inl rfl, fun b hb => ⟨?_, fun y c e z => ?_⟩, I.bs, Nat.le_trans I.ok.bsz I.sz, fun b o e hb => ?_, fun b hb z => ?_, I.stack, I.stkFree⟩
    · have e1 : cenv.cells.lookup y = some c := e1
      have e2 : cenv.cells.lookup z = some c := e2
      rw [hcl] at e1 e2
      refine cells_inj (fun p hp => ?_) (fun y z c a b => I.ok.inj y z c (cm a).1 (cm b).1) (PySem.mem_of_lookup e1) (PySem.mem_of_lookup e2)
      rw [Heap.size_push]
      exact Nat.lt_succ_of_lt (cm (y := p.1) (c := p.2) hp).2
    · show ∃ c, cenv.cells.lookup y = some c
      have key : ∀ k, cenv.kindOf y = some k → (k = .cell ∨ k = .free) → ∃ c, cenv.cells.lookup y = some c := fun k hk hk' => by
        unfold Env.kindOf at hk
        rw [hsc] at hk
        obtain ⟨k', e, r⟩ := lookup_relS hk
        have : k' = .cell ∨ k' = .free := by
          rcases r with rfl | ⟨rfl, _⟩
          · exact hk'
          · exact .inr rfl
        rcases this with rfl | rfl
        · obtain ⟨c, hm⟩ := cells_has (n := (s.heap.push { cls := .type "dict", data := .dict #[] }).objs.size) (acc := cloFrom X.env.cells scope.names []) (PySem.mem_of_lookup e)
          obtain ⟨c', e'⟩ := mem_lookup hm
          exact ⟨c', by rw [hcl]; exact e'⟩
        · obtain ⟨c, h1, _⟩ := look e
          exact ⟨c, h1⟩
      rcases hy with hy | hy
      · exact key _ hy (.inl rfl)
      · exact key _ hy (.inr rfl)
    · have z : (scope.names.lookup y == some NameKind.cell) = true := z
      have z : scope.names.lookup y = some .cell := by simpa using z
      have e : cenv.cells.lookup y = some c := e
      rw [hcl] at e
      rcases cells_mem (PySem.mem_of_lookup e) with hm | ⟨_, h2, _⟩
      · rcases cloFrom_mem hm with hm | ⟨h1, _⟩
        · cases hm
        · have q := ok.uniq _ h1
          rw [z] at q; cases q
      · rw [Heap.size_push] at h2
        exact Nat.le_of_succ_le h2
    · show b ≠ cenv.locals
      rw [hL]; exact Nat.ne_of_lt (hfp b hb).2
    · have e : cenv.cells.lookup y = some c := e
      rcases mem e with ⟨h1, _⟩ | ⟨h1, _⟩
      · exact (hfp b hb).1.2.2.2.2.1 y c h1 z
      · have h2 : s.heap.objs.size + 1 ≤ b := by rw [← z]; exact h1
        exact absurd (Nat.lt_of_lt_of_le (hfp b hb).2 (Nat.le_of_succ_le h2)) (Nat.lt_irrefl _)
    · rcases (hfp b hb).1.2.2.2.1 with z | z
      · exact I.ok.noex b o e z
      · exact absurd (Nat.lt_of_lt_of_le (Heap.lt_size e) (Nat.le_trans I.ok.bsz z)) (Nat.lt_irrefl _)
    · rcases List.mem_cons.mp (I.stkSub b z) with z | z
      · exact (hfp b hb).1.2.1 z
      · exact (hfp b hb).1.2.2.1 z
  refine ⟨okB, rfl, I.bare, Un.kept kp, ⟨fun _ => none, ?_, fun i y av e1 e2 e3 => ?_⟩, fun y c e => ?_, ?_, fun y c e => ?_, fun p hp => ?_, I.hok.kept kp, by rw [wipe_length]; exact I.len⟩
  · show Heap.Ns _ cenv.locals _
    rw [hL]
    exact Heap.Ns.keeps (Heap.Ns.new ..) fun b o e => pushCells_keeps _ _ _ _ e
  · obtain ⟨e2, hne⟩ := wipe_some e2
    have hfr : scope.names.lookup y = some .free ∧ (cenv.kindOf y = some .cell ∨ cenv.kindOf y = some .free) := by
      have key : ∀ k, cenv.scope.names.lookup y = some k → k = .local ∨ k = .cell ∨ k = .free → scope.names.lookup y = some .free ∧ (cenv.kindOf y = some .cell ∨ cenv.kindOf y = some .free) := fun k hk hk' => by
        have hk0 := hk
        rw [hsc] at hk
        obtain ⟨k', e, r⟩ := lookup_relS hk
        have no : ¬ (k' = .local ∨ k' = .cell) := fun hh => by
          rcases ok.own _ (PySem.mem_of_lookup e) hh with e' | e'
          · obtain ⟨p, hp, hpy⟩ := List.mem_map.mp e'
            have e3 := ok.ix p hp
            have : p.1 = y := hpy
            rw [this] at e3
            exact hne (List.mem_map.mpr ⟨p, hp, nodup_ix hN e3 e1⟩)
          · exact e' (List.mem_of_getElem? e1)
        rcases r with rfl | ⟨rfl, rfl⟩
        · rcases hk' with rfl | rfl | rfl
          · exact absurd (.inl rfl) no
          · exact absurd (.inr rfl) no
          · exact ⟨e, .inr hk0⟩
        · exact ⟨e, .inl hk0⟩
      have e3 : Vis cenv.scope y := e3
      rcases e3 with e3 | e3 | e3
      · exact key _ e3 (.inl rfl)
      · exact key _ e3 (.inr (.inl rfl))
      · exact key _ e3 (.inr (.inr rfl))
    obtain ⟨m, hn, hl⟩ := I.loc
    have hvis : Vis X.env.scope y := (ok.free _ (PySem.mem_of_lookup hfr.1) rfl).elim (fun k => .inr (.inl k)) (fun k => .inr (.inr k))
    obtain ⟨w, r, q⟩ := hl i y av e1 e2 hvis
    refine ⟨w, r, .inr ⟨hfr.2, ?_⟩⟩
    obtain ⟨c, h1, h2⟩ := look hfr.1
    rcases q with ⟨k, _⟩ | ⟨_, c', e', z⟩
    · have k : X.env.scope.names.lookup y = some .local := k
      rcases ok.free _ (PySem.mem_of_lookup hfr.1) rfl with k' | k' <;> rw [show X.env.scope.names.lookup y = _ from k'] at k <;> cases k
    · rw [h2] at e'; cases e'
      exact ⟨c, h1, z.keeps kp⟩
  · have e : cenv.cells.lookup y = some c := e
    rcases mem e with ⟨h1, _⟩ | ⟨_, z⟩
    · obtain ⟨w, z⟩ := I.cell y c h1
      exact ⟨w, z.keeps kp⟩
    · exact ⟨_, z⟩
  · show H cenv.locals = none
    rw [hL]; exact I.hok.fresh (Nat.le_refl _)
  · have e : cenv.cells.lookup y = some c := e
    rcases mem e with ⟨h1, _⟩ | ⟨h1, _⟩
    · exact I.freeC y c h1
    · exact I.hok.fresh (Nat.le_of_succ_le h1)
  · exact absurd (show p ∈ ([] : List (Addr × Obj)) ++ [] from hp) (by simp)

/-- an item appended to a tracked list -/
theorem app_ok {E : Value → Shared → Prop} {D : Addr} {xs : List V} {y : V} {v : Value} {Q : Value → Shared → Prop} (I : Inv X pins σ H s) (hD : H D = some (.lst xs)) (hz : xs.length < sizeLine) (r : RelV y v)
    (h : ∀ s', Inv X pins σ (upd H D (.lst (xs ++ [y]))) s' → Q .none s') : wpAny (model X.prog X.w) X.A (call (.builtin "list.append") [.ref D, v]) Q E s := by
  obtain ⟨hz', its, n, ri, e⟩ := I.hok D _ hD
  have hl := ri.length
  refine append_at (hsz := by rw [List.size_toArray]; omega) e fun h' sb ho' => ?_
  refine h { s with heap := h' } (I.write (t' := s.toks) (by rw [hD]; trivial) (.inl rfl) (fun b u hb q => (sb.2 b hb).trans q) ⟨_, ho'⟩ ⟨by rw [List.length_append]; exact hz, its ++ [v], n + 1, ri.append (.cons r .nil), ?_⟩)
  rw [ho']
  simp

/-- a clause's tests -/
def PTs (X : Cx) (ifs : List Expr) (t : TT) : Prop :=
  ∀ (pins : List (Addr × Obj)) (s : Shared) (σ : St) (H : Hp) (Q : Bool → Hp → Prop), Inv X pins σ H s → t σ H Q →
    wpAny (model X.prog X.w) X.A (forIn ifs true fun c r => if r = true then do let ok ← isTrue c X.env (eval c X.env); pure (ForInStep.yield ok) else pure (ForInStep.yield r)) (TP X pins σ Q) X.xe s
def tYes : TT := fun _ H Q => Q true H
theorem pts_nil : PTs X [] tYes := fun _ _ _ H _ I h => wpAny_tests_nil ⟨H, I, h⟩
theorem pts_one {c : Expr} {t : TT} (h : PT X c t) : PTs X [c] t := fun pins s σ H Q I hw => wpAny_tests_one (h pins s σ H Q I hw)
end

theorem thnF {α : Type} {t : Sem α} {Q Q' : α → Shared → Prop} {M : Model} {A : Around} {E : Value → Shared → Prop} {s : Shared} (h : wpAny M A t Q (fun _ _ => False) s) (hQ : ∀ a s, Q a s → Q' a s) : wpAny M A t Q' E s := wpAny_mono h hQ fun _ _ z => False.elim z

/-- the loop of a list comprehension's block, the target of any form (codeAny_compLoop_tests asks a target that no tuple goes to; statement and proof follow it, PyProof/CompMap.lean:41-61, with the step letOwnedTupleGo kept) -/
theorem compLoop_any {prog : Program} {w : World} {A : Around} {R : Result → Shared → Prop} {s : Shared} {elt target iter : Expr} {ifs : List Expr} {scope : Scope} {pos : Pos} {it acc : Value} {env : Env} (I : Nat → Shared → Prop)
    (turn : ∀ n s, I n s → wpAny (model prog w) A (pyNext it) (fun r s₁ => match r with
      | none => R (.ok .next) s₁
      | some v => wpAny (model prog w) A (letOwnedTupleGo target it v) (fun _ s₁' => wpAny (model prog w) A (assign target env v) (fun _ s₂ =>
          wpAny (model prog w) A (forIn ifs true fun c r => if r = true then do let ok ← isTrue c env (eval c env); pure (ForInStep.yield ok) else pure (ForInStep.yield r)) (fun ok s₃ =>
            if ok = true then wpAny (model prog w) A (eval elt env) (fun x s₄ =>
              wpAny (model prog w) A (call (.builtin "list.append") [acc, x]) (fun _ s₅ => ∃ m, m < n ∧ I m s₅) (notedBy (model prog w) A env fun e s' => R (.error e) s') s₄) (notedBy (model prog w) A env fun e s' => R (.error e) s') s₃
            else ∃ m, m < n ∧ I m s₃) (notedBy (model prog w) A env fun e s' => R (.error e) s') s₂) (notedBy (model prog w) A env fun e s' => R (.error e) s') s₁') (notedBy (model prog w) A env fun e s' => R (.error e) s') s₁) (notedBy (model prog w) A env fun e s' => R (.error e) s') s)
    (n : Nat) (h : I n s) :
    codeAny (model prog w) A (.compLoop (.ListComp elt [⟨target, iter, ifs, 0⟩] scope pos) 0 it acc env) R s := by
  refine codeAny_loop rfl I (fun n s hI => ?_) n h
  show wpAny _ A ((compTurn (.ListComp elt [⟨target, iter, ifs, 0⟩] scope pos) 0 it acc env).onRaise (fun x => do noteFrame x env; theTreesLotGoes x)) _ _ s
  refine wpAny_noted ?_
  rw [compTurn_list]
  refine wpAny_bind (wpAny_standAt (wpAny_bind (wpAny_mono (turn n s hI) (fun r s₁ h₁ => ?_) fun _ _ h' => h')))
  cases r with
  | none => exact wpAny_pure h₁
  | some v =>
    refine wpAny_bind (wpAny_mono h₁ (fun _ s₁' h₁' => ?_) fun _ _ h' => h')
    refine wpAny_bind (wpAny_mono h₁' (fun _ s₂ h₂ => wpAny_bind (wpAny_mono h₂ (fun ok s₃ h₃ => ?_) fun _ _ h' => h')) fun _ _ h' => h')
    cases ok with
    | false => exact wpAny_pure ⟨rfl, h₃⟩
    | true =>
      exact wpAny_bind (wpAny_bind (wpAny_mono h₃ (fun x s₄ h₄ => wpAny_bind (wpAny_mono h₄ (fun _ s₅ h₅ => wpAny_pure (wpAny_pure ⟨rfl, h₅⟩)) fun _ _ h' => h')) fun _ _ h' => h'))

section
variable {X : Cx}
/-- [elt for target in iter if ..]: D the new list; W by the turn and a measure, Nx what a turn is to reach -/
def tLc (wi : TI) (g : TG) (tt : TT) (te : TE) (vs : List Nat) : TE := fun σ H Q => wi σ H fun J H1 => ∀ D, H1 D = none → ∃ W : Nat → Nat → Hp → Prop, (∃ m, W 0 m (upd H1 D (.lst []))) ∧ ∀ i m H, W i m H →
  (J.stop i H ∧ Q (.ref D) H) ∨ (J.go i H ∧ ∃ Nx : Hp → Prop, (∀ H', Nx H' → ∃ m', m' < m ∧ W (i + 1) m' H') ∧ ∀ x H', J.yld i H x H' → g x (wipe σ vs) H' fun σ2 H2 => wipe σ2 vs = wipe σ vs ∧ tt σ2 H2 fun b H3 =>
    if b = true then te σ2 H3 fun y H4 => ∃ acc, H4 D = some (.lst acc) ∧ acc.length < sizeLine ∧ Nx (upd H4 D (.lst (acc ++ [y]))) else Nx H3)
theorem lc_core {pins : List (Addr × Obj)} {s : Shared} {σ : St} {H : Hp} {Q : VK} {elt tg iter : Expr} {ifs : List Expr} {scope : Scope} {own : List (Str × Nat)} {pos pos' : Pos} {wi : TI} {g : TG} {tt : TT} {te : TE} {use : Option (Value → Sem Unit)} {Qf : Value → Shared → Prop}
    (hc : X.calm = true) (hN : X.N.Nodup) (I : Inv X pins σ H s) (hi : PI X tg iter wi) (ok : BlkOk X.N X.env.scope scope own)
    (hg : ∀ (s : Shared) (H : Hp) (C : Addr) (cl : List (Str × Addr)) (fp : List Addr), PG (X.blk s H scope (compEnvC scope cl C X.env) fp) tg g) (ht : ∀ (s : Shared) (H : Hp) (C : Addr) (cl : List (Str × Addr)) (fp : List Addr), PTs (X.blk s H scope (compEnvC scope cl C X.env) fp) ifs tt)
    (he : ∀ (s : Shared) (H : Hp) (C : Addr) (cl : List (Str × Addr)) (fp : List Addr), PE (X.blk s H scope (compEnvC scope cl C X.env) fp) elt te) (hs : ∀ x, foldedSetIterable iter X.env x = pure x)
    (h : tLc wi g tt te (own.map (·.2)) σ H Q)
    (hRR : ∀ D C s' m H', Inv X pins σ H' s' → Q (.ref D) H' → s'.heap.Ns C m → FpOk X pins H' C → compPost (model X.prog X.w) X.A X.xe use Qf (.ref D) C (.ok .next) s') :
    wpAny (model X.prog X.w) X.A (comprehension (.ListComp elt [⟨tg, iter, ifs, 0⟩] scope pos) scope X.env pos' (newList []) false (eval iter X.env) use) Qf X.xe s := by
  have hfree : ∀ y ∈ scope.names, y.2 = .free → ∃ c, X.env.cells.lookup y.1 = some c := fun y hy e => by
    rcases ok.free y hy e with k | k
    · exact I.ok.has _ (.inl k)
    · exact I.ok.has _ (.inr k)
  refine wpAny_comprehension_free (use := use) rfl hs (closure_ok hfree) ok.kind (fun y hy e => by rw [ok.uniq y hy, e])
    (thn (hi pins s σ H _ I h) fun xv s1 hx => thn hx fun itv s2 h2 => ?_)
  obtain ⟨it, fp, tn, J, H2, e, I2, T, st2, f2, q⟩ := h2
  subst e
  refine wpAny_newObj_type (newEnv_comp ?_) (by show 0 ≤ sizeLine; decide)
  generalize hD : s2.heap.objs.size = D
  have hDn : H2 D = none := I2.hok.fresh (Nat.le_of_eq hD)
  obtain ⟨W, ⟨m0, w0⟩, turn⟩ := q D hDn
  -- the new list
  generalize hs3 : ({ s2 with heap := s2.heap.push { cls := .type "list", data := .seq ([] : List Value).toArray } } : Shared) = s3
  have I3 : Inv X pins σ (upd H2 D (.lst [])) s3 := by
    rw [← hs3]
    refine I2.laid (t' := s2.toks) (fun b o e => Heap.get?_push_of_some _ e) (Nat.le_of_eq hD) ⟨Nat.zero_le _, [], 0, .nil, ?_⟩
    rw [← hD]
    exact Heap.get?_push_size _ rfl
  have h3 : s3.heap = s2.heap.push { cls := .type "list", data := .seq ([] : List Value).toArray } := by rw [← hs3]
  have sz : ∀ b ∈ fp, b < s2.heap.objs.size := fun b hb => by
    obtain ⟨o, e, _⟩ := T.obj _ _ st2 b hb
    exact Heap.lt_size e
  have f3 : ∀ b ∈ fp, FpOk X pins (upd H2 D (.lst [])) b ∧ b < s3.heap.objs.size := fun b hb => by
    have hlt := sz b hb
    refine ⟨⟨?_, (f2 b hb).2⟩, by rw [h3, Heap.size_push]; exact Nat.lt_succ_of_lt hlt⟩
    rw [upd_ne (by rw [← hD]; exact Nat.ne_of_lt hlt)]
    exact (f2 b hb).1
  have st3 : tn 0 s3.heap := T.keep _ _ _ st2 fun b _ o e => by rw [h3]; exact Heap.get?_push_of_some _ e
  have I4 := block_start I3 ok hN f3
  have pg := hg s3 (upd H2 D (.lst [])) s3.heap.objs.size (cellsFrom (s3.heap.objs.size + 1) scope.names (cloFrom X.env.cells scope.names [])) fp
  have pt := ht s3 (upd H2 D (.lst [])) s3.heap.objs.size (cellsFrom (s3.heap.objs.size + 1) scope.names (cloFrom X.env.cells scope.names [])) fp
  have pe := he s3 (upd H2 D (.lst [])) s3.heap.objs.size (cellsFrom (s3.heap.objs.size + 1) scope.names (cloFrom X.env.cells scope.names [])) fp
  show codeAny _ _ (.compStart (.ListComp elt [⟨tg, iter, ifs, 0⟩] scope pos) 0 (.ref it) (.ref D) (compEnvC scope (cellsFrom (s3.heap.objs.size + 1) scope.names (cloFrom X.env.cells scope.names [])) s3.heap.objs.size X.env)) (compPost (model X.prog X.w) X.A X.xe use Qf (.ref D) s3.heap.objs.size) { s3 with heap := pushCells (s3.heap.push { cls := .type "dict", data := .dict #[] }) scope.names }
  have nfp : ∀ b ∈ fp, (upd H2 D (.lst [])) b = none := fun b hb => (f3 b hb).1.1
  generalize hce : compEnvC scope (cellsFrom (s3.heap.objs.size + 1) scope.names (cloFrom X.env.cells scope.names [])) s3.heap.objs.size X.env = ce at I4 pg pt pe ⊢
  have cL : ce.locals = s3.heap.objs.size := by subst hce; rfl
  generalize hH3 : upd H2 D (.lst []) = H3 at I3 I4 pg pt pe w0 nfp f3
  generalize hs4 : ({ s3 with heap := pushCells (s3.heap.push { cls := .type "dict", data := .dict #[] }) scope.names } : Shared) = s4 at I4 ⊢
  have st4 : tn 0 s4.heap := T.keep _ _ _ st3 fun b _ o e => by rw [← hs4]; exact pushCells_keeps _ _ _ _ (Heap.get?_push_of_some _ e)
  have stat : ∀ {σ' : St} {H' : Hp} {s' : Shared}, Inv (X.blk s3 H3 scope ce fp) [] σ' H' s' → (∀ b ∈ fp, H' b = none) → ∀ b ∈ fp, FpOk (X.blk s3 H3 scope ce fp) [] H' b := fun {σ' H' s'} I' hn b hb =>
    ⟨hn b hb, (I'.ok.exf b hb).1, I'.ok.exfs b hb, .inl hb, fun x c e => (I'.ok.exf b hb).2 x c e, fun p hp => absurd (show p ∈ ([] : List (Addr × Obj)) ++ [] from hp) (by simp)⟩
  have loop : codeAny (model X.prog X.w) X.A (.compLoop (.ListComp elt [⟨tg, iter, ifs, 0⟩] scope pos) 0 (.ref it) (.ref D) ce) (compPost (model X.prog X.w) X.A X.xe use Qf (.ref D) s3.heap.objs.size) s4 := by
    refine compLoop_any (fun n s' => ∃ i H', Inv (X.blk s3 H3 scope ce fp) [] (wipe σ (own.map (·.2))) H' s' ∧ tn i s'.heap ∧ (∀ b ∈ fp, H' b = none) ∧ W i n H') ?_ m0 ⟨0, H3, I4, st4, nfp, w0⟩
    rintro n s5 ⟨i, H5, I5, st5, n5, w5⟩
    rcases turn i n H5 w5 with ⟨stop, qq⟩ | ⟨go, Nx, hNx, step⟩
    · have td := T.done (X.blk s3 H3 scope ce fp) rfl rfl rfl hc i [] s5 _ H5 (fun _ _ => False) I5 (stat I5 n5) st5 stop
      refine thnF td fun r s6 ⟨hr, I6⟩ => ?_
      subst hr
      -- back in the def's context
      have I7 : Inv X pins σ H5 s6 := I3.call' (ch := fp) I6.os I6.base I6.hok I6.bare fun b hb => ⟨(f3 b hb).1.2.2.2.1, (f3 b hb).1.2.1, (f3 b hb).1.2.2.2.2.1, (f3 b hb).1.2.2.2.2.2⟩
      have nC : H5 s3.heap.objs.size = none := by
        have z : H5 ce.locals = none := I6.free
        rw [cL] at z
        exact z
      obtain ⟨m, hn, _⟩ := I6.loc
      have hn : s6.heap.Ns ce.locals m := hn
      rw [cL] at hn
      exact hRR D s3.heap.objs.size s6 m H5 I7 qq hn (I3.fpOk (Nat.le_refl _) nC)
    · have ti := T.item (X.blk s3 H3 scope ce fp) rfl rfl rfl hc i [] s5 _ H5 (fun _ _ => False) I5 (stat I5 n5) st5 go
      refine thnF ti fun r s6 ⟨u, hr, h6⟩ => ?_
      subst hr
      refine thnF h6 fun _ s7 ⟨x, H7, I7, r7, y7, st7, n7⟩ => ?_
      have I7' := I7.pinned (stat I7 n7) (T.obj _ _ st7)
      refine thnF (pg _ s7 _ H7 x u _ I7' r7 (step x H7 y7)) fun _ s8 ⟨σ8, H8, I8, hw8, q8⟩ => ?_
      refine thnF (pt _ s8 σ8 H8 _ I8 q8) fun b s9 ⟨H9, I9, q9⟩ => ?_
      -- the turn's end
      have fin : ∀ {s' : Shared} {H' : Hp}, Inv (X.blk s3 H3 scope ce fp) ([] ++ pinsAt fp s7.heap) σ8 H' s' → Nx H' → ∃ m, m < n ∧ ∃ i H', Inv (X.blk s3 H3 scope ce fp) [] (wipe σ (own.map (·.2))) H' s' ∧ tn i s'.heap ∧ (∀ b ∈ fp, H' b = none) ∧ W i m H' := fun {s' H'} I' nx => by
        obtain ⟨m', hm, w'⟩ := hNx H' nx
        have pin' : ∀ b ∈ fp, ∀ o, s7.heap.get? b = some o → s'.heap.get? b = some o ∧ H' b = none := fun b hb o e =>
          let z := I'.pin (b, o) (List.mem_append_right _ (List.mem_append_right _ (mem_pinsAt hb e)))
          ⟨z.1, z.2.1⟩
        have hl : (wipe σ (own.map (·.2))).length = σ8.length := by rw [← hw8, wipe_length]
        refine ⟨m', hm, i + 1, H', (I'.unpinned (pins := [])).weak hl (fun j v e => ?_), T.keep _ _ _ st7 fun b hb o e => (pin' b hb o e).1, fun b hb => ?_, w'⟩
        · rw [← hw8] at e
          exact (wipe_some e).1
        · obtain ⟨o, e, _⟩ := T.obj _ _ st7 b hb
          exact (pin' b hb o e).2
      cases b with
      | false =>
        simp only [Bool.false_eq_true, if_false] at q9 ⊢
        exact fin I9 q9
      | true =>
        simp only [if_true] at q9 ⊢
        refine thnF (pe _ s9 σ8 H9 _ I9 q9) fun z s10 ⟨yv, H10, I10, r10, acc, hD10, hz10, nx⟩ => ?_
        exact app_ok (X := X.blk s3 H3 scope ce fp) I10 hD10 hz10 r10 fun s11 I11 => fin I11 nx
  exact codeAny_compStart_list loop (T.self X.A 0 _ _ _ st4 loop)
/-- as a value -/
theorem pe_lc {elt tg iter : Expr} {ifs : List Expr} {scope : Scope} {own : List (Str × Nat)} {pos : Pos} {wi : TI} {g : TG} {tt : TT} {te : TE} (hc : X.calm = true) (hN : X.N.Nodup) (hi : PI X tg iter wi) (ok : BlkOk X.N X.env.scope scope own)
    (hg : ∀ (s : Shared) (H : Hp) (C : Addr) (cl : List (Str × Addr)) (fp : List Addr), PG (X.blk s H scope (compEnvC scope cl C X.env) fp) tg g) (ht : ∀ (s : Shared) (H : Hp) (C : Addr) (cl : List (Str × Addr)) (fp : List Addr), PTs (X.blk s H scope (compEnvC scope cl C X.env) fp) ifs tt)
    (he : ∀ (s : Shared) (H : Hp) (C : Addr) (cl : List (Str × Addr)) (fp : List Addr), PE (X.blk s H scope (compEnvC scope cl C X.env) fp) elt te) (hs : ∀ x, foldedSetIterable iter X.env x = pure x := by intro _; rfl) :
    PE X (.ListComp elt [⟨tg, iter, ifs, 0⟩] scope pos) (tLc wi g tt te (own.map (·.2))) := by
  intro pins s σ H Q I h
  rw [eval_ListComp]
  refine lc_core hc hN I hi ok hg ht he hs h fun D C s' m H' I' q hn f => ⟨m, hn, fun h'' sb => ?_⟩
  obtain ⟨f0, f1, f2, f3, f4, f5⟩ := f
  exact ⟨.ref D, H', I'.turned (t' := s'.toks) (fun b o hb e => (sb.2 b hb).trans e) f0 f1 f3 f4 f5, rfl, q⟩
/-- name = [..] on one line, the name a local -/
theorem ps_setLc {i : Nat} {y : Str} {py : Pos} {elt tg iter : Expr} {ifs : List Expr} {scope : Scope} {own : List (Str × Nat)} {pos spos : Pos} {wi : TI} {g : TG} {tt : TT} {te : TE} (hc : X.calm = true) (hN : X.N.Nodup) (hy : X.N[i]? = some y) (hyl : X.env.scope.names.lookup y = some .local)
    (hsw : swapsWith (.ListComp elt [⟨tg, iter, ifs, 0⟩] scope pos) (some (.Name y py)) spos.line X.env = pure true) (hi : PI X tg iter wi) (ok : BlkOk X.N X.env.scope scope own)
    (hg : ∀ (s : Shared) (H : Hp) (C : Addr) (cl : List (Str × Addr)) (fp : List Addr), PG (X.blk s H scope (compEnvC scope cl C X.env) fp) tg g) (ht : ∀ (s : Shared) (H : Hp) (C : Addr) (cl : List (Str × Addr)) (fp : List Addr), PTs (X.blk s H scope (compEnvC scope cl C X.env) fp) ifs tt)
    (he : ∀ (s : Shared) (H : Hp) (C : Addr) (cl : List (Str × Addr)) (fp : List Addr), PE (X.blk s H scope (compEnvC scope cl C X.env) fp) elt te) (hs : ∀ x, foldedSetIterable iter X.env x = pure x := by intro _; rfl) :
    PS X (.Assign [.Name y py] (.ListComp elt [⟨tg, iter, ifs, 0⟩] scope pos) spos) (tAsg (tLc wi g tt te (own.map (·.2))) (gName i)) := by
  intro pins s σ H D I h
  rw [exec_Assign_Name_used _ _ _ _ hsw]
  refine wpAny_bind (wpAny_standAt (wpAny_bind ?_))
  show wpAny _ X.A (do let _ ← comprehension (.ListComp elt [⟨tg, iter, ifs, 0⟩] scope pos) scope X.env (firstIterPos [⟨tg, iter, ifs, 0⟩] pos) (newList []) false (eval iter X.env) (some (assign (.Name y py) X.env))) _ _ s
  have h : tLc wi g tt te (own.map (·.2)) σ H (fun x H1 => gName i x σ H1 D.nx) := h
  refine wpAny_bind (thn (lc_core (Qf := fun _ s' => SP X pins D .next s') hc hN I hi ok hg ht he hs h fun L C s' m H' I' q hn f => ?_) fun _ s' hq => wpAny_pure (wpAny_pure hq))
  show wpAny _ _ (assign (.Name y py) X.env (.ref L)) _ _ _
  refine wpAny_assign_Name (store_ok2 (v := V.ref L) I' hN hy (.inl hyl) rfl (fun s2 I2 ⟨a, sb, ha⟩ => ?_) (.inr hyl))
  obtain ⟨f0, f1, f2, f3, f4, f5⟩ := f
  have haC : C ≠ a := by
    rcases ha with z | z
    · rw [z]; exact f1
    · exact fun e => f4 y a z e.symm
  refine ⟨m, hn.sameBut sb haC, fun h3 sb3 => ?_⟩
  exact ⟨_, H', I2.turned (t' := s2.toks) (fun b o hb e => (sb3.2 b hb).trans e) f0 f1 f3 f4 f5, q⟩
theorem sw_true {elt : Expr} {gs : List Comprehension} {scope : Scope} {pos py : Pos} {y : Str} {l : Nat} {env : Env} (hk : env.scope.kind = .function) (hy : env.scope.names.lookup y = some .local) (hl : (py.line == pos.line) = true)
    (ha : (scope.names.any fun (n, k) => n == y && (k == .local || k == .cell)) = false) : swapsWith (.ListComp elt gs scope pos) (some (.Name y py)) l env = pure true := by
  have ky : env.kindOf y = some .local := hy
  have hb : env.blockKind = .function := by unfold Env.blockKind; rw [hk]; rfl
  unfold swapsWith
  simp only [hb, ky, ha, Expr.pos, hl]
  rfl
end

/-! ### the forms one uses -/
/-- over a list that the block leaves as it is -/
theorem lc_list {K : PySem.W.Frag} {a : Addr} {xs : List V} {g : TG} {tt : TT} {te : TE} {vs : List Nat} {σ : St} {H1 : Hp} {D : Addr} {Qd : Hp → Prop} (Pv : Nat → Hp → Prop) (h0 : Pv 0 (upd H1 D (.lst []))) (hl : ∀ i H, i ≤ xs.length → Pv i H → SqL K H a xs)
    (hs : ∀ i x H, xs[i]? = some x → Pv i H → g x (wipe σ vs) H fun σ2 H2 => wipe σ2 vs = wipe σ vs ∧ tt σ2 H2 fun b H3 =>
      if b = true then te σ2 H3 fun y H4 => ∃ acc, H4 D = some (.lst acc) ∧ acc.length < sizeLine ∧ Pv (i + 1) (upd H4 D (.lst (acc ++ [y]))) else Pv (i + 1) H3) (hd : ∀ H, Pv xs.length H → Qd H) :
    ∃ W : Nat → Nat → Hp → Prop, (∃ m, W 0 m (upd H1 D (.lst []))) ∧ ∀ i m H, W i m H →
      ((Itl K a).stop i H ∧ Qd H) ∨ ((Itl K a).go i H ∧ ∃ Nx : Hp → Prop, (∀ H', Nx H' → ∃ m', m' < m ∧ W (i + 1) m' H') ∧ ∀ x H', (Itl K a).yld i H x H' → g x (wipe σ vs) H' fun σ2 H2 => wipe σ2 vs = wipe σ vs ∧ tt σ2 H2 fun b H3 =>
        if b = true then te σ2 H3 fun y H4 => ∃ acc, H4 D = some (.lst acc) ∧ acc.length < sizeLine ∧ Nx (upd H4 D (.lst (acc ++ [y]))) else Nx H3) := by
  refine ⟨fun i m H => m = xs.length - i ∧ i ≤ xs.length ∧ Pv i H, ⟨xs.length, by simp, Nat.zero_le _, h0⟩, ?_⟩
  rintro i m H ⟨rfl, hi, p⟩
  have q := hl i H hi p
  by_cases hlt : i < xs.length
  · refine .inr ⟨⟨xs, xs[i], q, by simp [hlt]⟩, Pv (i + 1), fun H' p' => ⟨xs.length - (i + 1), by omega, rfl, hlt, p'⟩, fun x H' y => ?_⟩
    obtain ⟨e, y⟩ := y
    subst e
    exact hs i x _ (y xs q) p
  · have e : i = xs.length := by omega
    subst e
    exact .inl ⟨⟨xs, q, Nat.le_refl _⟩, hd H p⟩
def blkC (N : List Str) (sc scope : Scope) (own : List (Str × Nat)) : Bool :=
  (match scope.kind with | .function => true | _ => false) && (scope.names.all fun y => decide (scope.names.lookup y.1 = some y.2)) && (own.all fun p => decide (N[p.2]? = some p.1)) &&
    (scope.names.all fun y => match y.2 with
      | .free => (match sc.names.lookup y.1 with | some .cell => true | some .free => true | _ => false)
      | .local => decide (y.1 ∈ own.map (·.1)) || decide (y.1 ∉ N)
      | .cell => decide (y.1 ∈ own.map (·.1)) || decide (y.1 ∉ N)
      | _ => true)
theorem blkOk_by {N : List Str} {sc scope : Scope} {own : List (Str × Nat)} (h : blkC N sc scope own = true) : BlkOk N sc scope own := by
  unfold blkC at h
  simp only [Bool.and_eq_true, List.all_eq_true, decide_eq_true_eq] at h
  obtain ⟨⟨⟨h1, h2⟩, h3⟩, h4⟩ := h
  refine ⟨?_, h2, h3, fun y hy e => ?_, fun y hy e => ?_⟩
  · split at h1
    · assumption
    · cases h1
  · have q := h4 y hy
    simp only [e] at q
    split at q <;> first | exact .inl (by assumption) | exact .inr (by assumption) | cases q
  · have q := h4 y hy
    rcases e with e | e <;> (simp only [e, Bool.or_eq_true, decide_eq_true_eq] at q; exact q)
end L2

namespace L2
open PySem PySem.Spec PyProof.Rows

section
variable {prog : Program} {w : World} {A : Around} {R : Result → Shared → Prop} {s : Shared} {elt t0 i0 t1 i1 : Expr} {ifs0 ifs1 : List Expr} {scope : Scope} {pos : Pos} {it acc : Value} {env : Env}
end

section
variable {X : Cx}
end
end L2

namespace L2
open PySem PySem.Spec PyProof.Rows

/-! ### lists of pairs as tables -/
section
variable {κ : Type} [DecidableEq κ]
def valV (kvs : List (κ × V)) (k : κ) : Option V := (kvs.find? fun kv => decide (kv.1 = k)).map (·.2)
/-- in its place, or at the end -/
def putK (kvs : List (κ × V)) (k : κ) (v : V) : List (κ × V) :=
  if (kvs.any fun kv => decide (kv.1 = k)) = true then kvs.map (fun kv => if kv.1 = k then (kv.1, v) else kv) else kvs ++ [(k, v)]
def dropK (kvs : List (κ × V)) (k : κ) : List (κ × V) := kvs.filter fun kv => decide (kv.1 ≠ k)

theorem valV_pos {p : κ × V} {r : List (κ × V)} {k : κ} (e : p.1 = k) : valV (p :: r) k = some p.2 := by simp [valV, List.find?_cons, e]
theorem valV_neg {p : κ × V} {r : List (κ × V)} {k : κ} (e : ¬ p.1 = k) : valV (p :: r) k = valV r k := by simp [valV, List.find?_cons, e]
theorem valV_any (k : κ) : ∀ kvs : List (κ × V), (kvs.any fun kv => decide (kv.1 = k)) = (valV kvs k).isSome
  | [] => rfl
  | p :: r => by
    rw [List.any_cons]
    by_cases e : p.1 = k
    · simp only [valV_pos e, decide_eq_true e, Bool.true_or, Option.isSome_some]
    · rw [valV_neg e, decide_eq_false e, Bool.false_or]; exact valV_any k r
theorem RelO.isSome_eq {o : Option V} {u : Option Value} (r : RelO o u) : o.isSome = u.isSome := by
  cases o with
  | none => cases u with
    | none => rfl
    | some _ => exact (show False from r).elim
  | some _ => cases u with
    | none => exact (show False from r).elim
    | some _ => rfl
theorem RelO.getD {o : Option V} {u : Option Value} {d : V} {d' : Value} (r : RelO o u) (rd : RelV d d') : RelV (o.getD d) (u.getD d') := by
  cases o with
  | none => cases u with
    | none => exact rd
    | some _ => exact (show False from r).elim
  | some _ => cases u with
    | none => exact (show False from r).elim
    | some _ => exact r

/-- raw tables of the same keys -/
theorem KV.val {kvs : List (κ × V)} {vs : List (κ × Value)} (r : KV kvs vs) (k : κ) : RelO (valV kvs k) (valueAt vs k) := by
  unfold KV at r
  induction r with
  | nil => exact True.intro
  | @cons p q ps qs h t ih =>
    obtain ⟨h1, h2⟩ := h
    by_cases e : p.1 = k
    · have e' : q.1 = k := h1.symm.trans e
      have b : valueAt (q :: qs) k = some q.2 := by simp [valueAt, List.find?_cons, e']
      rw [valV_pos e, b]; exact h2
    · have e' : ¬ q.1 = k := fun z => e (h1.trans z)
      have b : valueAt (q :: qs) k = valueAt qs k := by simp [valueAt, List.find?_cons, e']
      rw [valV_neg e, b]; exact ih
theorem KV.any {kvs : List (κ × V)} {vs : List (κ × Value)} (r : KV kvs vs) (k : κ) : (kvs.any fun kv => decide (kv.1 = k)) = vs.any fun kv => decide (kv.1 = k) := by
  unfold KV at r
  induction r with
  | nil => rfl
  | cons h t ih => rw [List.any_cons, List.any_cons, ih, h.1]
theorem KV.repl {kvs : List (κ × V)} {vs : List (κ × Value)} (r : KV kvs vs) (k : κ) {y : V} {u : Value} (ry : RelV y u) :
    KV (kvs.map fun kv => if kv.1 = k then (kv.1, y) else kv) (vs.map fun kv => if kv.1 = k then (kv.1, u) else kv) := by
  unfold KV at r ⊢
  induction r with
  | nil => exact .nil
  | @cons p q ps qs h t ih =>
    rw [List.map_cons, List.map_cons]
    refine .cons ?_ ih
    obtain ⟨h1, h2⟩ := h
    by_cases e : p.1 = k
    · rw [if_pos e, if_pos (h1.symm.trans e)]; exact ⟨h1, ry⟩
    · rw [if_neg e, if_neg (fun z => e (h1.trans z))]; exact ⟨h1, h2⟩
theorem KV.put {kvs : List (κ × V)} {vs : List (κ × Value)} (r : KV kvs vs) (k : κ) {y : V} {u : Value} (ry : RelV y u) : KV (putK kvs k y) (stored vs k u) := by
  unfold putK stored
  rw [r.any k]
  by_cases e : (vs.any fun kv => decide (kv.1 = k)) = true
  · rw [if_pos e, if_pos e]; exact r.repl k ry
  · rw [if_neg e, if_neg e]; exact Paired.snoc r ⟨rfl, ry⟩
theorem KV.drop {kvs : List (κ × V)} {vs : List (κ × Value)} (r : KV kvs vs) (k : κ) : KV (dropK kvs k) (without vs k) := by
  unfold KV at r ⊢
  unfold dropK without
  induction r with
  | nil => exact .nil
  | @cons p q ps qs h t ih =>
    obtain ⟨h1, h2⟩ := h
    rw [List.filter_cons, List.filter_cons]
    by_cases e : p.1 = k
    · have a : ¬ decide (p.1 ≠ k) = true := by simp [e]
      have b : ¬ decide (q.1 ≠ k) = true := by simp [h1.symm.trans e]
      rw [if_neg a, if_neg b]; exact ih
    · have e' : ¬ q.1 = k := fun z => e (h1.trans z)
      have a : decide (p.1 ≠ k) = true := by simp [e]
      have b : decide (q.1 ≠ k) = true := by simp [e']
      rw [if_pos a, if_pos b]; exact .cons ⟨h1, h2⟩ ih
theorem KV.keys {kvs : List (κ × V)} {vs : List (κ × Value)} (r : KV kvs vs) : kvs.map (·.1) = vs.map (·.1) := by
  unfold KV at r
  induction r with
  | nil => rfl
  | cons h t ih => rw [List.map_cons, List.map_cons, ih, h.1]
theorem KV.length {kvs : List (κ × V)} {vs : List (κ × Value)} (r : KV kvs vs) : kvs.length = vs.length := Paired.length r
end

/-! ### a tracked dict, its keys ints and texts or tuples of these -/
/-- raw entries of a dict with tuple keys -/
abbrev KT (H : Hp) : List (List Key × V) → List (List Key × Addr × Value) → Prop := Paired fun p q => p.1 = q.1 ∧ H q.2.1 = some (.tup (p.1.map kV)) ∧ RelV p.2 q.2.2
theorem KT.val {H : Hp} {kvs : List (List Key × V)} {xs : List (List Key × Addr × Value)} (r : KT H kvs xs) (k : List Key) : RelO (valV kvs k) ((atKey xs k).map (·.2)) := by
  induction r with
  | nil => exact True.intro
  | @cons p q ps qs h t ih =>
    obtain ⟨h1, _, h2⟩ := h
    by_cases e : p.1 = k
    · have e' : q.1 = k := h1.symm.trans e
      have b : atKey (q :: qs) k = some q.2 := by simp [atKey, List.find?_cons, e']
      rw [valV_pos e, b]; exact h2
    · have e' : ¬ q.1 = k := fun z => e (h1.trans z)
      have b : atKey (q :: qs) k = atKey qs k := by simp [atKey, List.find?_cons, e']
      rw [valV_neg e, b]; exact ih
theorem KT.repl {H : Hp} {kvs : List (List Key × V)} {xs : List (List Key × Addr × Value)} (r : KT H kvs xs) (k : List Key) {y : V} {u : Value} (ry : RelV y u) :
    KT H (kvs.map fun kv => if kv.1 = k then (kv.1, y) else kv) (xs.map (putAt k u)) := by
  induction r with
  | nil => exact .nil
  | @cons p q ps qs h t ih =>
    rw [List.map_cons, List.map_cons]
    refine .cons ?_ ih
    obtain ⟨h1, h2, h3⟩ := h
    unfold putAt
    by_cases e : p.1 = k
    · rw [if_pos e, if_pos (h1.symm.trans e)]; exact ⟨h1, h2, ry⟩
    · rw [if_neg e, if_neg (fun z => e (h1.trans z))]; exact ⟨h1, h2, h3⟩
theorem KT.put {H : Hp} {kvs : List (List Key × V)} {xs : List (List Key × Addr × Value)} (r : KT H kvs xs) (k : List Key) {b : Addr} {y : V} {u : Value} (hb : H b = some (.tup (k.map kV))) (ry : RelV y u) :
    KT H (putK kvs k y) (storedH xs k b u) := by
  have e : (kvs.any fun kv => decide (kv.1 = k)) = (atKey xs k).isSome := by
    rw [valV_any, (r.val k).isSome_eq, Option.isSome_map]
  unfold putK storedH
  rw [e]
  by_cases q : (atKey xs k).isSome = true
  · rw [if_pos q, if_pos q]; exact r.repl k ry
  · rw [if_neg q, if_neg q]; exact Paired.snoc r ⟨rfl, hb, ry⟩
theorem KT.keeps {H H' : Hp} {kvs : List (List Key × V)} {xs : List (List Key × Addr × Value)} (r : KT H kvs xs) (ht : ∀ b ys, H b = some (.tup ys) → H' b = some (.tup ys)) : KT H' kvs xs :=
  Paired.mapP r fun _ _ z => ⟨z.1, ht _ _ z.2.1, z.2.2⟩

section
variable {P : Program} {w : World} {H : Hp} {h : Heap} {a : Addr}
end

/-- what the dict at a holds at the key y -/
def DGet (H : Hp) (a : Addr) (y : V) (r : Option V) : Prop :=
  (∃ kvs k, Rd H a (.dK kvs) ∧ y = kV k ∧ r = valV kvs k) ∨ ∃ kvs k b, Rd H a (.dT kvs) ∧ y = .ref b ∧ H b = some (.tup (k.map kV)) ∧ r = valV kvs k
/-- the heap behind a[y] = v -/
def DPut (H : Hp) (a : Addr) (y v : V) (H' : Hp) : Prop :=
  (∃ kvs k, H a = some (.dK kvs) ∧ y = kV k ∧ kvs.length < sizeLine ∧ H' = upd H a (.dK (putK kvs k v))) ∨
  ∃ kvs k b, H a = some (.dT kvs) ∧ y = .ref b ∧ H b = some (.tup (k.map kV)) ∧ kvs.length < sizeLine ∧ H' = upd H a (.dT (putK kvs k v))
theorem DGet.k {H : Hp} {a : Addr} {kvs : List (Key × V)} {k : Key} (e : H a = some (.dK kvs)) : DGet H a (kV k) (valV kvs k) := .inl ⟨kvs, k, .inl e, rfl, rfl⟩
theorem DGet.t {H : Hp} {a b : Addr} {kvs : List (List Key × V)} {k : List Key} (e : H a = some (.dT kvs)) (eb : H b = some (.tup (k.map kV))) : DGet H a (.ref b) (valV kvs k) := .inr ⟨kvs, k, b, .inl e, rfl, eb, rfl⟩
theorem DPut.k {H : Hp} {a : Addr} {kvs : List (Key × V)} {k : Key} {v : V} (e : H a = some (.dK kvs)) (hl : kvs.length < sizeLine) : DPut H a (kV k) v (upd H a (.dK (putK kvs k v))) := .inl ⟨kvs, k, e, rfl, hl, rfl⟩
theorem DPut.t {H : Hp} {a b : Addr} {kvs : List (List Key × V)} {k : List Key} {v : V} (e : H a = some (.dT kvs)) (eb : H b = some (.tup (k.map kV))) (hl : kvs.length < sizeLine) :
    DPut H a (.ref b) v (upd H a (.dT (putK kvs k v))) := .inr ⟨kvs, k, b, e, rfl, eb, hl, rfl⟩

section
variable {X : Cx} {pins : List (Addr × Obj)} {σ : St} {H : Hp} {s : Shared} {a : Addr} {y v : V} {u r : Value} {o : Option V} {A : Around} {E : Value → Shared → Prop}

end

section
variable {X : Cx} {pins : List (Addr × Obj)} {σ : St} {H : Hp} {s : Shared} {a : Addr} {kvs : List (Key × V)} {k : Key} {u : Value} {A : Around} {E : Value → Shared → Prop}
end

/-! ### readings and rules -/
/-- the element of a subscription, not a slice -/
def NoSl (i : Expr) : Prop := ∀ ov iv, subscripted i false ov iv = operate [ov, iv] (getItem ov iv)
theorem subD_of {prog : Program} {w : World} {A : Around} {E : Value → Shared → Prop} {s : Shared} {env : Env} {value slice : Expr} {pos : Pos} {T id : String} {Q : Value → Shared → Prop}
    (hl : typeLookup (.type T) "__getitem__" = pure (some (.builtin id))) (hs : NoSl slice)
    (h : wpAny (model prog w) A (eval value env) (fun o s₁ => wpAny (model prog w) A (eval slice env) (fun i s₂ => s₂.TypeIs o T ∧ wpAny (model prog w) A (getItem o i) Q E s₂) E s₁) E s) :
    wpAny (model prog w) A (eval (.Subscript value slice pos) env) Q E s := by
  refine Subscript_ (wpAny_mono h (fun o s₁ h₁ => wpAny_mono h₁ (fun i s₂ h₂ => ?_) fun _ _ x => x) fun _ _ x => x)
  obtain ⟨hT, h₂⟩ := h₂
  unfold subscriptTail
  refine wpAny_bind ?_
  rw [getitemInPython_of_ne hT.not_modules]
  refine wpAny_bind (wpAny_specialOf hT hl ?_)
  have fin : wpAny (model prog w) A (subscripted slice false o i) (fun r s₃ => wpAny (model prog w) A (letTemporaryGo value o r >>= fun _ => pure r) Q E s₃) E s₂ := by
    rw [hs o i]
    exact wpAny_operating (wpAny_mono h₂ (fun r s₃ h₃ => wpAny_bind (wpAny_letTemporaryGo (wpAny_pure h₃))) fun _ _ x => x)
  first
    | exact wpAny_pure (wpAny_bind fin)
    | exact wpAny_bind (wpAny_pure (wpAny_bind fin))
    | exact wpAny_bind fin

section
variable {X : Cx} {o i e value : Expr} {pos pos' tpos : Pos} {td ty tv : TE}
end

/-! ### displays -/
section
variable {X : Cx} {pos : Pos}
end

abbrev VV : List (V × V) → List (Value × Value) → Prop := Paired fun p q => RelV p.1 q.1 ∧ RelV p.2 q.2
/-! ### methods -/
/-- a method call o.m(e) of a built-in, with one argument: what must be seen of the text -/
structure M1 (X : Cx) (o : Expr) (m : Str) (apos : Pos) (e : Expr) (cpos : Pos) : Prop where
  base : attributeBase o m X.env (eval o X.env) = eval o X.env
  few : ((backTo cpos (starEach [e] X.env)).all (fun x => !x.1) && (backToKw cpos (keywordEach [] X.env)).all (fun x => x.1.isSome)
    && decide (([e] : List Expr).length + ([] : List Keyword).length + (if ([] : List Keyword).isEmpty then 0 else 1) < 30)) = true
  line : (apos.endLine == cpos.line) = true
  trees : backTo cpos (starEach [e] X.env) = [(false, eval e X.env)]
structure M2 (X : Cx) (o : Expr) (m : Str) (apos : Pos) (e f : Expr) (cpos : Pos) : Prop where
  base : attributeBase o m X.env (eval o X.env) = eval o X.env
  few : ((backTo cpos (starEach [e, f] X.env)).all (fun x => !x.1) && (backToKw cpos (keywordEach [] X.env)).all (fun x => x.1.isSome)
    && decide (([e, f] : List Expr).length + ([] : List Keyword).length + (if ([] : List Keyword).isEmpty then 0 else 1) < 30)) = true
  line : (apos.endLine == cpos.line) = true
  trees : backTo cpos (starEach [e, f] X.env) = [(false, eval e X.env), (false, eval f X.env)]

section
variable {X : Cx} {pins : List (Addr × Obj)} {σ : St} {H : Hp} {s : Shared} {a : Addr} {y d : V} {u r : Value} {o : Option V} {A : Around} {E : Value → Shared → Prop}
end

section
variable {X : Cx} {o e f : Expr} {apos cpos : Pos} {td ty tx : TE}
end

/-! ### dict(d): a copy -/
section
variable {X : Cx} {pins : List (Addr × Obj)} {σ : St} {H : Hp} {s : Shared} {a : Addr} {kvs : List (Key × V)} {A : Around} {E : Value → Shared → Prop}
end

section
variable {X : Cx} {pins : List (Addr × Obj)} {σ : St} {H : Hp} {s : Shared} {a : Addr} {y : V} {u : Value} {A : Around} {E : Value → Shared → Prop}
end
end L2

namespace L2
open PySem PySem.Spec PyProof.Rows

section
variable {prog : Program} {w : World} {A : Around} {E : Value → Shared → Prop}
end

section
variable {X : Cx}
end
end L2

namespace L2
open PySem PySem.Spec PyProof.Rows

theorem boot_reversed5 : bootBuiltins "reversed" = some (.type "reversed") := by decide +kernel

section
variable {X : Cx} {pins : List (Addr × Obj)} {σ : St} {H : Hp} {s : Shared} {h' : Heap}
/-- .. and one new object is laid -/
theorem Inv.turnedNew {t' : Nat} {ch : List Addr} {T : Addr} {ob : HO} (I : Inv X pins σ H s) (k : ∀ b o, b ∉ ch → s.heap.get? b = some o → h'.get? b = some o) (hf : ∀ b ∈ ch, FpOk X pins H b) (hT : s.heap.objs.size ≤ T)
    (new : ObjOk X.prog X.w (upd H T ob) h' T ob) : Inv X pins σ (upd H T ob) { s with heap := h', toks := t' } := by
  have hn : H T = none := I.hok.fresh hT
  have nit : ∀ b u, H b = some u → b ∉ ch := fun b u e z => by
    have q := (hf b z).1
    rw [q] at e; cases e
  refine I.step (g' := s.gens) (d' := s.drawn) (ch := ch) (fun b hb => ⟨(hf b hb).2.2.2.1, (hf b hb).2.1, (hf b hb).2.2.2.2.1, (hf b hb).2.2.2.2.2⟩) (fun b o _ _ hc e _ => k b o hc e) (fun b o _ _ hc e _ => ⟨o.slots, k b o hc e⟩)
    (fun b o _ e n => ?_) (fun b o hc e => ⟨o, k b o hc e⟩) (fun b xs e => ?_) (fun b o u e => ?_) (fun b ps e => ⟨#[], ?_⟩) (fun m hm => ?_) (fun b u e => ?_) I.bare
  · rw [upd_ne (Nat.ne_of_lt (Nat.lt_of_lt_of_le (Heap.lt_size e) hT))]; exact n
  · rw [upd_ne (ne_of_none e hn)]; exact e
  · rw [upd_ne (ne_of_none e hn)]; exact e
  · rw [upd_ne (ne_of_none e hn), e]; simp
  · obtain ⟨o, es, ep, ho, r⟩ := hm
    exact ⟨o, es, ep, k _ o (fun z => (hf _ z).2.1 rfl) ho, r⟩
  · by_cases hb : b = T
    · subst hb
      rw [upd_same] at e
      cases e
      exact new
    · rw [upd_ne hb] at e
      refine (I.hok b u e).stay (fun c v hc q => k c v ?_ q) (fun c q => by rw [upd_ne (ne_of_none q hn)]; exact q) fun c xs q => by rw [upd_ne (ne_of_none q hn)]; exact q
      rcases hc with z | z
      · rw [z]; exact nit b u e
      · exact nit c _ z

/-! ### locking a thing while a statement runs -/
end
section
variable {X : Cx}
/-! ### one iterator just laid -/
theorem pi_one {tg : Expr} {pins : List (Addr × Obj)} {σ : St} {H : Hp} {s : Shared} {R : It → Hp → Prop} {J : It} {tn : Nat → Heap → Prop} {tk : Nat} (I : Inv X pins σ H s) (o : Obj)
    (T : Turn X.prog X.w X.K tg J [s.heap.objs.size] s.heap.objs.size tn) (st : tn 0 (s.heap.push o)) (q : R J H) : PIE X pins σ tg R (.ref s.heap.objs.size) { s with heap := s.heap.push o, toks := tk } := by
  refine ⟨s.heap.objs.size, [s.heap.objs.size], tn, J, H, rfl, I.kept fun b ob e => Heap.get?_push_of_some _ e, T, st, fun b hb => ?_, q⟩
  have e : b = s.heap.objs.size := by simpa using hb
  subst e
  exact I.fpOk (Nat.le_refl _) (I.hok.fresh (Nat.le_refl _))
end

/-! ### range with a step -/
/-- lo, lo + c, .. (n of them) -/
def Itc (lo c : Int) (n : Nat) : It := ⟨fun i _ => i < n, fun i H x H' => H' = H ∧ x = .int (lo + (i : Nat) * c), fun i _ => n ≤ i⟩
theorem turn_rangeC {P : Program} {w : World} {K : PySem.W.Frag} {tg : Expr} (it : Addr) (lo c : Int) (n : Nat) : Turn P w K tg (Itc lo c n) [it] it (fun i h => IsRangeIter h it (lo + (i : Nat) * c) ((n : Int) - (i : Nat)) c) where
  mem := by simp
  obj := fun i h st b hb => by
    have e : b = it := by simpa using hb
    subst e
    exact ⟨_, st, fun v z => nomatch z⟩
  keep := fun i h h' st k => k it (by simp) _ st
  item := by
    intro X hP hw hK hc i pins s σ H E I hf st hg
    subst hP hw hK
    obtain ⟨f0, f1, f2, f3, f4, f5⟩ := hf it (by simp)
    have W := Walks.range (prog := X.prog) (w := X.w) (I.ok.hd hc) it lo c n
    refine W.item i s _ _ hg st fun v h' tk hv st' kk => ?_
    obtain ⟨t, rfl⟩ := hv
    have I1 : Inv X pins σ H { s with heap := h', toks := tk } := I.turned (fun b o hb e => kk b o (by simpa using hb) e) f0 f1 f3 f4 f5
    exact ⟨_, rfl, go_of (s := { s with heap := h', toks := tk }) (n := "range_iterator") st' rfl rfl (by decide) ⟨.int (lo + (i : Nat) * c), H, I1, ⟨t, rfl⟩, ⟨rfl, rfl⟩, st', fun b hb => (hf b hb).1⟩⟩
  done := by
    intro X hP hw hK hc i pins s σ H E I hf st hg
    subst hP hw hK
    obtain ⟨f0, f1, f2, f3, f4, f5⟩ := hf it (by simp)
    exact wpAny_pyNext_range_end (I.ok.hd hc) st (by have : n ≤ i := hg; omega) fun h' eb => ⟨rfl, I.turned (t' := s.toks) (fun b o hb e => eb b o hb e) f0 f1 f3 f4 f5⟩
  self := fun A i s Q E st h => wpAny_pyIter_rangeiter st h
/-- range(i, j, c): small bounds, n items -/
def RgC (i j c : Int) (n : Nat) : Prop := c ≠ 0 ∧ c.natAbs < 1073741824 ∧ Builtin.Range.small i j c = true ∧ Builtin.Range.rangeSize i j c = n
theorem RgC.neg {i j : Int} (ha : -(2 ^ 62) ≤ i) (ha' : i < 2 ^ 62) (hb : -(2 ^ 62) ≤ j) (hb' : j < 2 ^ 62) : RgC i j (-1) (i - j).toNat :=
  ⟨by decide, by decide, PySem.W.small_down ha ha' hb hb', PySem.W.rangeSize_downNat i j⟩
def iRng3 (ta : TA) : TI := fun σ H R => ta σ H fun vs H1 => ∃ (i j c : Int) (n : Nat), vs = [.int i, .int j, .int c] ∧ RgC i j c n ∧ R (Itc i c n) H1
section
variable {X : Cx} {tg : Expr}
theorem pi_range3 {a b c : Expr} {ta : TA} {p pos : Pos} (hg : Gl X "range") (hm : X.mg "range" = none) (ha : PA X [a, b, c] ta)
    (hs : starEach [a, b, c] X.env = (false, eval a X.env) :: starEach [b, c] X.env := by rfl) (hpl : (backTo pos (starEach [b, c] X.env)).any (·.1) = false := by rfl) :
    PI X tg (.Call (.Name "range" p) [a, b, c] [] pos) (iRng3 ta) := by
  intro pins s σ H R I h
  refine Call_ (ld_blt I hg hm boot_range (PyProof.Rows.callWith_type1 (thn (ha pos pins s σ H _ I h) fun us s1 ⟨vs, H1, I1, r1, q1⟩ => ?_) hs hpl))
  obtain ⟨i, j, k, n, e, ⟨c0, c1, c2, c3⟩, q⟩ := q1
  subst e
  cases r1 with
  | cons r rr =>
    cases rr with
    | cons r' rr =>
      cases rr with
      | cons r'' rr =>
        cases rr
        obtain ⟨t, rfl⟩ := r
        obtain ⟨t', rfl⟩ := r'
        obtain ⟨t'', rfl⟩ := r''
        refine call_range_3 c0 ?_ (.inl (PyProof.noPylong_small c1))
        refine wpAny_pyIter_range (IsRange.new ..) c2 ?_
        have I2 : Inv X pins σ H1 { s1 with heap := s1.heap.push { cls := .type "range", data := .fields #[.int i t, .int j t', .int k t''] } } := I1.kept (t' := s1.toks) fun b o e => Heap.get?_push_of_some _ e
        refine pi_one (tk := s1.toks) I2 _ (turn_rangeC _ i k n) ?_ q
        have e1 : i + ((0 : Nat) : Int) * k = i := by simp
        have e2 : (n : Int) - ((0 : Nat) : Int) = Builtin.Range.rangeSize i j k := by rw [c3]; simp
        show IsRangeIter _ _ (i + ((0 : Nat) : Int) * k) ((n : Int) - ((0 : Nat) : Int)) k
        rw [e1, e2]
        exact Heap.get?_push_size _ rfl
end
/-! ### reversed(list) -/
/-- the list at a (n items at the start, which the loop leaves there), from its end -/
def Itv (K : PySem.W.Frag) (a : Addr) (n : Nat) : It :=
  ⟨fun i H => i < n ∧ ∃ (xs : List V) (x : V), SqL K H a xs ∧ xs[n - 1 - i]? = some x, fun i H x H' => H' = H ∧ ∀ xs, SqL K H a xs → xs[n - 1 - i]? = some x, fun i _ => n ≤ i⟩
theorem turn_rev {P : Program} {w : World} {K : PySem.W.Frag} {tg : Expr} (a it : Addr) (n : Nat) : Turn P w K tg (Itv K a n) [it] it (fun i h => i ≤ n ∧ h.IsRevIter it a ((n : Int) - 1 - (i : Nat))) where
  mem := by simp
  obj := fun i h st b hb => by
    have e : b = it := by simpa using hb
    subst e
    obtain ⟨_, o, e, c, d⟩ := st
    exact ⟨o, e, fun v z => by rw [d] at z; cases z⟩
  keep := fun i h h' st k => ⟨st.1, st.2.at fun o e => k it (by simp) o e⟩
  item := by
    intro X hP hw hK hc i pins s σ H E I hf st hg
    subst hP hw hK
    obtain ⟨hin, xs, x, hq, hx⟩ := hg
    obtain ⟨its, rv, p, hz⟩ := I.list hq
    obtain ⟨u, hu, ru⟩ := rv.get hx
    obtain ⟨f0, f1, f2, f3, f4, f5⟩ := hf it (by simp)
    obtain ⟨_, hit⟩ := st
    have e1 : (n : Int) - 1 - ((i : Nat) : Int) = ((n - 1 - i : Nat) : Int) := by omega
    rw [e1] at hit
    refine wpAny_pyNext_rev_item hit p.isList (x := u) (by simpa using hu) fun h' st' sb => ?_
    have e2 : ((n - 1 - i : Nat) : Int) - 1 = (n : Int) - 1 - ((i + 1 : Nat) : Int) := by omega
    rw [e2] at st'
    have I1 : Inv X pins σ H { s with heap := h' } := I.turned (t' := s.toks) (fun b o hb e => (sb.2 b hb).trans e) f0 f1 f3 f4 f5
    obtain ⟨o, e, c, d⟩ := id st'
    exact ⟨u, rfl, go_of (s := { s with heap := h' }) e c d (by decide) ⟨x, H, I1, ru, ⟨rfl, fun ys hy => by rw [I.list_inj hy hq]; exact hx⟩, ⟨hin, st'⟩, fun b hb => (hf b hb).1⟩⟩
  done := by
    intro X hP hw hK hc i pins s σ H E I hf st hg
    subst hP hw hK
    obtain ⟨f0, f1, f2, f3, f4, f5⟩ := hf it (by simp)
    obtain ⟨hin, hit⟩ := st
    have hge : n ≤ i := hg
    have e1 : (n : Int) - 1 - ((i : Nat) : Int) = -1 := by omega
    rw [e1] at hit
    exact wpAny_pyNext_rev_end (I.ok.hd hc) hit fun h' eb => ⟨rfl, I.turned (t' := s.toks) (fun b o hb e => eb b o hb e) f0 f1 f3 f4 f5⟩
  self := fun A i s Q E st h => wpAny_pyIter_revIter st.2 h
def iRev (K : PySem.W.Frag) (ta : TA) : TI := fun σ H R => ta σ H fun vs H1 => ∃ (a : Addr) (xs : List V), vs = [.ref a] ∧ SqL K H1 a xs ∧ R (Itv K a xs.length) H1
section
variable {X : Cx} {tg : Expr}
theorem pi_reversed {e : Expr} {ta : TA} {p pos : Pos} (hg : Gl X "reversed") (hm : X.mg "reversed" = none) (ha : PA X [e] ta) (hs : starEach [e] X.env = [(false, eval e X.env)] := by rfl) : PI X tg (.Call (.Name "reversed" p) [e] [] pos) (iRev X.K ta) := by
  intro pins s σ H R I h
  refine Call_ (ld_blt I hg hm boot_reversed5 (PyProof.Rows.callWith_type1 (thn (ha pos pins s σ H _ I h) fun us s1 ⟨vs, H1, I1, r1, q1⟩ => ?_) hs rfl))
  obtain ⟨a, xs, e, hq, q⟩ := q1
  subst e
  cases r1 with
  | cons r rr =>
    cases rr
    cases r
    obtain ⟨its, rv, p', hz⟩ := I1.list hq
    have hl := rv.length
    have e1 : ((its.toArray.size : Nat) : Int) - 1 = (xs.length : Int) - 1 - ((0 : Nat) : Int) := by simp only [List.size_toArray]; omega
    refine call_reversed_list p'.isList (wpAny_pyIter_revIter (l := a) (i := ((its.toArray.size : Nat) : Int) - 1) ⟨_, Heap.get?_push_size _ rfl, rfl, rfl⟩ ?_)
    refine pi_one (tk := s1.toks) I1 _ (turn_rev a _ xs.length) ⟨Nat.zero_le _, ?_⟩ q
    rw [← e1]
    exact ⟨_, Heap.get?_push_size _ rfl, rfl, rfl⟩
end

/-! ### a str -/
/-! ### a dict's keys: any dict's entries -/
section
variable {prog : Program} {w : World} {A : Around} {E : Value → Shared → Prop} {s : Shared}
end

/-! ### a locked dict -/
section
variable {X : Cx} {pins : List (Addr × Obj)} {σ : St} {H : Hp} {s : Shared} {d : Addr} {o : Obj}
end

section
variable {P : Program} {w : World} {K : PySem.W.Frag} {tg : Expr} {d : Addr} {o : Obj} {es : Array DictEntry} {ep : Nat}
end

/-! ### for k in d, d.keys(), d.values(), d.items() -/
section
variable {X : Cx} {tg e : Expr} {td : TE} {apos cpos : Pos}
end

/-! ### enumerate(list) -/
/-- the list at a as it stands at each turn, each item in a new pair -/
def Ite (K : PySem.W.Frag) (a : Addr) : It :=
  ⟨fun i H => ∃ (xs : List V) (x : V), SqL K H a xs ∧ xs[i]? = some x, fun i H v H' => ∃ T x, v = .ref T ∧ H T = none ∧ H' = upd H T (.tup [.int (i : Nat), x]) ∧ ∀ xs, SqL K H a xs → xs[i]? = some x, fun i H => ∃ xs : List V, SqL K H a xs ∧ xs.length ≤ i⟩
theorem turn_enum {P : Program} {w : World} {K : PySem.W.Frag} {elts : List Expr} {kk : Nat} {tpos : Pos} (a e it : Addr) :
    Turn P w K (.Tuple elts kk tpos) (Ite K a) [e, it] e (fun i h => (∃ old, IsEnum h e it ((i : Nat) : Int) old) ∧ h.IsListIter it a i ∧ e ≠ it) where
  mem := by simp
  obj := fun i h st b hb => by
    obtain ⟨⟨old, he⟩, ⟨o, ho, hc, hd⟩, _⟩ := st
    have e' : b = e ∨ b = it := by simpa using hb
    rcases e' with z | z
    · rw [z]; exact ⟨_, he, fun v q => nomatch q⟩
    · rw [z]; exact ⟨o, ho, fun v q => by rw [hd] at q; cases q⟩
  keep := fun i h h' st k => let ⟨⟨old, he⟩, hi, hne⟩ := st; ⟨⟨old, k e (by simp) _ he⟩, hi.at fun o q => k it (by simp) o q, hne⟩
  item := by
    intro X hP hw hK hc i pins s σ H E I hf st hg
    subst hP hw hK
    obtain ⟨⟨old, he⟩, hit, hne⟩ := st
    obtain ⟨xs, x, hq, hx⟩ := hg
    obtain ⟨its, rv, p, hz⟩ := I.list hq
    obtain ⟨u, hu, ru⟩ := rv.get hx
    have hel : e < s.heap.objs.size := Heap.lt_size he
    have hil : it < s.heap.objs.size := by obtain ⟨_, q, _⟩ := hit; exact Heap.lt_size q
    refine wpAny_pyNext_enum_item he hit p.isList (x := u) (by simpa using hu) hne fun h' ho hit' hT hsz hk => ?_
    refine ⟨_, rfl, wpAny_letOwnedTupleGo_enum (s := { s with heap := h', toks := s.toks + 1 }) ho fun h'' he' sb => ?_⟩
    have hT2 : h''.get? s.heap.objs.size = some { cls := .type "tuple", data := .seq #[.int i s.toks, u] } := (sb.2 _ (Nat.ne_of_gt hel)).trans hT
    have new : ObjOk X.prog X.w (upd H s.heap.objs.size (.tup [.int (i : Nat), x])) h'' s.heap.objs.size (.tup [.int (i : Nat), x]) :=
      ⟨by show 2 ≤ sizeLine; decide, [.int i s.toks, u], .cons ⟨_, rfl⟩ (.cons ru .nil), ⟨_, hT2, rfl, _, rfl⟩⟩
    have I1 : Inv X pins σ (upd H s.heap.objs.size (.tup [.int (i : Nat), x])) { s with heap := h'', toks := s.toks + 1 } :=
      I.turnedNew (ch := [e, it]) (fun b ob hb q => (sb.2 b (fun z => hb (by simp [z]))).trans (hk b ob (fun z => hb (by simp [z])) (fun z => hb (by simp [z])) q)) hf (Nat.le_refl _) new
    refine ⟨.ref s.heap.objs.size, _, I1, rfl, ⟨_, x, rfl, I.hok.fresh (Nat.le_refl _), rfl, fun ys hy => by rw [I.list_inj hy hq]; exact hx⟩, ⟨⟨u, ?_⟩, hit'.at fun o q => (sb.2 it (Ne.symm hne)).trans q, hne⟩, fun b hb => ?_⟩
    · have e1 : ((i + 1 : Nat) : Int) = (i : Int) + 1 := by omega
      rw [e1]; exact he'
    · have hb' : b < s.heap.objs.size := by
        have e' : b = e ∨ b = it := by simpa using hb
        rcases e' with z | z
        · rw [z]; exact hel
        · rw [z]; exact hil
      rw [upd_ne (Nat.ne_of_lt hb')]
      exact (hf b hb).1
  done := by
    intro X hP hw hK hc i pins s σ H E I hf st hg
    subst hP hw hK
    obtain ⟨⟨old, he⟩, hit, hne⟩ := st
    obtain ⟨xs, hq, hx⟩ := hg
    obtain ⟨its, rv, p, hz⟩ := I.list hq
    obtain ⟨f0, f1, f2, f3, f4, f5⟩ := hf it (by simp)
    have hl := rv.length
    exact wpAny_pyNext_enum_end (I.ok.hd hc) he hit p.isList (by simp; omega) fun h' eb => ⟨rfl, I.turned (t' := s.toks) (fun b o hb q => eb b o hb q) f0 f1 f3 f4 f5⟩
  self := fun A i s Q E st h => let ⟨⟨_, he⟩, _⟩ := st; wpAny_pyIter_enum he h
def iEnum (K : PySem.W.Frag) (ta : TA) : TI := fun σ H R => ta σ H fun vs H1 => ∃ a xs, vs = [.ref a] ∧ SqL K H1 a xs ∧ R (Ite K a) H1
theorem pi_enum {X : Cx} {e : Expr} {ta : TA} {p pos tpos : Pos} {elts : List Expr} {kk : Nat} (hg : Gl X "enumerate") (hm : X.mg "enumerate" = none) (ha : PA X [e] ta) (hs : starEach [e] X.env = [(false, eval e X.env)] := by rfl) :
    PI X (.Tuple elts kk tpos) (.Call (.Name "enumerate" p) [e] [] pos) (iEnum X.K ta) := by
  intro pins s σ H R I h
  refine Call_ (ld_blt I hg hm boot_enumerate (PyProof.Rows.callWith_type1 (thn (ha pos pins s σ H _ I h) fun us s1 ⟨vs, H1, I1, r1, q1⟩ => ?_) hs rfl))
  obtain ⟨a, xs, ex, hq, q⟩ := q1
  subst ex
  cases r1 with
  | cons r rr =>
    cases rr
    cases r
    obtain ⟨its, rv, p', hz⟩ := I1.list hq
    refine call_enumerate_list p'.isList fun h' he hit hsz hk => wpAny_pyIter_enum he ?_
    have I2 : Inv X pins σ H1 { s1 with heap := h' } := I1.kept (t' := s1.toks) hk
    refine ⟨s1.heap.objs.size + 1, [s1.heap.objs.size + 1, s1.heap.objs.size], _, _, H1, rfl, I2, turn_enum a (s1.heap.objs.size + 1) s1.heap.objs.size, ⟨⟨.none, he⟩, hit, Nat.succ_ne_self _⟩, fun b hb => ?_, q⟩
    have e' : b = s1.heap.objs.size + 1 ∨ b = s1.heap.objs.size := by simpa using hb
    have hle : s1.heap.objs.size ≤ b := by
      rcases e' with z | z
      · rw [z]; exact Nat.le_add_right _ _
      · rw [z]; exact Nat.le_refl _
    exact I1.fpOk hle (I1.hok.fresh hle)
/-! ### zip(list, list) -/
end L2

section 
namespace Bits
open PySem PyProof.Rows

end Bits
end 

section 
namespace TL
open PySem PySem.Builtin PySem.Builtin.Str PySem.StrLaws

abbrev tl (x : Str) : List Nat := x.cps.toList
/-! ### the list functions -/
/-- S stands at the head of l -/
def pre (S l : List Nat) : Bool := l.take S.length == S
/-- l cut at each S from the left; k signs are still to be passed over -/
def spl (S : List Nat) : Nat → List Nat → List Nat → List (List Nat)
  | _, acc, [] => [acc]
  | 0, acc, c :: r => if pre S (c :: r) = true then acc :: spl S (S.length - 1) [] r else spl S 0 (acc ++ [c]) r
  | k + 1, acc, _ :: r => spl S k acc r
/-- what stands before the first S, and behind it -/
def par (S : List Nat) : List Nat → List Nat → Option (List Nat × List Nat)
  | _, [] => none
  | acc, c :: r => if pre S (c :: r) = true then some (acc, (c :: r).drop S.length) else par S (acc ++ [c]) r

/-! ### the model's split and partition are these -/
/-! ### computing spl and par -/
/-! ### digits -/
/-! ### words: x.split() -/
end TL
end 

namespace L2
open PySem PySem.Spec PyProof.Rows

section
variable {X : Cx} {pins : List (Addr × Obj)} {σ : St} {H : Hp} {s : Shared} {Q : VK}
end

section
variable {X : Cx}

/-! ### of a text alone -/
/-! ### of a text and a text -/
end

section
variable {X : Cx} {o e : Expr} {to te : TE}
def tM0 (r : V → List V → Hp → VK → Prop) (to : TE) : TE := fun σ H Q => to σ H fun x H1 => (∃ a, x = .str a) ∧ r x [] H1 Q
theorem pe_m0 {id : String} {name : Str} {apos pos : Pos} {r : V → List V → Hp → VK → Prop} (slot : Slot "str" name id) (ty : typeOf (.builtin id) = pure (.type "method_descriptor")) (rule : MtR X id r) (ho : PE X o to)
    (hbase : attributeBase o name X.env (eval o X.env) = eval o X.env := by rfl) (hline : (apos.endLine == pos.line) = true := by rfl) : PE X (.Call (.Attribute o name apos) [] [] pos) (tM0 r to) := by
  intro pins s σ H Q I h
  refine PySem.Call_method0 hbase hline (thn (ho pins s σ H _ I h) fun v s1 ⟨x, H1, I1, r1, q1⟩ => ?_)
  obtain ⟨⟨a, rfl⟩, q1⟩ := q1
  obtain ⟨t, rfl⟩ := _root_.id r1
  exact ⟨"str", _, F.plainAttrs_str, slot, ty, typeIs_str _ _ _, (fun _ e => nomatch e), Calls.callWith_builtin rfl (PySem.evalArgs_none (rule pins s1 σ H1 _ [] _ [] Q I1 r1 .nil q1))⟩
end
end L2

namespace L2
open PySem PySem.Spec PyProof.Rows

section
variable {X : Cx}
end

/-! ### slices of a text -/
theorem IsPart.raw {v : Value} {o : Option Int} (p : IsPart v o) : ∃ l : Option (Int × Tok), v = partValue l ∧ l.map (·.1) = o := by
  cases p with
  | none => exact ⟨none, rfl, rfl⟩
  | int i t => exact ⟨some (i, t), rfl, rfl⟩

end L2

namespace Att
open PySem PySem.W PySem.Calls PyProof.Rows

/-! ### the script -/
/-! ### the attachment: holds_open's last premise (the goal 'hc' behind k_head) from a wpAny of the law's body -/
/-! ### rules over ANY heap (no ledger) from facts about the written part K: the library's own take a ledger (News) for what they write -/
section
variable {prog : Program} {w : World} {A : Around} {E : Value → Shared → Prop} {s : Shared} {K : Frag}

/-! the whole heap as the ledger: makes every rule that writes through a ledger a rule over any heap -/
def ledger (h : Heap) (L d : Addr) : List (Addr × Obj) := (List.range h.objs.size).filterMap fun a => if a = L ∨ a = d then none else (h.get? a).map fun o => (a, o)
end
end Att

namespace L2
open PySem PySem.Spec PyProof.Rows

end L2

namespace L2
open PySem PySem.Spec PyProof.Rows

abbrev KOf {K : PySem.W.Frag} {h : Heap} (_ : K.In h) : PySem.W.Frag := K

end L2

/-! SHORT WORDS over the layer: a def of the text, its body, what a loop and a test want. -/
namespace L2
open PySem PySem.Spec PyProof.Rows

/-! ### the text by places -/
/-- the j-th statement of a class's body -/
def inClass (s : Stmt) (j : Nat) : Stmt := match s with
  | .ClassDef _ _ _ body _ _ _ _ _ _ _ => body.getD j (.Pass ⟨0, 0, 0, 0⟩)
  | _ => .Pass ⟨0, 0, 0, 0⟩
def defArgs (s : Stmt) : Arguments := match s with
  | .FunctionDef _ a _ _ _ _ _ _ _ _ => a
  | _ => { posonlyargs := [], args := [], vararg := none, kwonlyargs := [], kw_defaults := [], kwarg := none, defaults := [] }
def defBody (s : Stmt) : List Stmt := match s with
  | .FunctionDef _ _ b _ _ _ _ _ _ _ => b
  | _ => []
def defScope (s : Stmt) : Scope := match s with
  | .FunctionDef _ _ _ _ _ _ sc _ _ _ => sc
  | _ => { kind := .function, names := [], isGenerator := false, isCoroutine := false }

/-! ### no exception leaves a def -/
abbrev CX0 : CXT := fun _ _ _ _ _ _ => False
abbrev E0 : XK := fun _ _ _ => False
theorem pass0 {X : Cx} : Passes CX0 X E0 := fun _ _ _ _ _ _ _ h => h.elim

/-! ### a def (or method) of the text as it stands behind the top -/
structure Fun (K : PySem.W.Frag) (x qual : Str) (st : Stmt) (f : Addr) (fd : FuncData) : Prop where
  ex : ∃ (oc : Value) (od : Option Addr) (kV doc pm : Value) (an : Option Addr) (cdv ct : Value) (osl : Array (Option Value)),
    fd = PySem.W.fnOf x qual (defArgs st) (defBody st) (defScope st) .none kV doc pm an cdv ct ∧ K.lookup f = some ⟨oc, od, .func fd, osl⟩ ∧ PySem.W.codeIn K cdv qual = true
  kp : PySem.W.keepIn K (.ref f) = true
section
variable {P : Program} {w : World} {K : PySem.W.Frag} {mg : Str → Option Value} {base : Heap}
/-- THE RULE for a def: its body as a term of rules, and the reading of that term -/
theorem Fun.ok {x qual : Str} {st : Stmt} {f : Addr} {fd : FuncData} {N ps : List Str} {k : Nat} {sp : Sp} (F : Fun K x qual st f fd) (S : FnScope N ps (defScope st)) (len : ∀ vs H Q E, sp vs H Q E → vs.length = ps.length)
    (hbody : ∀ (cdv : Value) (A : Around) (outer : List Env) (s : Shared) (H : Hp) (vs : List V) (Q : VK) (E : XK), Room k (A.deeper (envOfC qual (defScope st) s.heap.objs.size f cdv)) → sp vs H Q E →
      ∃ t, PSs (cxOf CX0 P w K mg base N qual (defScope st) f cdv A outer s H E).nox (defBody st) t ∧ t { nx := fun _ H' => Q .non H', rt := Q } (start N vs) H) : FnOk P w K mg base CX0 (k + 1) f fd ps sp := by
  obtain ⟨oc, od, kV, doc, pm, an, cdv, ct, osl, rfl, lk, hcd⟩ := F.ex
  refine fn_of lk hcd S len fun A outer s H vs Q E hr hsp => ?_
  obtain ⟨t, h, q⟩ := hbody cdv A outer s H vs Q E hr hsp
  exact ⟨t, h.nox, q⟩
/-- how its arguments bind (no defaults): h is «fun _ _ _ _ _ _ us hl => match us, hl with | [_, _], _ => rfl», one _ a parameter -/
theorem Fun.binds {x qual : Str} {st : Stmt} {f : Addr} {fd : FuncData} {ps : List Str} (F : Fun K x qual st f fd)
    (h : ∀ (kV doc pm : Value) (an : Option Addr) (cdv ct : Value) (us : List Value), us.length = ps.length → bindArgs (PySem.W.fnOf x qual (defArgs st) (defBody st) (defScope st) .none kV doc pm an cdv ct) ⟨us, []⟩ = pure (ps.zip us)) : Binds K fd ps [] := by
  obtain ⟨oc, od, kV, doc, pm, an, cdv, ct, osl, rfl, lk, hcd⟩ := F.ex
  exact .all (h kV doc pm an cdv ct)
theorem fun_mk {x qual : Str} {st : Stmt} {f : Addr} {oc : Value} {od an : Option Addr} {osl : Array (Option Value)} {kV doc pm cdv ct : Value} (l : K.lookup f = some ⟨oc, od, .func (PySem.W.fnOf x qual (defArgs st) (defBody st) (defScope st) .none kV doc pm an cdv ct), osl⟩)
    (c : PySem.W.codeIn K cdv qual = true) (k : PySem.W.keepIn K (.ref f) = true) : Fun K x qual st f (PySem.W.fnOf x qual (defArgs st) (defBody st) (defScope st) .none kV doc pm an cdv ct) := ⟨⟨oc, od, kV, doc, pm, an, cdv, ct, osl, rfl, l, c⟩, k⟩
end
theorem small1000 {n : Nat} (h : n ≤ 1000) : n < sizeLine := Nat.lt_of_le_of_lt h (by decide)

/-! ### expressions in short: the name that stands in the i-th slot -/
section
variable {X : Cx}
theorem pv (i : Nat) {x : Str} {pos : Pos} (hN : X.N[i]? = some x := by rfl) (hv : Vis X.env.scope x := by first | exact Or.inl rfl | exact Or.inr (Or.inl rfl) | exact Or.inr (Or.inr rfl)) (hd : (x == ("__debug__" : Str)) = false := by decide)
    (hcd : (x == ("__classdict__" : Str)) = false := by decide) : PE X (.Name x pos) (tVar i) := pe_var hN hv hd hcd
end

/-! ### tests -/
theorem iteF {A B : Prop} (h : B) : if false = true then A else B := by
  rw [if_neg Bool.false_ne_true]
  exact h
theorem iteT {A B : Prop} (h : A) : if true = true then A else B := by
  rw [if_pos rfl]
  exact h
theorem ite2 {c A B : Prop} [Decidable c] (h1 : c → A) (h2 : ¬ c → B) : if c then A else B := by
  by_cases h : c
  · rw [if_pos h]
    exact h1 h
  · rw [if_neg h]
    exact h2 h
/-! ### heaps -/
/-- all that was tracked is as it was -/
def Same (H H' : Hp) : Prop := ∀ b o, H b = some o → H' b = some o
theorem Same.refl (H : Hp) : Same H H := fun _ _ h => h
theorem Same.trans {H H1 H2 : Hp} (a : Same H H1) (b : Same H1 H2) : Same H H2 := fun c o h => b c o (a c o h)
theorem Same.free {H H' : Hp} (e : Same H H') {l : Addr} (h : H' l = Option.none) : H l = Option.none := by
  cases q : H l with
  | none => rfl
  | some o =>
    rw [e l o q] at h
    cases h
theorem Same.seq {K : PySem.W.Frag} {H H' : Hp} {a : Addr} {xs : List V} (e : Same H H') (h : SqL K H a xs) : SqL K H' a xs := by
  rcases h with (h | ⟨o, h⟩) | h
  · exact .inl (.inl (e _ _ h))
  · exact .inl (.inr ⟨o, e _ _ h⟩)
  · exact .inr h

/-! ### a dict's pairs: keys that differ -/
section
variable {κ : Type} [DecidableEq κ]
end
/-! ### lists -/
/-- a new instance and its __init__ leave all that was tracked as it was -/
theorem Same.made {H H1 : Hp} {x dx C : Addr} (nx : H x = Option.none) (nd : H dx = Option.none) (k : ∀ b o, (upd (upd H dx (.own x)) x (.ins C dx [])) b = some o → b ≠ x → H1 b = some o) : Same H H1 := fun b o e =>
  k b o (by rw [upd_ne (ne_of_none e nx), upd_ne (ne_of_none e nd)]; exact e) (ne_of_none e nx)
end L2
section
set_option Elab.async false
set_option linter.all false
set_option maxRecDepth 100000
set_option maxHeartbeats 2000000
namespace L2
open PySem PySem.Spec PyProof.Rows
open PySem.W (WData Codec OpenSpec Well WellAll ReadsW ReadsAllW)
/-! ### an answer as data -/
mutual
/-- x stands for the datum d, lists and tuples all the way -/
inductive Dw (K : PySem.W.Frag) (H : Hp) : V → WData → Prop
  | non : Dw K H .non .none
  | bl (b : Bool) : Dw K H (.bl b) (.bool b)
  | int (i : Int) : Dw K H (.int i) (.int i)
  | str (x : Str) : Dw K H (.str x) (.str x)
  | byt (b : Array UInt8) : Dw K H (.byt b) (.bytes b.toList)
  | lst {a : Addr} {xs : List V} {ds : List WData} : SqL K H a xs → DwAll K H xs ds → Dw K H (.ref a) (.list ds)
  | tup {a : Addr} {xs : List V} {ds : List WData} : SqT K H a xs → DwAll K H xs ds → Dw K H (.ref a) (.tuple ds)
inductive DwAll (K : PySem.W.Frag) (H : Hp) : List V → List WData → Prop
  | nil : DwAll K H [] []
  | cons {v : V} {vs : List V} {d : WData} {ds : List WData} : Dw K H v d → DwAll K H vs ds → DwAll K H (v :: vs) (d :: ds)
end
theorem dw_ints {K : PySem.W.Frag} {H : Hp} : ∀ ns : List Int, DwAll K H (ns.map V.int) (ns.map WData.int)
  | [] => .nil
  | n :: r => .cons (.int n) (dw_ints r)
theorem ints_dw {K : PySem.W.Frag} {H : Hp} : ∀ (ns : List Int) (xs : List V), DwAll K H xs (ns.map WData.int) → xs = ns.map V.int
  | [], xs, h => by
    cases h
    rfl
  | n :: r, xs, h => by
    cases h with
    | cons h1 h2 =>
      cases h1
      rw [ints_dw r _ h2] <;> rfl
section
variable {P : Program} {w : World} {K : PySem.W.Frag} {H : Hp} {h : Heap} {R : PySem.W.WRecords} {cl : Str → Option Addr}
theorem sqL_at {a : Addr} {xs : List V} (hok : HOk P w H h) (KX : K.In h) (q : SqL K H a xs) : ∃ (its : List Value) (o : Obj) (n : Nat), Vals xs its ∧ h.get? a = some o ∧ o.cls = .type "list" ∧ o.data = .seq its.toArray n := by
  rcases q with q | ⟨o, its, n, e, hc, _, hd, _, hv⟩
  · obtain ⟨_, its, n, hv, e⟩ := (show ObjOk P w H h a (.lst xs) from q.ok hok)
    exact ⟨its, _, n, hv, e, rfl, rfl⟩
  · exact ⟨its.toList, o, n, hv, KX _ _ e, hc, by simp [hd]⟩
theorem sqT_at {a : Addr} {xs : List V} (hok : HOk P w H h) (KX : K.In h) (q : SqT K H a xs) : ∃ (its : List Value) (o : Obj) (n : Nat), Vals xs its ∧ h.get? a = some o ∧ o.cls = .type "tuple" ∧ o.data = .seq its.toArray n := by
  rcases q with q | ⟨o, its, n, e, hc, hd, _, hv⟩
  · obtain ⟨_, its, hv, o, e, hc, n, hd⟩ := (show ObjOk P w H h a (.tup xs) from q.ok hok)
    exact ⟨its, o, n, hv, e, hc, hd⟩
  · exact ⟨its.toList, o, n, hv, KX _ _ e, hc, by simp [hd]⟩
mutual
theorem Dw.reads (hok : HOk P w H h) (KX : K.In h) : ∀ (d : WData) (v : V) (u : Value), Dw K H v d → RelV v u → ∃ as, ReadsW R cl h u d as
  | .none, _, _, x, r => by
    cases x
    cases r
    exact ⟨_, ReadsW.none⟩
  | .bool b, _, _, x, r => by
    cases x
    cases r
    exact ⟨_, ReadsW.bool b⟩
  | .int i, _, _, x, r => by
    cases x
    obtain ⟨t, rfl⟩ := r
    exact ⟨_, ReadsW.int i t⟩
  | .str s, _, _, x, r => by
    cases x
    obtain ⟨t, rfl⟩ := r
    exact ⟨_, ReadsW.str s t⟩
  | .bytes b, _, _, x, r => by
    cases x
    obtain ⟨t, rfl⟩ := r
    exact ⟨_, ReadsW.bytes _ t⟩
  | .list ds, _, _, x, r => by
    cases x with
    | lst hs ha =>
      cases r
      obtain ⟨its, o, n, rv, ho, hc, hd⟩ := sqL_at hok KX hs
      obtain ⟨as, hr⟩ := Dw.readsAll hok KX ds _ its ha rv
      exact ⟨_, ReadsW.list ho hc hd hr⟩
  | .tuple ds, _, _, x, r => by
    cases x with
    | tup hs ha =>
      cases r
      obtain ⟨its, o, n, rv, ho, hc, hd⟩ := sqT_at hok KX hs
      obtain ⟨as, hr⟩ := Dw.readsAll hok KX ds _ its ha rv
      exact ⟨_, ReadsW.tuple ho hc hd hr⟩
  | .float _, _, _, x, _ => by cases x
  | .dict _, _, _, x, _ => by cases x
  | .bytearray _, _, _, x, _ => by cases x
  | .set _, _, _, x, _ => by cases x
  | .frozenset _, _, _, x, _ => by cases x
  | .obj _ _, _, _, x, _ => by cases x
theorem Dw.readsAll (hok : HOk P w H h) (KX : K.In h) : ∀ (ds : List WData) (vs : List V) (us : List Value), DwAll K H vs ds → Vals vs us → ∃ as, ReadsAllW R cl h us ds as
  | [], _, _, x, r => by
    cases x
    cases r
    exact ⟨_, ReadsAllW.nil⟩
  | d :: ds, _, _, x, r => by
    cases x with
    | cons h1 h2 =>
      cases r with
      | cons r1 r2 =>
        obtain ⟨as, q1⟩ := Dw.reads hok KX d _ _ h1 r1
        obtain ⟨bs, q2⟩ := Dw.readsAll hok KX ds _ _ h2 r2
        exact ⟨_, ReadsAllW.cons q1 q2⟩
end
end
/-! ### the arguments -/
mutual
/-- data that a codec tells -/
def plW : WData → Bool
  | .none => true
  | .bool _ => true
  | .int _ => true
  | .str _ => true
  | .bytes _ => true
  | .list xs => plWs xs
  | .tuple xs => plWs xs
  | _ => false
def plWs : List WData → Bool
  | [] => true
  | x :: r => plW x && plWs r
end
theorem plWs_map {α : Type} {f : α → WData} (h : ∀ a, plW (f a) = true) : ∀ l : List α, plWs (l.map f) = true
  | [] => rfl
  | x :: r => by
    show (plW (f x) && plWs (r.map f)) = true
    rw [h x, plWs_map h r] <;> rfl
theorem pl_enc : ∀ (c : Codec) (a : c.denote), plW (c.enc a) = true
  | .unit, _ => rfl
  | .bool, _ => rfl
  | .int _ _, _ => rfl
  | .nat _ _, _ => rfl
  | .u8, _ => rfl
  | .bytes _ _, _ => rfl
  | .text _ _ _ _, _ => rfl
  | .list _ _ c, a => plWs_map (fun x => pl_enc c x) a
  | .pair c d, a => by
    show (plW (c.enc a.1) && (plW (d.enc a.2) && true)) = true
    rw [pl_enc c a.1, pl_enc d a.2] <;> rfl
  | .triple c d e, a => by
    show (plW (c.enc a.1) && (plW (d.enc a.2.1) && (plW (e.enc a.2.2) && true))) = true
    rw [pl_enc c a.1, pl_enc d a.2.1, pl_enc e a.2.2] <;> rfl
  | .option c, none => rfl
  | .option c, some x => pl_enc c x
theorem pl_encAll : ∀ (cs : List Codec) (a : Codec.denoteAll cs), plWs (Codec.encAll cs a) = true
  | [], _ => rfl
  | c :: cs, a => by
    show (plW (c.enc a.1) && plWs (Codec.encAll cs a.2)) = true
    rw [pl_enc c a.1, pl_encAll cs a.2] <;> rfl
theorem weight_mem : ∀ {xs : List WData} {d : WData}, d ∈ xs → d.weight ≤ WData.weightAll xs
  | [], d, h => absurd h (by simp)
  | x :: r, d, h => by
    show d.weight ≤ x.weight + 1 + WData.weightAll r
    rcases List.mem_cons.mp h with e | m
    · rw [e]
      omega
    · have z := weight_mem m
      omega
def toV : Value → V
  | .none => .non
  | .bool b => .bl b
  | .int i _ => .int i
  | .str x _ => .str x
  | .bytes b _ => .byt b
  | .ref a => .ref a
  | _ => .non
/-- a value of the arguments, its objects among A -/
def OkU (A : List Addr) : Value → Prop
  | .none => True
  | .bool _ => True
  | .int _ _ => True
  | .str _ _ => True
  | .bytes _ _ => True
  | .ref a => a ∈ A
  | _ => False
theorem OkU.mono {A B : List Addr} (h : ∀ a ∈ A, a ∈ B) : ∀ {u : Value}, OkU A u → OkU B u := fun {u} x => by
  cases u with
  | ref a => exact h a x
  | none => trivial
  | bool b => trivial
  | int i t => trivial
  | str s t => trivial
  | bytes b t => trivial
  | _ => exact False.elim x
theorem relV_toV {A : List Addr} {u : Value} (x : OkU A u) : RelV (toV u) u := by
  cases u with
  | ref a => rfl
  | none => rfl
  | bool b => rfl
  | int i t => exact ⟨t, rfl⟩
  | str s t => exact ⟨t, rfl⟩
  | bytes b t => exact ⟨t, rfl⟩
  | _ => exact False.elim x
theorem vals_toV {A : List Addr} : ∀ {vs : List Value}, (∀ u ∈ vs, OkU A u) → Vals (vs.map toV) vs
  | [], _ => .nil
  | u :: r, h => .cons (relV_toV (h u (List.mem_cons_self ..))) (vals_toV fun x hx => h x (List.mem_cons_of_mem _ hx))
/-- an object of the arguments -/
def ArgOb (h : Heap) (A : List Addr) (a : Addr) : Prop := ∃ vs : List Value, vs.length ≤ sizeLine ∧ (∀ u ∈ vs, OkU A u) ∧
  (h.get? a = some { cls := .type "list", data := .seq vs.toArray } ∨ h.get? a = some { cls := .type "tuple", data := .seq vs.toArray })
theorem ArgOb.mono {h : Heap} {A B : List Addr} {a : Addr} (k : ∀ a ∈ A, a ∈ B) (x : ArgOb h A a) : ArgOb h B a := by
  obtain ⟨vs, h1, h2, h3⟩ := x
  exact ⟨vs, h1, fun u hu => (h2 u hu).mono k, h3⟩
theorem wellAll_len {P : Params} {h : Heap} : ∀ {vs : List Value} {ds : List WData}, WellAll P h vs ds → vs.length = ds.length
  | _, _, .nil => rfl
  | _, _, .cons _ b => by
    show _ + 1 = _ + 1
    rw [wellAll_len b]
theorem well_list {P : Params} {h : Heap} {v : Value} {ds : List WData} (x : Well P h v (.list ds)) : ∃ (a : Addr) (vs : List Value), v = .ref a ∧ h.get? a = some { cls := .type "list", data := .seq vs.toArray } ∧ WellAll P h vs ds := by
  cases x with
  | list ho hall => exact ⟨_, _, rfl, ho, hall⟩
theorem well_tuple {P : Params} {h : Heap} {v : Value} {ds : List WData} (x : Well P h v (.tuple ds)) : ∃ (a : Addr) (vs : List Value), v = .ref a ∧ h.get? a = some { cls := .type "tuple", data := .seq vs.toArray } ∧ WellAll P h vs ds := by
  cases x with
  | tuple ho hall => exact ⟨_, _, rfl, ho, hall⟩
theorem well_cons {P : Params} {h : Heap} {us : List Value} {d : WData} {ds : List WData} (x : WellAll P h us (d :: ds)) : ∃ (v : Value) (vs : List Value), us = v :: vs ∧ Well P h v d ∧ WellAll P h vs ds := by
  cases x with
  | cons a b => exact ⟨_, _, rfl, a, b⟩
theorem line_of {n : Nat} (h : n ≤ 1048576) : n ≤ sizeLine := Nat.le_trans h (by decide)
section
variable {P : Params} {h : Heap}
mutual
theorem area_one : ∀ (d : WData) (v : Value), Well P h v d → plW d = true → d.weight ≤ 1048576 → ∃ A : List Addr, OkU A v ∧ ∀ a ∈ A, ArgOb h A a
  | .none, _, x, _, _ => by
    cases x
    exact ⟨[], trivial, fun a m => absurd m (by simp)⟩
  | .bool b, _, x, _, _ => by
    cases x
    exact ⟨[], trivial, fun a m => absurd m (by simp)⟩
  | .int i, _, x, _, _ => by
    cases x
    exact ⟨[], trivial, fun a m => absurd m (by simp)⟩
  | .str s, _, x, _, _ => by
    cases x
    exact ⟨[], trivial, fun a m => absurd m (by simp)⟩
  | .bytes b, _, x, _, _ => by
    cases x
    exact ⟨[], trivial, fun a m => absurd m (by simp)⟩
  | .list ds, _, x, p, z => by
    obtain ⟨a, vs, rfl, ho, hall⟩ := well_list x
    have z2 : WData.weightAll ds ≤ 1048576 := z
    obtain ⟨A, h1, h2⟩ := area_all ds _ hall p fun d hd => Nat.le_trans (weight_mem hd) z2
    have k : ∀ b ∈ A, b ∈ a :: A := fun b hb => List.mem_cons_of_mem _ hb
    refine ⟨a :: A, List.mem_cons_self .., fun b hb => ?_⟩
    rcases List.mem_cons.mp hb with e | m
    · rw [e]
      exact ⟨vs, line_of (by rw [wellAll_len hall]; exact Nat.le_trans (PySem.W.length_le_weightAllW ds) z2), fun u hu => (h1 u hu).mono k, .inl ho⟩
    · exact (h2 b m).mono k
  | .tuple ds, _, x, p, z => by
    obtain ⟨a, vs, rfl, ho, hall⟩ := well_tuple x
    have z2 : WData.weightAll ds ≤ 1048576 := z
    obtain ⟨A, h1, h2⟩ := area_all ds _ hall p fun d hd => Nat.le_trans (weight_mem hd) z2
    have k : ∀ b ∈ A, b ∈ a :: A := fun b hb => List.mem_cons_of_mem _ hb
    refine ⟨a :: A, List.mem_cons_self .., fun b hb => ?_⟩
    rcases List.mem_cons.mp hb with e | m
    · rw [e]
      exact ⟨vs, line_of (by rw [wellAll_len hall]; exact Nat.le_trans (PySem.W.length_le_weightAllW ds) z2), fun u hu => (h1 u hu).mono k, .inr ho⟩
    · exact (h2 b m).mono k
  | .float _, _, _, p, _ => Bool.noConfusion (show false = true from p)
  | .dict _, _, _, p, _ => Bool.noConfusion (show false = true from p)
  | .bytearray _, _, _, p, _ => Bool.noConfusion (show false = true from p)
  | .set _, _, _, p, _ => Bool.noConfusion (show false = true from p)
  | .frozenset _, _, _, p, _ => Bool.noConfusion (show false = true from p)
  | .obj _ _, _, _, p, _ => Bool.noConfusion (show false = true from p)
theorem area_all : ∀ (ds : List WData) (vs : List Value), WellAll P h vs ds → plWs ds = true → (∀ d ∈ ds, d.weight ≤ 1048576) → ∃ A : List Addr, (∀ u ∈ vs, OkU A u) ∧ ∀ a ∈ A, ArgOb h A a
  | [], _, x, _, _ => by
    cases x
    exact ⟨[], fun u m => absurd m (by simp), fun a m => absurd m (by simp)⟩
  | d :: ds, _, x, p, z => by
    obtain ⟨v, vs, rfl, x1, x2⟩ := well_cons x
    have q : plW d = true ∧ plWs ds = true := Bool.and_eq_true_iff.mp p
    obtain ⟨A, a1, a2⟩ := area_one d v x1 q.1 (z d (List.mem_cons_self ..))
    obtain ⟨B, b1, b2⟩ := area_all ds vs x2 q.2 fun e he => z e (List.mem_cons_of_mem _ he)
    have kA : ∀ b ∈ A, b ∈ A ++ B := fun b hb => List.mem_append.mpr (.inl hb)
    have kB : ∀ b ∈ B, b ∈ A ++ B := fun b hb => List.mem_append.mpr (.inr hb)
    refine ⟨A ++ B, fun u hu => ?_, fun b hb => ?_⟩
    · rcases List.mem_cons.mp hu with e | m
      · rw [e]
        exact a1.mono kA
      · exact (b1 u m).mono kB
    · rcases List.mem_append.mp hb with m | m
      · exact (a2 b m).mono kA
      · exact (b2 b m).mono kB
end
end
/-- what is tracked of an argument's object -/
def hoOf (o : Obj) : Option HO := match o.data with
  | .seq vs _ => if (o.cls == Value.type "list") = true then some (.frz o (.lst (vs.toList.map toV))) else some (.frz o (.tup (vs.toList.map toV)))
  | _ => none
def argH (K : PySem.W.Frag) (h : Heap) (A : List Addr) : Hp := fun b => if b ∈ A then (if (K.lookup b).isNone = true then (h.get? b).bind hoOf else none) else none
/-- nothing is tracked but what is known to the object -/
def OnlyF (H : Hp) : Prop := ∀ b, H b = none ∨ ∃ o u, H b = some (.frz o u)
theorem hoOf_lst (vs : List Value) : hoOf { cls := .type "list", data := .seq vs.toArray } = some (.frz { cls := .type "list", data := .seq vs.toArray } (.lst (vs.map toV))) := by
  show (if (Value.type "list" == Value.type "list") = true then some (HO.frz { cls := .type "list", data := .seq vs.toArray } (.lst (vs.toArray.toList.map toV))) else some (HO.frz { cls := .type "list", data := .seq vs.toArray } (.tup (vs.toArray.toList.map toV)))) = _
  rw [if_pos (beq_self_eq_true _)]
theorem hoOf_tup (vs : List Value) : hoOf { cls := .type "tuple", data := .seq vs.toArray } = some (.frz { cls := .type "tuple", data := .seq vs.toArray } (.tup (vs.map toV))) := by
  show (if (Value.type "tuple" == Value.type "list") = true then some (HO.frz { cls := .type "tuple", data := .seq vs.toArray } (.lst (vs.toArray.toList.map toV))) else some (HO.frz { cls := .type "tuple", data := .seq vs.toArray } (.tup (vs.toArray.toList.map toV)))) = _
  rw [if_neg (by decide)]
section
variable {P : Program} {w : World} {K : PySem.W.Frag} {h : Heap} {A : List Addr}
theorem argH_at {b : Addr} {o : Obj} (hb : b ∈ A) (hk : K.lookup b = none) (e : h.get? b = some o) : argH K h A b = hoOf o := by
  unfold argH
  rw [if_pos hb, hk, if_pos (show (none : Option Obj).isNone = true from rfl), e] <;> rfl
theorem of_argH {b : Addr} {u : HO} (q : argH K h A b = some u) : b ∈ A ∧ K.lookup b = none := by
  unfold argH at q
  by_cases hb : b ∈ A
  · rw [if_pos hb] at q
    cases hk : K.lookup b with
    | none => exact ⟨hb, rfl⟩
    | some o =>
      rw [hk, if_neg (by simp)] at q
      cases q
  · rw [if_neg hb] at q
    cases q
/-- what stands tracked -/
theorem argH_is (ar : ∀ a ∈ A, ArgOb h A a) {b : Addr} {u : HO} (q : argH K h A b = some u) : K.lookup b = none ∧ ∃ vs : List Value, vs.length ≤ sizeLine ∧ (∀ u ∈ vs, OkU A u) ∧
    ((h.get? b = some { cls := .type "list", data := .seq vs.toArray } ∧ u = .frz { cls := .type "list", data := .seq vs.toArray } (.lst (vs.map toV))) ∨
     (h.get? b = some { cls := .type "tuple", data := .seq vs.toArray } ∧ u = .frz { cls := .type "tuple", data := .seq vs.toArray } (.tup (vs.map toV)))) := by
  obtain ⟨hb, hk⟩ := of_argH q
  obtain ⟨vs, h1, h2, h3⟩ := ar b hb
  refine ⟨hk, vs, h1, h2, ?_⟩
  rcases h3 with e | e
  · rw [argH_at hb hk e, hoOf_lst] at q
    exact .inl ⟨e, (Option.some.inj q).symm⟩
  · rw [argH_at hb hk e, hoOf_tup] at q
    exact .inr ⟨e, (Option.some.inj q).symm⟩
theorem argH_only (ar : ∀ a ∈ A, ArgOb h A a) : OnlyF (argH K h A) := fun b => by
  cases q : argH K h A b with
  | none => exact .inl rfl
  | some u =>
    obtain ⟨_, vs, _, _, ⟨_, e⟩ | ⟨_, e⟩⟩ := argH_is ar q
    · exact .inr ⟨_, _, by rw [e]⟩
    · exact .inr ⟨_, _, by rw [e]⟩
theorem argH_ok (ar : ∀ a ∈ A, ArgOb h A a) : HOk P w (argH K h A) h := fun b u q => by
  obtain ⟨_, vs, h1, h2, ⟨e, rfl⟩ | ⟨e, rfl⟩⟩ := argH_is ar q
  · exact ⟨e, by rw [List.length_map]; exact h1, vs, _, vals_toV h2, e⟩
  · exact ⟨e, by rw [List.length_map]; exact h1, vs, vals_toV h2, _, e, rfl, _, rfl⟩
theorem seq_inj {c c' : Value} {vs us : List Value} (e : (some { cls := c, data := .seq vs.toArray } : Option Obj) = some { cls := c', data := .seq us.toArray }) : c = c' ∧ vs = us := by
  have e1 := Option.some.inj e
  have e2 : c = c' := congrArg Obj.cls e1
  have e3 : Data.seq vs.toArray = Data.seq us.toArray := congrArg Obj.data e1
  injection e3 with e4
  refine ⟨e2, ?_⟩
  have e5 := congrArg Array.toList e4
  simpa using e5
/-- a list argument -/
theorem argL (KX : K.In h) (ar : ∀ a ∈ A, ArgOb h A a) {a : Addr} {vs : List Value} (ha : a ∈ A) (e : h.get? a = some { cls := .type "list", data := .seq vs.toArray }) : (∀ u ∈ vs, OkU A u) ∧ SqL K (argH K h A) a (vs.map toV) := by
  obtain ⟨us, h1, h2, h3⟩ := ar a ha
  have hu : us = vs := by
    rcases h3 with q | q
    · rw [e] at q
      exact (seq_inj q).2.symm
    · rw [e] at q
      exact absurd (Value.type.inj (seq_inj q).1) (by decide)
  subst hu
  refine ⟨h2, ?_⟩
  cases hk : K.lookup a with
  | none => exact .inl (.inr ⟨_, by rw [argH_at ha hk e, hoOf_lst]⟩)
  | some o =>
    have e2 := KX a o hk
    rw [e] at e2
    obtain rfl := Option.some.inj e2
    exact .inr ⟨_, us.toArray, _, hk, rfl, rfl, rfl, by rw [List.size_toArray]; exact h1, by simpa using vals_toV h2⟩
theorem argT (KX : K.In h) (ar : ∀ a ∈ A, ArgOb h A a) {a : Addr} {vs : List Value} (ha : a ∈ A) (e : h.get? a = some { cls := .type "tuple", data := .seq vs.toArray }) : (∀ u ∈ vs, OkU A u) ∧ SqT K (argH K h A) a (vs.map toV) := by
  obtain ⟨us, h1, h2, h3⟩ := ar a ha
  have hu : us = vs := by
    rcases h3 with q | q
    · rw [e] at q
      exact absurd (Value.type.inj (seq_inj q).1) (by decide)
    · rw [e] at q
      exact (seq_inj q).2.symm
  subst hu
  refine ⟨h2, ?_⟩
  cases hk : K.lookup a with
  | none => exact .inl (.inr ⟨_, by rw [argH_at ha hk e, hoOf_tup]⟩)
  | some o =>
    have e2 := KX a o hk
    rw [e] at e2
    obtain rfl := Option.some.inj e2
    exact .inr ⟨_, us.toArray, _, hk, rfl, rfl, by rw [List.size_toArray]; exact h1, by simpa using vals_toV h2⟩
mutual
theorem dw_one {Pm : Params} (KX : K.In h) (ar : ∀ a ∈ A, ArgOb h A a) : ∀ (d : WData) (v : Value), Well Pm h v d → plW d = true → OkU A v → Dw K (argH K h A) (toV v) d
  | .none, _, x, _, _ => by
    cases x
    exact .non
  | .bool b, _, x, _, _ => by
    cases x
    exact .bl b
  | .int i, _, x, _, _ => by
    cases x
    exact .int i
  | .str s, _, x, _, _ => by
    cases x
    exact .str s
  | .bytes b, _, x, _, _ => by
    cases x
    have z := Dw.byt (K := K) (H := argH K h A) b.toArray
    exact z
  | .list ds, _, x, p, hu => by
    obtain ⟨a, vs, rfl, ho, hall⟩ := well_list x
    obtain ⟨h2, hs⟩ := argL KX ar hu ho
    exact .lst hs (dw_all KX ar ds _ hall p h2)
  | .tuple ds, _, x, p, hu => by
    obtain ⟨a, vs, rfl, ho, hall⟩ := well_tuple x
    obtain ⟨h2, hs⟩ := argT KX ar hu ho
    exact .tup hs (dw_all KX ar ds _ hall p h2)
  | .float _, _, _, p, _ => Bool.noConfusion (show false = true from p)
  | .dict _, _, _, p, _ => Bool.noConfusion (show false = true from p)
  | .bytearray _, _, _, p, _ => Bool.noConfusion (show false = true from p)
  | .set _, _, _, p, _ => Bool.noConfusion (show false = true from p)
  | .frozenset _, _, _, p, _ => Bool.noConfusion (show false = true from p)
  | .obj _ _, _, _, p, _ => Bool.noConfusion (show false = true from p)
theorem dw_all {Pm : Params} (KX : K.In h) (ar : ∀ a ∈ A, ArgOb h A a) : ∀ (ds : List WData) (vs : List Value), WellAll Pm h vs ds → plWs ds = true → (∀ u ∈ vs, OkU A u) → DwAll K (argH K h A) (vs.map toV) ds
  | [], _, x, _, _ => by
    cases x
    exact .nil
  | d :: ds, _, x, p, hu => by
    obtain ⟨v, vs, rfl, x1, x2⟩ := well_cons x
    have q : plW d = true ∧ plWs ds = true := Bool.and_eq_true_iff.mp p
    exact .cons (dw_one KX ar d v x1 q.1 (hu _ (List.mem_cons_self ..))) (dw_all KX ar ds vs x2 q.2 fun u m => hu u (List.mem_cons_of_mem _ m))
end
end
/-! ### the call -/
theorem spec_call {P : Program} {w : World} {K : PySem.W.Frag} {mg mb : Str → Option Value} {CX : CXT} {k : Nat} {fa : Addr} {fd : FuncData} {ps : List Str} {sp : Sp} {s₁ : Shared} {vals : List Value} {ds : List WData} {R : PySem.W.WRecords} {cl : Str → Option Addr} {d0 : WData}
    (KX : K.In s₁.heap) (hns : s₁.heap.Ns mainGlobals mg) (hb : s₁.heap.Ns builtinsNs mb) (hbb : ∀ x : Str, x ≠ "__name__" → mb x = bootBuiltins x) (hlim : s₁.heap.NoLimit) (hg : s₁.gens = #[])
    (hwl : WellAll w.params s₁.heap vals ds) (hpl : plWs ds = true) (hwt : ∀ d ∈ ds, d.weight ≤ 1048576) (hr : Room k callerA)
    (F : ∀ base : Heap, K.In base → base.Ns mainGlobals mg → FnOk P w K mg base CX k fa fd ps sp) (hbind : ∀ (s : Shared) (us : List Value), us.length = ps.length → BindsTo s fd ⟨us, []⟩ (ps.zip us)) (hlen : ds.length = ps.length)
    (hsp : ∀ (H : Hp) (xs : List V), OnlyF H → DwAll K H xs ds → sp xs H (fun v H' => Dw K H' v d0) fun _ _ _ => False)
    (hCX : ∀ H e s', CX [] H s₁ (fun _ _ _ => False) e s' → False) :
    codeAny (model P w) callerA (.call (.ref fa) ⟨vals, []⟩) (fun r s' => ∃ u as, r = .ok (.ret u) ∧ ReadsW R cl s'.heap u d0 as ∧ OldK s₁.heap s'.heap ∧ s'.os = s₁.os ∧ AllBare s'.gens) s₁ := by
  obtain ⟨A, ho, ar⟩ := area_all ds vals hwl hpl hwt
  have hO : OnlyF (argH K s₁.heap A) := argH_only ar
  have hok : HOk P w (argH K s₁.heap A) s₁.heap := argH_ok ar
  have hS := dw_all KX ar ds vals hwl hpl ho
  have hV := vals_toV ho
  have hK : ∀ b u, argH K s₁.heap A b = some u → K.lookup b = none := fun b u q => (argH_is ar q).1
  have noA : ∀ {b : Addr} {o : Obj} {es : Array DictEntry} {ep : Nat}, s₁.heap.get? b = some o → o.data = .dict es ep → argH K s₁.heap A b = none := fun {b o es ep} e d => by
    cases q : argH K s₁.heap A b with
    | none => rfl
    | some u =>
      obtain ⟨_, vs, _, _, ⟨e2, _⟩ | ⟨e2, _⟩⟩ := argH_is ar q
      · rw [e2] at e
        cases e
        have d' : Data.seq vs.toArray _ = Data.dict es ep := d
        cases d'
      · rw [e2] at e
        cases e
        have d' : Data.seq vs.toArray _ = Data.dict es ep := d
        cases d'
  generalize argH K s₁.heap A = H at hO hok hS hK noA
  have base_of : ∀ {b : Addr} {o : Obj}, s₁.heap.get? b = some o → H b = none → (hidT s₁.heap H).get? b = some o := fun e n => hidT_get e n
  have nsK : ∀ {b : Addr} {m : Str → Option Value}, s₁.heap.Ns b m → (hidT s₁.heap H).Ns b m := fun {b m} ⟨o, es, ep, e, d, r⟩ => ⟨o, es, ep, base_of e (noA e d), d, r⟩
  have nK : ∀ b o, K.lookup b = some o → H b = none := fun b o e => by
    cases q : H b with
    | none => rfl
    | some u =>
      rw [hK b u q] at e
      cases e
  have hKb : K.In (hidT s₁.heap H) := fun b o e => base_of (KX b o e) (nK b o e)
  have hM : Mod K mg (hidT s₁.heap H) := ⟨hKb, nsK hns, ⟨mb, nsK hb, hbb⟩, let ⟨mc, h1, h2⟩ := hlim; ⟨mc, nsK h1, h2⟩⟩
  have e0 : Env0 P w K mg (hidT s₁.heap H) callerA [] s₁ H := ⟨rfl, hM, fun b o e => of_hidT e, Nat.le_of_eq (hidT_size _ _), trivial, fun b hb => absurd (show b ∈ ([] : List Addr) from hb) (by simp), hok, .of_eq hg⟩
  have hl : vals.length = ps.length := by rw [wellAll_len hwl]; exact hlen
  refine codeAny_mono ((F _ hKb (nsK hns)).run callerA [] s₁ H ⟨vals, []⟩ vals (vals.map toV) _ _ hr e0 (hbind s₁ vals hl) hV (hsp H _ hO hS)) fun r s' x => ?_
  cases r with
  | error e => exact (hCX H e s' x).elim
  | ok fl =>
    cases fl with
    | next => exact False.elim x
    | brk => exact False.elim x
    | cont => exact False.elim x
    | ret u =>
      obtain ⟨v, H', os, bare, un, hok', r', q⟩ := x
      have kept : ∀ b o, s₁.heap.get? b = some o → s'.heap.get? b = some o := fun b o e => by
        cases q2 : H b with
        | none => exact un.keep b o e q2 (by intro z; exact absurd (show b ∈ ([] : List Addr) from z) (by simp)) (by simp)
        | some u2 =>
          rcases hO b with z | ⟨ob, u3, z⟩
          · rw [q2] at z
            cases z
          · have z2 := un.frzs b ob _ z
            obtain ⟨e1, _⟩ := hok b _ z
            obtain ⟨e2, _⟩ := hok' b _ z2
            rw [e] at e1
            cases e1
            exact e2
      have KX' : K.In s'.heap := fun b o e => kept b o (KX b o e)
      obtain ⟨as, hrd⟩ := Dw.reads (R := R) (cl := cl) hok' KX' d0 v u q r'
      exact ⟨u, as, rfl, hrd, OldK.of_keep kept, os, bare⟩
/-! ### the row -/
theorem layable_weight {ds : List WData} (h : WData.layableAll ds = true) : ∀ d ∈ ds, d.weight ≤ 1048576 := fun d hd =>
  (PySem.W.layableW_iff.mp (List.all_eq_true.mp h d hd)).2.2
theorem encAll_len : ∀ (cs : List Codec) (a : Codec.denoteAll cs), (Codec.encAll cs a).length = cs.length
  | [], _ => rfl
  | c :: cs, a => by
    show (Codec.encAll cs a.2).length + 1 = cs.length + 1
    rw [encAll_len cs a.2]
/-- the goal that k_headS leaves (case hc), from the promise of the row's def: whatever the arguments that the codecs let and the row asks for, the def gives what stands for enc (f ..) -/
theorem walk_spec {r : OpenSpec} {k : Nat} {q : Program} {loose : List Str} {XP : (Str → Option Value) → Heap → Prop} {YP : World → Heap → Prop} {d : DefRec} {K : Params → PySem.W.Frag} {CX : World → CXT} {ps : List Str} {sp : World → Sp}
    (hwell : r.wellSaid = true) (hdf : d.params.defaults = []) (hlen : r.args.length = ps.length) (hr : Room k callerA)
    (hY : ∀ (w : World) (h : Heap), YP w h → (K w.params).In h)
    (F : ∀ (w : World) (mg : Str → Option Value) (fa : Addr) (h : Heap), YP w h → (K w.params).In h → h.Ns mainGlobals mg → mg d.name = some (.ref fa) →
      ∃ fd : FuncData, (∀ (s : Shared) (us : List Value), us.length = ps.length → BindsTo s fd ⟨us, []⟩ (ps.zip us)) ∧
        ∀ base : Heap, (K w.params).In base → base.Ns mainGlobals mg → FnOk r.prog w (K w.params) mg base (CX w) k fa fd ps (sp w))
    (hsp : ∀ (w : World) (H : Hp) (xs : List V) (a : Codec.denoteAll r.args), OnlyF H → Codec.withinAll r.args a = true → Codec.app r.args r.asked a = true → DwAll (K w.params) H xs (Codec.encAll r.args a) →
      sp w xs H (fun v H' => Dw (K w.params) H' v (r.ret.enc (Codec.app r.args r.f a))) fun _ _ _ => False)
    (hCX : ∀ (w : World) (H : Hp) (s : Shared) (e : Value) (s' : Shared), CX w [] H s (fun _ _ _ => False) e s' → False) :
    PySem.W.WalkOS q loose XP YP r d [] (fun f vs => PySem.call f vs) := by
  intro w s_0 s₁ mg mb G Y fa o pm cd doc dV kV ho hd hcd hD hmg hg args vals as hpre hlay hrd hwl hlo
  obtain ⟨a, e1, e2⟩ := PySem.W.os_pre_some hpre
  obtain ⟨e3, hwi⟩ := Codec.encAll_of_decAll r.args args a e1
  subst e3
  have KX := hY w _ Y
  obtain ⟨fd, hb, hF⟩ := F w mg fa _ Y KX G.T.g hmg
  refine PySem.W.enter_call (codeAny_mono (spec_call (R := []) (cl := classAt s_0.heap) (d0 := r.ret.enc (Codec.app r.args r.f a)) KX G.T.g G.T.b G.T.builtins G.T.nolimit hg hwl (pl_encAll _ _) (layable_weight hlay) hr hF hb (by rw [encAll_len]; exact hlen)
    (fun H xs hO hS => hsp w H xs a hO hwi e2 hS) fun H e s' => hCX w H s₁ e s') fun r' s' hq => ?_)
  obtain ⟨u, as', rfl, h1, h2, h3, h4⟩ := hq
  exact ⟨.inl ⟨u, _, as', rfl, fun _ => rfl, h1, (OpenSpec.post_iff hwell hwi _ _).mpr rfl, fun z => Bool.noConfusion (show false = true from z)⟩, h2, h3, h4⟩
/-- the same where the promise hangs on the written part alone -/
theorem walk_specK {r : OpenSpec} {k : Nat} {q : Program} {loose : List Str} {XP : (Str → Option Value) → Heap → Prop} {YP : World → Heap → Prop} {d : DefRec} {K : Params → PySem.W.Frag} {CX : CXT} {ps : List Str} {sp : PySem.W.Frag → Sp}
    (hwell : r.wellSaid = true) (hdf : d.params.defaults = []) (hlen : r.args.length = ps.length) (hr : Room k callerA)
    (hY : ∀ (w : World) (h : Heap), YP w h → (K w.params).In h)
    (F : ∀ (w : World) (mg : Str → Option Value) (fa : Addr) (h : Heap), YP w h → (K w.params).In h → h.Ns mainGlobals mg → mg d.name = some (.ref fa) →
      ∃ fd : FuncData, (∀ (s : Shared) (us : List Value), us.length = ps.length → BindsTo s fd ⟨us, []⟩ (ps.zip us)) ∧
        ∀ base : Heap, (K w.params).In base → base.Ns mainGlobals mg → FnOk r.prog w (K w.params) mg base CX k fa fd ps (sp (K w.params)))
    (hsp : ∀ (K : PySem.W.Frag) (H : Hp) (xs : List V) (a : Codec.denoteAll r.args), OnlyF H → Codec.withinAll r.args a = true → Codec.app r.args r.asked a = true → DwAll K H xs (Codec.encAll r.args a) →
      sp K xs H (fun v H' => Dw K H' v (r.ret.enc (Codec.app r.args r.f a))) fun _ _ _ => False)
    (hCX : ∀ (H : Hp) (s : Shared) (e : Value) (s' : Shared), CX [] H s (fun _ _ _ => False) e s' → False) :
    PySem.W.WalkOS q loose XP YP r d [] (fun f vs => PySem.call f vs) :=
  walk_spec (K := K) (CX := fun _ => CX) (sp := fun w => sp (K w.params)) hwell hdf hlen hr hY F (fun w H xs a h1 h2 h3 h4 => hsp (K w.params) H xs a h1 h2 h3 h4) fun _ H s e s' => hCX H s e s'
end L2
-- rests on (row put in by the clerk, for the bench that shows a file only what it spells): KE.SpHead KE.OsShapes
end

set_option Elab.async false
namespace Dc
open PySem PyProof.Rows
/-! ### bits -/
theorem nat_xor_add (m : Nat) : ∀ n : Nat, (m ^^^ n) + 2 * (m &&& n) = m + n := by
  induction m using Nat.strongRecOn with
  | ind m ih =>
    intro n
    by_cases h0 : m = 0
    · subst h0; simp
    · have ih' := ih (m / 2) (by omega) (n / 2)
      rw [← Nat.xor_div_two, ← Nat.and_div_two] at ih'
      have o1 : (m ^^^ n) % 2 = (m + n) % 2 := by
        have q := @Nat.xor_mod_two_eq_one m n
        rcases Nat.mod_two_eq_zero_or_one m with a | a <;> rcases Nat.mod_two_eq_zero_or_one n with b | b <;> rcases Nat.mod_two_eq_zero_or_one (m ^^^ n) with c | c <;> simp [a, b, c] at q <;> omega
      have a1 := @Nat.and_mod_two_eq_one m n
      omega
theorem xorN (a b : Nat) : Builtin.bitXor (a : Int) (b : Int) = ((a ^^^ b : Nat) : Int) := by
  have h := nat_xor_add a b
  rw [bitXor_and, bitAnd_pp (by omega) (by omega)]
  simp only [Int.toNat_natCast]
  omega
theorem orN (a b : Nat) : Builtin.bitOr (a : Int) (b : Int) = ((a ||| b : Nat) : Int) := by
  have h := nat_or_add_and a b
  rw [bitOr_and, bitAnd_pp (by omega) (by omega)]
  simp only [Int.toNat_natCast]
  omega
theorem andM (a : Nat) : Builtin.bitAnd (a : Int) 18446744073709551615 = ((a % 2 ^ 64 : Nat) : Int) := by
  rw [bitAnd_pp (by omega) (by decide)]
  simp only [Int.toNat_natCast]
  have h : a &&& (18446744073709551615 : Int).toNat = a % 2 ^ 64 := Nat.and_two_pow_sub_one_eq_mod a 64
  rw [h]
theorem turn_lt {p x : Nat} (hp : p ≤ 64) (hx : x < 2 ^ 64) : (x * 2 ^ p ||| x / 2 ^ (64 - p)) % 2 ^ 64 = Ks345.turn p x ∧ Ks345.turn p x < 2 ^ 64 := by
  have e64 : (2 : Nat) ^ 64 = 2 ^ (64 - p) * 2 ^ p := by rw [← Nat.pow_add]; congr 1; omega
  have hy : x / 2 ^ (64 - p) < 2 ^ p := by
    rw [Nat.div_lt_iff_lt_mul (Nat.two_pow_pos _), Nat.mul_comm, ← e64]; exact hx
  have h1 : x * 2 ^ p ||| x / 2 ^ (64 - p) = x * 2 ^ p + x / 2 ^ (64 - p) := by
    have := Nat.shiftLeft_add_eq_or_of_lt hy x
    rw [Nat.shiftLeft_eq] at this
    exact this.symm
  have h2 : x * 2 ^ p % 2 ^ 64 = (x % 2 ^ (64 - p)) * 2 ^ p := by
    rw [e64, Nat.mul_mod_mul_right]
  have h3 : (x % 2 ^ (64 - p)) * 2 ^ p + x / 2 ^ (64 - p) < 2 ^ 64 := by
    have a1 : x % 2 ^ (64 - p) < 2 ^ (64 - p) := Nat.mod_lt _ (Nat.two_pow_pos _)
    have a2 : (x % 2 ^ (64 - p) + 1) * 2 ^ p ≤ 2 ^ (64 - p) * 2 ^ p := Nat.mul_le_mul_right _ a1
    rw [← e64, Nat.add_mul, Nat.one_mul] at a2
    omega
  have h4 : Ks345.turn p x = (x % 2 ^ (64 - p)) * 2 ^ p + x / 2 ^ (64 - p) := by
    show x * 2 ^ p % 2 ^ 64 + x / 2 ^ (64 - p) = _
    rw [h2]
  refine ⟨?_, by rw [h4]; exact h3⟩
  rw [h1, h4, Nat.add_mod, h2, Nat.mod_eq_of_lt (Nat.lt_of_lt_of_le hy (by rw [e64]; exact Nat.le_mul_of_pos_left _ (Nat.two_pow_pos _)))]
  exact Nat.mod_eq_of_lt h3
theorem add_lt (a b : Nat) : Ks345.add a b < 2 ^ 64 := Nat.mod_lt _ (Nat.two_pow_pos _)
/-! ### four numbers -/
structure B4 (v : Ks345.Four) : Prop where
  a : v.a < 2 ^ 64
  b : v.b < 2 ^ 64
  c : v.c < 2 ^ 64
  d : v.d < 2 ^ 64
theorem xor_lt {a b : Nat} (h1 : a < 2 ^ 64) (h2 : b < 2 ^ 64) : a ^^^ b < 2 ^ 64 := Nat.xor_lt_two_pow h1 h2
theorem round_b4 {v : Ks345.Four} (h : B4 v) : B4 (Ks345.round v) := by
  have t : ∀ {p x : Nat}, p ≤ 64 → x < 2 ^ 64 → Ks345.turn p x < 2 ^ 64 := fun hp hx => (turn_lt hp hx).2
  unfold Ks345.round
  refine ⟨add_lt _ _, ?_, ?_, ?_⟩
  · exact xor_lt (t (by decide) (xor_lt (t (by decide) h.b) (add_lt _ _))) (add_lt _ _)
  · exact t (by decide) (add_lt _ _)
  · exact xor_lt (t (by decide) (xor_lt (t (by decide) h.d) (add_lt _ _))) (add_lt _ _)
theorem rounds_eq (n : Nat) (v : Ks345.Four) : Ks345.rounds (n + 1) v = Ks345.rounds n (Ks345.round v) := by
  delta Ks345.rounds
  exact Eq.refl _
theorem rounds_zero (v : Ks345.Four) : Ks345.rounds 0 v = v := by
  delta Ks345.rounds
  exact Eq.refl _
theorem rounds_succ (n : Nat) : ∀ v : Ks345.Four, Ks345.rounds (n + 1) v = Ks345.round (Ks345.rounds n v) := by
  induction n with
  | zero => intro v; rw [rounds_eq, rounds_zero, rounds_zero]
  | succ n ih => intro v; rw [rounds_eq, ih, rounds_eq]
theorem rounds_b4 (n : Nat) : ∀ {v : Ks345.Four}, B4 v → B4 (Ks345.rounds n v) := by
  induction n with
  | zero => intro v h; rw [rounds_zero]; exact h
  | succ n ih => intro v h; rw [rounds_eq]; exact ih (round_b4 h)
theorem word_b4 {v : Ks345.Four} {m : Nat} (h : B4 v) (hm : m < 2 ^ 64) : B4 (Ks345.word v m) := by
  unfold Ks345.word
  have r := rounds_b4 2 (v := { v with d := v.d ^^^ m }) ⟨h.a, h.b, h.c, xor_lt h.d hm⟩
  exact ⟨xor_lt r.a hm, r.b, r.c, r.d⟩
/-! ### bytes -/
def Byt (l : List Nat) : Prop := ∀ x ∈ l, x < 256
theorem Byt.take {l : List Nat} (h : Byt l) (n : Nat) : Byt (l.take n) := fun x hx => h x (List.mem_of_mem_take hx)
theorem Byt.drop {l : List Nat} (h : Byt l) (n : Nat) : Byt (l.drop n) := fun x hx => h x (List.mem_of_mem_drop hx)
theorem Byt.append {l m : List Nat} (h : Byt l) (h' : Byt m) : Byt (l ++ m) := fun x hx => (List.mem_append.mp hx).elim (h x) (h' x)
theorem number_lt : ∀ {l : List Nat}, Byt l → Ks345.number l < 256 ^ l.length
  | [], _ => by decide
  | b :: l, h => by
    have h1 := number_lt (l := l) fun x hx => h x (List.mem_cons_of_mem _ hx)
    have h2 := h b List.mem_cons_self
    show b + 256 * Ks345.number l < 256 ^ (l.length + 1)
    rw [Nat.pow_succ]
    omega
theorem bytes_len : ∀ (k n : Nat), (Ks345.bytes k n).length = k
  | 0, _ => rfl
  | k + 1, n => congrArg (· + 1) (bytes_len k (n / 256))
theorem bytes_byt : ∀ (k n : Nat), Byt (Ks345.bytes k n)
  | 0, _, _, h => nomatch h
  | k + 1, n, x, h => by
    rcases List.mem_cons.mp h with e | e
    · subst e; exact Nat.mod_lt _ (by decide)
    · exact bytes_byt k (n / 256) x e
theorem bytes_snoc : ∀ (k n : Nat), Ks345.bytes (k + 1) n = Ks345.bytes k n ++ [n / 256 ^ k % 256]
  | 0, n => by simp [Ks345.bytes]
  | k + 1, n => by
    have ih := bytes_snoc k (n / 256)
    show n % 256 :: Ks345.bytes (k + 1) (n / 256) = n % 256 :: Ks345.bytes k (n / 256) ++ [n / 256 ^ (k + 1) % 256]
    rw [ih, Nat.div_div_eq_div_mul, Nat.pow_succ, Nat.mul_comm 256]
    rfl
theorem number_bytes : ∀ (k n : Nat), n < 256 ^ k → Ks345.number (Ks345.bytes k n) = n
  | 0, n, h => by simp at h; subst h; rfl
  | k + 1, n, h => by
    rw [Nat.pow_succ] at h
    have ih := number_bytes k (n / 256) (by omega)
    show n % 256 + 256 * Ks345.number (Ks345.bytes k (n / 256)) = n
    rw [ih]; omega
theorem bytes_number : ∀ {l : List Nat}, Byt l → Ks345.bytes l.length (Ks345.number l) = l
  | [], _ => rfl
  | b :: l, h => by
    have h2 := h b List.mem_cons_self
    have ih := bytes_number (l := l) fun x hx => h x (List.mem_cons_of_mem _ hx)
    show (b + 256 * Ks345.number l) % 256 :: Ks345.bytes l.length ((b + 256 * Ks345.number l) / 256) = b :: l
    have e1 : (b + 256 * Ks345.number l) % 256 = b := by omega
    have e2 : (b + 256 * Ks345.number l) / 256 = Ks345.number l := by omega
    rw [e1, e2, ih]
/-- the number loop: from the end -/
theorem number_step {l : List Nat} {i : Nat} {x : Nat} (h : l[i]? = some x) : Ks345.number (l.drop i) = Ks345.number (l.drop (i + 1)) * 256 + x := by
  obtain ⟨hi, e⟩ := List.getElem?_eq_some_iff.mp h
  rw [List.drop_eq_getElem_cons hi, e]
  show x + 256 * Ks345.number (l.drop (i + 1)) = _
  omega
/-! ### the tag of eight bytes -/
theorem begun_b4 {key : List Nat} (h : Byt key) (hl : key.length = 16) : B4 (Ks345.begun key) := by
  have h1 : Ks345.number (key.take 8) < 2 ^ 64 := by
    have := number_lt (h.take 8)
    rw [List.length_take, hl] at this
    exact this
  have h2 : Ks345.number (key.drop 8) < 2 ^ 64 := by
    have := number_lt (h.drop 8)
    rw [List.length_drop, hl] at this
    exact this
  unfold Ks345.begun
  exact ⟨xor_lt h1 (by decide), xor_lt h2 (by decide), xor_lt h1 (by decide), xor_lt h2 (by decide)⟩
def W2 : Nat := 576460752303423488
theorem taken8 {m : List Nat} (hl : m.length = 8) (v : Ks345.Four) : Ks345.taken (m.length / 8 + 1) m.length v m = Ks345.word (Ks345.word v (Ks345.number m)) W2 := by
  rw [hl]
  show (if m.length < 8 then _ else Ks345.taken 1 8 (Ks345.word v (Ks345.number (m.take 8))) (m.drop 8)) = _
  rw [if_neg (by omega), List.take_of_length_le (by omega), List.drop_of_length_le (by omega)]
  rfl
def fin (v : Ks345.Four) : Nat := let w := Ks345.rounds 4 { v with c := v.c ^^^ 255 }
  w.a ^^^ w.b ^^^ w.c ^^^ w.d
theorem fin_lt {v : Ks345.Four} (h : B4 v) : fin v < 2 ^ 64 := by
  have r := rounds_b4 4 (v := { v with c := v.c ^^^ 255 }) ⟨h.a, h.b, xor_lt h.c (by decide), h.d⟩
  exact xor_lt (xor_lt (xor_lt r.a r.b) r.c) r.d
theorem tag8 {key m : List Nat} (hl : m.length = 8) : Ks345.tag key m = fin (Ks345.word (Ks345.word (Ks345.begun key) (Ks345.number m)) W2) := by
  unfold Ks345.tag fin
  rw [taken8 hl]
  simp only [Nat.xor_assoc]
theorem tag_lt {key m : List Nat} (hk : Byt key) (hkl : key.length = 16) (hm : Byt m) (hl : m.length = 8) : Ks345.tag key m < 2 ^ 64 := by
  rw [tag8 hl]
  have h1 : Ks345.number m < 2 ^ 64 := by have := number_lt hm; rw [hl] at this; exact this
  exact fin_lt (word_b4 (word_b4 (begun_b4 hk hkl) h1) (by decide))
/-! ### cards -/
theorem plain_len (c : Ks345.Card) : (Ks345.plain c).length = 8 := by
  unfold Ks345.plain
  simp [bytes_len]
theorem plain_byt {c : Ks345.Card} (h1 : c.kind < 256) (h2 : c.place < 256) : Byt (Ks345.plain c) := by
  unfold Ks345.plain
  refine (((?_ : Byt [c.kind, c.place]).append (bytes_byt _ _)).append (bytes_byt _ _)).append (bytes_byt _ _)
  intro x hx
  simp at hx
  rcases hx with rfl | rfl
  · exact h1
  · exact h2
theorem signed_len (key : List Nat) (c : Ks345.Card) : (Ks345.signed key c).length = 16 := by
  unfold Ks345.signed
  rw [List.length_append, plain_len, bytes_len]
theorem signed_byt {key : List Nat} {c : Ks345.Card} (h1 : c.kind < 256) (h2 : c.place < 256) : Byt (Ks345.signed key c) := (plain_byt h1 h2).append (bytes_byt _ _)
/-- what the program asks of the kind and the place -/
def placeOk (kind place : Nat) : Bool := if kind = 1 ∨ kind = 3 then decide (place < 64) else if kind = 2 then decide (1 ≤ place) && decide (place ≤ 255) else decide (kind = 4) && decide (place = 255)
theorem two_lt {l : List Nat} (h : Byt l) (n : Nat) : Ks345.number ((l.drop n).take 2) < 65536 := by
  have a := number_lt ((h.drop n).take 2)
  have b : ((l.drop n).take 2).length ≤ 2 := by rw [List.length_take]; omega
  have c : 256 ^ ((l.drop n).take 2).length ≤ 256 ^ 2 := Nat.pow_le_pow_right (by decide) b
  omega
theorem look_none {key b : List Nat} (h : b.length ≠ 16) : Ks345.look key b = none := by
  unfold Ks345.look Ks345.okBytes
  have e : (b.length == 16) = false := beq_eq_false_iff_ne.mpr h
  rw [if_neg (by rintro ⟨h1, _⟩; rw [show Ks345.CARD = 16 from rfl, e] at h1; simp at h1)]
theorem look_eq {key b : List Nat} (hk : Byt key) (hkl : key.length = 16) (hb : Byt b) (hl : b.length = 16) :
    Ks345.look key b = if (b.drop 8 = Ks345.bytes 8 (Ks345.tag key (b.take 8))) ∧ placeOk (b.getD 0 0) (b.getD 1 0) = true then some (Ks345.cardOf b) else none := by
  have e1 : Ks345.okBytes Ks345.CARD b = true := by
    unfold Ks345.okBytes
    rw [hl]
    simp [Ks345.CARD]
    exact hb
  have e2 : Ks345.okCard (Ks345.cardOf b) = placeOk (b.getD 0 0) (b.getD 1 0) := by
    unfold Ks345.okCard Ks345.cardOf placeOk
    simp only [decide_eq_true (two_lt hb 2), decide_eq_true (two_lt hb 4), decide_eq_true (two_lt hb 6), Bool.true_and, Ks345.ROOMS]
    split
    · rfl
    · split
      · congr 1
        exact decide_eq_decide.mpr (by omega)
      · rw [Bool.beq_eq_decide_eq, Bool.beq_eq_decide_eq]
  have tl : Ks345.tag key (b.take 8) < 2 ^ 64 := tag_lt hk hkl (hb.take 8) (by rw [List.length_take, hl]; rfl)
  have dl : (b.drop 8).length = 8 := by rw [List.length_drop, hl]
  have e3 : Ks345.number (b.drop 8) = Ks345.tag key (b.take 8) ↔ b.drop 8 = Ks345.bytes 8 (Ks345.tag key (b.take 8)) := by
    constructor
    · intro h
      have q := bytes_number (hb.drop 8)
      rw [dl, h] at q
      exact q.symm
    · intro h
      have q := number_bytes 8 (Ks345.tag key (b.take 8)) tl
      rw [← h] at q
      exact q
  unfold Ks345.look
  rw [e1, e2]
  by_cases c1 : b.drop 8 = Ks345.bytes 8 (Ks345.tag key (b.take 8)) <;> by_cases c2 : placeOk (b.getD 0 0) (b.getD 1 0) = true
  · rw [if_pos ⟨rfl, c2, e3.mpr c1⟩, if_pos ⟨c1, c2⟩]
  · rw [if_neg (fun q => c2 q.2.1), if_neg (fun q => c2 q.2)]
  · rw [if_neg (fun q => c1 (e3.mp q.2.2)), if_neg (fun q => c1 q.1)]
  · rw [if_neg (fun q => c2 q.2.1), if_neg (fun q => c2 q.2)]
end Dc

set_option Elab.async false
set_option linter.all false
/-! the specification, call by call, over a house that stands -/
namespace Dc
structure Good (s : Ks348.Abs) : Prop where
  kl : s.desk.key.length = 16
  kb : ∀ x ∈ s.desk.key, x < 256
  rm : s.desk.rooms.length ≤ 64
  zn : ∀ r ∈ s.desk.rooms, r.zone < 8
  dr : s.doors.length ≤ 16
  dk : ∀ d ∈ s.doors, d.key = s.desk.key
  bk : ∀ d ∈ s.doors, d.book.length ≤ 16
  cd : s.cards.length ≤ 64
  cb : ∀ c ∈ s.cards, (∀ x ∈ c, x < 256) ∧ c.length = 16
section
variable {s : Ks348.Abs}
theorem key_on {k : List Nat} (h : k.length = 16) : (k != []) = true := by
  cases k with
  | nil => cases h
  | cons a l => rfl
theorem Good.on (g : Good s) : s.desk.on = true := key_on g.kl
theorem Good.on8 (g : Good s) : s.on = true := g.on
theorem Good.don (g : Good s) {d : Ks346.Abs} (h : d ∈ s.doors) : d.on = true := by
  unfold Ks346.Abs.on
  rw [g.dk d h]
  exact key_on g.kl
/-- a card is made and kept -/
def mk (s : Ks348.Abs) (kind place number last : Nat) : Ks348.Abs × Ks348.Ans :=
  ({ s with desk := { s.desk with serial := s.desk.serial + 1 }, cards := (Ks345.signed s.desk.key ⟨kind, place, number, last, s.desk.serial⟩ :: s.cards).take 64 },
   ⟨s.desk.serial, Ks345.signed s.desk.key ⟨kind, place, number, last, s.desk.serial⟩⟩)
def putRoom (s : Ks348.Abs) (i : Nat) (x : Ks347.Room) : Ks348.Abs := { s with desk := Ks347.setRoom s.desk i x }
def putDoor (s : Ks348.Abs) (i : Nat) (x : Ks346.Abs) : Ks348.Abs := { s with doors := s.doors.set i x }
theorem no_neg {v : Int} (h : v < 0) (c : Ks347.Call) (a : Ks347.Abs) : (Ks347.makes c && decide (0 ≤ (Ks347.no v).ret)) = false := by
  have e : decide (0 ≤ (Ks347.no v).ret) = false := decide_eq_false (by show ¬ 0 ≤ v; omega)
  rw [e, Bool.and_false]
/-- the desk refuses -/
theorem desk_no {c : Ks347.Call} {v : Int} (hv : v < 0) (hb : ∀ k, c ≠ .begin k) (h : Ks347.act s.desk c = (s.desk, Ks347.no v)) : Ks348.act s (.desk c) = (s, Ks348.no v) := by
  have e : Ks348.act s (.desk c) = Ks348.atDesk s c := by
    cases c <;> first | rfl | exact absurd rfl (hb _)
  rw [e]
  unfold Ks348.atDesk
  rw [h]
  dsimp only
  rw [no_neg hv c s.desk]
  rfl
/-- the desk makes a card -/
theorem desk_mk {c : Ks347.Call} {a : Ks347.Abs} {kd p n l : Nat} (hk : a.key = s.desk.key) (hs : a.serial = s.desk.serial) (hc : Ks347.makes c = true) (h : Ks347.act s.desk c = Ks347.made a kd p n l) : Ks348.act s (.desk c) = mk { s with desk := a } kd p n l := by
  have e : Ks348.act s (.desk c) = Ks348.atDesk s c := by
    cases c <;> first | rfl | exact (Bool.false_ne_true hc).elim
  rw [e]
  unfold Ks348.atDesk
  rw [h, hc]
  unfold Ks347.made mk
  dsimp only
  have e1 : decide ((0 : Int) ≤ (a.serial : Int)) = true := decide_eq_true (by omega)
  rw [e1]
  rfl
/-- the desk changes, and makes no card -/
theorem desk_do {c : Ks347.Call} {a : Ks347.Abs} {r : Int} {o : List Nat} (hc : Ks347.makes c = false) (hb : ∀ k, c ≠ .begin k) (h : Ks347.act s.desk c = (a, ⟨r, o⟩)) : Ks348.act s (.desk c) = ({ s with desk := a }, ⟨r, o⟩) := by
  have e : Ks348.act s (.desk c) = Ks348.atDesk s c := by
    cases c <;> first | rfl | exact absurd rfl (hb _)
  rw [e]
  unfold Ks348.atDesk
  rw [h, hc]
  rfl
variable (g : Good s)
include g
theorem act_room {z : Nat} : Ks347.act s.desk (.room z) = if 8 ≤ z then (s.desk, Ks347.no (-22)) else if 64 ≤ s.desk.rooms.length then (s.desk, Ks347.no (-28)) else ({ s.desk with rooms := s.desk.rooms ++ [⟨z, 0, none⟩] }, ⟨s.desk.rooms.length, []⟩) := by
  simp only [Ks347.act, g.on]
  rfl
theorem act_day {d : Nat} : Ks347.act s.desk (.day d) = if d < s.desk.day ∨ 65535 < d then (s.desk, Ks347.no (-22)) else
    ({ s.desk with day := d, rooms := Ks347.ended s.desk d }, ⟨((Ks347.stays s.desk - Ks347.stays { s.desk with day := d, rooms := Ks347.ended s.desk d } : Nat) : Int), []⟩) := by
  simp only [Ks347.act, g.on]
  rfl
theorem act_come {r l : Nat} {x : Ks347.Room} (hx : s.desk.rooms[r]? = some x) : Ks347.act s.desk (.come r l) = if l < s.desk.day ∨ 65535 < l then (s.desk, Ks347.no (-22)) else if x.stay.isSome then (s.desk, Ks347.no (-15)) else if 65535 ≤ x.number ∨ Ks347.full s.desk = true then (s.desk, Ks347.no (-28)) else Ks347.made (Ks347.setRoom s.desk r ⟨x.zone, x.number + 1, some l⟩) 1 r (x.number + 1) l := by
  simp only [Ks347.act, g.on, hx]
  rfl
theorem act_copy {r : Nat} {x : Ks347.Room} (hx : s.desk.rooms[r]? = some x) : Ks347.act s.desk (.copy r) = match x.stay with
    | none => (s.desk, Ks347.no (-6))
    | some l => if Ks347.full s.desk = true then (s.desk, Ks347.no (-28)) else Ks347.made s.desk 1 r x.number l := by
  simp only [Ks347.act, g.on, hx]
  rfl
theorem act_lost {r : Nat} {x : Ks347.Room} (hx : s.desk.rooms[r]? = some x) : Ks347.act s.desk (.lost r) = match x.stay with
    | none => (s.desk, Ks347.no (-6))
    | some l => if 65535 ≤ x.number ∨ Ks347.full s.desk = true then (s.desk, Ks347.no (-28)) else Ks347.made (Ks347.setRoom s.desk r ⟨x.zone, x.number + 1, some l⟩) 1 r (x.number + 1) l := by
  simp only [Ks347.act, g.on, hx]
  rfl
theorem act_longer {r m : Nat} {x : Ks347.Room} (hx : s.desk.rooms[r]? = some x) : Ks347.act s.desk (.longer r m) = match x.stay with
    | none => (s.desk, Ks347.no (-6))
    | some l => if m < l ∨ 65535 < m then (s.desk, Ks347.no (-22)) else if Ks347.full s.desk = true then (s.desk, Ks347.no (-28)) else Ks347.made (Ks347.setRoom s.desk r ⟨x.zone, x.number, some m⟩) 1 r x.number m := by
  simp only [Ks347.act, g.on, hx]
  rfl
theorem act_leave {r : Nat} {x : Ks347.Room} (hx : s.desk.rooms[r]? = some x) : Ks347.act s.desk (.leave r) = match x.stay with
    | none => (s.desk, Ks347.no (-6))
    | some _ => (Ks347.setRoom s.desk r ⟨x.zone, x.number, none⟩, ⟨0, []⟩) := by
  simp only [Ks347.act, g.on, hx]
  rfl
theorem act_shut {r : Nat} {x : Ks347.Room} (hx : s.desk.rooms[r]? = some x) : Ks347.act s.desk (.shut r) = if x.stay.isSome then (s.desk, Ks347.no (-15)) else if 65535 ≤ x.number ∨ Ks347.full s.desk = true then (s.desk, Ks347.no (-28)) else Ks347.made (Ks347.setRoom s.desk r ⟨x.zone, x.number + 1, none⟩) 3 r (x.number + 1) s.desk.day := by
  simp only [Ks347.act, g.on, hx]
  rfl
theorem act_staff {z l : Nat} : Ks347.act s.desk (.staff z l) = if z = 0 ∨ 256 ≤ z ∨ l < s.desk.day ∨ 65535 < l then (s.desk, Ks347.no (-22)) else if Ks347.full s.desk = true then (s.desk, Ks347.no (-28)) else Ks347.made s.desk 2 z s.desk.epoch l := by
  simp only [Ks347.act, g.on]
  rfl
theorem act_recall : Ks347.act s.desk .recall = if 65535 ≤ s.desk.epoch then (s.desk, Ks347.no (-28)) else ({ s.desk with epoch := s.desk.epoch + 1 }, ⟨((s.desk.epoch + 1 : Nat) : Int), []⟩) := by
  simp only [Ks347.act, g.on]
  rfl
theorem act_need {l : Nat} : Ks347.act s.desk (.need l) = if l < s.desk.day ∨ 65535 < l then (s.desk, Ks347.no (-22)) else if Ks347.full s.desk = true then (s.desk, Ks347.no (-28)) else Ks347.made s.desk 4 255 s.desk.epoch l := by
  simp only [Ks347.act, g.on]
  rfl
theorem act_whose {b : List Nat} : Ks347.act s.desk (.whose b) = match Ks345.look s.desk.key b with
    | none => (s.desk, Ks347.no (-71))
    | some c => (s.desk, ⟨(Ks347.good s.desk c : Int), Ks345.fields c⟩) := by
  simp only [Ks347.act, g.on]
  rfl
theorem act_stay {r : Nat} {x : Ks347.Room} (hx : s.desk.rooms[r]? = some x) : Ks347.act s.desk (.stay r) = match x.stay with
    | none => (s.desk, Ks347.no (-6))
    | some l => (s.desk, ⟨l, [x.number, x.zone]⟩) := by
  simp only [Ks347.act, g.on, hx]
  rfl
def freeL (l : List Ks347.Room) : List Nat := (List.range l.length).filter fun r => match l[r]? with
      | some x => x.stay.isNone
      | none => false
theorem act_free : Ks347.act s.desk .free = (s.desk, ⟨(freeL s.desk.rooms).length, freeL s.desk.rooms⟩) := by
  simp only [Ks347.act, g.on]
  rfl
theorem act_state : Ks347.act s.desk .state = (s.desk, ⟨s.desk.rooms.length, [Ks347.stays s.desk, s.desk.day, s.desk.epoch, s.desk.serial]⟩) := by
  simp only [Ks347.act, g.on]
  rfl
/-- no such room -/
theorem act_noroom {r : Nat} (hx : s.desk.rooms[r]? = none) {c : Ks347.Call} (hc : (∃ l, c = .come r l) ∨ c = .copy r ∨ c = .lost r ∨ (∃ l, c = .longer r l) ∨ c = .leave r ∨ c = .shut r ∨ c = .stay r) : Ks348.act s (.desk c) = (s, Ks348.no (-2)) := by
  refine desk_no (by decide) ?_ ?_
  · rintro k rfl
    rcases hc with ⟨l, e⟩ | e | e | ⟨l, e⟩ | e | e | e <;> cases e
  · rcases hc with ⟨l, rfl⟩ | rfl | rfl | ⟨l, rfl⟩ | rfl | rfl | rfl <;> simp only [Ks347.act, g.on, hx] <;> rfl
/-! doors -/
theorem act_hang {r : Nat} : Ks348.act s (.hang r) = match s.desk.rooms[r]? with
    | none => (s, Ks348.no (-2))
    | some x => if Ks348.roomHas s r = true then (s, Ks348.no (-17)) else if 16 ≤ s.doors.length then (s, Ks348.no (-28)) else
      ({ s with doors := s.doors ++ [{ key := s.desk.key, room := r, zone := x.zone }] }, ⟨s.doors.length, []⟩) := by
  simp only [Ks348.act, g.on8]
  cases hx : s.desk.rooms[r]? with
  | none => rfl
  | some x =>
    have h1 : r < 64 := Nat.lt_of_lt_of_le (List.getElem?_eq_some_iff.mp hx).1 g.rm
    have h2 : x.zone < 8 := g.zn x (List.mem_of_getElem? hx)
    have h3 : Ks345.okBytes Ks345.KEY s.desk.key = true := by
      unfold Ks345.okBytes
      rw [g.kl]
      simp [Ks345.KEY]
      exact g.kb
    have h4 : (Ks346.act {} (.begin s.desk.key r x.zone)).1 = { key := s.desk.key, room := r, zone := x.zone } := by
      simp only [Ks346.act]
      rw [if_neg (by rw [h3]; show ¬ (true = false ∨ 64 ≤ r ∨ 8 ≤ x.zone); simp; omega)]
    dsimp only
    rw [h4]
    rfl
theorem act_nodoor {i : Nat} (hx : s.doors[i]? = none) {c : Ks348.Call} (hc : (∃ d, c = .day i d) ∨ (∃ b, c = .open_ i b) ∨ (∃ b, c = .would i b) ∨ (∃ k, c = .show i k) ∨ (∃ v, c = .bolt i v) ∨ (∃ k, c = .book i k) ∨ c = .door i) : Ks348.act s c = (s, Ks348.no (-2)) := by
  have hl : s.doors.length ≤ i := List.getElem?_eq_none_iff.mp hx
  rcases hc with ⟨d, rfl⟩ | ⟨d, rfl⟩ | ⟨d, rfl⟩ | ⟨d, rfl⟩ | ⟨d, rfl⟩ | ⟨d, rfl⟩ | rfl <;> simp only [Ks348.act, g.on8, Ks348.atDoor, hx] <;> simp [hl]
theorem at_door {i : Nat} {d : Ks346.Abs} (hx : s.doors[i]? = some d) (c : Ks346.Call) : Ks348.atDoor s i c = (putDoor s i (Ks346.act d c).1, ⟨(Ks346.act d c).2.ret, (Ks346.act d c).2.out⟩) := by
  unfold Ks348.atDoor
  rw [hx]
  rfl
omit g in
theorem put_same {i : Nat} {d : Ks346.Abs} (hx : s.doors[i]? = some d) : putDoor s i d = s := by
  unfold putDoor
  have e : s.doors.set i d = s.doors := by
    apply List.ext_getElem?
    intro j
    by_cases h : i = j
    · subst h
      rw [List.getElem?_set_self (List.getElem?_eq_some_iff.mp hx).1, hx]
    · rw [List.getElem?_set_ne h]
  rw [e]
theorem act_doorday {i n : Nat} {d : Ks346.Abs} (hx : s.doors[i]? = some d) : Ks348.act s (.day i n) = if n < d.day ∨ 65536 ≤ n then (s, Ks348.no (-22)) else (putDoor s i { d with day := n }, ⟨0, []⟩) := by
  simp only [Ks348.act, g.on8, at_door g hx, Ks346.act, g.don (List.mem_of_getElem? hx)]
  by_cases h : n < d.day ∨ 65536 ≤ n
  · simp only [if_pos h]
    simp [put_same hx, Ks348.no, Ks346.no]
  · simp only [if_neg h]
    simp [Ks346.no]
theorem act_open {i : Nat} {b : List Nat} {d : Ks346.Abs} (hx : s.doors[i]? = some d) : Ks348.act s (.open_ i b) = match Ks345.look s.desk.key b with
    | none => (s, Ks348.no (-71))
    | some c => (putDoor s i (Ks346.shown d c).1, Ks348.no (Ks346.shown d c).2) := by
  simp only [Ks348.act, g.on8, at_door g hx, Ks346.act, g.don (List.mem_of_getElem? hx), g.dk d (List.mem_of_getElem? hx)]
  cases Ks345.look s.desk.key b with
  | none => simp [put_same hx, Ks348.no, Ks346.no]
  | some c => simp [Ks348.no, Ks346.no]
theorem act_would {i : Nat} {b : List Nat} {d : Ks346.Abs} (hx : s.doors[i]? = some d) : Ks348.act s (.would i b) = match Ks345.look s.desk.key b with
    | none => (s, Ks348.no (-71))
    | some c => (s, Ks348.no (Ks346.shown d c).2) := by
  simp only [Ks348.act, g.on8, at_door g hx, Ks346.act, g.don (List.mem_of_getElem? hx), g.dk d (List.mem_of_getElem? hx)]
  cases Ks345.look s.desk.key b with
  | none => simp [put_same hx, Ks348.no, Ks346.no]
  | some c => simp [put_same hx, Ks348.no, Ks346.no]
theorem act_show {i k : Nat} {d : Ks346.Abs} (hx : s.doors[i]? = some d) : Ks348.act s (.show i k) = match s.cards[k]? with
    | none => (s, Ks348.no (-6))
    | some b => Ks348.act s (.open_ i b) := by
  have hl : ¬ s.doors.length ≤ i := Nat.not_le_of_lt (List.getElem?_eq_some_iff.mp hx).1
  simp only [Ks348.act, g.on8]
  simp [hl]
  cases s.cards[k]? <;> rfl
theorem act_card {k : Nat} : Ks348.act s (.card k) = match s.cards[k]? with
    | none => (s, Ks348.no (-6))
    | some b => (s, ⟨16, b⟩) := by
  simp only [Ks348.act, g.on8]
  rfl
theorem act_bolt {i v : Nat} {d : Ks346.Abs} (hx : s.doors[i]? = some d) : Ks348.act s (.bolt i v) = if 1 < v then (s, Ks348.no (-22)) else (putDoor s i { d with bolted := v == 1 }, ⟨0, []⟩) := by
  simp only [Ks348.act, g.on8, at_door g hx, Ks346.act, g.don (List.mem_of_getElem? hx)]
  by_cases h : 1 < v
  · simp only [if_pos h]
    simp [put_same hx, Ks348.no, Ks346.no]
  · simp only [if_neg h]
    simp [Ks346.no]
theorem act_book {i k : Nat} {d : Ks346.Abs} (hx : s.doors[i]? = some d) : Ks348.act s (.book i k) = match d.book[k]? with
    | none => (s, Ks348.no (-6))
    | some e => (s, ⟨e.kind, [e.number, e.serial, e.day]⟩) := by
  simp only [Ks348.act, g.on8, hx, Ks346.act, g.don (List.mem_of_getElem? hx)]
  cases d.book[k]? with
  | none => rfl
  | some e => rfl
theorem act_door {i : Nat} {d : Ks346.Abs} (hx : s.doors[i]? = some d) : Ks348.act s (.door i) = (s, ⟨if d.bolted then 1 else 0, [d.room, d.zone, d.day, d.number, d.epoch, d.book.length]⟩) := by
  simp only [Ks348.act, g.on8, at_door g hx, Ks346.act, g.don (List.mem_of_getElem? hx)]
  simp [put_same hx]
theorem act_all {n : Nat} : Ks348.act s (.all n) = if n < s.desk.day ∨ 65535 < n then (s, Ks348.no (-22)) else
    ({ s with desk := { s.desk with day := n, rooms := Ks347.ended s.desk n }, doors := Ks348.aged s.doors n }, ⟨((Ks347.stays s.desk - Ks347.stays { s.desk with day := n, rooms := Ks347.ended s.desk n } : Nat) : Int), []⟩) := by
  have e := act_day g (d := n)
  simp only [Ks348.act, g.on8]
  by_cases h : n < s.desk.day ∨ 65535 < n
  · rw [if_pos h] at e
    rw [e, if_pos h]
    rfl
  · rw [if_neg h] at e
    rw [e, if_neg h]
    dsimp only
    rw [if_neg (by decide), if_neg (by omega)]
    rfl
end
end Dc

set_option Elab.async false
set_option linter.all false
/-! what stays true of a house -/
namespace Dc
section
variable {s : Ks348.Abs} (g : Good s)
include g
theorem good_desk {d : Ks347.Abs} (hk : d.key = s.desk.key) (hr : d.rooms.length ≤ 64) (hz : ∀ r ∈ d.rooms, r.zone < 8) : Good { s with desk := d } :=
  ⟨by rw [hk]; exact g.kl, by rw [hk]; exact g.kb, hr, hz, g.dr, by rw [hk]; exact g.dk, g.bk, g.cd, g.cb⟩
theorem good_cards {b : List Nat} (hb : ∀ x ∈ b, x < 256) (hl : b.length = 16) : Good { s with cards := (b :: s.cards).take 64 } :=
  ⟨g.kl, g.kb, g.rm, g.zn, g.dr, g.dk, g.bk, by show ((b :: s.cards).take 64).length ≤ 64; rw [List.length_take]; exact Nat.min_le_left _ _, fun c hc => by
    rcases List.mem_cons.mp (List.mem_of_mem_take hc) with e | e
    · subst e; exact ⟨hb, hl⟩
    · exact g.cb c e⟩
theorem good_mk {kd p n l : Nat} (hb : ∀ x ∈ Ks345.signed s.desk.key ⟨kd, p, n, l, s.desk.serial⟩, x < 256) (hl : (Ks345.signed s.desk.key ⟨kd, p, n, l, s.desk.serial⟩).length = 16) : Good (mk s kd p n l).1 := by
  have h1 := good_cards g hb hl
  exact good_desk (s := { s with cards := (Ks345.signed s.desk.key ⟨kd, p, n, l, s.desk.serial⟩ :: s.cards).take 64 }) h1 (d := { s.desk with serial := s.desk.serial + 1 }) rfl g.rm g.zn
theorem good_putRoom {i : Nat} {x : Ks347.Room} (hx : x.zone < 8) : Good (putRoom s i x) := by
  refine good_desk g (d := Ks347.setRoom s.desk i x) rfl ?_ fun r hr => ?_
  · show (s.desk.rooms.set i x).length ≤ 64
    rw [List.length_set]; exact g.rm
  · have hr : r ∈ s.desk.rooms.set i x := hr
    rcases List.mem_or_eq_of_mem_set hr with e | e
    · exact g.zn r e
    · rw [e]; exact hx
theorem good_addRoom {z : Nat} (hz : z < 8) (hl : s.desk.rooms.length < 64) : Good { s with desk := { s.desk with rooms := s.desk.rooms ++ [⟨z, 0, none⟩] } } := by
  refine good_desk g rfl ?_ fun r hr => ?_
  · show (s.desk.rooms ++ [_]).length ≤ 64
    rw [List.length_append, List.length_singleton]; omega
  · have hr : r ∈ s.desk.rooms ++ [⟨z, 0, none⟩] := hr
    rcases List.mem_append.mp hr with e | e
    · exact g.zn r e
    · rw [List.mem_singleton.mp e]; exact hz
theorem good_ended {d : Nat} : Good { s with desk := { s.desk with day := d, rooms := Ks347.ended s.desk d } } := by
  refine good_desk g rfl ?_ fun r hr => ?_
  · show (Ks347.ended s.desk d).length ≤ 64
    unfold Ks347.ended
    rw [List.length_map]; exact g.rm
  · have hr : r ∈ Ks347.ended s.desk d := hr
    unfold Ks347.ended at hr
    obtain ⟨x, hx, e⟩ := List.mem_map.mp hr
    have hz := g.zn x hx
    subst e
    split
    · split
      · exact hz
      · exact hz
    · exact hz
theorem good_doors {ds : List Ks346.Abs} (hl : ds.length ≤ 16) (hk : ∀ d ∈ ds, d.key = s.desk.key) (hb : ∀ d ∈ ds, d.book.length ≤ 16) : Good { s with doors := ds } :=
  ⟨g.kl, g.kb, g.rm, g.zn, hl, hk, hb, g.cd, g.cb⟩
theorem good_putDoor {i : Nat} {d : Ks346.Abs} (hk : d.key = s.desk.key) (hb : d.book.length ≤ 16) : Good (putDoor s i d) := by
  refine good_doors g (by rw [List.length_set]; exact g.dr) (fun x hx => ?_) fun x hx => ?_
  · rcases List.mem_or_eq_of_mem_set hx with e | e
    · exact g.dk x e
    · rw [e]; exact hk
  · rcases List.mem_or_eq_of_mem_set hx with e | e
    · exact g.bk x e
    · rw [e]; exact hb
theorem good_addDoor {d : Ks346.Abs} (hl : s.doors.length < 16) (hk : d.key = s.desk.key) (hb : d.book.length ≤ 16) : Good { s with doors := s.doors ++ [d] } := by
  refine good_doors g (by rw [List.length_append, List.length_singleton]; omega) (fun x hx => ?_) fun x hx => ?_
  · rcases List.mem_append.mp hx with e | e
    · exact g.dk x e
    · rw [List.mem_singleton.mp e]; exact hk
  · rcases List.mem_append.mp hx with e | e
    · exact g.bk x e
    · rw [List.mem_singleton.mp e]; exact hb
end
theorem good_begin {k : List Nat} (hl : k.length = 16) (hb : ∀ x ∈ k, x < 256) : Good { desk := { key := k } } :=
  ⟨hl, hb, Nat.zero_le _, fun _ h => (nomatch h), Nat.zero_le _, fun _ h => (nomatch h), fun _ h => (nomatch h), Nat.zero_le _, fun _ h => (nomatch h)⟩
theorem act_begin {s : Ks348.Abs} {k : List Nat} (hb : ∀ x ∈ k, x < 256) : Ks348.act s (.desk (.begin k)) = if k.length = 16 then ({ desk := { key := k } }, ⟨0, []⟩) else (s, Ks348.no (-22)) := by
  have e : Ks345.okBytes Ks345.KEY k = decide (k.length = 16) := by
    unfold Ks345.okBytes
    rw [Bool.beq_eq_decide_eq]
    have : (k.all fun x => decide (x < 256)) = true := List.all_eq_true.mpr fun x hx => decide_eq_true (hb x hx)
    rw [this, Bool.and_true]
    rfl
  simp only [Ks348.act, Ks347.act, e]
  by_cases h : k.length = 16
  · simp [h, Ks348.no]
  · simp [h, Ks348.no]
/-! shown, as the program goes -/
def byRoom (c : Ks345.Card) : Bool := decide (c.kind = 1 ∨ c.kind = 3)
def isFor (d : Ks346.Abs) (c : Ks345.Card) : Bool := if byRoom c then decide (c.place = d.room) else if c.kind = 2 then c.place.testBit d.zone else true
def learned (d : Ks346.Abs) (c : Ks345.Card) : Nat := if byRoom c then d.number else d.epoch
def stopped (c : Ks345.Card) : Bool := decide (c.kind = 1 ∨ c.kind = 2)
def verdictOf (d : Ks346.Abs) (c : Ks345.Card) : Int :=
  if isFor d c = false then -13 else if c.last < d.day then -34 else if c.number < learned d c then -17 else if d.bolted = true ∧ stopped c = true then -15 else c.kind
def learnt (d : Ks346.Abs) (c : Ks345.Card) : Ks346.Abs :=
  { d with number := if byRoom c then c.number else d.number, epoch := if byRoom c then d.epoch else c.number, bolted := if c.kind = 4 then false else d.bolted, book := (⟨c.kind, c.number, c.serial, d.day⟩ :: d.book).take 16 }
theorem shown_eq {d : Ks346.Abs} {c : Ks345.Card} (hk : c.kind = 1 ∨ c.kind = 2 ∨ c.kind = 3 ∨ c.kind = 4) : Ks346.shown d c = (if 0 < verdictOf d c then learnt d c else d, verdictOf d c) := by
  obtain ⟨kind, place, number, last, serial⟩ := c
  obtain ⟨key, room, zone, day, num, epoch, bolted, book⟩ := d
  dsimp only at hk
  unfold Ks346.shown verdictOf isFor learned stopped learnt byRoom Ks346.wrote
  rcases hk with rfl | rfl | rfl | rfl
  · by_cases h1 : place = room <;> by_cases h2 : last < day <;> by_cases h3 : number < num <;> cases bolted <;> simp [h1, h2, h3, Ks346.BOOK]
  · cases h1 : place.testBit zone <;> by_cases h2 : last < day <;> by_cases h3 : number < epoch <;> cases bolted <;> simp [h1, h2, h3, Ks346.BOOK]
  · by_cases h1 : place = room <;> by_cases h2 : last < day <;> by_cases h3 : number < num <;> cases bolted <;> simp [h1, h2, h3, Ks346.BOOK]
  · by_cases h2 : last < day <;> by_cases h3 : number < epoch <;> cases bolted <;> simp [h2, h3, Ks346.BOOK]
theorem learnt_key (d : Ks346.Abs) (c : Ks345.Card) : (learnt d c).key = d.key := rfl
theorem learnt_book (d : Ks346.Abs) (c : Ks345.Card) : (learnt d c).book.length ≤ 16 := by
  show ((_ :: d.book).take 16).length ≤ 16
  rw [List.length_take]; exact Nat.min_le_left _ _
end Dc

set_option Elab.async false
set_option linter.all false
/-! the list of calls, one by one -/
namespace Dc
def zs (l : List Nat) : List Int := l.map fun (n : Nat) => (n : Int)
theorem zs_len (l : List Nat) : (zs l).length = l.length := List.length_map ..
theorem zs_take (l : List Nat) (n : Nat) : (zs l).take n = zs (l.take n) := (List.map_take ..).symm
theorem zs_drop (l : List Nat) (n : Nat) : (zs l).drop n = zs (l.drop n) := (List.map_drop ..).symm
theorem zs_nats (l : List Nat) : Ks348Neutral.nats (zs l) = l := by
  unfold Ks348Neutral.nats zs
  rw [List.map_map]
  have : (Int.toNat ∘ fun (n : Nat) => (n : Int)) = id := by funext n; simp
  rw [this, List.map_id]
theorem zs_of : ∀ {l : List Int}, (∀ x ∈ l, 0 ≤ x) → l = zs (l.map Int.toNat)
  | [], _ => rfl
  | x :: l, h => by
    have ih := zs_of (l := l) fun y hy => h y (List.mem_cons_of_mem _ hy)
    have hx := h x List.mem_cons_self
    show x :: l = ((x.toNat : Nat) : Int) :: zs (l.map Int.toNat)
    rw [← ih]
    congr 1
    omega
def layL : List (Nat × Nat) := [(0, 1), (1, 0), (1, 0), (2, 0), (1, 0), (1, 0), (2, 0), (1, 0), (1, 0), (2, 0), (0, 0), (1, 0), (0, 1), (1, 0), (0, 0), (0, 0), (1, 0), (2, 0), (1, 1), (1, 1), (2, 0), (1, 0), (2, 0), (2, 0), (1, 0), (1, 0)]
theorem shape_lay {q n k : Nat} (h : PyKs348.shape (q : Int) = some (n, k)) : layL[q]? = some (n, k) := by
  by_cases hq : q < 26
  · have t : ∀ q : Nat, q < 26 → PyKs348.shape (q : Int) = layL[q]? := by decide
    rw [← t q hq]
    exact h
  · have e : PyKs348.shape (q : Int) = none := by
      unfold PyKs348.shape
      iterate 26 rw [if_neg (by omega)]
    rw [e] at h
    cases h
theorem whole_id (c : List (List Int)) : PyKs348.whole c = c := by
  unfold PyKs348.whole
  split <;> rfl
theorem calls_eq (l : List Int) : PyKs348.calls l = PyFlat.calls PyKs348.shape l.length l := by
  unfold PyKs348.calls
  have e : PyKs348.whole = id := funext whole_id
  rw [e]
  cases PyFlat.calls PyKs348.shape l.length l with
  | none => rfl
  | some cs => simp
/-- the call, as the specification says it -/
def callOf (q a b : Nat) (r : List Nat) : Ks348.Call := match q with
  | 0 => .desk (.begin r)
  | 1 => .desk (.room a)
  | 2 => .desk (.day a)
  | 3 => .desk (.come a b)
  | 4 => .desk (.copy a)
  | 5 => .desk (.lost a)
  | 6 => .desk (.longer a b)
  | 7 => .desk (.leave a)
  | 8 => .desk (.shut a)
  | 9 => .desk (.staff a b)
  | 10 => .desk .recall
  | 11 => .desk (.need a)
  | 12 => .desk (.whose r)
  | 13 => .desk (.stay a)
  | 14 => .desk .free
  | 15 => .desk .state
  | 16 => .hang a
  | 17 => .day a b
  | 18 => .open_ a r
  | 19 => .would a r
  | 20 => .show a b
  | 21 => .card a
  | 22 => .bolt a b
  | 23 => .book a b
  | 24 => .door a
  | _ => .all a
theorem step_eq (s : Ks348.Abs) (c : List (List Int)) : Ks348Neutral.step s c = Ks348Neutral.sa (Ks348.act s (callOf (Ks348Neutral.num c 0 0) (Ks348Neutral.num c 0 1) (Ks348Neutral.num c 0 2) (Ks348Neutral.row c 1))) := by
  unfold Ks348Neutral.step callOf
  generalize Ks348Neutral.num c 0 0 = q
  match q with
  | 0 => rfl
  | 1 => rfl
  | 2 => rfl
  | 3 => rfl
  | 4 => rfl
  | 5 => rfl
  | 6 => rfl
  | 7 => rfl
  | 8 => rfl
  | 9 => rfl
  | 10 => rfl
  | 11 => rfl
  | 12 => rfl
  | 13 => rfl
  | 14 => rfl
  | 15 => rfl
  | 16 => rfl
  | 17 => rfl
  | 18 => rfl
  | 19 => rfl
  | 20 => rfl
  | 21 => rfl
  | 22 => rfl
  | 23 => rfl
  | 24 => rfl
  | _ + 25 => rfl
/-- one call read -/
structure Read (m : List Nat) (at_ : Nat) (q n k : Nat) (row : List Nat) (to : Nat) : Prop where
  hd : m[at_]? = some q
  lay : layL[q]? = some (n, k)
  nums : at_ + 1 + n ≤ m.length
  non : k = 0 → to = at_ + 1 + n ∧ row = []
  one : k = 1 → ∃ l, m[at_ + 1 + n]? = some l ∧ at_ + 1 + n + 1 + l ≤ m.length ∧ to = at_ + 1 + n + 1 + l ∧ row = (m.drop (at_ + 1 + n + 1)).take l
  kk : k = 0 ∨ k = 1
  byt : ∀ x ∈ row, x < 256
  le : to ≤ m.length
  lt : at_ < to
def callAt (m : List Nat) (at_ q : Nat) (row : List Nat) : Ks348.Call := callOf q (m.getD (at_ + 1) 0) (m.getD (at_ + 2) 0) row
theorem lay_kk {q n k : Nat} (h : layL[q]? = some (n, k)) : k = 0 ∨ k = 1 := by
  have : ∀ p ∈ layL, p.2 = 0 ∨ p.2 = 1 := by decide
  exact this (n, k) (List.mem_of_getElem? h)
theorem asked_row {q n : Nat} {a x : List Int} (hl : layL[q]? = some (n, 1)) (ha : a.length = n) (h : Ks348Neutral.asked1 [((q : Int) :: a), x] = true) : ∀ z ∈ x, 0 ≤ z ∧ z < 256 := by
  have key : (x.all fun (z : Int) => Ks348Neutral.natural z 8) = true := by
    have hq : (q = 0 ∨ q = 12) ∧ n = 0 ∨ (q = 18 ∨ q = 19) ∧ n = 1 := by
      have t : ∀ p ∈ layL.zipIdx, p.1.2 = 1 → ((p.2 = 0 ∨ p.2 = 12) ∧ p.1.1 = 0 ∨ (p.2 = 18 ∨ p.2 = 19) ∧ p.1.1 = 1) := by decide
      exact t ((n, 1), q) (List.mk_mem_zipIdx_iff_getElem?.mpr hl) rfl
    rcases hq with ⟨rfl | rfl, rfl⟩ | ⟨rfl | rfl, rfl⟩
    · cases a with
      | nil => exact h
      | cons y l => cases ha
    · cases a with
      | nil => exact h
      | cons y l => cases ha
    · match a, ha with
      | [y], _ => exact ((Bool.and_eq_true _ _).mp h).2
    · match a, ha with
      | [y], _ => exact ((Bool.and_eq_true _ _).mp h).2
  intro z hz
  have := List.all_eq_true.mp key z hz
  unfold Ks348Neutral.natural at this
  simp at this
  exact this
theorem calls_step {m : List Nat} {at_ f : Nat} {cs : List (List (List Int))} (h : PyFlat.calls PyKs348.shape f (zs (m.drop at_)) = some cs) (ha : at_ < m.length) (hq : ∀ c ∈ cs, Ks348Neutral.asked1 c = true) :
    ∃ (q n k : Nat) (row : List Nat) (to f' : Nat) (cs' : List (List (List Int))), Read m at_ q n k row to ∧ PyFlat.calls PyKs348.shape f' (zs (m.drop to)) = some cs' ∧ (∀ c ∈ cs', Ks348Neutral.asked1 c = true) ∧
      (∀ s, PyFlat.played Ks348Neutral.step s cs = (let x := Ks348.act s (callAt m at_ q row); (x.2.ret :: Ks348Neutral.ints x.2.out) :: PyFlat.played Ks348Neutral.step x.1 cs')) := by
  rw [List.drop_eq_getElem_cons ha] at h
  generalize hqe : m[at_] = q at h
  have hq0 : m[at_]? = some q := by rw [List.getElem?_eq_getElem ha, hqe]
  have h : PyFlat.calls PyKs348.shape f ((q : Int) :: zs (m.drop (at_ + 1))) = some cs := h
  cases f with
  | zero => cases h
  | succ f =>
    unfold PyFlat.calls at h
    cases hc : PyFlat.call PyKs348.shape ((q : Int) :: zs (m.drop (at_ + 1))) with
    | none => rw [hc] at h; cases h
    | some ct =>
      obtain ⟨c, t⟩ := ct
      rw [hc] at h
      dsimp only at h
      cases hc2 : PyFlat.calls PyKs348.shape f t with
      | none => rw [hc2] at h; cases h
      | some cs' =>
        rw [hc2] at h
        have h : c :: cs' = cs := Option.some.inj h
        subst h
        have hc : (match PyKs348.shape (q : Int) with | none => none | some (n, k) => if (zs (m.drop (at_ + 1))).length < n then none else match PyFlat.rows k ((zs (m.drop (at_ + 1))).drop n) with | none => none | some (xs, t) => some (((q : Int) :: (zs (m.drop (at_ + 1))).take n) :: xs, t)) = some (c, t) := hc
        cases hs : PyKs348.shape (q : Int) with
        | none => rw [hs] at hc; cases hc
        | some nk =>
          obtain ⟨n, k⟩ := nk
          have hl := shape_lay hs
          rw [hs] at hc
          dsimp only at hc
          have hzl : (zs (m.drop (at_ + 1))).length = m.length - (at_ + 1) := by rw [zs_len, List.length_drop]
          by_cases hn : (zs (m.drop (at_ + 1))).length < n
          · rw [if_pos hn] at hc; cases hc
          · rw [if_neg hn] at hc
            have hn' : at_ + 1 + n ≤ m.length := by omega
            rw [zs_drop, List.drop_drop] at hc
            have nums : ∀ (rest : List (List Int)), Ks348Neutral.num (((q : Int) :: (zs (m.drop (at_ + 1))).take n) :: rest) 0 0 = q ∧ (1 ≤ n → Ks348Neutral.num (((q : Int) :: (zs (m.drop (at_ + 1))).take n) :: rest) 0 1 = m.getD (at_ + 1) 0) ∧ (2 ≤ n → Ks348Neutral.num (((q : Int) :: (zs (m.drop (at_ + 1))).take n) :: rest) 0 2 = m.getD (at_ + 2) 0) := by
              intro rest
              have e : (zs (m.drop (at_ + 1))).take n = zs ((m.drop (at_ + 1)).take n) := zs_take _ _
              have gen : ∀ j, j < n → (zs ((m.drop (at_ + 1)).take n)).getD j 0 = ((m.getD (at_ + 1 + j) 0 : Nat) : Int) := by
                intro j hj
                rw [List.getD_eq_getElem?_getD, List.getD_eq_getElem?_getD]
                unfold zs
                rw [List.getElem?_map, List.getElem?_take_of_lt hj, List.getElem?_drop]
                have : at_ + 1 + j < m.length := by omega
                rw [List.getElem?_eq_getElem this]
                rfl
              rw [e]
              refine ⟨rfl, fun h1 => ?_, fun h2 => ?_⟩
              · have := gen 0 (by omega)
                unfold Ks348Neutral.num Ks348Neutral.at_
                show ((zs ((m.drop (at_ + 1)).take n)).getD 0 0).toNat = _
                rw [this]; simp
              · have := gen 1 (by omega)
                unfold Ks348Neutral.num Ks348Neutral.at_
                show ((zs ((m.drop (at_ + 1)).take n)).getD 1 0).toNat = _
                rw [this]; simp
            have play : ∀ (rest : List (List Int)) (row : List Nat), Ks348Neutral.row (((q : Int) :: (zs (m.drop (at_ + 1))).take n) :: rest) 1 = row →
                ∀ s, PyFlat.played Ks348Neutral.step s ((((q : Int) :: (zs (m.drop (at_ + 1))).take n) :: rest) :: cs') = (let x := Ks348.act s (callAt m at_ q row); (x.2.ret :: Ks348Neutral.ints x.2.out) :: PyFlat.played Ks348Neutral.step x.1 cs') := by
              intro rest row hrow s
              obtain ⟨n0, n1, n2⟩ := nums rest
              have ec : callOf (Ks348Neutral.num (((q : Int) :: (zs (m.drop (at_ + 1))).take n) :: rest) 0 0) (Ks348Neutral.num (((q : Int) :: (zs (m.drop (at_ + 1))).take n) :: rest) 0 1) (Ks348Neutral.num (((q : Int) :: (zs (m.drop (at_ + 1))).take n) :: rest) 0 2) (Ks348Neutral.row (((q : Int) :: (zs (m.drop (at_ + 1))).take n) :: rest) 1) = callAt m at_ q row := by
                rw [n0, hrow]
                unfold callAt
                have table : ∀ (a b a' b' : Nat), (1 ≤ n → a = a') → (2 ≤ n → b = b') → callOf q a b row = callOf q a' b' row := by
                  intro a b a' b' h1 h2
                  clear nums n0 n1 n2 hc hs hqe
                  match q, hl with
                  | 0, hl => rfl
                  | 1, hl => cases hl; rw [h1 (by decide)]; rfl
                  | 2, hl => cases hl; rw [h1 (by decide)]; rfl
                  | 3, hl => cases hl; rw [h1 (by decide), h2 (by decide)]
                  | 4, hl => cases hl; rw [h1 (by decide)]; rfl
                  | 5, hl => cases hl; rw [h1 (by decide)]; rfl
                  | 6, hl => cases hl; rw [h1 (by decide), h2 (by decide)]
                  | 7, hl => cases hl; rw [h1 (by decide)]; rfl
                  | 8, hl => cases hl; rw [h1 (by decide)]; rfl
                  | 9, hl => cases hl; rw [h1 (by decide), h2 (by decide)]
                  | 10, hl => rfl
                  | 11, hl => cases hl; rw [h1 (by decide)]; rfl
                  | 12, hl => rfl
                  | 13, hl => cases hl; rw [h1 (by decide)]; rfl
                  | 14, hl => rfl
                  | 15, hl => rfl
                  | 16, hl => cases hl; rw [h1 (by decide)]; rfl
                  | 17, hl => cases hl; rw [h1 (by decide), h2 (by decide)]
                  | 18, hl => cases hl; rw [h1 (by decide)]; rfl
                  | 19, hl => cases hl; rw [h1 (by decide)]; rfl
                  | 20, hl => cases hl; rw [h1 (by decide), h2 (by decide)]
                  | 21, hl => cases hl; rw [h1 (by decide)]; rfl
                  | 22, hl => cases hl; rw [h1 (by decide), h2 (by decide)]
                  | 23, hl => cases hl; rw [h1 (by decide), h2 (by decide)]
                  | 24, hl => cases hl; rw [h1 (by decide)]; rfl
                  | 25, hl => cases hl; rw [h1 (by decide)]; rfl
                  | _ + 26, hl => cases hl
                exact table _ _ _ _ n1 n2
              show (Ks348Neutral.step s (((q : Int) :: (zs (m.drop (at_ + 1))).take n) :: rest)).2 :: PyFlat.played Ks348Neutral.step (Ks348Neutral.step s (((q : Int) :: (zs (m.drop (at_ + 1))).take n) :: rest)).1 cs' = _
              rw [step_eq, ec]
              rfl
            rcases lay_kk hl with hk | hk
            · subst hk
              have hc : some ((((q : Int) :: (zs (m.drop (at_ + 1))).take n) :: []), zs (m.drop (at_ + 1 + n))) = some (c, t) := hc
              injection hc with hc
              injection hc with hc1 hc3
              subst hc1 hc3
              refine ⟨q, n, 0, [], at_ + 1 + n, f, cs', ⟨hq0, hl, hn', fun _ => ⟨rfl, rfl⟩, fun z => absurd z (by decide), .inl rfl, fun _ h => (nomatch h), hn', by omega⟩, hc2, fun c hc => hq c (List.mem_cons_of_mem _ hc), play [] [] rfl⟩
            · subst hk
              have hc : (match PyFlat.rows 1 (zs (m.drop (at_ + 1 + n))) with | none => none | some (xs, t) => some (((q : Int) :: (zs (m.drop (at_ + 1))).take n) :: xs, t)) = some (c, t) := hc
              by_cases he : at_ + 1 + n < m.length
              · rw [List.drop_eq_getElem_cons he] at hc
                generalize hle : m[at_ + 1 + n] = l at hc
                have hl0 : m[at_ + 1 + n]? = some l := by rw [List.getElem?_eq_getElem he, hle]
                have er : PyFlat.rows 1 (zs (l :: m.drop (at_ + 1 + n + 1))) = if (0 : Int) ≤ (l : Int) ∧ (l : Int).toNat ≤ (zs (m.drop (at_ + 1 + n + 1))).length then some ([(zs (m.drop (at_ + 1 + n + 1))).take (l : Int).toNat], (zs (m.drop (at_ + 1 + n + 1))).drop (l : Int).toNat) else none := by
                  show (match PyFlat.row ((l : Int) :: zs (m.drop (at_ + 1 + n + 1))) with | none => none | some (x, s) => match PyFlat.rows 0 s with | none => none | some (xs, t) => some (x :: xs, t)) = _
                  have e : PyFlat.row ((l : Int) :: zs (m.drop (at_ + 1 + n + 1))) = if (0 : Int) ≤ (l : Int) ∧ (l : Int).toNat ≤ (zs (m.drop (at_ + 1 + n + 1))).length then some ((zs (m.drop (at_ + 1 + n + 1))).take (l : Int).toNat, (zs (m.drop (at_ + 1 + n + 1))).drop (l : Int).toNat) else none := rfl
                  rw [e]
                  by_cases hyy : (0 : Int) ≤ (l : Int) ∧ (l : Int).toNat ≤ (zs (m.drop (at_ + 1 + n + 1))).length
                  · rw [if_pos hyy, if_pos hyy]
                    rfl
                  · rw [if_neg hyy, if_neg hyy]
                rw [er, Int.toNat_natCast, zs_len, List.length_drop] at hc
                by_cases hfit : (0 : Int) ≤ (l : Int) ∧ l ≤ m.length - (at_ + 1 + n + 1)
                · rw [if_pos hfit] at hc
                  dsimp only at hc
                  injection hc with hc
                  injection hc with hc1 hc3
                  rw [zs_drop, List.drop_drop] at hc3
                  subst hc1 hc3
                  have hrow := asked_row hl (by rw [List.length_take, hzl]; omega) (hq _ List.mem_cons_self)
                  refine ⟨q, n, 1, (m.drop (at_ + 1 + n + 1)).take l, at_ + 1 + n + 1 + l, f, cs', ⟨hq0, hl, hn', fun z => absurd z (by decide), fun _ => ⟨l, hl0, by omega, rfl, rfl⟩, .inr rfl, fun x hx => ?_, by omega, by omega⟩, hc2, fun c hc => hq c (List.mem_cons_of_mem _ hc), play _ _ ?_⟩
                  · have := hrow (x : Int) (by rw [zs_take]; exact List.mem_map.mpr ⟨x, hx, rfl⟩)
                    omega
                  · show Ks348Neutral.nats ((zs (m.drop (at_ + 1 + n + 1))).take l) = _
                    rw [zs_take]
                    exact zs_nats _
                · rw [if_neg hfit] at hc
                  cases hc
              · rw [List.drop_of_length_le (by omega)] at hc
                cases hc
/-! the whole -/
theorem played_runs : ∀ (l : List (List (List Int))) (s : Ks348.Abs), PyFlat.played Ks348Neutral.step s l = Ks348Neutral.runs s l
  | [], _ => rfl
  | c :: l, s => by
    show (Ks348Neutral.step s c).2 :: PyFlat.played Ks348Neutral.step (Ks348Neutral.step s c).1 l = (Ks348Neutral.step s c).2 :: Ks348Neutral.runs (Ks348Neutral.step s c).1 l
    rw [played_runs l]
theorem fold_add : ∀ (l : List Nat) (a : Nat), l.foldl (· + ·) a = a + l.foldl (· + ·) 0
  | [], a => rfl
  | x :: l, a => by
    show l.foldl (· + ·) (a + x) = a + l.foldl (· + ·) (0 + x)
    rw [fold_add l (a + x), fold_add l (0 + x)]
    omega
theorem told_len : ∀ (l : List (List Int)), (PyFlat.told l).length = (l.map List.length).foldl (· + ·) 0 + l.length
  | [] => rfl
  | x :: l => by
    have ih := told_len l
    have e : PyFlat.told (x :: l) = ((x.length : Int) :: x) ++ PyFlat.told l := rfl
    rw [e, List.length_append, ih, List.map_cons, List.foldl_cons, fold_add _ (0 + x.length), List.length_cons, List.length_cons]
    omega
theorem played_len : ∀ (l : List (List (List Int))) (s : Ks348.Abs), (PyFlat.played Ks348Neutral.step s l).length = l.length
  | [], _ => rfl
  | c :: l, s => congrArg (· + 1) (played_len l _)
theorem asked_start {ns : List Int} (h : PyKs348.answers_asked ns = true) : ∃ cs, PyFlat.calls PyKs348.shape ns.length ns = some cs ∧ (∀ c ∈ cs, Ks348Neutral.asked1 c = true) ∧ PyKs348.answers ns = PyFlat.told (PyFlat.played Ks348Neutral.step {} cs) ∧ (PyKs348.answers ns).length ≤ 1005000 := by
  unfold PyKs348.answers_asked at h
  unfold PyKs348.answers
  rw [calls_eq] at h ⊢
  cases hc : PyFlat.calls PyKs348.shape ns.length ns with
  | none => rw [hc] at h; cases h
  | some cs =>
    rw [hc] at h
    dsimp only at h
    unfold PyFlat.atMost Ks348Neutral.asked at h
    simp only [Bool.and_eq_true, decide_eq_true_eq, List.all_eq_true] at h
    obtain ⟨h1, ⟨⟨⟨⟨h2, _⟩, _⟩, _⟩, h3⟩⟩ := h
    refine ⟨cs, rfl, h2, rfl, ?_⟩
    show (PyFlat.told (PyFlat.played Ks348Neutral.step Ks348Neutral.start cs)).length ≤ 1005000
    rw [told_len, played_len, played_runs]
    unfold Ks348Neutral.f at h3
    omega
end Dc

set_option Elab.async false
set_option linter.all false
/-! rooms by their places -/
namespace Dc
def atRooms (p : Ks347.Room → Bool) (l : List Ks347.Room) (k : Nat) : Bool := match l[k]? with
  | some x => p x
  | none => false
def ixs (p : Ks347.Room → Bool) (l : List Ks347.Room) (i : Nat) : List Nat := (List.range i).filter (atRooms p l)
theorem ixs_succ (p : Ks347.Room → Bool) {l : List Ks347.Room} {i : Nat} {r : Ks347.Room} (h : l[i]? = some r) : ixs p l (i + 1) = if p r = true then ixs p l i ++ [i] else ixs p l i := by
  unfold ixs
  rw [List.range_succ, List.filter_append]
  have e : atRooms p l i = p r := by unfold atRooms; rw [h]
  cases hp : p r with
  | true => rw [List.filter_cons, e, hp]; rfl
  | false => rw [List.filter_cons, e, hp]; simp
theorem ixs_len (p : Ks347.Room → Bool) (l : List Ks347.Room) : ∀ i, i ≤ l.length → (ixs p l i).length = ((l.take i).filter p).length
  | 0, _ => rfl
  | i + 1, h => by
    have ih := ixs_len p l i (by omega)
    have hx := List.getElem?_eq_getElem (show i < l.length by omega)
    rw [ixs_succ p hx]
    have e : l.take (i + 1) = l.take i ++ [l[i]] := (List.take_append_getElem (by omega)).symm
    rw [e, List.filter_append, List.length_append]
    cases hp : p l[i] with
    | true => rw [if_pos rfl, List.length_append, ih]; simp [hp]
    | false => rw [if_neg (by simp)]; simp [hp, ih]
theorem ixs_all (p : Ks347.Room → Bool) (l : List Ks347.Room) : (ixs p l l.length).length = (l.filter p).length := by
  rw [ixs_len p l l.length (Nat.le_refl _), List.take_length]
theorem ixs_mem {p : Ks347.Room → Bool} {l : List Ks347.Room} {i k : Nat} (h : k ∈ ixs p l i) : k < i ∧ ∃ r, l[k]? = some r ∧ p r = true := by
  unfold ixs at h
  obtain ⟨h1, h2⟩ := List.mem_filter.mp h
  refine ⟨List.mem_range.mp h1, ?_⟩
  unfold atRooms at h2
  cases hx : l[k]? with
  | none => rw [hx] at h2; cases h2
  | some r => rw [hx] at h2; exact ⟨r, rfl, h2⟩
theorem ixs_le (p : Ks347.Room → Bool) (l : List Ks347.Room) (i : Nat) : (ixs p l i).length ≤ i := by
  unfold ixs
  exact Nat.le_trans (List.length_filter_le _ _) (by rw [List.length_range]; exact Nat.le_refl _)
def isOver (d : Nat) (r : Ks347.Room) : Bool := match r.stay with
  | some l => decide (l < d)
  | none => false
def endFor (S : List Nat) (l : List Ks347.Room) : List Ks347.Room := l.mapIdx fun i r => if i ∈ S then { r with stay := none } else r
theorem endFor_nil (l : List Ks347.Room) : endFor [] l = l := by
  apply List.ext_getElem?
  intro k
  unfold endFor
  rw [List.getElem?_mapIdx]
  cases l[k]? <;> simp
theorem endFor_len (S : List Nat) (l : List Ks347.Room) : (endFor S l).length = l.length := List.length_mapIdx
theorem endFor_get {S : List Nat} {l : List Ks347.Room} {k : Nat} {r : Ks347.Room} (h : l[k]? = some r) : (endFor S l)[k]? = some (if k ∈ S then { r with stay := none } else r) := by
  unfold endFor
  rw [List.getElem?_mapIdx, h]
  rfl
theorem endFor_snoc {S : List Nat} {l : List Ks347.Room} {k : Nat} {r : Ks347.Room} (h : (endFor S l)[k]? = some r) : endFor (S ++ [k]) l = (endFor S l).set k { r with stay := none } := by
  have hk : k < (endFor S l).length := (List.getElem?_eq_some_iff.mp h).1
  have hk' : k < l.length := by rw [endFor_len] at hk; exact hk
  have hx := List.getElem?_eq_getElem hk'
  apply List.ext_getElem?
  intro j
  by_cases hj : k = j
  · subst hj
    rw [List.getElem?_set_self hk, endFor_get hx, if_pos (by simp)]
    rw [endFor_get hx] at h
    have h := Option.some.inj h
    rw [← h]
    split <;> rfl
  · rw [List.getElem?_set_ne hj]
    cases hy : l[j]? with
    | none =>
      have e1 : l.length ≤ j := List.getElem?_eq_none_iff.mp hy
      rw [List.getElem?_eq_none (by rw [endFor_len]; exact e1), List.getElem?_eq_none (by rw [endFor_len]; exact e1)]
    | some y =>
      rw [endFor_get hy, endFor_get hy]
      have : j ∈ S ++ [k] ↔ j ∈ S := by
        constructor
        · intro q
          rcases List.mem_append.mp q with z | z
          · exact z
          · exact absurd (List.mem_singleton.mp z).symm hj
        · exact fun q => List.mem_append_left _ q
      simp only [this]
theorem endFor_all (a : Ks347.Abs) (d : Nat) : endFor (ixs (isOver d) a.rooms a.rooms.length) a.rooms = Ks347.ended a d := by
  apply List.ext_getElem?
  intro j
  unfold Ks347.ended
  rw [List.getElem?_map]
  cases hy : a.rooms[j]? with
  | none =>
    have e1 : a.rooms.length ≤ j := List.getElem?_eq_none_iff.mp hy
    rw [List.getElem?_eq_none (by rw [endFor_len]; exact e1)]
    rfl
  | some y =>
    rw [endFor_get hy]
    have hj : j < a.rooms.length := (List.getElem?_eq_some_iff.mp hy).1
    have hm : j ∈ ixs (isOver d) a.rooms a.rooms.length ↔ isOver d y = true := by
      constructor
      · intro q
        obtain ⟨_, r, hr, hp⟩ := ixs_mem q
        rw [hy] at hr
        cases hr
        exact hp
      · intro q
        unfold ixs
        refine List.mem_filter.mpr ⟨List.mem_range.mpr hj, ?_⟩
        unfold atRooms
        rw [hy]
        exact q
    simp only [hm]
    unfold isOver
    cases hs : y.stay with
    | none => simp [hs]
    | some l =>
      simp only [Option.map_some, hs]
      by_cases q : l < d
      · simp [q]
      · simp [q]
theorem stays_ended (d : Nat) : ∀ l : List Ks347.Room, (l.filter fun x => x.stay.isSome).length = ((l.map fun x => match x.stay with | some l => if l < d then { x with stay := none } else x | none => x).filter fun x => x.stay.isSome).length + (l.filter (isOver d)).length
  | [] => rfl
  | x :: l => by
    have ih := stays_ended d l
    rw [List.map_cons, List.filter_cons, List.filter_cons, List.filter_cons]
    cases hs : x.stay with
    | none =>
      have h1 : isOver d x = false := by unfold isOver; rw [hs]
      simp only [hs, h1]
      simpa using ih
    | some m =>
      by_cases q : m < d
      · have h1 : isOver d x = true := by unfold isOver; rw [hs]; exact decide_eq_true q
        simp only [if_pos q, h1]
        simp
        omega
      · have h1 : isOver d x = false := by unfold isOver; rw [hs]; exact decide_eq_false q
        simp only [if_neg q, h1, hs]
        simp
        omega
theorem stays_diff (a : Ks347.Abs) (d : Nat) : Ks347.stays a - Ks347.stays { a with day := d, rooms := Ks347.ended a d } = (ixs (isOver d) a.rooms a.rooms.length).length := by
  rw [ixs_all]
  have h := stays_ended d a.rooms
  have e1 : Ks347.stays a = (a.rooms.filter fun x => x.stay.isSome).length := rfl
  have e2 : Ks347.stays { a with day := d, rooms := Ks347.ended a d } = ((a.rooms.map fun x => match x.stay with | some l => if l < d then { x with stay := none } else x | none => x).filter fun x => x.stay.isSome).length := rfl
  rw [e1, e2]
  omega
theorem freeL_ixs (l : List Ks347.Room) : freeL l = ixs (fun x => x.stay.isNone) l l.length := by
  unfold freeL ixs
  congr 1
/-! doors -/
def ageUpTo (d j : Nat) (l : List Ks346.Abs) : List Ks346.Abs := l.mapIdx fun i x => if i < j then { x with day := max x.day d } else x
theorem ageUpTo_len (d j : Nat) (l : List Ks346.Abs) : (ageUpTo d j l).length = l.length := List.length_mapIdx
theorem ageUpTo_get {d j k : Nat} {l : List Ks346.Abs} {x : Ks346.Abs} (h : l[k]? = some x) : (ageUpTo d j l)[k]? = some (if k < j then { x with day := max x.day d } else x) := by
  unfold ageUpTo
  rw [List.getElem?_mapIdx, h]
  rfl
theorem ageUpTo_zero (d : Nat) (l : List Ks346.Abs) : ageUpTo d 0 l = l := by
  apply List.ext_getElem?
  intro k
  unfold ageUpTo
  rw [List.getElem?_mapIdx]
  cases l[k]? <;> simp
theorem ageUpTo_all (d : Nat) (l : List Ks346.Abs) : ageUpTo d l.length l = Ks348.aged l d := by
  apply List.ext_getElem?
  intro k
  unfold Ks348.aged
  rw [List.getElem?_map]
  cases hy : l[k]? with
  | none =>
    have e1 : l.length ≤ k := List.getElem?_eq_none_iff.mp hy
    rw [List.getElem?_eq_none (by rw [ageUpTo_len]; exact e1)]
    rfl
  | some y =>
    rw [ageUpTo_get hy, if_pos (List.getElem?_eq_some_iff.mp hy).1]
    rfl
theorem ageUpTo_succ {d j : Nat} {l : List Ks346.Abs} {x : Ks346.Abs} (h : l[j]? = some x) : ageUpTo d (j + 1) l = (ageUpTo d j l).set j { x with day := max x.day d } := by
  have hj : j < (ageUpTo d j l).length := by rw [ageUpTo_len]; exact (List.getElem?_eq_some_iff.mp h).1
  apply List.ext_getElem?
  intro k
  by_cases hk : j = k
  · subst hk
    rw [List.getElem?_set_self hj, ageUpTo_get h, if_pos (Nat.lt_succ_self j)]
  · rw [List.getElem?_set_ne hk]
    cases hy : l[k]? with
    | none =>
      have e1 : l.length ≤ k := List.getElem?_eq_none_iff.mp hy
      rw [List.getElem?_eq_none (by rw [ageUpTo_len]; exact e1), List.getElem?_eq_none (by rw [ageUpTo_len]; exact e1)]
    | some y =>
      rw [ageUpTo_get hy, ageUpTo_get hy]
      have : k < j + 1 ↔ k < j := by omega
      simp only [this]
end Dc

set_option Elab.async false
set_option linter.all false
set_option maxRecDepth 100000
set_option maxHeartbeats 2000000
/-! the text by places: made by gen.py -/
namespace Dc
open PySem PySem.Spec PyProof.Rows L2
def top (i : Nat) : Stmt := PySem.Challenge.pw_doorcardsdesk_s01_answers.main.body.getD i (.Pass ⟨0, 0, 0, 0⟩)
abbrev s_number_of : Stmt := top 2
theorem sc_number_of : FnScope ["octets", "number", "octet"] ["octets"] (defScope s_number_of) := ⟨rfl, rfl, rfl, by decide +kernel, rfl, by decide +kernel, by decide +kernel⟩
abbrev s_octets_of : Stmt := top 3
theorem sc_octets_of : FnScope ["number", "count", "octets", "rest", "place"] ["number", "count"] (defScope s_octets_of) := ⟨rfl, rfl, rfl, by decide +kernel, rfl, by decide +kernel, by decide +kernel⟩
abbrev s_turned : Stmt := top 4
theorem sc_turned : FnScope ["number", "places"] ["number", "places"] (defScope s_turned) := ⟨rfl, rfl, rfl, by decide +kernel, rfl, by decide +kernel, by decide +kernel⟩
abbrev s_words_of : Stmt := top 6
theorem sc_words_of : FnScope ["message", "whole", "words", "at", "left", "padding"] ["message"] (defScope s_words_of) := ⟨rfl, rfl, rfl, by decide +kernel, rfl, by decide +kernel, by decide +kernel⟩
abbrev s_tag_of : Stmt := top 7
theorem sc_tag_of : FnScope ["key", "message", "mix", "word"] ["key", "message"] (defScope s_tag_of) := ⟨rfl, rfl, rfl, by decide +kernel, rfl, by decide +kernel, by decide +kernel⟩
abbrev s_card_octets : Stmt := top 17
theorem sc_card_octets : FnScope ["key", "card", "said"] ["key", "card"] (defScope s_card_octets) := ⟨rfl, rfl, rfl, by decide +kernel, rfl, by decide +kernel, by decide +kernel⟩
abbrev s_is_place_of_kind : Stmt := top 18
theorem sc_is_place_of_kind : FnScope ["kind", "place"] ["kind", "place"] (defScope s_is_place_of_kind) := ⟨rfl, rfl, rfl, by decide +kernel, rfl, by decide +kernel, by decide +kernel⟩
abbrev s_read_card : Stmt := top 19
theorem sc_read_card : FnScope ["key", "octets", "said"] ["key", "octets"] (defScope s_read_card) := ⟨rfl, rfl, rfl, by decide +kernel, rfl, by decide +kernel, by decide +kernel⟩
abbrev s_is_day_from : Stmt := top 24
theorem sc_is_day_from : FnScope ["first", "day"] ["first", "day"] (defScope s_is_day_from) := ⟨rfl, rfl, rfl, by decide +kernel, rfl, by decide +kernel, by decide +kernel⟩
abbrev s_bears_out : Stmt := top 25
theorem sc_bears_out : FnScope ["room", "card"] ["room", "card"] (defScope s_bears_out) := ⟨rfl, rfl, rfl, by decide +kernel, rfl, by decide +kernel, by decide +kernel⟩
abbrev s_is_good : Stmt := top 26
theorem sc_is_good : FnScope ["desk", "card"] ["desk", "card"] (defScope s_is_good) := ⟨rfl, rfl, rfl, by decide +kernel, rfl, by decide +kernel, by decide +kernel⟩
abbrev s_make_card : Stmt := top 44
theorem sc_make_card : FnScope ["house", "kind", "place", "number", "last", "desk", "serial", "octets"] ["house", "kind", "place", "number", "last"] (defScope s_make_card) := ⟨rfl, rfl, rfl, by decide +kernel, rfl, by decide +kernel, by decide +kernel⟩
abbrev s_guest_card : Stmt := top 45
theorem sc_guest_card : FnScope ["house", "place", "room"] ["house", "place"] (defScope s_guest_card) := ⟨rfl, rfl, rfl, by decide +kernel, rfl, by decide +kernel, by decide +kernel⟩
abbrev s_no_more_cards : Stmt := top 46
theorem sc_no_more_cards : FnScope ["house"] ["house"] (defScope s_no_more_cards) := ⟨rfl, rfl, rfl, by decide +kernel, rfl, by decide +kernel, by decide +kernel⟩
abbrev s_no_newer_card : Stmt := top 47
theorem sc_no_newer_card : FnScope ["house", "room"] ["house", "room"] (defScope s_no_newer_card) := ⟨rfl, rfl, rfl, by decide +kernel, rfl, by decide +kernel, by decide +kernel⟩
abbrev s_add_room : Stmt := top 48
theorem sc_add_room : FnScope ["house", "given", "zone", "rooms"] ["house", "given"] (defScope s_add_room) := ⟨rfl, rfl, rfl, by decide +kernel, rfl, by decide +kernel, by decide +kernel⟩
abbrev s_set_day : Stmt := top 49
theorem sc_set_day : FnScope ["house", "given", "day", "desk", "over", "room"] ["house", "given"] (defScope s_set_day) := ⟨rfl, rfl, rfl, by decide +kernel, rfl, by decide +kernel, by decide +kernel⟩
abbrev s_come : Stmt := top 50
theorem sc_come : FnScope ["house", "given", "room", "last"] ["house", "given"] (defScope s_come) := ⟨rfl, rfl, rfl, by decide +kernel, rfl, by decide +kernel, by decide +kernel⟩
abbrev s_copy_card : Stmt := top 51
theorem sc_copy_card : FnScope ["house", "given"] ["house", "given"] (defScope s_copy_card) := ⟨rfl, rfl, rfl, by decide +kernel, rfl, by decide +kernel, by decide +kernel⟩
abbrev s_replace_lost : Stmt := top 52
theorem sc_replace_lost : FnScope ["house", "given", "room"] ["house", "given"] (defScope s_replace_lost) := ⟨rfl, rfl, rfl, by decide +kernel, rfl, by decide +kernel, by decide +kernel⟩
abbrev s_stay_longer : Stmt := top 53
theorem sc_stay_longer : FnScope ["house", "given", "room", "last"] ["house", "given"] (defScope s_stay_longer) := ⟨rfl, rfl, rfl, by decide +kernel, rfl, by decide +kernel, by decide +kernel⟩
abbrev s_leave : Stmt := top 54
theorem sc_leave : FnScope ["house", "given", "room"] ["house", "given"] (defScope s_leave) := ⟨rfl, rfl, rfl, by decide +kernel, rfl, by decide +kernel, by decide +kernel⟩
abbrev s_shut_room : Stmt := top 55
theorem sc_shut_room : FnScope ["house", "given", "room"] ["house", "given"] (defScope s_shut_room) := ⟨rfl, rfl, rfl, by decide +kernel, rfl, by decide +kernel, by decide +kernel⟩
abbrev s_staff_card : Stmt := top 56
theorem sc_staff_card : FnScope ["house", "given", "zones", "last"] ["house", "given"] (defScope s_staff_card) := ⟨rfl, rfl, rfl, by decide +kernel, rfl, by decide +kernel, by decide +kernel⟩
abbrev s_recall_staff : Stmt := top 57
theorem sc_recall_staff : FnScope ["house", "given", "desk"] ["house", "given"] (defScope s_recall_staff) := ⟨rfl, rfl, rfl, by decide +kernel, rfl, by decide +kernel, by decide +kernel⟩
abbrev s_emergency_card : Stmt := top 58
theorem sc_emergency_card : FnScope ["house", "given", "last"] ["house", "given"] (defScope s_emergency_card) := ⟨rfl, rfl, rfl, by decide +kernel, rfl, by decide +kernel, by decide +kernel⟩
abbrev s_tell_whose : Stmt := top 59
theorem sc_tell_whose : FnScope ["house", "given", "desk", "card", "good"] ["house", "given"] (defScope s_tell_whose) := ⟨rfl, rfl, rfl, by decide +kernel, rfl, by decide +kernel, by decide +kernel⟩
abbrev s_tell_stay : Stmt := top 60
theorem sc_tell_stay : FnScope ["house", "given", "room"] ["house", "given"] (defScope s_tell_stay) := ⟨rfl, rfl, rfl, by decide +kernel, rfl, by decide +kernel, by decide +kernel⟩
abbrev s_tell_free : Stmt := top 61
theorem sc_tell_free : FnScope ["house", "given", "free", "place", "room"] ["house", "given"] (defScope s_tell_free) := ⟨rfl, rfl, rfl, by decide +kernel, rfl, by decide +kernel, by decide +kernel⟩
abbrev s_tell_desk : Stmt := top 62
theorem sc_tell_desk : FnScope ["house", "given", "desk", "stays", "room"] ["house", "given"] (defScope s_tell_desk) := ⟨rfl, rfl, rfl, by decide +kernel, rfl, by decide +kernel, by decide +kernel⟩
abbrev s_desk_answer : Stmt := top 65
theorem sc_desk_answer : FnScope ["house", "call", "given", "answer"] ["house", "call", "given"] (defScope s_desk_answer) := ⟨rfl, rfl, rfl, by decide +kernel, rfl, by decide +kernel, by decide +kernel⟩
abbrev s_goes_by_room : Stmt := top 69
theorem sc_goes_by_room : FnScope ["card"] ["card"] (defScope s_goes_by_room) := ⟨rfl, rfl, rfl, by decide +kernel, rfl, by decide +kernel, by decide +kernel⟩
abbrev s_is_for : Stmt := top 70
theorem sc_is_for : FnScope ["door", "card"] ["door", "card"] (defScope s_is_for) := ⟨rfl, rfl, rfl, by decide +kernel, rfl, by decide +kernel, by decide +kernel⟩
abbrev s_learned_for : Stmt := top 71
theorem sc_learned_for : FnScope ["door", "card"] ["door", "card"] (defScope s_learned_for) := ⟨rfl, rfl, rfl, by decide +kernel, rfl, by decide +kernel, by decide +kernel⟩
abbrev s_is_stopped_by_bolt : Stmt := top 72
theorem sc_is_stopped_by_bolt : FnScope ["card"] ["card"] (defScope s_is_stopped_by_bolt) := ⟨rfl, rfl, rfl, by decide +kernel, rfl, by decide +kernel, by decide +kernel⟩
abbrev s_verdict : Stmt := top 73
theorem sc_verdict : FnScope ["door", "card"] ["door", "card"] (defScope s_verdict) := ⟨rfl, rfl, rfl, by decide +kernel, rfl, by decide +kernel, by decide +kernel⟩
abbrev s_learn : Stmt := top 74
theorem sc_learn : FnScope ["door", "card", "written"] ["door", "card"] (defScope s_learn) := ⟨rfl, rfl, rfl, by decide +kernel, rfl, by decide +kernel, by decide +kernel⟩
abbrev s_show_card : Stmt := top 75
theorem sc_show_card : FnScope ["door", "card", "answer"] ["door", "card"] (defScope s_show_card) := ⟨rfl, rfl, rfl, by decide +kernel, rfl, by decide +kernel, by decide +kernel⟩
abbrev s_hang : Stmt := top 78
theorem sc_hang : FnScope ["house", "given", "place", "rooms", "door"] ["house", "given"] (defScope s_hang) := ⟨rfl, rfl, rfl, by decide +kernel, rfl, by decide +kernel, by decide +kernel⟩
abbrev s_set_door_day : Stmt := top 79
theorem sc_set_door_day : FnScope ["house", "given", "door"] ["house", "given"] (defScope s_set_door_day) := ⟨rfl, rfl, rfl, by decide +kernel, rfl, by decide +kernel, by decide +kernel⟩
abbrev s_try_card : Stmt := top 80
theorem sc_try_card : FnScope ["house", "given", "door", "card"] ["house", "given"] (defScope s_try_card) := ⟨rfl, rfl, rfl, by decide +kernel, rfl, by decide +kernel, by decide +kernel⟩
abbrev s_weigh_card : Stmt := top 81
theorem sc_weigh_card : FnScope ["house", "given", "door", "card"] ["house", "given"] (defScope s_weigh_card) := ⟨rfl, rfl, rfl, by decide +kernel, rfl, by decide +kernel, by decide +kernel⟩
abbrev s_try_kept_card : Stmt := top 82
theorem sc_try_kept_card : FnScope ["house", "given"] ["house", "given"] (defScope s_try_kept_card) := ⟨rfl, rfl, rfl, by decide +kernel, rfl, by decide +kernel, by decide +kernel⟩
abbrev s_tell_kept_card : Stmt := top 83
theorem sc_tell_kept_card : FnScope ["house", "given", "octets"] ["house", "given"] (defScope s_tell_kept_card) := ⟨rfl, rfl, rfl, by decide +kernel, rfl, by decide +kernel, by decide +kernel⟩
abbrev s_set_bolt : Stmt := top 84
theorem sc_set_bolt : FnScope ["house", "given"] ["house", "given"] (defScope s_set_bolt) := ⟨rfl, rfl, rfl, by decide +kernel, rfl, by decide +kernel, by decide +kernel⟩
abbrev s_tell_book : Stmt := top 85
theorem sc_tell_book : FnScope ["house", "given", "book"] ["house", "given"] (defScope s_tell_book) := ⟨rfl, rfl, rfl, by decide +kernel, rfl, by decide +kernel, by decide +kernel⟩
abbrev s_tell_door : Stmt := top 86
theorem sc_tell_door : FnScope ["house", "given", "door", "bolted"] ["house", "given"] (defScope s_tell_door) := ⟨rfl, rfl, rfl, by decide +kernel, rfl, by decide +kernel, by decide +kernel⟩
abbrev s_set_day_everywhere : Stmt := top 87
theorem sc_set_day_everywhere : FnScope ["house", "given", "answer", "door"] ["house", "given"] (defScope s_set_day_everywhere) := ⟨rfl, rfl, rfl, by decide +kernel, rfl, by decide +kernel, by decide +kernel⟩
abbrev s_door_answer : Stmt := top 90
theorem sc_door_answer : FnScope ["house", "call", "given", "answer"] ["house", "call", "given"] (defScope s_door_answer) := ⟨rfl, rfl, rfl, by decide +kernel, rfl, by decide +kernel, by decide +kernel⟩
abbrev s_take_given : Stmt := top 99
theorem sc_take_given : FnScope ["reader", "call", "layout", "given", "place"] ["reader", "call"] (defScope s_take_given) := ⟨rfl, rfl, rfl, by decide +kernel, rfl, by decide +kernel, by decide +kernel⟩
abbrev s_begin : Stmt := top 100
theorem sc_begin : FnScope ["ground", "given", "key"] ["ground", "given"] (defScope s_begin) := ⟨rfl, rfl, rfl, by decide +kernel, rfl, by decide +kernel, by decide +kernel⟩
abbrev s_answer_to : Stmt := top 101
theorem sc_answer_to : FnScope ["ground", "call", "given"] ["ground", "call", "given"] (defScope s_answer_to) := ⟨rfl, rfl, rfl, by decide +kernel, rfl, by decide +kernel, by decide +kernel⟩
abbrev s_answers : Stmt := top 102
theorem sc_answers : FnScope ["calls", "ground", "reader", "told", "call", "answer"] ["calls"] (defScope s_answers) := ⟨rfl, rfl, rfl, by decide +kernel, rfl, by decide +kernel, by decide +kernel⟩
abbrev s_Mix_init : Stmt := inClass (top 5) 0
theorem sc_Mix_init : FnScope ["self", "key", "k", "l"] ["self", "key"] (defScope s_Mix_init) := ⟨rfl, rfl, rfl, by decide +kernel, rfl, by decide +kernel, by decide +kernel⟩
abbrev s_Mix_stir : Stmt := inClass (top 5) 1
theorem sc_Mix_stir : FnScope ["self", "times", "turn"] ["self", "times"] (defScope s_Mix_stir) := ⟨rfl, rfl, rfl, by decide +kernel, rfl, by decide +kernel, by decide +kernel⟩
abbrev s_Mix_take_in : Stmt := inClass (top 5) 2
theorem sc_Mix_take_in : FnScope ["self", "word"] ["self", "word"] (defScope s_Mix_take_in) := ⟨rfl, rfl, rfl, by decide +kernel, rfl, by decide +kernel, by decide +kernel⟩
abbrev s_Mix_finish : Stmt := inClass (top 5) 3
theorem sc_Mix_finish : FnScope ["self"] ["self"] (defScope s_Mix_finish) := ⟨rfl, rfl, rfl, by decide +kernel, rfl, by decide +kernel, by decide +kernel⟩
abbrev s_Card_init : Stmt := inClass (top 16) 0
theorem sc_Card_init : FnScope ["self", "kind", "place", "number", "last", "serial"] ["self", "kind", "place", "number", "last", "serial"] (defScope s_Card_init) := ⟨rfl, rfl, rfl, by decide +kernel, rfl, by decide +kernel, by decide +kernel⟩
abbrev s_Room_init : Stmt := inClass (top 22) 0
theorem sc_Room_init : FnScope ["self", "zone"] ["self", "zone"] (defScope s_Room_init) := ⟨rfl, rfl, rfl, by decide +kernel, rfl, by decide +kernel, by decide +kernel⟩
abbrev s_Desk_init : Stmt := inClass (top 23) 0
theorem sc_Desk_init : FnScope ["self", "key"] ["self", "key"] (defScope s_Desk_init) := ⟨rfl, rfl, rfl, by decide +kernel, rfl, by decide +kernel, by decide +kernel⟩
abbrev s_Door_init : Stmt := inClass (top 68) 0
theorem sc_Door_init : FnScope ["self", "key", "room", "zone"] ["self", "key", "room", "zone"] (defScope s_Door_init) := ⟨rfl, rfl, rfl, by decide +kernel, rfl, by decide +kernel, by decide +kernel⟩
abbrev s_House_init : Stmt := inClass (top 96) 0
theorem sc_House_init : FnScope ["self", "key"] ["self", "key"] (defScope s_House_init) := ⟨rfl, rfl, rfl, by decide +kernel, rfl, by decide +kernel, by decide +kernel⟩
abbrev s_Ground_init : Stmt := inClass (top 97) 0
theorem sc_Ground_init : FnScope ["self"] ["self"] (defScope s_Ground_init) := ⟨rfl, rfl, rfl, by decide +kernel, rfl, by decide +kernel, by decide +kernel⟩
abbrev s_Reader_init : Stmt := inClass (top 98) 0
theorem sc_Reader_init : FnScope ["self", "calls"] ["self", "calls"] (defScope s_Reader_init) := ⟨rfl, rfl, rfl, by decide +kernel, rfl, by decide +kernel, by decide +kernel⟩
abbrev s_Reader_has_more : Stmt := inClass (top 98) 1
theorem sc_Reader_has_more : FnScope ["self"] ["self"] (defScope s_Reader_has_more) := ⟨rfl, rfl, rfl, by decide +kernel, rfl, by decide +kernel, by decide +kernel⟩
abbrev s_Reader_take_number : Stmt := inClass (top 98) 2
theorem sc_Reader_take_number : FnScope ["self", "number"] ["self"] (defScope s_Reader_take_number) := ⟨rfl, rfl, rfl, by decide +kernel, rfl, by decide +kernel, by decide +kernel⟩
abbrev s_Reader_take_row : Stmt := inClass (top 98) 3
theorem sc_Reader_take_row : FnScope ["self", "length", "row"] ["self"] (defScope s_Reader_take_row) := ⟨rfl, rfl, rfl, by decide +kernel, rfl, by decide +kernel, by decide +kernel⟩
/-- the addresses -/
structure Ad where
  a_number_of : Addr
  a_octets_of : Addr
  a_turned : Addr
  a_words_of : Addr
  a_tag_of : Addr
  a_card_octets : Addr
  a_is_place_of_kind : Addr
  a_read_card : Addr
  a_is_day_from : Addr
  a_bears_out : Addr
  a_is_good : Addr
  a_make_card : Addr
  a_guest_card : Addr
  a_no_more_cards : Addr
  a_no_newer_card : Addr
  a_add_room : Addr
  a_set_day : Addr
  a_come : Addr
  a_copy_card : Addr
  a_replace_lost : Addr
  a_stay_longer : Addr
  a_leave : Addr
  a_shut_room : Addr
  a_staff_card : Addr
  a_recall_staff : Addr
  a_emergency_card : Addr
  a_tell_whose : Addr
  a_tell_stay : Addr
  a_tell_free : Addr
  a_tell_desk : Addr
  a_desk_answer : Addr
  a_goes_by_room : Addr
  a_is_for : Addr
  a_learned_for : Addr
  a_is_stopped_by_bolt : Addr
  a_verdict : Addr
  a_learn : Addr
  a_show_card : Addr
  a_hang : Addr
  a_set_door_day : Addr
  a_try_card : Addr
  a_weigh_card : Addr
  a_try_kept_card : Addr
  a_tell_kept_card : Addr
  a_set_bolt : Addr
  a_tell_book : Addr
  a_tell_door : Addr
  a_set_day_everywhere : Addr
  a_door_answer : Addr
  a_take_given : Addr
  a_begin : Addr
  a_answer_to : Addr
  a_answers : Addr
  a_Mix : Addr
  a_Mix_init : Addr
  a_Mix_stir : Addr
  a_Mix_take_in : Addr
  a_Mix_finish : Addr
  a_Card : Addr
  a_Card_init : Addr
  a_Room : Addr
  a_Room_init : Addr
  a_Desk : Addr
  a_Desk_init : Addr
  a_Door : Addr
  a_Door_init : Addr
  a_House : Addr
  a_House_init : Addr
  a_Ground : Addr
  a_Ground_init : Addr
  a_Reader : Addr
  a_Reader_init : Addr
  a_Reader_has_more : Addr
  a_Reader_take_number : Addr
  a_Reader_take_row : Addr
  a_CALLS_OF_A_ROOM : Addr
  a_DESK_CALLS : Addr
  a_CALLS_OF_A_DOOR : Addr
  a_DOOR_CALLS : Addr
  a_LAYOUT : Addr
structure FnAt (K : PySem.W.Frag) (mg : Str → Option Value) (x : Str) (st : Stmt) (f : Addr) : Prop where
  fn : ∃ fd, Fun K x x st f fd
  mg : mg x = some (.ref f)
structure ClAt (K : PySem.W.Frag) (mg : Str → Option Value) (x : Str) (C fI : Addr) : Prop where
  cl : Cls K C
  mak : Mk K C fI
  mg : mg x = some (.ref C)
structure MeAt (K : PySem.W.Frag) (C : Addr) (x qual : Str) (st : Stmt) (f : Addr) : Prop where
  fn : ∃ fd, Fun K x qual st f fd
  me : Meth K C x f
structure CoAt (mg : Str → Option Value) (x : Str) (n : Int) : Prop where
  mg : ∃ t, mg x = some (.int n t)
/-- a dict of the module: numbers, and defs -/
def DicIs : List DictEntry → List (Int × Addr) → Prop
  | [], [] => True
  | e :: es, (k, f) :: r => (∃ t, e.key = .int k t) ∧ e.hash = hashInt k ∧ e.val = .ref f ∧ DicIs es r
  | _, _ => False
def DicAt (K : PySem.W.Frag) (a : Addr) (kvs : List (Int × Addr)) : Prop := ∃ (es : List DictEntry) (n : Nat), K.lookup a = some ⟨.type "dict", none, .dict es.toArray n, #[]⟩ ∧ DicIs es kvs
def TupAt (K : PySem.W.Frag) (a : Addr) (xs : List V) : Prop := ∀ H, SqT K H a xs
def TupsAt (K : PySem.W.Frag) (a : Addr) (xss : List (List V)) : Prop := ∃ ls : List Addr, TupAt K a (ls.map V.ref) ∧ ls.length = xss.length ∧ ∀ (i : Nat) (xs : List V), xss[i]? = some xs → ∃ b, ls[i]? = some b ∧ TupAt K b xs
structure Txt (K : PySem.W.Frag) (mg : Str → Option Value) (A : Ad) : Prop where
  t_number_of : FnAt K mg "number_of" s_number_of A.a_number_of
  t_octets_of : FnAt K mg "octets_of" s_octets_of A.a_octets_of
  t_turned : FnAt K mg "turned" s_turned A.a_turned
  t_words_of : FnAt K mg "words_of" s_words_of A.a_words_of
  t_tag_of : FnAt K mg "tag_of" s_tag_of A.a_tag_of
  t_card_octets : FnAt K mg "card_octets" s_card_octets A.a_card_octets
  t_is_place_of_kind : FnAt K mg "is_place_of_kind" s_is_place_of_kind A.a_is_place_of_kind
  t_read_card : FnAt K mg "read_card" s_read_card A.a_read_card
  t_is_day_from : FnAt K mg "is_day_from" s_is_day_from A.a_is_day_from
  t_bears_out : FnAt K mg "bears_out" s_bears_out A.a_bears_out
  t_is_good : FnAt K mg "is_good" s_is_good A.a_is_good
  t_make_card : FnAt K mg "make_card" s_make_card A.a_make_card
  t_guest_card : FnAt K mg "guest_card" s_guest_card A.a_guest_card
  t_no_more_cards : FnAt K mg "no_more_cards" s_no_more_cards A.a_no_more_cards
  t_no_newer_card : FnAt K mg "no_newer_card" s_no_newer_card A.a_no_newer_card
  t_add_room : FnAt K mg "add_room" s_add_room A.a_add_room
  t_set_day : FnAt K mg "set_day" s_set_day A.a_set_day
  t_come : FnAt K mg "come" s_come A.a_come
  t_copy_card : FnAt K mg "copy_card" s_copy_card A.a_copy_card
  t_replace_lost : FnAt K mg "replace_lost" s_replace_lost A.a_replace_lost
  t_stay_longer : FnAt K mg "stay_longer" s_stay_longer A.a_stay_longer
  t_leave : FnAt K mg "leave" s_leave A.a_leave
  t_shut_room : FnAt K mg "shut_room" s_shut_room A.a_shut_room
  t_staff_card : FnAt K mg "staff_card" s_staff_card A.a_staff_card
  t_recall_staff : FnAt K mg "recall_staff" s_recall_staff A.a_recall_staff
  t_emergency_card : FnAt K mg "emergency_card" s_emergency_card A.a_emergency_card
  t_tell_whose : FnAt K mg "tell_whose" s_tell_whose A.a_tell_whose
  t_tell_stay : FnAt K mg "tell_stay" s_tell_stay A.a_tell_stay
  t_tell_free : FnAt K mg "tell_free" s_tell_free A.a_tell_free
  t_tell_desk : FnAt K mg "tell_desk" s_tell_desk A.a_tell_desk
  t_desk_answer : FnAt K mg "desk_answer" s_desk_answer A.a_desk_answer
  t_goes_by_room : FnAt K mg "goes_by_room" s_goes_by_room A.a_goes_by_room
  t_is_for : FnAt K mg "is_for" s_is_for A.a_is_for
  t_learned_for : FnAt K mg "learned_for" s_learned_for A.a_learned_for
  t_is_stopped_by_bolt : FnAt K mg "is_stopped_by_bolt" s_is_stopped_by_bolt A.a_is_stopped_by_bolt
  t_verdict : FnAt K mg "verdict" s_verdict A.a_verdict
  t_learn : FnAt K mg "learn" s_learn A.a_learn
  t_show_card : FnAt K mg "show_card" s_show_card A.a_show_card
  t_hang : FnAt K mg "hang" s_hang A.a_hang
  t_set_door_day : FnAt K mg "set_door_day" s_set_door_day A.a_set_door_day
  t_try_card : FnAt K mg "try_card" s_try_card A.a_try_card
  t_weigh_card : FnAt K mg "weigh_card" s_weigh_card A.a_weigh_card
  t_try_kept_card : FnAt K mg "try_kept_card" s_try_kept_card A.a_try_kept_card
  t_tell_kept_card : FnAt K mg "tell_kept_card" s_tell_kept_card A.a_tell_kept_card
  t_set_bolt : FnAt K mg "set_bolt" s_set_bolt A.a_set_bolt
  t_tell_book : FnAt K mg "tell_book" s_tell_book A.a_tell_book
  t_tell_door : FnAt K mg "tell_door" s_tell_door A.a_tell_door
  t_set_day_everywhere : FnAt K mg "set_day_everywhere" s_set_day_everywhere A.a_set_day_everywhere
  t_door_answer : FnAt K mg "door_answer" s_door_answer A.a_door_answer
  t_take_given : FnAt K mg "take_given" s_take_given A.a_take_given
  t_begin : FnAt K mg "begin" s_begin A.a_begin
  t_answer_to : FnAt K mg "answer_to" s_answer_to A.a_answer_to
  t_answers : FnAt K mg "answers" s_answers A.a_answers
  t_Mix : ClAt K mg "Mix" A.a_Mix A.a_Mix_init
  t_Mix_init : MeAt K A.a_Mix "__init__" "Mix.__init__" s_Mix_init A.a_Mix_init
  t_Mix_stir : MeAt K A.a_Mix "stir" "Mix.stir" s_Mix_stir A.a_Mix_stir
  t_Mix_take_in : MeAt K A.a_Mix "take_in" "Mix.take_in" s_Mix_take_in A.a_Mix_take_in
  t_Mix_finish : MeAt K A.a_Mix "finish" "Mix.finish" s_Mix_finish A.a_Mix_finish
  t_Mix_no_a : NoAttr K A.a_Mix "a"
  t_Mix_no_b : NoAttr K A.a_Mix "b"
  t_Mix_no_c : NoAttr K A.a_Mix "c"
  t_Mix_no_d : NoAttr K A.a_Mix "d"
  t_Card : ClAt K mg "Card" A.a_Card A.a_Card_init
  t_Card_init : MeAt K A.a_Card "__init__" "Card.__init__" s_Card_init A.a_Card_init
  t_Card_no_kind : NoAttr K A.a_Card "kind"
  t_Card_no_place : NoAttr K A.a_Card "place"
  t_Card_no_number : NoAttr K A.a_Card "number"
  t_Card_no_last : NoAttr K A.a_Card "last"
  t_Card_no_serial : NoAttr K A.a_Card "serial"
  t_Room : ClAt K mg "Room" A.a_Room A.a_Room_init
  t_Room_init : MeAt K A.a_Room "__init__" "Room.__init__" s_Room_init A.a_Room_init
  t_Room_no_zone : NoAttr K A.a_Room "zone"
  t_Room_no_number : NoAttr K A.a_Room "number"
  t_Room_no_stay : NoAttr K A.a_Room "stay"
  t_Desk : ClAt K mg "Desk" A.a_Desk A.a_Desk_init
  t_Desk_init : MeAt K A.a_Desk "__init__" "Desk.__init__" s_Desk_init A.a_Desk_init
  t_Desk_no_key : NoAttr K A.a_Desk "key"
  t_Desk_no_day : NoAttr K A.a_Desk "day"
  t_Desk_no_staff_round : NoAttr K A.a_Desk "staff_round"
  t_Desk_no_serial : NoAttr K A.a_Desk "serial"
  t_Desk_no_rooms : NoAttr K A.a_Desk "rooms"
  t_Door : ClAt K mg "Door" A.a_Door A.a_Door_init
  t_Door_init : MeAt K A.a_Door "__init__" "Door.__init__" s_Door_init A.a_Door_init
  t_Door_no_key : NoAttr K A.a_Door "key"
  t_Door_no_room : NoAttr K A.a_Door "room"
  t_Door_no_zone : NoAttr K A.a_Door "zone"
  t_Door_no_day : NoAttr K A.a_Door "day"
  t_Door_no_number : NoAttr K A.a_Door "number"
  t_Door_no_staff_round : NoAttr K A.a_Door "staff_round"
  t_Door_no_bolted : NoAttr K A.a_Door "bolted"
  t_Door_no_book : NoAttr K A.a_Door "book"
  t_House : ClAt K mg "House" A.a_House A.a_House_init
  t_House_init : MeAt K A.a_House "__init__" "House.__init__" s_House_init A.a_House_init
  t_House_no_desk : NoAttr K A.a_House "desk"
  t_House_no_doors : NoAttr K A.a_House "doors"
  t_House_no_cards : NoAttr K A.a_House "cards"
  t_Ground : ClAt K mg "Ground" A.a_Ground A.a_Ground_init
  t_Ground_init : MeAt K A.a_Ground "__init__" "Ground.__init__" s_Ground_init A.a_Ground_init
  t_Ground_no_house : NoAttr K A.a_Ground "house"
  t_Reader : ClAt K mg "Reader" A.a_Reader A.a_Reader_init
  t_Reader_init : MeAt K A.a_Reader "__init__" "Reader.__init__" s_Reader_init A.a_Reader_init
  t_Reader_has_more : MeAt K A.a_Reader "has_more" "Reader.has_more" s_Reader_has_more A.a_Reader_has_more
  t_Reader_take_number : MeAt K A.a_Reader "take_number" "Reader.take_number" s_Reader_take_number A.a_Reader_take_number
  t_Reader_take_row : MeAt K A.a_Reader "take_row" "Reader.take_row" s_Reader_take_row A.a_Reader_take_row
  t_Reader_no_calls : NoAttr K A.a_Reader "calls"
  t_Reader_no_at : NoAttr K A.a_Reader "at"
  t_LARGEST : CoAt mg "LARGEST" (18446744073709551615)
  t_GUEST : CoAt mg "GUEST" (1)
  t_STAFF : CoAt mg "STAFF" (2)
  t_SHUTTING : CoAt mg "SHUTTING" (3)
  t_EMERGENCY : CoAt mg "EMERGENCY" (4)
  t_MOST_ROOMS : CoAt mg "MOST_ROOMS" (64)
  t_ALL_ZONES : CoAt mg "ALL_ZONES" (255)
  t_EVERYWHERE : CoAt mg "EVERYWHERE" (255)
  t_MOST : CoAt mg "MOST" (65535)
  t_NO_ROOM : CoAt mg "NO_ROOM" (-2)
  t_NO_DOOR : CoAt mg "NO_DOOR" (-2)
  t_NO_STAY : CoAt mg "NO_STAY" (-6)
  t_NOT_KEPT : CoAt mg "NOT_KEPT" (-6)
  t_ELSEWHERE : CoAt mg "ELSEWHERE" (-13)
  t_HAS_STAY : CoAt mg "HAS_STAY" (-15)
  t_BOLTED : CoAt mg "BOLTED" (-15)
  t_HAS_DOOR : CoAt mg "HAS_DOOR" (-17)
  t_OLDER : CoAt mg "OLDER" (-17)
  t_WRONG : CoAt mg "WRONG" (-22)
  t_NO_MORE : CoAt mg "NO_MORE" (-28)
  t_DAY_OVER : CoAt mg "DAY_OVER" (-34)
  t_NO_HOUSE : CoAt mg "NO_HOUSE" (-61)
  t_NO_CARD : CoAt mg "NO_CARD" (-71)
  t_CARDS_KEPT : CoAt mg "CARDS_KEPT" (64)
  t_LAST_ZONE : CoAt mg "LAST_ZONE" (7)
  t_BOOK_KEPT : CoAt mg "BOOK_KEPT" (16)
  t_MOST_DOORS : CoAt mg "MOST_DOORS" (16)
  t_BEGIN : CoAt mg "BEGIN" (0)
  t_FIRST_DOOR_CALL : CoAt mg "FIRST_DOOR_CALL" (16)
  t_KEY_LENGTH : CoAt mg "KEY_LENGTH" (16)
  b_enumerate : mg "enumerate" = none
  b_len : mg "len" = none
  b_list : mg "list" = none
  b_max : mg "max" = none
  b_range : mg "range" = none
  b_reversed : mg "reversed" = none
  t_CALLS_OF_A_ROOM : mg "CALLS_OF_A_ROOM" = some (.ref A.a_CALLS_OF_A_ROOM)
  q_CALLS_OF_A_ROOM : TupAt K A.a_CALLS_OF_A_ROOM [.int 3, .int 4, .int 5, .int 6, .int 7, .int 8, .int 13]
  t_DESK_CALLS : mg "DESK_CALLS" = some (.ref A.a_DESK_CALLS)
  q_DESK_CALLS : DicAt K A.a_DESK_CALLS [(1, A.a_add_room), (2, A.a_set_day), (3, A.a_come), (4, A.a_copy_card), (5, A.a_replace_lost), (6, A.a_stay_longer), (7, A.a_leave), (8, A.a_shut_room), (9, A.a_staff_card), (10, A.a_recall_staff), (11, A.a_emergency_card), (12, A.a_tell_whose), (13, A.a_tell_stay), (14, A.a_tell_free), (15, A.a_tell_desk)]
  t_CALLS_OF_A_DOOR : mg "CALLS_OF_A_DOOR" = some (.ref A.a_CALLS_OF_A_DOOR)
  q_CALLS_OF_A_DOOR : TupAt K A.a_CALLS_OF_A_DOOR [.int 17, .int 18, .int 19, .int 20, .int 22, .int 23, .int 24]
  t_DOOR_CALLS : mg "DOOR_CALLS" = some (.ref A.a_DOOR_CALLS)
  q_DOOR_CALLS : DicAt K A.a_DOOR_CALLS [(16, A.a_hang), (17, A.a_set_door_day), (18, A.a_try_card), (19, A.a_weigh_card), (20, A.a_try_kept_card), (21, A.a_tell_kept_card), (22, A.a_set_bolt), (23, A.a_tell_book), (24, A.a_tell_door), (25, A.a_set_day_everywhere)]
  t_LAYOUT : mg "LAYOUT" = some (.ref A.a_LAYOUT)
  q_LAYOUT : TupsAt K A.a_LAYOUT [[.int 0, .int 1], [.int 1, .int 0], [.int 1, .int 0], [.int 2, .int 0], [.int 1, .int 0], [.int 1, .int 0], [.int 2, .int 0], [.int 1, .int 0], [.int 1, .int 0], [.int 2, .int 0], [.int 0, .int 0], [.int 1, .int 0], [.int 0, .int 1], [.int 1, .int 0], [.int 0, .int 0], [.int 0, .int 0], [.int 1, .int 0], [.int 2, .int 0], [.int 1, .int 1], [.int 1, .int 1], [.int 2, .int 0], [.int 1, .int 0], [.int 2, .int 0], [.int 2, .int 0], [.int 1, .int 0], [.int 1, .int 0]]
section
variable {K : PySem.W.Frag} {h : Heap} {mg : Str → Option Value} {goal : Prop}
theorem fn_then {x : Str} {st : Stmt} {f : Addr} {oc : Value} {od an : Option Addr} {sl : Array (Option Value)} {kV dc pm cd ct : Value} (X : K.In h) (G : h.Ns mainGlobals mg) (a : PySem.W.nsIn K mainGlobals x = some (some (.ref f)))
    (l : K.lookup f = some ⟨oc, od, .func (PySem.W.fnOf x x (defArgs st) (defBody st) (defScope st) .none kV dc pm an cd ct), sl⟩) (c : PySem.W.codeIn K cd x = true) (k : PySem.W.keepIn K (.ref f) = true) (next : FnAt K mg x st f → goal) : goal :=
  next ⟨⟨_, fun_mk l c k⟩, PySem.W.mg_of X G a⟩
theorem cl_then {x : Str} {C fI : Addr} (X : K.In h) (G : h.Ns mainGlobals mg) (a : PySem.W.nsIn K mainGlobals x = some (some (.ref C))) (pg : PySem.W.plainGet K C Str.empty = true) (hd : PySem.W.hasDictIn K C = true) (po : PySem.W.plainOver K C = true)
    (sa : PySem.W.findIn K (.ref C) "__setattr__" = some (some (.builtin "object.__setattr__"))) (mk : PySem.W.makesIn K C = true) (i : PySem.W.findIn K (.ref C) "__init__" = some (some (.ref fI))) (fn : PySem.W.isFn K (.ref fI) = true) (kc : PySem.W.keepIn K (.ref C) = true)
    (next : ClAt K mg x C fI → goal) : goal := next ⟨⟨pg, hd, po, sa⟩, ⟨mk, i, fn, kc⟩, PySem.W.mg_of X G a⟩
theorem me_then {cx m qual : Str} {C fI f : Addr} {st : Stmt} {oc : Value} {od an : Option Addr} {sl : Array (Option Value)} {kV dc pm cd ct : Value} (F : ClAt K mg cx C fI) (a : PySem.W.findIn K (.ref C) m = some (some (.ref f))) (i : PySem.W.isFn K (.ref f) = true)
    (l : K.lookup f = some ⟨oc, od, .func (PySem.W.fnOf m qual (defArgs st) (defBody st) (defScope st) .none kV dc pm an cd ct), sl⟩) (c : PySem.W.codeIn K cd qual = true) (k : PySem.W.keepIn K (.ref f) = true) (next : MeAt K C m qual st f → goal) : goal :=
  next ⟨⟨_, fun_mk l c k⟩, ⟨a, i, k⟩⟩
theorem no_then {cx f : Str} {C fI : Addr} (F : ClAt K mg cx C fI) (a : PySem.W.findIn K (.ref C) f = some none) (next : NoAttr K C f → goal) : goal := next a
theorem co_then {x : Str} {n : Int} {t : Tok} (X : K.In h) (G : h.Ns mainGlobals mg) (a : PySem.W.nsIn K mainGlobals x = some (some (.int n t))) (next : CoAt mg x n → goal) : goal := next ⟨⟨t, PySem.W.mg_of X G a⟩⟩
theorem bl_then {x : Str} (X : K.In h) (G : h.Ns mainGlobals mg) (a : PySem.W.nsIn K mainGlobals x = some none) (next : mg x = none → goal) : goal := next (PySem.W.mg_none_of X G a)
theorem re_then {x : Str} {a : Addr} (X : K.In h) (G : h.Ns mainGlobals mg) (e : PySem.W.nsIn K mainGlobals x = some (some (.ref a))) (next : mg x = some (.ref a) → goal) : goal := next (PySem.W.mg_of X G e)
theorem di_then {x : Str} {a : Addr} {es : List DictEntry} {n : Nat} {kvs : List (Int × Addr)} (X : K.In h) (m : mg x = some (.ref a)) (l : K.lookup a = some ⟨.type "dict", none, .dict es.toArray n, #[]⟩) (d : DicIs es kvs) (next : DicAt K a kvs → goal) : goal := next ⟨es, n, l, d⟩
theorem tu_mk {a : Addr} {l : List Value} {n : Nat} {dd : Option Addr} {sl : Array (Option Value)} {xs : List V} (h : K.lookup a = some ⟨.type "tuple", dd, .seq l.toArray n, sl⟩) (z : l.length ≤ 1000) (v : Vals xs l) : TupAt K a xs :=
  fun _ => .inr ⟨_, l.toArray, n, h, rfl, rfl, Nat.le_of_lt (small1000 z), v⟩
theorem tu_then {x : Str} {a : Addr} {l : List Value} {n : Nat} {dd : Option Addr} {sl : Array (Option Value)} {xs : List V} (X : K.In h) (m : mg x = some (.ref a)) (hl : K.lookup a = some ⟨.type "tuple", dd, .seq l.toArray n, sl⟩) (z : l.length ≤ 1000) (v : Vals xs l) (next : TupAt K a xs → goal) : goal := next (tu_mk hl z v)
def TupsIs (K : PySem.W.Frag) : List Addr → List (List V) → Prop
  | [], [] => True
  | a :: l, x :: r => TupAt K a x ∧ TupsIs K l r
  | _, _ => False
theorem TupsIs.get : ∀ {l : List Addr} {r : List (List V)}, TupsIs K l r → l.length = r.length ∧ ∀ (i : Nat) (xs : List V), r[i]? = some xs → ∃ b, l[i]? = some b ∧ TupAt K b xs
  | [], [], _ => ⟨rfl, fun i xs h => by simp at h⟩
  | a :: l, x :: r, ⟨h, t⟩ => by
    obtain ⟨e, g⟩ := TupsIs.get t
    refine ⟨congrArg (· + 1) e, fun i xs hi => ?_⟩
    cases i with
    | zero => exact ⟨a, rfl, by cases (Option.some.inj hi); exact h⟩
    | succ i => exact g i xs hi
theorem ts_then {x : Str} {a : Addr} {ls : List Addr} {xss : List (List V)} (X : K.In h) (m : mg x = some (.ref a)) (ho : TupAt K a (ls.map V.ref)) (v : TupsIs K ls xss) (next : TupsAt K a xss → goal) : goal := next ⟨ls, ho, v.get.1, v.get.2⟩
end
end Dc

set_option Elab.async false
set_option linter.all false
namespace Dc
open PySem PySem.Spec PyProof.Rows L2
section
variable {K : PySem.W.Frag} {h : Heap} {mg : Str → Option Value} {goal : Prop}
abbrev adr {x : Str} {st : Stmt} {f : Addr} (_ : FnAt K mg x st f) : Addr := f
theorem ts_LAYOUT {x : Str} {a a0 a1 a2 a3 a4 a5 a6 a7 a8 a9 a10 a11 a12 a13 a14 a15 a16 a17 a18 a19 a20 a21 a22 a23 a24 a25 : Addr} {n : Nat} {dd : Option Addr} {sl : Array (Option Value)} (X : K.In h) (m : mg x = some (.ref a)) (o : K.lookup a = some ⟨.type "tuple", dd, .seq [Value.ref a0, Value.ref a1, Value.ref a2, Value.ref a3, Value.ref a4, Value.ref a5, Value.ref a6, Value.ref a7, Value.ref a8, Value.ref a9, Value.ref a10, Value.ref a11, Value.ref a12, Value.ref a13, Value.ref a14, Value.ref a15, Value.ref a16, Value.ref a17, Value.ref a18, Value.ref a19, Value.ref a20, Value.ref a21, Value.ref a22, Value.ref a23, Value.ref a24, Value.ref a25].toArray n, sl⟩) (v0 : TupAt K a0 [.int 0, .int 1]) (v1 : TupAt K a1 [.int 1, .int 0]) (v2 : TupAt K a2 [.int 1, .int 0]) (v3 : TupAt K a3 [.int 2, .int 0]) (v4 : TupAt K a4 [.int 1, .int 0]) (v5 : TupAt K a5 [.int 1, .int 0]) (v6 : TupAt K a6 [.int 2, .int 0]) (v7 : TupAt K a7 [.int 1, .int 0]) (v8 : TupAt K a8 [.int 1, .int 0]) (v9 : TupAt K a9 [.int 2, .int 0]) (v10 : TupAt K a10 [.int 0, .int 0]) (v11 : TupAt K a11 [.int 1, .int 0]) (v12 : TupAt K a12 [.int 0, .int 1]) (v13 : TupAt K a13 [.int 1, .int 0]) (v14 : TupAt K a14 [.int 0, .int 0]) (v15 : TupAt K a15 [.int 0, .int 0]) (v16 : TupAt K a16 [.int 1, .int 0]) (v17 : TupAt K a17 [.int 2, .int 0]) (v18 : TupAt K a18 [.int 1, .int 1]) (v19 : TupAt K a19 [.int 1, .int 1]) (v20 : TupAt K a20 [.int 2, .int 0]) (v21 : TupAt K a21 [.int 1, .int 0]) (v22 : TupAt K a22 [.int 2, .int 0]) (v23 : TupAt K a23 [.int 2, .int 0]) (v24 : TupAt K a24 [.int 1, .int 0]) (v25 : TupAt K a25 [.int 1, .int 0]) (next : TupsAt K a [[.int 0, .int 1], [.int 1, .int 0], [.int 1, .int 0], [.int 2, .int 0], [.int 1, .int 0], [.int 1, .int 0], [.int 2, .int 0], [.int 1, .int 0], [.int 1, .int 0], [.int 2, .int 0], [.int 0, .int 0], [.int 1, .int 0], [.int 0, .int 1], [.int 1, .int 0], [.int 0, .int 0], [.int 0, .int 0], [.int 1, .int 0], [.int 2, .int 0], [.int 1, .int 1], [.int 1, .int 1], [.int 2, .int 0], [.int 1, .int 0], [.int 2, .int 0], [.int 2, .int 0], [.int 1, .int 0], [.int 1, .int 0]] → goal) : goal :=
  next ⟨[a0, a1, a2, a3, a4, a5, a6, a7, a8, a9, a10, a11, a12, a13, a14, a15, a16, a17, a18, a19, a20, a21, a22, a23, a24, a25], tu_mk (l := [Value.ref a0, Value.ref a1, Value.ref a2, Value.ref a3, Value.ref a4, Value.ref a5, Value.ref a6, Value.ref a7, Value.ref a8, Value.ref a9, Value.ref a10, Value.ref a11, Value.ref a12, Value.ref a13, Value.ref a14, Value.ref a15, Value.ref a16, Value.ref a17, Value.ref a18, Value.ref a19, Value.ref a20, Value.ref a21, Value.ref a22, Value.ref a23, Value.ref a24, Value.ref a25]) o (by show 26 ≤ 1000; decide) (.cons rfl (.cons rfl (.cons rfl (.cons rfl (.cons rfl (.cons rfl (.cons rfl (.cons rfl (.cons rfl (.cons rfl (.cons rfl (.cons rfl (.cons rfl (.cons rfl (.cons rfl (.cons rfl (.cons rfl (.cons rfl (.cons rfl (.cons rfl (.cons rfl (.cons rfl (.cons rfl (.cons rfl (.cons rfl (.cons rfl (.nil))))))))))))))))))))))))))), (TupsIs.get (K := K) (l := [a0, a1, a2, a3, a4, a5, a6, a7, a8, a9, a10, a11, a12, a13, a14, a15, a16, a17, a18, a19, a20, a21, a22, a23, a24, a25]) (r := [[.int 0, .int 1], [.int 1, .int 0], [.int 1, .int 0], [.int 2, .int 0], [.int 1, .int 0], [.int 1, .int 0], [.int 2, .int 0], [.int 1, .int 0], [.int 1, .int 0], [.int 2, .int 0], [.int 0, .int 0], [.int 1, .int 0], [.int 0, .int 1], [.int 1, .int 0], [.int 0, .int 0], [.int 0, .int 0], [.int 1, .int 0], [.int 2, .int 0], [.int 1, .int 1], [.int 1, .int 1], [.int 2, .int 0], [.int 1, .int 0], [.int 2, .int 0], [.int 2, .int 0], [.int 1, .int 0], [.int 1, .int 0]]) ⟨v0, ⟨v1, ⟨v2, ⟨v3, ⟨v4, ⟨v5, ⟨v6, ⟨v7, ⟨v8, ⟨v9, ⟨v10, ⟨v11, ⟨v12, ⟨v13, ⟨v14, ⟨v15, ⟨v16, ⟨v17, ⟨v18, ⟨v19, ⟨v20, ⟨v21, ⟨v22, ⟨v23, ⟨v24, ⟨v25, trivial⟩⟩⟩⟩⟩⟩⟩⟩⟩⟩⟩⟩⟩⟩⟩⟩⟩⟩⟩⟩⟩⟩⟩⟩⟩⟩).1, (TupsIs.get (K := K) (l := [a0, a1, a2, a3, a4, a5, a6, a7, a8, a9, a10, a11, a12, a13, a14, a15, a16, a17, a18, a19, a20, a21, a22, a23, a24, a25]) (r := [[.int 0, .int 1], [.int 1, .int 0], [.int 1, .int 0], [.int 2, .int 0], [.int 1, .int 0], [.int 1, .int 0], [.int 2, .int 0], [.int 1, .int 0], [.int 1, .int 0], [.int 2, .int 0], [.int 0, .int 0], [.int 1, .int 0], [.int 0, .int 1], [.int 1, .int 0], [.int 0, .int 0], [.int 0, .int 0], [.int 1, .int 0], [.int 2, .int 0], [.int 1, .int 1], [.int 1, .int 1], [.int 2, .int 0], [.int 1, .int 0], [.int 2, .int 0], [.int 2, .int 0], [.int 1, .int 0], [.int 1, .int 0]]) ⟨v0, ⟨v1, ⟨v2, ⟨v3, ⟨v4, ⟨v5, ⟨v6, ⟨v7, ⟨v8, ⟨v9, ⟨v10, ⟨v11, ⟨v12, ⟨v13, ⟨v14, ⟨v15, ⟨v16, ⟨v17, ⟨v18, ⟨v19, ⟨v20, ⟨v21, ⟨v22, ⟨v23, ⟨v24, ⟨v25, trivial⟩⟩⟩⟩⟩⟩⟩⟩⟩⟩⟩⟩⟩⟩⟩⟩⟩⟩⟩⟩⟩⟩⟩⟩⟩⟩).2⟩
end
end Dc

set_option Elab.async false
set_option linter.all false
set_option maxRecDepth 100000
set_option maxHeartbeats 2000000
/-! rules of my own over the layer -/
namespace Dc
open PySem PySem.Spec PyProof.Rows L2
/-- a def keeps its promise, and binds its parameters as they are written -/
def Ok (P : Program) (w : World) (K : PySem.W.Frag) (mg : Str → Option Value) (base : Heap) (k : Nat) (f : Addr) (ps : List Str) (sp : Sp) : Prop :=
  ∃ fd, FnOk P w K mg base CX0 k f fd ps sp ∧ Binds K fd ps [] ∧ PySem.W.keepIn K (.ref f) = true
theorem Ok.mono {P : Program} {w : World} {K : PySem.W.Frag} {mg : Str → Option Value} {base : Heap} {j k : Nat} {f : Addr} {ps : List Str} {sp : Sp} (F : Ok P w K mg base j f ps sp) (h : j ≤ k) : Ok P w K mg base k f ps sp := by
  obtain ⟨fd, a, b, c⟩ := F
  exact ⟨fd, a.mono h, b, c⟩
def tc (sp : Sp) (t : TA) : TE := fun σ H Q => t σ H fun vs H1 => sp vs H1 Q E0
section
variable {X : Cx} {k : Nat} {f C : Addr} {ps : List Str} {sp : Sp} {x m : Str} {p pos apos : Pos} {e o : Expr} {es : List Expr} {ta : TE} {t : TA}
/-- f(e, ..) -/
theorem pe_c (G : Ok X.prog X.w X.K X.mg X.base k f ps sp) (hr : Room k X.A) (hg : Gl X x) (hm : X.mg x = some (.ref f)) (ha : PA X (e :: es) t)
    (hdb : (x == ("__debug__" : Str)) = false := by decide) (he : starEach (e :: es) X.env = (false, eval e X.env) :: starEach es X.env := by rfl) (hpl : (backTo pos (starEach es X.env)).any (·.1) = false := by rfl) :
    PE X (.Call (.Name x p) (e :: es) [] pos) (tc sp t) := by
  obtain ⟨fd, F, b, hk⟩ := G
  have q := pe_call (p := p) (pos := pos) F hr hg hm hk b .nil pass0 ha hdb he hpl
  intro pins s σ H Q I h
  refine q pins s σ H Q I ?_
  unfold tCall
  simp only [List.append_nil]
  exact h
/-- f() -/
theorem pe_c0 (G : Ok X.prog X.w X.K X.mg X.base k f ps sp) (hr : Room k X.A) (hg : Gl X x) (hm : X.mg x = some (.ref f)) (hdb : (x == ("__debug__" : Str)) = false := by decide) : PE X (.Call (.Name x p) [] [] pos) (tc sp tNil) := by
  obtain ⟨fd, F, b, hk⟩ := G
  have q := pe_call0 (p := p) (pos := pos) F hr hg hm hk b .nil pass0 hdb
  intro pins s σ H Q I h
  refine q pins s σ H Q I ?_
  unfold tCall
  simp only [List.append_nil]
  exact h
def tm (C : Addr) (m : Str) (sp : Sp) (ta : TE) (t : TA) : TE := fun σ H Q => ta σ H fun x H1 => ∃ a dx fs, x = .ref a ∧ H1 a = some (.ins C dx fs) ∧ fs.lookup m = none ∧ t σ H1 fun vs H2 => sp (x :: vs) H2 Q E0
/-- o.m(e, ..) -/
theorem pe_m {pl : Sem Bool} (he : PE X o ta) (c : Cls X.K C) (hm : Meth X.K C m f) (G : Ok X.prog X.w X.K X.mg X.base k f ps sp) (hr : Room k X.A) (ha : PA X (e :: es) t)
    (hst : starEach (e :: es) X.env = (false, eval e X.env) :: starEach es X.env := by rfl) (hpl : (backTo pos (starEach es X.env)).any (·.1) = false := by rfl)
    (ht : eval (.Call (.Attribute o m apos) (e :: es) [] pos) X.env = (do
      let ov ← eval o X.env
      standAt apos.atName
      let (f, first) ← holding [ov] (getMethod ov m pl)
      callWith pos f first (backTo pos (starEach (e :: es) X.env)) (backToKw pos (keywordEach [] X.env))) := by rfl) :
    PE X (.Call (.Attribute o m apos) (e :: es) [] pos) (tm C m sp ta t) := by
  obtain ⟨fd, F, b, hk⟩ := G
  have q := pe_meth (pl := pl) (pos := pos) (apos := apos) he c hm F hr b .nil pass0 ha hst hpl ht
  intro pins s σ H Q I h
  refine q pins s σ H Q I ?_
  unfold tMeth
  simp only [List.append_nil]
  exact h
/-- o.m() -/
theorem pe_m0 {pl : Sem Bool} (he : PE X o ta) (c : Cls X.K C) (hm : Meth X.K C m f) (G : Ok X.prog X.w X.K X.mg X.base k f ps sp) (hr : Room k X.A)
    (ht : eval (.Call (.Attribute o m apos) [] [] pos) X.env = (do
      let ov ← eval o X.env
      standAt apos.atName
      let (f, first) ← holding [ov] (getMethod ov m pl)
      callWith pos f first (backTo pos (starEach [] X.env)) (backToKw pos (keywordEach [] X.env))) := by rfl) :
    PE X (.Call (.Attribute o m apos) [] [] pos) (tm C m sp ta tNil) := by
  obtain ⟨fd, F, b, hk⟩ := G
  have q := pe_meth0 (pl := pl) (pos := pos) (apos := apos) he c hm F hr b .nil pass0 ht
  intro pins s σ H Q I h
  refine q pins s σ H Q I ?_
  unfold tMeth
  simp only [List.append_nil]
  exact h
def tmk (C : Addr) (sp : Sp) (t : TA) : TE := fun σ H Q => t σ H fun vs H1 => ∀ x dx, H1 x = none → H1 dx = none → dx ≠ x →
  sp (.ref x :: vs) (upd (upd H1 dx (.own x)) x (.ins C dx [])) (fun v H2 => v = .non ∧ Q (.ref x) H2) E0
/-- C(e, ..) -/
theorem pe_k (M : Mk X.K C f) (G : Ok X.prog X.w X.K X.mg X.base k f ps sp) (hr : Room (k + 1) X.A) (hg : Gl X x) (hm : X.mg x = some (.ref C)) (ha : PA X (e :: es) t)
    (hdb : (x == ("__debug__" : Str)) = false := by decide) (he : starEach (e :: es) X.env = (false, eval e X.env) :: starEach es X.env := by rfl) (hpl : (backTo pos (starEach es X.env)).any (·.1) = false := by rfl) :
    PE X (.Call (.Name x p) (e :: es) [] pos) (tmk C sp t) := by
  obtain ⟨fd, F, b, hk⟩ := G
  have q := pe_make (p := p) (pos := pos) M F hr hg hm b .nil pass0 ha hdb he hpl
  intro pins s σ H Q I h
  refine q pins s σ H Q I ?_
  unfold tMake
  simp only [List.append_nil]
  exact h
/-- C() -/
theorem pe_k0 (M : Mk X.K C f) (G : Ok X.prog X.w X.K X.mg X.base k f ps sp) (hr : Room (k + 1) X.A) (hg : Gl X x) (hm : X.mg x = some (.ref C)) (hdb : (x == ("__debug__" : Str)) = false := by decide) :
    PE X (.Call (.Name x p) [] [] pos) (tmk C sp tNil) := by
  obtain ⟨fd, F, b, hk⟩ := G
  have q := pe_make0 (p := p) (pos := pos) M F hr hg hm b .nil pass0 hdb
  intro pins s σ H Q I h
  refine q pins s σ H Q I ?_
  unfold tMake
  simp only [List.append_nil]
  exact h
/-- v(e, ..), v a local that holds a def -/
def tcv (X : Cx) (i : Nat) (t : TA) : TE := fun σ H Q => ∃ f k ps sp, σ[i]? = some (some (.ref f)) ∧ Ok X.prog X.w X.K X.mg X.base k f ps sp ∧ Room k X.A ∧ t σ H fun vs H1 => sp vs H1 Q E0
theorem pe_cv {i : Nat} (hN : X.N[i]? = some x) (ha : PA X (e :: es) t) (hv : Vis X.env.scope x := by first | exact Or.inl rfl | exact Or.inr (Or.inl rfl) | exact Or.inr (Or.inr rfl))
    (hdb : (x == ("__debug__" : Str)) = false := by decide) (hcd : (x == ("__classdict__" : Str)) = false := by decide) (he : starEach (e :: es) X.env = (false, eval e X.env) :: starEach es X.env := by rfl) (hpl : (backTo pos (starEach es X.env)).any (·.1) = false := by rfl) :
    PE X (.Call (.Name x p) (e :: es) [] pos) (tcv X i t) := by
  intro pins s σ H Q I h
  obtain ⟨f, k, ps, sp, hσ, ⟨fd, F, b, hk⟩, hr, h⟩ := h
  refine wpAny_Call_Name_kw (thn (pe_var (X := X) (pos := p) hN hv hdb hcd pins s σ H (fun v H1 => v = .ref f ∧ H1 = H) I ⟨_, hσ, rfl, rfl⟩) fun u s1 ⟨v, H1, I1, rv, ev, eH⟩ => ?_)
  subst ev eH
  obtain rfl : u = Value.ref f := rv
  refine PySem.W.callWith_K (h₀ := X.base) I1.ok.mod.kin hk (thn (ha pos pins s1 σ H1 _ I1 h) fun us s2 ⟨vs, H2, I2, r, q⟩ => ⟨I2.kIn, ?_⟩) he hpl
  exact run_fn F hr b .nil pass0 I2 r (by simpa using q)
end
/-! ### loops -/
/-- over reversed(list), the list left as it is -/
theorem for_rev {K : PySem.W.Frag} {a : Addr} {xs : List V} {g : TG} {tb : TS} {D : Ends} {σ : L2.St} {H : Hp} (Pv : Nat → L2.St → Hp → Prop) (h0 : Pv 0 σ H) (hl : ∀ i σ H, i ≤ xs.length → Pv i σ H → SqL K H a xs)
    (hs : ∀ i x σ H, i < xs.length → xs[xs.length - 1 - i]? = some x → Pv i σ H → g x σ H fun σ2 H2 => tb { D with nx := Pv (i + 1), ct := Pv (i + 1), bk := D.nx } σ2 H2) (hd : ∀ σ H, Pv xs.length σ H → D.nx σ H) :
    ∃ W : Nat → Nat → L2.St → Hp → Prop, (∃ m, W 0 m σ H) ∧ ∀ i m σ H, W i m σ H →
      ((Itv K a xs.length).stop i H ∧ D.nx σ H) ∨ ((Itv K a xs.length).go i H ∧ ∃ N : L2.St → Hp → Prop, (∀ σ' H', N σ' H' → ∃ m', m' < m ∧ W (i + 1) m' σ' H') ∧ ∀ x H', (Itv K a xs.length).yld i H x H' → g x σ H' fun σ2 H2 => tb { D with nx := N, ct := N, bk := D.nx } σ2 H2) := by
  refine ⟨fun i m σ H => m = xs.length - i ∧ i ≤ xs.length ∧ Pv i σ H, ⟨xs.length, by simp, Nat.zero_le _, h0⟩, ?_⟩
  rintro i m σ H ⟨rfl, hi, p⟩
  have q := hl i σ H hi p
  by_cases hlt : i < xs.length
  · have hx : xs[xs.length - 1 - i]? = some (xs[xs.length - 1 - i]'(by omega)) := List.getElem?_eq_getElem (by omega)
    refine .inr ⟨⟨hlt, xs, _, q, hx⟩, Pv (i + 1), fun σ' H' p' => ⟨xs.length - (i + 1), by omega, rfl, hlt, p'⟩, fun x H' y => ?_⟩
    obtain ⟨e, y⟩ := y
    subst e
    exact hs i x σ _ hlt (y xs q) p
  · have e : i = xs.length := by omega
    subst e
    exact .inl ⟨Nat.le_refl _, hd σ H p⟩
/-- a comprehension over a range with a step -/
theorem lc_rangeC {lo c : Int} {n : Nat} {g : TG} {tt : TT} {te : TE} {vs : List Nat} {σ : L2.St} {H1 : Hp} {D : Addr} {Qd : Hp → Prop} (Pv : Nat → Hp → Prop) (h0 : Pv 0 (upd H1 D (.lst [])))
    (hs : ∀ i H, i < n → Pv i H → g (.int (lo + (i : Nat) * c)) (wipe σ vs) H fun σ2 H2 => wipe σ2 vs = wipe σ vs ∧ tt σ2 H2 fun b H3 =>
      if b = true then te σ2 H3 fun y H4 => ∃ acc, H4 D = some (.lst acc) ∧ acc.length < sizeLine ∧ Pv (i + 1) (upd H4 D (.lst (acc ++ [y]))) else Pv (i + 1) H3) (hd : ∀ H, Pv n H → Qd H) :
    ∃ W : Nat → Nat → Hp → Prop, (∃ m, W 0 m (upd H1 D (.lst []))) ∧ ∀ i m H, W i m H →
      ((Itc lo c n).stop i H ∧ Qd H) ∨ ((Itc lo c n).go i H ∧ ∃ Nx : Hp → Prop, (∀ H', Nx H' → ∃ m', m' < m ∧ W (i + 1) m' H') ∧ ∀ x H', (Itc lo c n).yld i H x H' → g x (wipe σ vs) H' fun σ2 H2 => wipe σ2 vs = wipe σ vs ∧ tt σ2 H2 fun b H3 =>
        if b = true then te σ2 H3 fun y H4 => ∃ acc, H4 D = some (.lst acc) ∧ acc.length < sizeLine ∧ Nx (upd H4 D (.lst (acc ++ [y]))) else Nx H3) := by
  refine ⟨fun i m H => m = n - i ∧ i ≤ n ∧ Pv i H, ⟨n, by simp, Nat.zero_le _, h0⟩, ?_⟩
  rintro i m H ⟨rfl, hi, p⟩
  by_cases hlt : i < n
  · refine .inr ⟨hlt, Pv (i + 1), fun H' p' => ⟨n - (i + 1), by omega, rfl, hlt, p'⟩, fun x H' y => ?_⟩
    obtain ⟨e, y⟩ := y
    subst e y
    exact hs i _ hlt p
  · have e : i = n := by omega
    subst e
    exact .inl ⟨Nat.le_refl _, hd H p⟩
/-! ### fields -/
theorem putF_hd {f : Str} {v x : V} {r : List (Str × V)} : putF f v ((f, x) :: r) = (f, v) :: r := if_pos rfl
theorem putF_tl {f g : Str} {v x : V} {r : List (Str × V)} (h : g ≠ f) : putF f v ((g, x) :: r) = (g, x) :: putF f v r := if_neg h
theorem look_hd {f : Str} {x : V} {r : List (Str × V)} : List.lookup f ((f, x) :: r) = some x := by simp [List.lookup]
theorem look_tl {f g : Str} {x : V} {r : List (Str × V)} (h : f ≠ g) : List.lookup f ((g, x) :: r) = List.lookup f r := by
  have hb : (f == g) = false := beq_eq_false_iff_ne.mpr h
  simp [List.lookup, hb]
/-! ### lists of numbers -/
def vn (l : List Nat) : List V := l.map fun (n : Nat) => V.int (n : Int)
theorem vn_len (l : List Nat) : (vn l).length = l.length := List.length_map ..
theorem vn_app (l m : List Nat) : vn (l ++ m) = vn l ++ vn m := List.map_append ..
theorem vn_get {l : List Nat} {i : Nat} {v : V} (h : (vn l)[i]? = some v) : ∃ n, l[i]? = some n ∧ v = .int (n : Int) := by
  unfold vn at h
  rw [List.getElem?_map] at h
  cases e : l[i]? with
  | none => rw [e] at h; cases h
  | some n => rw [e] at h; exact ⟨n, rfl, (Option.some.inj h).symm⟩
theorem get_vn {l : List Nat} {i : Nat} {n : Nat} (h : l[i]? = some n) : (vn l)[i]? = some (.int (n : Int)) := by
  unfold vn
  rw [List.getElem?_map, h]
  rfl
end Dc

set_option Elab.async false
set_option linter.all false
set_option maxRecDepth 100000
set_option maxHeartbeats 2000000
/-! the tag's defs -/
namespace Dc
open PySem PySem.Spec PyProof.Rows L2
section
variable {P : Program} {w : World} {K : PySem.W.Frag} {mg : Str → Option Value} {base : Heap} {A : Ad}
theorem FnAt.ok {x : Str} {st : Stmt} {f : Addr} {N ps : List Str} {k : Nat} {sp : Sp} (F : FnAt K mg x st f) (S : FnScope N ps (defScope st))
    (hb : ∀ (kV doc pm : Value) (an : Option Addr) (cdv ct : Value) (us : List Value), us.length = ps.length → bindArgs (PySem.W.fnOf x x (defArgs st) (defBody st) (defScope st) .none kV doc pm an cdv ct) ⟨us, []⟩ = pure (ps.zip us))
    (len : ∀ vs H Q E, sp vs H Q E → vs.length = ps.length)
    (hbody : ∀ (cdv : Value) (A : Around) (outer : List Env) (s : Shared) (H : Hp) (vs : List V) (Q : VK) (E : XK), Room k (A.deeper (envOfC x (defScope st) s.heap.objs.size f cdv)) → sp vs H Q E →
      ∃ t, PSs (cxOf CX0 P w K mg base N x (defScope st) f cdv A outer s H E).nox (defBody st) t ∧ t { nx := fun _ H' => Q .non H', rt := Q } (start N vs) H) : Ok P w K mg base (k + 1) f ps sp := by
  obtain ⟨fd, Fn⟩ := F.fn
  exact ⟨fd, Fn.ok S len hbody, Fn.binds hb, Fn.kp⟩
theorem MeAt.ok {C : Addr} {x qual : Str} {st : Stmt} {f : Addr} {N ps : List Str} {k : Nat} {sp : Sp} (F : MeAt K C x qual st f) (S : FnScope N ps (defScope st))
    (hb : ∀ (kV doc pm : Value) (an : Option Addr) (cdv ct : Value) (us : List Value), us.length = ps.length → bindArgs (PySem.W.fnOf x qual (defArgs st) (defBody st) (defScope st) .none kV doc pm an cdv ct) ⟨us, []⟩ = pure (ps.zip us))
    (len : ∀ vs H Q E, sp vs H Q E → vs.length = ps.length)
    (hbody : ∀ (cdv : Value) (A : Around) (outer : List Env) (s : Shared) (H : Hp) (vs : List V) (Q : VK) (E : XK), Room k (A.deeper (envOfC qual (defScope st) s.heap.objs.size f cdv)) → sp vs H Q E →
      ∃ t, PSs (cxOf CX0 P w K mg base N qual (defScope st) f cdv A outer s H E).nox (defBody st) t ∧ t { nx := fun _ H' => Q .non H', rt := Q } (start N vs) H) : Ok P w K mg base (k + 1) f ps sp := by
  obtain ⟨fd, Fn⟩ := F.fn
  exact ⟨fd, Fn.ok S len hbody, Fn.binds hb, Fn.kp⟩
/-- a constant of the module -/
theorem pe_co {X : Cx} {x : Str} {n : Int} {pos : Pos} (c : CoAt X.mg x n) (hg : Gl X x) (hd : (x == ("__debug__" : Str)) = false := by decide) : PE X (.Name x pos) (tC (.int n)) := by
  obtain ⟨t, e⟩ := c.mg
  exact pe_glob hg e ⟨t, rfl⟩ hd
/-! ### a dict of the module -/
theorem DicIs.keys {P : Program} {w : World} : ∀ {es : List DictEntry} {kvs : List (Int × Addr)}, DicIs es kvs → ∀ e ∈ es, ∃ k, (intKind P w).is k e.key = true ∧ e.hash = (intKind P w).hash k
  | [], [], _ => fun _ h => (nomatch h)
  | e :: es, (k, f) :: r, ⟨⟨t, hk⟩, hh, hv, hr⟩ => fun x hx => by
    rcases List.mem_cons.mp hx with z | z
    · subst z
      exact ⟨k, by rw [hk]; exact beq_self_eq_true k, hh⟩
    · exact DicIs.keys hr x z
theorem DicIs.find (P : Program) (w : World) (k : Int) : ∀ {es : List DictEntry} {kvs : List (Int × Addr)}, DicIs es kvs → (es.find? fun e => (intKind P w).is k e.key).map (·.val) = (kvs.lookup k).map Value.ref
  | [], [], _ => rfl
  | e :: es, (j, f) :: r, ⟨⟨t, hk⟩, hh, hv, hr⟩ => by
    have ih := DicIs.find P w k hr
    have hi : (intKind P w).is k e.key = (j == k) := by rw [hk]; rfl
    rw [List.find?_cons, hi, List.lookup_cons]
    by_cases hj : j = k
    · subst hj
      simp [hv]
    · have h1 : (j == k) = false := beq_eq_false_iff_ne.mpr hj
      have h2 : (k == j) = false := beq_eq_false_iff_ne.mpr fun z => hj z.symm
      rw [h1, h2]
      exact ih
theorem DicAt.mapOf {P : Program} {w : World} {h : Heap} {a : Addr} {kvs : List (Int × Addr)} (X : K.In h) (D : DicAt K a kvs) : h.MapOf (intKind P w) a (fun k => (kvs.lookup k).map Value.ref) := by
  obtain ⟨es, n, l, d⟩ := D
  refine ⟨_, es.toArray, n, X _ _ l, ⟨rfl, rfl, rfl⟩, rfl, fun e he => d.keys e (by simpa using he), fun k => ?_⟩
  unfold findBy
  rw [List.find?_toArray]
  exact d.find P w k
def tDK (K : PySem.W.Frag) (td ty : TE) : TE := fun σ H Q => td σ H fun x H1 => ty σ H1 fun y H2 => ∃ (a : Addr) (kvs : List (Int × Addr)) (i : Int) (f : Addr), x = .ref a ∧ y = .int i ∧ DicAt K a kvs ∧ kvs.lookup i = some f ∧ Q (.ref f) H2
theorem pe_dgetK {X : Cx} {o i : Expr} {pos : Pos} {td ty : TE} (ho : PE X o td) (hi : PE X i ty) (hs : NoSl i) : PE X (.Subscript o i pos) (tDK X.K td ty) := by
  intro pins s σ H Q I h
  refine subD_of PySem.F.slot_dict_getitem.lookup hs (thn (ho pins s σ H _ I h) fun u s1 ⟨x, H1, I1, rx, q1⟩ => thn (hi pins s1 σ H1 _ I1 q1) fun iv s2 ⟨y, H2, I2, ry, a, kvs, j, f, ex, ey, D, l, q2⟩ => ?_)
  subst ex ey
  obtain rfl : u = Value.ref a := rx
  obtain ⟨t, rfl⟩ := ry
  have hm := D.mapOf (P := X.prog) (w := X.w) I2.kIn
  exact ⟨hm.typeIs, wpAny_getItem_of (k := j) (beq_self_eq_true j) hm (by rw [l]; rfl) ⟨.ref f, H2, I2.tok _, rfl, q2⟩⟩
/-! ### heaps -/
theorem same_new {H : Hp} {p : Addr} {o : HO} (hp : H p = none) : Same H (upd H p o) := fun b u e => by
  rw [upd_ne (ne_of_none e hp)]
  exact e
/-- all but x is as it was -/
def Keep (x : Addr) (H H' : Hp) : Prop := ∀ b o, H b = some o → b ≠ x → H' b = some o
theorem upd_id {H : Hp} {x : Addr} {o : HO} (h : H x = some o) : upd H x o = H := by
  funext b
  unfold upd
  split
  · rename_i e
    rw [e, h]
  · rfl
/-! ### slices -/
theorem cut_to {xs : List V} {n : Nat} (h : n ≤ xs.length) : cutV xs none (some (n : Int)) = xs.take n := by
  unfold cutV
  rw [HT.sIx_nat, HT.sIx_none, Nat.min_eq_left h]
  rfl
theorem cut_from {xs : List V} {n : Nat} (h : n ≤ xs.length) : cutV xs (some (n : Int)) none = xs.drop n := by
  unfold cutV
  rw [HT.sIx_nat, HT.sIx_none, Nat.min_eq_left h]
  exact List.take_of_length_le (by rw [List.length_drop]; exact Nat.le_refl _)
theorem cut_mid {xs : List V} {m n : Nat} (h : m ≤ n) (h2 : n ≤ xs.length) : cutV xs (some (m : Int)) (some (n : Int)) = (xs.drop m).take (n - m) := by
  unfold cutV
  rw [HT.sIx_nat, HT.sIx_nat, Nat.min_eq_left h2, Nat.min_eq_left (Nat.le_trans h h2)]
theorem vn_take (l : List Nat) (n : Nat) : (vn l).take n = vn (l.take n) := (List.map_take ..).symm
theorem vn_drop (l : List Nat) (n : Nat) : (vn l).drop n = vn (l.drop n) := (List.map_drop ..).symm
/-! ### number_of -/
def sp_number_of (K : PySem.W.Frag) : Sp := fun vs H Q _ => ∃ (a : Addr) (l : List Nat), vs = [.ref a] ∧ SqL K H a (vn l) ∧ Q (.int (Ks345.number l : Nat)) H
theorem ok_number_of (T : Txt K mg A) : Ok P w K mg base 1 A.a_number_of ["octets"] (sp_number_of K) := by
  refine T.t_number_of.ok sc_number_of (fun _ _ _ _ _ _ us hl => match us, hl with | [_], _ => rfl) (fun vs H Q E h => ?_) (fun cdv Ar outer s H vs Q E hr h => ?_)
  · obtain ⟨a, l, rfl, _⟩ := h
    rfl
  · obtain ⟨a, l, rfl, hS, k⟩ := h
    refine ⟨_, pss_cons (ps_set (i := 1) sc_number_of.nd rfl (Or.inl rfl) pe_int)
      (pss_cons (ps_for PassesOwn.never rfl (pi_reversed rfl T.b_reversed (pa_cons (pv 0) pa_nil)) (pg_name (i := 2) sc_number_of.nd rfl (Or.inl rfl))
        (pss_one (ps_set (i := 1) sc_number_of.nd rfl (Or.inl rfl) (pe_op op_add (pe_op op_mul (pv 1) pe_int) (pv 2)))))
      (pss_one (ps_ret (pv 1)))), ?_⟩
    have e0 : Ks345.number (l.drop (l.length - 0)) = 0 := by rw [Nat.sub_zero, List.drop_length]; rfl
    refine ⟨_, rfl, a, vn l, rfl, hS, for_rev (K := K) (a := a) (xs := vn l) (fun i σ H' => ∃ v : Option V, σ = [some (.ref a), some (.int (Ks345.number (l.drop (l.length - i)) : Nat)), v] ∧ H' = H)
      ⟨none, by rw [e0]; rfl, rfl⟩ (fun i σ H' _ ⟨_, _, e⟩ => e ▸ hS) ?_ ?_⟩
    · rintro i x σ H' hi hx ⟨v, rfl, rfl⟩
      rw [vn_len] at hi hx
      obtain ⟨n, hn, rfl⟩ := vn_get hx
      have e1 : Ks345.number (l.drop (l.length - (i + 1))) = Ks345.number (l.drop (l.length - i)) * 256 + n := by
        have q := number_step hn
        have e2 : l.length - 1 - i = l.length - (i + 1) := by omega
        have e3 : l.length - (i + 1) + 1 = l.length - i := by omega
        rw [e2, e3] at q
        exact q
      refine ⟨_, rfl, _, _, rfl, rfl, .inr ⟨by decide, by decide⟩, _, rfl, _, _, rfl, rfl, some (.int n), ?_, rfl⟩
      rw [e1]
      rfl
    · rintro σ H' ⟨v, rfl, rfl⟩
      rw [vn_len, Nat.sub_self, List.drop_zero]
      exact ⟨_, rfl, k⟩
/-! ### octets_of -/
def sp_octets_of : Sp := fun vs H Q _ => ∃ n k : Nat, vs = [.int n, .int k] ∧ k ≤ 1000 ∧ ∀ p, H p = none → Q (.ref p) (upd H p (.lst (vn (Ks345.bytes k n))))
theorem ok_octets_of (T : Txt K mg A) : Ok P w K mg base 1 A.a_octets_of ["number", "count"] sp_octets_of := by
  refine T.t_octets_of.ok sc_octets_of (fun _ _ _ _ _ _ us hl => match us, hl with | [_, _], _ => rfl) (fun vs H Q E h => ?_) (fun cdv Ar outer s H vs Q E hr h => ?_)
  · obtain ⟨n, k, rfl, _⟩ := h
    rfl
  · obtain ⟨n, c, rfl, hc, k⟩ := h
    refine ⟨_, pss_cons (ps_set (i := 2) sc_octets_of.nd rfl (Or.inl rfl) (pe_lst pa_nil))
      (pss_cons (ps_set (i := 3) sc_octets_of.nd rfl (Or.inl rfl) (pv 0))
      (pss_cons (ps_for PassesOwn.never rfl (pi_range1 rfl T.b_range (pa_cons (pv 1) pa_nil)) (pg_name (i := 4) sc_octets_of.nd rfl (Or.inl rfl))
        (pss_cons (ps_expr (pe_bm PySem.F.plainAttrs_list PySem.F.slot_list_append PySem.F.type_list_append mt_append (pv 2) (pa_cons (pe_op op_mod (pv 3) pe_int) pa_nil)))
        (pss_one (ps_set (i := 3) sc_octets_of.nd rfl (Or.inl rfl) (pe_op op_fdiv (pv 3) pe_int)))))
      (pss_one (ps_ret (pv 2))))), ?_⟩
    refine ⟨Nat.zero_le _, fun p hp => ⟨_, rfl, _, rfl, (c : Int), rfl, by omega, by omega, for_range (lo := 0) (n := (c : Int).toNat) (fun i σ H' => ∃ v : Option V, σ = [some (.int n), some (.int c), some (.ref p), some (.int (n / 256 ^ i : Nat)), v] ∧ H' = upd H p (.lst (vn (Ks345.bytes i n))))
      ⟨none, by rw [Nat.pow_zero, Nat.div_one]; rfl, rfl⟩ ?_ ?_⟩⟩
    · rintro i σ H' hi ⟨v, rfl, rfl⟩
      rw [Int.toNat_natCast] at hi
      refine ⟨_, rfl, .inl ⟨rfl, _, SqL.of upd_same⟩, _, rfl, _, _, rfl, rfl, (by show (0 : Int) < 256; decide), p, _, _, rfl, rfl, upd_same, (by rw [vn_len, bytes_len]; exact small1000 (by omega)), _, rfl, _, _, rfl, rfl, ⟨by decide, by decide⟩, some (.int (0 + ((i : Nat) : Int))), ?_, ?_⟩
      · rw [Nat.pow_succ, ← Nat.div_div_eq_div_mul]
        rfl
      · rw [upd_upd, bytes_snoc, vn_app]
        rfl
    · rintro σ H' ⟨v, rfl, rfl⟩
      rw [Int.toNat_natCast]
      exact ⟨_, rfl, k p hp⟩
/-! ### turned -/
theorem turnZ {x p : Nat} (hx : x < 2 ^ 64) (hp : p ≤ 64) : Builtin.bitAnd (Builtin.bitOr ((x : Int) * 2 ^ ((p : Int)).toNat) ((x : Int) / 2 ^ ((64 : Int) - (p : Int)).toNat)) 18446744073709551615 = ((Ks345.turn p x : Nat) : Int) := by
  have e1 : ((64 : Int) - (p : Int)).toNat = 64 - p := by omega
  have e2 : (x : Int) * 2 ^ ((p : Int)).toNat = ((x * 2 ^ p : Nat) : Int) := by rw [Int.toNat_natCast, Int.natCast_mul, Int.natCast_pow]; rfl
  have e3 : (x : Int) / 2 ^ (64 - p) = ((x / 2 ^ (64 - p) : Nat) : Int) := by rw [Int.natCast_ediv, Int.natCast_pow]; rfl
  rw [e1, e2, e3, orN, andM, (turn_lt hp hx).1]
def sp_turned : Sp := fun vs H Q _ => ∃ x p : Nat, vs = [.int x, .int p] ∧ x < 2 ^ 64 ∧ p ≤ 64 ∧ Q (.int (Ks345.turn p x : Nat)) H
theorem ok_turned (T : Txt K mg A) : Ok P w K mg base 1 A.a_turned ["number", "places"] sp_turned := by
  refine T.t_turned.ok sc_turned (fun _ _ _ _ _ _ us hl => match us, hl with | [_, _], _ => rfl) (fun vs H Q E h => ?_) (fun cdv Ar outer s H vs Q E hr h => ?_)
  · obtain ⟨n, k, rfl, _⟩ := h
    rfl
  · obtain ⟨x, p, rfl, hx, hp, k⟩ := h
    refine ⟨_, pss_one (ps_ret (pe_op op_and (pe_op op_or (pe_op op_shl (pv 0) (pv 1)) (pe_op op_shr (pv 0) (pe_op op_sub pe_int (pv 1)))) (pe_co T.t_LARGEST rfl))), ?_⟩
    refine ⟨_, rfl, _, rfl, _, _, rfl, rfl, ⟨by omega, by omega, by rw [Int.natAbs_natCast]; exact hx⟩, _, rfl, _, rfl, _, _, rfl, rfl, _, _, rfl, rfl, (by omega), _, _, rfl, rfl, _, _, rfl, rfl, ?_⟩
    rw [← turnZ hx hp] at k
    exact k
/-! ### Mix -/
abbrev mixF (v : Ks345.Four) : List (Str × V) := [("a", .int v.a), ("b", .int v.b), ("c", .int v.c), ("d", .int v.d)]
theorem xorC (c n : Nat) : Builtin.bitXor (c : Int) (n : Int) = ((n ^^^ c : Nat) : Int) := by rw [xorN, Nat.xor_comm]
def sp_Mix_init (K : PySem.W.Frag) (C : Addr) : Sp := fun vs H Q _ => ∃ (x dx ka : Addr) (key : List Nat), vs = [.ref x, .ref ka] ∧ H x = some (.ins C dx []) ∧ SqL K H ka (vn key) ∧ key.length = 16 ∧
  ∀ H', H' x = some (.ins C dx (mixF (Ks345.begun key))) → Keep x H H' → Q .non H'
theorem ok_Mix_init (T : Txt K mg A) : Ok P w K mg base 2 A.a_Mix_init ["self", "key"] (sp_Mix_init K A.a_Mix) := by
  refine T.t_Mix_init.ok sc_Mix_init (fun _ _ _ _ _ _ us hl => match us, hl with | [_, _], _ => rfl) (fun vs H Q E h => ?_) (fun cdv Ar outer s H vs Q E hr h => ?_)
  · obtain ⟨x, dx, ka, key, rfl, _⟩ := h
    rfl
  · obtain ⟨x, dx, ka, key, rfl, hx, hS, hl, k⟩ := h
    refine ⟨_, pss_cons (ps_set (i := 2) sc_Mix_init.nd rfl (Or.inl rfl) (pe_c (ok_number_of T) hr rfl T.t_number_of.mg (pa_cons (pe_slice sl_list (pv 1) po_none (po_some pe_int)) pa_nil)))
      (pss_cons (ps_set (i := 3) sc_Mix_init.nd rfl (Or.inl rfl) (pe_c (ok_number_of T) hr rfl T.t_number_of.mg (pa_cons (pe_slice sl_list (pv 1) (po_some pe_int) po_none) pa_nil)))
      (pss_cons (ps_fld (pv 0) (pe_op op_xor pe_int (pv 2)) rfl)
      (pss_cons (ps_fld (pv 0) (pe_op op_xor pe_int (pv 3)) rfl)
      (pss_cons (ps_fld (pv 0) (pe_op op_xor pe_int (pv 2)) rfl)
      (pss_one (ps_fld (pv 0) (pe_op op_xor pe_int (pv 3)) rfl)))))), ?_⟩
    have hl2 : (vn key).length = 16 := (vn_len key).trans hl
    have c1 : cutV (vn key) none (some 8) = vn (key.take 8) := (cut_to (n := 8) (by omega)).trans (vn_take _ _)
    have c2 : cutV (vn key) (some 8) none = vn (key.drop 8) := (cut_from (n := 8) (by omega)).trans (vn_drop _ _)
    refine ⟨_, rfl, _, rfl, ka, vn key, rfl, hS, fun p1 h1 => ?_⟩
    refine ⟨p1, key.take 8, rfl, SqL.of (upd_same.trans (by rw [c1])), ?_⟩
    have s1 : Same H (upd H p1 (.lst (cutV (vn key) none (some 8)))) := same_new h1
    refine ⟨_, rfl, _, rfl, ka, vn key, rfl, s1.seq hS, fun p2 h2 => ?_⟩
    refine ⟨p2, key.drop 8, rfl, SqL.of (upd_same.trans (by rw [c2])), ?_⟩
    have s2 := s1.trans (same_new (o := .lst (cutV (vn key) (some 8) none)) h2)
    have hx2 := s2 _ _ hx
    refine ⟨_, rfl, _, _, rfl, rfl, _, rfl, x, A.a_Mix, dx, _, rfl, hx2, T.t_Mix.cl, T.t_Mix_no_a, (by decide), ?_⟩
    refine ⟨_, rfl, _, _, rfl, rfl, _, rfl, x, A.a_Mix, dx, _, rfl, upd_same, T.t_Mix.cl, T.t_Mix_no_b, (by show 1 < 1000; decide), ?_⟩
    refine ⟨_, rfl, _, _, rfl, rfl, _, rfl, x, A.a_Mix, dx, _, rfl, upd_same, T.t_Mix.cl, T.t_Mix_no_c, (by show 2 < 1000; decide), ?_⟩
    refine ⟨_, rfl, _, _, rfl, rfl, _, rfl, x, A.a_Mix, dx, _, rfl, upd_same, T.t_Mix.cl, T.t_Mix_no_d, (by show 3 < 1000; decide), ?_⟩
    refine k _ (upd_same.trans ?_) fun b o e hb => ?_
    · have e1 := xorC 8317987319222330741 (Ks345.number (key.take 8))
      have e2 := xorC 7237128888997146477 (Ks345.number (key.drop 8))
      have e3 := xorC 7816392313619706465 (Ks345.number (key.take 8))
      have e4 := xorC 8387220255154660723 (Ks345.number (key.drop 8))
      congr 2
      show putF "d" (.int (Builtin.bitXor (8387220255154660723 : Nat) (Ks345.number (key.drop 8) : Nat))) (putF "c" (.int (Builtin.bitXor (7816392313619706465 : Nat) (Ks345.number (key.take 8) : Nat))) (putF "b" (.int (Builtin.bitXor (7237128888997146477 : Nat) (Ks345.number (key.drop 8) : Nat))) (putF "a" (.int (Builtin.bitXor (8317987319222330741 : Nat) (Ks345.number (key.take 8) : Nat))) []))) = _
      rw [e1, e2, e3, e4]
      rfl
    · rw [upd_ne hb, upd_ne hb, upd_ne hb, upd_ne hb]
      exact s2 _ _ e
end
end Dc

set_option Elab.async false
set_option linter.all false
set_option maxRecDepth 100000
set_option maxHeartbeats 2000000
/-! Mix's methods, and the tag -/
namespace Dc
open PySem PySem.Spec PyProof.Rows L2
section
variable {P : Program} {w : World} {K : PySem.W.Frag} {mg : Str → Option Value} {base : Heap} {A : Ad}
/-- one of the four numbers, by its name -/
structure Slot4 (K : PySem.W.Frag) (C : Addr) (f : Str) (get : Ks345.Four → Nat) (put : Ks345.Four → Nat → Ks345.Four) : Prop where
  no : NoAttr K C f
  look : ∀ v, (mixF v).lookup f = some (.int (get v : Nat))
  set : ∀ v (z : Nat), putF f (.int z) (mixF v) = mixF (put v z)
theorem slot_a (T : Txt K mg A) : Slot4 K A.a_Mix "a" (·.a) (fun v z => { v with a := z }) := ⟨T.t_Mix_no_a, fun _ => rfl, fun _ _ => rfl⟩
theorem slot_b (T : Txt K mg A) : Slot4 K A.a_Mix "b" (·.b) (fun v z => { v with b := z }) := ⟨T.t_Mix_no_b, fun _ => rfl, fun _ _ => rfl⟩
theorem slot_c (T : Txt K mg A) : Slot4 K A.a_Mix "c" (·.c) (fun v z => { v with c := z }) := ⟨T.t_Mix_no_c, fun _ => rfl, fun _ _ => rfl⟩
theorem slot_d (T : Txt K mg A) : Slot4 K A.a_Mix "d" (·.d) (fun v z => { v with d := z }) := ⟨T.t_Mix_no_d, fun _ => rfl, fun _ _ => rfl⟩
variable {C : Addr} {f g : Str} {gf gg : Ks345.Four → Nat} {pf pg : Ks345.Four → Nat → Ks345.Four} {D : Ends} {σ : L2.St} {H : Hp} {x dx : Addr} {v : Ks345.Four}
theorem addZ (a b : Nat) : Builtin.bitAnd ((a : Int) + (b : Int)) 18446744073709551615 = ((Ks345.add a b : Nat) : Int) := by
  rw [← Int.natCast_add, andM]
  rfl
/-- self.f = (self.f + self.g) & LARGEST -/
theorem st_add (c : Cls K C) (F : Slot4 K C f gf pf) (G : Slot4 K C g gg pg) (hσ : σ[0]? = some (some (.ref x)))
    (next : D.nx σ (upd H x (.ins C dx (mixF (pf v (Ks345.add (gf v) (gg v))))))) :
    sFld K (tVar 0) (tOp (rI0 fun i j => .int (Builtin.bitAnd i j)) (tOp (rI0 fun i j => .int (i + j)) (tFld K (tVar 0) f) (tFld K (tVar 0) g)) (tC (.int 18446744073709551615))) f D σ (upd H x (.ins C dx (mixF v))) := by
  refine ⟨_, hσ, x, C, dx, _, _, rfl, upd_same, c, F.no, F.look v, _, hσ, x, C, dx, _, _, rfl, upd_same, c, G.no, G.look v, _, _, rfl, rfl, _, _, rfl, rfl, _, hσ, x, C, dx, _, rfl, upd_same, c, F.no, (by show 4 < 1000; decide), ?_⟩
  dsimp only
  rw [addZ, F.set, upd_upd]
  exact next
/-- self.f = turned(self.f, n) ^ self.g -/
theorem st_tx {n : Nat} (hn : n ≤ 64) (c : Cls K C) (F : Slot4 K C f gf pf) (G : Slot4 K C g gg pg) (hσ : σ[0]? = some (some (.ref x))) (hb : gf v < 2 ^ 64)
    (next : D.nx σ (upd H x (.ins C dx (mixF (pf v (Ks345.turn n (gf v) ^^^ gg v)))))) :
    sFld K (tVar 0) (tOp (rI0 fun i j => .int (Builtin.bitXor i j)) (tc sp_turned (tCons (tFld K (tVar 0) f) (tCons (tC (.int n)) tNil))) (tFld K (tVar 0) g)) f D σ (upd H x (.ins C dx (mixF v))) := by
  refine ⟨_, hσ, x, C, dx, _, _, rfl, upd_same, c, F.no, F.look v, gf v, n, rfl, hb, hn, _, hσ, x, C, dx, _, _, rfl, upd_same, c, G.no, G.look v, _, _, rfl, rfl, _, hσ, x, C, dx, _, rfl, upd_same, c, F.no, (by show 4 < 1000; decide), ?_⟩
  dsimp only
  rw [xorN, F.set, upd_upd]
  exact next
/-- self.f = turned(self.f, n) -/
theorem st_t {n : Nat} (hn : n ≤ 64) (c : Cls K C) (F : Slot4 K C f gf pf) (hσ : σ[0]? = some (some (.ref x))) (hb : gf v < 2 ^ 64)
    (next : D.nx σ (upd H x (.ins C dx (mixF (pf v (Ks345.turn n (gf v))))))) :
    sFld K (tVar 0) (tc sp_turned (tCons (tFld K (tVar 0) f) (tCons (tC (.int n)) tNil))) f D σ (upd H x (.ins C dx (mixF v))) := by
  refine ⟨_, hσ, x, C, dx, _, _, rfl, upd_same, c, F.no, F.look v, gf v, n, rfl, hb, hn, _, hσ, x, C, dx, _, rfl, upd_same, c, F.no, (by show 4 < 1000; decide), ?_⟩
  rw [F.set, upd_upd]
  exact next
def sp_stir (C : Addr) : Sp := fun vs H Q _ => ∃ (x dx : Addr) (v : Ks345.Four) (n : Nat), vs = [.ref x, .int n] ∧ H x = some (.ins C dx (mixF v)) ∧ B4 v ∧ n ≤ 1000 ∧ Q .non (upd H x (.ins C dx (mixF (Ks345.rounds n v))))
theorem ok_stir (T : Txt K mg A) : Ok P w K mg base 2 A.a_Mix_stir ["self", "times"] (sp_stir A.a_Mix) := by
  refine T.t_Mix_stir.ok sc_Mix_stir (fun _ _ _ _ _ _ us hl => match us, hl with | [_, _], _ => rfl) (fun vs H Q E h => ?_) (fun cdv Ar outer s H vs Q E hr h => ?_)
  · obtain ⟨x, dx, v, n, rfl, _⟩ := h
    rfl
  · obtain ⟨x, dx, v, n, rfl, hx, hb, hn, k⟩ := h
    refine ⟨_, pss_one (ps_for PassesOwn.never rfl (pi_range1 rfl T.b_range (pa_cons (pv 1) pa_nil)) (pg_name (i := 2) sc_Mix_stir.nd rfl (Or.inl rfl))
      (pss_cons (ps_fld (pv 0) (pe_op op_and (pe_op op_add (pe_fld (pv 0) rfl) (pe_fld (pv 0) rfl)) (pe_co T.t_LARGEST rfl)) rfl)
      (pss_cons (ps_fld (pv 0) (pe_op op_xor (pe_c (ok_turned T) hr rfl T.t_turned.mg (pa_cons (pe_fld (pv 0) rfl) (pa_cons pe_int pa_nil))) (pe_fld (pv 0) rfl)) rfl)
      (pss_cons (ps_fld (pv 0) (pe_c (ok_turned T) hr rfl T.t_turned.mg (pa_cons (pe_fld (pv 0) rfl) (pa_cons pe_int pa_nil))) rfl)
      (pss_cons (ps_fld (pv 0) (pe_op op_and (pe_op op_add (pe_fld (pv 0) rfl) (pe_fld (pv 0) rfl)) (pe_co T.t_LARGEST rfl)) rfl)
      (pss_cons (ps_fld (pv 0) (pe_op op_xor (pe_c (ok_turned T) hr rfl T.t_turned.mg (pa_cons (pe_fld (pv 0) rfl) (pa_cons pe_int pa_nil))) (pe_fld (pv 0) rfl)) rfl)
      (pss_cons (ps_fld (pv 0) (pe_op op_and (pe_op op_add (pe_fld (pv 0) rfl) (pe_fld (pv 0) rfl)) (pe_co T.t_LARGEST rfl)) rfl)
      (pss_cons (ps_fld (pv 0) (pe_op op_xor (pe_c (ok_turned T) hr rfl T.t_turned.mg (pa_cons (pe_fld (pv 0) rfl) (pa_cons pe_int pa_nil))) (pe_fld (pv 0) rfl)) rfl)
      (pss_cons (ps_fld (pv 0) (pe_op op_and (pe_op op_add (pe_fld (pv 0) rfl) (pe_fld (pv 0) rfl)) (pe_co T.t_LARGEST rfl)) rfl)
      (pss_cons (ps_fld (pv 0) (pe_op op_xor (pe_c (ok_turned T) hr rfl T.t_turned.mg (pa_cons (pe_fld (pv 0) rfl) (pa_cons pe_int pa_nil))) (pe_fld (pv 0) rfl)) rfl)
      (pss_one (ps_fld (pv 0) (pe_c (ok_turned T) hr rfl T.t_turned.mg (pa_cons (pe_fld (pv 0) rfl) (pa_cons pe_int pa_nil))) rfl)))))))))))), ?_⟩
    refine ⟨_, rfl, (n : Int), rfl, by omega, by omega, for_range (lo := 0) (n := (n : Int).toNat) (fun i σ H' => ∃ u : Option V, σ = [some (.ref x), some (.int n), u] ∧ H' = upd H x (.ins A.a_Mix dx (mixF (Ks345.rounds i v))))
      ⟨none, rfl, by rw [rounds_zero, upd_id hx]⟩ ?_ ?_⟩
    · rintro i σ H' hi ⟨u, rfl, rfl⟩
      have cl := T.t_Mix.cl
      have sa := slot_a T
      have sb := slot_b T
      have sc := slot_c T
      have sd := slot_d T
      have b := rounds_b4 i hb
      rw [rounds_succ]
      generalize Ks345.rounds i v = v at b
      have t : ∀ {p x : Nat}, p ≤ 64 → x < 2 ^ 64 → Ks345.turn p x < 2 ^ 64 := fun hp hx => (turn_lt hp hx).2
      refine st_add cl sa sb rfl ?_
      refine st_tx (n := 13) (by decide) cl sb sa rfl b.b ?_
      refine st_t (n := 32) (by decide) cl sa rfl (add_lt _ _) ?_
      refine st_add cl sc sd rfl ?_
      refine st_tx (n := 16) (by decide) cl sd sc rfl b.d ?_
      refine st_add cl sa sd rfl ?_
      refine st_tx (n := 21) (by decide) cl sd sa rfl (xor_lt (t (by decide) b.d) (add_lt _ _)) ?_
      refine st_add cl sc sb rfl ?_
      refine st_tx (n := 17) (by decide) cl sb sc rfl (xor_lt (t (by decide) b.b) (add_lt _ _)) ?_
      refine st_t (n := 32) (by decide) cl sc rfl (add_lt _ _) ?_
      exact ⟨_, rfl, rfl⟩
    · rintro σ H' ⟨u, rfl, rfl⟩
      exact k
def sp_take_in (C : Addr) : Sp := fun vs H Q _ => ∃ (x dx : Addr) (v : Ks345.Four) (m : Nat), vs = [.ref x, .int m] ∧ H x = some (.ins C dx (mixF v)) ∧ B4 v ∧ m < 2 ^ 64 ∧ Q .non (upd H x (.ins C dx (mixF (Ks345.word v m))))
theorem ok_take_in (T : Txt K mg A) : Ok P w K mg base 3 A.a_Mix_take_in ["self", "word"] (sp_take_in A.a_Mix) := by
  refine T.t_Mix_take_in.ok sc_Mix_take_in (fun _ _ _ _ _ _ us hl => match us, hl with | [_, _], _ => rfl) (fun vs H Q E h => ?_) (fun cdv Ar outer s H vs Q E hr h => ?_)
  · obtain ⟨x, dx, v, n, rfl, _⟩ := h
    rfl
  · obtain ⟨x, dx, v, m, rfl, hx, hb, hm, k⟩ := h
    refine ⟨_, pss_cons (ps_fld (pv 0) (pe_op op_xor (pe_fld (pv 0) rfl) (pv 1)) rfl)
      (pss_cons (ps_expr (pe_m (pv 0) T.t_Mix.cl T.t_Mix_stir.me (ok_stir T) hr (pa_cons pe_int pa_nil)))
      (pss_one (ps_fld (pv 0) (pe_op op_xor (pe_fld (pv 0) rfl) (pv 1)) rfl))), ?_⟩
    have cl := T.t_Mix.cl
    have sa := slot_a T
    have sd := slot_d T
    refine ⟨_, rfl, x, _, dx, _, _, rfl, hx, cl, sd.no, sd.look v, _, rfl, _, _, rfl, rfl, _, rfl, x, _, dx, _, rfl, hx, cl, sd.no, (by show 4 < 1000; decide), ?_⟩
    dsimp only
    rw [xorN, sd.set]
    refine ⟨_, rfl, x, dx, _, rfl, upd_same, rfl, x, dx, _, 2, rfl, upd_same, ⟨hb.a, hb.b, hb.c, xor_lt hb.d hm⟩, (by decide), ?_⟩
    rw [upd_upd]
    refine ⟨_, rfl, x, _, dx, _, _, rfl, upd_same, cl, sa.no, sa.look _, _, rfl, _, _, rfl, rfl, _, rfl, x, _, dx, _, rfl, upd_same, cl, sa.no, (by show 4 < 1000; decide), ?_⟩
    dsimp only
    rw [xorN, sa.set, upd_upd]
    exact k
def sp_finish (C : Addr) : Sp := fun vs H Q _ => ∃ (x dx : Addr) (v : Ks345.Four), vs = [.ref x] ∧ H x = some (.ins C dx (mixF v)) ∧ B4 v ∧ ∀ H', Keep x H H' → Q (.int (fin v : Nat)) H'
theorem ok_finish (T : Txt K mg A) : Ok P w K mg base 3 A.a_Mix_finish ["self"] (sp_finish A.a_Mix) := by
  refine T.t_Mix_finish.ok sc_Mix_finish (fun _ _ _ _ _ _ us hl => match us, hl with | [_], _ => rfl) (fun vs H Q E h => ?_) (fun cdv Ar outer s H vs Q E hr h => ?_)
  · obtain ⟨x, dx, v, rfl, _⟩ := h
    rfl
  · obtain ⟨x, dx, v, rfl, hx, hb, k⟩ := h
    refine ⟨_, pss_cons (ps_fld (pv 0) (pe_op op_xor (pe_fld (pv 0) rfl) pe_int) rfl)
      (pss_cons (ps_expr (pe_m (pv 0) T.t_Mix.cl T.t_Mix_stir.me (ok_stir T) hr (pa_cons pe_int pa_nil)))
      (pss_one (ps_ret (pe_op op_xor (pe_op op_xor (pe_op op_xor (pe_fld (pv 0) rfl) (pe_fld (pv 0) rfl)) (pe_fld (pv 0) rfl)) (pe_fld (pv 0) rfl))))), ?_⟩
    have cl := T.t_Mix.cl
    have sa := slot_a T
    have sb := slot_b T
    have sc := slot_c T
    have sd := slot_d T
    refine ⟨_, rfl, x, _, dx, _, _, rfl, hx, cl, sc.no, sc.look v, _, _, rfl, rfl, _, rfl, x, _, dx, _, rfl, hx, cl, sc.no, (by show 4 < 1000; decide), ?_⟩
    have e : Builtin.bitXor (v.c : Int) 255 = ((v.c ^^^ 255 : Nat) : Int) := xorN v.c 255
    dsimp only
    rw [e, sc.set]
    refine ⟨_, rfl, x, dx, _, rfl, upd_same, rfl, x, dx, _, 4, rfl, upd_same, ⟨hb.a, hb.b, xor_lt hb.c (by decide), hb.d⟩, (by decide), ?_⟩
    rw [upd_upd]
    refine ⟨_, rfl, x, _, dx, _, _, rfl, upd_same, cl, sa.no, sa.look _, _, rfl, x, _, dx, _, _, rfl, upd_same, cl, sb.no, sb.look _, _, _, rfl, rfl, _, rfl, x, _, dx, _, _, rfl, upd_same, cl, sc.no, sc.look _, _, _, rfl, rfl, _, rfl, x, _, dx, _, _, rfl, upd_same, cl, sd.no, sd.look _, _, _, rfl, rfl, ?_⟩
    dsimp only
    rw [xorN, xorN, xorN]
    exact k _ fun b o e hb => by rw [upd_ne hb]; exact e
end
end Dc

set_option Elab.async false
set_option linter.all false
set_option maxRecDepth 100000
set_option maxHeartbeats 2000000
/-! words_of, tag_of -/
namespace Dc
open PySem PySem.Spec PyProof.Rows L2
section
variable {P : Program} {w : World} {K : PySem.W.Frag} {mg : Str → Option Value} {base : Heap} {A : Ad}
def sp_words_of (K : PySem.W.Frag) : Sp := fun vs H Q _ => ∃ (ma : Addr) (m : List Nat), vs = [.ref ma] ∧ SqL K H ma (vn m) ∧ m.length = 8 ∧ ∀ H' p, H p = none → Same H H' → H' p = some (.lst (vn [Ks345.number m, W2])) → Q (.ref p) H'
theorem ok_words_of (T : Txt K mg A) : Ok P w K mg base 2 A.a_words_of ["message"] (sp_words_of K) := by
  refine T.t_words_of.ok sc_words_of (fun _ _ _ _ _ _ us hl => match us, hl with | [_], _ => rfl) (fun vs H Q E h => ?_) (fun cdv Ar outer s H vs Q E hr h => ?_)
  · obtain ⟨ma, m, rfl, _⟩ := h
    rfl
  · obtain ⟨ma, m, rfl, hS, hl, k⟩ := h
    refine ⟨_, pss_cons (ps_set (i := 1) sc_words_of.nd rfl (Or.inl rfl) (pe_op op_mul (pe_op op_fdiv (pe_callB call_len_seq (by rfl) T.b_len PySem.boot_len (pa_cons (pv 0) pa_nil)) pe_int) pe_int))
      (pss_cons (ps_setLc (i := 2) (own := [("at", 3)]) rfl sc_words_of.nd rfl rfl (sw_true rfl rfl rfl (by decide +kernel)) (pi_range3 rfl T.b_range (pa_cons pe_int (pa_cons (pv 1) (pa_cons pe_int pa_nil)))) (blkOk_by (N := ["message", "whole", "words", "at", "left", "padding"]) (sc := defScope s_words_of) (by decide +kernel))
        (fun s H C cl fp => pg_name (i := 3) sc_words_of.nd rfl (Or.inl rfl)) (fun s H C cl fp => pts_nil)
        (fun s H C cl fp => pe_c (ok_number_of T) hr rfl T.t_number_of.mg (pa_cons (pe_slice (r := rSlL K) sl_list (pv 0) (po_some (pv 3)) (po_some (pe_op op_add (pv 3) pe_int))) pa_nil)))
      (pss_cons (ps_set (i := 4) sc_words_of.nd rfl (Or.inl rfl) (pe_slice sl_list (pv 0) (po_some (pv 1)) po_none))
      (pss_cons (ps_set (i := 5) sc_words_of.nd rfl (Or.inl rfl) (pe_op op_rep (pe_lst (pa_cons pe_int pa_nil)) (pe_op op_sub pe_int (pe_callB call_len_seq (by rfl) T.b_len PySem.boot_len (pa_cons (pv 4) pa_nil)))))
      (pss_cons (ps_expr (pe_bm PySem.F.plainAttrs_list PySem.F.slot_list_append PySem.F.type_list_append mt_append (pv 2)
        (pa_cons (pe_c (ok_number_of T) hr rfl T.t_number_of.mg (pa_cons (pe_op op_cat (pe_op op_cat (pv 4) (pv 5)) (pe_lst (pa_cons (pe_op op_mod (pe_callB call_len_seq (by rfl) T.b_len PySem.boot_len (pa_cons (pv 0) pa_nil)) pe_int) pa_nil))) pa_nil)) pa_nil)))
      (pss_one (ps_ret (pv 2))))))), ?_⟩
    have hl2 : (vn m).length = 8 := (vn_len m).trans hl
    -- whole
    refine ⟨_, rfl, ma, vn m, rfl, .inl hS, _, _, rfl, rfl, ⟨by decide, by decide⟩, _, _, rfl, rfl, .inr ⟨by decide, by decide⟩, ?_⟩
    dsimp only
    rw [hl2, show (((8 : Nat) : Int) / 8 * 8) = 8 from rfl]
    -- words
    refine ⟨_, rfl, 0, 8, 8, 1, rfl, ⟨by decide, by decide, by decide, by decide⟩, fun D hD => lc_rangeC (lo := 0) (c := 8) (n := 1) (fun i H' => Same H H' ∧ H' D = some (.lst (vn ([Ks345.number m].take i)))) ⟨same_new hD, upd_same⟩ ?_ ?_⟩
    · rintro i H' hi ⟨s1, h1⟩
      obtain rfl : i = 0 := by omega
      refine ⟨rfl, ?_⟩
      unfold tYes
      dsimp only
      rw [if_pos rfl]
      refine ⟨_, rfl, _, rfl, _, rfl, _, rfl, _, _, rfl, rfl, _, rfl, ma, vn m, rfl, s1.seq hS, fun p hp => ?_⟩
      have c1 : cutV (vn m) (some (0 + ((0 : Nat) : Int) * 8)) (some (0 + ((0 : Nat) : Int) * 8 + 8)) = vn m := by
        have q := cut_mid (xs := vn m) (m := 0) (n := 8) (by decide) (by omega)
        rw [List.drop_zero, List.take_of_length_le (by omega)] at q
        exact q
      have s2 := s1.trans (same_new (o := .lst (cutV (vn m) (some (0 + ((0 : Nat) : Int) * 8)) (some (0 + ((0 : Nat) : Int) * 8 + 8)))) hp)
      refine ⟨p, m, rfl, SqL.of (upd_same.trans (by rw [c1])), _, (same_new hp) _ _ h1, (by show 0 < sizeLine; decide), ?_, upd_same⟩
      intro b o e
      rw [upd_ne (ne_of_none e hD)]
      exact s2 b o e
    · rintro H1 ⟨s1, h1⟩
      -- left
      refine ⟨_, rfl, _, rfl, _, rfl, ma, vn m, rfl, s1.seq hS, fun p2 hp2 => ?_⟩
      have c2 : cutV (vn m) (some 8) none = [] := by
        have q := cut_from (xs := vn m) (n := 8) (by omega)
        rw [List.drop_of_length_le (by omega)] at q
        exact q
      rw [c2]
      have s2 := s1.trans (same_new (o := .lst []) hp2)
      have h2 := (same_new (o := .lst []) hp2) _ _ h1
      -- padding
      refine ⟨(by decide), fun p3 hp3 => ?_⟩
      have s3 := s2.trans (same_new (o := .lst [V.int 0]) hp3)
      have q3 := same_new (o := .lst [V.int 0]) hp3
      refine ⟨_, rfl, p2, [], rfl, .inl (SqL.of (q3 _ _ upd_same)), _, _, rfl, rfl, p3, _, _, rfl, rfl, upd_same, (by decide), (by decide), (by decide), fun p4 hp4 => ?_⟩
      have q4 := same_new (o := .lst (List.replicate ((7 : Int) - (0 : Nat)).toNat [V.int 0]).flatten) hp4
      -- words.append(..)
      refine ⟨_, rfl, .inl ⟨rfl, _, SqL.of (q4 _ _ (q3 _ _ h2))⟩, _, rfl, _, rfl, p2, p4, [], _, rfl, rfl, q4 _ _ (q3 _ _ upd_same), upd_same, (by decide), fun p5 hp5 => ?_⟩
      have q5 := same_new (o := .lst ([] ++ (List.replicate ((7 : Int) - (0 : Nat)).toNat [V.int 0]).flatten)) hp5
      have s5 := ((s3.trans q4).trans q5)
      refine ⟨_, rfl, ma, vn m, rfl, .inl (s5.seq hS), _, _, rfl, rfl, (by show (0 : Int) < 256; decide), (by show 1 ≤ sizeLine; decide), fun p6 hp6 => ?_⟩
      have q6 := same_new (o := .lst [V.int (((vn m).length : Int) % 256)]) hp6
      refine ⟨p5, p6, _, _, rfl, rfl, q6 _ _ upd_same, upd_same, (by show 7 + 1 ≤ sizeLine; decide), fun p7 hp7 => ?_⟩
      have q7 := same_new (o := .lst (([] ++ (List.replicate ((7 : Int) - (0 : Nat)).toNat [V.int 0]).flatten) ++ [V.int (((vn m).length : Int) % 256)])) hp7
      have s7 := (s5.trans q6).trans q7
      have hD7 := q7 _ _ (q6 _ _ (q5 _ _ (q4 _ _ (q3 _ _ h2))))
      refine ⟨p7, [0, 0, 0, 0, 0, 0, 0, 8], rfl, SqL.of (upd_same.trans ?_), D, _, _, rfl, rfl, hD7, (by show 1 < sizeLine; decide), _, rfl, ?_⟩
      · rw [hl2]
        rfl
      · refine k _ D hD (fun b o e => ?_) (upd_same.trans ?_)
        · rw [upd_ne (ne_of_none e hD)]
          exact s7 b o e
        · rfl
def sp_tag_of (K : PySem.W.Frag) : Sp := fun vs H Q _ => ∃ (ka ma : Addr) (key m : List Nat), vs = [.ref ka, .ref ma] ∧ SqL K H ka (vn key) ∧ Byt key ∧ key.length = 16 ∧ SqL K H ma (vn m) ∧ Byt m ∧ m.length = 8 ∧
  ∀ H' p, H p = none → Same H H' → H' p = some (.lst (vn (Ks345.bytes 8 (Ks345.tag key m)))) → Q (.ref p) H'
theorem ok_tag_of (T : Txt K mg A) : Ok P w K mg base 4 A.a_tag_of ["key", "message"] (sp_tag_of K) := by
  refine T.t_tag_of.ok sc_tag_of (fun _ _ _ _ _ _ us hl => match us, hl with | [_, _], _ => rfl) (fun vs H Q E h => ?_) (fun cdv Ar outer s H vs Q E hr h => ?_)
  · obtain ⟨ka, ma, key, m, rfl, _⟩ := h
    rfl
  · obtain ⟨ka, ma, key, m, rfl, hK, bK, lK, hM, bM, lM, k⟩ := h
    refine ⟨_, pss_cons (ps_set (i := 2) sc_tag_of.nd rfl (Or.inl rfl) (pe_k T.t_Mix.mak (ok_Mix_init T) hr rfl T.t_Mix.mg (pa_cons (pv 0) pa_nil)))
      (pss_cons (ps_for PassesOwn.never rfl (pi_list (pe_c (ok_words_of T) (hr.mono (by decide)) rfl T.t_words_of.mg (pa_cons (pv 1) pa_nil))) (pg_name (i := 3) sc_tag_of.nd rfl (Or.inl rfl))
        (pss_one (ps_expr (pe_m (pv 2) T.t_Mix.cl T.t_Mix_take_in.me (ok_take_in T) hr (pa_cons (pv 3) pa_nil)))))
      (pss_one (ps_ret (pe_c (ok_octets_of T) (hr.mono (by decide)) rfl T.t_octets_of.mg (pa_cons (pe_m0 (pv 2) T.t_Mix.cl T.t_Mix_finish.me (ok_finish T) hr) (pa_cons pe_int pa_nil)))))), ?_⟩
    refine ⟨_, rfl, fun x dx nx nd ne => ?_⟩
    have sn : Same H (upd (upd H dx (.own x)) x (.ins A.a_Mix dx [])) := fun b o e => by
      rw [upd_ne (ne_of_none e nx), upd_ne (ne_of_none e nd)]
      exact e
    refine ⟨x, dx, ka, key, rfl, upd_same, sn.seq hK, lK, fun H1 hx1 k1 => ⟨rfl, ?_⟩⟩
    have s1 : Same H H1 := fun b o e => k1 b o (sn b o e) (ne_of_none e nx)
    refine ⟨_, rfl, ma, m, rfl, s1.seq hM, lM, fun H2 p hp s2 h2 => ?_⟩
    have b0 := begun_b4 bK lK
    have hm : Ks345.number m < 2 ^ 64 := by have := number_lt bM; rw [lM] at this; exact this
    have px : p ≠ x := (ne_of_none hx1 hp).symm
    refine ⟨p, rfl, ⟨_, SqL.of h2⟩, for_list (K := K) (a := p) (xs := vn [Ks345.number m, W2]) (fun i σ H' => ∃ (v : Option V) (u : Ks345.Four), σ = [some (.ref ka), some (.ref ma), some (.ref x), v] ∧ Same H H' ∧ H' p = some (.lst (vn [Ks345.number m, W2])) ∧ H' x = some (.ins A.a_Mix dx (mixF u)) ∧ B4 u ∧
        u = (match i with | 0 => Ks345.begun key | 1 => Ks345.word (Ks345.begun key) (Ks345.number m) | _ => Ks345.word (Ks345.word (Ks345.begun key) (Ks345.number m)) W2))
      ⟨none, _, rfl, s1.trans s2, h2, s2 _ _ hx1, b0, rfl⟩ (fun i σ H' _ ⟨_, _, _, _, q, _⟩ => SqL.of q) ?_ ?_⟩
    · rintro i y σ H' hi ⟨v, u, rfl, s3, h3, hx3, bu, eu⟩
      obtain ⟨z, rfl, hz, eq⟩ : ∃ z : Nat, y = .int z ∧ z < 2 ^ 64 ∧ Ks345.word u z = (match i + 1 with | 0 => Ks345.begun key | 1 => Ks345.word (Ks345.begun key) (Ks345.number m) | _ => Ks345.word (Ks345.word (Ks345.begun key) (Ks345.number m)) W2) := by
        match i, hi, eu with
        | 0, hi, eu => exact ⟨Ks345.number m, (Option.some.inj hi).symm, hm, congrArg (fun z => Ks345.word z (Ks345.number m)) eu⟩
        | 1, hi, eu => exact ⟨W2, (Option.some.inj hi).symm, by decide, congrArg (fun z => Ks345.word z W2) eu⟩
        | j + 2, hi, eu => cases hi
      exact ⟨_, rfl, x, dx, _, rfl, hx3, rfl, _, rfl, x, dx, u, z, rfl, hx3, bu, hz, _, _, rfl, fun b o e => by rw [upd_ne (ne_of_none e nx)]; exact s3 b o e, by rw [upd_ne px]; exact h3, upd_same, word_b4 bu hz, eq⟩
    · rintro σ H' ⟨v, u, rfl, s3, h3, hx3, bu, eu⟩
      have eu : u = Ks345.word (Ks345.word (Ks345.begun key) (Ks345.number m)) W2 := eu
      refine ⟨_, rfl, x, dx, _, rfl, hx3, rfl, x, dx, u, rfl, hx3, bu, fun H4 k4 => ?_⟩
      have s4 : Same H H4 := fun b o e => k4 b o (s3 b o e) (ne_of_none e nx)
      refine ⟨fin u, 8, rfl, by decide, fun p5 hp5 => ?_⟩
      have et : fin u = Ks345.tag key m := by rw [eu, tag8 lM]
      refine k _ p5 (s4.free hp5) (s4.trans (same_new hp5)) (upd_same.trans ?_)
      rw [et]
end
end Dc

set_option Elab.async false
set_option linter.all false
set_option maxRecDepth 100000
set_option maxHeartbeats 2000000
/-! cards -/
namespace Dc
open PySem PySem.Spec PyProof.Rows L2
section
variable {P : Program} {w : World} {K : PySem.W.Frag} {mg : Str → Option Value} {base : Heap} {A : Ad}
abbrev cardF (c : Ks345.Card) : List (Str × V) := [("kind", .int c.kind), ("place", .int c.place), ("number", .int c.number), ("last", .int c.last), ("serial", .int c.serial)]
theorem cd_kind (c : Ks345.Card) : (cardF c).lookup ("kind" : Str) = some (V.int c.kind) := rfl
theorem cd_place (c : Ks345.Card) : (cardF c).lookup ("place" : Str) = some (V.int c.place) := rfl
theorem cd_number (c : Ks345.Card) : (cardF c).lookup ("number" : Str) = some (V.int c.number) := rfl
theorem cd_last (c : Ks345.Card) : (cardF c).lookup ("last" : Str) = some (V.int c.last) := rfl
theorem cd_serial (c : Ks345.Card) : (cardF c).lookup ("serial" : Str) = some (V.int c.serial) := rfl
def sp_Card_init (C : Addr) : Sp := fun vs H Q _ => ∃ (x dx : Addr) (c : Ks345.Card), vs = [.ref x, .int c.kind, .int c.place, .int c.number, .int c.last, .int c.serial] ∧ H x = some (.ins C dx []) ∧ Q .non (upd H x (.ins C dx (cardF c)))
theorem ok_Card_init (T : Txt K mg A) : Ok P w K mg base 1 A.a_Card_init ["self", "kind", "place", "number", "last", "serial"] (sp_Card_init A.a_Card) := by
  refine T.t_Card_init.ok sc_Card_init (fun _ _ _ _ _ _ us hl => match us, hl with | [_, _, _, _, _, _], _ => rfl) (fun vs H Q E h => ?_) (fun cdv Ar outer s H vs Q E hr h => ?_)
  · obtain ⟨x, dx, c, rfl, _⟩ := h
    rfl
  · obtain ⟨x, dx, c, rfl, hx, k⟩ := h
    refine ⟨_, pss_cons (ps_fld (pv 0) (pv 1) rfl) (pss_cons (ps_fld (pv 0) (pv 2) rfl) (pss_cons (ps_fld (pv 0) (pv 3) rfl) (pss_cons (ps_fld (pv 0) (pv 4) rfl) (pss_one (ps_fld (pv 0) (pv 5) rfl))))), ?_⟩
    have cl := T.t_Card.cl
    refine ⟨_, rfl, _, rfl, x, _, dx, _, rfl, hx, cl, T.t_Card_no_kind, (by decide), ?_⟩
    refine ⟨_, rfl, _, rfl, x, _, dx, _, rfl, upd_same, cl, T.t_Card_no_place, (by show 1 < 1000; decide), ?_⟩
    refine ⟨_, rfl, _, rfl, x, _, dx, _, rfl, upd_same, cl, T.t_Card_no_number, (by show 2 < 1000; decide), ?_⟩
    refine ⟨_, rfl, _, rfl, x, _, dx, _, rfl, upd_same, cl, T.t_Card_no_last, (by show 3 < 1000; decide), ?_⟩
    refine ⟨_, rfl, _, rfl, x, _, dx, _, rfl, upd_same, cl, T.t_Card_no_serial, (by show 4 < 1000; decide), ?_⟩
    rw [upd_upd, upd_upd, upd_upd, upd_upd]
    exact k
def sp_card_octets (K : PySem.W.Frag) (C : Addr) : Sp := fun vs H Q _ => ∃ (ka ca dx : Addr) (key : List Nat) (c : Ks345.Card), vs = [.ref ka, .ref ca] ∧ SqL K H ka (vn key) ∧ Byt key ∧ key.length = 16 ∧
  H ca = some (.ins C dx (cardF c)) ∧ c.kind < 256 ∧ c.place < 256 ∧ ∀ H' p, H p = none → Same H H' → H' p = some (.lst (vn (Ks345.signed key c))) → Q (.ref p) H'
theorem ok_card_octets (T : Txt K mg A) : Ok P w K mg base 5 A.a_card_octets ["key", "card"] (sp_card_octets K A.a_Card) := by
  refine T.t_card_octets.ok sc_card_octets (fun _ _ _ _ _ _ us hl => match us, hl with | [_, _], _ => rfl) (fun vs H Q E h => ?_) (fun cdv Ar outer s H vs Q E hr h => ?_)
  · obtain ⟨ka, ca, dx, key, c, rfl, _⟩ := h
    rfl
  · obtain ⟨ka, ca, dx, key, c, rfl, hK, bK, lK, hc, b1, b2, k⟩ := h
    have hr1 := hr.mono (show 1 ≤ 4 by decide)
    refine ⟨_, pss_cons (ps_set (i := 2) sc_card_octets.nd rfl (Or.inl rfl) (pe_lst (pa_cons (pe_fld (pv 1) rfl) (pa_cons (pe_fld (pv 1) rfl) pa_nil))))
      (pss_cons (ps_expr (pe_bm PySem.F.plainAttrs_list PySem.F.slot_list_extend PySem.F.type_list_extend mt_extend (pv 2) (pa_cons (pe_c (ok_octets_of T) hr1 rfl T.t_octets_of.mg (pa_cons (pe_fld (pv 1) rfl) (pa_cons pe_int pa_nil))) pa_nil)))
      (pss_cons (ps_expr (pe_bm PySem.F.plainAttrs_list PySem.F.slot_list_extend PySem.F.type_list_extend mt_extend (pv 2) (pa_cons (pe_c (ok_octets_of T) hr1 rfl T.t_octets_of.mg (pa_cons (pe_fld (pv 1) rfl) (pa_cons pe_int pa_nil))) pa_nil)))
      (pss_cons (ps_expr (pe_bm PySem.F.plainAttrs_list PySem.F.slot_list_extend PySem.F.type_list_extend mt_extend (pv 2) (pa_cons (pe_c (ok_octets_of T) hr1 rfl T.t_octets_of.mg (pa_cons (pe_fld (pv 1) rfl) (pa_cons pe_int pa_nil))) pa_nil)))
      (pss_one (ps_ret (pe_op op_cat (pv 2) (pe_c (ok_tag_of T) hr rfl T.t_tag_of.mg (pa_cons (pv 0) (pa_cons (pv 2) pa_nil))))))))), ?_⟩
    have cl := T.t_Card.cl
    refine ⟨_, rfl, ca, _, dx, _, _, rfl, hc, cl, T.t_Card_no_kind, cd_kind c, _, rfl, ca, _, dx, _, _, rfl, hc, cl, T.t_Card_no_place, cd_place c, (by show 2 ≤ sizeLine; decide), fun l hl => ?_⟩
    have s1 : Same H (upd H l (.lst (vn [c.kind, c.place]))) := same_new hl
    -- said.extend(octets_of(card.number, 2))
    have ext : ∀ (H0 : Hp) (xs : List Nat) (n : Nat) (Q' : Hp → Prop), xs.length ≤ 16 → (H0 l = some (.lst (vn xs))) → Same H H0 → (∀ H1, Same H H1 → H1 l = some (.lst (vn (xs ++ Ks345.bytes 2 n))) → Q' H1) →
        ∀ p, H0 p = none → rExtend (.ref l) [.ref p] (upd H0 p (.lst (vn (Ks345.bytes 2 n)))) fun _ H1 => Q' H1 := fun H0 xs n Q' hx h0 s0 kk p hp => by
      have nl : l ≠ p := ne_of_none h0 hp
      refine ⟨l, p, vn xs, vn (Ks345.bytes 2 n), rfl, rfl, by rw [upd_ne nl]; exact h0, upd_same, by rw [vn_len, vn_len, bytes_len]; exact Nat.le_of_lt (small1000 (by omega)), ?_⟩
      refine kk _ (fun b o e => ?_) (by rw [vn_app]; exact upd_same)
      rw [upd_ne (ne_of_none e hl)]
      exact (s0.trans (same_new hp)) b o e
    refine ⟨_, rfl, .inl ⟨rfl, _, SqL.of upd_same⟩, _, rfl, ca, _, dx, _, _, rfl, s1 _ _ hc, cl, T.t_Card_no_number, cd_number c, c.number, 2, rfl, by decide, ext _ [c.kind, c.place] c.number _ (by show 2 ≤ 16; decide) upd_same s1 fun H2 s2 h2 => ?_⟩
    refine ⟨_, rfl, .inl ⟨rfl, _, SqL.of h2⟩, _, rfl, ca, _, dx, _, _, rfl, s2 _ _ hc, cl, T.t_Card_no_last, cd_last c, c.last, 2, rfl, by decide, ext _ ([c.kind, c.place] ++ Ks345.bytes 2 c.number) c.last _ (by simp [bytes_len]) h2 s2 fun H3 s3 h3 => ?_⟩
    refine ⟨_, rfl, .inl ⟨rfl, _, SqL.of h3⟩, _, rfl, ca, _, dx, _, _, rfl, s3 _ _ hc, cl, T.t_Card_no_serial, cd_serial c, c.serial, 2, rfl, by decide, ext _ ([c.kind, c.place] ++ Ks345.bytes 2 c.number ++ Ks345.bytes 2 c.last) c.serial _ (by simp [bytes_len]) h3 s3 fun H4 s4 h4 => ?_⟩
    have h4 : H4 l = some (.lst (vn (Ks345.plain c))) := h4
    refine ⟨_, rfl, _, rfl, _, rfl, ka, l, key, Ks345.plain c, rfl, s4.seq hK, bK, lK, SqL.of h4, plain_byt b1 b2, plain_len c, fun H5 p hp s5 h5 => ?_⟩
    refine ⟨l, p, _, _, rfl, rfl, s5 _ _ h4, h5, by rw [vn_len, vn_len, plain_len, bytes_len]; decide, fun q hq => ?_⟩
    refine k _ q ((s4.trans s5).free hq) ((s4.trans s5).trans (same_new hq)) (upd_same.trans ?_)
    rw [← vn_app]
    rfl
/-! ### is_place_of_kind -/
theorem dV (a b : Int) : decide (V.int a = V.int b) = decide (a = b) := decide_eq_decide.mpr ⟨fun e => V.int.inj e, fun e => congrArg V.int e⟩
def sp_is_place : Sp := fun vs H Q _ => ∃ k p : Nat, vs = [.int k, .int p] ∧ Q (.bl (placeOk k p)) H
theorem ok_is_place (T : Txt K mg A) : Ok P w K mg base 1 A.a_is_place_of_kind ["kind", "place"] sp_is_place := by
  refine T.t_is_place_of_kind.ok sc_is_place_of_kind (fun _ _ _ _ _ _ us hl => match us, hl with | [_, _], _ => rfl) (fun vs H Q E h => ?_) (fun cdv Ar outer s H vs Q E hr h => ?_)
  · obtain ⟨k, p, rfl, _⟩ := h
    rfl
  · obtain ⟨kd, p, rfl, k⟩ := h
    refine ⟨_, pss_cons (ps_if (PW.pt (pw_or (pt_cmpR op_eq (pv 0) (pe_co T.t_GUEST rfl) (nomark _)) (pw_or1 (pt_cmpR op_eq (pv 0) (pe_co T.t_SHUTTING rfl) (nomark _))))) (pss_one (ps_ret (pe_cmpR op_lt (pv 1) (pe_co T.t_MOST_ROOMS rfl) (nomark _)))) pss_nil)
      (pss_cons (ps_if (pt_cmpR op_eq (pv 0) (pe_co T.t_STAFF rfl) (nomark _)) (pss_one (ps_ret (pe_chain op_le op_le pe_int (pv 1) (pe_co T.t_ALL_ZONES rfl)))) pss_nil)
      (pss_one (ps_ret (pe_and (pe_cmpR op_eq (pv 0) (pe_co T.t_EMERGENCY rfl) (nomark _)) (pe_one (pe_cmpR op_eq (pv 1) (pe_co T.t_EVERYWHERE rfl) (nomark _))))))), ?_⟩
    unfold placeOk at k
    refine ⟨_, rfl, rfl, _, rfl, ?_⟩
    rw [dV]
    have fin1 : (kd = 1 ∨ kd = 3) → Q (.bl (decide ((p : Int) < 64))) H := fun hk => by
      rw [if_pos hk] at k
      have e : decide ((p : Int) < 64) = decide (p < 64) := decide_eq_decide.mpr (by omega)
      rw [e]
      exact k
    refine ite2 (fun h1 => iteT ⟨_, rfl, _, _, rfl, rfl, fin1 (.inl ?_)⟩) fun h1 => ?_
    · have := of_decide_eq_true h1; omega
    refine ⟨_, rfl, rfl, _, rfl, ?_⟩
    rw [dV]
    refine ite2 (fun h2 => ⟨_, rfl, _, _, rfl, rfl, fin1 (.inr ?_)⟩) fun h2 => ?_
    · have := of_decide_eq_true h2; omega
    have h1' : ¬ ((kd : Int) = 1) := fun e => h1 (decide_eq_true e)
    have h2' : ¬ ((kd : Int) = 3) := fun e => h2 (decide_eq_true e)
    rw [if_neg (by omega)] at k
    refine ⟨_, rfl, rfl, _, rfl, ?_⟩
    rw [dV]
    refine ite2 (fun h3 => ?_) fun h3 => ?_
    · have h3' := of_decide_eq_true h3
      rw [if_pos (by omega)] at k
      refine ⟨_, rfl, _, _, rfl, rfl, _, rfl, ?_⟩
      have e1 : decide ((1 : Int) ≤ p) = decide (1 ≤ p) := decide_eq_decide.mpr (by omega)
      have e2 : decide ((p : Int) ≤ 255) = decide (p ≤ 255) := decide_eq_decide.mpr (by omega)
      rw [e1]
      by_cases hp : 1 ≤ p
      · rw [decide_eq_true hp] at k ⊢
        rw [Bool.true_and] at k
        exact iteT ⟨_, _, rfl, rfl, by rw [← e2] at k; exact k⟩
      · rw [decide_eq_false hp] at k ⊢
        rw [Bool.false_and] at k
        exact iteF k
    · have h3' : ¬ ((kd : Int) = 2) := fun e => h3 (decide_eq_true e)
      rw [if_neg (by omega)] at k
      refine ⟨_, rfl, rfl, _, rfl, ?_⟩
      have e1 : decide ((kd : Int) = 4) = decide (kd = 4) := decide_eq_decide.mpr (by omega)
      have e2 : decide ((p : Int) = 255) = decide (p = 255) := decide_eq_decide.mpr (by omega)
      rw [dV, e1]
      by_cases hp : kd = 4
      · rw [decide_eq_true hp] at k ⊢
        rw [Bool.true_and] at k
        exact iteT ⟨_, rfl, rfl, by rw [dV, e2]; exact k⟩
      · rw [decide_eq_false hp] at k ⊢
        rw [Bool.false_and] at k
        exact iteF k
end
end Dc

set_option Elab.async false
set_option linter.all false
set_option maxRecDepth 100000
set_option maxHeartbeats 2000000
/-! read_card -/
namespace Dc
open PySem PySem.Spec PyProof.Rows L2
def pd (l : List Nat) : PyData := .list ((l.map fun (n : Nat) => (n : Int)).map PyData.int)
theorem dp_vn {K : PySem.W.Frag} {H : Hp} : ∀ l : List Nat, DpAll K H (vn l) ((l.map fun (n : Nat) => (n : Int)).map PyData.int)
  | [] => .nil
  | n :: l => .cons (.int n) (dp_vn l)
theorem eqvAll_vn : ∀ a b : List Nat, PyData.eqvAll ((a.map fun (n : Nat) => (n : Int)).map PyData.int) ((b.map fun (n : Nat) => (n : Int)).map PyData.int) = decide (a = b)
  | [], [] => by simp [PyData.eqvAll]
  | [], _ :: _ => by simp [PyData.eqvAll]
  | _ :: _, [] => by simp [PyData.eqvAll]
  | x :: a, y :: b => by
    simp only [List.map_cons, PyData.eqvAll, PyData.eqv, eqvAll_vn a b]
    by_cases h : x = y
    · subst h; simp
    · have h' : ¬ ((x : Int) = (y : Int)) := by omega
      simp [h, h']
theorem eqv_pd (a b : List Nat) : PyData.eqv (pd a) (pd b) = decide (a = b) := by
  unfold pd
  simp only [PyData.eqv]
  exact eqvAll_vn a b
theorem pd_of {K : PySem.W.Frag} {H : Hp} {a : Addr} {l : List Nat} (h : SqL K H a (vn l)) : Dp K H (.ref a) (pd l) := .lst h (dp_vn l)
theorem shaped_pd (l : List Nat) : SeqAt.shaped (pd l) = true := PySem.W.shaped_ints _
section
variable {P : Program} {w : World} {K : PySem.W.Frag} {mg : Str → Option Value} {base : Heap} {A : Ad}
theorem vn_at {l : List Nat} {i : Nat} (h : i < l.length) : atI (vn l) (i : Int) = some (.int (l.getD i 0 : Nat)) := by
  refine atI_nat (get_vn ?_)
  rw [List.getD_eq_getElem?_getD, List.getElem?_eq_getElem h]
  rfl
def sp_read_card (K : PySem.W.Frag) (C : Addr) : Sp := fun vs H Q _ => ∃ (ka oa : Addr) (key b : List Nat), vs = [.ref ka, .ref oa] ∧ SqL K H ka (vn key) ∧ Byt key ∧ key.length = 16 ∧ SqL K H oa (vn b) ∧ Byt b ∧
  (Ks345.look key b = none → ∀ H', Same H H' → Q .non H') ∧ (∀ c, Ks345.look key b = some c → ∀ H' x dx, H x = none → Same H H' → H' x = some (.ins C dx (cardF c)) → Q (.ref x) H')
theorem ok_read_card (T : Txt K mg A) : Ok P w K mg base 5 A.a_read_card ["key", "octets"] (sp_read_card K A.a_Card) := by
  refine T.t_read_card.ok sc_read_card (fun _ _ _ _ _ _ us hl => match us, hl with | [_, _], _ => rfl) (fun vs H Q E h => ?_) (fun cdv Ar outer s H vs Q E hr h => ?_)
  · obtain ⟨ka, oa, key, b, rfl, _⟩ := h
    rfl
  · obtain ⟨ka, oa, key, b, rfl, hK, bK, lK, hS, bB, kN, kS⟩ := h
    have hr1 := hr.mono (show 1 ≤ 4 by decide)
    have hr2 := hr.mono (show 1 + 1 ≤ 4 by decide)
    refine ⟨_, pss_cons (ps_if (pt_cmpR op_ne (pe_callB call_len_seq (by rfl) T.b_len PySem.boot_len (pa_cons (pv 1) pa_nil)) pe_int (nomark _)) (pss_one (ps_ret pe_non)) pss_nil)
      (pss_cons (ps_set (i := 2) sc_read_card.nd rfl (Or.inl rfl) (pe_slice sl_list (pv 1) po_none (po_some pe_int)))
      (pss_cons (ps_if (PW.pt (pw_or (pt_cmpR (op_neD hr.units) (pe_slice sl_list (pv 1) (po_some pe_int) po_none) (pe_c (ok_tag_of T) hr rfl T.t_tag_of.mg (pa_cons (pv 0) (pa_cons (pv 2) pa_nil))) (nomark _))
          (pw_or1 (pt_not (pt_val (pe_c (ok_is_place T) hr1 rfl T.t_is_place_of_kind.mg (pa_cons (pe_ix ix_list (pv 2) pe_int (fun _ _ => rfl)) (pa_cons (pe_ix ix_list (pv 2) pe_int (fun _ _ => rfl)) pa_nil))))))))
        (pss_one (ps_ret pe_non)) pss_nil)
      (pss_one (ps_ret (pe_k T.t_Card.mak (ok_Card_init T) hr2 rfl T.t_Card.mg (pa_cons (pe_ix ix_list (pv 2) pe_int (fun _ _ => rfl)) (pa_cons (pe_ix ix_list (pv 2) pe_int (fun _ _ => rfl))
        (pa_cons (pe_c (ok_number_of T) hr1 rfl T.t_number_of.mg (pa_cons (pe_slice sl_list (pv 2) (po_some pe_int) (po_some pe_int)) pa_nil))
        (pa_cons (pe_c (ok_number_of T) hr1 rfl T.t_number_of.mg (pa_cons (pe_slice sl_list (pv 2) (po_some pe_int) (po_some pe_int)) pa_nil))
        (pa_cons (pe_c (ok_number_of T) hr1 rfl T.t_number_of.mg (pa_cons (pe_slice sl_list (pv 2) (po_some pe_int) (po_some pe_int)) pa_nil)) pa_nil)))))))))), ?_⟩
    refine ⟨_, rfl, oa, vn b, rfl, .inl hS, rfl, _, rfl, ?_⟩
    rw [dV, vn_len]
    by_cases hl : b.length = 16
    · rw [decide_eq_true (show ((b.length : Nat) : Int) = 16 by omega)]
      refine iteF ?_
      have hl2 : (vn b).length = 16 := (vn_len b).trans hl
      have l8 : (b.take 8).length = 8 := by rw [List.length_take, hl]; rfl
      have c1 : cutV (vn b) none (some 8) = vn (b.take 8) := (cut_to (n := 8) (by omega)).trans (vn_take _ _)
      have c2 : cutV (vn b) (some 8) none = vn (b.drop 8) := (cut_from (n := 8) (by omega)).trans (vn_drop _ _)
      refine ⟨_, rfl, _, rfl, oa, vn b, rfl, hS, fun p1 h1 => ?_⟩
      rw [c1]
      have s1 : Same H (upd H p1 (.lst (vn (b.take 8)))) := same_new h1
      have u1 : upd H p1 (.lst (vn (b.take 8))) p1 = some (.lst (vn (b.take 8))) := upd_same
      refine ⟨_, rfl, _, rfl, oa, vn b, rfl, s1.seq hS, fun p2 h2 => ?_⟩
      rw [c2]
      have q2 : Same (upd H p1 (.lst (vn (b.take 8)))) (upd (upd H p1 (.lst (vn (b.take 8)))) p2 (.lst (vn (b.drop 8)))) := same_new h2
      have s2 := s1.trans q2
      have u2 := q2 _ _ u1
      refine ⟨_, rfl, _, rfl, ka, p1, key, b.take 8, rfl, s2.seq hK, bK, lK, SqL.of u2, bB.take 8, l8, fun H3 p3 h3 s3 e3 => ?_⟩
      have s03 := s2.trans s3
      have u3 := s3 _ _ u2
      refine ⟨pd (b.drop 8), pd (Ks345.bytes 8 (Ks345.tag key (b.take 8))), pd_of (SqL.of (s3 _ _ upd_same)), pd_of (SqL.of e3), shaped_pd _, shaped_pd _, _, rfl, ?_⟩
      rw [eqv_pd]
      have lk := look_eq bK lK bB hl
      by_cases ht : b.drop 8 = Ks345.bytes 8 (Ks345.tag key (b.take 8))
      · rw [decide_eq_true ht]
        refine iteF ?_
        have g0 : atI (vn (b.take 8)) 0 = some (.int (b.getD 0 0 : Nat)) := by
          have q := vn_at (l := b.take 8) (i := 0) (by omega)
          rw [List.getD_eq_getElem?_getD, List.getElem?_take_of_lt (by decide), ← List.getD_eq_getElem?_getD] at q
          exact q
        have g1 : atI (vn (b.take 8)) 1 = some (.int (b.getD 1 0 : Nat)) := by
          have q := vn_at (l := b.take 8) (i := 1) (by omega)
          rw [List.getD_eq_getElem?_getD, List.getElem?_take_of_lt (by decide), ← List.getD_eq_getElem?_getD] at q
          exact q
        refine ⟨_, rfl, p1, _, _, _, rfl, rfl, SqL.of u3, g0, _, rfl, p1, _, _, _, rfl, rfl, SqL.of u3, g1, _, _, rfl, _, rfl, ?_⟩
        by_cases hp : placeOk (b.getD 0 0) (b.getD 1 0) = true
        · rw [if_pos ⟨ht, hp⟩] at lk
          rw [hp]
          refine iteF ?_
          have cm : ∀ i : Nat, i + 2 ≤ 8 → cutV (vn (b.take 8)) (some (i : Int)) (some ((i + 2 : Nat) : Int)) = vn ((b.drop i).take 2) := fun i hi => by
            rw [cut_mid (by omega) (by rw [vn_len]; omega), vn_drop, vn_take]
            congr 1
            rw [List.drop_take, List.take_take]
            congr 1
            omega
          refine ⟨_, rfl, p1, _, _, _, rfl, rfl, SqL.of u3, g0, _, rfl, p1, _, _, _, rfl, rfl, SqL.of u3, g1, _, rfl, _, rfl, _, rfl, p1, _, rfl, SqL.of u3, fun p4 h4 => ?_⟩
          have q4 := same_new (o := .lst (cutV (vn (b.take 8)) (some 2) (some 4))) h4
          refine ⟨p4, (b.drop 2).take 2, rfl, SqL.of (upd_same.trans (by rw [← cm 2 (by decide)]; rfl)), _, rfl, _, rfl, _, rfl, p1, _, rfl, SqL.of (q4 _ _ u3), fun p5 h5 => ?_⟩
          have q5 := same_new (o := .lst (cutV (vn (b.take 8)) (some 4) (some 6))) h5
          refine ⟨p5, (b.drop 4).take 2, rfl, SqL.of (upd_same.trans (by rw [← cm 4 (by decide)]; rfl)), _, rfl, _, rfl, _, rfl, p1, _, rfl, SqL.of (q5 _ _ (q4 _ _ u3)), fun p6 h6 => ?_⟩
          have q6 := same_new (o := .lst (cutV (vn (b.take 8)) (some 6) (some 8))) h6
          have s6 := ((s03.trans q4).trans q5).trans q6
          refine ⟨p6, (b.drop 6).take 2, rfl, SqL.of (upd_same.trans (by rw [← cm 6 (by decide)]; rfl)), fun x dx nx nd ne => ?_⟩
          refine ⟨x, dx, Ks345.cardOf b, rfl, upd_same, rfl, ?_⟩
          refine kS _ lk _ x dx (s6.free nx) (fun c o e => ?_) upd_same
          rw [upd_ne (ne_of_none (s6 _ _ e) nx), upd_ne (ne_of_none (s6 _ _ e) nx), upd_ne (ne_of_none (s6 _ _ e) nd)]
          exact s6 _ _ e
        · rw [if_neg (fun q => hp q.2)] at lk
          rw [Bool.not_eq_true] at hp
          rw [hp]
          exact iteT (kN lk _ s03)
      · rw [if_neg (fun q => ht q.1)] at lk
        rw [decide_eq_false ht]
        exact iteT (iteT (kN lk _ s03))
    · rw [decide_eq_false (show ¬ ((b.length : Nat) : Int) = 16 by omega)]
      exact iteT (kN (look_none hl) _ (Same.refl H))
end
end Dc

set_option Elab.async false
set_option linter.all false
set_option maxRecDepth 100000
set_option maxHeartbeats 2000000
/-! how a house lies in the heap -/
namespace Dc
open PySem PySem.Spec PyProof.Rows L2
/-- e.f within a block -/
theorem pe_fldK {X : Cx} {K : PySem.W.Frag} {e : Expr} {f : Str} {pos : Pos} {ta : TE} (hK : X.K = K) (he : PE X e ta) (hb : attributeBase e f X.env (eval e X.env) = eval e X.env) : PE X (.Attribute e f pos) (tFld K ta f) := by
  subst hK
  exact pe_fld he hb
theorem pg_tupK {X : Cx} {K : PySem.W.Frag} {es : List Expr} {k : Nat} {t : TGs} {n : Nat} {pos : Pos} (hK : X.K = K) (hc : X.calm = true) (h : PGs X es t) (hn : (assignEach es X.env).length = n := by rfl) (hst : (assignEach es X.env).findIdx? (·.1) = none := by rfl) : PG X (.Tuple es k pos) (gTup K n t) := by
  subst hK
  exact pg_tup hc h hn hst
/-- whose an object is -/
inductive Col where
  | other | row | ground | imm | house | desk | rooms | doors | room (i : Nat) | door (i : Nat)
def Col.out : Col → Bool
  | .other => true
  | .row => true
  | .ground => true
  | _ => false
def setc (ρ : Addr → Col) (p : Addr) (c : Col) : Addr → Col := fun b => if b = p then c else ρ b
theorem setc_same {ρ : Addr → Col} {p : Addr} {c : Col} : setc ρ p c p = c := if_pos rfl
theorem setc_ne {ρ : Addr → Col} {p b : Addr} {c : Col} (h : b ≠ p) : setc ρ p c b = ρ b := if_neg h
/-- what stays, but for the colours c0 -/
def Mv (H : Hp) (ρ : Addr → Col) (H' : Hp) (ρ' : Addr → Col) (c0 : Col → Prop) : Prop := ∀ b o, H b = some o → ¬ c0 (ρ b) → H' b = some o ∧ ρ' b = ρ b
def NoC : Col → Prop := fun _ => False
theorem Mv.same {H H' : Hp} {ρ : Addr → Col} (S : Same H H') : Mv H ρ H' ρ NoC := fun b o e _ => ⟨S b o e, rfl⟩
theorem Mv.laid {H : Hp} {ρ : Addr → Col} {p : Addr} {o : HO} {c : Col} (hp : H p = none) : Mv H ρ (upd H p o) (setc ρ p c) NoC := fun b u e _ => ⟨by rw [upd_ne (ne_of_none e hp)]; exact e, setc_ne (ne_of_none e hp)⟩
theorem Mv.col {H : Hp} {ρ : Addr → Col} {p : Addr} {c : Col} (hp : H p = none) : Mv H ρ H (setc ρ p c) NoC := fun b u e _ => ⟨e, setc_ne (ne_of_none e hp)⟩
theorem Mv.upd {H : Hp} {ρ : Addr → Col} {a : Addr} {o : HO} : Mv H ρ (upd H a o) ρ (fun c => c = ρ a) := fun b u e n => ⟨by rw [upd_ne (fun z => n (by rw [z]))]; exact e, rfl⟩
theorem Mv.trans {H H1 H2 : Hp} {ρ ρ1 ρ2 : Addr → Col} {c0 : Col → Prop} (a : Mv H ρ H1 ρ1 c0) (b : Mv H1 ρ1 H2 ρ2 c0) : Mv H ρ H2 ρ2 c0 := fun x o e n => by
  obtain ⟨e1, c1⟩ := a x o e n
  obtain ⟨e2, c2⟩ := b x o e1 (by rw [c1]; exact n)
  exact ⟨e2, c2.trans c1⟩
theorem Mv.weak {H H1 : Hp} {ρ ρ1 : Addr → Col} {c0 c1 : Col → Prop} (a : Mv H ρ H1 ρ1 c0) (h : ∀ c, c0 c → c1 c) : Mv H ρ H1 ρ1 c1 := fun x o e n => a x o e fun z => n (h _ z)
/-- what a call leaves as it was -/
structure Fr (ρ : Addr → Col) (H : Hp) (ρ' : Addr → Col) (H' : Hp) : Prop where
  kp : ∀ b o, H b = some o → (ρ b).out = true → H' b = some o
  cl : ∀ b o, H b = some o → ρ' b = ρ b
  al : ∀ b o, H b = some o → ∃ o', H' b = some o'
section
variable {ρ ρ1 ρ2 : Addr → Col} {H H1 H2 : Hp} {p a : Addr} {o u : HO} {c : Col}
theorem Fr.refl : Fr ρ H ρ H := ⟨fun _ _ e _ => e, fun _ _ _ => rfl, fun _ o e => ⟨o, e⟩⟩
theorem Fr.trans (x : Fr ρ H ρ1 H1) (y : Fr ρ1 H1 ρ2 H2) : Fr ρ H ρ2 H2 :=
  ⟨fun b o e c => y.kp b o (x.kp b o e c) (by rw [x.cl b o e]; exact c), fun b o e => by
    obtain ⟨o', e'⟩ := x.al b o e
    rw [y.cl b o' e', x.cl b o e], fun b o e => by
    obtain ⟨o', e'⟩ := x.al b o e
    exact y.al b o' e'⟩
theorem Fr.same (S : Same H H1) : Fr ρ H ρ H1 := ⟨fun b o e _ => S b o e, fun _ _ _ => rfl, fun b o e => ⟨o, S b o e⟩⟩
theorem Fr.mv {c0 : Col → Prop} (m : Mv H ρ H1 ρ1 NoC) : Fr ρ H ρ1 H1 := ⟨fun b o e _ => (m b o e id).1, fun b o e => (m b o e id).2, fun b o e => ⟨o, (m b o e id).1⟩⟩
theorem Fr.laid (hp : H p = none) : Fr ρ H (setc ρ p c) (upd H p o) := Fr.mv (c0 := NoC) (Mv.laid hp)
theorem Fr.wrote (ha : H a = some o) (h : (ρ a).out = false) : Fr ρ H ρ (upd H a u) :=
  ⟨fun b o' e q => by
    rw [upd_ne (fun z => by rw [z, h] at q; cases q)]
    exact e, fun _ _ _ => rfl, fun b o' e => by
    by_cases z : b = a
    · subst z; exact ⟨u, upd_same⟩
    · exact ⟨o', by rw [upd_ne z]; exact e⟩⟩
theorem Fr.free (x : Fr ρ H ρ1 H1) (h : H1 p = none) : H p = none := by
  cases q : H p with
  | none => rfl
  | some o =>
    obtain ⟨o', e⟩ := x.al p o q
    rw [e] at h
    cases h
end
/-! ### the fields -/
def stayV : Option Nat → V
  | none => .non
  | some l => .int (l : Nat)
abbrev roomF (r : Ks347.Room) : List (Str × V) := [("zone", .int (r.zone : Nat)), ("number", .int (r.number : Nat)), ("stay", stayV r.stay)]
abbrev deskF (ka rl : Addr) (d : Ks347.Abs) : List (Str × V) := [("key", .ref ka), ("day", .int (d.day : Nat)), ("staff_round", .int (d.epoch : Nat)), ("serial", .int (d.serial : Nat)), ("rooms", .ref rl)]
abbrev houseF (dk dl cl : Addr) : List (Str × V) := [("desk", .ref dk), ("doors", .ref dl), ("cards", .ref cl)]
abbrev doorF (ka bl : Addr) (d : Ks346.Abs) : List (Str × V) := [("key", .ref ka), ("room", .int (d.room : Nat)), ("zone", .int (d.zone : Nat)), ("day", .int (d.day : Nat)), ("number", .int (d.number : Nat)), ("staff_round", .int (d.epoch : Nat)), ("bolted", .bl d.bolted), ("book", .ref bl)]
abbrev entV (e : Ks346.Entry) : List V := [.int (e.kind : Nat), .int (e.number : Nat), .int (e.serial : Nat), .int (e.day : Nat)]
structure Lay where
  hs : Addr
  hx : Addr
  dk : Addr
  dkx : Addr
  ka : Addr
  rl : Addr
  rs : List Addr
  dl : Addr
  ds : List Addr
  cl : Addr
  cs : List Addr
/-! ### the parts -/
structure RoomsP (A : Ad) (H : Hp) (ρ : Addr → Col) (rl : Addr) (rs : List Addr) (rooms : List Ks347.Room) : Prop where
  lst : H rl = some (.lst (rs.map V.ref))
  col : ρ rl = .rooms
  len : rs.length = rooms.length
  at_ : ∀ (i : Nat) r, rooms[i]? = some r → ∃ a dx, rs[i]? = some a ∧ ρ a = .room i ∧ H a = some (.ins A.a_Room dx (roomF r))
structure BookP (H : Hp) (ρ : Addr → Col) (bl : Addr) (es : List Addr) (bk : List Ks346.Entry) : Prop where
  lst : H bl = some (.lst (es.map V.ref))
  col : ρ bl = .imm
  len : es.length = bk.length
  at_ : ∀ (j : Nat) b, bk[j]? = some b → ∃ e, es[j]? = some e ∧ ρ e = .imm ∧ H e = some (.tup (entV b))
structure DoorP (A : Ad) (H : Hp) (ρ : Addr → Col) (ka x dx bl : Addr) (es : List Addr) (i : Nat) (d : Ks346.Abs) : Prop where
  ins : H x = some (.ins A.a_Door dx (doorF ka bl d))
  col : ρ x = .door i
  book : BookP H ρ bl es d.book
structure DoorsP (A : Ad) (H : Hp) (ρ : Addr → Col) (ka dl : Addr) (ds : List Addr) (doors : List Ks346.Abs) : Prop where
  lst : H dl = some (.lst (ds.map V.ref))
  col : ρ dl = .doors
  len : ds.length = doors.length
  at_ : ∀ (i : Nat) d, doors[i]? = some d → ∃ x dx bl es, ds[i]? = some x ∧ DoorP A H ρ ka x dx bl es i d
structure CardsP (H : Hp) (ρ : Addr → Col) (cl : Addr) (cs : List Addr) (cards : List (List Nat)) : Prop where
  lst : H cl = some (.lst (cs.map V.ref))
  col : ρ cl = .imm
  len : cs.length = cards.length
  at_ : ∀ (j : Nat) b, cards[j]? = some b → ∃ a, cs[j]? = some a ∧ ρ a = .imm ∧ H a = some (.lst (vn b))
structure Rep (A : Ad) (H : Hp) (ρ : Addr → Col) (L : Lay) (s : Ks348.Abs) : Prop where
  good : Good s
  house : H L.hs = some (.ins A.a_House L.hx (houseF L.dk L.dl L.cl))
  houseC : ρ L.hs = .house
  desk : H L.dk = some (.ins A.a_Desk L.dkx (deskF L.ka L.rl s.desk))
  deskC : ρ L.dk = .desk
  key : H L.ka = some (.lst (vn s.desk.key))
  keyC : ρ L.ka = .imm
  rooms : RoomsP A H ρ L.rl L.rs s.desk.rooms
  doors : DoorsP A H ρ L.ka L.dl L.ds s.doors
  cards : CardsP H ρ L.cl L.cs s.cards
section
variable {A : Ad} {H H' : Hp} {ρ ρ' : Addr → Col} {c0 : Col → Prop} {L : Lay} {s : Ks348.Abs}
theorem RoomsP.stay {rl : Addr} {rs : List Addr} {rooms : List Ks347.Room} (x : RoomsP A H ρ rl rs rooms) (m : Mv H ρ H' ρ' c0) (h1 : ¬ c0 .rooms) (h2 : ∀ i, ¬ c0 (.room i)) : RoomsP A H' ρ' rl rs rooms := by
  obtain ⟨e1, c1⟩ := m _ _ x.lst (by rw [x.col]; exact h1)
  refine ⟨e1, c1.trans x.col, x.len, fun i r hr => ?_⟩
  obtain ⟨a, dx, ha, hc, hH⟩ := x.at_ i r hr
  obtain ⟨e2, c2⟩ := m _ _ hH (by rw [hc]; exact h2 i)
  exact ⟨a, dx, ha, c2.trans hc, e2⟩
theorem BookP.stay {bl : Addr} {es : List Addr} {bk : List Ks346.Entry} (x : BookP H ρ bl es bk) (m : Mv H ρ H' ρ' c0) (h1 : ¬ c0 .imm) : BookP H' ρ' bl es bk := by
  obtain ⟨e1, c1⟩ := m _ _ x.lst (by rw [x.col]; exact h1)
  refine ⟨e1, c1.trans x.col, x.len, fun i r hr => ?_⟩
  obtain ⟨a, ha, hc, hH⟩ := x.at_ i r hr
  obtain ⟨e2, c2⟩ := m _ _ hH (by rw [hc]; exact h1)
  exact ⟨a, ha, c2.trans hc, e2⟩
theorem DoorP.stay {ka x dx bl : Addr} {es : List Addr} {i : Nat} {d : Ks346.Abs} (y : DoorP A H ρ ka x dx bl es i d) (m : Mv H ρ H' ρ' c0) (h1 : ¬ c0 .imm) (h2 : ¬ c0 (.door i)) : DoorP A H' ρ' ka x dx bl es i d := by
  obtain ⟨e1, c1⟩ := m _ _ y.ins (by rw [y.col]; exact h2)
  exact ⟨e1, c1.trans y.col, y.book.stay m h1⟩
theorem DoorsP.stay {ka dl : Addr} {ds : List Addr} {doors : List Ks346.Abs} (x : DoorsP A H ρ ka dl ds doors) (m : Mv H ρ H' ρ' c0) (h1 : ¬ c0 .imm) (h2 : ¬ c0 .doors) (h3 : ∀ i, ¬ c0 (.door i)) : DoorsP A H' ρ' ka dl ds doors := by
  obtain ⟨e1, c1⟩ := m _ _ x.lst (by rw [x.col]; exact h2)
  refine ⟨e1, c1.trans x.col, x.len, fun i r hr => ?_⟩
  obtain ⟨a, dx, bl, es, ha, hD⟩ := x.at_ i r hr
  exact ⟨a, dx, bl, es, ha, hD.stay m h1 (h3 i)⟩
theorem CardsP.stay {cl : Addr} {cs : List Addr} {cards : List (List Nat)} (x : CardsP H ρ cl cs cards) (m : Mv H ρ H' ρ' c0) (h1 : ¬ c0 .imm) : CardsP H' ρ' cl cs cards := by
  obtain ⟨e1, c1⟩ := m _ _ x.lst (by rw [x.col]; exact h1)
  refine ⟨e1, c1.trans x.col, x.len, fun i r hr => ?_⟩
  obtain ⟨a, ha, hc, hH⟩ := x.at_ i r hr
  obtain ⟨e2, c2⟩ := m _ _ hH (by rw [hc]; exact h1)
  exact ⟨a, ha, c2.trans hc, e2⟩
/-- all that is the house's stays -/
theorem Rep.stay (R : Rep A H ρ L s) (m : Mv H ρ H' ρ' (fun c => c.out = true)) : Rep A H' ρ' L s := by
  obtain ⟨e1, c1⟩ := m _ _ R.house (by rw [R.houseC]; exact Bool.false_ne_true)
  obtain ⟨e2, c2⟩ := m _ _ R.desk (by rw [R.deskC]; exact Bool.false_ne_true)
  obtain ⟨e3, c3⟩ := m _ _ R.key (by rw [R.keyC]; exact Bool.false_ne_true)
  exact ⟨R.good, e1, c1.trans R.houseC, e2, c2.trans R.deskC, e3, c3.trans R.keyC, R.rooms.stay m Bool.false_ne_true fun _ => Bool.false_ne_true, R.doors.stay m Bool.false_ne_true Bool.false_ne_true fun _ => Bool.false_ne_true, R.cards.stay m Bool.false_ne_true⟩
theorem Rep.mv (R : Rep A H ρ L s) (m : Mv H ρ H' ρ' NoC) : Rep A H' ρ' L s := R.stay (m.weak fun _ h => h.elim)
theorem Rep.same (R : Rep A H ρ L s) (S : Same H H') : Rep A H' ρ L s := R.mv (Mv.same S)
/-! reading -/
theorem at0 {α : Type} {x : α} {l : List α} : atI (x :: l) 0 = some x := atI_nat (j := 0) rfl
theorem at1 {α : Type} {x y : α} {l : List α} : atI (x :: y :: l) 1 = some y := atI_nat (j := 1) rfl
theorem atR {l : List Addr} {i : Nat} {a : Addr} (h : l[i]? = some a) : atI (l.map V.ref) (i : Int) = some (.ref a) := atI_nat (by rw [List.getElem?_map, h]; rfl)
theorem Rep.roomsLen (R : Rep A H ρ L s) : (L.rs.map V.ref).length = s.desk.rooms.length := by rw [List.length_map]; exact R.rooms.len
theorem Rep.doorsLen (R : Rep A H ρ L s) : (L.ds.map V.ref).length = s.doors.length := by rw [List.length_map]; exact R.doors.len
theorem Rep.cardsLen (R : Rep A H ρ L s) : (L.cs.map V.ref).length = s.cards.length := by rw [List.length_map]; exact R.cards.len
/-! writing -/
theorem Rep.putRoom (R : Rep A H ρ L s) {i : Nat} {r r' : Ks347.Room} {a dx dx' : Addr} (hr : s.desk.rooms[i]? = some r) (ha : L.rs[i]? = some a) (hc : ρ a = .room i) (hz : r'.zone < 8) : Rep A (upd H a (.ins A.a_Room dx (roomF r'))) ρ L (putRoom s i r') := by
  have m : Mv H ρ (upd H a (.ins A.a_Room dx (roomF r'))) ρ (fun c => c = .room i) := (Mv.upd (H := H) (ρ := ρ) (a := a)).weak fun c e => e.trans hc
  obtain ⟨e1, c1⟩ := m _ _ R.house (by rw [R.houseC]; intro z; cases z)
  obtain ⟨e2, c2⟩ := m _ _ R.desk (by rw [R.deskC]; intro z; cases z)
  obtain ⟨e3, c3⟩ := m _ _ R.key (by rw [R.keyC]; intro z; cases z)
  obtain ⟨e4, c4⟩ := m _ _ R.rooms.lst (by rw [R.rooms.col]; intro z; cases z)
  refine ⟨good_putRoom R.good hz, e1, R.houseC, e2, R.deskC, e3, R.keyC, ⟨e4, R.rooms.col, ?_, fun j x hx => ?_⟩, R.doors.stay m (fun z => by cases z) (fun z => by cases z) (fun _ z => by cases z), R.cards.stay m (fun z => by cases z)⟩
  · show _ = (s.desk.rooms.set i r').length
    rw [List.length_set]; exact R.rooms.len
  · have hx : (s.desk.rooms.set i r')[j]? = some x := hx
    by_cases hj : i = j
    · subst hj
      rw [List.getElem?_set_self (List.getElem?_eq_some_iff.mp hr).1] at hx
      cases hx
      exact ⟨a, dx, ha, hc, upd_same⟩
    · rw [List.getElem?_set_ne hj] at hx
      obtain ⟨b, dx', hb, hcb, hH⟩ := R.rooms.at_ j x hx
      obtain ⟨e5, _⟩ := m _ _ hH (by rw [hcb]; intro z; cases z; exact hj rfl)
      exact ⟨b, dx', hb, hcb, e5⟩
/-- the desk's own numbers -/
theorem Rep.setDesk (R : Rep A H ρ L s) {d : Ks347.Abs} (hk : d.key = s.desk.key) (hr : d.rooms = s.desk.rooms) : Rep A (upd H L.dk (.ins A.a_Desk L.dkx (deskF L.ka L.rl d))) ρ L { s with desk := d } := by
  have m : Mv H ρ (upd H L.dk (.ins A.a_Desk L.dkx (deskF L.ka L.rl d))) ρ (fun c => c = .desk) := (Mv.upd (H := H) (ρ := ρ) (a := L.dk)).weak fun c e => e.trans R.deskC
  obtain ⟨e1, c1⟩ := m _ _ R.house (by rw [R.houseC]; intro z; cases z)
  obtain ⟨e3, c3⟩ := m _ _ R.key (by rw [R.keyC]; intro z; cases z)
  refine ⟨good_desk R.good hk (by rw [hr]; exact R.good.rm) (by rw [hr]; exact R.good.zn), e1, R.houseC, upd_same, R.deskC, by rw [e3]; show _ = some (HO.lst (vn d.key)); rw [hk], R.keyC, ?_, R.doors.stay m (fun z => by cases z) (fun z => by cases z) (fun _ z => by cases z), R.cards.stay m (fun z => by cases z)⟩
  show RoomsP A _ ρ L.rl L.rs d.rooms
  rw [hr]
  exact R.rooms.stay m (fun z => by cases z) (fun _ z => by cases z)
/-- another list of cards -/
theorem Rep.setCards (R : Rep A H ρ L s) {cl : Addr} {cs : List Addr} {cards : List (List Nat)} (g : Good { s with cards := cards }) (C : CardsP H ρ cl cs cards) : Rep A (upd H L.hs (.ins A.a_House L.hx (houseF L.dk L.dl cl))) ρ { L with cl := cl, cs := cs } { s with cards := cards } := by
  have m : Mv H ρ (upd H L.hs (.ins A.a_House L.hx (houseF L.dk L.dl cl))) ρ (fun c => c = .house) := (Mv.upd (H := H) (ρ := ρ) (a := L.hs)).weak fun c e => e.trans R.houseC
  obtain ⟨e2, c2⟩ := m _ _ R.desk (by rw [R.deskC]; intro z; cases z)
  obtain ⟨e3, c3⟩ := m _ _ R.key (by rw [R.keyC]; intro z; cases z)
  exact ⟨g, upd_same, R.houseC, e2, R.deskC, e3, R.keyC, R.rooms.stay m (fun z => by cases z) (fun _ z => by cases z), R.doors.stay m (fun z => by cases z) (fun z => by cases z) (fun _ z => by cases z), C.stay m (fun z => by cases z)⟩
/-- one room more -/
theorem Rep.addRoom (R : Rep A H ρ L s) {x dx : Addr} {r : Ks347.Room} (g : Good { s with desk := { s.desk with rooms := s.desk.rooms ++ [r] } }) (hx : H x = some (.ins A.a_Room dx (roomF r))) (hc : ρ x = .room s.desk.rooms.length) :
    Rep A (upd H L.rl (.lst (L.rs.map V.ref ++ [.ref x]))) ρ { L with rs := L.rs ++ [x] } { s with desk := { s.desk with rooms := s.desk.rooms ++ [r] } } := by
  have m : Mv H ρ (upd H L.rl (.lst (L.rs.map V.ref ++ [.ref x]))) ρ (fun c => c = .rooms) := (Mv.upd (H := H) (ρ := ρ) (a := L.rl)).weak fun c e => e.trans R.rooms.col
  obtain ⟨e1, c1⟩ := m _ _ R.house (by rw [R.houseC]; intro z; cases z)
  obtain ⟨e2, c2⟩ := m _ _ R.desk (by rw [R.deskC]; intro z; cases z)
  obtain ⟨e3, c3⟩ := m _ _ R.key (by rw [R.keyC]; intro z; cases z)
  obtain ⟨e4, c4⟩ := m _ _ hx (by rw [hc]; intro z; cases z)
  refine ⟨g, e1, R.houseC, e2, R.deskC, e3, R.keyC, ⟨upd_same.trans (by rw [List.map_append]; rfl), R.rooms.col, ?_, fun i q hq => ?_⟩, R.doors.stay m (fun z => by cases z) (fun z => by cases z) (fun _ z => by cases z), R.cards.stay m (fun z => by cases z)⟩
  · show (L.rs ++ [x]).length = (s.desk.rooms ++ [r]).length
    rw [List.length_append, List.length_append, R.rooms.len]; rfl
  · have hq : (s.desk.rooms ++ [r])[i]? = some q := hq
    by_cases hi : i < s.desk.rooms.length
    · rw [List.getElem?_append_left hi] at hq
      obtain ⟨a, dx', ha, hca, hH⟩ := R.rooms.at_ i q hq
      obtain ⟨e5, _⟩ := m _ _ hH (by rw [hca]; intro z; cases z)
      exact ⟨a, dx', by show (L.rs ++ [x])[i]? = some a; rw [List.getElem?_append_left (by rw [R.rooms.len]; exact hi)]; exact ha, hca, e5⟩
    · have hl : i < (s.desk.rooms ++ [r]).length := (List.getElem?_eq_some_iff.mp hq).1
      rw [List.length_append, List.length_singleton] at hl
      have ei : i = s.desk.rooms.length := by omega
      subst ei
      rw [List.getElem?_append_right (Nat.le_refl _), Nat.sub_self] at hq
      cases hq
      refine ⟨x, dx, ?_, hc, e4⟩
      show (L.rs ++ [x])[s.desk.rooms.length]? = some x
      rw [← R.rooms.len, List.getElem?_append_right (Nat.le_refl _), Nat.sub_self]
      rfl
/-- a door's own -/
theorem Rep.putDoor (R : Rep A H ρ L s) {i : Nat} {d d' : Ks346.Abs} {x dx bl : Addr} {es : List Addr} (hd : s.doors[i]? = some d) (hx : L.ds[i]? = some x) (hc : ρ x = .door i) (hk : d'.key = d.key) (hB : BookP H ρ bl es d'.book) (hb : d'.book.length ≤ 16) :
    Rep A (upd H x (.ins A.a_Door dx (doorF L.ka bl d'))) ρ L (putDoor s i d') := by
  have m : Mv H ρ (upd H x (.ins A.a_Door dx (doorF L.ka bl d'))) ρ (fun c => c = .door i) := (Mv.upd (H := H) (ρ := ρ) (a := x)).weak fun c e => e.trans hc
  obtain ⟨e1, c1⟩ := m _ _ R.house (by rw [R.houseC]; intro z; cases z)
  obtain ⟨e2, c2⟩ := m _ _ R.desk (by rw [R.deskC]; intro z; cases z)
  obtain ⟨e3, c3⟩ := m _ _ R.key (by rw [R.keyC]; intro z; cases z)
  obtain ⟨e4, c4⟩ := m _ _ R.doors.lst (by rw [R.doors.col]; intro z; cases z)
  refine ⟨good_putDoor R.good (hk.trans (R.good.dk d (List.mem_of_getElem? hd))) hb, e1, R.houseC, e2, R.deskC, e3, R.keyC, R.rooms.stay m (fun z => by cases z) (fun _ z => by cases z), ⟨e4, R.doors.col, ?_, fun j y hy => ?_⟩, R.cards.stay m (fun z => by cases z)⟩
  · show _ = (s.doors.set i d').length
    rw [List.length_set]; exact R.doors.len
  · have hy : (s.doors.set i d')[j]? = some y := hy
    by_cases hj : i = j
    · subst hj
      rw [List.getElem?_set_self (List.getElem?_eq_some_iff.mp hd).1] at hy
      cases hy
      exact ⟨x, dx, bl, es, hx, upd_same, hc, hB.stay m (fun z => by cases z)⟩
    · rw [List.getElem?_set_ne hj] at hy
      obtain ⟨b, dx', bl', es', hb', hD⟩ := R.doors.at_ j y hy
      exact ⟨b, dx', bl', es', hb', hD.stay m (fun z => by cases z) (fun z => hj (by cases z; rfl))⟩
/-- one door more -/
theorem Rep.addDoor (R : Rep A H ρ L s) {x dx bl : Addr} {es : List Addr} {d : Ks346.Abs} (g : Good { s with doors := s.doors ++ [d] }) (hD : DoorP A H ρ L.ka x dx bl es s.doors.length d) :
    Rep A (upd H L.dl (.lst (L.ds.map V.ref ++ [.ref x]))) ρ { L with ds := L.ds ++ [x] } { s with doors := s.doors ++ [d] } := by
  have m : Mv H ρ (upd H L.dl (.lst (L.ds.map V.ref ++ [.ref x]))) ρ (fun c => c = .doors) := (Mv.upd (H := H) (ρ := ρ) (a := L.dl)).weak fun c e => e.trans R.doors.col
  obtain ⟨e1, c1⟩ := m _ _ R.house (by rw [R.houseC]; intro z; cases z)
  obtain ⟨e2, c2⟩ := m _ _ R.desk (by rw [R.deskC]; intro z; cases z)
  obtain ⟨e3, c3⟩ := m _ _ R.key (by rw [R.keyC]; intro z; cases z)
  refine ⟨g, e1, R.houseC, e2, R.deskC, e3, R.keyC, R.rooms.stay m (fun z => by cases z) (fun _ z => by cases z), ⟨upd_same.trans (by rw [List.map_append]; rfl), R.doors.col, ?_, fun i q hq => ?_⟩, R.cards.stay m (fun z => by cases z)⟩
  · show (L.ds ++ [x]).length = (s.doors ++ [d]).length
    rw [List.length_append, List.length_append, R.doors.len]; rfl
  · have hq : (s.doors ++ [d])[i]? = some q := hq
    by_cases hi : i < s.doors.length
    · rw [List.getElem?_append_left hi] at hq
      obtain ⟨a, dx', bl', es', ha, hD'⟩ := R.doors.at_ i q hq
      exact ⟨a, dx', bl', es', by show (L.ds ++ [x])[i]? = some a; rw [List.getElem?_append_left (by rw [R.doors.len]; exact hi)]; exact ha, hD'.stay m (fun z => by cases z) (fun z => by cases z)⟩
    · have hl : i < (s.doors ++ [d]).length := (List.getElem?_eq_some_iff.mp hq).1
      rw [List.length_append, List.length_singleton] at hl
      have ei : i = s.doors.length := by omega
      subst ei
      rw [List.getElem?_append_right (Nat.le_refl _), Nat.sub_self] at hq
      cases hq
      refine ⟨x, dx, bl, es, ?_, hD.stay m (fun z => by cases z) (fun z => by cases z)⟩
      show (L.ds ++ [x])[s.doors.length]? = some x
      rw [← R.doors.len, List.getElem?_append_right (Nat.le_refl _), Nat.sub_self]
      rfl
/-! the same, for what comes next -/
theorem Rep.nxDesk (R : Rep A H ρ L s) {d : Ks347.Abs} {G : Hp → Prop} (hk : d.key = s.desk.key) (hr : d.rooms = s.desk.rooms) (next : ∀ H', Rep A H' ρ L { s with desk := d } → Fr ρ H ρ H' → Keep L.dk H H' → G H') : G (upd H L.dk (.ins A.a_Desk L.dkx (deskF L.ka L.rl d))) :=
  next _ (R.setDesk hk hr) (Fr.wrote R.desk (by rw [R.deskC]; rfl)) (fun b o e hb => by rw [upd_ne hb]; exact e)
theorem Rep.nxRoom (R : Rep A H ρ L s) {i : Nat} {r r' : Ks347.Room} {a dx : Addr} {G : Hp → Prop} (hr : s.desk.rooms[i]? = some r) (ha : L.rs[i]? = some a) (hc : ρ a = .room i) (hH : H a = some (.ins A.a_Room dx (roomF r))) (hz : r'.zone = r.zone)
    (next : ∀ H', Rep A H' ρ L (Dc.putRoom s i r') → Fr ρ H ρ H' → Keep a H H' → H' a = some (.ins A.a_Room dx (roomF r')) → G H') : G (upd H a (.ins A.a_Room dx (roomF r'))) :=
  next _ (R.putRoom (dx' := dx) hr ha hc (by rw [hz]; exact R.good.zn r (List.mem_of_getElem? hr))) (Fr.wrote hH (by rw [hc]; rfl)) (fun b o e hb => by rw [upd_ne hb]; exact e) upd_same
theorem Rep.nxCards (R : Rep A H ρ L s) {cl : Addr} {cs : List Addr} {cards : List (List Nat)} {G : Hp → Prop} (g : Good { s with cards := cards }) (C : CardsP H ρ cl cs cards) (next : ∀ H', Rep A H' ρ { L with cl := cl, cs := cs } { s with cards := cards } → Fr ρ H ρ H' → Keep L.hs H H' → G H') : G (upd H L.hs (.ins A.a_House L.hx (houseF L.dk L.dl cl))) :=
  next _ (R.setCards g C) (Fr.wrote R.house (by rw [R.houseC]; rfl)) (fun b o e hb => by rw [upd_ne hb]; exact e)
theorem Rep.nxDoor (R : Rep A H ρ L s) {i : Nat} {d d' : Ks346.Abs} {x dx bl : Addr} {es : List Addr} {G : Hp → Prop} (hd : s.doors[i]? = some d) (hx : L.ds[i]? = some x) (hc : ρ x = .door i) {o : HO} (hH : H x = some o) (hk : d'.key = d.key) (hB : BookP H ρ bl es d'.book) (hb : d'.book.length ≤ 16)
    (next : ∀ H', Rep A H' ρ L (Dc.putDoor s i d') → Fr ρ H ρ H' → Keep x H H' → DoorP A H' ρ L.ka x dx bl es i d' → G H') : G (upd H x (.ins A.a_Door dx (doorF L.ka bl d'))) := by
  have m : Mv H ρ (upd H x (.ins A.a_Door dx (doorF L.ka bl d'))) ρ (fun c => c = .door i) := (Mv.upd (H := H) (ρ := ρ) (a := x)).weak fun c e => e.trans hc
  exact next _ (R.putDoor hd hx hc hk hB hb) (Fr.wrote hH (by rw [hc]; rfl)) (fun b o e hb => by rw [upd_ne hb]; exact e) ⟨upd_same, hc, hB.stay m (fun z => by cases z)⟩
theorem putRoom_put {i : Nat} {x y : Ks347.Room} : putRoom (putRoom s i x) i y = putRoom s i y := by
  unfold putRoom Ks347.setRoom
  dsimp only
  rw [List.set_set]
theorem putRoom_get {i : Nat} {r x : Ks347.Room} (h : s.desk.rooms[i]? = some r) : (putRoom s i x).desk.rooms[i]? = some x := List.getElem?_set_self (List.getElem?_eq_some_iff.mp h).1
theorem putDoor_put {i : Nat} {x y : Ks346.Abs} : putDoor (putDoor s i x) i y = putDoor s i y := by
  unfold putDoor
  dsimp only
  rw [List.set_set]
theorem putDoor_get {i : Nat} {r x : Ks346.Abs} (h : s.doors[i]? = some r) : (putDoor s i x).doors[i]? = some x := List.getElem?_set_self (List.getElem?_eq_some_iff.mp h).1
theorem CardsP.push {cl l3 oa : Addr} {cs : List Addr} {cards : List (List Nat)} {b : List Nat} (x : CardsP H ρ cl cs cards) (ho : ρ oa = .imm) (hO : H oa = some (.lst (vn b))) (hl : ρ l3 = .imm) (hL : H l3 = some (.lst ((oa :: cs.take 63).map V.ref))) : CardsP H ρ l3 (oa :: cs.take 63) ((b :: cards).take 64) := by
  refine ⟨hL, hl, ?_, fun j y hy => ?_⟩
  · rw [List.length_cons, List.length_take, List.length_take, List.length_cons, x.len]
    omega
  · cases j with
    | zero =>
      cases hy
      exact ⟨oa, rfl, ho, hO⟩
    | succ j =>
      have hy : (cards.take 63)[j]? = some y := hy
      have hj : j < 63 := by
        have := (List.getElem?_eq_some_iff.mp hy).1
        rw [List.length_take] at this
        omega
      rw [List.getElem?_take_of_lt hj] at hy
      obtain ⟨a, ha, hc, hH⟩ := x.at_ j y hy
      exact ⟨a, by show (cs.take 63)[j]? = some a; rw [List.getElem?_take_of_lt hj]; exact ha, hc, hH⟩
theorem BookP.push {bl l3 e : Addr} {es : List Addr} {bk : List Ks346.Entry} {b : Ks346.Entry} (x : BookP H ρ bl es bk) (ho : ρ e = .imm) (hO : H e = some (.tup (entV b))) (hl : ρ l3 = .imm) (hL : H l3 = some (.lst ((e :: es.take 15).map V.ref))) : BookP H ρ l3 (e :: es.take 15) ((b :: bk).take 16) := by
  refine ⟨hL, hl, ?_, fun j y hy => ?_⟩
  · rw [List.length_cons, List.length_take, List.length_take, List.length_cons, x.len]
    omega
  · cases j with
    | zero =>
      cases hy
      exact ⟨e, rfl, ho, hO⟩
    | succ j =>
      have hy : (bk.take 15)[j]? = some y := hy
      have hj : j < 15 := by
        have := (List.getElem?_eq_some_iff.mp hy).1
        rw [List.length_take] at this
        omega
      rw [List.getElem?_take_of_lt hj] at hy
      obtain ⟨a, ha, hc, hH⟩ := x.at_ j y hy
      exact ⟨a, by show (es.take 15)[j]? = some a; rw [List.getElem?_take_of_lt hj]; exact ha, hc, hH⟩
end
/-! ### the promise of a call's def -/
def ansV (a : Ks348.Ans) : List V := V.int a.ret :: vn a.out
def Kont (A : Ad) (H : Hp) (ρ : Addr → Col) (L : Lay) (x : Ks348.Abs × Ks348.Ans) (Q : VK) : Prop :=
  ∀ H' ρ' L' p, Fr ρ H ρ' H' → L'.hs = L.hs → Rep A H' ρ' L' x.1 → H p = none → H' p = some (.lst (ansV x.2)) → Q (.ref p) H'
def SpC (A : Ad) (gs : Hp → Ks348.Abs → List V → Ks348.Call → Prop) : Sp := fun vs H Q _ => ∃ (ga : Addr) (g : List V) (c : Ks348.Call) (ρ : Addr → Col) (L : Lay) (s : Ks348.Abs), vs = [.ref L.hs, .ref ga] ∧ Rep A H ρ L s ∧ H ga = some (.lst g) ∧ ρ ga = .other ∧ gs H s g c ∧ Kont A H ρ L (Ks348.act s c) Q
theorem SpC.len {A : Ad} {gs : Hp → Ks348.Abs → List V → Ks348.Call → Prop} {vs : List V} {H : Hp} {Q : VK} {E : XK} (h : SpC A gs vs H Q E) : vs.length = 2 := by
  obtain ⟨ga, g, c, ρ, L, s, rfl, _⟩ := h
  rfl
section
variable {A : Ad} {H H1 : Hp} {ρ ρ1 : Addr → Col} {L : Lay} {s : Ks348.Abs} {Q : VK} {x : Ks348.Abs × Ks348.Ans}
/-- it answers so, and nothing has changed -/
theorem Kont.told (k : Kont A H ρ L x Q) (R : Rep A H ρ L s) {r : Int} {o : List Nat} (e : x = (s, ⟨r, o⟩)) (S : Same H H1) : ∀ p, H1 p = none → Q (.ref p) (upd H1 p (.lst (V.int r :: vn o))) := fun p hp => by
  subst e
  exact k _ ρ L p (Fr.same (S.trans (same_new hp))) rfl (R.same (S.trans (same_new hp))) (S.free hp) upd_same
theorem Kont.no (k : Kont A H ρ L x Q) (R : Rep A H ρ L s) {v : Int} (e : x = (s, Ks348.no v)) : ∀ p, H p = none → Q (.ref p) (upd H p (.lst [V.int v])) := k.told R e (Same.refl H)
/-- the house has become another -/
theorem Kont.did (k : Kont A H ρ L x Q) {L1 : Lay} (F : Fr ρ H ρ1 H1) (R : Rep A H1 ρ1 L1 x.1) {l : List V} (e : l = ansV x.2) (hL : L1.hs = L.hs := by rfl) : ∀ p, H1 p = none → Q (.ref p) (upd H1 p (.lst l)) := fun p hp => by
  subst e
  exact k _ ρ1 L1 p (F.trans (Fr.same (same_new hp))) hL (R.same (same_new hp)) (F.free hp) upd_same
theorem Kont.via (k : Kont A H ρ L x Q) {L1 : Lay} (hL : L1.hs = L.hs) (F : Fr ρ H ρ1 H1) : Kont A H1 ρ1 L1 x Q := fun H' ρ' L' p F' hL' R' hp hp' => k H' ρ' L' p (F.trans F') (hL'.trans hL) R' (F.free hp) hp'
end
end Dc

set_option Elab.async false
set_option linter.all false
set_option maxRecDepth 100000
set_option maxHeartbeats 2000000
/-! the desk: what it reads -/
namespace Dc
open PySem PySem.Spec PyProof.Rows L2
section
variable {P : Program} {w : World} {K : PySem.W.Frag} {mg : Str → Option Value} {base : Heap} {A : Ad}
/-! ### is_day_from -/
def dayFrom (f d : Nat) : Bool := decide (f ≤ d) && decide (d ≤ 65535)
theorem dayF {f d : Nat} (h : dayFrom f d = false) : d < f ∨ 65535 < d := by
  unfold dayFrom at h
  simp at h
  omega
theorem dayT {f d : Nat} (h : dayFrom f d = true) : ¬ (d < f ∨ 65535 < d) := by
  unfold dayFrom at h
  simp at h
  omega
def sp_is_day_from : Sp := fun vs H Q _ => ∃ f d : Nat, vs = [.int f, .int d] ∧ Q (.bl (dayFrom f d)) H
theorem ok_is_day_from (T : Txt K mg A) : Ok P w K mg base 1 A.a_is_day_from ["first", "day"] (sp_is_day_from) := by
  refine T.t_is_day_from.ok sc_is_day_from (fun _ _ _ _ _ _ us hl => match us, hl with | [_, _], _ => rfl) (fun vs H Q E h => by obtain ⟨_, _, rfl, _⟩ := h; rfl) (fun cdv Ar outer st H vs Q E hr h => ?_)
  obtain ⟨f, d, rfl, k⟩ := h
  refine ⟨_, (pss_one (ps_ret (pe_chain op_le op_le (pv 0) (pv 1) (pe_co T.t_MOST rfl)))), ?_⟩
  refine ⟨_, rfl, _, rfl, _, _, rfl, rfl, _, rfl, ?_⟩
  have e1 : decide ((f : Int) ≤ d) = decide (f ≤ d) := decide_eq_decide.mpr (by omega)
  have e2 : decide ((d : Int) ≤ 65535) = decide (d ≤ 65535) := decide_eq_decide.mpr (by omega)
  unfold dayFrom at k
  rw [e1]
  by_cases hp : f ≤ d
  · rw [decide_eq_true hp] at k ⊢
    rw [Bool.true_and] at k
    exact iteT ⟨_, _, rfl, rfl, by rw [← e2] at k; exact k⟩
  · rw [decide_eq_false hp] at k ⊢
    rw [Bool.false_and] at k
    exact iteF k
/-! ### bears_out -/
def bears (r : Ks347.Room) (c : Ks345.Card) : Bool := if c.kind = 1 ∧ r.stay = none then false else decide (c.number = r.number)
theorem stayN (o : Option Nat) : decide (stayV o = V.non) = decide (o = none) := by
  cases o with
  | none => rfl
  | some l => rfl
def sp_bears_out (A : Ad) : Sp := fun vs H Q _ => ∃ (ra ca rx cx : Addr) (r : Ks347.Room) (c : Ks345.Card), vs = [.ref ra, .ref ca] ∧ H ra = some (.ins A.a_Room rx (roomF r)) ∧ H ca = some (.ins A.a_Card cx (cardF c)) ∧ Q (.bl (bears r c)) H
theorem ok_bears_out (T : Txt K mg A) : Ok P w K mg base 1 A.a_bears_out ["room", "card"] (sp_bears_out A) := by
  refine T.t_bears_out.ok sc_bears_out (fun _ _ _ _ _ _ us hl => match us, hl with | [_, _], _ => rfl) (fun vs H Q E h => by obtain ⟨_, _, _, _, _, _, rfl, _⟩ := h; rfl) (fun cdv Ar outer st H vs Q E hr h => ?_)
  obtain ⟨ra, ca, rx, cx, r, c, rfl, hR, hC, k⟩ := h
  refine ⟨_, (pss_cons (ps_if (PW.pt (pw_and (pt_cmpR op_eq (pe_fld (pv 1) rfl) (pe_co T.t_GUEST rfl) (nomark _)) (pw_and1 (pt_cmpR op_isN (pe_fld (pv 0) rfl) pe_non (nomark _))))) (pss_one (ps_ret pe_bl)) pss_nil)
      (pss_one (ps_ret (pe_cmpR op_eq (pe_fld (pv 1) rfl) (pe_fld (pv 0) rfl) (nomark _))))), ?_⟩
  have e1 : decide ((c.kind : Int) = 1) = decide (c.kind = 1) := decide_eq_decide.mpr (by omega)
  have e2 : decide ((c.number : Int) = r.number) = decide (c.number = r.number) := decide_eq_decide.mpr (by omega)
  have fin : ¬ (c.kind = 1 ∧ r.stay = none) → Q (.bl (decide (V.int (c.number : Nat) = V.int (r.number : Nat)))) H := fun n => by
    rw [dV, e2]
    unfold bears at k
    rw [if_neg n] at k
    exact k
  unfold bears at k
  refine ⟨_, rfl, ca, _, _, _, _, rfl, hC, T.t_Card.cl, T.t_Card_no_kind, rfl, rfl, _, rfl, ?_⟩
  rw [dV, e1]
  refine ite2 (fun h1 => ?_) fun h1 => iteF ?_
  · have h1 := of_decide_eq_true h1
    refine ⟨_, rfl, ra, _, _, _, _, rfl, hR, T.t_Room.cl, T.t_Room_no_stay, rfl, rfl, _, rfl, ?_⟩
    rw [stayN]
    refine ite2 (fun h2 => ?_) fun h2 => ?_
    · rw [if_pos ⟨h1, of_decide_eq_true h2⟩] at k
      exact k
    · exact ⟨_, rfl, ca, _, _, _, _, rfl, hC, T.t_Card.cl, T.t_Card_no_number, rfl, _, rfl, ra, _, _, _, _, rfl, hR, T.t_Room.cl, T.t_Room_no_number, rfl, rfl, fin fun z => h2 (decide_eq_true z.2)⟩
  · exact ⟨_, rfl, ca, _, _, _, _, rfl, hC, T.t_Card.cl, T.t_Card_no_number, rfl, _, rfl, ra, _, _, _, _, rfl, hR, T.t_Room.cl, T.t_Room_no_number, rfl, rfl, fin fun z => h1 (decide_eq_true z.1)⟩
/-! ### is_good -/
def kindOk (c : Ks345.Card) : Prop := c.kind = 1 ∨ c.kind = 2 ∨ c.kind = 3 ∨ c.kind = 4
theorem good_old {d : Ks347.Abs} {c : Ks345.Card} (h : c.last < d.day) : Ks347.good d c = 0 := by
  have e : ¬ d.day ≤ c.last := by omega
  simp [Ks347.good, e]
theorem good_staff {d : Ks347.Abs} {c : Ks345.Card} (h : ¬ c.last < d.day) (hk : c.kind = 2 ∨ c.kind = 4) : Ks347.good d c = if c.number = d.epoch then 1 else 0 := by
  have e : d.day ≤ c.last := by omega
  have n1 : ¬ c.kind = 1 := by omega
  have n3 : ¬ c.kind = 3 := by omega
  by_cases q : c.number = d.epoch
  · simp [Ks347.good, e, n1, n3, q]
  · have q' : ¬ d.epoch = c.number := fun z => q z.symm
    simp [Ks347.good, e, n1, n3, q, q']
theorem good_room {d : Ks347.Abs} {c : Ks345.Card} (h : ¬ c.last < d.day) (hk : c.kind = 1 ∨ c.kind = 3) : Ks347.good d c = match d.rooms[c.place]? with
    | none => 0
    | some x => if bears x c = true then 1 else 0 := by
  have e : d.day ≤ c.last := by omega
  cases hx : d.rooms[c.place]? with
  | none => rcases hk with hk | hk <;> simp [Ks347.good, e, hk, hx]
  | some x =>
    obtain ⟨zone, number, stay⟩ := x
    by_cases q : c.number = number
    · rcases hk with hk | hk <;> cases stay <;> simp [Ks347.good, bears, e, hk, hx, q]
    · have q' : ¬ number = c.number := fun z => q z.symm
      rcases hk with hk | hk <;> cases stay <;> simp [Ks347.good, bears, e, hk, hx, q, q']
def sp_is_good (A : Ad) : Sp := fun vs H Q _ => ∃ (ρ : Addr → Col) (L : Lay) (s : Ks348.Abs) (ca cx : Addr) (c : Ks345.Card), vs = [.ref L.dk, .ref ca] ∧ Rep A H ρ L s ∧ H ca = some (.ins A.a_Card cx (cardF c)) ∧ kindOk c ∧ Q (.bl (decide (Ks347.good s.desk c = 1))) H
theorem ok_is_good (T : Txt K mg A) : Ok P w K mg base 2 A.a_is_good ["desk", "card"] (sp_is_good A) := by
  refine T.t_is_good.ok sc_is_good (fun _ _ _ _ _ _ us hl => match us, hl with | [_, _], _ => rfl) (fun vs H Q E h => by obtain ⟨_, _, _, _, _, _, rfl, _⟩ := h; rfl) (fun cdv Ar outer st H vs Q E hr h => ?_)
  obtain ⟨ρ, L, s, ca, cx, c, rfl, R, hC, hk, k⟩ := h
  refine ⟨_, (pss_cons (ps_if (pt_cmpR op_lt (pe_fld (pv 1) rfl) (pe_fld (pv 0) rfl) (nomark _)) (pss_one (ps_ret pe_bl)) pss_nil)
      (pss_cons (ps_if (PW.pt (pw_or (pt_cmpR op_eq (pe_fld (pv 1) rfl) (pe_co T.t_STAFF rfl) (nomark _)) (pw_or1 (pt_cmpR op_eq (pe_fld (pv 1) rfl) (pe_co T.t_EMERGENCY rfl) (nomark _))))) (pss_one (ps_ret (pe_cmpR op_eq (pe_fld (pv 1) rfl) (pe_fld (pv 0) rfl) (nomark _)))) pss_nil)
      (pss_cons (ps_if (pt_cmpR op_ge (pe_fld (pv 1) rfl) (pe_callB call_len_seq (by rfl) T.b_len PySem.boot_len (pa_cons (pe_fld (pv 0) rfl) pa_nil)) (nomark _)) (pss_one (ps_ret pe_bl)) pss_nil)
      (pss_one (ps_ret (pe_c (ok_bears_out T) (hr.mono (by decide)) rfl T.t_bears_out.mg (pa_cons (pe_ix ix_list (pe_fld (pv 0) rfl) (pe_fld (pv 1) rfl) (fun _ _ => rfl)) (pa_cons (pv 1) pa_nil)))))))), ?_⟩
  refine ⟨_, rfl, ca, _, _, _, _, rfl, hC, T.t_Card.cl, T.t_Card_no_last, rfl, _, rfl, L.dk, _, _, _, _, rfl, R.desk, T.t_Desk.cl, T.t_Desk_no_day, rfl, _, _, rfl, rfl, _, rfl, ?_⟩
  refine ite2 (fun h1 => ?_) fun h1 => ?_
  · have h1 := of_decide_eq_true h1
    rw [good_old (by omega)] at k
    exact k
  have h1 : ¬ c.last < s.desk.day := fun z => h1 (decide_eq_true (by omega))
  have staff : c.kind = 2 ∨ c.kind = 4 → Q (.bl (decide (V.int (c.number : Nat) = V.int (s.desk.epoch : Nat)))) H := fun hs => by
    rw [good_staff h1 hs] at k
    rw [dV]
    have e : decide ((if c.number = s.desk.epoch then 1 else 0) = 1) = decide ((c.number : Int) = s.desk.epoch) := decide_eq_decide.mpr (by split <;> omega)
    rw [e] at k
    exact k
  refine ⟨_, rfl, ca, _, _, _, _, rfl, hC, T.t_Card.cl, T.t_Card_no_kind, rfl, rfl, _, rfl, ?_⟩
  rw [dV]
  refine ite2 (fun h2 => iteT ⟨_, rfl, ca, _, _, _, _, rfl, hC, T.t_Card.cl, T.t_Card_no_number, rfl, _, rfl, L.dk, _, _, _, _, rfl, R.desk, T.t_Desk.cl, T.t_Desk_no_staff_round, rfl, rfl, staff (.inl ?_)⟩) fun h2 => ?_
  · have := of_decide_eq_true h2; omega
  refine ⟨_, rfl, ca, _, _, _, _, rfl, hC, T.t_Card.cl, T.t_Card_no_kind, rfl, rfl, _, rfl, ?_⟩
  rw [dV]
  refine ite2 (fun h3 => ⟨_, rfl, ca, _, _, _, _, rfl, hC, T.t_Card.cl, T.t_Card_no_number, rfl, _, rfl, L.dk, _, _, _, _, rfl, R.desk, T.t_Desk.cl, T.t_Desk_no_staff_round, rfl, rfl, staff (.inr ?_)⟩) fun h3 => ?_
  · have := of_decide_eq_true h3; omega
  have h4 : c.kind = 1 ∨ c.kind = 3 := by
    have a : ¬ (c.kind : Int) = 2 := fun z => h2 (decide_eq_true z)
    have b : ¬ (c.kind : Int) = 4 := fun z => h3 (decide_eq_true z)
    unfold kindOk at hk
    omega
  rw [good_room h1 h4] at k
  refine ⟨_, rfl, ca, _, _, _, _, rfl, hC, T.t_Card.cl, T.t_Card_no_place, rfl, _, rfl, L.dk, _, _, _, _, rfl, R.desk, T.t_Desk.cl, T.t_Desk_no_rooms, rfl, _, _, rfl, .inl (SqL.of (R.rooms.lst)), _, _, rfl, rfl, _, rfl, ?_⟩
  rw [R.roomsLen]
  refine ite2 (fun h5 => ?_) fun h5 => ?_
  · have h5 := of_decide_eq_true h5
    rw [List.getElem?_eq_none (by omega)] at k
    exact k
  · have h5 : c.place < s.desk.rooms.length := by
      have : ¬ ((s.desk.rooms.length : Int) ≤ (c.place : Int)) := fun z => h5 (decide_eq_true z)
      omega
    have hx := List.getElem?_eq_getElem h5
    obtain ⟨a, dx, ha, hc, hH⟩ := R.rooms.at_ _ _ hx
    rw [hx] at k
    refine ⟨_, rfl, L.dk, _, _, _, _, rfl, R.desk, T.t_Desk.cl, T.t_Desk_no_rooms, rfl, _, rfl, ca, _, _, _, _, rfl, hC, T.t_Card.cl, T.t_Card_no_place, rfl, L.rl, _, _, _, rfl, rfl, SqL.of (R.rooms.lst), (atR ha), _, rfl, a, ca, dx, cx, _, c, rfl, hH, hC, ?_⟩
    have e : decide ((match some s.desk.rooms[c.place] with | none => 0 | some x => if bears x c = true then 1 else 0) = 1) = bears s.desk.rooms[c.place] c := by
      dsimp only
      by_cases hb : bears s.desk.rooms[c.place] c = true <;> simp [hb]
    rw [e] at k
    exact k
/-! ### no_more_cards, no_newer_card -/
theorem full_eq (d : Ks347.Abs) : Ks347.full d = decide ((65535 : Int) ≤ (d.serial : Nat)) := by
  unfold Ks347.full Ks347.TOP
  exact decide_eq_decide.mpr (by omega)
def sp_no_more_cards (A : Ad) : Sp := fun vs H Q _ => ∃ (ρ : Addr → Col) (L : Lay) (s : Ks348.Abs), vs = [.ref L.hs] ∧ Rep A H ρ L s ∧ Q (.bl (Ks347.full s.desk)) H
theorem ok_no_more_cards (T : Txt K mg A) : Ok P w K mg base 1 A.a_no_more_cards ["house"] (sp_no_more_cards A) := by
  refine T.t_no_more_cards.ok sc_no_more_cards (fun _ _ _ _ _ _ us hl => match us, hl with | [_], _ => rfl) (fun vs H Q E h => by obtain ⟨_, _, _, rfl, _⟩ := h; rfl) (fun cdv Ar outer st H vs Q E hr h => ?_)
  obtain ⟨ρ, L, s, rfl, R, k⟩ := h
  refine ⟨_, (pss_one (ps_ret (pe_cmpR op_ge (pe_fld (pe_fld (pv 0) rfl) rfl) (pe_co T.t_MOST rfl) (nomark _)))), ?_⟩
  refine ⟨_, rfl, L.hs, _, _, _, _, rfl, R.house, T.t_House.cl, T.t_House_no_desk, rfl, L.dk, _, _, _, _, rfl, R.desk, T.t_Desk.cl, T.t_Desk_no_serial, rfl, _, _, rfl, rfl, ?_⟩
  rw [full_eq] at k
  exact k
def sp_no_newer_card (A : Ad) : Sp := fun vs H Q _ => ∃ (ρ : Addr → Col) (L : Lay) (s : Ks348.Abs) (ra rx : Addr) (r : Ks347.Room), vs = [.ref L.hs, .ref ra] ∧ Rep A H ρ L s ∧ H ra = some (.ins A.a_Room rx (roomF r)) ∧ Q (.bl (decide (65535 ≤ r.number ∨ Ks347.full s.desk = true))) H
theorem ok_no_newer_card (T : Txt K mg A) : Ok P w K mg base 2 A.a_no_newer_card ["house", "room"] (sp_no_newer_card A) := by
  refine T.t_no_newer_card.ok sc_no_newer_card (fun _ _ _ _ _ _ us hl => match us, hl with | [_, _], _ => rfl) (fun vs H Q E h => by obtain ⟨_, _, _, _, _, _, rfl, _⟩ := h; rfl) (fun cdv Ar outer st H vs Q E hr h => ?_)
  obtain ⟨ρ, L, s, ra, rx, r, rfl, R, hR, k⟩ := h
  refine ⟨_, (pss_one (ps_ret (pe_or (pe_c (ok_no_more_cards T) (hr.mono (by decide)) rfl T.t_no_more_cards.mg (pa_cons (pv 0) pa_nil)) (pe_one (pe_cmpR op_ge (pe_fld (pv 1) rfl) (pe_co T.t_MOST rfl) (nomark _)))))), ?_⟩
  refine ⟨_, rfl, ρ, L, s, rfl, R, _, rfl, ?_⟩
  cases hf : Ks347.full s.desk with
  | true =>
    rw [decide_eq_true (.inr hf)] at k
    exact iteT k
  | false =>
    have e : decide (65535 ≤ r.number ∨ Ks347.full s.desk = true) = decide ((65535 : Int) ≤ (r.number : Nat)) := decide_eq_decide.mpr (by rw [hf]; constructor <;> intro z <;> simp at z ⊢ <;> omega)
    rw [e] at k
    exact iteF ⟨_, rfl, ra, _, _, _, _, rfl, hR, T.t_Room.cl, T.t_Room_no_number, rfl, _, _, rfl, rfl, k⟩
end
end Dc

set_option Elab.async false
set_option linter.all false
set_option maxRecDepth 100000
set_option maxHeartbeats 2000000
/-! the desk makes cards -/
namespace Dc
open PySem PySem.Spec PyProof.Rows L2
theorem cut_upto {xs : List V} (n : Nat) : cutV xs none (some (n : Int)) = xs.take n := by
  unfold cutV
  rw [HT.sIx_nat, HT.sIx_none, List.drop_zero, Nat.sub_zero, ← List.take_eq_take_min]
section
variable {P : Program} {w : World} {K : PySem.W.Frag} {mg : Str → Option Value} {base : Heap} {A : Ad}
def sp_make_card (A : Ad) : Sp := fun vs H Q _ => ∃ (ρ : Addr → Col) (L : Lay) (s : Ks348.Abs) (kd p n l : Nat), vs = [.ref L.hs, .int kd, .int p, .int n, .int l] ∧ Rep A H ρ L s ∧ kd < 256 ∧ p < 256 ∧ Kont A H ρ L (mk s kd p n l) Q
theorem ok_make_card (T : Txt K mg A) : Ok P w K mg base 6 A.a_make_card ["house", "kind", "place", "number", "last"] (sp_make_card A) := by
  refine T.t_make_card.ok sc_make_card (fun _ _ _ _ _ _ us hl => match us, hl with | [_, _, _, _, _], _ => rfl) (fun vs H Q E h => by obtain ⟨_, _, _, _, _, _, _, rfl, _⟩ := h; rfl) (fun cdv Ar outer st H vs Q E hr h => ?_)
  obtain ⟨ρ0, L, s, kd, p, n, l, rfl, R0, hkd, hp, k⟩ := h
  refine ⟨_, (pss_cons (ps_set (i := 5) sc_make_card.nd rfl (Or.inl rfl) (pe_fld (pv 0) rfl))
      (pss_cons (ps_set (i := 6) sc_make_card.nd rfl (Or.inl rfl) (pe_fld (pv 5) rfl))
      (pss_cons (ps_set (i := 7) sc_make_card.nd rfl (Or.inl rfl) (pe_c (ok_card_octets T) (hr.mono (by decide)) rfl T.t_card_octets.mg (pa_cons (pe_fld (pv 5) rfl) (pa_cons (pe_k T.t_Card.mak (ok_Card_init T) (hr.mono (by decide)) rfl T.t_Card.mg (pa_cons (pv 1) (pa_cons (pv 2) (pa_cons (pv 3) (pa_cons (pv 4) (pa_cons (pv 6) pa_nil)))))) pa_nil))))
      (pss_cons (ps_fld (pv 5) (pe_op op_add (pv 6) pe_int) rfl)
      (pss_cons (ps_fld (pv 0) (pe_op op_cat (pe_lst (pa_cons (pv 7) pa_nil)) (pe_slice sl_list (pe_fld (pv 0) rfl) po_none (po_some (pe_op op_sub (pe_co T.t_CARDS_KEPT rfl) pe_int)))) rfl)
      (pss_one (ps_ret (pe_op op_cat (pe_lst (pa_cons (pv 6) pa_nil)) (pv 7))))))))), ?_⟩
  -- octets = card_octets(desk.key, Card(..))
  refine ⟨_, rfl, L.hs, _, _, _, _, rfl, R0.house, T.t_House.cl, T.t_House_no_desk, rfl, _, rfl, L.dk, _, _, _, _, rfl, R0.desk, T.t_Desk.cl, T.t_Desk_no_serial, rfl, _, rfl, L.dk, _, _, _, _, rfl, R0.desk, T.t_Desk.cl, T.t_Desk_no_key, rfl, _, rfl, _, rfl, _, rfl, _, rfl, _, rfl, fun x dx nx nd ne => ⟨x, dx, ⟨kd, p, n, l, s.desk.serial⟩, rfl, upd_same, rfl, ?_⟩⟩
  have S1 : Same H (upd (upd (upd H dx (.own x)) x (.ins A.a_Card dx [])) x (.ins A.a_Card dx (cardF ⟨kd, p, n, l, s.desk.serial⟩))) := fun b o e => by
    rw [upd_ne (ne_of_none e nx), upd_ne (ne_of_none e nx), upd_ne (ne_of_none e nd)]
    exact e
  refine ⟨L.ka, x, dx, s.desk.key, ⟨kd, p, n, l, s.desk.serial⟩, rfl, SqL.of (S1 _ _ R0.key), R0.good.kb, R0.good.kl, upd_same, hkd, hp, fun H2 oa hoa S2 h2 => ?_⟩
  have S := S1.trans S2
  have m0 : Mv H ρ0 H2 (setc ρ0 oa .imm) NoC := (Mv.col (S1.free hoa)).trans (Mv.same S)
  have R2 := R0.mv m0
  have F2 := Fr.mv (c0 := NoC) m0
  have ho2 : setc ρ0 oa .imm oa = .imm := setc_same
  generalize setc ρ0 oa .imm = ρ at R2 F2 ho2
  -- desk.serial = serial + 1
  refine ⟨_, rfl, _, _, rfl, rfl, _, rfl, L.dk, _, _, _, rfl, R2.desk, T.t_Desk.cl, T.t_Desk_no_serial, (by show 5 < 1000; decide), R2.nxDesk (d := { s.desk with serial := s.desk.serial + 1 }) rfl rfl fun H3 R3 F3 K3 => ?_⟩
  have h3 := K3 _ _ h2 (ne_of h2 R2.desk (by intro z; cases z))
  -- house.cards = [octets] + house.cards[:CARDS_KEPT - 1]
  refine ⟨_, rfl, (by show 1 ≤ sizeLine; decide), fun l1 n1 => ?_⟩
  have q1 := same_new (o := .lst [V.ref oa]) n1
  have R4 := R3.same q1
  refine ⟨_, rfl, L.hs, _, _, _, _, rfl, R4.house, T.t_House.cl, T.t_House_no_cards, rfl, _, _, rfl, rfl, _, rfl, L.cl, _, rfl, SqL.of R4.cards.lst, fun l2 n2 => ?_⟩
  have cut : cutV (L.cs.map V.ref) none (some (64 - 1)) = (L.cs.take 63).map V.ref := (cut_upto 63).trans (List.map_take ..).symm
  dsimp only
  rw [cut]
  have q2 := same_new (o := .lst ((L.cs.take 63).map V.ref)) n2
  refine ⟨l1, l2, _, _, rfl, rfl, q2 _ _ upd_same, upd_same, ?_, fun l3 n3 => ?_⟩
  · rw [List.length_map, List.length_take]
    show 1 + min 63 _ ≤ sizeLine
    exact Nat.le_of_lt (small1000 (by omega))
  have m5 : Mv H3 ρ _ (setc ρ l3 .imm) NoC := ((Mv.same q1).trans (Mv.same q2)).trans (Mv.laid (o := .lst ([V.ref oa] ++ (L.cs.take 63).map V.ref)) (c := .imm) n3)
  have R6 := R3.mv m5
  have F6 := Fr.mv (c0 := NoC) m5
  obtain ⟨h6, c6⟩ := m5 _ _ h3 id
  have hb := signed_byt (key := s.desk.key) (c := ⟨kd, p, n, l, s.desk.serial⟩) hkd hp
  have hl := signed_len s.desk.key ⟨kd, p, n, l, s.desk.serial⟩
  have C6 := R6.cards.push (c6.trans ho2) h6 (setc_same (ρ := ρ)) upd_same
  have G6 := good_cards R6.good hb hl
  generalize setc ρ l3 .imm = ρ6 at R6 F6 c6 C6
  refine ⟨_, rfl, L.hs, _, _, _, rfl, R6.house, T.t_House.cl, T.t_House_no_cards, (by show 3 < 1000; decide), R6.nxCards G6 C6 fun H7 R7 F7 K7 => ?_⟩
  have h7 := K7 _ _ h6 (ne_of h6 R6.house (by intro z; cases z))
  -- return [serial] + octets
  refine ⟨_, rfl, (by show 1 ≤ sizeLine; decide), fun l4 n4 => ⟨_, rfl, l4, oa, _, _, rfl, rfl, upd_same, same_new n4 _ _ h7, ?_, fun l5 n5 => ?_⟩⟩
  · rw [vn_len, hl]
    show 1 + 16 ≤ sizeLine
    decide
  have F := (((F2.trans F3).trans F6).trans F7).trans (Fr.same (same_new (o := .lst [V.int (s.desk.serial : Nat)]) n4))
  exact k.did F (R7.same (same_new n4)) rfl rfl l5 n5
def sp_guest_card (A : Ad) : Sp := fun vs H Q _ => ∃ (ρ : Addr → Col) (L : Lay) (s : Ks348.Abs) (i l : Nat) (r : Ks347.Room), vs = [.ref L.hs, .int i] ∧ Rep A H ρ L s ∧ s.desk.rooms[i]? = some r ∧ r.stay = some l ∧ Kont A H ρ L (mk s 1 i r.number l) Q
theorem ok_guest_card (T : Txt K mg A) : Ok P w K mg base 7 A.a_guest_card ["house", "place"] (sp_guest_card A) := by
  refine T.t_guest_card.ok sc_guest_card (fun _ _ _ _ _ _ us hl => match us, hl with | [_, _], _ => rfl) (fun vs H Q E h => by obtain ⟨_, _, _, _, _, _, rfl, _⟩ := h; rfl) (fun cdv Ar outer st H vs Q E hr h => ?_)
  obtain ⟨ρ, L, s, i, l, r, rfl, R, hrm, hs, k⟩ := h
  refine ⟨_, (pss_cons (ps_set (i := 2) sc_guest_card.nd rfl (Or.inl rfl) (pe_ix ix_list (pe_fld (pe_fld (pv 0) rfl) rfl) (pv 1) (fun _ _ => rfl)))
      (pss_one (ps_ret (pe_c (ok_make_card T) (hr.mono (by decide)) rfl T.t_make_card.mg (pa_cons (pv 0) (pa_cons (pe_co T.t_GUEST rfl) (pa_cons (pv 1) (pa_cons (pe_fld (pv 2) rfl) (pa_cons (pe_fld (pv 2) rfl) pa_nil))))))))), ?_⟩
  obtain ⟨a, dx, ha, hc, hH⟩ := R.rooms.at_ _ _ hrm
  have hi : i < 64 := Nat.lt_of_lt_of_le (List.getElem?_eq_some_iff.mp hrm).1 R.good.rm
  refine ⟨_, rfl, L.hs, _, _, _, _, rfl, R.house, T.t_House.cl, T.t_House_no_desk, rfl, L.dk, _, _, _, _, rfl, R.desk, T.t_Desk.cl, T.t_Desk_no_rooms, rfl, _, rfl, L.rl, _, _, _, rfl, rfl, SqL.of (R.rooms.lst), (atR ha), ?_⟩
  refine ⟨_, rfl, _, rfl, _, rfl, a, _, _, _, _, rfl, hH, T.t_Room.cl, T.t_Room_no_number, rfl, _, rfl, a, _, _, _, _, rfl, hH, T.t_Room.cl, T.t_Room_no_stay, rfl, ρ, L, s, 1, i, r.number, l, ?_, R, by decide, by omega, k⟩
  rw [hs]
  rfl
end
end Dc

set_option Elab.async false
set_option linter.all false
set_option maxRecDepth 100000
set_option maxHeartbeats 2000000
/-! the desk's calls -/
namespace Dc
open PySem PySem.Spec PyProof.Rows L2
section
variable {P : Program} {w : World} {K : PySem.W.Frag} {mg : Str → Option Value} {base : Heap} {A : Ad}
/-- given: a room's number -/
def gsRoom (f : Nat → Ks348.Call) : Hp → Ks348.Abs → List V → Ks348.Call → Prop := fun _ s g c => ∃ (r : Nat) (x : Ks347.Room), g = [.int r] ∧ s.desk.rooms[r]? = some x ∧ c = f r
def gsRoom2 (f : Nat → Nat → Ks348.Call) : Hp → Ks348.Abs → List V → Ks348.Call → Prop := fun _ s g c => ∃ (r l : Nat) (x : Ks347.Room), g = [.int r, .int l] ∧ s.desk.rooms[r]? = some x ∧ c = f r l
def gs0 (c0 : Ks348.Call) : Hp → Ks348.Abs → List V → Ks348.Call → Prop := fun _ _ g c => g = [] ∧ c = c0
def gs1 (f : Nat → Ks348.Call) : Hp → Ks348.Abs → List V → Ks348.Call → Prop := fun _ _ g c => ∃ n : Nat, g = [.int n] ∧ c = f n
def gs2 (f : Nat → Nat → Ks348.Call) : Hp → Ks348.Abs → List V → Ks348.Call → Prop := fun _ _ g c => ∃ n m : Nat, g = [.int n, .int m] ∧ c = f n m
def gsRow (f : List Nat → Ks348.Call) : Hp → Ks348.Abs → List V → Ks348.Call → Prop := fun H _ g c => ∃ (ra : Addr) (b : List Nat), g = [.ref ra] ∧ H ra = some (.lst (vn b)) ∧ Byt b ∧ c = f b
theorem ok_come (T : Txt K mg A) : Ok P w K mg base 8 A.a_come ["house", "given"] (SpC A (gsRoom2 fun r l => .desk (.come r l))) := by
  refine T.t_come.ok sc_come (fun _ _ _ _ _ _ us hl => match us, hl with | [_, _], _ => rfl) (fun vs H Q E h => h.len) (fun cdv Ar outer st H vs Q E hr h => ?_)
  obtain ⟨ga, g, c, ρ, L, s, rfl, R, hg, hgc, ⟨r, l, x, rfl, hx, rfl⟩, k⟩ := h
  refine ⟨_, (pss_cons (ps_set (i := 2) sc_come.nd rfl (Or.inl rfl) (pe_ix ix_list (pe_fld (pe_fld (pv 0) rfl) rfl) (pe_ix ix_list (pv 1) pe_int (fun _ _ => rfl)) (fun _ _ => rfl)))
      (pss_cons (ps_set (i := 3) sc_come.nd rfl (Or.inl rfl) (pe_ix ix_list (pv 1) pe_int (fun _ _ => rfl)))
      (pss_cons (ps_if (pt_not (pt_val (pe_c (ok_is_day_from T) (hr.mono (by decide)) rfl T.t_is_day_from.mg (pa_cons (pe_fld (pe_fld (pv 0) rfl) rfl) (pa_cons (pv 3) pa_nil))))) (pss_one (ps_ret (pe_lst (pa_cons (pe_co T.t_WRONG rfl) pa_nil)))) pss_nil)
      (pss_cons (ps_if (pt_cmpR op_notN (pe_fld (pv 2) rfl) pe_non (nomark _)) (pss_one (ps_ret (pe_lst (pa_cons (pe_co T.t_HAS_STAY rfl) pa_nil)))) pss_nil)
      (pss_cons (ps_if (pt_val (pe_c (ok_no_newer_card T) (hr.mono (by decide)) rfl T.t_no_newer_card.mg (pa_cons (pv 0) (pa_cons (pv 2) pa_nil)))) (pss_one (ps_ret (pe_lst (pa_cons (pe_co T.t_NO_MORE rfl) pa_nil)))) pss_nil)
      (pss_cons (ps_fld (pv 2) (pv 3) rfl)
      (pss_cons (ps_fld (pv 2) (pe_op op_add (pe_fld (pv 2) rfl) pe_int) rfl)
      (pss_one (ps_ret (pe_c (ok_guest_card T) (hr.mono (by decide)) rfl T.t_guest_card.mg (pa_cons (pv 0) (pa_cons (pe_ix ix_list (pv 1) pe_int (fun _ _ => rfl)) pa_nil)))))))))))), ?_⟩
  obtain ⟨a, dx, ha, hc, hH⟩ := R.rooms.at_ _ _ hx
  have nga : ga ≠ a := ne_of hg hH (by intro z; cases z)
  refine ⟨_, rfl, L.hs, _, _, _, _, rfl, R.house, T.t_House.cl, T.t_House_no_desk, rfl, L.dk, _, _, _, _, rfl, R.desk, T.t_Desk.cl, T.t_Desk_no_rooms, rfl, _, rfl, ga, _, _, _, rfl, rfl, SqL.of (hg), at0, L.rl, _, _, _, rfl, rfl, SqL.of (R.rooms.lst), (atR ha), _, rfl, ga, _, _, _, rfl, rfl, SqL.of (hg), at1, ?_⟩
  refine ⟨_, rfl, L.hs, _, _, _, _, rfl, R.house, T.t_House.cl, T.t_House_no_desk, rfl, L.dk, _, _, _, _, rfl, R.desk, T.t_Desk.cl, T.t_Desk_no_day, rfl, _, rfl, _, _, rfl, _, rfl, ?_⟩
  have e := act_come R.good hx (l := l)
  cases hd : dayFrom s.desk.day l with
  | false =>
    rw [if_pos (dayF hd)] at e
    exact iteT ⟨(by show 1 ≤ sizeLine; decide), k.no R (desk_no (by decide) (fun _ z => by cases z) e)⟩
  | true =>
    rw [if_neg (dayT hd)] at e
    refine iteF ⟨_, rfl, a, _, _, _, _, rfl, hH, T.t_Room.cl, T.t_Room_no_stay, rfl, rfl, _, rfl, ?_⟩
    cases hs : x.stay with
    | some l0 =>
      rw [hs, if_pos Option.isSome_some] at e
      exact iteT ⟨(by show 1 ≤ sizeLine; decide), k.no R (desk_no (by decide) (fun _ z => by cases z) e)⟩
    | none =>
      rw [hs, if_neg (by simp)] at e
      refine iteF ⟨_, rfl, _, rfl, ρ, L, s, a, dx, x, rfl, R, hH, _, rfl, ?_⟩
      by_cases hf : 65535 ≤ x.number ∨ Ks347.full s.desk = true
      · rw [if_pos hf] at e
        rw [decide_eq_true hf]
        exact iteT ⟨(by show 1 ≤ sizeLine; decide), k.no R (desk_no (by decide) (fun _ z => by cases z) e)⟩
      · rw [if_neg hf] at e
        rw [decide_eq_false hf]
        refine iteF ⟨_, rfl, _, rfl, a, _, _, _, rfl, hH, T.t_Room.cl, T.t_Room_no_stay, (by show 3 < 1000; decide), R.nxRoom (r' := { x with stay := some l }) hx ha hc hH rfl fun H1 R1 F1 K1 h1 => ?_⟩
        refine ⟨_, rfl, a, _, _, _, _, rfl, h1, T.t_Room.cl, T.t_Room_no_number, rfl, _, _, rfl, rfl, _, rfl, a, _, _, _, rfl, h1, T.t_Room.cl, T.t_Room_no_number, (by show 3 < 1000; decide), R1.nxRoom (r' := ⟨x.zone, x.number + 1, some l⟩) (putRoom_get hx) ha hc h1 rfl fun H2 R2 F2 K2 h2 => ?_⟩
        have hg2 := K2 _ _ (K1 _ _ hg nga) nga
        rw [putRoom_put] at R2
        rw [desk_mk (by rfl) (by rfl) (by rfl) e] at k
        exact ⟨_, rfl, _, rfl, ga, _, _, _, rfl, rfl, SqL.of (hg2), at0, ρ, L, _, r, l, _, rfl, R2, putRoom_get hx, rfl, k.via rfl (F1.trans F2)⟩
theorem ok_copy_card (T : Txt K mg A) : Ok P w K mg base 8 A.a_copy_card ["house", "given"] (SpC A (gsRoom fun r => .desk (.copy r))) := by
  refine T.t_copy_card.ok sc_copy_card (fun _ _ _ _ _ _ us hl => match us, hl with | [_, _], _ => rfl) (fun vs H Q E h => h.len) (fun cdv Ar outer st H vs Q E hr h => ?_)
  obtain ⟨ga, g, c, ρ, L, s, rfl, R, hg, hgc, ⟨r, x, rfl, hx, rfl⟩, k⟩ := h
  refine ⟨_, (pss_cons (ps_if (pt_cmpR op_isN (pe_fld (pe_ix ix_list (pe_fld (pe_fld (pv 0) rfl) rfl) (pe_ix ix_list (pv 1) pe_int (fun _ _ => rfl)) (fun _ _ => rfl)) rfl) pe_non (nomark _)) (pss_one (ps_ret (pe_lst (pa_cons (pe_co T.t_NO_STAY rfl) pa_nil)))) pss_nil)
      (pss_cons (ps_if (pt_val (pe_c (ok_no_more_cards T) (hr.mono (by decide)) rfl T.t_no_more_cards.mg (pa_cons (pv 0) pa_nil))) (pss_one (ps_ret (pe_lst (pa_cons (pe_co T.t_NO_MORE rfl) pa_nil)))) pss_nil)
      (pss_one (ps_ret (pe_c (ok_guest_card T) (hr.mono (by decide)) rfl T.t_guest_card.mg (pa_cons (pv 0) (pa_cons (pe_ix ix_list (pv 1) pe_int (fun _ _ => rfl)) pa_nil))))))), ?_⟩
  obtain ⟨a, dx, ha, hc, hH⟩ := R.rooms.at_ _ _ hx
  refine ⟨_, rfl, L.hs, _, _, _, _, rfl, R.house, T.t_House.cl, T.t_House_no_desk, rfl, L.dk, _, _, _, _, rfl, R.desk, T.t_Desk.cl, T.t_Desk_no_rooms, rfl, _, rfl, ga, _, _, _, rfl, rfl, SqL.of (hg), at0, L.rl, _, _, _, rfl, rfl, SqL.of (R.rooms.lst), (atR ha), a, _, _, _, _, rfl, hH, T.t_Room.cl, T.t_Room_no_stay, rfl, rfl, _, rfl, ?_⟩
  have e := act_copy R.good hx
  cases hs : x.stay with
  | none =>
    rw [hs] at e
    exact iteT ⟨(by show 1 ≤ sizeLine; decide), k.no R (desk_no (by decide) (fun _ z => by cases z) e)⟩
  | some l =>
    rw [hs] at e
    refine iteF ⟨_, rfl, ρ, L, s, rfl, R, _, rfl, ?_⟩
    dsimp only at e
    cases hf : Ks347.full s.desk with
    | true =>
      rw [if_pos hf] at e
      exact iteT ⟨(by show 1 ≤ sizeLine; decide), k.no R (desk_no (by decide) (fun _ z => by cases z) e)⟩
    | false =>
      rw [if_neg (by rw [hf]; exact Bool.false_ne_true)] at e
      rw [desk_mk (by rfl) (by rfl) (by rfl) e] at k
      exact iteF ⟨_, rfl, _, rfl, ga, _, _, _, rfl, rfl, SqL.of (hg), at0, ρ, L, s, r, l, x, rfl, R, hx, hs, k⟩
theorem ok_replace_lost (T : Txt K mg A) : Ok P w K mg base 8 A.a_replace_lost ["house", "given"] (SpC A (gsRoom fun r => .desk (.lost r))) := by
  refine T.t_replace_lost.ok sc_replace_lost (fun _ _ _ _ _ _ us hl => match us, hl with | [_, _], _ => rfl) (fun vs H Q E h => h.len) (fun cdv Ar outer st H vs Q E hr h => ?_)
  obtain ⟨ga, g, c, ρ, L, s, rfl, R, hg, hgc, ⟨r, x, rfl, hx, rfl⟩, k⟩ := h
  refine ⟨_, (pss_cons (ps_set (i := 2) sc_replace_lost.nd rfl (Or.inl rfl) (pe_ix ix_list (pe_fld (pe_fld (pv 0) rfl) rfl) (pe_ix ix_list (pv 1) pe_int (fun _ _ => rfl)) (fun _ _ => rfl)))
      (pss_cons (ps_if (pt_cmpR op_isN (pe_fld (pv 2) rfl) pe_non (nomark _)) (pss_one (ps_ret (pe_lst (pa_cons (pe_co T.t_NO_STAY rfl) pa_nil)))) pss_nil)
      (pss_cons (ps_if (pt_val (pe_c (ok_no_newer_card T) (hr.mono (by decide)) rfl T.t_no_newer_card.mg (pa_cons (pv 0) (pa_cons (pv 2) pa_nil)))) (pss_one (ps_ret (pe_lst (pa_cons (pe_co T.t_NO_MORE rfl) pa_nil)))) pss_nil)
      (pss_cons (ps_fld (pv 2) (pe_op op_add (pe_fld (pv 2) rfl) pe_int) rfl)
      (pss_one (ps_ret (pe_c (ok_guest_card T) (hr.mono (by decide)) rfl T.t_guest_card.mg (pa_cons (pv 0) (pa_cons (pe_ix ix_list (pv 1) pe_int (fun _ _ => rfl)) pa_nil))))))))), ?_⟩
  obtain ⟨a, dx, ha, hc, hH⟩ := R.rooms.at_ _ _ hx
  have nga : ga ≠ a := ne_of hg hH (by intro z; cases z)
  refine ⟨_, rfl, L.hs, _, _, _, _, rfl, R.house, T.t_House.cl, T.t_House_no_desk, rfl, L.dk, _, _, _, _, rfl, R.desk, T.t_Desk.cl, T.t_Desk_no_rooms, rfl, _, rfl, ga, _, _, _, rfl, rfl, SqL.of (hg), at0, L.rl, _, _, _, rfl, rfl, SqL.of (R.rooms.lst), (atR ha), ?_⟩
  refine ⟨_, rfl, a, _, _, _, _, rfl, hH, T.t_Room.cl, T.t_Room_no_stay, rfl, rfl, _, rfl, ?_⟩
  have e := act_lost R.good hx
  cases hs : x.stay with
  | none =>
    rw [hs] at e
    exact iteT ⟨(by show 1 ≤ sizeLine; decide), k.no R (desk_no (by decide) (fun _ z => by cases z) e)⟩
  | some l =>
    rw [hs] at e
    refine iteF ⟨_, rfl, _, rfl, ρ, L, s, a, dx, x, rfl, R, hH, _, rfl, ?_⟩
    dsimp only at e
    by_cases hf : 65535 ≤ x.number ∨ Ks347.full s.desk = true
    · rw [if_pos hf] at e
      rw [decide_eq_true hf]
      exact iteT ⟨(by show 1 ≤ sizeLine; decide), k.no R (desk_no (by decide) (fun _ z => by cases z) e)⟩
    · rw [if_neg hf] at e
      rw [decide_eq_false hf]
      refine iteF ⟨_, rfl, a, _, _, _, _, rfl, hH, T.t_Room.cl, T.t_Room_no_number, rfl, _, _, rfl, rfl, _, rfl, a, _, _, _, rfl, hH, T.t_Room.cl, T.t_Room_no_number, (by show 3 < 1000; decide), R.nxRoom (r' := { x with number := x.number + 1 }) hx ha hc hH rfl fun H2 R2 F2 K2 h2 => ?_⟩
      have hg2 := K2 _ _ hg nga
      have ex : ({ x with number := x.number + 1 } : Ks347.Room) = ⟨x.zone, x.number + 1, some l⟩ := by rw [← hs]
      rw [ex] at R2
      rw [desk_mk (by rfl) (by rfl) (by rfl) e] at k
      exact ⟨_, rfl, _, rfl, ga, _, _, _, rfl, rfl, SqL.of (hg2), at0, ρ, L, _, r, l, _, rfl, R2, putRoom_get hx, rfl, k.via rfl F2⟩
theorem ok_stay_longer (T : Txt K mg A) : Ok P w K mg base 8 A.a_stay_longer ["house", "given"] (SpC A (gsRoom2 fun r l => .desk (.longer r l))) := by
  refine T.t_stay_longer.ok sc_stay_longer (fun _ _ _ _ _ _ us hl => match us, hl with | [_, _], _ => rfl) (fun vs H Q E h => h.len) (fun cdv Ar outer st H vs Q E hr h => ?_)
  obtain ⟨ga, g, c, ρ, L, s, rfl, R, hg, hgc, ⟨r, m, x, rfl, hx, rfl⟩, k⟩ := h
  refine ⟨_, (pss_cons (ps_set (i := 2) sc_stay_longer.nd rfl (Or.inl rfl) (pe_ix ix_list (pe_fld (pe_fld (pv 0) rfl) rfl) (pe_ix ix_list (pv 1) pe_int (fun _ _ => rfl)) (fun _ _ => rfl)))
      (pss_cons (ps_set (i := 3) sc_stay_longer.nd rfl (Or.inl rfl) (pe_ix ix_list (pv 1) pe_int (fun _ _ => rfl)))
      (pss_cons (ps_if (pt_cmpR op_isN (pe_fld (pv 2) rfl) pe_non (nomark _)) (pss_one (ps_ret (pe_lst (pa_cons (pe_co T.t_NO_STAY rfl) pa_nil)))) pss_nil)
      (pss_cons (ps_if (pt_not (pt_val (pe_c (ok_is_day_from T) (hr.mono (by decide)) rfl T.t_is_day_from.mg (pa_cons (pe_fld (pv 2) rfl) (pa_cons (pv 3) pa_nil))))) (pss_one (ps_ret (pe_lst (pa_cons (pe_co T.t_WRONG rfl) pa_nil)))) pss_nil)
      (pss_cons (ps_if (pt_val (pe_c (ok_no_more_cards T) (hr.mono (by decide)) rfl T.t_no_more_cards.mg (pa_cons (pv 0) pa_nil))) (pss_one (ps_ret (pe_lst (pa_cons (pe_co T.t_NO_MORE rfl) pa_nil)))) pss_nil)
      (pss_cons (ps_fld (pv 2) (pv 3) rfl)
      (pss_one (ps_ret (pe_c (ok_guest_card T) (hr.mono (by decide)) rfl T.t_guest_card.mg (pa_cons (pv 0) (pa_cons (pe_ix ix_list (pv 1) pe_int (fun _ _ => rfl)) pa_nil))))))))))), ?_⟩
  obtain ⟨a, dx, ha, hc, hH⟩ := R.rooms.at_ _ _ hx
  have nga : ga ≠ a := ne_of hg hH (by intro z; cases z)
  refine ⟨_, rfl, L.hs, _, _, _, _, rfl, R.house, T.t_House.cl, T.t_House_no_desk, rfl, L.dk, _, _, _, _, rfl, R.desk, T.t_Desk.cl, T.t_Desk_no_rooms, rfl, _, rfl, ga, _, _, _, rfl, rfl, SqL.of (hg), at0, L.rl, _, _, _, rfl, rfl, SqL.of (R.rooms.lst), (atR ha), _, rfl, ga, _, _, _, rfl, rfl, SqL.of (hg), at1, ?_⟩
  refine ⟨_, rfl, a, _, _, _, _, rfl, hH, T.t_Room.cl, T.t_Room_no_stay, rfl, rfl, _, rfl, ?_⟩
  have e := act_longer R.good hx (m := m)
  cases hs : x.stay with
  | none =>
    rw [hs] at e
    exact iteT ⟨(by show 1 ≤ sizeLine; decide), k.no R (desk_no (by decide) (fun _ z => by cases z) e)⟩
  | some l =>
    rw [hs] at e
    dsimp only at e
    have hH' := hH
    unfold roomF at hH'
    rw [hs] at hH'
    refine iteF ⟨_, rfl, a, _, _, _, _, rfl, hH', T.t_Room.cl, T.t_Room_no_stay, rfl, _, rfl, l, m, rfl, _, rfl, ?_⟩
    cases hd : dayFrom l m with
    | false =>
      rw [if_pos (dayF hd)] at e
      exact iteT ⟨(by show 1 ≤ sizeLine; decide), k.no R (desk_no (by decide) (fun _ z => by cases z) e)⟩
    | true =>
      rw [if_neg (dayT hd)] at e
      refine iteF ⟨_, rfl, ρ, L, s, rfl, R, _, rfl, ?_⟩
      cases hf : Ks347.full s.desk with
      | true =>
        rw [if_pos hf] at e
        exact iteT ⟨(by show 1 ≤ sizeLine; decide), k.no R (desk_no (by decide) (fun _ z => by cases z) e)⟩
      | false =>
        rw [if_neg (by rw [hf]; exact Bool.false_ne_true)] at e
        refine iteF ⟨_, rfl, _, rfl, a, _, _, _, rfl, hH, T.t_Room.cl, T.t_Room_no_stay, (by show 3 < 1000; decide), R.nxRoom (r' := ⟨x.zone, x.number, some m⟩) hx ha hc hH rfl fun H2 R2 F2 K2 h2 => ?_⟩
        have hg2 := K2 _ _ hg nga
        rw [desk_mk (by rfl) (by rfl) (by rfl) e] at k
        exact ⟨_, rfl, _, rfl, ga, _, _, _, rfl, rfl, SqL.of (hg2), at0, ρ, L, _, r, m, _, rfl, R2, putRoom_get hx, rfl, k.via rfl F2⟩
theorem ok_leave (T : Txt K mg A) : Ok P w K mg base 2 A.a_leave ["house", "given"] (SpC A (gsRoom fun r => .desk (.leave r))) := by
  refine T.t_leave.ok sc_leave (fun _ _ _ _ _ _ us hl => match us, hl with | [_, _], _ => rfl) (fun vs H Q E h => h.len) (fun cdv Ar outer st H vs Q E hr h => ?_)
  obtain ⟨ga, g, c, ρ, L, s, rfl, R, hg, hgc, ⟨r, x, rfl, hx, rfl⟩, k⟩ := h
  refine ⟨_, (pss_cons (ps_set (i := 2) sc_leave.nd rfl (Or.inl rfl) (pe_ix ix_list (pe_fld (pe_fld (pv 0) rfl) rfl) (pe_ix ix_list (pv 1) pe_int (fun _ _ => rfl)) (fun _ _ => rfl)))
      (pss_cons (ps_if (pt_cmpR op_isN (pe_fld (pv 2) rfl) pe_non (nomark _)) (pss_one (ps_ret (pe_lst (pa_cons (pe_co T.t_NO_STAY rfl) pa_nil)))) pss_nil)
      (pss_cons (ps_fld (pv 2) pe_non rfl)
      (pss_one (ps_ret (pe_lst (pa_cons pe_int pa_nil))))))), ?_⟩
  obtain ⟨a, dx, ha, hc, hH⟩ := R.rooms.at_ _ _ hx
  refine ⟨_, rfl, L.hs, _, _, _, _, rfl, R.house, T.t_House.cl, T.t_House_no_desk, rfl, L.dk, _, _, _, _, rfl, R.desk, T.t_Desk.cl, T.t_Desk_no_rooms, rfl, _, rfl, ga, _, _, _, rfl, rfl, SqL.of (hg), at0, L.rl, _, _, _, rfl, rfl, SqL.of (R.rooms.lst), (atR ha), ?_⟩
  refine ⟨_, rfl, a, _, _, _, _, rfl, hH, T.t_Room.cl, T.t_Room_no_stay, rfl, rfl, _, rfl, ?_⟩
  have e := act_leave R.good hx
  cases hs : x.stay with
  | none =>
    rw [hs] at e
    exact iteT ⟨(by show 1 ≤ sizeLine; decide), k.no R (desk_no (by decide) (fun _ z => by cases z) e)⟩
  | some l =>
    rw [hs] at e
    refine iteF ⟨_, rfl, a, _, _, _, rfl, hH, T.t_Room.cl, T.t_Room_no_stay, (by show 3 < 1000; decide), R.nxRoom (r' := ⟨x.zone, x.number, none⟩) hx ha hc hH rfl fun H2 R2 F2 K2 h2 => ?_⟩
    rw [desk_do (by rfl) (fun _ z => by cases z) e] at k
    exact ⟨(by show 1 ≤ sizeLine; decide), k.did F2 R2 rfl⟩
theorem ok_shut_room (T : Txt K mg A) : Ok P w K mg base 8 A.a_shut_room ["house", "given"] (SpC A (gsRoom fun r => .desk (.shut r))) := by
  refine T.t_shut_room.ok sc_shut_room (fun _ _ _ _ _ _ us hl => match us, hl with | [_, _], _ => rfl) (fun vs H Q E h => h.len) (fun cdv Ar outer st H vs Q E hr h => ?_)
  obtain ⟨ga, g, c, ρ, L, s, rfl, R, hg, hgc, ⟨r, x, rfl, hx, rfl⟩, k⟩ := h
  refine ⟨_, (pss_cons (ps_set (i := 2) sc_shut_room.nd rfl (Or.inl rfl) (pe_ix ix_list (pe_fld (pe_fld (pv 0) rfl) rfl) (pe_ix ix_list (pv 1) pe_int (fun _ _ => rfl)) (fun _ _ => rfl)))
      (pss_cons (ps_if (pt_cmpR op_notN (pe_fld (pv 2) rfl) pe_non (nomark _)) (pss_one (ps_ret (pe_lst (pa_cons (pe_co T.t_HAS_STAY rfl) pa_nil)))) pss_nil)
      (pss_cons (ps_if (pt_val (pe_c (ok_no_newer_card T) (hr.mono (by decide)) rfl T.t_no_newer_card.mg (pa_cons (pv 0) (pa_cons (pv 2) pa_nil)))) (pss_one (ps_ret (pe_lst (pa_cons (pe_co T.t_NO_MORE rfl) pa_nil)))) pss_nil)
      (pss_cons (ps_fld (pv 2) (pe_op op_add (pe_fld (pv 2) rfl) pe_int) rfl)
      (pss_one (ps_ret (pe_c (ok_make_card T) (hr.mono (by decide)) rfl T.t_make_card.mg (pa_cons (pv 0) (pa_cons (pe_co T.t_SHUTTING rfl) (pa_cons (pe_ix ix_list (pv 1) pe_int (fun _ _ => rfl)) (pa_cons (pe_fld (pv 2) rfl) (pa_cons (pe_fld (pe_fld (pv 0) rfl) rfl) pa_nil)))))))))))), ?_⟩
  obtain ⟨a, dx, ha, hc, hH⟩ := R.rooms.at_ _ _ hx
  have nga : ga ≠ a := ne_of hg hH (by intro z; cases z)
  have hi : r < 64 := Nat.lt_of_lt_of_le (List.getElem?_eq_some_iff.mp hx).1 R.good.rm
  refine ⟨_, rfl, L.hs, _, _, _, _, rfl, R.house, T.t_House.cl, T.t_House_no_desk, rfl, L.dk, _, _, _, _, rfl, R.desk, T.t_Desk.cl, T.t_Desk_no_rooms, rfl, _, rfl, ga, _, _, _, rfl, rfl, SqL.of (hg), at0, L.rl, _, _, _, rfl, rfl, SqL.of (R.rooms.lst), (atR ha), ?_⟩
  refine ⟨_, rfl, a, _, _, _, _, rfl, hH, T.t_Room.cl, T.t_Room_no_stay, rfl, rfl, _, rfl, ?_⟩
  have e := act_shut R.good hx
  cases hs : x.stay with
  | some l =>
    rw [hs, if_pos Option.isSome_some] at e
    exact iteT ⟨(by show 1 ≤ sizeLine; decide), k.no R (desk_no (by decide) (fun _ z => by cases z) e)⟩
  | none =>
    rw [hs, if_neg (by simp)] at e
    refine iteF ⟨_, rfl, _, rfl, ρ, L, s, a, dx, x, rfl, R, hH, _, rfl, ?_⟩
    by_cases hf : 65535 ≤ x.number ∨ Ks347.full s.desk = true
    · rw [if_pos hf] at e
      rw [decide_eq_true hf]
      exact iteT ⟨(by show 1 ≤ sizeLine; decide), k.no R (desk_no (by decide) (fun _ z => by cases z) e)⟩
    · rw [if_neg hf] at e
      rw [decide_eq_false hf]
      refine iteF ⟨_, rfl, a, _, _, _, _, rfl, hH, T.t_Room.cl, T.t_Room_no_number, rfl, _, _, rfl, rfl, _, rfl, a, _, _, _, rfl, hH, T.t_Room.cl, T.t_Room_no_number, (by show 3 < 1000; decide), R.nxRoom (r' := { x with number := x.number + 1 }) hx ha hc hH rfl fun H2 R2 F2 K2 h2 => ?_⟩
      have hg2 := K2 _ _ hg nga
      have ex : ({ x with number := x.number + 1 } : Ks347.Room) = ⟨x.zone, x.number + 1, none⟩ := by rw [← hs]
      rw [ex] at R2 h2
      rw [desk_mk (by rfl) (by rfl) (by rfl) e] at k
      exact ⟨_, rfl, _, rfl, ga, _, _, _, rfl, rfl, SqL.of (hg2), at0, _, rfl, a, _, _, _, _, rfl, h2, T.t_Room.cl, T.t_Room_no_number, rfl, _, rfl, L.hs, _, _, _, _, rfl, R2.house, T.t_House.cl, T.t_House_no_desk, rfl, L.dk, _, _, _, _, rfl, R2.desk, T.t_Desk.cl, T.t_Desk_no_day, rfl, ρ, L, _, 3, r, x.number + 1, s.desk.day, rfl, R2, by decide, by omega, k.via rfl F2⟩
theorem ok_staff_card (T : Txt K mg A) : Ok P w K mg base 8 A.a_staff_card ["house", "given"] (SpC A (gs2 fun z l => .desk (.staff z l))) := by
  refine T.t_staff_card.ok sc_staff_card (fun _ _ _ _ _ _ us hl => match us, hl with | [_, _], _ => rfl) (fun vs H Q E h => h.len) (fun cdv Ar outer st H vs Q E hr h => ?_)
  obtain ⟨ga, g, c, ρ, L, s, rfl, R, hg, hgc, ⟨z, l, rfl, rfl⟩, k⟩ := h
  refine ⟨_, (pss_cons (ps_set (i := 2) sc_staff_card.nd rfl (Or.inl rfl) (pe_ix ix_list (pv 1) pe_int (fun _ _ => rfl)))
      (pss_cons (ps_set (i := 3) sc_staff_card.nd rfl (Or.inl rfl) (pe_ix ix_list (pv 1) pe_int (fun _ _ => rfl)))
      (pss_cons (ps_if (PW.pt (pw_or (pt_cmpR op_lt (pv 2) pe_int (nomark _)) (pw_or (pt_cmpR op_gt (pv 2) (pe_co T.t_ALL_ZONES rfl) (nomark _)) (pw_or1 (pt_not (pt_val (pe_c (ok_is_day_from T) (hr.mono (by decide)) rfl T.t_is_day_from.mg (pa_cons (pe_fld (pe_fld (pv 0) rfl) rfl) (pa_cons (pv 3) pa_nil))))))))) (pss_one (ps_ret (pe_lst (pa_cons (pe_co T.t_WRONG rfl) pa_nil)))) pss_nil)
      (pss_cons (ps_if (pt_val (pe_c (ok_no_more_cards T) (hr.mono (by decide)) rfl T.t_no_more_cards.mg (pa_cons (pv 0) pa_nil))) (pss_one (ps_ret (pe_lst (pa_cons (pe_co T.t_NO_MORE rfl) pa_nil)))) pss_nil)
      (pss_one (ps_ret (pe_c (ok_make_card T) (hr.mono (by decide)) rfl T.t_make_card.mg (pa_cons (pv 0) (pa_cons (pe_co T.t_STAFF rfl) (pa_cons (pv 2) (pa_cons (pe_fld (pe_fld (pv 0) rfl) rfl) (pa_cons (pv 3) pa_nil)))))))))))), ?_⟩
  have e := act_staff R.good (z := z) (l := l)
  refine ⟨_, rfl, ga, _, _, _, rfl, rfl, SqL.of (hg), at0, _, rfl, ga, _, _, _, rfl, rfl, SqL.of (hg), at1, _, rfl, _, _, rfl, rfl, _, rfl, ?_⟩
  by_cases h1 : z < 1
  · rw [if_pos (.inl (by omega))] at e
    rw [decide_eq_true (show (z : Int) < 1 by omega)]
    exact iteT (iteT ⟨(by show 1 ≤ sizeLine; decide), k.no R (desk_no (by decide) (fun _ z => by cases z) e)⟩)
  rw [decide_eq_false (show ¬ (z : Int) < 1 by omega)]
  refine iteF ⟨_, rfl, _, _, rfl, rfl, _, rfl, ?_⟩
  by_cases h2 : 255 < z
  · rw [if_pos (.inr (.inl (by omega)))] at e
    rw [decide_eq_true (show (255 : Int) < z by omega)]
    exact iteT (iteT ⟨(by show 1 ≤ sizeLine; decide), k.no R (desk_no (by decide) (fun _ z => by cases z) e)⟩)
  rw [decide_eq_false (show ¬ (255 : Int) < z by omega)]
  refine iteF ⟨_, rfl, L.hs, _, _, _, _, rfl, R.house, T.t_House.cl, T.t_House_no_desk, rfl, L.dk, _, _, _, _, rfl, R.desk, T.t_Desk.cl, T.t_Desk_no_day, rfl, _, rfl, _, _, rfl, _, rfl, ?_⟩
  cases hd : dayFrom s.desk.day l with
  | false =>
    rw [if_pos (.inr (.inr (dayF hd)))] at e
    exact iteT ⟨(by show 1 ≤ sizeLine; decide), k.no R (desk_no (by decide) (fun _ z => by cases z) e)⟩
  | true =>
    rw [if_neg (by have := dayT hd; omega)] at e
    refine iteF ⟨_, rfl, ρ, L, s, rfl, R, _, rfl, ?_⟩
    cases hf : Ks347.full s.desk with
    | true =>
      rw [if_pos hf] at e
      exact iteT ⟨(by show 1 ≤ sizeLine; decide), k.no R (desk_no (by decide) (fun _ z => by cases z) e)⟩
    | false =>
      rw [if_neg (by rw [hf]; exact Bool.false_ne_true)] at e
      rw [desk_mk (by rfl) (by rfl) (by rfl) e] at k
      exact iteF ⟨_, rfl, _, rfl, _, rfl, L.hs, _, _, _, _, rfl, R.house, T.t_House.cl, T.t_House_no_desk, rfl, L.dk, _, _, _, _, rfl, R.desk, T.t_Desk.cl, T.t_Desk_no_staff_round, rfl, _, rfl, ρ, L, s, 2, z, s.desk.epoch, l, rfl, R, by decide, by omega, k⟩
theorem ok_recall_staff (T : Txt K mg A) : Ok P w K mg base 2 A.a_recall_staff ["house", "given"] (SpC A (gs0 (.desk .recall))) := by
  refine T.t_recall_staff.ok sc_recall_staff (fun _ _ _ _ _ _ us hl => match us, hl with | [_, _], _ => rfl) (fun vs H Q E h => h.len) (fun cdv Ar outer st H vs Q E hr h => ?_)
  obtain ⟨ga, g, c, ρ, L, s, rfl, R, hg, hgc, ⟨rfl, rfl⟩, k⟩ := h
  refine ⟨_, (pss_cons (ps_set (i := 2) sc_recall_staff.nd rfl (Or.inl rfl) (pe_fld (pv 0) rfl))
      (pss_cons (ps_if (pt_cmpR op_ge (pe_fld (pv 2) rfl) (pe_co T.t_MOST rfl) (nomark _)) (pss_one (ps_ret (pe_lst (pa_cons (pe_co T.t_NO_MORE rfl) pa_nil)))) pss_nil)
      (pss_cons (ps_fld (pv 2) (pe_op op_add (pe_fld (pv 2) rfl) pe_int) rfl)
      (pss_one (ps_ret (pe_lst (pa_cons (pe_fld (pv 2) rfl) pa_nil))))))), ?_⟩
  have e := act_recall R.good
  refine ⟨_, rfl, L.hs, _, _, _, _, rfl, R.house, T.t_House.cl, T.t_House_no_desk, rfl, _, rfl, L.dk, _, _, _, _, rfl, R.desk, T.t_Desk.cl, T.t_Desk_no_staff_round, rfl, _, _, rfl, rfl, _, rfl, ?_⟩
  by_cases h1 : 65535 ≤ s.desk.epoch
  · rw [if_pos h1] at e
    rw [decide_eq_true (show (65535 : Int) ≤ (s.desk.epoch : Nat) by omega)]
    exact iteT ⟨(by show 1 ≤ sizeLine; decide), k.no R (desk_no (by decide) (fun _ z => by cases z) e)⟩
  · rw [if_neg h1] at e
    rw [decide_eq_false (show ¬ (65535 : Int) ≤ (s.desk.epoch : Nat) by omega)]
    refine iteF ⟨_, rfl, L.dk, _, _, _, _, rfl, R.desk, T.t_Desk.cl, T.t_Desk_no_staff_round, rfl, _, _, rfl, rfl, _, rfl, L.dk, _, _, _, rfl, R.desk, T.t_Desk.cl, T.t_Desk_no_staff_round, (by show 5 < 1000; decide), R.nxDesk (d := { s.desk with epoch := s.desk.epoch + 1 }) rfl rfl fun H1 R1 F1 K1 => ?_⟩
    rw [desk_do (by rfl) (fun _ z => by cases z) e] at k
    exact ⟨_, rfl, L.dk, _, _, _, _, rfl, R1.desk, T.t_Desk.cl, T.t_Desk_no_staff_round, rfl, (by show 1 ≤ sizeLine; decide), k.did F1 R1 rfl⟩
theorem ok_emergency_card (T : Txt K mg A) : Ok P w K mg base 8 A.a_emergency_card ["house", "given"] (SpC A (gs1 fun l => .desk (.need l))) := by
  refine T.t_emergency_card.ok sc_emergency_card (fun _ _ _ _ _ _ us hl => match us, hl with | [_, _], _ => rfl) (fun vs H Q E h => h.len) (fun cdv Ar outer st H vs Q E hr h => ?_)
  obtain ⟨ga, g, c, ρ, L, s, rfl, R, hg, hgc, ⟨l, rfl, rfl⟩, k⟩ := h
  refine ⟨_, (pss_cons (ps_set (i := 2) sc_emergency_card.nd rfl (Or.inl rfl) (pe_ix ix_list (pv 1) pe_int (fun _ _ => rfl)))
      (pss_cons (ps_if (pt_not (pt_val (pe_c (ok_is_day_from T) (hr.mono (by decide)) rfl T.t_is_day_from.mg (pa_cons (pe_fld (pe_fld (pv 0) rfl) rfl) (pa_cons (pv 2) pa_nil))))) (pss_one (ps_ret (pe_lst (pa_cons (pe_co T.t_WRONG rfl) pa_nil)))) pss_nil)
      (pss_cons (ps_if (pt_val (pe_c (ok_no_more_cards T) (hr.mono (by decide)) rfl T.t_no_more_cards.mg (pa_cons (pv 0) pa_nil))) (pss_one (ps_ret (pe_lst (pa_cons (pe_co T.t_NO_MORE rfl) pa_nil)))) pss_nil)
      (pss_one (ps_ret (pe_c (ok_make_card T) (hr.mono (by decide)) rfl T.t_make_card.mg (pa_cons (pv 0) (pa_cons (pe_co T.t_EMERGENCY rfl) (pa_cons (pe_co T.t_EVERYWHERE rfl) (pa_cons (pe_fld (pe_fld (pv 0) rfl) rfl) (pa_cons (pv 2) pa_nil))))))))))), ?_⟩
  have e := act_need R.good (l := l)
  refine ⟨_, rfl, ga, _, _, _, rfl, rfl, SqL.of (hg), at0, _, rfl, L.hs, _, _, _, _, rfl, R.house, T.t_House.cl, T.t_House_no_desk, rfl, L.dk, _, _, _, _, rfl, R.desk, T.t_Desk.cl, T.t_Desk_no_day, rfl, _, rfl, _, _, rfl, _, rfl, ?_⟩
  cases hd : dayFrom s.desk.day l with
  | false =>
    rw [if_pos (dayF hd)] at e
    exact iteT ⟨(by show 1 ≤ sizeLine; decide), k.no R (desk_no (by decide) (fun _ z => by cases z) e)⟩
  | true =>
    rw [if_neg (dayT hd)] at e
    refine iteF ⟨_, rfl, ρ, L, s, rfl, R, _, rfl, ?_⟩
    cases hf : Ks347.full s.desk with
    | true =>
      rw [if_pos hf] at e
      exact iteT ⟨(by show 1 ≤ sizeLine; decide), k.no R (desk_no (by decide) (fun _ z => by cases z) e)⟩
    | false =>
      rw [if_neg (by rw [hf]; exact Bool.false_ne_true)] at e
      rw [desk_mk (by rfl) (by rfl) (by rfl) e] at k
      exact iteF ⟨_, rfl, _, rfl, L.hs, _, _, _, _, rfl, R.house, T.t_House.cl, T.t_House_no_desk, rfl, L.dk, _, _, _, _, rfl, R.desk, T.t_Desk.cl, T.t_Desk_no_staff_round, rfl, _, rfl, ρ, L, s, 4, 255, s.desk.epoch, l, rfl, R, by decide, by decide, k⟩
end
end Dc

set_option Elab.async false
set_option linter.all false
set_option maxRecDepth 100000
set_option maxHeartbeats 2000000
/-! rooms, days, and what the desk tells -/
namespace Dc
open PySem PySem.Spec PyProof.Rows L2
/-- a comprehension over enumerate(list) -/
theorem lc_enum {K : PySem.W.Frag} {a : Addr} {xs : List V} {g : TG} {tt : TT} {te : TE} {vs : List Nat} {σ : L2.St} {H1 : Hp} {D : Addr} {Qd : Hp → Prop} (Pv : Nat → Hp → Prop) (h0 : Pv 0 (upd H1 D (.lst []))) (hl : ∀ i H, i ≤ xs.length → Pv i H → SqL K H a xs)
    (hs : ∀ i x H U, xs[i]? = some x → H U = none → Pv i H → g (.ref U) (wipe σ vs) (upd H U (.tup [.int (i : Nat), x])) fun σ2 H2 => wipe σ2 vs = wipe σ vs ∧ tt σ2 H2 fun b H3 =>
      if b = true then te σ2 H3 fun y H4 => ∃ acc, H4 D = some (.lst acc) ∧ acc.length < sizeLine ∧ Pv (i + 1) (upd H4 D (.lst (acc ++ [y]))) else Pv (i + 1) H3) (hd : ∀ H, Pv xs.length H → Qd H) :
    ∃ W : Nat → Nat → Hp → Prop, (∃ m, W 0 m (upd H1 D (.lst []))) ∧ ∀ i m H, W i m H →
      ((Ite K a).stop i H ∧ Qd H) ∨ ((Ite K a).go i H ∧ ∃ Nx : Hp → Prop, (∀ H', Nx H' → ∃ m', m' < m ∧ W (i + 1) m' H') ∧ ∀ x H', (Ite K a).yld i H x H' → g x (wipe σ vs) H' fun σ2 H2 => wipe σ2 vs = wipe σ vs ∧ tt σ2 H2 fun b H3 =>
        if b = true then te σ2 H3 fun y H4 => ∃ acc, H4 D = some (.lst acc) ∧ acc.length < sizeLine ∧ Nx (upd H4 D (.lst (acc ++ [y]))) else Nx H3) := by
  refine ⟨fun i m H => m = xs.length - i ∧ i ≤ xs.length ∧ Pv i H, ⟨xs.length, by simp, Nat.zero_le _, h0⟩, ?_⟩
  rintro i m H ⟨rfl, hi, p⟩
  have q := hl i H hi p
  by_cases hlt : i < xs.length
  · refine .inr ⟨⟨xs, xs[i], q, by simp [hlt]⟩, Pv (i + 1), fun H' p' => ⟨xs.length - (i + 1), by omega, rfl, hlt, p'⟩, fun x H' y => ?_⟩
    obtain ⟨U, z, e1, e2, e3, y⟩ := y
    subst e1 e3
    exact hs i z _ U (y xs q) e2 p
  · have e : i = xs.length := by omega
    subst e
    exact .inl ⟨⟨xs, q, Nat.le_refl _⟩, hd H p⟩
section
variable {P : Program} {w : World} {K : PySem.W.Frag} {mg : Str → Option Value} {base : Heap} {A : Ad}
def sp_Room_init (A : Ad) : Sp := fun vs H Q _ => ∃ (x dx : Addr) (z : Nat), vs = [.ref x, .int z] ∧ H x = some (.ins A.a_Room dx []) ∧ Q .non (upd H x (.ins A.a_Room dx (roomF ⟨z, 0, none⟩)))
theorem ok_Room_init (T : Txt K mg A) : Ok P w K mg base 1 A.a_Room_init ["self", "zone"] (sp_Room_init A) := by
  refine T.t_Room_init.ok sc_Room_init (fun _ _ _ _ _ _ us hl => match us, hl with | [_, _], _ => rfl) (fun vs H Q E h => by obtain ⟨_, _, _, rfl, _⟩ := h; rfl) (fun cdv Ar outer st H vs Q E hr h => ?_)
  obtain ⟨x, dx, z, rfl, hx, k⟩ := h
  refine ⟨_, (pss_cons (ps_fld (pv 0) (pv 1) rfl)
      (pss_cons (ps_fld (pv 0) pe_int rfl)
      (pss_one (ps_fld (pv 0) pe_non rfl)))), ?_⟩
  refine ⟨_, rfl, _, rfl, x, _, _, _, rfl, hx, T.t_Room.cl, T.t_Room_no_zone, (by show 0 < 1000; decide), ?_⟩
  refine ⟨_, rfl, x, _, _, _, rfl, upd_same, T.t_Room.cl, T.t_Room_no_number, (by show 1 < 1000; decide), ?_⟩
  refine ⟨_, rfl, x, _, _, _, rfl, upd_same, T.t_Room.cl, T.t_Room_no_stay, (by show 2 < 1000; decide), ?_⟩
  rw [upd_upd, upd_upd]
  exact k
theorem ok_add_room (T : Txt K mg A) : Ok P w K mg base 3 A.a_add_room ["house", "given"] (SpC A (gs1 fun z => .desk (.room z))) := by
  refine T.t_add_room.ok sc_add_room (fun _ _ _ _ _ _ us hl => match us, hl with | [_, _], _ => rfl) (fun vs H Q E h => h.len) (fun cdv Ar outer st H vs Q E hr h => ?_)
  obtain ⟨ga, g, c, ρ, L, s, rfl, R, hg, hgc, ⟨z, rfl, rfl⟩, k⟩ := h
  refine ⟨_, (pss_cons (ps_set (i := 2) sc_add_room.nd rfl (Or.inl rfl) (pe_ix ix_list (pv 1) pe_int (fun _ _ => rfl)))
      (pss_cons (ps_set (i := 3) sc_add_room.nd rfl (Or.inl rfl) (pe_fld (pe_fld (pv 0) rfl) rfl))
      (pss_cons (ps_if (pt_cmpR op_gt (pv 2) (pe_co T.t_LAST_ZONE rfl) (nomark _)) (pss_one (ps_ret (pe_lst (pa_cons (pe_co T.t_WRONG rfl) pa_nil)))) pss_nil)
      (pss_cons (ps_if (pt_cmpR op_ge (pe_callB call_len_seq (by rfl) T.b_len PySem.boot_len (pa_cons (pv 3) pa_nil)) (pe_co T.t_MOST_ROOMS rfl) (nomark _)) (pss_one (ps_ret (pe_lst (pa_cons (pe_co T.t_NO_MORE rfl) pa_nil)))) pss_nil)
      (pss_cons (ps_expr (pe_bm PySem.F.plainAttrs_list PySem.F.slot_list_append PySem.F.type_list_append mt_append (pv 3) (pa_cons (pe_k T.t_Room.mak (ok_Room_init T) (hr.mono (by decide)) rfl T.t_Room.mg (pa_cons (pv 2) pa_nil)) pa_nil)))
      (pss_one (ps_ret (pe_lst (pa_cons (pe_op op_sub (pe_callB call_len_seq (by rfl) T.b_len PySem.boot_len (pa_cons (pv 3) pa_nil)) pe_int) pa_nil))))))))), ?_⟩
  have e := act_room R.good (z := z)
  refine ⟨_, rfl, ga, _, _, _, rfl, rfl, SqL.of (hg), at0, _, rfl, L.hs, _, _, _, _, rfl, R.house, T.t_House.cl, T.t_House_no_desk, rfl, L.dk, _, _, _, _, rfl, R.desk, T.t_Desk.cl, T.t_Desk_no_rooms, rfl, _, rfl, _, _, rfl, rfl, _, rfl, ?_⟩
  by_cases h1 : 8 ≤ z
  · rw [if_pos h1] at e
    rw [decide_eq_true (show (7 : Int) < z by omega)]
    exact iteT ⟨(by show 1 ≤ sizeLine; decide), k.no R (desk_no (by decide) (fun _ z => by cases z) e)⟩
  rw [if_neg h1] at e
  rw [decide_eq_false (show ¬ (7 : Int) < z by omega)]
  refine iteF ⟨_, rfl, _, _, rfl, .inl (SqL.of (R.rooms.lst)), _, _, rfl, rfl, _, rfl, ?_⟩
  rw [R.roomsLen]
  by_cases h2 : 64 ≤ s.desk.rooms.length
  · rw [if_pos h2] at e
    rw [decide_eq_true (show (64 : Int) ≤ (s.desk.rooms.length : Nat) by omega)]
    exact iteT ⟨(by show 1 ≤ sizeLine; decide), k.no R (desk_no (by decide) (fun _ z => by cases z) e)⟩
  rw [if_neg h2] at e
  rw [decide_eq_false (show ¬ (64 : Int) ≤ (s.desk.rooms.length : Nat) by omega)]
  refine iteF ⟨_, rfl, .inl ⟨rfl, _, SqL.of R.rooms.lst⟩, _, rfl, fun x dx nx nd ne => ⟨x, dx, z, rfl, upd_same, rfl, ?_⟩⟩
  have S1 : Same H (upd (upd (upd H dx (.own x)) x (.ins A.a_Room dx [])) x (.ins A.a_Room dx (roomF ⟨z, 0, none⟩))) := fun b o e => by
    rw [upd_ne (ne_of_none e nx), upd_ne (ne_of_none e nx), upd_ne (ne_of_none e nd)]
    exact e
  have m0 : Mv H ρ _ (setc ρ x (.room s.desk.rooms.length)) NoC := (Mv.col nx).trans (Mv.same S1)
  have R1 := R.mv m0
  have F1 := Fr.mv (c0 := NoC) m0
  have hl := R.roomsLen
  refine ⟨L.rl, _, _, rfl, rfl, R1.rooms.lst, by rw [hl]; exact small1000 (by omega), ?_⟩
  have R2 := R1.addRoom (good_addRoom R.good (z := z) (by omega) (by omega)) upd_same setc_same
  have F2 := F1.trans (Fr.wrote (u := .lst (L.rs.map V.ref ++ [V.ref x])) R1.rooms.lst (by rw [R1.rooms.col]; rfl))
  rw [desk_do (by rfl) (fun _ z => by cases z) e] at k
  refine ⟨_, rfl, _, _, rfl, .inl (SqL.of (upd_same)), _, _, rfl, rfl, (by show 1 ≤ sizeLine; decide), k.did F2 R2 ?_⟩
  rw [List.length_append, hl]
  show [V.int (((s.desk.rooms.length + 1 : Nat) : Int) - 1)] = [V.int (s.desk.rooms.length : Nat)]
  rw [show ((s.desk.rooms.length + 1 : Nat) : Int) - 1 = (s.desk.rooms.length : Nat) by omega]
/-! ### set_day -/
theorem ok_set_day (T : Txt K mg A) : Ok P w K mg base 2 A.a_set_day ["house", "given"] (SpC A (gs1 fun d => .desk (.day d))) := by
  refine T.t_set_day.ok sc_set_day (fun _ _ _ _ _ _ us hl => match us, hl with | [_, _], _ => rfl) (fun vs H Q E h => h.len) (fun cdv Ar outer st H vs Q E hr h => ?_)
  obtain ⟨ga, g, c, ρ, L, s, rfl, R, hg, hgc, ⟨d, rfl, rfl⟩, k⟩ := h
  refine ⟨_, (pss_cons (ps_set (i := 2) sc_set_day.nd rfl (Or.inr rfl) (pe_ix ix_list (pv 1) pe_int (fun _ _ => rfl)))
      (pss_cons (ps_set (i := 3) sc_set_day.nd rfl (Or.inl rfl) (pe_fld (pv 0) rfl))
      (pss_cons (ps_if (pt_not (pt_val (pe_c (ok_is_day_from T) (hr.mono (by decide)) rfl T.t_is_day_from.mg (pa_cons (pe_fld (pv 3) rfl) (pa_cons (pv 2) pa_nil))))) (pss_one (ps_ret (pe_lst (pa_cons (pe_co T.t_WRONG rfl) pa_nil)))) pss_nil)
      (pss_cons (ps_fld (pv 3) (pv 2) rfl)
      (pss_cons (ps_setLc (i := 4) (own := [("room", 5)]) rfl sc_set_day.nd rfl rfl (sw_true rfl rfl rfl (by decide +kernel)) (pi_list (pe_fld (pv 3) rfl)) (blkOk_by (N := ["house", "given", "day", "desk", "over", "room"]) (sc := defScope s_set_day) (by decide +kernel)) (fun s H C cl fp => (pg_name (i := 5) sc_set_day.nd rfl (Or.inl rfl))) (fun s H C cl fp => pts_one (PW.pt (pw_and (pt_cmpR op_notN (pe_fldK (K := K) rfl (pv 5) rfl) pe_non (nomark _)) (pw_and1 (pt_cmpR op_lt (pe_fldK (K := K) rfl (pv 5) rfl) (pv 2) (nomark _)))))) (fun s H C cl fp => (pv 5)))
      (pss_cons (ps_for PassesOwn.never rfl (pi_list (pv 4)) (pg_name (i := 5) sc_set_day.nd rfl (Or.inl rfl)) (pss_one (ps_fld (pv 5) pe_non rfl)))
      (pss_one (ps_ret (pe_lst (pa_cons (pe_callB call_len_seq (by rfl) T.b_len PySem.boot_len (pa_cons (pv 4) pa_nil)) pa_nil)))))))))), ?_⟩
  have e := act_day R.good (d := d)
  refine ⟨_, rfl, ga, _, _, _, rfl, rfl, SqL.of (hg), at0, _, rfl, L.hs, _, _, _, _, rfl, R.house, T.t_House.cl, T.t_House_no_desk, rfl, _, rfl, L.dk, _, _, _, _, rfl, R.desk, T.t_Desk.cl, T.t_Desk_no_day, rfl, _, rfl, _, _, rfl, _, rfl, ?_⟩
  cases hd : dayFrom s.desk.day d with
  | false =>
    rw [if_pos (dayF hd)] at e
    exact iteT ⟨(by show 1 ≤ sizeLine; decide), k.no R (desk_no (by decide) (fun _ z => by cases z) e)⟩
  | true =>
    rw [if_neg (dayT hd)] at e
    refine iteF ⟨_, rfl, _, rfl, L.dk, _, _, _, rfl, R.desk, T.t_Desk.cl, T.t_Desk_no_day, (by show 5 < 1000; decide), R.nxDesk (d := { s.desk with day := d }) rfl rfl fun H1 R1 F1 K1 => ?_⟩
    let xs := fun i => (ixs (isOver d) s.desk.rooms i).map fun k => V.ref (L.rs.getD k 0)
    have xlen : ∀ i, (xs i).length ≤ i := fun i => by
      show ((ixs (isOver d) s.desk.rooms i).map _).length ≤ i
      rw [List.length_map]; exact ixs_le _ _ _
    refine ⟨_, rfl, L.dk, _, _, _, _, rfl, R1.desk, T.t_Desk.cl, T.t_Desk_no_rooms, rfl, L.rl, rfl, ⟨_, SqL.of R1.rooms.lst⟩, fun D hD => lc_list (K := K) (a := L.rl) (xs := L.rs.map V.ref) (fun i H' => Same H1 H' ∧ H' D = some (.lst (xs i))) ⟨same_new hD, upd_same⟩ (fun i H' _ q => SqL.of (q.1 _ _ R1.rooms.lst)) ?_ ?_⟩
    · rintro i y H' hi ⟨S', hD'⟩
      have hi' : i < s.desk.rooms.length := by
        have := (List.getElem?_eq_some_iff.mp hi).1
        rw [R1.roomsLen] at this
        exact this
      have hx := List.getElem?_eq_getElem hi'
      generalize s.desk.rooms[i] = r at hx
      obtain ⟨a, dx, ha, hc, hH⟩ := R1.rooms.at_ i r hx
      have hH' := S' _ _ hH
      have ey : y = V.ref a := by
        rw [List.getElem?_map, ha] at hi
        exact (Option.some.inj hi).symm
      subst ey
      have step := ixs_succ (isOver d) hx
      refine ⟨rfl, _, rfl, a, _, _, _, _, rfl, hH', T.t_Room.cl, T.t_Room_no_stay, rfl, rfl, _, rfl, ?_⟩
      cases hs : r.stay with
      | none =>
        rw [if_neg (by unfold isOver; rw [hs]; exact Bool.false_ne_true)] at step
        refine iteF (iteF ⟨S', ?_⟩)
        show H' D = some (.lst ((ixs (isOver d) s.desk.rooms (i + 1)).map _))
        rw [step]
        exact hD'
      | some l =>
        have io : isOver d r = decide (l < d) := by unfold isOver; rw [hs]
        rw [io] at step
        have hH2 := hH'
        unfold roomF at hH2
        rw [hs] at hH2
        refine iteT ⟨_, rfl, a, _, _, _, _, rfl, hH2, T.t_Room.cl, T.t_Room_no_stay, rfl, _, rfl, _, _, rfl, rfl, _, rfl, ?_⟩
        by_cases hl : l < d
        · rw [decide_eq_true (show (l : Int) < d by omega)]
          rw [if_pos (decide_eq_true hl)] at step
          refine iteT ⟨_, rfl, _, hD', Nat.lt_of_le_of_lt (xlen i) (small1000 (by have := R.good.rm; omega)), fun b o e => ?_, ?_⟩
          · rw [upd_ne (ne_of_none e hD)]
            exact S' b o e
          · rw [upd_same]
            show some (HO.lst (xs i ++ [V.ref a])) = some (.lst ((ixs (isOver d) s.desk.rooms (i + 1)).map _))
            rw [step, List.map_append]
            have ea : L.rs.getD i 0 = a := by rw [List.getD_eq_getElem?_getD, ha]; rfl
            rw [← ea]
            rfl
        · rw [decide_eq_false (show ¬ (l : Int) < d by omega)]
          rw [if_neg (by rw [decide_eq_false hl]; exact Bool.false_ne_true)] at step
          refine iteF ⟨S', ?_⟩
          show H' D = some (.lst ((ixs (isOver d) s.desk.rooms (i + 1)).map _))
          rw [step]
          exact hD'
    · rintro H2 ⟨S2, hD2⟩
      rw [R1.roomsLen] at hD2
      have hD2 : H2 D = some (.lst ((ixs (isOver d) s.desk.rooms s.desk.rooms.length).map fun k => V.ref (L.rs.getD k 0))) := hD2
      have R2 := R1.same S2
      have F2 := F1.trans (Fr.same S2)
      have memI : ∀ q ∈ ixs (isOver d) s.desk.rooms s.desk.rooms.length, q < s.desk.rooms.length := fun q hq => (ixs_mem hq).1
      have fin := endFor_all s.desk d
      have cnt := stays_diff s.desk d
      generalize ixs (isOver d) s.desk.rooms s.desk.rooms.length = ix at hD2 memI fin cnt
      refine ⟨_, rfl, D, rfl, ⟨_, SqL.of hD2⟩, for_list (K := K) (a := D) (xs := ix.map fun k => V.ref (L.rs.getD k 0)) (fun j σ H' => ∃ v : Option V, σ = [some (.ref L.hs), some (.ref ga), some (.int (d : Nat)), some (.ref L.dk), some (.ref D), v] ∧
          H' D = some (.lst (ix.map fun k => V.ref (L.rs.getD k 0))) ∧ Fr ρ H ρ H' ∧ Rep A H' ρ L { s with desk := { s.desk with day := d, rooms := endFor (ix.take j) s.desk.rooms } })
        ⟨none, rfl, hD2, F2, ?_⟩ (fun j σ H' _ ⟨_, _, q, _⟩ => SqL.of q) ?_ ?_⟩
      · rw [List.take_zero, endFor_nil]
        exact R2
      · rintro j y σ H' hj ⟨v, rfl, hD3, F3, R3⟩
        rw [List.getElem?_map] at hj
        cases hq : ix[j]? with
        | none => rw [hq] at hj; cases hj
        | some q =>
          rw [hq] at hj
          have ey : V.ref (L.rs.getD q 0) = y := Option.some.inj hj
          subst ey
          have hql := memI q (List.mem_of_getElem? hq)
          have hx := endFor_get (S := ix.take j) (List.getElem?_eq_getElem hql)
          generalize (if q ∈ ix.take j then { s.desk.rooms[q] with stay := none } else s.desk.rooms[q]) = r at hx
          obtain ⟨a, dx, ha, hc, hH⟩ := R3.rooms.at_ q r hx
          have ea : L.rs.getD q 0 = a := by rw [List.getD_eq_getElem?_getD, ha]; rfl
          rw [ea]
          refine ⟨_, rfl, a, _, _, _, rfl, hH, T.t_Room.cl, T.t_Room_no_stay, (by show 3 < 1000; decide), R3.nxRoom (r' := { r with stay := none }) hx ha hc hH rfl fun H4 R4 F4 K4 h4 => ?_⟩
          refine ⟨_, rfl, K4 _ _ hD3 (ne_of hD3 hH (by intro z; cases z)), F3.trans F4, ?_⟩
          have et : ix.take (j + 1) = ix.take j ++ [q] := by
            obtain ⟨hjl, ej⟩ := List.getElem?_eq_some_iff.mp hq
            rw [← ej]
            exact (List.take_append_getElem hjl).symm
          rw [et, endFor_snoc hx]
          exact R4
      · rintro σ H' ⟨v, rfl, hD3, F3, R3⟩
        rw [List.length_map, List.take_length, fin] at R3
        rw [desk_do (by rfl) (fun _ z => by cases z) e] at k
        refine ⟨_, rfl, _, _, rfl, .inl (SqL.of (hD3)), (by show 1 ≤ sizeLine; decide), k.did F3 R3 ?_⟩
        rw [List.length_map]
        show [V.int (ix.length : Nat)] = [V.int ((Ks347.stays s.desk - Ks347.stays { s.desk with day := d, rooms := Ks347.ended s.desk d } : Nat) : Int)]
        rw [cnt]
/-! ### tell_whose -/
theorem look_kind {key b : List Nat} {c : Ks345.Card} (h : Ks345.look key b = some c) : kindOk c := by
  unfold Ks345.look at h
  split at h
  · rename_i q
    have e : Ks345.cardOf b = c := Option.some.inj h
    rw [← e]
    have q := q.2.1
    unfold Ks345.okCard at q
    unfold kindOk
    simp only [Bool.and_eq_true] at q
    split at q
    · omega
    · split at q
      · omega
      · simp at q; omega
  · cases h
theorem ite01 (p : Prop) [Decidable p] : (if p then 1 else 0 : Nat) = 1 ∨ (if p then 1 else 0 : Nat) = 0 := by
  by_cases h : p <;> simp [h]
theorem good_01 (d : Ks347.Abs) (c : Ks345.Card) : Ks347.good d c = 1 ∨ Ks347.good d c = 0 := by
  unfold Ks347.good
  exact ite01 _
theorem ok_tell_whose (T : Txt K mg A) : Ok P w K mg base 6 A.a_tell_whose ["house", "given"] (SpC A (gsRow fun b => .desk (.whose b))) := by
  refine T.t_tell_whose.ok sc_tell_whose (fun _ _ _ _ _ _ us hl => match us, hl with | [_, _], _ => rfl) (fun vs H Q E h => h.len) (fun cdv Ar outer st H vs Q E hr h => ?_)
  obtain ⟨ga, g, c, ρ, L, s, rfl, R, hg, hgc, ⟨ra, b, rfl, hb, bb, rfl⟩, k⟩ := h
  refine ⟨_, (pss_cons (ps_set (i := 2) sc_tell_whose.nd rfl (Or.inl rfl) (pe_fld (pv 0) rfl))
      (pss_cons (ps_set (i := 3) sc_tell_whose.nd rfl (Or.inl rfl) (pe_c (ok_read_card T) (hr.mono (by decide)) rfl T.t_read_card.mg (pa_cons (pe_fld (pv 2) rfl) (pa_cons (pe_ix ix_list (pv 1) pe_int (fun _ _ => rfl)) pa_nil))))
      (pss_cons (ps_if (pt_cmpR op_isN (pv 3) pe_non (nomark _)) (pss_one (ps_ret (pe_lst (pa_cons (pe_co T.t_NO_CARD rfl) pa_nil)))) pss_nil)
      (pss_cons (ps_set (i := 4) sc_tell_whose.nd rfl (Or.inl rfl) (pe_ifExp (pt_val (pe_c (ok_is_good T) (hr.mono (by decide)) rfl T.t_is_good.mg (pa_cons (pv 2) (pa_cons (pv 3) pa_nil)))) pe_int pe_int))
      (pss_one (ps_ret (pe_lst (pa_cons (pv 4) (pa_cons (pe_fld (pv 3) rfl) (pa_cons (pe_fld (pv 3) rfl) (pa_cons (pe_fld (pv 3) rfl) (pa_cons (pe_fld (pv 3) rfl) (pa_cons (pe_fld (pv 3) rfl) pa_nil))))))))))))), ?_⟩
  have e := act_whose R.good (b := b)
  refine ⟨_, rfl, L.hs, _, _, _, _, rfl, R.house, T.t_House.cl, T.t_House_no_desk, rfl, _, rfl, L.dk, _, _, _, _, rfl, R.desk, T.t_Desk.cl, T.t_Desk_no_key, rfl, _, rfl, ga, _, _, _, rfl, rfl, SqL.of (hg), at0, L.ka, ra, s.desk.key, b, rfl, SqL.of R.key, R.good.kb, R.good.kl, SqL.of hb, bb, fun hn H1 S1 => ?_, fun c hc H1 x dx nx S1 hx => ?_⟩
  · rw [hn] at e
    rw [desk_no (by decide) (fun _ z => by cases z) e] at k
    exact ⟨_, rfl, rfl, _, rfl, iteT ⟨(by show 1 ≤ sizeLine; decide), k.told R rfl S1⟩⟩
  · rw [hc] at e
    rw [desk_do (by rfl) (fun _ z => by cases z) e] at k
    have R1 := R.same S1
    refine ⟨_, rfl, rfl, _, rfl, iteF ⟨_, rfl, _, rfl, ρ, L, s, x, dx, c, rfl, R1, hx, look_kind hc, _, rfl, ?_⟩⟩
    have tell : ∀ gd : Int, (Ks347.good s.desk c : Int) = gd → ∀ p, H1 p = none → Q (.ref p) (upd H1 p (.lst [.int gd, .int (c.kind : Nat), .int (c.place : Nat), .int (c.number : Nat), .int (c.last : Nat), .int (c.serial : Nat)])) := fun gd hgd => by
      subst hgd
      exact k.told R rfl S1
    rcases good_01 s.desk c with hg1 | hg1
    · rw [decide_eq_true hg1]
      exact iteT ⟨_, rfl, _, rfl, x, _, _, _, _, rfl, hx, T.t_Card.cl, T.t_Card_no_kind, rfl, _, rfl, x, _, _, _, _, rfl, hx, T.t_Card.cl, T.t_Card_no_place, rfl, _, rfl, x, _, _, _, _, rfl, hx, T.t_Card.cl, T.t_Card_no_number, rfl, _, rfl, x, _, _, _, _, rfl, hx, T.t_Card.cl, T.t_Card_no_last, rfl, _, rfl, x, _, _, _, _, rfl, hx, T.t_Card.cl, T.t_Card_no_serial, rfl, (by show 6 ≤ sizeLine; decide), tell 1 (by rw [hg1]; rfl)⟩
    · rw [decide_eq_false (by rw [hg1]; decide)]
      exact iteF ⟨_, rfl, _, rfl, x, _, _, _, _, rfl, hx, T.t_Card.cl, T.t_Card_no_kind, rfl, _, rfl, x, _, _, _, _, rfl, hx, T.t_Card.cl, T.t_Card_no_place, rfl, _, rfl, x, _, _, _, _, rfl, hx, T.t_Card.cl, T.t_Card_no_number, rfl, _, rfl, x, _, _, _, _, rfl, hx, T.t_Card.cl, T.t_Card_no_last, rfl, _, rfl, x, _, _, _, _, rfl, hx, T.t_Card.cl, T.t_Card_no_serial, rfl, (by show 6 ≤ sizeLine; decide), tell 0 (by rw [hg1]; rfl)⟩
/-! ### tell_stay, tell_free, tell_desk -/
theorem ok_tell_stay (T : Txt K mg A) : Ok P w K mg base 1 A.a_tell_stay ["house", "given"] (SpC A (gsRoom fun r => .desk (.stay r))) := by
  refine T.t_tell_stay.ok sc_tell_stay (fun _ _ _ _ _ _ us hl => match us, hl with | [_, _], _ => rfl) (fun vs H Q E h => h.len) (fun cdv Ar outer st H vs Q E hr h => ?_)
  obtain ⟨ga, g, c, ρ, L, s, rfl, R, hg, hgc, ⟨r, x, rfl, hx, rfl⟩, k⟩ := h
  refine ⟨_, (pss_cons (ps_set (i := 2) sc_tell_stay.nd rfl (Or.inl rfl) (pe_ix ix_list (pe_fld (pe_fld (pv 0) rfl) rfl) (pe_ix ix_list (pv 1) pe_int (fun _ _ => rfl)) (fun _ _ => rfl)))
      (pss_cons (ps_if (pt_cmpR op_isN (pe_fld (pv 2) rfl) pe_non (nomark _)) (pss_one (ps_ret (pe_lst (pa_cons (pe_co T.t_NO_STAY rfl) pa_nil)))) pss_nil)
      (pss_one (ps_ret (pe_lst (pa_cons (pe_fld (pv 2) rfl) (pa_cons (pe_fld (pv 2) rfl) (pa_cons (pe_fld (pv 2) rfl) pa_nil)))))))), ?_⟩
  obtain ⟨a, dx, ha, hc, hH⟩ := R.rooms.at_ _ _ hx
  refine ⟨_, rfl, L.hs, _, _, _, _, rfl, R.house, T.t_House.cl, T.t_House_no_desk, rfl, L.dk, _, _, _, _, rfl, R.desk, T.t_Desk.cl, T.t_Desk_no_rooms, rfl, _, rfl, ga, _, _, _, rfl, rfl, SqL.of (hg), at0, L.rl, _, _, _, rfl, rfl, SqL.of (R.rooms.lst), (atR ha), ?_⟩
  refine ⟨_, rfl, a, _, _, _, _, rfl, hH, T.t_Room.cl, T.t_Room_no_stay, rfl, rfl, _, rfl, ?_⟩
  have e := act_stay R.good hx
  cases hs : x.stay with
  | none =>
    rw [hs] at e
    exact iteT ⟨(by show 1 ≤ sizeLine; decide), k.no R (desk_no (by decide) (fun _ z => by cases z) e)⟩
  | some l =>
    rw [hs] at e
    have hH' := hH
    unfold roomF at hH'
    rw [hs] at hH'
    rw [desk_do (by rfl) (fun _ z => by cases z) e] at k
    exact iteF ⟨_, rfl, a, _, _, _, _, rfl, hH', T.t_Room.cl, T.t_Room_no_stay, rfl, _, rfl, a, _, _, _, _, rfl, hH', T.t_Room.cl, T.t_Room_no_number, rfl, _, rfl, a, _, _, _, _, rfl, hH', T.t_Room.cl, T.t_Room_no_zone, rfl, (by show 3 ≤ sizeLine; decide), k.told R rfl (Same.refl H)⟩
theorem ok_tell_free (T : Txt K mg A) : Ok P w K mg base 1 A.a_tell_free ["house", "given"] (SpC A (gs0 (.desk .free))) := by
  refine T.t_tell_free.ok sc_tell_free (fun _ _ _ _ _ _ us hl => match us, hl with | [_, _], _ => rfl) (fun vs H Q E h => h.len) (fun cdv Ar outer st H vs Q E hr h => ?_)
  obtain ⟨ga, g, c, ρ, L, s, rfl, R, hg, hgc, ⟨rfl, rfl⟩, k⟩ := h
  refine ⟨_, (pss_cons (ps_setLc (i := 2) (own := [("place", 3), ("room", 4)]) rfl sc_tell_free.nd rfl rfl (sw_true rfl rfl rfl (by decide +kernel)) (pi_enum rfl T.b_enumerate (pa_cons (pe_fld (pe_fld (pv 0) rfl) rfl) pa_nil)) (blkOk_by (N := ["house", "given", "free", "place", "room"]) (sc := defScope s_tell_free) (by decide +kernel)) (fun s H C cl fp => (pg_tupK (K := K) (n := 2) rfl rfl (pgs_cons (pg_name (i := 3) sc_tell_free.nd rfl (Or.inl rfl)) (pgs_cons (pg_name (i := 4) sc_tell_free.nd rfl (Or.inl rfl)) pgs_nil)))) (fun s H C cl fp => pts_one (pt_cmpR op_isN (pe_fldK (K := K) rfl (pv 4) rfl) pe_non (nomark _))) (fun s H C cl fp => (pv 3)))
      (pss_one (ps_ret (pe_op op_cat (pe_lst (pa_cons (pe_callB call_len_seq (by rfl) T.b_len PySem.boot_len (pa_cons (pv 2) pa_nil)) pa_nil)) (pv 2))))), ?_⟩
  have e := act_free R.good
  rw [freeL_ixs] at e
  rw [desk_do (by rfl) (fun _ z => by cases z) e] at k
  let xs := fun i => vn (ixs (fun x => x.stay.isNone) s.desk.rooms i)
  have xlen : ∀ i, (xs i).length ≤ i := fun i => by
    show (vn _).length ≤ i
    rw [vn_len]; exact ixs_le _ _ _
  refine ⟨_, rfl, L.hs, _, _, _, _, rfl, R.house, T.t_House.cl, T.t_House_no_desk, rfl, L.dk, _, _, _, _, rfl, R.desk, T.t_Desk.cl, T.t_Desk_no_rooms, rfl, L.rl, L.rs.map V.ref, rfl, SqL.of R.rooms.lst, fun D hD => lc_enum (K := K) (a := L.rl) (xs := L.rs.map V.ref) (fun i H' => Same H H' ∧ H' D = some (.lst (xs i))) ⟨same_new hD, upd_same⟩ (fun i H' _ q => SqL.of (q.1 _ _ R.rooms.lst)) ?_ ?_⟩
  · rintro i y H0 U hi hU ⟨S0, hD0⟩
    have hi' : i < s.desk.rooms.length := by
      have := (List.getElem?_eq_some_iff.mp hi).1
      rw [R.roomsLen] at this
      exact this
    have hx := List.getElem?_eq_getElem hi'
    generalize s.desk.rooms[i] = r at hx
    obtain ⟨a, dx, ha, hc, hH⟩ := R.rooms.at_ i r hx
    have ey : y = V.ref a := by
      rw [List.getElem?_map, ha] at hi
      exact (Option.some.inj hi).symm
    subst ey
    have q0 := same_new (o := .tup [.int (i : Nat), V.ref a]) hU
    have S' := S0.trans q0
    have hD' := q0 _ _ hD0
    have hU' : upd H0 U (.tup [.int (i : Nat), V.ref a]) U = some (.tup [.int (i : Nat), V.ref a]) := upd_same
    generalize upd H0 U (.tup [.int (i : Nat), V.ref a]) = H' at S' hD' hU'
    have hH' := S' _ _ hH
    have step := ixs_succ (fun x => x.stay.isNone) hx
    refine ⟨U, _, rfl, SqT.of hU', rfl, _, _, rfl, _, _, rfl, rfl, rfl, _, rfl, a, _, _, _, _, rfl, hH', T.t_Room.cl, T.t_Room_no_stay, rfl, rfl, _, rfl, ?_⟩
    cases hs : r.stay with
    | none =>
      rw [hs, if_pos Option.isNone_none] at step
      refine iteT ⟨_, rfl, _, hD', Nat.lt_of_le_of_lt (xlen i) (small1000 (by have := R.good.rm; omega)), fun b o e => ?_, ?_⟩
      · rw [upd_ne (ne_of_none e hD)]
        exact S' b o e
      · rw [upd_same]
        show some (HO.lst (xs i ++ [V.int (i : Nat)])) = some (.lst (vn (ixs (fun x => x.stay.isNone) s.desk.rooms (i + 1))))
        rw [step, vn_app]
        rfl
    | some l =>
      rw [hs, if_neg (by simp)] at step
      refine iteF ⟨S', ?_⟩
      show H' D = some (.lst (vn (ixs (fun x => x.stay.isNone) s.desk.rooms (i + 1))))
      rw [step]
      exact hD'
  · rintro H2 ⟨S2, hD2⟩
    rw [R.roomsLen] at hD2
    have hD2 : H2 D = some (.lst (vn (ixs (fun x => x.stay.isNone) s.desk.rooms s.desk.rooms.length))) := hD2
    refine ⟨_, rfl, _, _, rfl, .inl (SqL.of (hD2)), (by show 1 ≤ sizeLine; decide), fun l1 n1 => ⟨_, rfl, l1, D, _, _, rfl, rfl, upd_same, same_new n1 _ _ hD2, ?_, ?_⟩⟩
    · rw [vn_len]
      show 1 + _ ≤ sizeLine
      have h1 := ixs_le (fun x => x.stay.isNone) s.desk.rooms s.desk.rooms.length
      have h2 := R.good.rm
      exact Nat.le_of_lt (small1000 (by omega))
    · rw [vn_len]
      exact k.told R rfl (S2.trans (same_new n1))
theorem ok_tell_desk (T : Txt K mg A) : Ok P w K mg base 1 A.a_tell_desk ["house", "given"] (SpC A (gs0 (.desk .state))) := by
  refine T.t_tell_desk.ok sc_tell_desk (fun _ _ _ _ _ _ us hl => match us, hl with | [_, _], _ => rfl) (fun vs H Q E h => h.len) (fun cdv Ar outer st H vs Q E hr h => ?_)
  obtain ⟨ga, g, c, ρ, L, s, rfl, R, hg, hgc, ⟨rfl, rfl⟩, k⟩ := h
  refine ⟨_, (pss_cons (ps_set (i := 2) sc_tell_desk.nd rfl (Or.inl rfl) (pe_fld (pv 0) rfl))
      (pss_cons (ps_setLc (i := 3) (own := [("room", 4)]) rfl sc_tell_desk.nd rfl rfl (sw_true rfl rfl rfl (by decide +kernel)) (pi_list (pe_fld (pv 2) rfl)) (blkOk_by (N := ["house", "given", "desk", "stays", "room"]) (sc := defScope s_tell_desk) (by decide +kernel)) (fun s H C cl fp => (pg_name (i := 4) sc_tell_desk.nd rfl (Or.inl rfl))) (fun s H C cl fp => pts_one (pt_cmpR op_notN (pe_fldK (K := K) rfl (pv 4) rfl) pe_non (nomark _))) (fun s H C cl fp => (pe_fldK (K := K) rfl (pv 4) rfl)))
      (pss_one (ps_ret (pe_lst (pa_cons (pe_callB call_len_seq (by rfl) T.b_len PySem.boot_len (pa_cons (pe_fld (pv 2) rfl) pa_nil)) (pa_cons (pe_callB call_len_seq (by rfl) T.b_len PySem.boot_len (pa_cons (pv 3) pa_nil)) (pa_cons (pe_fld (pv 2) rfl) (pa_cons (pe_fld (pv 2) rfl) (pa_cons (pe_fld (pv 2) rfl) pa_nil)))))))))), ?_⟩
  have e := act_state R.good
  rw [desk_do (by rfl) (fun _ z => by cases z) e] at k
  refine ⟨_, rfl, L.hs, _, _, _, _, rfl, R.house, T.t_House.cl, T.t_House_no_desk, rfl, _, rfl, L.dk, _, _, _, _, rfl, R.desk, T.t_Desk.cl, T.t_Desk_no_rooms, rfl, L.rl, rfl, ⟨_, SqL.of R.rooms.lst⟩, fun D hD => lc_list (K := K) (a := L.rl) (xs := L.rs.map V.ref) (fun i H' => Same H H' ∧ ∃ acc, H' D = some (.lst acc) ∧ acc.length = ((s.desk.rooms.take i).filter fun x => x.stay.isSome).length) ⟨same_new hD, [], upd_same, rfl⟩ (fun i H' _ q => SqL.of (q.1 _ _ R.rooms.lst)) ?_ ?_⟩
  · rintro i y H' hi ⟨S', acc, hD', hacc⟩
    have hi' : i < s.desk.rooms.length := by
      have := (List.getElem?_eq_some_iff.mp hi).1
      rw [R.roomsLen] at this
      exact this
    have et : s.desk.rooms.take (i + 1) = s.desk.rooms.take i ++ [s.desk.rooms[i]] := (List.take_append_getElem hi').symm
    have hx := List.getElem?_eq_getElem hi'
    generalize s.desk.rooms[i] = r at hx et
    obtain ⟨a, dx, ha, hc, hH⟩ := R.rooms.at_ i r hx
    have ey : y = V.ref a := by
      rw [List.getElem?_map, ha] at hi
      exact (Option.some.inj hi).symm
    subst ey
    have hH' := S' _ _ hH
    have hle : acc.length ≤ 64 := by
      have h1 := List.length_filter_le (fun x : Ks347.Room => x.stay.isSome) (s.desk.rooms.take i)
      rw [List.length_take] at h1
      have h2 := R.good.rm
      omega
    refine ⟨rfl, _, rfl, a, _, _, _, _, rfl, hH', T.t_Room.cl, T.t_Room_no_stay, rfl, rfl, _, rfl, ?_⟩
    rw [et, List.filter_append, List.length_append]
    cases hs : r.stay with
    | none =>
      refine iteF ⟨S', acc, hD', ?_⟩
      rw [List.filter_cons, hs]
      exact hacc
    | some l =>
      have hH2 := hH'
      unfold roomF at hH2
      rw [hs] at hH2
      refine iteT ⟨_, rfl, a, _, _, _, _, rfl, hH2, T.t_Room.cl, T.t_Room_no_stay, rfl, acc, hD', small1000 (by omega), fun b o e => ?_, acc ++ [V.int (l : Nat)], upd_same, ?_⟩
      · rw [upd_ne (ne_of_none e hD)]
        exact S' b o e
      · rw [List.length_append, List.filter_cons, hs, hacc]
        rfl
  · rintro H2 ⟨S2, acc, hD2, hacc⟩
    rw [R.roomsLen, List.take_length] at hacc
    have R2 := R.same S2
    refine ⟨_, rfl, L.dk, _, _, _, _, rfl, R2.desk, T.t_Desk.cl, T.t_Desk_no_rooms, rfl, _, _, rfl, .inl (SqL.of (R2.rooms.lst)), _, rfl, _, _, rfl, .inl (SqL.of (hD2)), _, rfl, L.dk, _, _, _, _, rfl, R2.desk, T.t_Desk.cl, T.t_Desk_no_day, rfl, _, rfl, L.dk, _, _, _, _, rfl, R2.desk, T.t_Desk.cl, T.t_Desk_no_staff_round, rfl, _, rfl, L.dk, _, _, _, _, rfl, R2.desk, T.t_Desk.cl, T.t_Desk_no_serial, rfl, (by show 5 ≤ sizeLine; decide), ?_⟩
    rw [R.roomsLen, hacc]
    exact k.told R rfl S2
end
end Dc

set_option Elab.async false
set_option linter.all false
set_option maxRecDepth 100000
set_option maxHeartbeats 2000000
/-! a door -/
namespace Dc
open PySem PySem.Spec PyProof.Rows L2
theorem card_ne_door {C dx C' dx' ka bl : Addr} {c : Ks345.Card} {d : Ks346.Abs} : HO.ins C dx (cardF c) ≠ HO.ins C' dx' (doorF ka bl d) := by
  intro z
  injection z with _ _ z
  injection z with z _
  injection z with z _
  exact absurd z (by decide +kernel)
theorem bit_eq (p z : Nat) : decide (V.int (Builtin.bitAnd ((p : Int) / 2 ^ ((z : Nat) : Int).toNat) 1) = V.int 1) = p.testBit z := by
  rw [dV]
  have e1 : (p : Int) / 2 ^ ((z : Nat) : Int).toNat = ((p / 2 ^ z : Nat) : Int) := by rw [Int.toNat_natCast, Int.natCast_ediv, Int.natCast_pow]; rfl
  rw [e1, bitAnd_pp (Int.natCast_nonneg _) (by decide), Int.toNat_natCast, Nat.testBit_eq_decide_div_mod_eq]
  refine decide_eq_decide.mpr ?_
  have e2 : p / 2 ^ z &&& (1 : Int).toNat = p / 2 ^ z % 2 := Nat.and_one_is_mod _
  rw [e2]
  omega
section
variable {P : Program} {w : World} {K : PySem.W.Frag} {mg : Str → Option Value} {base : Heap} {A : Ad}
def CardAt (A : Ad) (H : Hp) (ca cx : Addr) (c : Ks345.Card) : Prop := H ca = some (.ins A.a_Card cx (cardF c))
def DoorAt (A : Ad) (H : Hp) (x dx ka bl : Addr) (d : Ks346.Abs) : Prop := H x = some (.ins A.a_Door dx (doorF ka bl d))
def sp_goes_by_room (A : Ad) : Sp := fun vs H Q _ => ∃ (ca cx : Addr) (c : Ks345.Card), vs = [.ref ca] ∧ CardAt A H ca cx c ∧ Q (.bl (byRoom c)) H
theorem ok_goes_by_room (T : Txt K mg A) : Ok P w K mg base 1 A.a_goes_by_room ["card"] (sp_goes_by_room A) := by
  refine T.t_goes_by_room.ok sc_goes_by_room (fun _ _ _ _ _ _ us hl => match us, hl with | [_], _ => rfl) (fun vs H Q E h => by obtain ⟨_, _, _, rfl, _⟩ := h; rfl) (fun cdv Ar outer st H vs Q E hr h => ?_)
  obtain ⟨ca, cx, c, rfl, hC, k⟩ := h
  refine ⟨_, (pss_one (ps_ret (pe_or (pe_cmpR op_eq (pe_fld (pv 0) rfl) (pe_co T.t_GUEST rfl) (nomark _)) (pe_one (pe_cmpR op_eq (pe_fld (pv 0) rfl) (pe_co T.t_SHUTTING rfl) (nomark _)))))), ?_⟩
  unfold byRoom at k
  refine ⟨_, rfl, ca, _, _, _, _, rfl, hC, T.t_Card.cl, T.t_Card_no_kind, rfl, rfl, _, rfl, ?_⟩
  rw [dV]
  by_cases h1 : c.kind = 1
  · rw [decide_eq_true (.inl h1)] at k
    rw [decide_eq_true (show (c.kind : Int) = 1 by omega)]
    exact iteT k
  · rw [decide_eq_false (show ¬ (c.kind : Int) = 1 by omega)]
    refine iteF ⟨_, rfl, ca, _, _, _, _, rfl, hC, T.t_Card.cl, T.t_Card_no_kind, rfl, rfl, ?_⟩
    rw [dV]
    have e : decide ((c.kind : Int) = 3) = decide (c.kind = 1 ∨ c.kind = 3) := decide_eq_decide.mpr (by omega)
    rw [e]
    exact k
def sp_is_stopped (A : Ad) : Sp := fun vs H Q _ => ∃ (ca cx : Addr) (c : Ks345.Card), vs = [.ref ca] ∧ CardAt A H ca cx c ∧ Q (.bl (stopped c)) H
theorem ok_is_stopped_by_bolt (T : Txt K mg A) : Ok P w K mg base 1 A.a_is_stopped_by_bolt ["card"] (sp_is_stopped A) := by
  refine T.t_is_stopped_by_bolt.ok sc_is_stopped_by_bolt (fun _ _ _ _ _ _ us hl => match us, hl with | [_], _ => rfl) (fun vs H Q E h => by obtain ⟨_, _, _, rfl, _⟩ := h; rfl) (fun cdv Ar outer st H vs Q E hr h => ?_)
  obtain ⟨ca, cx, c, rfl, hC, k⟩ := h
  refine ⟨_, (pss_one (ps_ret (pe_or (pe_cmpR op_eq (pe_fld (pv 0) rfl) (pe_co T.t_GUEST rfl) (nomark _)) (pe_one (pe_cmpR op_eq (pe_fld (pv 0) rfl) (pe_co T.t_STAFF rfl) (nomark _)))))), ?_⟩
  unfold stopped at k
  refine ⟨_, rfl, ca, _, _, _, _, rfl, hC, T.t_Card.cl, T.t_Card_no_kind, rfl, rfl, _, rfl, ?_⟩
  rw [dV]
  by_cases h1 : c.kind = 1
  · rw [decide_eq_true (.inl h1)] at k
    rw [decide_eq_true (show (c.kind : Int) = 1 by omega)]
    exact iteT k
  · rw [decide_eq_false (show ¬ (c.kind : Int) = 1 by omega)]
    refine iteF ⟨_, rfl, ca, _, _, _, _, rfl, hC, T.t_Card.cl, T.t_Card_no_kind, rfl, rfl, ?_⟩
    rw [dV]
    have e : decide ((c.kind : Int) = 2) = decide (c.kind = 1 ∨ c.kind = 2) := decide_eq_decide.mpr (by omega)
    rw [e]
    exact k
def sp_dc (A : Ad) (f : Ks346.Abs → Ks345.Card → V) : Sp := fun vs H Q _ => ∃ (x dx ka bl ca cx : Addr) (d : Ks346.Abs) (c : Ks345.Card), vs = [.ref x, .ref ca] ∧ DoorAt A H x dx ka bl d ∧ CardAt A H ca cx c ∧ Q (f d c) H
theorem ok_is_for (T : Txt K mg A) : Ok P w K mg base 2 A.a_is_for ["door", "card"] (sp_dc A fun d c => .bl (isFor d c)) := by
  refine T.t_is_for.ok sc_is_for (fun _ _ _ _ _ _ us hl => match us, hl with | [_, _], _ => rfl) (fun vs H Q E h => by obtain ⟨_, _, _, _, _, _, _, _, rfl, _⟩ := h; rfl) (fun cdv Ar outer st H vs Q E hr h => ?_)
  obtain ⟨x, dx, ka, bl, ca, cx, d, c, rfl, hD, hC, k⟩ := h
  refine ⟨_, (pss_cons (ps_if (pt_val (pe_c (ok_goes_by_room T) (hr.mono (by decide)) rfl T.t_goes_by_room.mg (pa_cons (pv 1) pa_nil))) (pss_one (ps_ret (pe_cmpR op_eq (pe_fld (pv 1) rfl) (pe_fld (pv 0) rfl) (nomark _)))) pss_nil)
      (pss_cons (ps_if (pt_cmpR op_eq (pe_fld (pv 1) rfl) (pe_co T.t_STAFF rfl) (nomark _)) (pss_one (ps_ret (pe_cmpR op_eq (pe_op op_and (pe_op op_shr (pe_fld (pv 1) rfl) (pe_fld (pv 0) rfl)) pe_int) pe_int (nomark _)))) pss_nil)
      (pss_one (ps_ret pe_bl)))), ?_⟩
  dsimp only at k
  unfold isFor at k
  refine ⟨_, rfl, ca, cx, c, rfl, hC, _, rfl, ?_⟩
  cases hb : byRoom c with
  | true =>
    rw [hb, if_pos rfl] at k
    refine iteT ⟨_, rfl, ca, _, _, _, _, rfl, hC, T.t_Card.cl, T.t_Card_no_place, rfl, _, rfl, x, _, _, _, _, rfl, hD, T.t_Door.cl, T.t_Door_no_room, rfl, rfl, ?_⟩
    rw [dV]
    have e : decide ((c.place : Int) = (d.room : Nat)) = decide (c.place = d.room) := decide_eq_decide.mpr (by omega)
    rw [e]
    exact k
  | false =>
    rw [hb, if_neg Bool.false_ne_true] at k
    refine iteF ⟨_, rfl, ca, _, _, _, _, rfl, hC, T.t_Card.cl, T.t_Card_no_kind, rfl, rfl, _, rfl, ?_⟩
    rw [dV]
    by_cases h2 : c.kind = 2
    · rw [if_pos h2] at k
      rw [decide_eq_true (show (c.kind : Int) = 2 by omega)]
      refine iteT ⟨_, rfl, ca, _, _, _, _, rfl, hC, T.t_Card.cl, T.t_Card_no_place, rfl, _, rfl, x, _, _, _, _, rfl, hD, T.t_Door.cl, T.t_Door_no_zone, rfl, _, _, rfl, rfl, (by omega), _, _, rfl, rfl, rfl, ?_⟩
      rw [← bit_eq] at k
      exact k
    · rw [if_neg h2] at k
      rw [decide_eq_false (show ¬ (c.kind : Int) = 2 by omega)]
      exact iteF k
theorem ok_learned_for (T : Txt K mg A) : Ok P w K mg base 2 A.a_learned_for ["door", "card"] (sp_dc A fun d c => .int (learned d c : Nat)) := by
  refine T.t_learned_for.ok sc_learned_for (fun _ _ _ _ _ _ us hl => match us, hl with | [_, _], _ => rfl) (fun vs H Q E h => by obtain ⟨_, _, _, _, _, _, _, _, rfl, _⟩ := h; rfl) (fun cdv Ar outer st H vs Q E hr h => ?_)
  obtain ⟨x, dx, ka, bl, ca, cx, d, c, rfl, hD, hC, k⟩ := h
  refine ⟨_, (pss_cons (ps_if (pt_val (pe_c (ok_goes_by_room T) (hr.mono (by decide)) rfl T.t_goes_by_room.mg (pa_cons (pv 1) pa_nil))) (pss_one (ps_ret (pe_fld (pv 0) rfl))) pss_nil)
      (pss_one (ps_ret (pe_fld (pv 0) rfl)))), ?_⟩
  dsimp only at k
  unfold learned at k
  refine ⟨_, rfl, ca, cx, c, rfl, hC, _, rfl, ?_⟩
  cases hb : byRoom c with
  | true =>
    rw [hb, if_pos rfl] at k
    exact iteT ⟨_, rfl, x, _, _, _, _, rfl, hD, T.t_Door.cl, T.t_Door_no_number, rfl, k⟩
  | false =>
    rw [hb, if_neg Bool.false_ne_true] at k
    exact iteF ⟨_, rfl, x, _, _, _, _, rfl, hD, T.t_Door.cl, T.t_Door_no_staff_round, rfl, k⟩
theorem ok_verdict (T : Txt K mg A) : Ok P w K mg base 3 A.a_verdict ["door", "card"] (sp_dc A fun d c => .int (verdictOf d c)) := by
  refine T.t_verdict.ok sc_verdict (fun _ _ _ _ _ _ us hl => match us, hl with | [_, _], _ => rfl) (fun vs H Q E h => by obtain ⟨_, _, _, _, _, _, _, _, rfl, _⟩ := h; rfl) (fun cdv Ar outer st H vs Q E hr h => ?_)
  obtain ⟨x, dx, ka, bl, ca, cx, d, c, rfl, hD, hC, k⟩ := h
  refine ⟨_, (pss_cons (ps_if (pt_not (pt_val (pe_c (ok_is_for T) (hr.mono (by decide)) rfl T.t_is_for.mg (pa_cons (pv 0) (pa_cons (pv 1) pa_nil))))) (pss_one (ps_ret (pe_co T.t_ELSEWHERE rfl))) pss_nil)
      (pss_cons (ps_if (pt_cmpR op_lt (pe_fld (pv 1) rfl) (pe_fld (pv 0) rfl) (nomark _)) (pss_one (ps_ret (pe_co T.t_DAY_OVER rfl))) pss_nil)
      (pss_cons (ps_if (pt_cmpR op_lt (pe_fld (pv 1) rfl) (pe_c (ok_learned_for T) (hr.mono (by decide)) rfl T.t_learned_for.mg (pa_cons (pv 0) (pa_cons (pv 1) pa_nil))) (nomark _)) (pss_one (ps_ret (pe_co T.t_OLDER rfl))) pss_nil)
      (pss_cons (ps_if (PW.pt (pw_and (pt_val (pe_fld (pv 0) rfl)) (pw_and1 (pt_val (pe_c (ok_is_stopped_by_bolt T) (hr.mono (by decide)) rfl T.t_is_stopped_by_bolt.mg (pa_cons (pv 1) pa_nil)))))) (pss_one (ps_ret (pe_co T.t_BOLTED rfl))) pss_nil)
      (pss_one (ps_ret (pe_fld (pv 1) rfl))))))), ?_⟩
  dsimp only at k
  unfold verdictOf at k
  refine ⟨_, rfl, _, rfl, x, dx, ka, bl, ca, cx, d, c, rfl, hD, hC, _, rfl, ?_⟩
  cases hf : isFor d c with
  | false =>
    rw [if_pos hf] at k
    exact iteT k
  | true =>
    rw [if_neg (by rw [hf]; simp)] at k
    refine iteF ⟨_, rfl, ca, _, _, _, _, rfl, hC, T.t_Card.cl, T.t_Card_no_last, rfl, _, rfl, x, _, _, _, _, rfl, hD, T.t_Door.cl, T.t_Door_no_day, rfl, _, _, rfl, rfl, _, rfl, ?_⟩
    by_cases h1 : c.last < d.day
    · rw [if_pos h1] at k
      rw [decide_eq_true (show (c.last : Int) < (d.day : Nat) by omega)]
      exact iteT k
    · rw [if_neg h1] at k
      rw [decide_eq_false (show ¬ (c.last : Int) < (d.day : Nat) by omega)]
      refine iteF ⟨_, rfl, ca, _, _, _, _, rfl, hC, T.t_Card.cl, T.t_Card_no_number, rfl, _, rfl, _, rfl, x, dx, ka, bl, ca, cx, d, c, rfl, hD, hC, _, _, rfl, rfl, _, rfl, ?_⟩
      by_cases h2 : c.number < learned d c
      · rw [if_pos h2] at k
        rw [decide_eq_true (show (c.number : Int) < (learned d c : Nat) by omega)]
        exact iteT k
      · rw [if_neg h2] at k
        rw [decide_eq_false (show ¬ (c.number : Int) < (learned d c : Nat) by omega)]
        refine iteF ⟨_, rfl, x, _, _, _, _, rfl, hD, T.t_Door.cl, T.t_Door_no_bolted, rfl, _, rfl, ?_⟩
        cases hb : d.bolted with
        | false =>
          rw [if_neg (by rw [hb]; simp)] at k
          exact iteF (iteF ⟨_, rfl, ca, _, _, _, _, rfl, hC, T.t_Card.cl, T.t_Card_no_kind, rfl, k⟩)
        | true =>
          refine iteT ⟨_, rfl, ca, cx, c, rfl, hC, _, rfl, ?_⟩
          cases hs : stopped c with
          | true =>
            rw [if_pos ⟨hb, hs⟩] at k
            exact iteT k
          | false =>
            rw [if_neg (by rw [hs]; simp)] at k
            exact iteF ⟨_, rfl, ca, _, _, _, _, rfl, hC, T.t_Card.cl, T.t_Card_no_kind, rfl, k⟩
/-! ### learn -/
def sp_learn (A : Ad) : Sp := fun vs H Q _ => ∃ (ρ : Addr → Col) (L : Lay) (s : Ks348.Abs) (i : Nat) (x dx bl : Addr) (es : List Addr) (d : Ks346.Abs) (ca cx : Addr) (c : Ks345.Card), vs = [.ref x, .ref ca] ∧ Rep A H ρ L s ∧ s.doors[i]? = some d ∧ L.ds[i]? = some x ∧ DoorP A H ρ L.ka x dx bl es i d ∧ CardAt A H ca cx c ∧
  ∀ H' ρ', Fr ρ H ρ' H' → Rep A H' ρ' L (putDoor s i (learnt d c)) → Q .non H'
theorem ok_learn (T : Txt K mg A) : Ok P w K mg base 2 A.a_learn ["door", "card"] (sp_learn A) := by
  refine T.t_learn.ok sc_learn (fun _ _ _ _ _ _ us hl => match us, hl with | [_, _], _ => rfl) (fun vs H Q E h => by obtain ⟨_, _, _, _, _, _, _, _, _, _, _, _, rfl, _⟩ := h; rfl) (fun cdv Ar outer st H vs Q E hr h => ?_)
  obtain ⟨ρ, L, s, i, x, dx, bl, es, d, ca, cx, c, rfl, R, hd, hx, hD, hC, k⟩ := h
  refine ⟨_, (pss_cons (ps_if (pt_val (pe_c (ok_goes_by_room T) (hr.mono (by decide)) rfl T.t_goes_by_room.mg (pa_cons (pv 1) pa_nil))) (pss_one (ps_fld (pv 0) (pe_fld (pv 1) rfl) rfl)) (pss_one (ps_fld (pv 0) (pe_fld (pv 1) rfl) rfl)))
      (pss_cons (ps_if (pt_cmpR op_eq (pe_fld (pv 1) rfl) (pe_co T.t_EMERGENCY rfl) (nomark _)) (pss_one (ps_fld (pv 0) pe_bl rfl)) pss_nil)
      (pss_cons (ps_set (i := 2) sc_learn.nd rfl (Or.inl rfl) (pe_tup (pa_cons (pe_fld (pv 1) rfl) (pa_cons (pe_fld (pv 1) rfl) (pa_cons (pe_fld (pv 1) rfl) (pa_cons (pe_fld (pv 0) rfl) pa_nil))))))
      (pss_one (ps_fld (pv 0) (pe_op op_cat (pe_lst (pa_cons (pv 2) pa_nil)) (pe_slice sl_list (pe_fld (pv 0) rfl) po_none (po_some (pe_op op_sub (pe_co T.t_BOOK_KEPT rfl) pe_int)))) rfl))))), ?_⟩
  refine ⟨_, rfl, ca, cx, c, rfl, hC, _, rfl, ?_⟩
  have ncx : ca ≠ x := ne_of hC hD.ins card_ne_door
  have hbk : d.book.length ≤ 16 := R.good.bk d (List.mem_of_getElem? hd)
  cases hb : byRoom c with
  | true =>
    refine iteT ⟨_, rfl, ca, _, _, _, _, rfl, hC, T.t_Card.cl, T.t_Card_no_number, rfl, _, rfl, x, _, _, _, rfl, hD.ins, T.t_Door.cl, T.t_Door_no_number, (by show 8 < 1000; decide), R.nxDoor (d' := { d with number := c.number }) hd hx hD.col hD.ins rfl hD.book hbk fun H1 R1 F1 K1 hD1 => ?_⟩
    have hC1 := K1 _ _ hC ncx
    have h4 : ¬ c.kind = 4 := by
      unfold byRoom at hb
      have := of_decide_eq_true hb
      omega
    refine ⟨_, rfl, ca, _, _, _, _, rfl, hC1, T.t_Card.cl, T.t_Card_no_kind, rfl, rfl, _, rfl, ?_⟩
    rw [dV, decide_eq_false (show ¬ (c.kind : Int) = 4 by omega)]
    refine iteF ?_
    have cut : cutV (es.map V.ref) none (some (16 - 1)) = (es.take 15).map V.ref := (cut_upto 15).trans (List.map_take ..).symm
    refine ⟨_, rfl, ca, _, _, _, _, rfl, hC1, T.t_Card.cl, T.t_Card_no_kind, rfl, _, rfl, ca, _, _, _, _, rfl, hC1, T.t_Card.cl, T.t_Card_no_number, rfl, _, rfl, ca, _, _, _, _, rfl, hC1, T.t_Card.cl, T.t_Card_no_serial, rfl, _, rfl, x, _, _, _, _, rfl, hD1.ins, T.t_Door.cl, T.t_Door_no_day, rfl, (by show 4 ≤ sizeLine; decide), fun t nt => ?_⟩
    refine ⟨_, rfl, (by show 1 ≤ sizeLine; decide), fun l1 n1 => ?_⟩
    have q0 := same_new (o := .tup [.int (c.kind : Nat), .int (c.number : Nat), .int (c.serial : Nat), .int (d.day : Nat)]) nt
    have q1 := same_new (o := .lst [V.ref t]) n1
    refine ⟨_, rfl, x, _, _, _, _, rfl, (q1 _ _ (q0 _ _ hD1.ins)), T.t_Door.cl, T.t_Door_no_book, rfl, _, _, rfl, rfl, _, rfl, bl, _, rfl, SqL.of (q1 _ _ (q0 _ _ hD1.book.lst)), fun l2 n2 => ?_⟩
    dsimp only
    rw [cut]
    have q2 := same_new (o := .lst ((es.take 15).map V.ref)) n2
    refine ⟨l1, l2, _, _, rfl, rfl, q2 _ _ upd_same, upd_same, ?_, fun l3 n3 => ?_⟩
    · rw [List.length_map, List.length_take]
      show 1 + min 15 _ ≤ sizeLine
      exact Nat.le_of_lt (small1000 (by omega))
    have mt : Mv H1 ρ (upd H1 t (.tup [.int (c.kind : Nat), .int (c.number : Nat), .int (c.serial : Nat), .int (d.day : Nat)])) (setc ρ t .imm) NoC := Mv.laid nt
    have tc : setc ρ t .imm t = .imm := setc_same
    have tH : upd H1 t (.tup [.int (c.kind : Nat), .int (c.number : Nat), .int (c.serial : Nat), .int (d.day : Nat)]) t = some (.tup [.int (c.kind : Nat), .int (c.number : Nat), .int (c.serial : Nat), .int (d.day : Nat)]) := upd_same
    have m5 : Mv (upd H1 t (.tup [.int (c.kind : Nat), .int (c.number : Nat), .int (c.serial : Nat), .int (d.day : Nat)])) (setc ρ t .imm) _ (setc (setc ρ t .imm) l3 .imm) NoC := ((Mv.same q1).trans (Mv.same q2)).trans (Mv.laid (o := .lst ([V.ref t] ++ (es.take 15).map V.ref)) (c := .imm) n3)
    obtain ⟨tH5, tc5⟩ := m5 _ _ tH id
    have m6 := mt.trans m5
    have R6 := R1.mv m6
    have F6 := F1.trans (Fr.mv (c0 := NoC) m6)
    have D6 := hD1.stay m6 id id
    have B6 := D6.book.push (b := ⟨c.kind, c.number, c.serial, d.day⟩) (tc5.trans tc) tH5 (setc_same (ρ := setc ρ t .imm)) upd_same
    generalize setc (setc ρ t .imm) l3 .imm = ρ6 at R6 F6 D6 B6
    refine ⟨_, rfl, x, _, _, _, rfl, D6.ins, T.t_Door.cl, T.t_Door_no_book, (by show 8 < 1000; decide), R6.nxDoor (d' := { d with number := c.number, book := (⟨c.kind, c.number, c.serial, d.day⟩ :: d.book).take 16 }) (putDoor_get hd) hx D6.col D6.ins rfl B6 ?_ fun H7 R7 F7 K7 D7 => ?_⟩
    · show ((_ :: d.book).take 16).length ≤ 16
      rw [List.length_take]
      exact Nat.min_le_left _ _
    · rw [putDoor_put] at R7
      refine k H7 ρ6 (F6.trans F7) ?_
      have el : learnt d c = { d with number := c.number, book := (⟨c.kind, c.number, c.serial, d.day⟩ :: d.book).take 16 } := by
        unfold learnt
        simp [hb, h4]
      rw [el]
      exact R7
  | false =>
    refine iteF ⟨_, rfl, ca, _, _, _, _, rfl, hC, T.t_Card.cl, T.t_Card_no_number, rfl, _, rfl, x, _, _, _, rfl, hD.ins, T.t_Door.cl, T.t_Door_no_staff_round, (by show 8 < 1000; decide), R.nxDoor (d' := { d with epoch := c.number }) hd hx hD.col hD.ins rfl hD.book hbk fun H0 R0 F0 K0 hD0 => ?_⟩
    have hC0 := K0 _ _ hC ncx
    refine ⟨_, rfl, ca, _, _, _, _, rfl, hC0, T.t_Card.cl, T.t_Card_no_kind, rfl, rfl, _, rfl, ?_⟩
    rw [dV]
    by_cases h4 : c.kind = 4
    · rw [decide_eq_true (show (c.kind : Int) = 4 by omega)]
      refine iteT ⟨_, rfl, x, _, _, _, rfl, hD0.ins, T.t_Door.cl, T.t_Door_no_bolted, (by show 8 < 1000; decide), R0.nxDoor (d' := { d with epoch := c.number, bolted := false }) (putDoor_get hd) hx hD0.col hD0.ins rfl hD0.book hbk fun H1 R1 F2 K1 hD1 => ?_⟩
      have hC1 := K1 _ _ hC0 ncx
      rw [putDoor_put] at R1
      have F1 := F0.trans F2
      have cut : cutV (es.map V.ref) none (some (16 - 1)) = (es.take 15).map V.ref := (cut_upto 15).trans (List.map_take ..).symm
      refine ⟨_, rfl, ca, _, _, _, _, rfl, hC1, T.t_Card.cl, T.t_Card_no_kind, rfl, _, rfl, ca, _, _, _, _, rfl, hC1, T.t_Card.cl, T.t_Card_no_number, rfl, _, rfl, ca, _, _, _, _, rfl, hC1, T.t_Card.cl, T.t_Card_no_serial, rfl, _, rfl, x, _, _, _, _, rfl, hD1.ins, T.t_Door.cl, T.t_Door_no_day, rfl, (by show 4 ≤ sizeLine; decide), fun t nt => ?_⟩
      refine ⟨_, rfl, (by show 1 ≤ sizeLine; decide), fun l1 n1 => ?_⟩
      have q0 := same_new (o := .tup [.int (c.kind : Nat), .int (c.number : Nat), .int (c.serial : Nat), .int (d.day : Nat)]) nt
      have q1 := same_new (o := .lst [V.ref t]) n1
      refine ⟨_, rfl, x, _, _, _, _, rfl, (q1 _ _ (q0 _ _ hD1.ins)), T.t_Door.cl, T.t_Door_no_book, rfl, _, _, rfl, rfl, _, rfl, bl, _, rfl, SqL.of (q1 _ _ (q0 _ _ hD1.book.lst)), fun l2 n2 => ?_⟩
      dsimp only
      rw [cut]
      have q2 := same_new (o := .lst ((es.take 15).map V.ref)) n2
      refine ⟨l1, l2, _, _, rfl, rfl, q2 _ _ upd_same, upd_same, ?_, fun l3 n3 => ?_⟩
      · rw [List.length_map, List.length_take]
        show 1 + min 15 _ ≤ sizeLine
        exact Nat.le_of_lt (small1000 (by omega))
      have mt : Mv H1 ρ (upd H1 t (.tup [.int (c.kind : Nat), .int (c.number : Nat), .int (c.serial : Nat), .int (d.day : Nat)])) (setc ρ t .imm) NoC := Mv.laid nt
      have tc : setc ρ t .imm t = .imm := setc_same
      have tH : upd H1 t (.tup [.int (c.kind : Nat), .int (c.number : Nat), .int (c.serial : Nat), .int (d.day : Nat)]) t = some (.tup [.int (c.kind : Nat), .int (c.number : Nat), .int (c.serial : Nat), .int (d.day : Nat)]) := upd_same
      have m5 : Mv (upd H1 t (.tup [.int (c.kind : Nat), .int (c.number : Nat), .int (c.serial : Nat), .int (d.day : Nat)])) (setc ρ t .imm) _ (setc (setc ρ t .imm) l3 .imm) NoC := ((Mv.same q1).trans (Mv.same q2)).trans (Mv.laid (o := .lst ([V.ref t] ++ (es.take 15).map V.ref)) (c := .imm) n3)
      obtain ⟨tH5, tc5⟩ := m5 _ _ tH id
      have m6 := mt.trans m5
      have R6 := R1.mv m6
      have F6 := F1.trans (Fr.mv (c0 := NoC) m6)
      have D6 := hD1.stay m6 id id
      have B6 := D6.book.push (b := ⟨c.kind, c.number, c.serial, d.day⟩) (tc5.trans tc) tH5 (setc_same (ρ := setc ρ t .imm)) upd_same
      generalize setc (setc ρ t .imm) l3 .imm = ρ6 at R6 F6 D6 B6
      refine ⟨_, rfl, x, _, _, _, rfl, D6.ins, T.t_Door.cl, T.t_Door_no_book, (by show 8 < 1000; decide), R6.nxDoor (d' := { d with epoch := c.number, bolted := false, book := (⟨c.kind, c.number, c.serial, d.day⟩ :: d.book).take 16 }) (putDoor_get hd) hx D6.col D6.ins rfl B6 ?_ fun H7 R7 F7 K7 D7 => ?_⟩
      · show ((_ :: d.book).take 16).length ≤ 16
        rw [List.length_take]
        exact Nat.min_le_left _ _
      · rw [putDoor_put] at R7
        refine k H7 ρ6 (F6.trans F7) ?_
        have el : learnt d c = { d with epoch := c.number, bolted := false, book := (⟨c.kind, c.number, c.serial, d.day⟩ :: d.book).take 16 } := by
          unfold learnt
          simp [hb, h4]
        rw [el]
        exact R7
    · rw [decide_eq_false (show ¬ (c.kind : Int) = 4 by omega)]
      refine iteF ?_
      have R1 := R0
      have F1 := F0
      have hD1 := hD0
      have hC1 := hC0
      have cut : cutV (es.map V.ref) none (some (16 - 1)) = (es.take 15).map V.ref := (cut_upto 15).trans (List.map_take ..).symm
      refine ⟨_, rfl, ca, _, _, _, _, rfl, hC1, T.t_Card.cl, T.t_Card_no_kind, rfl, _, rfl, ca, _, _, _, _, rfl, hC1, T.t_Card.cl, T.t_Card_no_number, rfl, _, rfl, ca, _, _, _, _, rfl, hC1, T.t_Card.cl, T.t_Card_no_serial, rfl, _, rfl, x, _, _, _, _, rfl, hD1.ins, T.t_Door.cl, T.t_Door_no_day, rfl, (by show 4 ≤ sizeLine; decide), fun t nt => ?_⟩
      refine ⟨_, rfl, (by show 1 ≤ sizeLine; decide), fun l1 n1 => ?_⟩
      have q0 := same_new (o := .tup [.int (c.kind : Nat), .int (c.number : Nat), .int (c.serial : Nat), .int (d.day : Nat)]) nt
      have q1 := same_new (o := .lst [V.ref t]) n1
      refine ⟨_, rfl, x, _, _, _, _, rfl, (q1 _ _ (q0 _ _ hD1.ins)), T.t_Door.cl, T.t_Door_no_book, rfl, _, _, rfl, rfl, _, rfl, bl, _, rfl, SqL.of (q1 _ _ (q0 _ _ hD1.book.lst)), fun l2 n2 => ?_⟩
      dsimp only
      rw [cut]
      have q2 := same_new (o := .lst ((es.take 15).map V.ref)) n2
      refine ⟨l1, l2, _, _, rfl, rfl, q2 _ _ upd_same, upd_same, ?_, fun l3 n3 => ?_⟩
      · rw [List.length_map, List.length_take]
        show 1 + min 15 _ ≤ sizeLine
        exact Nat.le_of_lt (small1000 (by omega))
      have mt : Mv H0 ρ (upd H0 t (.tup [.int (c.kind : Nat), .int (c.number : Nat), .int (c.serial : Nat), .int (d.day : Nat)])) (setc ρ t .imm) NoC := Mv.laid nt
      have tc : setc ρ t .imm t = .imm := setc_same
      have tH : upd H0 t (.tup [.int (c.kind : Nat), .int (c.number : Nat), .int (c.serial : Nat), .int (d.day : Nat)]) t = some (.tup [.int (c.kind : Nat), .int (c.number : Nat), .int (c.serial : Nat), .int (d.day : Nat)]) := upd_same
      have m5 : Mv (upd H0 t (.tup [.int (c.kind : Nat), .int (c.number : Nat), .int (c.serial : Nat), .int (d.day : Nat)])) (setc ρ t .imm) _ (setc (setc ρ t .imm) l3 .imm) NoC := ((Mv.same q1).trans (Mv.same q2)).trans (Mv.laid (o := .lst ([V.ref t] ++ (es.take 15).map V.ref)) (c := .imm) n3)
      obtain ⟨tH5, tc5⟩ := m5 _ _ tH id
      have m6 := mt.trans m5
      have R6 := R1.mv m6
      have F6 := F1.trans (Fr.mv (c0 := NoC) m6)
      have D6 := hD1.stay m6 id id
      have B6 := D6.book.push (b := ⟨c.kind, c.number, c.serial, d.day⟩) (tc5.trans tc) tH5 (setc_same (ρ := setc ρ t .imm)) upd_same
      generalize setc (setc ρ t .imm) l3 .imm = ρ6 at R6 F6 D6 B6
      refine ⟨_, rfl, x, _, _, _, rfl, D6.ins, T.t_Door.cl, T.t_Door_no_book, (by show 8 < 1000; decide), R6.nxDoor (d' := { d with epoch := c.number, book := (⟨c.kind, c.number, c.serial, d.day⟩ :: d.book).take 16 }) (putDoor_get hd) hx D6.col D6.ins rfl B6 ?_ fun H7 R7 F7 K7 D7 => ?_⟩
      · show ((_ :: d.book).take 16).length ≤ 16
        rw [List.length_take]
        exact Nat.min_le_left _ _
      · rw [putDoor_put] at R7
        refine k H7 ρ6 (F6.trans F7) ?_
        have el : learnt d c = { d with epoch := c.number, book := (⟨c.kind, c.number, c.serial, d.day⟩ :: d.book).take 16 } := by
          unfold learnt
          simp [hb, h4]
        rw [el]
        exact R7
/-! ### show_card -/
def sp_show_card (A : Ad) : Sp := fun vs H Q _ => ∃ (ρ : Addr → Col) (L : Lay) (s : Ks348.Abs) (i : Nat) (x dx bl : Addr) (es : List Addr) (d : Ks346.Abs) (ca cx : Addr) (c : Ks345.Card), vs = [.ref x, .ref ca] ∧ Rep A H ρ L s ∧ s.doors[i]? = some d ∧ L.ds[i]? = some x ∧ DoorP A H ρ L.ka x dx bl es i d ∧ CardAt A H ca cx c ∧ kindOk c ∧
  ∀ H' ρ', Fr ρ H ρ' H' → Rep A H' ρ' L (putDoor s i (Ks346.shown d c).1) → Q (.int (Ks346.shown d c).2) H'
theorem ok_show_card (T : Txt K mg A) : Ok P w K mg base 4 A.a_show_card ["door", "card"] (sp_show_card A) := by
  refine T.t_show_card.ok sc_show_card (fun _ _ _ _ _ _ us hl => match us, hl with | [_, _], _ => rfl) (fun vs H Q E h => by obtain ⟨_, _, _, _, _, _, _, _, _, _, _, _, rfl, _⟩ := h; rfl) (fun cdv Ar outer st H vs Q E hr h => ?_)
  obtain ⟨ρ, L, s, i, x, dx, bl, es, d, ca, cx, c, rfl, R, hd, hx, hD, hC, hk, k⟩ := h
  refine ⟨_, (pss_cons (ps_set (i := 2) sc_show_card.nd rfl (Or.inl rfl) (pe_c (ok_verdict T) (hr.mono (by decide)) rfl T.t_verdict.mg (pa_cons (pv 0) (pa_cons (pv 1) pa_nil))))
      (pss_cons (ps_if (pt_cmpR op_gt (pv 2) pe_int (nomark _)) (pss_one (ps_expr (pe_c (ok_learn T) (hr.mono (by decide)) rfl T.t_learn.mg (pa_cons (pv 0) (pa_cons (pv 1) pa_nil))))) pss_nil)
      (pss_one (ps_ret (pv 2))))), ?_⟩
  rw [shown_eq hk] at k
  refine ⟨_, rfl, _, rfl, x, dx, L.ka, bl, ca, cx, d, c, rfl, hD.ins, hC, _, rfl, _, _, rfl, rfl, _, rfl, ?_⟩
  by_cases hv : 0 < verdictOf d c
  · rw [if_pos hv] at k
    rw [decide_eq_true hv]
    exact iteT ⟨_, rfl, _, rfl, ρ, L, s, i, x, dx, bl, es, d, ca, cx, c, rfl, R, hd, hx, hD, hC, fun H1 ρ1 F1 R1 => ⟨_, rfl, k H1 ρ1 F1 R1⟩⟩
  · rw [if_neg hv, put_same hd] at k
    rw [decide_eq_false hv]
    exact iteF ⟨_, rfl, k H ρ Fr.refl R⟩
end
end Dc

set_option Elab.async false
set_option linter.all false
set_option maxRecDepth 100000
set_option maxHeartbeats 2000000
/-! the calls on doors and kept cards -/
namespace Dc
open PySem PySem.Spec PyProof.Rows L2
section
variable {P : Program} {w : World} {K : PySem.W.Frag} {mg : Str → Option Value} {base : Heap} {A : Ad}
def gsDoor (f : Nat → Ks348.Call) : Hp → Ks348.Abs → List V → Ks348.Call → Prop := fun _ s g c => ∃ (i : Nat) (d : Ks346.Abs), g = [.int i] ∧ s.doors[i]? = some d ∧ c = f i
def gsDoor2 (f : Nat → Nat → Ks348.Call) : Hp → Ks348.Abs → List V → Ks348.Call → Prop := fun _ s g c => ∃ (i n : Nat) (d : Ks346.Abs), g = [.int i, .int n] ∧ s.doors[i]? = some d ∧ c = f i n
def gsDoorRow (f : Nat → List Nat → Ks348.Call) : Hp → Ks348.Abs → List V → Ks348.Call → Prop := fun H s g c => ∃ (i : Nat) (ra : Addr) (b : List Nat) (d : Ks346.Abs), g = [.int i, .ref ra] ∧ s.doors[i]? = some d ∧ H ra = some (.lst (vn b)) ∧ Byt b ∧ c = f i b
/-! ### Door, hang -/
def sp_Door_init (A : Ad) : Sp := fun vs H Q _ => ∃ (x dx ka : Addr) (r z : Nat) (key : List Nat), vs = [.ref x, .ref ka, .int r, .int z] ∧ H x = some (.ins A.a_Door dx []) ∧
  ∀ H' bl, H bl = none → bl ≠ x → H' x = some (.ins A.a_Door dx (doorF ka bl { key := key, room := r, zone := z })) → H' bl = some (.lst []) → Keep x H H' → Q .non H'
theorem ok_Door_init (T : Txt K mg A) : Ok P w K mg base 1 A.a_Door_init ["self", "key", "room", "zone"] (sp_Door_init A) := by
  refine T.t_Door_init.ok sc_Door_init (fun _ _ _ _ _ _ us hl => match us, hl with | [_, _, _, _], _ => rfl) (fun vs H Q E h => by obtain ⟨_, _, _, _, _, _, rfl, _⟩ := h; rfl) (fun cdv Ar outer st H vs Q E hr h => ?_)
  obtain ⟨x, dx, ka, r, z, key, rfl, hx, k⟩ := h
  refine ⟨_, (pss_cons (ps_fld (pv 0) (pv 1) rfl)
      (pss_cons (ps_fld (pv 0) (pv 2) rfl)
      (pss_cons (ps_fld (pv 0) (pv 3) rfl)
      (pss_cons (ps_fld (pv 0) pe_int rfl)
      (pss_cons (ps_fld (pv 0) pe_int rfl)
      (pss_cons (ps_fld (pv 0) pe_int rfl)
      (pss_cons (ps_fld (pv 0) pe_bl rfl)
      (pss_one (ps_fld (pv 0) (pe_lst pa_nil) rfl))))))))), ?_⟩
  refine ⟨_, rfl, _, rfl, x, _, _, _, rfl, hx, T.t_Door.cl, T.t_Door_no_key, (by show 0 < 1000; decide), ?_⟩
  refine ⟨_, rfl, _, rfl, x, _, _, _, rfl, upd_same, T.t_Door.cl, T.t_Door_no_room, (by show 1 < 1000; decide), ?_⟩
  refine ⟨_, rfl, _, rfl, x, _, _, _, rfl, upd_same, T.t_Door.cl, T.t_Door_no_zone, (by show 2 < 1000; decide), ?_⟩
  refine ⟨_, rfl, x, _, _, _, rfl, upd_same, T.t_Door.cl, T.t_Door_no_day, (by show 3 < 1000; decide), ?_⟩
  refine ⟨_, rfl, x, _, _, _, rfl, upd_same, T.t_Door.cl, T.t_Door_no_number, (by show 4 < 1000; decide), ?_⟩
  refine ⟨_, rfl, x, _, _, _, rfl, upd_same, T.t_Door.cl, T.t_Door_no_staff_round, (by show 5 < 1000; decide), ?_⟩
  refine ⟨_, rfl, x, _, _, _, rfl, upd_same, T.t_Door.cl, T.t_Door_no_bolted, (by show 6 < 1000; decide), ?_⟩
  rw [upd_upd, upd_upd, upd_upd, upd_upd, upd_upd, upd_upd]
  refine ⟨(by show 0 ≤ sizeLine; decide), fun bl nb => ?_⟩
  have nbx : bl ≠ x := (ne_of_none upd_same nb).symm
  have nbH : H bl = none := by rw [upd_ne nbx] at nb; exact nb
  refine ⟨_, rfl, x, _, _, _, rfl, ((same_new nb) _ _ upd_same), T.t_Door.cl, T.t_Door_no_book, (by show 7 < 1000; decide), ?_⟩
  refine k _ bl nbH nbx upd_same (by rw [upd_ne nbx]; exact upd_same) fun b o e hb => ?_
  rw [upd_ne hb, upd_ne (ne_of_none e nbH), upd_ne hb]
  exact e
theorem in_rooms (r : Nat) : ∀ l : List Ks346.Abs, inV (V.int (r : Nat)) (vn (l.map fun d => d.room)) = l.any fun d => d.room == r
  | [] => rfl
  | d :: l => by
    have ih := in_rooms r l
    show (((d.room : Int) == (r : Int)) || inV (V.int (r : Nat)) (vn (l.map fun d => d.room))) = _
    rw [ih, List.any_cons]
    congr 1
    rw [Bool.beq_eq_decide_eq, Bool.beq_eq_decide_eq]
    exact decide_eq_decide.mpr (by omega)
theorem flat_vn : ∀ l : List Nat, (vn l).all flatV = true
  | [] => rfl
  | _ :: l => flat_vn l
theorem ok_hang (T : Txt K mg A) : Ok P w K mg base 3 A.a_hang ["house", "given"] (SpC A (gs1 fun r => .hang r)) := by
  refine T.t_hang.ok sc_hang (fun _ _ _ _ _ _ us hl => match us, hl with | [_, _], _ => rfl) (fun vs H Q E h => h.len) (fun cdv Ar outer st H vs Q E hr h => ?_)
  obtain ⟨ga, g, c, ρ, L, s, rfl, R, hg, hgc, ⟨r, rfl, rfl⟩, k⟩ := h
  refine ⟨_, (pss_cons (ps_set (i := 2) sc_hang.nd rfl (Or.inl rfl) (pe_ix ix_list (pv 1) pe_int (fun _ _ => rfl)))
      (pss_cons (ps_set (i := 3) sc_hang.nd rfl (Or.inl rfl) (pe_fld (pe_fld (pv 0) rfl) rfl))
      (pss_cons (ps_if (pt_cmpR op_ge (pv 2) (pe_callB call_len_seq (by rfl) T.b_len PySem.boot_len (pa_cons (pv 3) pa_nil)) (nomark _)) (pss_one (ps_ret (pe_lst (pa_cons (pe_co T.t_NO_ROOM rfl) pa_nil)))) pss_nil)
      (pss_cons (ps_if (pt_cmpR op_in_seq (pv 2) (pe_lc (own := [("door", 4)]) rfl sc_hang.nd (pi_list (pe_fld (pv 0) rfl)) (blkOk_by (N := ["house", "given", "place", "rooms", "door"]) (sc := defScope s_hang) (by decide +kernel)) (fun s H C cl fp => (pg_name (i := 4) sc_hang.nd rfl (Or.inl rfl))) (fun s H C cl fp => pts_nil) (fun s H C cl fp => (pe_fldK (K := K) rfl (pv 4) rfl))) (by with_unfolding_all rfl)) (pss_one (ps_ret (pe_lst (pa_cons (pe_co T.t_HAS_DOOR rfl) pa_nil)))) pss_nil)
      (pss_cons (ps_if (pt_cmpR op_ge (pe_callB call_len_seq (by rfl) T.b_len PySem.boot_len (pa_cons (pe_fld (pv 0) rfl) pa_nil)) (pe_co T.t_MOST_DOORS rfl) (nomark _)) (pss_one (ps_ret (pe_lst (pa_cons (pe_co T.t_NO_MORE rfl) pa_nil)))) pss_nil)
      (pss_cons (ps_expr (pe_bm PySem.F.plainAttrs_list PySem.F.slot_list_append PySem.F.type_list_append mt_append (pe_fld (pv 0) rfl) (pa_cons (pe_k T.t_Door.mak (ok_Door_init T) (hr.mono (by decide)) rfl T.t_Door.mg (pa_cons (pe_fld (pe_fld (pv 0) rfl) rfl) (pa_cons (pv 2) (pa_cons (pe_fld (pe_ix ix_list (pv 3) (pv 2) (fun _ _ => rfl)) rfl) pa_nil)))) pa_nil)))
      (pss_one (ps_ret (pe_lst (pa_cons (pe_op op_sub (pe_callB call_len_seq (by rfl) T.b_len PySem.boot_len (pa_cons (pe_fld (pv 0) rfl) pa_nil)) pe_int) pa_nil)))))))))), ?_⟩
  have e := act_hang R.good (r := r)
  refine ⟨_, rfl, ga, _, _, _, rfl, rfl, SqL.of (hg), at0, _, rfl, L.hs, _, _, _, _, rfl, R.house, T.t_House.cl, T.t_House_no_desk, rfl, L.dk, _, _, _, _, rfl, R.desk, T.t_Desk.cl, T.t_Desk_no_rooms, rfl, _, rfl, _, rfl, _, _, rfl, .inl (SqL.of (R.rooms.lst)), _, _, rfl, rfl, _, rfl, ?_⟩
  rw [R.roomsLen]
  cases hx : s.desk.rooms[r]? with
  | none =>
    rw [hx] at e
    have hl := List.getElem?_eq_none_iff.mp hx
    rw [decide_eq_true (show (s.desk.rooms.length : Int) ≤ (r : Nat) by omega)]
    exact iteT ⟨(by show 1 ≤ sizeLine; decide), k.no R e⟩
  | some y =>
    rw [hx] at e
    dsimp only at e
    have hl := (List.getElem?_eq_some_iff.mp hx).1
    rw [decide_eq_false (show ¬ (s.desk.rooms.length : Int) ≤ (r : Nat) by omega)]
    obtain ⟨a, adx, ha, hc, hH⟩ := R.rooms.at_ _ _ hx
    let xs := fun i => vn ((s.doors.take i).map fun d => d.room)
    have xlen : ∀ i, (xs i).length ≤ 16 := fun i => by
      show (vn _).length ≤ 16
      rw [vn_len, List.length_map, List.length_take]
      have := R.good.dr
      omega
    refine iteF ⟨_, rfl, _, rfl, L.hs, _, _, _, _, rfl, R.house, T.t_House.cl, T.t_House_no_doors, rfl, L.dl, rfl, ⟨_, SqL.of R.doors.lst⟩, fun D hD => lc_list (K := K) (a := L.dl) (xs := L.ds.map V.ref) (fun i H' => Same H H' ∧ H' D = some (.lst (xs i))) ⟨same_new hD, upd_same⟩ (fun i H' _ q => SqL.of (q.1 _ _ R.doors.lst)) ?_ ?_⟩
    · rintro i z H' hi ⟨S', hD'⟩
      have hi' : i < s.doors.length := by
        have := (List.getElem?_eq_some_iff.mp hi).1
        rw [R.doorsLen] at this
        exact this
      have hdx := List.getElem?_eq_getElem hi'
      have et : s.doors.take (i + 1) = s.doors.take i ++ [s.doors[i]] := (List.take_append_getElem hi').symm
      generalize s.doors[i] = d at hdx et
      obtain ⟨x, dx, bl, es, hx2, hDo⟩ := R.doors.at_ i d hdx
      have ez : z = V.ref x := by
        rw [List.getElem?_map, hx2] at hi
        exact (Option.some.inj hi).symm
      subst ez
      have hDo' := S' _ _ hDo.ins
      refine ⟨rfl, ?_⟩
      unfold tYes
      dsimp only
      rw [if_pos rfl]
      refine ⟨_, rfl, x, _, _, _, _, rfl, hDo', T.t_Door.cl, T.t_Door_no_room, rfl, _, hD', Nat.lt_of_le_of_lt (xlen i) (by decide), fun b o e => ?_, ?_⟩
      · rw [upd_ne (ne_of_none e hD)]
        exact S' b o e
      · rw [upd_same]
        show some (HO.lst (xs i ++ [V.int (d.room : Nat)])) = some (.lst (vn ((s.doors.take (i + 1)).map fun d => d.room)))
        rw [et, List.map_append, vn_app]
        rfl
    · rintro H2 ⟨S2, hD2⟩
      rw [R.doorsLen] at hD2
      have hD2 : H2 D = some (.lst (vn ((s.doors.take s.doors.length).map fun d => d.room))) := hD2
      rw [List.take_length] at hD2
      have R2 := R.same S2
      refine ⟨D, _, rfl, .inl (SqL.of hD2), rfl, flat_vn _, _, rfl, ?_⟩
      have ein : (if false = true then !inV (V.int (r : Nat)) (vn (s.doors.map fun d => d.room)) else inV (V.int (r : Nat)) (vn (s.doors.map fun d => d.room))) = Ks348.roomHas s r := by
        rw [if_neg Bool.false_ne_true, in_rooms]
        rfl
      show if (if false = true then !inV (V.int (r : Nat)) (vn (s.doors.map fun d => d.room)) else inV (V.int (r : Nat)) (vn (s.doors.map fun d => d.room))) = true then _ else _
      rw [ein]
      cases hh : Ks348.roomHas s r with
      | true =>
        rw [if_pos hh] at e
        exact iteT ⟨(by show 1 ≤ sizeLine; decide), k.told R e S2⟩
      | false =>
        rw [if_neg (by rw [hh]; exact Bool.false_ne_true)] at e
        refine iteF ⟨_, rfl, L.hs, _, _, _, _, rfl, R2.house, T.t_House.cl, T.t_House_no_doors, rfl, _, _, rfl, .inl (SqL.of (R2.doors.lst)), _, _, rfl, rfl, _, rfl, ?_⟩
        rw [R.doorsLen]
        by_cases h16 : 16 ≤ s.doors.length
        · rw [if_pos h16] at e
          rw [decide_eq_true (show (16 : Int) ≤ (s.doors.length : Nat) by omega)]
          exact iteT ⟨(by show 1 ≤ sizeLine; decide), k.told R e S2⟩
        · rw [if_neg h16] at e
          rw [decide_eq_false (show ¬ (16 : Int) ≤ (s.doors.length : Nat) by omega)]
          have hH2 := S2 _ _ hH
          refine iteF ⟨_, rfl, L.hs, _, _, _, _, rfl, R2.house, T.t_House.cl, T.t_House_no_doors, rfl, .inl ⟨rfl, _, SqL.of R2.doors.lst⟩, _, rfl, L.hs, _, _, _, _, rfl, R2.house, T.t_House.cl, T.t_House_no_desk, rfl, L.dk, _, _, _, _, rfl, R2.desk, T.t_Desk.cl, T.t_Desk_no_key, rfl, _, rfl, _, rfl, _, rfl, L.rl, _, _, _, rfl, rfl, SqL.of (R2.rooms.lst), (atR ha), a, _, _, _, _, rfl, hH2, T.t_Room.cl, T.t_Room_no_zone, rfl, fun x dx nx nd ne => ⟨x, dx, L.ka, r, y.zone, s.desk.key, rfl, upd_same, fun H3 bl nb nbx h3 hb3 K3 => ⟨rfl, ?_⟩⟩⟩
          have S3 : Same H2 H3 := Same.made nx nd K3
          have nb2 : H2 bl = none := by
            rw [upd_ne nbx] at nb
            cases q : H2 bl with
            | none => rfl
            | some o => rw [upd_ne (ne_of_none q nd), q] at nb; cases nb
          have m3 : Mv H2 ρ H3 (setc (setc ρ x (.door s.doors.length)) bl .imm) NoC := ((Mv.col nx).trans (Mv.col nb2)).trans (Mv.same S3)
          have R3 := R2.mv m3
          have F3 := (Fr.same (ρ := ρ) S2).trans (Fr.mv (c0 := NoC) m3)
          have cx : setc (setc ρ x (.door s.doors.length)) bl .imm x = .door s.doors.length := (setc_ne (fun z => nbx z.symm)).trans setc_same
          have cb : setc (setc ρ x (.door s.doors.length)) bl .imm bl = .imm := setc_same
          generalize setc (setc ρ x (.door s.doors.length)) bl .imm = ρ3 at R3 F3 cx cb
          have D3 : DoorP A H3 ρ3 L.ka x dx bl [] s.doors.length { key := s.desk.key, room := r, zone := y.zone } := ⟨h3, cx, hb3, cb, rfl, fun j b hj => by simp at hj⟩
          have R4 := R3.addDoor (good_addDoor R.good (d := { key := s.desk.key, room := r, zone := y.zone }) (by omega) rfl (Nat.zero_le _)) D3
          have F4 := F3.trans (Fr.wrote (u := .lst (L.ds.map V.ref ++ [V.ref x])) R3.doors.lst (by rw [R3.doors.col]; rfl))
          rw [e] at k
          refine ⟨L.dl, _, _, rfl, rfl, R3.doors.lst, by rw [R.doorsLen]; exact small1000 (by omega), ?_⟩
          refine ⟨_, rfl, L.hs, _, _, _, _, rfl, R4.house, T.t_House.cl, T.t_House_no_doors, rfl, _, _, rfl, .inl (SqL.of (upd_same)), _, _, rfl, rfl, (by show 1 ≤ sizeLine; decide), k.did F4 R4 ?_⟩
          rw [List.length_append, R.doorsLen]
          show [V.int (((s.doors.length + 1 : Nat) : Int) - 1)] = [V.int (s.doors.length : Nat)]
          rw [show ((s.doors.length + 1 : Nat) : Int) - 1 = (s.doors.length : Nat) by omega]
/-! ### doorday, bolt -/
theorem ok_set_door_day (T : Txt K mg A) : Ok P w K mg base 2 A.a_set_door_day ["house", "given"] (SpC A (gsDoor2 fun i n => .day i n)) := by
  refine T.t_set_door_day.ok sc_set_door_day (fun _ _ _ _ _ _ us hl => match us, hl with | [_, _], _ => rfl) (fun vs H Q E h => h.len) (fun cdv Ar outer st H vs Q E hr h => ?_)
  obtain ⟨ga, g, c, ρ, L, s, rfl, R, hg, hgc, ⟨i, n, d, rfl, hd, rfl⟩, k⟩ := h
  refine ⟨_, (pss_cons (ps_set (i := 2) sc_set_door_day.nd rfl (Or.inl rfl) (pe_ix ix_list (pe_fld (pv 0) rfl) (pe_ix ix_list (pv 1) pe_int (fun _ _ => rfl)) (fun _ _ => rfl)))
      (pss_cons (ps_if (pt_not (pt_val (pe_c (ok_is_day_from T) (hr.mono (by decide)) rfl T.t_is_day_from.mg (pa_cons (pe_fld (pv 2) rfl) (pa_cons (pe_ix ix_list (pv 1) pe_int (fun _ _ => rfl)) pa_nil))))) (pss_one (ps_ret (pe_lst (pa_cons (pe_co T.t_WRONG rfl) pa_nil)))) pss_nil)
      (pss_cons (ps_fld (pv 2) (pe_ix ix_list (pv 1) pe_int (fun _ _ => rfl)) rfl)
      (pss_one (ps_ret (pe_lst (pa_cons pe_int pa_nil))))))), ?_⟩
  obtain ⟨x, dx, bl, es, hx, hD⟩ := R.doors.at_ _ _ hd
  have e := act_doorday R.good hd (n := n)
  refine ⟨_, rfl, L.hs, _, _, _, _, rfl, R.house, T.t_House.cl, T.t_House_no_doors, rfl, _, rfl, ga, _, _, _, rfl, rfl, SqL.of (hg), at0, L.dl, _, _, _, rfl, rfl, SqL.of (R.doors.lst), (atR hx), _, rfl, x, _, _, _, _, rfl, hD.ins, T.t_Door.cl, T.t_Door_no_day, rfl, _, rfl, ga, _, _, _, rfl, rfl, SqL.of (hg), at1, d.day, n, rfl, _, rfl, ?_⟩
  cases hf : dayFrom d.day n with
  | false =>
    rw [if_pos (by have := dayF hf; omega)] at e
    exact iteT ⟨(by show 1 ≤ sizeLine; decide), k.no R e⟩
  | true =>
    rw [if_neg (by have := dayT hf; omega)] at e
    rw [e] at k
    refine iteF ⟨_, rfl, ga, _, _, _, rfl, rfl, SqL.of (hg), at1, _, rfl, x, _, _, _, rfl, hD.ins, T.t_Door.cl, T.t_Door_no_day, (by show 8 < 1000; decide), R.nxDoor (d' := { d with day := n }) hd hx hD.col hD.ins rfl hD.book (R.good.bk d (List.mem_of_getElem? hd)) fun H1 R1 F1 K1 hD1 => ?_⟩
    exact ⟨(by show 1 ≤ sizeLine; decide), k.did F1 R1 rfl⟩
theorem ok_set_bolt (T : Txt K mg A) : Ok P w K mg base 1 A.a_set_bolt ["house", "given"] (SpC A (gsDoor2 fun i n => .bolt i n)) := by
  refine T.t_set_bolt.ok sc_set_bolt (fun _ _ _ _ _ _ us hl => match us, hl with | [_, _], _ => rfl) (fun vs H Q E h => h.len) (fun cdv Ar outer st H vs Q E hr h => ?_)
  obtain ⟨ga, g, c, ρ, L, s, rfl, R, hg, hgc, ⟨i, n, d, rfl, hd, rfl⟩, k⟩ := h
  refine ⟨_, (pss_cons (ps_if (pt_cmpR op_gt (pe_ix ix_list (pv 1) pe_int (fun _ _ => rfl)) pe_int (nomark _)) (pss_one (ps_ret (pe_lst (pa_cons (pe_co T.t_WRONG rfl) pa_nil)))) pss_nil)
      (pss_cons (ps_fld (pe_ix ix_list (pe_fld (pv 0) rfl) (pe_ix ix_list (pv 1) pe_int (fun _ _ => rfl)) (fun _ _ => rfl)) (pe_cmpR op_eq (pe_ix ix_list (pv 1) pe_int (fun _ _ => rfl)) pe_int (nomark _)) rfl)
      (pss_one (ps_ret (pe_lst (pa_cons pe_int pa_nil)))))), ?_⟩
  obtain ⟨x, dx, bl, es, hx, hD⟩ := R.doors.at_ _ _ hd
  have e := act_bolt R.good hd (v := n)
  refine ⟨_, rfl, ga, _, _, _, rfl, rfl, SqL.of (hg), at1, _, _, rfl, rfl, _, rfl, ?_⟩
  by_cases h1 : 1 < n
  · rw [if_pos h1] at e
    rw [decide_eq_true (show (1 : Int) < (n : Nat) by omega)]
    exact iteT ⟨(by show 1 ≤ sizeLine; decide), k.no R e⟩
  · rw [if_neg h1] at e
    rw [decide_eq_false (show ¬ (1 : Int) < (n : Nat) by omega)]
    rw [e] at k
    have eb : (n == 1) = decide (V.int (n : Nat) = V.int 1) := by
      rw [dV, Bool.beq_eq_decide_eq]
      exact decide_eq_decide.mpr (by omega)
    rw [eb] at k
    refine iteF ⟨_, rfl, ga, _, _, _, rfl, rfl, SqL.of (hg), at1, rfl, _, rfl, L.hs, _, _, _, _, rfl, R.house, T.t_House.cl, T.t_House_no_doors, rfl, _, rfl, ga, _, _, _, rfl, rfl, SqL.of (hg), at0, L.dl, _, _, _, rfl, rfl, SqL.of (R.doors.lst), (atR hx), x, _, _, _, rfl, hD.ins, T.t_Door.cl, T.t_Door_no_bolted, (by show 8 < 1000; decide), R.nxDoor (d' := { d with bolted := decide (V.int (n : Nat) = V.int 1) }) hd hx hD.col hD.ins rfl hD.book (R.good.bk d (List.mem_of_getElem? hd)) fun H1 R1 F1 K1 hD1 => ?_⟩
    exact ⟨(by show 1 ≤ sizeLine; decide), k.did F1 R1 rfl⟩
/-! ### open, would, show, card -/
theorem ok_try_card (T : Txt K mg A) : Ok P w K mg base 6 A.a_try_card ["house", "given"] (SpC A (gsDoorRow fun i b => .open_ i b)) := by
  refine T.t_try_card.ok sc_try_card (fun _ _ _ _ _ _ us hl => match us, hl with | [_, _], _ => rfl) (fun vs H Q E h => h.len) (fun cdv Ar outer st H vs Q E hr h => ?_)
  obtain ⟨ga, g, c, ρ, L, s, rfl, R, hg, hgc, ⟨i, ra, b, d, rfl, hd, hb, bb, rfl⟩, k⟩ := h
  refine ⟨_, (pss_cons (ps_set (i := 2) sc_try_card.nd rfl (Or.inl rfl) (pe_ix ix_list (pe_fld (pv 0) rfl) (pe_ix ix_list (pv 1) pe_int (fun _ _ => rfl)) (fun _ _ => rfl)))
      (pss_cons (ps_set (i := 3) sc_try_card.nd rfl (Or.inl rfl) (pe_c (ok_read_card T) (hr.mono (by decide)) rfl T.t_read_card.mg (pa_cons (pe_fld (pv 2) rfl) (pa_cons (pe_ix ix_list (pv 1) pe_int (fun _ _ => rfl)) pa_nil))))
      (pss_one (ps_ret (pe_lst (pa_cons (pe_ifExp (pt_cmpR op_isN (pv 3) pe_non (nomark _)) (pe_co T.t_NO_CARD rfl) (pe_c (ok_show_card T) (hr.mono (by decide)) rfl T.t_show_card.mg (pa_cons (pv 2) (pa_cons (pv 3) pa_nil)))) pa_nil)))))), ?_⟩
  obtain ⟨x, dx, bl, es, hx, hD⟩ := R.doors.at_ _ _ hd
  have e := act_open R.good hd (b := b)
  refine ⟨_, rfl, L.hs, _, _, _, _, rfl, R.house, T.t_House.cl, T.t_House_no_doors, rfl, _, rfl, ga, _, _, _, rfl, rfl, SqL.of (hg), at0, L.dl, _, _, _, rfl, rfl, SqL.of (R.doors.lst), (atR hx), _, rfl, x, _, _, _, _, rfl, hD.ins, T.t_Door.cl, T.t_Door_no_key, rfl, _, rfl, ga, _, _, _, rfl, rfl, SqL.of (hg), at1, L.ka, ra, s.desk.key, b, rfl, SqL.of R.key, R.good.kb, R.good.kl, SqL.of hb, bb, fun hn H1 S1 => ?_, fun c hc H1 y dy ny S1 hy => ?_⟩
  · rw [hn] at e
    exact ⟨_, rfl, rfl, _, rfl, iteT ⟨(by show 1 ≤ sizeLine; decide), k.told R e S1⟩⟩
  · rw [hc] at e
    rw [e] at k
    have R1 := R.same S1
    have hD1 := hD.stay (Mv.same (ρ := ρ) S1) id id
    refine ⟨_, rfl, rfl, _, rfl, iteF ⟨_, rfl, _, rfl, ρ, L, s, i, x, dx, bl, es, d, y, dy, c, rfl, R1, hd, hx, hD1, hy, look_kind hc, fun H2 ρ2 F2 R2 => ⟨(by show 1 ≤ sizeLine; decide), k.did ((Fr.same S1).trans F2) R2 rfl⟩⟩⟩
theorem ok_weigh_card (T : Txt K mg A) : Ok P w K mg base 6 A.a_weigh_card ["house", "given"] (SpC A (gsDoorRow fun i b => .would i b)) := by
  refine T.t_weigh_card.ok sc_weigh_card (fun _ _ _ _ _ _ us hl => match us, hl with | [_, _], _ => rfl) (fun vs H Q E h => h.len) (fun cdv Ar outer st H vs Q E hr h => ?_)
  obtain ⟨ga, g, c, ρ, L, s, rfl, R, hg, hgc, ⟨i, ra, b, d, rfl, hd, hb, bb, rfl⟩, k⟩ := h
  refine ⟨_, (pss_cons (ps_set (i := 2) sc_weigh_card.nd rfl (Or.inl rfl) (pe_ix ix_list (pe_fld (pv 0) rfl) (pe_ix ix_list (pv 1) pe_int (fun _ _ => rfl)) (fun _ _ => rfl)))
      (pss_cons (ps_set (i := 3) sc_weigh_card.nd rfl (Or.inl rfl) (pe_c (ok_read_card T) (hr.mono (by decide)) rfl T.t_read_card.mg (pa_cons (pe_fld (pv 2) rfl) (pa_cons (pe_ix ix_list (pv 1) pe_int (fun _ _ => rfl)) pa_nil))))
      (pss_one (ps_ret (pe_lst (pa_cons (pe_ifExp (pt_cmpR op_isN (pv 3) pe_non (nomark _)) (pe_co T.t_NO_CARD rfl) (pe_c (ok_verdict T) (hr.mono (by decide)) rfl T.t_verdict.mg (pa_cons (pv 2) (pa_cons (pv 3) pa_nil)))) pa_nil)))))), ?_⟩
  obtain ⟨x, dx, bl, es, hx, hD⟩ := R.doors.at_ _ _ hd
  have e := act_would R.good hd (b := b)
  refine ⟨_, rfl, L.hs, _, _, _, _, rfl, R.house, T.t_House.cl, T.t_House_no_doors, rfl, _, rfl, ga, _, _, _, rfl, rfl, SqL.of (hg), at0, L.dl, _, _, _, rfl, rfl, SqL.of (R.doors.lst), (atR hx), _, rfl, x, _, _, _, _, rfl, hD.ins, T.t_Door.cl, T.t_Door_no_key, rfl, _, rfl, ga, _, _, _, rfl, rfl, SqL.of (hg), at1, L.ka, ra, s.desk.key, b, rfl, SqL.of R.key, R.good.kb, R.good.kl, SqL.of hb, bb, fun hn H1 S1 => ?_, fun c hc H1 y dy ny S1 hy => ?_⟩
  · rw [hn] at e
    exact ⟨_, rfl, rfl, _, rfl, iteT ⟨(by show 1 ≤ sizeLine; decide), k.told R e S1⟩⟩
  · rw [hc] at e
    dsimp only at e
    rw [shown_eq (look_kind hc)] at e
    exact ⟨_, rfl, rfl, _, rfl, iteF ⟨_, rfl, _, rfl, x, dx, L.ka, bl, y, dy, d, c, rfl, S1 _ _ hD.ins, hy, (by show 1 ≤ sizeLine; decide), k.told R e S1⟩⟩
theorem ok_try_kept_card (T : Txt K mg A) : Ok P w K mg base 7 A.a_try_kept_card ["house", "given"] (SpC A (gsDoor2 fun i n => .show i n)) := by
  refine T.t_try_kept_card.ok sc_try_kept_card (fun _ _ _ _ _ _ us hl => match us, hl with | [_, _], _ => rfl) (fun vs H Q E h => h.len) (fun cdv Ar outer st H vs Q E hr h => ?_)
  obtain ⟨ga, g, c, ρ, L, s, rfl, R, hg, hgc, ⟨i, n, d, rfl, hd, rfl⟩, k⟩ := h
  refine ⟨_, (pss_cons (ps_if (pt_cmpR op_ge (pe_ix ix_list (pv 1) pe_int (fun _ _ => rfl)) (pe_callB call_len_seq (by rfl) T.b_len PySem.boot_len (pa_cons (pe_fld (pv 0) rfl) pa_nil)) (nomark _)) (pss_one (ps_ret (pe_lst (pa_cons (pe_co T.t_NOT_KEPT rfl) pa_nil)))) pss_nil)
      (pss_one (ps_ret (pe_c (ok_try_card T) (hr.mono (by decide)) rfl T.t_try_card.mg (pa_cons (pv 0) (pa_cons (pe_lst (pa_cons (pe_ix ix_list (pv 1) pe_int (fun _ _ => rfl)) (pa_cons (pe_ix ix_list (pe_fld (pv 0) rfl) (pe_ix ix_list (pv 1) pe_int (fun _ _ => rfl)) (fun _ _ => rfl)) pa_nil))) pa_nil)))))), ?_⟩
  have e := act_show R.good hd (k := n)
  refine ⟨_, rfl, ga, _, _, _, rfl, rfl, SqL.of (hg), at1, _, rfl, L.hs, _, _, _, _, rfl, R.house, T.t_House.cl, T.t_House_no_cards, rfl, _, _, rfl, .inl (SqL.of (R.cards.lst)), _, _, rfl, rfl, _, rfl, ?_⟩
  rw [R.cardsLen]
  cases hn : s.cards[n]? with
  | none =>
    rw [hn] at e
    have hl := List.getElem?_eq_none_iff.mp hn
    rw [decide_eq_true (show (s.cards.length : Int) ≤ (n : Nat) by omega)]
    exact iteT ⟨(by show 1 ≤ sizeLine; decide), k.no R e⟩
  | some b =>
    rw [hn] at e
    have hl := (List.getElem?_eq_some_iff.mp hn).1
    rw [decide_eq_false (show ¬ (s.cards.length : Int) ≤ (n : Nat) by omega)]
    obtain ⟨ca, hca, hcc, hcH⟩ := R.cards.at_ _ _ hn
    rw [e] at k
    refine iteF ⟨_, rfl, _, rfl, ga, _, _, _, rfl, rfl, SqL.of (hg), at0, _, rfl, L.hs, _, _, _, _, rfl, R.house, T.t_House.cl, T.t_House_no_cards, rfl, _, rfl, ga, _, _, _, rfl, rfl, SqL.of (hg), at1, L.cl, _, _, _, rfl, rfl, SqL.of (R.cards.lst), (atR hca), (by show 2 ≤ sizeLine; decide), fun l nl => ?_⟩
    have m1 : Mv H ρ (upd H l (.lst [.int (i : Nat), V.ref ca])) (setc ρ l .other) NoC := Mv.laid nl
    exact ⟨l, _, .open_ i b, setc ρ l .other, L, s, rfl, R.mv m1, upd_same, setc_same, ⟨i, ca, b, d, rfl, hd, (m1 _ _ hcH id).1, (R.good.cb b (List.mem_of_getElem? hn)).1, rfl⟩, k.via rfl (Fr.mv (c0 := NoC) m1)⟩
theorem ok_tell_kept_card (T : Txt K mg A) : Ok P w K mg base 1 A.a_tell_kept_card ["house", "given"] (SpC A (gs1 fun n => .card n)) := by
  refine T.t_tell_kept_card.ok sc_tell_kept_card (fun _ _ _ _ _ _ us hl => match us, hl with | [_, _], _ => rfl) (fun vs H Q E h => h.len) (fun cdv Ar outer st H vs Q E hr h => ?_)
  obtain ⟨ga, g, c, ρ, L, s, rfl, R, hg, hgc, ⟨n, rfl, rfl⟩, k⟩ := h
  refine ⟨_, (pss_cons (ps_if (pt_cmpR op_ge (pe_ix ix_list (pv 1) pe_int (fun _ _ => rfl)) (pe_callB call_len_seq (by rfl) T.b_len PySem.boot_len (pa_cons (pe_fld (pv 0) rfl) pa_nil)) (nomark _)) (pss_one (ps_ret (pe_lst (pa_cons (pe_co T.t_NOT_KEPT rfl) pa_nil)))) pss_nil)
      (pss_cons (ps_set (i := 2) sc_tell_kept_card.nd rfl (Or.inl rfl) (pe_ix ix_list (pe_fld (pv 0) rfl) (pe_ix ix_list (pv 1) pe_int (fun _ _ => rfl)) (fun _ _ => rfl)))
      (pss_one (ps_ret (pe_op op_cat (pe_lst (pa_cons (pe_callB call_len_seq (by rfl) T.b_len PySem.boot_len (pa_cons (pv 2) pa_nil)) pa_nil)) (pv 2)))))), ?_⟩
  have e := act_card R.good (k := n)
  refine ⟨_, rfl, ga, _, _, _, rfl, rfl, SqL.of (hg), at0, _, rfl, L.hs, _, _, _, _, rfl, R.house, T.t_House.cl, T.t_House_no_cards, rfl, _, _, rfl, .inl (SqL.of (R.cards.lst)), _, _, rfl, rfl, _, rfl, ?_⟩
  rw [R.cardsLen]
  cases hn : s.cards[n]? with
  | none =>
    rw [hn] at e
    have hl := List.getElem?_eq_none_iff.mp hn
    rw [decide_eq_true (show (s.cards.length : Int) ≤ (n : Nat) by omega)]
    exact iteT ⟨(by show 1 ≤ sizeLine; decide), k.no R e⟩
  | some b =>
    rw [hn] at e
    have hl := (List.getElem?_eq_some_iff.mp hn).1
    rw [decide_eq_false (show ¬ (s.cards.length : Int) ≤ (n : Nat) by omega)]
    obtain ⟨ca, hca, hcc, hcH⟩ := R.cards.at_ _ _ hn
    have hb := (R.good.cb b (List.mem_of_getElem? hn)).2
    refine iteF ⟨_, rfl, L.hs, _, _, _, _, rfl, R.house, T.t_House.cl, T.t_House_no_cards, rfl, _, rfl, ga, _, _, _, rfl, rfl, SqL.of (hg), at0, L.cl, _, _, _, rfl, rfl, SqL.of (R.cards.lst), (atR hca), _, rfl, _, _, rfl, .inl (SqL.of (hcH)), (by show 1 ≤ sizeLine; decide), fun l1 n1 => ⟨_, rfl, l1, ca, _, _, rfl, rfl, upd_same, same_new n1 _ _ hcH, ?_, ?_⟩⟩
    · rw [vn_len, hb]
      decide
    · rw [vn_len, hb]
      exact k.told R e (same_new n1)
/-! ### book, door -/
theorem ok_tell_book (T : Txt K mg A) : Ok P w K mg base 1 A.a_tell_book ["house", "given"] (SpC A (gsDoor2 fun i n => .book i n)) := by
  refine T.t_tell_book.ok sc_tell_book (fun _ _ _ _ _ _ us hl => match us, hl with | [_, _], _ => rfl) (fun vs H Q E h => h.len) (fun cdv Ar outer st H vs Q E hr h => ?_)
  obtain ⟨ga, g, c, ρ, L, s, rfl, R, hg, hgc, ⟨i, n, d, rfl, hd, rfl⟩, k⟩ := h
  refine ⟨_, (pss_cons (ps_set (i := 2) sc_tell_book.nd rfl (Or.inl rfl) (pe_fld (pe_ix ix_list (pe_fld (pv 0) rfl) (pe_ix ix_list (pv 1) pe_int (fun _ _ => rfl)) (fun _ _ => rfl)) rfl))
      (pss_cons (ps_if (pt_cmpR op_ge (pe_ix ix_list (pv 1) pe_int (fun _ _ => rfl)) (pe_callB call_len_seq (by rfl) T.b_len PySem.boot_len (pa_cons (pv 2) pa_nil)) (nomark _)) (pss_one (ps_ret (pe_lst (pa_cons (pe_co T.t_NOT_KEPT rfl) pa_nil)))) pss_nil)
      (pss_one (ps_ret (pe_callTy call_list_of (by rfl) T.b_list (by decide +kernel) (pa_cons (pe_ix ix_list (pv 2) (pe_ix ix_list (pv 1) pe_int (fun _ _ => rfl)) (fun _ _ => rfl)) pa_nil)))))), ?_⟩
  obtain ⟨x, dx, bl, es, hx, hD⟩ := R.doors.at_ _ _ hd
  have e := act_book R.good hd (k := n)
  refine ⟨_, rfl, L.hs, _, _, _, _, rfl, R.house, T.t_House.cl, T.t_House_no_doors, rfl, _, rfl, ga, _, _, _, rfl, rfl, SqL.of (hg), at0, L.dl, _, _, _, rfl, rfl, SqL.of (R.doors.lst), (atR hx), x, _, _, _, _, rfl, hD.ins, T.t_Door.cl, T.t_Door_no_book, rfl, _, rfl, ga, _, _, _, rfl, rfl, SqL.of (hg), at1, _, rfl, _, _, rfl, .inl (SqL.of (hD.book.lst)), _, _, rfl, rfl, _, rfl, ?_⟩
  rw [List.length_map, hD.book.len]
  cases hn : d.book[n]? with
  | none =>
    rw [hn] at e
    have hl := List.getElem?_eq_none_iff.mp hn
    rw [decide_eq_true (show (d.book.length : Int) ≤ (n : Nat) by omega)]
    exact iteT ⟨(by show 1 ≤ sizeLine; decide), k.no R e⟩
  | some b =>
    rw [hn] at e
    have hl := (List.getElem?_eq_some_iff.mp hn).1
    rw [decide_eq_false (show ¬ (d.book.length : Int) ≤ (n : Nat) by omega)]
    obtain ⟨ea, hea, hec, heH⟩ := hD.book.at_ _ _ hn
    exact iteF ⟨_, rfl, _, rfl, ga, _, _, _, rfl, rfl, SqL.of (hg), at1, bl, _, _, _, rfl, rfl, SqL.of (hD.book.lst), (atR hea), ea, _, rfl, .inr (SqT.of heH), k.told R e (Same.refl H)⟩
theorem ok_tell_door (T : Txt K mg A) : Ok P w K mg base 1 A.a_tell_door ["house", "given"] (SpC A (gsDoor fun i => .door i)) := by
  refine T.t_tell_door.ok sc_tell_door (fun _ _ _ _ _ _ us hl => match us, hl with | [_, _], _ => rfl) (fun vs H Q E h => h.len) (fun cdv Ar outer st H vs Q E hr h => ?_)
  obtain ⟨ga, g, c, ρ, L, s, rfl, R, hg, hgc, ⟨i, d, rfl, hd, rfl⟩, k⟩ := h
  refine ⟨_, (pss_cons (ps_set (i := 2) sc_tell_door.nd rfl (Or.inl rfl) (pe_ix ix_list (pe_fld (pv 0) rfl) (pe_ix ix_list (pv 1) pe_int (fun _ _ => rfl)) (fun _ _ => rfl)))
      (pss_cons (ps_set (i := 3) sc_tell_door.nd rfl (Or.inl rfl) (pe_ifExp (pt_val (pe_fld (pv 2) rfl)) pe_int pe_int))
      (pss_one (ps_ret (pe_lst (pa_cons (pv 3) (pa_cons (pe_fld (pv 2) rfl) (pa_cons (pe_fld (pv 2) rfl) (pa_cons (pe_fld (pv 2) rfl) (pa_cons (pe_fld (pv 2) rfl) (pa_cons (pe_fld (pv 2) rfl) (pa_cons (pe_callB call_len_seq (by rfl) T.b_len PySem.boot_len (pa_cons (pe_fld (pv 2) rfl) pa_nil)) pa_nil)))))))))))), ?_⟩
  obtain ⟨x, dx, bl, es, hx, hD⟩ := R.doors.at_ _ _ hd
  have e := act_door R.good hd
  refine ⟨_, rfl, L.hs, _, _, _, _, rfl, R.house, T.t_House.cl, T.t_House_no_doors, rfl, _, rfl, ga, _, _, _, rfl, rfl, SqL.of (hg), at0, L.dl, _, _, _, rfl, rfl, SqL.of (R.doors.lst), (atR hx), _, rfl, x, _, _, _, _, rfl, hD.ins, T.t_Door.cl, T.t_Door_no_bolted, rfl, _, rfl, ?_⟩
  cases hb : d.bolted with
  | true =>
    rw [hb, if_pos rfl] at e
    refine iteT ⟨_, rfl, _, rfl, x, _, _, _, _, rfl, hD.ins, T.t_Door.cl, T.t_Door_no_room, rfl, _, rfl, x, _, _, _, _, rfl, hD.ins, T.t_Door.cl, T.t_Door_no_zone, rfl, _, rfl, x, _, _, _, _, rfl, hD.ins, T.t_Door.cl, T.t_Door_no_day, rfl, _, rfl, x, _, _, _, _, rfl, hD.ins, T.t_Door.cl, T.t_Door_no_number, rfl, _, rfl, x, _, _, _, _, rfl, hD.ins, T.t_Door.cl, T.t_Door_no_staff_round, rfl, _, rfl, x, _, _, _, _, rfl, hD.ins, T.t_Door.cl, T.t_Door_no_book, rfl, _, _, rfl, .inl (SqL.of (hD.book.lst)), (by show 7 ≤ sizeLine; decide), ?_⟩
    rw [List.length_map, hD.book.len]
    exact k.told R e (Same.refl H)
  | false =>
    rw [hb, if_neg Bool.false_ne_true] at e
    refine iteF ⟨_, rfl, _, rfl, x, _, _, _, _, rfl, hD.ins, T.t_Door.cl, T.t_Door_no_room, rfl, _, rfl, x, _, _, _, _, rfl, hD.ins, T.t_Door.cl, T.t_Door_no_zone, rfl, _, rfl, x, _, _, _, _, rfl, hD.ins, T.t_Door.cl, T.t_Door_no_day, rfl, _, rfl, x, _, _, _, _, rfl, hD.ins, T.t_Door.cl, T.t_Door_no_number, rfl, _, rfl, x, _, _, _, _, rfl, hD.ins, T.t_Door.cl, T.t_Door_no_staff_round, rfl, _, rfl, x, _, _, _, _, rfl, hD.ins, T.t_Door.cl, T.t_Door_no_book, rfl, _, _, rfl, .inl (SqL.of (hD.book.lst)), (by show 7 ≤ sizeLine; decide), ?_⟩
    rw [List.length_map, hD.book.len]
    exact k.told R e (Same.refl H)
/-! ### all -/
theorem ok_set_day_everywhere (T : Txt K mg A) : Ok P w K mg base 3 A.a_set_day_everywhere ["house", "given"] (SpC A (gs1 fun d => .all d)) := by
  refine T.t_set_day_everywhere.ok sc_set_day_everywhere (fun _ _ _ _ _ _ us hl => match us, hl with | [_, _], _ => rfl) (fun vs H Q E h => h.len) (fun cdv Ar outer st H vs Q E hr h => ?_)
  obtain ⟨ga, g, c, ρ, L, s, rfl, R, hg, hgc, ⟨n, rfl, rfl⟩, k⟩ := h
  refine ⟨_, (pss_cons (ps_set (i := 2) sc_set_day_everywhere.nd rfl (Or.inl rfl) (pe_c (ok_set_day T) (hr.mono (by decide)) rfl T.t_set_day.mg (pa_cons (pv 0) (pa_cons (pv 1) pa_nil))))
      (pss_cons (ps_if (pt_cmpR op_lt (pe_ix ix_list (pv 2) pe_int (fun _ _ => rfl)) pe_int (nomark _)) (pss_one (ps_ret (pv 2))) pss_nil)
      (pss_cons (ps_for PassesOwn.never rfl (pi_list (pe_fld (pv 0) rfl)) (pg_name (i := 3) sc_set_day_everywhere.nd rfl (Or.inl rfl)) (pss_one (ps_fld (pv 3) (pe_callB (call_max2 rfl) (by rfl) T.b_max (by decide +kernel) (pa_cons (pe_fld (pv 3) rfl) (pa_cons (pe_ix ix_list (pv 1) pe_int (fun _ _ => rfl)) pa_nil))) rfl)))
      (pss_one (ps_ret (pv 2)))))), ?_⟩
  have e := act_all R.good (n := n)
  have e0 := act_day R.good (d := n)
  refine ⟨_, rfl, _, rfl, ga, _, .desk (.day n), ρ, L, s, rfl, R, hg, hgc, ⟨n, rfl, rfl⟩, fun H1 ρ1 L1 p F1 hL1 R1 hp h1 => ?_⟩
  have hg1 := F1.kp _ _ hg (by rw [hgc]; rfl)
  by_cases h : n < s.desk.day ∨ 65535 < n
  · rw [if_pos h] at e e0
    have e1 := desk_no (s := s) (c := .day n) (by decide) (fun _ z => by cases z) e0
    rw [e1] at R1 h1
    rw [e] at k
    refine ⟨_, rfl, p, _, _, _, rfl, rfl, SqL.of h1, at0, _, _, rfl, rfl, _, rfl, iteT ⟨_, rfl, k H1 ρ1 L1 p F1 hL1 R1 hp h1⟩⟩
  · rw [if_neg h] at e e0
    have e1 := desk_do (s := s) (c := .day n) (by rfl) (fun _ z => by cases z) e0
    rw [e1] at R1 h1
    rw [e] at k
    refine ⟨_, rfl, p, _, _, _, rfl, rfl, SqL.of h1, at0, _, _, rfl, rfl, _, rfl, ?_⟩
    dsimp only
    rw [decide_eq_false (by omega)]
    refine iteF ⟨_, rfl, L1.hs, _, _, _, _, ?_, R1.house, T.t_House.cl, T.t_House_no_doors, rfl, L1.dl, rfl, ⟨_, SqL.of R1.doors.lst⟩, for_list (K := K) (a := L1.dl) (xs := L1.ds.map V.ref) (fun j σ H' => ∃ v : Option V, σ = [some (.ref L.hs), some (.ref ga), some (.ref p), v] ∧ H' p = some (.lst (ansV ⟨((Ks347.stays s.desk - Ks347.stays { s.desk with day := n, rooms := Ks347.ended s.desk n } : Nat) : Int), []⟩)) ∧ H' ga = some (.lst [.int (n : Nat)]) ∧ Fr ρ H ρ1 H' ∧
        Rep A H' ρ1 L1 { s with desk := { s.desk with day := n, rooms := Ks347.ended s.desk n }, doors := ageUpTo n j s.doors })
      ⟨none, rfl, h1, hg1, F1, by rw [ageUpTo_zero]; exact R1⟩ (fun j σ H' _ ⟨_, _, _, _, _, q⟩ => SqL.of q.doors.lst) ?_ ?_⟩
    · rw [hL1]
    · rintro j y σ H' hj ⟨v, rfl, hp', hg', F', R'⟩
      rw [List.getElem?_map] at hj
      cases hq : L1.ds[j]? with
      | none => rw [hq] at hj; cases hj
      | some x =>
        rw [hq] at hj
        have ey : V.ref x = y := Option.some.inj hj
        subst ey
        have hjl : j < s.doors.length := by
          have q1 := (List.getElem?_eq_some_iff.mp hq).1
          rw [R1.doors.len] at q1
          exact q1
        have hdj := List.getElem?_eq_getElem hjl
        generalize s.doors[j] = d at hdj
        have hda : (ageUpTo n j s.doors)[j]? = some d := by rw [ageUpTo_get hdj, if_neg (Nat.lt_irrefl j)]
        obtain ⟨x', dx, bl, es, hx', hD⟩ := R'.doors.at_ j d hda
        have exx : x' = x := by
          rw [hq] at hx'
          exact (Option.some.inj hx').symm
        subst exx
        have emax : (if ((n : Nat) : Int) > ((d.day : Nat) : Int) then ((n : Nat) : Int) else ((d.day : Nat) : Int)) = ((max d.day n : Nat) : Int) := by
          split <;> omega
        refine ⟨_, rfl, x', _, _, _, _, rfl, hD.ins, T.t_Door.cl, T.t_Door_no_day, rfl, _, rfl, ga, _, _, _, rfl, rfl, SqL.of (hg'), at0, _, _, rfl, ?_⟩
        rw [emax]
        refine ⟨_, rfl, x', _, _, _, rfl, hD.ins, T.t_Door.cl, T.t_Door_no_day, (by show 8 < 1000; decide), R'.nxDoor (d' := { d with day := max d.day n }) hda hx' hD.col hD.ins rfl hD.book (R.good.bk d (List.mem_of_getElem? hdj)) fun H2 R2 F2 K2 hD2 => ?_⟩
        refine ⟨_, rfl, K2 _ _ hp' (ne_of hp' hD.ins (by intro z; cases z)), K2 _ _ hg' (ne_of hg' hD.ins (by intro z; cases z)), F'.trans F2, ?_⟩
        rw [ageUpTo_succ hdj]
        exact R2
    · rintro σ H' ⟨v, rfl, hp', hg', F', R'⟩
      rw [List.length_map, R1.doors.len] at R'
      have R' : Rep A H' ρ1 L1 { s with desk := { s.desk with day := n, rooms := Ks347.ended s.desk n }, doors := ageUpTo n s.doors.length s.doors } := R'
      rw [ageUpTo_all] at R'
      exact ⟨_, rfl, k H' ρ1 L1 p F' hL1 R' hp hp'⟩
end
end Dc

set_option Elab.async false
set_option linter.all false
set_option maxRecDepth 100000
set_option maxHeartbeats 4000000
/-! which call it is -/
namespace Dc
open PySem PySem.Spec PyProof.Rows L2
/-- what is given to a call, as a list -/
def numsV (n a b : Nat) : List V := match n with
  | 0 => []
  | 1 => [V.int (a : Nat)]
  | _ => [V.int (a : Nat), V.int (b : Nat)]
def rowV (k : Nat) (ra : Addr) : List V := match k with
  | 0 => []
  | _ => [V.ref ra]
def GivenOk (H : Hp) (ρ : Addr → Col) (n k a b : Nat) (row : List Nat) (g : List V) : Prop :=
  ∃ ra : Addr, g = numsV n a b ++ rowV k ra ∧ (k ≠ 0 → H ra = some (.lst (vn row)) ∧ Byt row ∧ ρ ra = .row)
section
variable {P : Program} {w : World} {K : PySem.W.Frag} {mg : Str → Option Value} {base : Heap} {A : Ad}
def sp_answer (A : Ad) (lo hi : Nat) : Sp := fun vs H Q _ => ∃ (ga : Addr) (g : List V) (ρ : Addr → Col) (L : Lay) (s : Ks348.Abs) (q n m a b : Nat) (row : List Nat), vs = [.ref L.hs, .int q, .ref ga] ∧ Rep A H ρ L s ∧ H ga = some (.lst g) ∧ ρ ga = .other ∧ lo ≤ q ∧ q ≤ hi ∧ layL[q]? = some (n, m) ∧ GivenOk H ρ n m a b row g ∧ Kont A H ρ L (Ks348.act s (callOf q a b row)) Q
theorem ok_desk_answer (T : Txt K mg A) : Ok P w K mg base 9 A.a_desk_answer ["house", "call", "given"] (sp_answer A 1 15) := by
  refine T.t_desk_answer.ok sc_desk_answer (fun _ _ _ _ _ _ us hl => match us, hl with | [_, _, _], _ => rfl) (fun vs H Q E h => by obtain ⟨_, _, _, _, _, _, _, _, _, _, _, rfl, _⟩ := h; rfl) (fun cdv Ar outer st H vs Q E hr h => ?_)
  obtain ⟨ga, g, ρ, L, s, q, n, m, a, b, row, rfl, R, hg, hgc, hlo, hhi, hl, hG, k⟩ := h
  refine ⟨_, (pss_cons (ps_if (PW.pt (pw_and (pt_cmpR op_in_seq (pv 1) (pe_glob (v := .ref A.a_CALLS_OF_A_ROOM) rfl T.t_CALLS_OF_A_ROOM rfl) (by with_unfolding_all rfl)) (pw_and1 (pt_cmpR op_ge (pe_ix ix_list (pv 2) pe_int (fun _ _ => rfl)) (pe_callB call_len_seq (by rfl) T.b_len PySem.boot_len (pa_cons (pe_fld (pe_fld (pv 0) rfl) rfl) pa_nil)) (nomark _))))) (pss_one (ps_ret (pe_lst (pa_cons (pe_co T.t_NO_ROOM rfl) pa_nil)))) pss_nil)
      (pss_cons (ps_set (i := 3) sc_desk_answer.nd rfl (Or.inl rfl) (pe_dgetK (pe_glob (v := .ref A.a_DESK_CALLS) rfl T.t_DESK_CALLS rfl) (pv 1) (fun _ _ => rfl)))
      (pss_one (ps_ret (pe_cv (i := 3) rfl (pa_cons (pv 0) (pa_cons (pv 2) pa_nil))))))), ?_⟩
  have hq : q = 1 ∨ q = 2 ∨ q = 3 ∨ q = 4 ∨ q = 5 ∨ q = 6 ∨ q = 7 ∨ q = 8 ∨ q = 9 ∨ q = 10 ∨ q = 11 ∨ q = 12 ∨ q = 13 ∨ q = 14 ∨ q = 15 := by omega
  rcases hq with rfl | rfl | rfl | rfl | rfl | rfl | rfl | rfl | rfl | rfl | rfl | rfl | rfl | rfl | rfl
  · -- 1
    cases hl
    obtain ⟨ra, rfl, hrow⟩ := hG
    exact ⟨_, rfl, A.a_CALLS_OF_A_ROOM, _, rfl, .inr (T.q_CALLS_OF_A_ROOM H), rfl, rfl, _, rfl, iteF (iteF ⟨_, rfl, A.a_DESK_CALLS, _, _, A.a_add_room, rfl, rfl, T.q_DESK_CALLS, rfl, A.a_add_room, 3, _, _, rfl, ok_add_room T, hr.mono (by decide), _, rfl, _, rfl, ga, _, _, ρ, L, s, rfl, R, hg, hgc, ⟨a, rfl, rfl⟩, k⟩)⟩
  · -- 2
    cases hl
    obtain ⟨ra, rfl, hrow⟩ := hG
    exact ⟨_, rfl, A.a_CALLS_OF_A_ROOM, _, rfl, .inr (T.q_CALLS_OF_A_ROOM H), rfl, rfl, _, rfl, iteF (iteF ⟨_, rfl, A.a_DESK_CALLS, _, _, A.a_set_day, rfl, rfl, T.q_DESK_CALLS, rfl, A.a_set_day, 2, _, _, rfl, ok_set_day T, hr.mono (by decide), _, rfl, _, rfl, ga, _, _, ρ, L, s, rfl, R, hg, hgc, ⟨a, rfl, rfl⟩, k⟩)⟩
  · -- 3
    cases hl
    obtain ⟨ra, rfl, hrow⟩ := hG
    refine ⟨_, rfl, A.a_CALLS_OF_A_ROOM, _, rfl, .inr (T.q_CALLS_OF_A_ROOM H), rfl, rfl, _, rfl, iteT ⟨_, rfl, ga, _, _, _, rfl, rfl, SqL.of (hg), at0, _, rfl, L.hs, _, _, _, _, rfl, R.house, T.t_House.cl, T.t_House_no_desk, rfl, L.dk, _, _, _, _, rfl, R.desk, T.t_Desk.cl, T.t_Desk_no_rooms, rfl, _, _, rfl, .inl (SqL.of (R.rooms.lst)), _, _, rfl, rfl, _, rfl, ?_⟩⟩
    rw [R.roomsLen]
    cases hx : s.desk.rooms[a]? with
    | none =>
      rw [decide_eq_true (show (s.desk.rooms.length : Int) ≤ (a : Nat) by have := List.getElem?_eq_none_iff.mp hx; omega)]
      exact iteT ⟨(by show 1 ≤ sizeLine; decide), k.no R (act_noroom R.good hx (.inl ⟨_, rfl⟩))⟩
    | some x =>
      rw [decide_eq_false (show ¬ (s.desk.rooms.length : Int) ≤ (a : Nat) by have := (List.getElem?_eq_some_iff.mp hx).1; omega)]
      exact iteF ⟨_, rfl, A.a_DESK_CALLS, _, _, A.a_come, rfl, rfl, T.q_DESK_CALLS, rfl, A.a_come, 8, _, _, rfl, ok_come T, hr.mono (by decide), _, rfl, _, rfl, ga, _, _, ρ, L, s, rfl, R, hg, hgc, ⟨a, b, x, rfl, hx, rfl⟩, k⟩
  · -- 4
    cases hl
    obtain ⟨ra, rfl, hrow⟩ := hG
    refine ⟨_, rfl, A.a_CALLS_OF_A_ROOM, _, rfl, .inr (T.q_CALLS_OF_A_ROOM H), rfl, rfl, _, rfl, iteT ⟨_, rfl, ga, _, _, _, rfl, rfl, SqL.of (hg), at0, _, rfl, L.hs, _, _, _, _, rfl, R.house, T.t_House.cl, T.t_House_no_desk, rfl, L.dk, _, _, _, _, rfl, R.desk, T.t_Desk.cl, T.t_Desk_no_rooms, rfl, _, _, rfl, .inl (SqL.of (R.rooms.lst)), _, _, rfl, rfl, _, rfl, ?_⟩⟩
    rw [R.roomsLen]
    cases hx : s.desk.rooms[a]? with
    | none =>
      rw [decide_eq_true (show (s.desk.rooms.length : Int) ≤ (a : Nat) by have := List.getElem?_eq_none_iff.mp hx; omega)]
      exact iteT ⟨(by show 1 ≤ sizeLine; decide), k.no R (act_noroom R.good hx (.inr (.inl rfl)))⟩
    | some x =>
      rw [decide_eq_false (show ¬ (s.desk.rooms.length : Int) ≤ (a : Nat) by have := (List.getElem?_eq_some_iff.mp hx).1; omega)]
      exact iteF ⟨_, rfl, A.a_DESK_CALLS, _, _, A.a_copy_card, rfl, rfl, T.q_DESK_CALLS, rfl, A.a_copy_card, 8, _, _, rfl, ok_copy_card T, hr.mono (by decide), _, rfl, _, rfl, ga, _, _, ρ, L, s, rfl, R, hg, hgc, ⟨a, x, rfl, hx, rfl⟩, k⟩
  · -- 5
    cases hl
    obtain ⟨ra, rfl, hrow⟩ := hG
    refine ⟨_, rfl, A.a_CALLS_OF_A_ROOM, _, rfl, .inr (T.q_CALLS_OF_A_ROOM H), rfl, rfl, _, rfl, iteT ⟨_, rfl, ga, _, _, _, rfl, rfl, SqL.of (hg), at0, _, rfl, L.hs, _, _, _, _, rfl, R.house, T.t_House.cl, T.t_House_no_desk, rfl, L.dk, _, _, _, _, rfl, R.desk, T.t_Desk.cl, T.t_Desk_no_rooms, rfl, _, _, rfl, .inl (SqL.of (R.rooms.lst)), _, _, rfl, rfl, _, rfl, ?_⟩⟩
    rw [R.roomsLen]
    cases hx : s.desk.rooms[a]? with
    | none =>
      rw [decide_eq_true (show (s.desk.rooms.length : Int) ≤ (a : Nat) by have := List.getElem?_eq_none_iff.mp hx; omega)]
      exact iteT ⟨(by show 1 ≤ sizeLine; decide), k.no R (act_noroom R.good hx (.inr (.inr (.inl rfl))))⟩
    | some x =>
      rw [decide_eq_false (show ¬ (s.desk.rooms.length : Int) ≤ (a : Nat) by have := (List.getElem?_eq_some_iff.mp hx).1; omega)]
      exact iteF ⟨_, rfl, A.a_DESK_CALLS, _, _, A.a_replace_lost, rfl, rfl, T.q_DESK_CALLS, rfl, A.a_replace_lost, 8, _, _, rfl, ok_replace_lost T, hr.mono (by decide), _, rfl, _, rfl, ga, _, _, ρ, L, s, rfl, R, hg, hgc, ⟨a, x, rfl, hx, rfl⟩, k⟩
  · -- 6
    cases hl
    obtain ⟨ra, rfl, hrow⟩ := hG
    refine ⟨_, rfl, A.a_CALLS_OF_A_ROOM, _, rfl, .inr (T.q_CALLS_OF_A_ROOM H), rfl, rfl, _, rfl, iteT ⟨_, rfl, ga, _, _, _, rfl, rfl, SqL.of (hg), at0, _, rfl, L.hs, _, _, _, _, rfl, R.house, T.t_House.cl, T.t_House_no_desk, rfl, L.dk, _, _, _, _, rfl, R.desk, T.t_Desk.cl, T.t_Desk_no_rooms, rfl, _, _, rfl, .inl (SqL.of (R.rooms.lst)), _, _, rfl, rfl, _, rfl, ?_⟩⟩
    rw [R.roomsLen]
    cases hx : s.desk.rooms[a]? with
    | none =>
      rw [decide_eq_true (show (s.desk.rooms.length : Int) ≤ (a : Nat) by have := List.getElem?_eq_none_iff.mp hx; omega)]
      exact iteT ⟨(by show 1 ≤ sizeLine; decide), k.no R (act_noroom R.good hx (.inr (.inr (.inr (.inl ⟨_, rfl⟩)))))⟩
    | some x =>
      rw [decide_eq_false (show ¬ (s.desk.rooms.length : Int) ≤ (a : Nat) by have := (List.getElem?_eq_some_iff.mp hx).1; omega)]
      exact iteF ⟨_, rfl, A.a_DESK_CALLS, _, _, A.a_stay_longer, rfl, rfl, T.q_DESK_CALLS, rfl, A.a_stay_longer, 8, _, _, rfl, ok_stay_longer T, hr.mono (by decide), _, rfl, _, rfl, ga, _, _, ρ, L, s, rfl, R, hg, hgc, ⟨a, b, x, rfl, hx, rfl⟩, k⟩
  · -- 7
    cases hl
    obtain ⟨ra, rfl, hrow⟩ := hG
    refine ⟨_, rfl, A.a_CALLS_OF_A_ROOM, _, rfl, .inr (T.q_CALLS_OF_A_ROOM H), rfl, rfl, _, rfl, iteT ⟨_, rfl, ga, _, _, _, rfl, rfl, SqL.of (hg), at0, _, rfl, L.hs, _, _, _, _, rfl, R.house, T.t_House.cl, T.t_House_no_desk, rfl, L.dk, _, _, _, _, rfl, R.desk, T.t_Desk.cl, T.t_Desk_no_rooms, rfl, _, _, rfl, .inl (SqL.of (R.rooms.lst)), _, _, rfl, rfl, _, rfl, ?_⟩⟩
    rw [R.roomsLen]
    cases hx : s.desk.rooms[a]? with
    | none =>
      rw [decide_eq_true (show (s.desk.rooms.length : Int) ≤ (a : Nat) by have := List.getElem?_eq_none_iff.mp hx; omega)]
      exact iteT ⟨(by show 1 ≤ sizeLine; decide), k.no R (act_noroom R.good hx (.inr (.inr (.inr (.inr (.inl rfl))))))⟩
    | some x =>
      rw [decide_eq_false (show ¬ (s.desk.rooms.length : Int) ≤ (a : Nat) by have := (List.getElem?_eq_some_iff.mp hx).1; omega)]
      exact iteF ⟨_, rfl, A.a_DESK_CALLS, _, _, A.a_leave, rfl, rfl, T.q_DESK_CALLS, rfl, A.a_leave, 2, _, _, rfl, ok_leave T, hr.mono (by decide), _, rfl, _, rfl, ga, _, _, ρ, L, s, rfl, R, hg, hgc, ⟨a, x, rfl, hx, rfl⟩, k⟩
  · -- 8
    cases hl
    obtain ⟨ra, rfl, hrow⟩ := hG
    refine ⟨_, rfl, A.a_CALLS_OF_A_ROOM, _, rfl, .inr (T.q_CALLS_OF_A_ROOM H), rfl, rfl, _, rfl, iteT ⟨_, rfl, ga, _, _, _, rfl, rfl, SqL.of (hg), at0, _, rfl, L.hs, _, _, _, _, rfl, R.house, T.t_House.cl, T.t_House_no_desk, rfl, L.dk, _, _, _, _, rfl, R.desk, T.t_Desk.cl, T.t_Desk_no_rooms, rfl, _, _, rfl, .inl (SqL.of (R.rooms.lst)), _, _, rfl, rfl, _, rfl, ?_⟩⟩
    rw [R.roomsLen]
    cases hx : s.desk.rooms[a]? with
    | none =>
      rw [decide_eq_true (show (s.desk.rooms.length : Int) ≤ (a : Nat) by have := List.getElem?_eq_none_iff.mp hx; omega)]
      exact iteT ⟨(by show 1 ≤ sizeLine; decide), k.no R (act_noroom R.good hx (.inr (.inr (.inr (.inr (.inr (.inl rfl)))))))⟩
    | some x =>
      rw [decide_eq_false (show ¬ (s.desk.rooms.length : Int) ≤ (a : Nat) by have := (List.getElem?_eq_some_iff.mp hx).1; omega)]
      exact iteF ⟨_, rfl, A.a_DESK_CALLS, _, _, A.a_shut_room, rfl, rfl, T.q_DESK_CALLS, rfl, A.a_shut_room, 8, _, _, rfl, ok_shut_room T, hr.mono (by decide), _, rfl, _, rfl, ga, _, _, ρ, L, s, rfl, R, hg, hgc, ⟨a, x, rfl, hx, rfl⟩, k⟩
  · -- 9
    cases hl
    obtain ⟨ra, rfl, hrow⟩ := hG
    exact ⟨_, rfl, A.a_CALLS_OF_A_ROOM, _, rfl, .inr (T.q_CALLS_OF_A_ROOM H), rfl, rfl, _, rfl, iteF (iteF ⟨_, rfl, A.a_DESK_CALLS, _, _, A.a_staff_card, rfl, rfl, T.q_DESK_CALLS, rfl, A.a_staff_card, 8, _, _, rfl, ok_staff_card T, hr.mono (by decide), _, rfl, _, rfl, ga, _, _, ρ, L, s, rfl, R, hg, hgc, ⟨a, b, rfl, rfl⟩, k⟩)⟩
  · -- 10
    cases hl
    obtain ⟨ra, rfl, hrow⟩ := hG
    exact ⟨_, rfl, A.a_CALLS_OF_A_ROOM, _, rfl, .inr (T.q_CALLS_OF_A_ROOM H), rfl, rfl, _, rfl, iteF (iteF ⟨_, rfl, A.a_DESK_CALLS, _, _, A.a_recall_staff, rfl, rfl, T.q_DESK_CALLS, rfl, A.a_recall_staff, 2, _, _, rfl, ok_recall_staff T, hr.mono (by decide), _, rfl, _, rfl, ga, _, _, ρ, L, s, rfl, R, hg, hgc, ⟨rfl, rfl⟩, k⟩)⟩
  · -- 11
    cases hl
    obtain ⟨ra, rfl, hrow⟩ := hG
    exact ⟨_, rfl, A.a_CALLS_OF_A_ROOM, _, rfl, .inr (T.q_CALLS_OF_A_ROOM H), rfl, rfl, _, rfl, iteF (iteF ⟨_, rfl, A.a_DESK_CALLS, _, _, A.a_emergency_card, rfl, rfl, T.q_DESK_CALLS, rfl, A.a_emergency_card, 8, _, _, rfl, ok_emergency_card T, hr.mono (by decide), _, rfl, _, rfl, ga, _, _, ρ, L, s, rfl, R, hg, hgc, ⟨a, rfl, rfl⟩, k⟩)⟩
  · -- 12
    cases hl
    obtain ⟨ra, rfl, hrow⟩ := hG
    exact ⟨_, rfl, A.a_CALLS_OF_A_ROOM, _, rfl, .inr (T.q_CALLS_OF_A_ROOM H), rfl, rfl, _, rfl, iteF (iteF ⟨_, rfl, A.a_DESK_CALLS, _, _, A.a_tell_whose, rfl, rfl, T.q_DESK_CALLS, rfl, A.a_tell_whose, 6, _, _, rfl, ok_tell_whose T, hr.mono (by decide), _, rfl, _, rfl, ga, _, _, ρ, L, s, rfl, R, hg, hgc, ⟨ra, row, rfl, (hrow (by decide)).1, (hrow (by decide)).2.1, rfl⟩, k⟩)⟩
  · -- 13
    cases hl
    obtain ⟨ra, rfl, hrow⟩ := hG
    refine ⟨_, rfl, A.a_CALLS_OF_A_ROOM, _, rfl, .inr (T.q_CALLS_OF_A_ROOM H), rfl, rfl, _, rfl, iteT ⟨_, rfl, ga, _, _, _, rfl, rfl, SqL.of (hg), at0, _, rfl, L.hs, _, _, _, _, rfl, R.house, T.t_House.cl, T.t_House_no_desk, rfl, L.dk, _, _, _, _, rfl, R.desk, T.t_Desk.cl, T.t_Desk_no_rooms, rfl, _, _, rfl, .inl (SqL.of (R.rooms.lst)), _, _, rfl, rfl, _, rfl, ?_⟩⟩
    rw [R.roomsLen]
    cases hx : s.desk.rooms[a]? with
    | none =>
      rw [decide_eq_true (show (s.desk.rooms.length : Int) ≤ (a : Nat) by have := List.getElem?_eq_none_iff.mp hx; omega)]
      exact iteT ⟨(by show 1 ≤ sizeLine; decide), k.no R (act_noroom R.good hx (.inr (.inr (.inr (.inr (.inr (.inr rfl)))))))⟩
    | some x =>
      rw [decide_eq_false (show ¬ (s.desk.rooms.length : Int) ≤ (a : Nat) by have := (List.getElem?_eq_some_iff.mp hx).1; omega)]
      exact iteF ⟨_, rfl, A.a_DESK_CALLS, _, _, A.a_tell_stay, rfl, rfl, T.q_DESK_CALLS, rfl, A.a_tell_stay, 1, _, _, rfl, ok_tell_stay T, hr.mono (by decide), _, rfl, _, rfl, ga, _, _, ρ, L, s, rfl, R, hg, hgc, ⟨a, x, rfl, hx, rfl⟩, k⟩
  · -- 14
    cases hl
    obtain ⟨ra, rfl, hrow⟩ := hG
    exact ⟨_, rfl, A.a_CALLS_OF_A_ROOM, _, rfl, .inr (T.q_CALLS_OF_A_ROOM H), rfl, rfl, _, rfl, iteF (iteF ⟨_, rfl, A.a_DESK_CALLS, _, _, A.a_tell_free, rfl, rfl, T.q_DESK_CALLS, rfl, A.a_tell_free, 1, _, _, rfl, ok_tell_free T, hr.mono (by decide), _, rfl, _, rfl, ga, _, _, ρ, L, s, rfl, R, hg, hgc, ⟨rfl, rfl⟩, k⟩)⟩
  · -- 15
    cases hl
    obtain ⟨ra, rfl, hrow⟩ := hG
    exact ⟨_, rfl, A.a_CALLS_OF_A_ROOM, _, rfl, .inr (T.q_CALLS_OF_A_ROOM H), rfl, rfl, _, rfl, iteF (iteF ⟨_, rfl, A.a_DESK_CALLS, _, _, A.a_tell_desk, rfl, rfl, T.q_DESK_CALLS, rfl, A.a_tell_desk, 1, _, _, rfl, ok_tell_desk T, hr.mono (by decide), _, rfl, _, rfl, ga, _, _, ρ, L, s, rfl, R, hg, hgc, ⟨rfl, rfl⟩, k⟩)⟩
theorem ok_door_answer (T : Txt K mg A) : Ok P w K mg base 8 A.a_door_answer ["house", "call", "given"] (sp_answer A 16 25) := by
  refine T.t_door_answer.ok sc_door_answer (fun _ _ _ _ _ _ us hl => match us, hl with | [_, _, _], _ => rfl) (fun vs H Q E h => by obtain ⟨_, _, _, _, _, _, _, _, _, _, _, rfl, _⟩ := h; rfl) (fun cdv Ar outer st H vs Q E hr h => ?_)
  obtain ⟨ga, g, ρ, L, s, q, n, m, a, b, row, rfl, R, hg, hgc, hlo, hhi, hl, hG, k⟩ := h
  refine ⟨_, (pss_cons (ps_if (PW.pt (pw_and (pt_cmpR op_in_seq (pv 1) (pe_glob (v := .ref A.a_CALLS_OF_A_DOOR) rfl T.t_CALLS_OF_A_DOOR rfl) (by with_unfolding_all rfl)) (pw_and1 (pt_cmpR op_ge (pe_ix ix_list (pv 2) pe_int (fun _ _ => rfl)) (pe_callB call_len_seq (by rfl) T.b_len PySem.boot_len (pa_cons (pe_fld (pv 0) rfl) pa_nil)) (nomark _))))) (pss_one (ps_ret (pe_lst (pa_cons (pe_co T.t_NO_DOOR rfl) pa_nil)))) pss_nil)
      (pss_cons (ps_set (i := 3) sc_door_answer.nd rfl (Or.inl rfl) (pe_dgetK (pe_glob (v := .ref A.a_DOOR_CALLS) rfl T.t_DOOR_CALLS rfl) (pv 1) (fun _ _ => rfl)))
      (pss_one (ps_ret (pe_cv (i := 3) rfl (pa_cons (pv 0) (pa_cons (pv 2) pa_nil))))))), ?_⟩
  have hq : q = 16 ∨ q = 17 ∨ q = 18 ∨ q = 19 ∨ q = 20 ∨ q = 21 ∨ q = 22 ∨ q = 23 ∨ q = 24 ∨ q = 25 := by omega
  rcases hq with rfl | rfl | rfl | rfl | rfl | rfl | rfl | rfl | rfl | rfl
  · -- 16
    cases hl
    obtain ⟨ra, rfl, hrow⟩ := hG
    exact ⟨_, rfl, A.a_CALLS_OF_A_DOOR, _, rfl, .inr (T.q_CALLS_OF_A_DOOR H), rfl, rfl, _, rfl, iteF (iteF ⟨_, rfl, A.a_DOOR_CALLS, _, _, A.a_hang, rfl, rfl, T.q_DOOR_CALLS, rfl, A.a_hang, 3, _, _, rfl, ok_hang T, hr.mono (by decide), _, rfl, _, rfl, ga, _, _, ρ, L, s, rfl, R, hg, hgc, ⟨a, rfl, rfl⟩, k⟩)⟩
  · -- 17
    cases hl
    obtain ⟨ra, rfl, hrow⟩ := hG
    refine ⟨_, rfl, A.a_CALLS_OF_A_DOOR, _, rfl, .inr (T.q_CALLS_OF_A_DOOR H), rfl, rfl, _, rfl, iteT ⟨_, rfl, ga, _, _, _, rfl, rfl, SqL.of (hg), at0, _, rfl, L.hs, _, _, _, _, rfl, R.house, T.t_House.cl, T.t_House_no_doors, rfl, _, _, rfl, .inl (SqL.of (R.doors.lst)), _, _, rfl, rfl, _, rfl, ?_⟩⟩
    rw [R.doorsLen]
    cases hx : s.doors[a]? with
    | none =>
      rw [decide_eq_true (show (s.doors.length : Int) ≤ (a : Nat) by have := List.getElem?_eq_none_iff.mp hx; omega)]
      exact iteT ⟨(by show 1 ≤ sizeLine; decide), k.no R (act_nodoor R.good hx (.inl ⟨_, rfl⟩))⟩
    | some x =>
      rw [decide_eq_false (show ¬ (s.doors.length : Int) ≤ (a : Nat) by have := (List.getElem?_eq_some_iff.mp hx).1; omega)]
      exact iteF ⟨_, rfl, A.a_DOOR_CALLS, _, _, A.a_set_door_day, rfl, rfl, T.q_DOOR_CALLS, rfl, A.a_set_door_day, 2, _, _, rfl, ok_set_door_day T, hr.mono (by decide), _, rfl, _, rfl, ga, _, _, ρ, L, s, rfl, R, hg, hgc, ⟨a, b, x, rfl, hx, rfl⟩, k⟩
  · -- 18
    cases hl
    obtain ⟨ra, rfl, hrow⟩ := hG
    refine ⟨_, rfl, A.a_CALLS_OF_A_DOOR, _, rfl, .inr (T.q_CALLS_OF_A_DOOR H), rfl, rfl, _, rfl, iteT ⟨_, rfl, ga, _, _, _, rfl, rfl, SqL.of (hg), at0, _, rfl, L.hs, _, _, _, _, rfl, R.house, T.t_House.cl, T.t_House_no_doors, rfl, _, _, rfl, .inl (SqL.of (R.doors.lst)), _, _, rfl, rfl, _, rfl, ?_⟩⟩
    rw [R.doorsLen]
    cases hx : s.doors[a]? with
    | none =>
      rw [decide_eq_true (show (s.doors.length : Int) ≤ (a : Nat) by have := List.getElem?_eq_none_iff.mp hx; omega)]
      exact iteT ⟨(by show 1 ≤ sizeLine; decide), k.no R (act_nodoor R.good hx (.inr (.inl ⟨_, rfl⟩)))⟩
    | some x =>
      rw [decide_eq_false (show ¬ (s.doors.length : Int) ≤ (a : Nat) by have := (List.getElem?_eq_some_iff.mp hx).1; omega)]
      exact iteF ⟨_, rfl, A.a_DOOR_CALLS, _, _, A.a_try_card, rfl, rfl, T.q_DOOR_CALLS, rfl, A.a_try_card, 6, _, _, rfl, ok_try_card T, hr.mono (by decide), _, rfl, _, rfl, ga, _, _, ρ, L, s, rfl, R, hg, hgc, ⟨a, ra, row, x, rfl, hx, (hrow (by decide)).1, (hrow (by decide)).2.1, rfl⟩, k⟩
  · -- 19
    cases hl
    obtain ⟨ra, rfl, hrow⟩ := hG
    refine ⟨_, rfl, A.a_CALLS_OF_A_DOOR, _, rfl, .inr (T.q_CALLS_OF_A_DOOR H), rfl, rfl, _, rfl, iteT ⟨_, rfl, ga, _, _, _, rfl, rfl, SqL.of (hg), at0, _, rfl, L.hs, _, _, _, _, rfl, R.house, T.t_House.cl, T.t_House_no_doors, rfl, _, _, rfl, .inl (SqL.of (R.doors.lst)), _, _, rfl, rfl, _, rfl, ?_⟩⟩
    rw [R.doorsLen]
    cases hx : s.doors[a]? with
    | none =>
      rw [decide_eq_true (show (s.doors.length : Int) ≤ (a : Nat) by have := List.getElem?_eq_none_iff.mp hx; omega)]
      exact iteT ⟨(by show 1 ≤ sizeLine; decide), k.no R (act_nodoor R.good hx (.inr (.inr (.inl ⟨_, rfl⟩))))⟩
    | some x =>
      rw [decide_eq_false (show ¬ (s.doors.length : Int) ≤ (a : Nat) by have := (List.getElem?_eq_some_iff.mp hx).1; omega)]
      exact iteF ⟨_, rfl, A.a_DOOR_CALLS, _, _, A.a_weigh_card, rfl, rfl, T.q_DOOR_CALLS, rfl, A.a_weigh_card, 6, _, _, rfl, ok_weigh_card T, hr.mono (by decide), _, rfl, _, rfl, ga, _, _, ρ, L, s, rfl, R, hg, hgc, ⟨a, ra, row, x, rfl, hx, (hrow (by decide)).1, (hrow (by decide)).2.1, rfl⟩, k⟩
  · -- 20
    cases hl
    obtain ⟨ra, rfl, hrow⟩ := hG
    refine ⟨_, rfl, A.a_CALLS_OF_A_DOOR, _, rfl, .inr (T.q_CALLS_OF_A_DOOR H), rfl, rfl, _, rfl, iteT ⟨_, rfl, ga, _, _, _, rfl, rfl, SqL.of (hg), at0, _, rfl, L.hs, _, _, _, _, rfl, R.house, T.t_House.cl, T.t_House_no_doors, rfl, _, _, rfl, .inl (SqL.of (R.doors.lst)), _, _, rfl, rfl, _, rfl, ?_⟩⟩
    rw [R.doorsLen]
    cases hx : s.doors[a]? with
    | none =>
      rw [decide_eq_true (show (s.doors.length : Int) ≤ (a : Nat) by have := List.getElem?_eq_none_iff.mp hx; omega)]
      exact iteT ⟨(by show 1 ≤ sizeLine; decide), k.no R (act_nodoor R.good hx (.inr (.inr (.inr (.inl ⟨_, rfl⟩)))))⟩
    | some x =>
      rw [decide_eq_false (show ¬ (s.doors.length : Int) ≤ (a : Nat) by have := (List.getElem?_eq_some_iff.mp hx).1; omega)]
      exact iteF ⟨_, rfl, A.a_DOOR_CALLS, _, _, A.a_try_kept_card, rfl, rfl, T.q_DOOR_CALLS, rfl, A.a_try_kept_card, 7, _, _, rfl, ok_try_kept_card T, hr.mono (by decide), _, rfl, _, rfl, ga, _, _, ρ, L, s, rfl, R, hg, hgc, ⟨a, b, x, rfl, hx, rfl⟩, k⟩
  · -- 21
    cases hl
    obtain ⟨ra, rfl, hrow⟩ := hG
    exact ⟨_, rfl, A.a_CALLS_OF_A_DOOR, _, rfl, .inr (T.q_CALLS_OF_A_DOOR H), rfl, rfl, _, rfl, iteF (iteF ⟨_, rfl, A.a_DOOR_CALLS, _, _, A.a_tell_kept_card, rfl, rfl, T.q_DOOR_CALLS, rfl, A.a_tell_kept_card, 1, _, _, rfl, ok_tell_kept_card T, hr.mono (by decide), _, rfl, _, rfl, ga, _, _, ρ, L, s, rfl, R, hg, hgc, ⟨a, rfl, rfl⟩, k⟩)⟩
  · -- 22
    cases hl
    obtain ⟨ra, rfl, hrow⟩ := hG
    refine ⟨_, rfl, A.a_CALLS_OF_A_DOOR, _, rfl, .inr (T.q_CALLS_OF_A_DOOR H), rfl, rfl, _, rfl, iteT ⟨_, rfl, ga, _, _, _, rfl, rfl, SqL.of (hg), at0, _, rfl, L.hs, _, _, _, _, rfl, R.house, T.t_House.cl, T.t_House_no_doors, rfl, _, _, rfl, .inl (SqL.of (R.doors.lst)), _, _, rfl, rfl, _, rfl, ?_⟩⟩
    rw [R.doorsLen]
    cases hx : s.doors[a]? with
    | none =>
      rw [decide_eq_true (show (s.doors.length : Int) ≤ (a : Nat) by have := List.getElem?_eq_none_iff.mp hx; omega)]
      exact iteT ⟨(by show 1 ≤ sizeLine; decide), k.no R (act_nodoor R.good hx (.inr (.inr (.inr (.inr (.inl ⟨_, rfl⟩))))))⟩
    | some x =>
      rw [decide_eq_false (show ¬ (s.doors.length : Int) ≤ (a : Nat) by have := (List.getElem?_eq_some_iff.mp hx).1; omega)]
      exact iteF ⟨_, rfl, A.a_DOOR_CALLS, _, _, A.a_set_bolt, rfl, rfl, T.q_DOOR_CALLS, rfl, A.a_set_bolt, 1, _, _, rfl, ok_set_bolt T, hr.mono (by decide), _, rfl, _, rfl, ga, _, _, ρ, L, s, rfl, R, hg, hgc, ⟨a, b, x, rfl, hx, rfl⟩, k⟩
  · -- 23
    cases hl
    obtain ⟨ra, rfl, hrow⟩ := hG
    refine ⟨_, rfl, A.a_CALLS_OF_A_DOOR, _, rfl, .inr (T.q_CALLS_OF_A_DOOR H), rfl, rfl, _, rfl, iteT ⟨_, rfl, ga, _, _, _, rfl, rfl, SqL.of (hg), at0, _, rfl, L.hs, _, _, _, _, rfl, R.house, T.t_House.cl, T.t_House_no_doors, rfl, _, _, rfl, .inl (SqL.of (R.doors.lst)), _, _, rfl, rfl, _, rfl, ?_⟩⟩
    rw [R.doorsLen]
    cases hx : s.doors[a]? with
    | none =>
      rw [decide_eq_true (show (s.doors.length : Int) ≤ (a : Nat) by have := List.getElem?_eq_none_iff.mp hx; omega)]
      exact iteT ⟨(by show 1 ≤ sizeLine; decide), k.no R (act_nodoor R.good hx (.inr (.inr (.inr (.inr (.inr (.inl ⟨_, rfl⟩)))))))⟩
    | some x =>
      rw [decide_eq_false (show ¬ (s.doors.length : Int) ≤ (a : Nat) by have := (List.getElem?_eq_some_iff.mp hx).1; omega)]
      exact iteF ⟨_, rfl, A.a_DOOR_CALLS, _, _, A.a_tell_book, rfl, rfl, T.q_DOOR_CALLS, rfl, A.a_tell_book, 1, _, _, rfl, ok_tell_book T, hr.mono (by decide), _, rfl, _, rfl, ga, _, _, ρ, L, s, rfl, R, hg, hgc, ⟨a, b, x, rfl, hx, rfl⟩, k⟩
  · -- 24
    cases hl
    obtain ⟨ra, rfl, hrow⟩ := hG
    refine ⟨_, rfl, A.a_CALLS_OF_A_DOOR, _, rfl, .inr (T.q_CALLS_OF_A_DOOR H), rfl, rfl, _, rfl, iteT ⟨_, rfl, ga, _, _, _, rfl, rfl, SqL.of (hg), at0, _, rfl, L.hs, _, _, _, _, rfl, R.house, T.t_House.cl, T.t_House_no_doors, rfl, _, _, rfl, .inl (SqL.of (R.doors.lst)), _, _, rfl, rfl, _, rfl, ?_⟩⟩
    rw [R.doorsLen]
    cases hx : s.doors[a]? with
    | none =>
      rw [decide_eq_true (show (s.doors.length : Int) ≤ (a : Nat) by have := List.getElem?_eq_none_iff.mp hx; omega)]
      exact iteT ⟨(by show 1 ≤ sizeLine; decide), k.no R (act_nodoor R.good hx (.inr (.inr (.inr (.inr (.inr (.inr rfl)))))))⟩
    | some x =>
      rw [decide_eq_false (show ¬ (s.doors.length : Int) ≤ (a : Nat) by have := (List.getElem?_eq_some_iff.mp hx).1; omega)]
      exact iteF ⟨_, rfl, A.a_DOOR_CALLS, _, _, A.a_tell_door, rfl, rfl, T.q_DOOR_CALLS, rfl, A.a_tell_door, 1, _, _, rfl, ok_tell_door T, hr.mono (by decide), _, rfl, _, rfl, ga, _, _, ρ, L, s, rfl, R, hg, hgc, ⟨a, x, rfl, hx, rfl⟩, k⟩
  · -- 25
    cases hl
    obtain ⟨ra, rfl, hrow⟩ := hG
    exact ⟨_, rfl, A.a_CALLS_OF_A_DOOR, _, rfl, .inr (T.q_CALLS_OF_A_DOOR H), rfl, rfl, _, rfl, iteF (iteF ⟨_, rfl, A.a_DOOR_CALLS, _, _, A.a_set_day_everywhere, rfl, rfl, T.q_DOOR_CALLS, rfl, A.a_set_day_everywhere, 3, _, _, rfl, ok_set_day_everywhere T, hr.mono (by decide), _, rfl, _, rfl, ga, _, _, ρ, L, s, rfl, R, hg, hgc, ⟨a, rfl, rfl⟩, k⟩)⟩
end
end Dc

set_option Elab.async false
set_option linter.all false
set_option maxRecDepth 100000
set_option maxHeartbeats 4000000
/-! the ground, and begin -/
namespace Dc
open PySem PySem.Spec PyProof.Rows L2
section
variable {P : Program} {w : World} {K : PySem.W.Frag} {mg : Str → Option Value} {base : Heap} {A : Ad}
def GroundAt (A : Ad) (H : Hp) (ρ : Addr → Col) (gd gx : Addr) (s : Ks348.Abs) : Prop :=
  ρ gd = .ground ∧ ((H gd = some (.ins A.a_Ground gx [("house", V.non)]) ∧ s = {}) ∨ ∃ L : Lay, H gd = some (.ins A.a_Ground gx [("house", V.ref L.hs)]) ∧ Rep A H ρ L s)
structure FrG (ρ : Addr → Col) (H : Hp) (ρ' : Addr → Col) (H' : Hp) : Prop where
  kp : ∀ b o, H b = some o → ρ b = .other → H' b = some o ∧ ρ' b = .other
theorem FrG.of {ρ ρ' : Addr → Col} {H H' : Hp} (F : Fr ρ H ρ' H') : FrG ρ H ρ' H' := ⟨fun b o e c => ⟨F.kp b o e (by rw [c]; rfl), (F.cl b o e).trans c⟩⟩
def KontG (A : Ad) (H : Hp) (ρ : Addr → Col) (gd gx : Addr) (x : Ks348.Abs × Ks348.Ans) (Q : VK) : Prop :=
  ∀ H' ρ' p, FrG ρ H ρ' H' → GroundAt A H' ρ' gd gx x.1 → H p = none → H' p = some (.lst (ansV x.2)) → Q (.ref p) H'
theorem GroundAt.mv {H H' : Hp} {ρ ρ' : Addr → Col} {gd gx : Addr} {s : Ks348.Abs} (g : GroundAt A H ρ gd gx s) (m : Mv H ρ H' ρ' (fun c => c = .other ∨ c = .row)) : GroundAt A H' ρ' gd gx s := by
  obtain ⟨hc, g⟩ := g
  have hn : ¬ ((ρ gd) = .other ∨ (ρ gd) = .row) := by rw [hc]; rintro (z | z) <;> cases z
  rcases g with ⟨hg, e⟩ | ⟨L, hg, R⟩
  · obtain ⟨e1, c1⟩ := m _ _ hg hn
    exact ⟨c1.trans hc, .inl ⟨e1, e⟩⟩
  · obtain ⟨e1, c1⟩ := m _ _ hg hn
    exact ⟨c1.trans hc, .inr ⟨L, e1, R.stay (m.weak fun c z => by rcases z with z | z <;> (subst z; rfl))⟩⟩
theorem GroundAt.ins {H : Hp} {ρ : Addr → Col} {gd gx : Addr} {s : Ks348.Abs} (g : GroundAt A H ρ gd gx s) : ∃ v, H gd = some (.ins A.a_Ground gx [("house", v)]) := by
  rcases g.2 with ⟨hg, _⟩ | ⟨L, hg, _⟩
  · exact ⟨_, hg⟩
  · exact ⟨_, hg⟩
def sp_Desk_init (A : Ad) : Sp := fun vs H Q _ => ∃ (x dx ka : Addr) (key : List Nat), vs = [.ref x, .ref ka] ∧ H x = some (.ins A.a_Desk dx []) ∧
  ∀ H' rl, H rl = none → rl ≠ x → H' x = some (.ins A.a_Desk dx (deskF ka rl { key := key })) → H' rl = some (.lst []) → Keep x H H' → Q .non H'
theorem ok_Desk_init (T : Txt K mg A) : Ok P w K mg base 1 A.a_Desk_init ["self", "key"] (sp_Desk_init A) := by
  refine T.t_Desk_init.ok sc_Desk_init (fun _ _ _ _ _ _ us hl => match us, hl with | [_, _], _ => rfl) (fun vs H Q E h => by obtain ⟨_, _, _, _, rfl, _⟩ := h; rfl) (fun cdv Ar outer st H vs Q E hr h => ?_)
  obtain ⟨x, dx, ka, key, rfl, hx, k⟩ := h
  refine ⟨_, (pss_cons (ps_fld (pv 0) (pv 1) rfl)
      (pss_cons (ps_fld (pv 0) pe_int rfl)
      (pss_cons (ps_fld (pv 0) pe_int rfl)
      (pss_cons (ps_fld (pv 0) pe_int rfl)
      (pss_one (ps_fld (pv 0) (pe_lst pa_nil) rfl)))))), ?_⟩
  refine ⟨_, rfl, _, rfl, x, _, _, _, rfl, hx, T.t_Desk.cl, T.t_Desk_no_key, (by show 0 < 1000; decide), ?_⟩
  refine ⟨_, rfl, x, _, _, _, rfl, upd_same, T.t_Desk.cl, T.t_Desk_no_day, (by show 1 < 1000; decide), ?_⟩
  refine ⟨_, rfl, x, _, _, _, rfl, upd_same, T.t_Desk.cl, T.t_Desk_no_staff_round, (by show 2 < 1000; decide), ?_⟩
  refine ⟨_, rfl, x, _, _, _, rfl, upd_same, T.t_Desk.cl, T.t_Desk_no_serial, (by show 3 < 1000; decide), ?_⟩
  rw [upd_upd, upd_upd, upd_upd]
  refine ⟨(by show 0 ≤ sizeLine; decide), fun bl nb => ?_⟩
  have nbx : bl ≠ x := (ne_of_none upd_same nb).symm
  have nbH : H bl = none := by rw [upd_ne nbx] at nb; exact nb
  refine ⟨_, rfl, x, _, _, _, rfl, ((same_new nb) _ _ upd_same), T.t_Desk.cl, T.t_Desk_no_rooms, (by show 4 < 1000; decide), ?_⟩
  refine k _ bl nbH nbx upd_same (by rw [upd_ne nbx]; exact upd_same) fun b o e hb => ?_
  rw [upd_ne hb, upd_ne (ne_of_none e nbH), upd_ne hb]
  exact e
def sp_House_init (A : Ad) : Sp := fun vs H Q _ => ∃ (x dx ka : Addr) (key : List Nat), vs = [.ref x, .ref ka] ∧ H x = some (.ins A.a_House dx []) ∧
  ∀ H' dk dkx rl dl cl, H dk = none → H rl = none → H dl = none → H cl = none → rl ≠ dk → dl ≠ dk → cl ≠ dk → rl ≠ dl → rl ≠ cl → dl ≠ cl → H' x = some (.ins A.a_House dx (houseF dk dl cl)) → H' dk = some (.ins A.a_Desk dkx (deskF ka rl { key := key })) → H' rl = some (.lst []) → H' dl = some (.lst []) → H' cl = some (.lst []) → Keep x H H' → Q .non H'
theorem ok_House_init (T : Txt K mg A) : Ok P w K mg base 3 A.a_House_init ["self", "key"] (sp_House_init A) := by
  refine T.t_House_init.ok sc_House_init (fun _ _ _ _ _ _ us hl => match us, hl with | [_, _], _ => rfl) (fun vs H Q E h => by obtain ⟨_, _, _, _, rfl, _⟩ := h; rfl) (fun cdv Ar outer st H vs Q E hr h => ?_)
  obtain ⟨x, dx, ka, key, rfl, hx, k⟩ := h
  refine ⟨_, (pss_cons (ps_fld (pv 0) (pe_k T.t_Desk.mak (ok_Desk_init T) (hr.mono (by decide)) rfl T.t_Desk.mg (pa_cons (pv 1) pa_nil)) rfl)
      (pss_cons (ps_fld (pv 0) (pe_lst pa_nil) rfl)
      (pss_one (ps_fld (pv 0) (pe_lst pa_nil) rfl)))), ?_⟩
  refine ⟨_, rfl, fun dk dkx nk nkx ne => ⟨dk, dkx, ka, key, rfl, upd_same, fun H1 rl nr nrk h1 hr1 K1 => ⟨rfl, ?_⟩⟩⟩
  have S1 : Same H H1 := Same.made nk nkx K1
  have nrH : H rl = none := by
    rw [upd_ne nrk] at nr
    cases q : H rl with
    | none => rfl
    | some o => rw [upd_ne (ne_of_none q nkx), q] at nr; cases nr
  have xk : x ≠ dk := ne_of_none hx nk
  have xr : x ≠ rl := ne_of_none hx nrH
  refine ⟨_, rfl, x, _, _, _, rfl, (S1 _ _ hx), T.t_House.cl, T.t_House_no_desk, (by show 0 < 1000; decide), ?_⟩
  -- self.doors = []
  refine ⟨(by show 0 ≤ sizeLine; decide), fun dl nl => ?_⟩
  have dlx : dl ≠ x := (ne_of_none upd_same nl).symm
  have nl1 : H1 dl = none := by rw [upd_ne dlx] at nl; exact nl
  have dlk : dl ≠ dk := (ne_of_none h1 nl1).symm
  have rd : rl ≠ dl := ne_of_none hr1 nl1
  refine ⟨_, rfl, x, _, _, _, rfl, ((same_new nl) _ _ upd_same), T.t_House.cl, T.t_House_no_doors, (by show 1 < 1000; decide), ?_⟩
  -- self.cards = []
  refine ⟨(by show 0 ≤ sizeLine; decide), fun cl nc => ?_⟩
  have clx : cl ≠ x := (ne_of_none upd_same nc).symm
  rw [upd_ne clx] at nc
  have cld : cl ≠ dl := (ne_of_none upd_same nc).symm
  rw [upd_ne cld, upd_ne clx] at nc
  have clk : cl ≠ dk := (ne_of_none h1 nc).symm
  have rc : rl ≠ cl := ne_of_none hr1 nc
  refine ⟨_, rfl, x, _, dx, _, rfl, by rw [upd_ne (fun z => clx z.symm)]; exact upd_same, T.t_House.cl, T.t_House_no_cards, (by show 2 < 1000; decide), ?_⟩
  refine k _ dk dkx rl dl cl nk nrH (S1.free nl1) (S1.free nc) nrk dlk clk rd rc (fun z => cld z.symm) upd_same ?_ ?_ ?_ ?_ fun b o e hb => ?_
  · rw [upd_ne (fun z => xk z.symm), upd_ne (fun z => clk z.symm), upd_ne (fun z => xk z.symm), upd_ne (fun z => dlk z.symm), upd_ne (fun z => xk z.symm)]
    exact h1
  · rw [upd_ne (fun z => xr z.symm), upd_ne rc, upd_ne (fun z => xr z.symm), upd_ne rd, upd_ne (fun z => xr z.symm)]
    exact hr1
  · rw [upd_ne dlx, upd_ne (fun z => cld z.symm), upd_ne dlx]
    exact upd_same
  · rw [upd_ne clx]
    exact upd_same
  · have e1 := S1 _ _ e
    rw [upd_ne hb, upd_ne (ne_of_none e1 nc), upd_ne hb, upd_ne (ne_of_none e1 nl1), upd_ne hb]
    exact e1
def newC (x dk ra rl dl cl gd : Addr) : Addr → Col := fun b => if b = x then .house else if b = dk then .desk else if b = ra then .imm else if b = rl then .rooms else if b = dl then .doors else if b = cl then .imm else if b = gd then .ground else .other
def sp_begin (A : Ad) : Sp := fun vs H Q _ => ∃ (gd gx ga ra : Addr) (row : List Nat) (ρ : Addr → Col) (s : Ks348.Abs), vs = [.ref gd, .ref ga] ∧ GroundAt A H ρ gd gx s ∧ H ga = some (.lst [.ref ra]) ∧ H ra = some (.lst (vn row)) ∧ ρ ra = .row ∧ Byt row ∧ KontG A H ρ gd gx (Ks348.act s (.desk (.begin row))) Q
theorem ok_begin (T : Txt K mg A) : Ok P w K mg base 5 A.a_begin ["ground", "given"] (sp_begin A) := by
  refine T.t_begin.ok sc_begin (fun _ _ _ _ _ _ us hl => match us, hl with | [_, _], _ => rfl) (fun vs H Q E h => by obtain ⟨_, _, _, _, _, _, _, rfl, _⟩ := h; rfl) (fun cdv Ar outer st H vs Q E hr h => ?_)
  obtain ⟨gd, gx, ga, ra, row, ρ, s, rfl, G, hg, hra, hrc, bb, k⟩ := h
  refine ⟨_, (pss_cons (ps_set (i := 2) sc_begin.nd rfl (Or.inl rfl) (pe_ix ix_list (pv 1) pe_int (fun _ _ => rfl)))
      (pss_cons (ps_if (pt_cmpR op_ne (pe_callB call_len_seq (by rfl) T.b_len PySem.boot_len (pa_cons (pv 2) pa_nil)) (pe_co T.t_KEY_LENGTH rfl) (nomark _)) (pss_one (ps_ret (pe_lst (pa_cons (pe_co T.t_WRONG rfl) pa_nil)))) pss_nil)
      (pss_cons (ps_fld (pv 0) (pe_k T.t_House.mak (ok_House_init T) (hr.mono (by decide)) rfl T.t_House.mg (pa_cons (pv 2) pa_nil)) rfl)
      (pss_one (ps_ret (pe_lst (pa_cons pe_int pa_nil))))))), ?_⟩
  rw [act_begin bb] at k
  refine ⟨_, rfl, ga, _, _, _, rfl, rfl, SqL.of (hg), at0, _, rfl, ra, _, rfl, .inl (SqL.of hra), rfl, _, rfl, ?_⟩
  rw [dV, vn_len]
  by_cases hl : row.length = 16
  · rw [if_pos hl] at k
    rw [decide_eq_true (show ((row.length : Nat) : Int) = 16 by omega)]
    refine iteF ⟨_, rfl, fun x dx nx nd ne => ⟨x, dx, ra, row, rfl, upd_same, fun H1 dk dkx rl dl cl ndk nrl ndl ncl r1 r2 r3 r4 r5 r6 h1 hdk hrl hdl hcl K1 => ⟨rfl, ?_⟩⟩⟩
    have S1 : Same H H1 := Same.made nx nd K1
    have fr : ∀ {y}, (upd (upd H dx (.own x)) x (.ins A.a_House dx [])) y = none → H y = none ∧ y ≠ x := fun {y} ny => by
      have nyx : y ≠ x := (ne_of_none upd_same ny).symm
      rw [upd_ne nyx] at ny
      refine ⟨?_, nyx⟩
      cases q : H y with
      | none => rfl
      | some o => rw [upd_ne (ne_of_none q nd), q] at ny; cases ny
    obtain ⟨fdk, xdk⟩ := fr ndk
    obtain ⟨frl, xrl⟩ := fr nrl
    obtain ⟨fdl, xdl⟩ := fr ndl
    obtain ⟨fcl, xcl⟩ := fr ncl
    obtain ⟨v0, hgd⟩ := G.ins
    have gr : gd ≠ ra := ne_of hgd hra (by intro z; cases z)
    refine ⟨_, rfl, gd, _, _, _, rfl, (S1 _ _ hgd), T.t_Ground.cl, T.t_Ground_no_house, (by show 1 < 1000; decide), ?_⟩
    refine ⟨(by show 1 ≤ sizeLine; decide), fun p np => ?_⟩
    have npg : p ≠ gd := (ne_of_none upd_same np).symm
    have np1 : H1 p = none := by rw [upd_ne npg] at np; exact np
    have npH := S1.free np1
    let L : Lay := ⟨x, dx, dk, dkx, ra, rl, [], dl, [], cl, []⟩
    let ρ' := newC x dk ra rl dl cl gd
    have look : ∀ {b o}, H1 b = some o → b ≠ gd → (upd (upd H1 gd (.ins A.a_Ground gx (putF "house" (V.ref x) [("house", v0)]))) p (.lst [V.int 0])) b = some o := fun {b o} e hb => by
      rw [upd_ne (ne_of_none e np1), upd_ne hb]
      exact e
    have nx' : gd ≠ x := ne_of_none hgd nx
    have ndk' : gd ≠ dk := ne_of_none hgd fdk
    have nrl' : gd ≠ rl := ne_of_none hgd frl
    have ndl' : gd ≠ dl := ne_of_none hgd fdl
    have ncl' : gd ≠ cl := ne_of_none hgd fcl
    have rx : ra ≠ x := ne_of_none hra nx
    have rdk : ra ≠ dk := ne_of_none hra fdk
    have rrl : ra ≠ rl := ne_of_none hra frl
    have rdl : ra ≠ dl := ne_of_none hra fdl
    have rcl : ra ≠ cl := ne_of_none hra fcl
    have hR : Rep A (upd (upd H1 gd (.ins A.a_Ground gx (putF "house" (V.ref x) [("house", v0)]))) p (.lst [V.int 0])) ρ' L { desk := { key := row } } := by
      refine ⟨good_begin hl bb, look h1 nx'.symm, if_pos rfl, look hdk ndk'.symm, ?_, look (S1 _ _ hra) gr.symm, ?_, ⟨look hrl nrl'.symm, ?_, rfl, fun i r hr => by simp at hr⟩, ⟨look hdl ndl'.symm, ?_, rfl, fun i r hr => by simp at hr⟩, ⟨look hcl ncl'.symm, ?_, rfl, fun i r hr => by simp at hr⟩⟩
      · show newC x dk ra rl dl cl gd dk = .desk
        unfold newC
        rw [if_neg xdk, if_pos rfl]
      · show newC x dk ra rl dl cl gd ra = .imm
        unfold newC
        rw [if_neg rx, if_neg rdk, if_pos rfl]
      · show newC x dk ra rl dl cl gd rl = .rooms
        unfold newC
        rw [if_neg xrl, if_neg r1, if_neg rrl.symm, if_pos rfl]
      · show newC x dk ra rl dl cl gd dl = .doors
        unfold newC
        rw [if_neg xdl, if_neg r2, if_neg rdl.symm, if_neg r4.symm, if_pos rfl]
      · show newC x dk ra rl dl cl gd cl = .imm
        unfold newC
        rw [if_neg xcl, if_neg r3, if_neg rcl.symm, if_neg r5.symm, if_neg r6.symm, if_pos rfl]
    refine k _ ρ' p ⟨fun b o e c => ?_⟩ ⟨?_, .inr ⟨L, ?_, hR⟩⟩ npH upd_same
    · have bg : b ≠ gd := fun z => by rw [z, G.1] at c; cases c
      have br : b ≠ ra := fun z => by rw [z, hrc] at c; cases c
      refine ⟨look (S1 _ _ e) bg, ?_⟩
      show newC x dk ra rl dl cl gd b = .other
      unfold newC
      rw [if_neg (ne_of_none e nx), if_neg (ne_of_none e fdk), if_neg br, if_neg (ne_of_none e frl), if_neg (ne_of_none e fdl), if_neg (ne_of_none e fcl), if_neg bg]
    · show newC x dk ra rl dl cl gd gd = .ground
      unfold newC
      rw [if_neg nx', if_neg ndk', if_neg gr, if_neg nrl', if_neg ndl', if_neg ncl', if_pos rfl]
    · rw [upd_ne npg.symm]
      exact upd_same
  · rw [if_neg hl] at k
    rw [decide_eq_false (show ¬ ((row.length : Nat) : Int) = 16 by omega)]
    refine iteT ⟨(by show 1 ≤ sizeLine; decide), fun p np => k _ ρ p ⟨fun b o e c => ⟨same_new np b o e, c⟩⟩ (G.mv ((Mv.same (same_new np)).weak fun _ z => z.elim)) np upd_same⟩
/-! ### answer_to -/
theorem act_off {q a b n m : Nat} {row : List Nat} (hl : layL[q]? = some (n, m)) (h : q ≠ 0) : Ks348.act {} (callOf q a b row) = ({}, Ks348.no (-61)) := by
  have hq : q < 26 := (List.getElem?_eq_some_iff.mp hl).1
  match q, hq, h with
  | 0, _, h => exact absurd rfl h
  | 1, _, _ => rfl
  | 2, _, _ => rfl
  | 3, _, _ => rfl
  | 4, _, _ => rfl
  | 5, _, _ => rfl
  | 6, _, _ => rfl
  | 7, _, _ => rfl
  | 8, _, _ => rfl
  | 9, _, _ => rfl
  | 10, _, _ => rfl
  | 11, _, _ => rfl
  | 12, _, _ => rfl
  | 13, _, _ => rfl
  | 14, _, _ => rfl
  | 15, _, _ => rfl
  | 16, _, _ => rfl
  | 17, _, _ => rfl
  | 18, _, _ => rfl
  | 19, _, _ => rfl
  | 20, _, _ => rfl
  | 21, _, _ => rfl
  | 22, _, _ => rfl
  | 23, _, _ => rfl
  | 24, _, _ => rfl
  | 25, _, _ => rfl
  | _ + 26, hq, _ => omega
def sp_answer_to (A : Ad) : Sp := fun vs H Q _ => ∃ (gd gx ga : Addr) (g : List V) (ρ : Addr → Col) (s : Ks348.Abs) (q n m a b : Nat) (row : List Nat), vs = [.ref gd, .int q, .ref ga] ∧ GroundAt A H ρ gd gx s ∧ H ga = some (.lst g) ∧ ρ ga = .other ∧ layL[q]? = some (n, m) ∧ GivenOk H ρ n m a b row g ∧ KontG A H ρ gd gx (Ks348.act s (callOf q a b row)) Q
theorem ok_answer_to (T : Txt K mg A) : Ok P w K mg base 10 A.a_answer_to ["ground", "call", "given"] (sp_answer_to A) := by
  refine T.t_answer_to.ok sc_answer_to (fun _ _ _ _ _ _ us hl => match us, hl with | [_, _, _], _ => rfl) (fun vs H Q E h => by obtain ⟨_, _, _, _, _, _, _, _, _, _, _, _, rfl, _⟩ := h; rfl) (fun cdv Ar outer st H vs Q E hr h => ?_)
  obtain ⟨gd, gx, ga, g, ρ, s, q, n, m, a, b, row, rfl, G, hg, hgc, hl, hG, k⟩ := h
  refine ⟨_, (pss_cons (ps_if (pt_cmpR op_eq (pv 1) (pe_co T.t_BEGIN rfl) (nomark _)) (pss_one (ps_ret (pe_c (ok_begin T) (hr.mono (by decide)) rfl T.t_begin.mg (pa_cons (pv 0) (pa_cons (pv 2) pa_nil))))) pss_nil)
      (pss_cons (ps_if (pt_cmpR op_isN (pe_fld (pv 0) rfl) pe_non (nomark _)) (pss_one (ps_ret (pe_lst (pa_cons (pe_co T.t_NO_HOUSE rfl) pa_nil)))) pss_nil)
      (pss_cons (ps_if (pt_cmpR op_lt (pv 1) (pe_co T.t_FIRST_DOOR_CALL rfl) (nomark _)) (pss_one (ps_ret (pe_c (ok_desk_answer T) (hr.mono (by decide)) rfl T.t_desk_answer.mg (pa_cons (pe_fld (pv 0) rfl) (pa_cons (pv 1) (pa_cons (pv 2) pa_nil)))))) pss_nil)
      (pss_one (ps_ret (pe_c (ok_door_answer T) (hr.mono (by decide)) rfl T.t_door_answer.mg (pa_cons (pe_fld (pv 0) rfl) (pa_cons (pv 1) (pa_cons (pv 2) pa_nil))))))))), ?_⟩
  refine ⟨_, rfl, rfl, _, rfl, ?_⟩
  rw [dV]
  by_cases h0 : q = 0
  · subst h0
    rw [decide_eq_true (show ((0 : Nat) : Int) = 0 from rfl)]
    cases hl
    obtain ⟨ra, rfl, hrow⟩ := hG
    obtain ⟨h1, h2, h3⟩ := hrow (by decide)
    exact iteT ⟨_, rfl, _, rfl, gd, gx, ga, ra, row, ρ, s, rfl, G, hg, h1, h3, h2, k⟩
  rw [decide_eq_false (show ¬ ((q : Nat) : Int) = 0 by omega)]
  have hq : q < 26 := (List.getElem?_eq_some_iff.mp hl).1
  refine iteF ?_
  obtain ⟨hc, G'⟩ := G
  rcases G' with ⟨hgd, rfl⟩ | ⟨L, hgd, R⟩
  · rw [act_off hl h0] at k
    exact ⟨_, rfl, gd, _, _, _, _, rfl, hgd, T.t_Ground.cl, T.t_Ground_no_house, rfl, rfl, _, rfl, iteT ⟨(by show 1 ≤ sizeLine; decide), fun p np => k _ ρ p ⟨fun b o e c => ⟨same_new np b o e, c⟩⟩ ⟨hc, .inl ⟨same_new np _ _ hgd, rfl⟩⟩ np upd_same⟩⟩
  · have k' : Kont A H ρ L (Ks348.act s (callOf q a b row)) Q := fun H' ρ' L' p F hL R' hp hp' => k H' ρ' p (FrG.of F) ⟨(F.cl _ _ hgd).trans hc, .inr ⟨L', by rw [hL]; exact F.kp _ _ hgd (by rw [hc]; rfl), R'⟩⟩ hp hp'
    refine ⟨_, rfl, gd, _, _, _, _, rfl, hgd, T.t_Ground.cl, T.t_Ground_no_house, rfl, rfl, _, rfl, iteF ⟨_, rfl, _, _, rfl, rfl, _, rfl, ?_⟩⟩
    by_cases h16 : q < 16
    · rw [decide_eq_true (show ((q : Nat) : Int) < 16 by omega)]
      exact iteT ⟨_, rfl, gd, _, _, _, _, rfl, hgd, T.t_Ground.cl, T.t_Ground_no_house, rfl, _, rfl, _, rfl, ga, g, ρ, L, s, q, n, m, a, b, row, rfl, R, hg, hgc, by omega, by omega, hl, hG, k'⟩
    · rw [decide_eq_false (show ¬ ((q : Nat) : Int) < 16 by omega)]
      exact iteF ⟨_, rfl, gd, _, _, _, _, rfl, hgd, T.t_Ground.cl, T.t_Ground_no_house, rfl, _, rfl, _, rfl, ga, g, ρ, L, s, q, n, m, a, b, row, rfl, R, hg, hgc, by omega, by omega, hl, hG, k'⟩
end
end Dc

set_option Elab.async false
set_option linter.all false
set_option maxRecDepth 100000
set_option maxHeartbeats 4000000
/-! the list of calls is gone through -/
namespace Dc
open PySem PySem.Spec PyProof.Rows L2
abbrev readerF (ca : Addr) (n : Nat) : List (Str × V) := [("calls", .ref ca), ("at", .int (n : Nat))]
theorem Keep.seq {K : PySem.W.Frag} {H H' : Hp} {x C dx a : Addr} {fs : List (Str × V)} {xs : List V} (k : Keep x H H') (hx : H x = some (.ins C dx fs)) (h : SqL K H a xs) : SqL K H' a xs := by
  rcases h with (h | ⟨o, h⟩) | h
  · exact .inl (.inl (k _ _ h (ne_of h hx (by intro z; cases z))))
  · exact .inl (.inr ⟨o, k _ _ h (ne_of h hx (by intro z; cases z))⟩)
  · exact .inr h
theorem Keep.trans {x : Addr} {H H1 H2 : Hp} (a : Keep x H H1) (b : Keep x H1 H2) : Keep x H H2 := fun c o e n => b c o (a c o e n) n
theorem Keep.upd {x : Addr} {H : Hp} {o : HO} : Keep x H (upd H x o) := fun b u e n => by rw [upd_ne n]; exact e
theorem Keep.same {x : Addr} {H H1 : Hp} (S : Same H H1) : Keep x H H1 := fun b o e _ => S b o e
theorem lay_v {q n k : Nat} (h : layL[q]? = some (n, k)) : ([[V.int 0, V.int 1], [V.int 1, V.int 0], [V.int 1, V.int 0], [V.int 2, V.int 0], [V.int 1, V.int 0], [V.int 1, V.int 0], [V.int 2, V.int 0], [V.int 1, V.int 0], [V.int 1, V.int 0], [V.int 2, V.int 0], [V.int 0, V.int 0], [V.int 1, V.int 0], [V.int 0, V.int 1], [V.int 1, V.int 0], [V.int 0, V.int 0], [V.int 0, V.int 0], [V.int 1, V.int 0], [V.int 2, V.int 0], [V.int 1, V.int 1], [V.int 1, V.int 1], [V.int 2, V.int 0], [V.int 1, V.int 0], [V.int 2, V.int 0], [V.int 2, V.int 0], [V.int 1, V.int 0], [V.int 1, V.int 0]] : List (List V))[q]? = some [V.int (n : Nat), V.int (k : Nat)] := by
  match q, h with
  | 0, h => cases h; rfl
  | 1, h => cases h; rfl
  | 2, h => cases h; rfl
  | 3, h => cases h; rfl
  | 4, h => cases h; rfl
  | 5, h => cases h; rfl
  | 6, h => cases h; rfl
  | 7, h => cases h; rfl
  | 8, h => cases h; rfl
  | 9, h => cases h; rfl
  | 10, h => cases h; rfl
  | 11, h => cases h; rfl
  | 12, h => cases h; rfl
  | 13, h => cases h; rfl
  | 14, h => cases h; rfl
  | 15, h => cases h; rfl
  | 16, h => cases h; rfl
  | 17, h => cases h; rfl
  | 18, h => cases h; rfl
  | 19, h => cases h; rfl
  | 20, h => cases h; rfl
  | 21, h => cases h; rfl
  | 22, h => cases h; rfl
  | 23, h => cases h; rfl
  | 24, h => cases h; rfl
  | 25, h => cases h; rfl
  | _ + 26, h => cases h
section
variable {P : Program} {w : World} {K : PySem.W.Frag} {mg : Str → Option Value} {base : Heap} {A : Ad}
def sp_Ground_init (A : Ad) : Sp := fun vs H Q _ => ∃ (x dx : Addr), vs = [.ref x] ∧ H x = some (.ins A.a_Ground dx []) ∧ Q .non (upd H x (.ins A.a_Ground dx [("house", V.non)]))
theorem ok_Ground_init (T : Txt K mg A) : Ok P w K mg base 1 A.a_Ground_init ["self"] (sp_Ground_init A) := by
  refine T.t_Ground_init.ok sc_Ground_init (fun _ _ _ _ _ _ us hl => match us, hl with | [_], _ => rfl) (fun vs H Q E h => by obtain ⟨_, _, rfl, _⟩ := h; rfl) (fun cdv Ar outer st H vs Q E hr h => ?_)
  obtain ⟨x, dx, rfl, hx, k⟩ := h
  refine ⟨_, (pss_one (ps_fld (pv 0) pe_non rfl)), ?_⟩
  exact ⟨_, rfl, x, _, _, _, rfl, hx, T.t_Ground.cl, T.t_Ground_no_house, (by show 0 < 1000; decide), k⟩
def sp_Reader_init (A : Ad) : Sp := fun vs H Q _ => ∃ (x dx ca : Addr), vs = [.ref x, .ref ca] ∧ H x = some (.ins A.a_Reader dx []) ∧ Q .non (upd H x (.ins A.a_Reader dx (readerF ca 0)))
theorem ok_Reader_init (T : Txt K mg A) : Ok P w K mg base 1 A.a_Reader_init ["self", "calls"] (sp_Reader_init A) := by
  refine T.t_Reader_init.ok sc_Reader_init (fun _ _ _ _ _ _ us hl => match us, hl with | [_, _], _ => rfl) (fun vs H Q E h => by obtain ⟨_, _, _, rfl, _⟩ := h; rfl) (fun cdv Ar outer st H vs Q E hr h => ?_)
  obtain ⟨x, dx, ca, rfl, hx, k⟩ := h
  refine ⟨_, (pss_cons (ps_fld (pv 0) (pv 1) rfl)
      (pss_one (ps_fld (pv 0) pe_int rfl))), ?_⟩
  refine ⟨_, rfl, _, rfl, x, _, _, _, rfl, hx, T.t_Reader.cl, T.t_Reader_no_calls, (by show 0 < 1000; decide), _, rfl, x, _, _, _, rfl, upd_same, T.t_Reader.cl, T.t_Reader_no_at, (by show 1 < 1000; decide), ?_⟩
  rw [upd_upd]
  exact k
def sp_has_more (K : PySem.W.Frag) (A : Ad) : Sp := fun vs H Q _ => ∃ (rd rx ca : Addr) (m : List Nat) (n : Nat), vs = [.ref rd] ∧ H rd = some (.ins A.a_Reader rx (readerF ca n)) ∧ SqL K H ca (vn m) ∧ Q (.bl (decide (n < m.length))) H
theorem ok_Reader_has_more (T : Txt K mg A) : Ok P w K mg base 1 A.a_Reader_has_more ["self"] (sp_has_more K A) := by
  refine T.t_Reader_has_more.ok sc_Reader_has_more (fun _ _ _ _ _ _ us hl => match us, hl with | [_], _ => rfl) (fun vs H Q E h => by obtain ⟨_, _, _, _, _, rfl, _⟩ := h; rfl) (fun cdv Ar outer st H vs Q E hr h => ?_)
  obtain ⟨rd, rx, ca, m, n, rfl, hr, hS, k⟩ := h
  refine ⟨_, (pss_one (ps_ret (pe_cmpR op_lt (pe_fld (pv 0) rfl) (pe_callB call_len_seq (by rfl) T.b_len PySem.boot_len (pa_cons (pe_fld (pv 0) rfl) pa_nil)) (nomark _)))), ?_⟩
  refine ⟨_, rfl, rd, _, _, _, _, rfl, hr, T.t_Reader.cl, T.t_Reader_no_at, rfl, _, rfl, rd, _, _, _, _, rfl, hr, T.t_Reader.cl, T.t_Reader_no_calls, rfl, ca, _, rfl, .inl hS, _, _, rfl, rfl, ?_⟩
  have e : decide ((n : Int) < ((vn m).length : Nat)) = decide (n < m.length) := decide_eq_decide.mpr (by rw [vn_len]; omega)
  dsimp only
  rw [e]
  exact k
def sp_take_number (K : PySem.W.Frag) (A : Ad) : Sp := fun vs H Q _ => ∃ (rd rx ca : Addr) (m : List Nat) (n v : Nat), vs = [.ref rd] ∧ H rd = some (.ins A.a_Reader rx (readerF ca n)) ∧ SqL K H ca (vn m) ∧ m[n]? = some v ∧ Q (.int (v : Nat)) (upd H rd (.ins A.a_Reader rx (readerF ca (n + 1))))
theorem ok_Reader_take_number (T : Txt K mg A) : Ok P w K mg base 1 A.a_Reader_take_number ["self"] (sp_take_number K A) := by
  refine T.t_Reader_take_number.ok sc_Reader_take_number (fun _ _ _ _ _ _ us hl => match us, hl with | [_], _ => rfl) (fun vs H Q E h => by obtain ⟨_, _, _, _, _, _, rfl, _⟩ := h; rfl) (fun cdv Ar outer st H vs Q E hr h => ?_)
  obtain ⟨rd, rx, ca, m, n, v, rfl, hr, hS, hv, k⟩ := h
  refine ⟨_, (pss_cons (ps_set (i := 1) sc_Reader_take_number.nd rfl (Or.inl rfl) (pe_ix ix_list (pe_fld (pv 0) rfl) (pe_fld (pv 0) rfl) (fun _ _ => rfl)))
      (pss_cons (ps_fld (pv 0) (pe_op op_add (pe_fld (pv 0) rfl) pe_int) rfl)
      (pss_one (ps_ret (pv 1))))), ?_⟩
  exact ⟨_, rfl, rd, _, _, _, _, rfl, hr, T.t_Reader.cl, T.t_Reader_no_calls, rfl, _, rfl, rd, _, _, _, _, rfl, hr, T.t_Reader.cl, T.t_Reader_no_at, rfl, ca, _, _, _, rfl, rfl, hS, atI_nat (get_vn hv), _, rfl, rd, _, _, _, _, rfl, hr, T.t_Reader.cl, T.t_Reader_no_at, rfl, _, _, rfl, rfl, _, rfl, rd, _, _, _, rfl, hr, T.t_Reader.cl, T.t_Reader_no_at, (by show 2 < 1000; decide), _, rfl, k⟩
def sp_take_row (K : PySem.W.Frag) (A : Ad) : Sp := fun vs H Q _ => ∃ (rd rx ca : Addr) (m : List Nat) (n l : Nat), vs = [.ref rd] ∧ H rd = some (.ins A.a_Reader rx (readerF ca n)) ∧ SqL K H ca (vn m) ∧ m[n]? = some l ∧ n + 1 + l ≤ m.length ∧
  ∀ H' p, H p = none → Keep rd H H' → H' rd = some (.ins A.a_Reader rx (readerF ca (n + 1 + l))) → H' p = some (.lst (vn ((m.drop (n + 1)).take l))) → Q (.ref p) H'
theorem ok_Reader_take_row (T : Txt K mg A) : Ok P w K mg base 2 A.a_Reader_take_row ["self"] (sp_take_row K A) := by
  refine T.t_Reader_take_row.ok sc_Reader_take_row (fun _ _ _ _ _ _ us hl => match us, hl with | [_], _ => rfl) (fun vs H Q E h => by obtain ⟨_, _, _, _, _, _, rfl, _⟩ := h; rfl) (fun cdv Ar outer st H vs Q E hr h => ?_)
  obtain ⟨rd, rx, ca, m, n, l, rfl, hrd, hS, hl, hle, k⟩ := h
  refine ⟨_, (pss_cons (ps_set (i := 1) sc_Reader_take_row.nd rfl (Or.inl rfl) (pe_m0 (pv 0) T.t_Reader.cl T.t_Reader_take_number.me (ok_Reader_take_number T) (hr.mono (by decide))))
      (pss_cons (ps_set (i := 2) sc_Reader_take_row.nd rfl (Or.inl rfl) (pe_slice sl_list (pe_fld (pv 0) rfl) (po_some (pe_fld (pv 0) rfl)) (po_some (pe_op op_add (pe_fld (pv 0) rfl) (pv 1)))))
      (pss_cons (ps_fld (pv 0) (pe_op op_add (pe_fld (pv 0) rfl) (pv 1)) rfl)
      (pss_one (ps_ret (pv 2)))))), ?_⟩
  refine ⟨_, rfl, rd, rx, _, rfl, hrd, rfl, rd, rx, ca, m, n, l, rfl, hrd, hS, hl, ?_⟩
  have K1 : Keep rd H (upd H rd (.ins A.a_Reader rx (readerF ca (n + 1)))) := Keep.upd
  have h1 : upd H rd (.ins A.a_Reader rx (readerF ca (n + 1))) rd = some (.ins A.a_Reader rx (readerF ca (n + 1))) := upd_same
  have hS1 := K1.seq hrd hS
  generalize upd H rd (.ins A.a_Reader rx (readerF ca (n + 1))) = H1 at K1 h1 hS1
  refine ⟨_, rfl, rd, _, _, _, _, rfl, h1, T.t_Reader.cl, T.t_Reader_no_calls, rfl, _, rfl, rd, _, _, _, _, rfl, h1, T.t_Reader.cl, T.t_Reader_no_at, rfl, _, rfl, _, rfl, rd, _, _, _, _, rfl, h1, T.t_Reader.cl, T.t_Reader_no_at, rfl, _, rfl, _, _, rfl, rfl, _, rfl, ca, _, rfl, hS1, fun p hp => ?_⟩
  have hc : cutV (vn m) (some ((n + 1 : Nat) : Int)) (some (((n + 1 : Nat) : Int) + (l : Nat))) = vn ((m.drop (n + 1)).take l) := by
    have q := cut_mid (xs := vn m) (m := n + 1) (n := n + 1 + l) (by omega) (by rw [vn_len]; omega)
    rw [vn_drop, vn_take, show n + 1 + l - (n + 1) = l by omega] at q
    exact q
  dsimp only
  rw [hc]
  have q1 := same_new (o := .lst (vn ((m.drop (n + 1)).take l))) hp
  have prd : p ≠ rd := (ne_of_none h1 hp).symm
  refine ⟨_, rfl, rd, _, _, _, _, rfl, (q1 _ _ h1), T.t_Reader.cl, T.t_Reader_no_at, rfl, _, rfl, _, _, rfl, rfl, _, rfl, rd, _, _, _, rfl, (q1 _ _ h1), T.t_Reader.cl, T.t_Reader_no_at, (by show 2 < 1000; decide), _, rfl, ?_⟩
  refine k _ p ?_ ((K1.trans (Keep.same q1)).trans Keep.upd) upd_same ?_
  · cases q : H p with
    | none => rfl
    | some o => rw [K1 _ _ q prd] at hp; cases hp
  · rw [upd_ne prd]
    exact upd_same
def sp_take_given (K : PySem.W.Frag) (A : Ad) : Sp := fun vs H Q _ => ∃ (rd rx ca : Addr) (m : List Nat) (n0 q n k : Nat), vs = [.ref rd, .int q] ∧ H rd = some (.ins A.a_Reader rx (readerF ca n0)) ∧ SqL K H ca (vn m) ∧ layL[q]? = some (n, k) ∧ n0 + n ≤ m.length ∧ (k = 1 → ∃ l, m[n0 + n]? = some l ∧ n0 + n + 1 + l ≤ m.length) ∧
  ∀ H' p ra g to row, H p = none → (k ≠ 0 → H ra = none ∧ ra ≠ p ∧ H' ra = some (.lst (vn row))) → Keep rd H H' → H' rd = some (.ins A.a_Reader rx (readerF ca to)) → H' p = some (.lst g) → g = vn ((m.drop n0).take n) ++ rowV k ra →
    (k = 0 → to = n0 + n) → (k = 1 → ∃ l, m[n0 + n]? = some l ∧ to = n0 + n + 1 + l ∧ row = (m.drop (n0 + n + 1)).take l) → Q (.ref p) H'
theorem ok_take_given (T : Txt K mg A) : Ok P w K mg base 3 A.a_take_given ["reader", "call"] (sp_take_given K A) := by
  refine T.t_take_given.ok sc_take_given (fun _ _ _ _ _ _ us hl => match us, hl with | [_, _], _ => rfl) (fun vs H Q E h => by obtain ⟨_, _, _, _, _, _, _, _, rfl, _⟩ := h; rfl) (fun cdv Ar outer st H vs Q E hr h => ?_)
  obtain ⟨rd, rx, ca, m, n0, q, n, kk, rfl, hrd, hS, hl, hle, hrow, k⟩ := h
  refine ⟨_, (pss_cons (ps_set (i := 2) sc_take_given.nd rfl (Or.inl rfl) (pe_ix ix_tup (pe_glob (v := .ref A.a_LAYOUT) rfl T.t_LAYOUT rfl) (pv 1) (fun _ _ => rfl)))
      (pss_cons (ps_set (i := 3) sc_take_given.nd rfl (Or.inl rfl) (pe_lst pa_nil))
      (pss_cons (ps_for PassesOwn.never rfl (pi_range1 rfl T.b_range (pa_cons (pe_ix ix_tup (pv 2) pe_int (fun _ _ => rfl)) pa_nil)) (pg_name (i := 4) sc_take_given.nd rfl (Or.inl rfl)) (pss_one (ps_expr (pe_bm PySem.F.plainAttrs_list PySem.F.slot_list_append PySem.F.type_list_append mt_append (pv 3) (pa_cons (pe_m0 (pv 0) T.t_Reader.cl T.t_Reader_take_number.me (ok_Reader_take_number T) (hr.mono (by decide))) pa_nil)))))
      (pss_cons (ps_for PassesOwn.never rfl (pi_range1 rfl T.b_range (pa_cons (pe_ix ix_tup (pv 2) pe_int (fun _ _ => rfl)) pa_nil)) (pg_name (i := 4) sc_take_given.nd rfl (Or.inl rfl)) (pss_one (ps_expr (pe_bm PySem.F.plainAttrs_list PySem.F.slot_list_append PySem.F.type_list_append mt_append (pv 3) (pa_cons (pe_m0 (pv 0) T.t_Reader.cl T.t_Reader_take_row.me (ok_Reader_take_row T) (hr.mono (by decide))) pa_nil)))))
      (pss_one (ps_ret (pv 3))))))), ?_⟩
  obtain ⟨ls, hT, hlen, hin⟩ := T.q_LAYOUT
  have hq : q < 26 := (List.getElem?_eq_some_iff.mp hl).1
  obtain ⟨la, hla, hTa⟩ := hin q [.int (n : Nat), .int (kk : Nat)] (lay_v hl)
  have hn3 : n ≤ 2 ∧ kk ≤ 1 := by
    have t2 : ∀ p ∈ layL, p.1 ≤ 2 ∧ p.2 ≤ 1 := by decide
    exact t2 _ (List.mem_of_getElem? hl)
  refine ⟨_, rfl, A.a_LAYOUT, _, _, _, rfl, rfl, hT H, atR hla, Nat.zero_le _, fun p hp => ?_⟩
  have prd : p ≠ rd := (ne_of_none hrd hp).symm
  have q0 := same_new (o := .lst []) hp
  -- the numbers
  refine ⟨_, rfl, la, _, _, _, rfl, rfl, hTa _, at0, (n : Int), rfl, by omega, by omega, for_range (lo := 0) (n := (n : Int).toNat) (fun j σ H' => ∃ v : Option V, σ = [some (.ref rd), some (.int (q : Nat)), some (.ref la), some (.ref p), v] ∧ H' p = some (.lst (vn ((m.drop n0).take j))) ∧ H' rd = some (.ins A.a_Reader rx (readerF ca (n0 + j))) ∧ Keep rd H H')
    ⟨none, rfl, upd_same, q0 _ _ hrd, Keep.same q0⟩ ?_ ?_⟩
  · rintro j σ H' hj ⟨v, rfl, hp', hr', K'⟩
    rw [Int.toNat_natCast] at hj
    have hx : m[n0 + j]? = some m[n0 + j] := List.getElem?_eq_getElem (by omega)
    refine ⟨_, rfl, .inl ⟨rfl, _, SqL.of hp'⟩, _, rfl, rd, rx, _, rfl, hr', rfl, rd, rx, ca, m, n0 + j, _, rfl, hr', K'.seq hrd hS, hx, ?_⟩
    refine ⟨p, _, _, rfl, rfl, (upd_ne prd).trans hp', by rw [vn_len, List.length_take]; exact small1000 (by omega), _, rfl, ?_, ?_, fun b o e hb => ?_⟩
    · rw [upd_same]
      have e : (m.drop n0).take (j + 1) = (m.drop n0).take j ++ [m[n0 + j]] := by
        have hd : (m.drop n0)[j]? = some m[n0 + j] := by rw [List.getElem?_drop]; exact hx
        obtain ⟨h1, h2⟩ := List.getElem?_eq_some_iff.mp hd
        rw [← h2]
        exact (List.take_append_getElem h1).symm
      rw [e, vn_app]
      rfl
    · rw [upd_ne prd.symm]
      exact upd_same
    · rw [upd_ne (ne_of_none e hp), upd_ne hb]
      exact K' b o e hb
  · rintro σ H1 ⟨v, rfl, hp1, hr1, K1⟩
    rw [Int.toNat_natCast] at hp1 hr1
    -- the rows
    refine ⟨_, rfl, la, _, _, _, rfl, rfl, hTa _, at1, (kk : Int), rfl, by omega, by omega, for_range (lo := 0) (n := (kk : Int).toNat) (fun j σ H' => ∃ (v : Option V) (ra : Addr) (to : Nat) (row : List Nat), σ = [some (.ref rd), some (.int (q : Nat)), some (.ref la), some (.ref p), v] ∧ H' p = some (.lst (vn ((m.drop n0).take n) ++ rowV j ra)) ∧ H' rd = some (.ins A.a_Reader rx (readerF ca to)) ∧ Keep rd H H' ∧
        (j = 0 → to = n0 + n) ∧ (j = 1 → H ra = none ∧ ra ≠ p ∧ H' ra = some (.lst (vn row)) ∧ ∃ l, m[n0 + n]? = some l ∧ to = n0 + n + 1 + l ∧ row = (m.drop (n0 + n + 1)).take l))
      ⟨v, 0, n0 + n, [], rfl, by rw [show rowV 0 0 = [] from rfl, List.append_nil]; exact hp1, hr1, K1, fun _ => rfl, fun z => absurd z (by decide)⟩ ?_ ?_⟩
    · rintro j σ H' hj ⟨v, ra, to, row, rfl, hp', hr', K', ht, _⟩
      rw [Int.toNat_natCast] at hj
      have hj0 : j = 0 := by omega
      subst hj0
      have ht := ht rfl
      subst ht
      obtain ⟨l, hl1, hl2⟩ := hrow (by omega)
      have hp' : H' p = some (.lst (vn ((m.drop n0).take n))) := by rw [hp', show rowV 0 ra = [] from rfl, List.append_nil]
      refine ⟨_, rfl, .inl ⟨rfl, _, SqL.of hp'⟩, _, rfl, rd, rx, _, rfl, hr', rfl, rd, rx, ca, m, n0 + n, l, rfl, hr', K'.seq hrd hS, hl1, hl2, fun H2 r2 n2 K2 h2 hr2 => ?_⟩
      have r2p : r2 ≠ p := (ne_of_none hp' n2).symm
      have r2r : r2 ≠ rd := (ne_of_none hr' n2).symm
      have n2H : H r2 = none := by
        cases z : H r2 with
        | none => rfl
        | some o => rw [K' _ _ z r2r] at n2; cases n2
      refine ⟨p, _, _, rfl, rfl, K2 _ _ hp' prd, by rw [vn_len, List.length_take]; exact small1000 (by omega), _, r2, _, _, rfl, upd_same, (upd_ne prd.symm).trans h2, fun b o e hb => ?_, fun z => absurd z (by decide), fun _ => ⟨n2H, r2p, (upd_ne r2p).trans hr2, l, hl1, rfl, rfl⟩⟩
      rw [upd_ne (ne_of_none e hp)]
      exact K2 _ _ (K' b o e hb) hb
    · rintro σ H' ⟨v, ra, to, row, rfl, hp', hr', K', ht, hrw⟩
      rw [Int.toNat_natCast] at hp' ht hrw
      refine ⟨_, rfl, k H' p ra _ to row hp (fun z => ?_) K' hr' hp' rfl ht fun z => (hrw z).2.2.2⟩
      have := hrw (by omega)
      exact ⟨this.1, this.2.1, this.2.2.1⟩
/-! ### answers -/
theorem ansV_eq (a : Ks348.Ans) : ansV a = (a.ret :: Ks348Neutral.ints a.out).map V.int := by
  unfold ansV vn Ks348Neutral.ints
  rw [List.map_cons, List.map_map]
  rfl
theorem vn_zs (m : List Nat) : vn m = (zs m).map V.int := by
  unfold vn zs
  rw [List.map_map]
  rfl
theorem given_nums {m : List Nat} {n0 n : Nat} (h : n0 + n ≤ m.length) (hn : n ≤ 2) : vn ((m.drop n0).take n) = numsV n (m.getD n0 0) (m.getD (n0 + 1) 0) := by
  have g : ∀ i, i < m.length → m.getD i 0 = m[i]?.getD 0 := fun i _ => List.getD_eq_getElem?_getD ..
  match n, hn with
  | 0, _ => rfl
  | 1, _ =>
    rw [List.drop_eq_getElem_cons (by omega), g n0 (by omega), List.getElem?_eq_getElem (by omega)]
    rfl
  | 2, _ =>
    rw [List.drop_eq_getElem_cons (by omega), List.drop_eq_getElem_cons (by omega), g n0 (by omega), g (n0 + 1) (by omega), List.getElem?_eq_getElem (show n0 < m.length by omega), List.getElem?_eq_getElem (show n0 + 1 < m.length by omega)]
    rfl
/-- a list that is read, and that no call changes -/
def SqO (K : PySem.W.Frag) (H : Hp) (ρ : Addr → Col) (a : Addr) (xs : List V) : Prop := (Rd H a (.lst xs) ∧ ρ a = .other) ∨ ∀ H1, SqL K H1 a xs
theorem SqO.sq {H : Hp} {ρ : Addr → Col} {a : Addr} {xs : List V} (h : SqO K H ρ a xs) : SqL K H a xs := by
  rcases h with ⟨h, _⟩ | h
  · exact .inl h
  · exact h H
theorem SqO.mv {H H' : Hp} {ρ ρ' : Addr → Col} {a : Addr} {xs : List V} (h : SqO K H ρ a xs) (m : ∀ b o, H b = some o → (∃ u, o = .lst u) ∨ (∃ w u, o = .frz w u) → ρ b = .other → H' b = some o ∧ ρ' b = .other) : SqO K H' ρ' a xs := by
  rcases h with ⟨h | ⟨o, h⟩, c⟩ | h
  · obtain ⟨e, c'⟩ := m _ _ h (.inl ⟨_, rfl⟩) c
    exact .inl ⟨.inl e, c'⟩
  · obtain ⟨e, c'⟩ := m _ _ h (.inr ⟨_, _, rfl⟩) c
    exact .inl ⟨.inr ⟨o, e⟩, c'⟩
  · exact .inr h
/-- how it stands ahead of a turn -/
def LoopInv (K : PySem.W.Frag) (A : Ad) (m : List Nat) (ca gd gx rd rx tl : Addr) (n : Nat) (σ : L2.St) (H : Hp) : Prop :=
  ∃ (at_ : Nat) (s : Ks348.Abs) (ρ : Addr → Col) (out : List Int) (cs : List (List (List Int))) (f : Nat) (v4 v5 : Option V), n = m.length - at_ ∧ σ = [some (.ref ca), some (.ref gd), some (.ref rd), some (.ref tl), v4, v5] ∧ at_ ≤ m.length ∧ SqO K H ρ ca (vn m) ∧
    H rd = some (.ins A.a_Reader rx (readerF ca at_)) ∧ ρ rd = .other ∧ H tl = some (.lst (out.map V.int)) ∧ ρ tl = .other ∧ GroundAt A H ρ gd gx s ∧ PyFlat.calls PyKs348.shape f (zs (m.drop at_)) = some cs ∧ (∀ c ∈ cs, Ks348Neutral.asked1 c = true) ∧ out ++ PyFlat.told (PyFlat.played Ks348Neutral.step s cs) = PyKs348.answers (zs m)
def sp_answers (K : PySem.W.Frag) : Sp := fun vs H Q _ => ∃ (ca : Addr) (m : List Nat), vs = [.ref ca] ∧ SqL K H ca (vn m) ∧ PyKs348.answers_asked (zs m) = true ∧ ∀ (H' : Hp) (p : Addr), H' p = some (.lst ((PyKs348.answers (zs m)).map V.int)) → Q (.ref p) H'
theorem fn_answers {fd : FuncData} (Fn : Fun K "answers" "answers" s_answers A.a_answers fd) (T : Txt K mg A) : FnOk P w K mg base CX0 11 A.a_answers fd ["calls"] (sp_answers K) := by
  refine Fn.ok sc_answers (fun vs H Q E h => by obtain ⟨_, _, rfl, _⟩ := h; rfl) (fun cdv Ar outer st H vs Q E hr h => ?_)
  obtain ⟨ca, m, rfl, hS, hask, k⟩ := h
  refine ⟨_, (pss_cons (ps_set (i := 1) sc_answers.nd rfl (Or.inl rfl) (pe_k0 T.t_Ground.mak (ok_Ground_init T) (hr.mono (by decide)) rfl T.t_Ground.mg))
      (pss_cons (ps_set (i := 2) sc_answers.nd rfl (Or.inl rfl) (pe_k T.t_Reader.mak (ok_Reader_init T) (hr.mono (by decide)) rfl T.t_Reader.mg (pa_cons (pv 0) pa_nil)))
      (pss_cons (ps_set (i := 3) sc_answers.nd rfl (Or.inl rfl) (pe_lst pa_nil))
      (pss_cons (ps_while PassesOwn.never (pt_val (pe_m0 (pv 2) T.t_Reader.cl T.t_Reader_has_more.me (ok_Reader_has_more T) (hr.mono (by decide)))) (pss_cons (ps_set (i := 4) sc_answers.nd rfl (Or.inl rfl) (pe_m0 (pv 2) T.t_Reader.cl T.t_Reader_take_number.me (ok_Reader_take_number T) (hr.mono (by decide))))
      (pss_cons (ps_set (i := 5) sc_answers.nd rfl (Or.inl rfl) (pe_c (ok_answer_to T) (hr.mono (by decide)) rfl T.t_answer_to.mg (pa_cons (pv 1) (pa_cons (pv 4) (pa_cons (pe_c (ok_take_given T) (hr.mono (by decide)) rfl T.t_take_given.mg (pa_cons (pv 2) (pa_cons (pv 4) pa_nil))) pa_nil)))))
      (pss_cons (ps_expr (pe_bm PySem.F.plainAttrs_list PySem.F.slot_list_append PySem.F.type_list_append mt_append (pv 3) (pa_cons (pe_callB call_len_seq (by rfl) T.b_len PySem.boot_len (pa_cons (pv 5) pa_nil)) pa_nil)))
      (pss_one (ps_expr (pe_bm PySem.F.plainAttrs_list PySem.F.slot_list_extend PySem.F.type_list_extend mt_extend (pv 3) (pa_cons (pv 5) pa_nil))))))))
      (pss_one (ps_ret (pv 3))))))), ?_⟩
  obtain ⟨cs0, hcs0, hq0, hans, hlen⟩ := asked_start hask
  -- ground, reader, told
  refine fun gd gx ng ngx neg => ⟨gd, gx, rfl, upd_same, rfl, ?_⟩
  rw [upd_upd]
  have S1 : Same H (upd (upd H gx (.own gd)) gd (.ins A.a_Ground gx [("house", V.non)])) := fun b o e => by
    rw [upd_ne (ne_of_none e ng), upd_ne (ne_of_none e ngx)]
    exact e
  have hg1 : upd (upd H gx (.own gd)) gd (.ins A.a_Ground gx [("house", V.non)]) gd = some (.ins A.a_Ground gx [("house", V.non)]) := upd_same
  generalize upd (upd H gx (.own gd)) gd (.ins A.a_Ground gx [("house", V.non)]) = H1 at S1 hg1
  refine ⟨_, rfl, fun rd rx nr nrx ner => ⟨rd, rx, ca, rfl, upd_same, rfl, ?_⟩⟩
  rw [upd_upd]
  have S2 : Same H1 (upd (upd H1 rx (.own rd)) rd (.ins A.a_Reader rx (readerF ca 0))) := fun b o e => by
    rw [upd_ne (ne_of_none e nr), upd_ne (ne_of_none e nrx)]
    exact e
  have hr2 : upd (upd H1 rx (.own rd)) rd (.ins A.a_Reader rx (readerF ca 0)) rd = some (.ins A.a_Reader rx (readerF ca 0)) := upd_same
  generalize upd (upd H1 rx (.own rd)) rd (.ins A.a_Reader rx (readerF ca 0)) = H2 at S2 hr2
  have hg2 := S2 _ _ hg1
  refine ⟨Nat.zero_le _, fun tl ntl => ?_⟩
  have q3 := same_new (o := .lst []) ntl
  have S3 := (S1.trans S2).trans q3
  have rg : rd ≠ gd := (ne_of_none hg1 nr).symm
  have tg : tl ≠ gd := (ne_of_none hg2 ntl).symm
  have hctl : (∀ H1, SqL K H1 ca (vn m)) ∨ ca ≠ tl := by
    rcases hS with (h | ⟨o, h⟩) | h
    · exact .inr (ne_of_none ((S1.trans S2) _ _ h) ntl)
    · exact .inr (ne_of_none ((S1.trans S2) _ _ h) ntl)
    · exact .inl fun _ => .inr h
  have hO : SqO K (upd H2 tl (.lst [])) (fun b => if b = gd then .ground else .other) ca (vn m) := by
    rcases hS with (h | ⟨o, h⟩) | h
    · exact .inl ⟨.inl (S3 _ _ h), if_neg (ne_of_none h ng)⟩
    · exact .inl ⟨.inr ⟨o, S3 _ _ h⟩, if_neg (ne_of_none h ng)⟩
    · exact .inr fun _ => .inr h
  -- the loop
  refine ⟨LoopInv K A m ca gd gx rd rx tl, ⟨m.length, 0, {}, fun b => if b = gd then .ground else .other, [], cs0, (zs m).length, none, none, rfl, rfl, Nat.zero_le _, hO, q3 _ _ hr2, if_neg rg, upd_same, if_neg tg, ⟨if_pos rfl, .inl ⟨q3 _ _ hg2, rfl⟩⟩, by rw [List.drop_zero]; exact hcs0, hq0, by rw [hans]; rfl⟩, ?_⟩
  rintro n σ H' ⟨at_, s, ρ, out, cs, f, v4, v5, rfl, rfl, hat, hO', hr', hrc, ht', htc, G, hcs, hq, hout⟩
  refine ⟨_, rfl, rd, rx, _, rfl, hr', rfl, rd, rx, ca, m, at_, rfl, hr', hO'.sq, _, rfl, ?_⟩
  by_cases hlt : at_ < m.length
  · rw [decide_eq_true hlt]
    obtain ⟨q, nn, kk, row, to, f', cs', rdd, hcs', hq', hplay⟩ := calls_step hcs hlt hq
    refine iteT ⟨fun σ1 Hn => ∃ n', n' < m.length - at_ ∧ LoopInv K A m ca gd gx rd rx tl n' σ1 Hn, fun σ1 Hn z => z, ?_⟩
    -- call = reader.take_number()
    refine ⟨_, rfl, rd, rx, _, rfl, hr', rfl, rd, rx, ca, m, at_, q, rfl, hr', hO'.sq, rdd.hd, ?_⟩
    have K1 : Keep rd H' (upd H' rd (.ins A.a_Reader rx (readerF ca (at_ + 1)))) := Keep.upd
    have r1 : upd H' rd (.ins A.a_Reader rx (readerF ca (at_ + 1))) rd = some (.ins A.a_Reader rx (readerF ca (at_ + 1))) := upd_same
    have hS1 := K1.seq hr' hO'.sq
    generalize upd H' rd (.ins A.a_Reader rx (readerF ca (at_ + 1))) = H1' at K1 r1 hS1
    -- take_given(reader, call)
    refine ⟨_, rfl, _, rfl, _, rfl, _, rfl, rd, rx, ca, m, at_ + 1, q, nn, kk, rfl, r1, hS1, rdd.lay, rdd.nums, fun z => ?_, fun H2' p ra g to2 row2 np hra K2 r2 hp2 hg hto hto1 => ?_⟩
    · obtain ⟨l, a1, a2, a3, a4⟩ := rdd.one z
      exact ⟨l, a1, a2⟩
    have hto2 : to2 = to := by
      rcases rdd.kk with z | z
      · rw [hto z, (rdd.non z).1]
      · obtain ⟨l, a1, a2, a3, a4⟩ := rdd.one z
        obtain ⟨l', b1, b2, b3⟩ := hto1 z
        rw [a1] at b1
        cases b1
        rw [a3, b2]
    subst hto2
    have hrow2 : kk ≠ 0 → row2 = row := fun hk => by
      rcases rdd.kk with z | z
      · exact absurd z hk
      · obtain ⟨l, a1, a2, a3, a4⟩ := rdd.one z
        obtain ⟨l', b1, b2, b3⟩ := hto1 z
        rw [a1] at b1
        cases b1
        rw [a4, b3]
    let ρ2 : Addr → Col := fun b => if b = p then .other else if kk ≠ 0 ∧ b = ra then .row else ρ b
    have col2 : ∀ b o, H' b = some o → b ≠ rd → ρ2 b = ρ b := fun b o e hb => by
      have e1 := K1 _ _ e hb
      show (if b = p then Col.other else if kk ≠ 0 ∧ b = ra then .row else ρ b) = ρ b
      rw [if_neg (ne_of_none e1 np), if_neg fun z => (ne_of_none e1 (hra z.1).1) z.2]
    have rp : rd ≠ p := ne_of_none r1 np
    have colr : ρ2 rd = .other := by
      show (if rd = p then Col.other else if kk ≠ 0 ∧ rd = ra then .row else ρ rd) = .other
      rw [if_neg rp, if_neg fun z => (ne_of_none r1 (hra z.1).1) z.2]
      exact hrc
    have mv2 : ∀ b o, H' b = some o → b ≠ rd → H2' b = some o ∧ ρ2 b = ρ b := fun b o e hb => ⟨K2 _ _ (K1 _ _ e hb) hb, col2 b o e hb⟩
    have G2 : GroundAt A H2' ρ2 gd gx s := G.mv fun b o e hc => mv2 b o e fun z => hc (.inl (by rw [z]; exact hrc))
    have trd : tl ≠ rd := ne_of ht' hr' (by intro z; cases z)
    obtain ⟨ht2, htc2⟩ := mv2 _ _ ht' trd
    have hG : GivenOk H2' ρ2 nn kk (m.getD (at_ + 1) 0) (m.getD (at_ + 2) 0) row g := by
      have hn2 : nn ≤ 2 := by
        have t2 : ∀ p ∈ layL, p.1 ≤ 2 := by decide
        exact t2 _ (List.mem_of_getElem? rdd.lay)
      refine ⟨ra, ?_, fun hk => ?_⟩
      · rw [hg, given_nums rdd.nums hn2]
      · obtain ⟨a1, a2, a3⟩ := hra hk
        refine ⟨by rw [a3, hrow2 hk], rdd.byt, ?_⟩
        show (if ra = p then Col.other else if kk ≠ 0 ∧ ra = ra then .row else ρ ra) = .row
        rw [if_neg a2, if_pos ⟨hk, rfl⟩]
    have pc : ρ2 p = .other := if_pos rfl
    refine ⟨gd, gx, p, g, ρ2, s, q, nn, kk, m.getD (at_ + 1) 0, m.getD (at_ + 2) 0, row, rfl, G2, hp2, pc, rdd.lay, hG, fun H3 ρ3 pa F3 G3 npa hpa => ?_⟩
    have hO2 : SqO K H2' ρ2 ca (vn m) := hO'.mv fun b o e ho hc => by
      have hb : b ≠ rd := fun z => by
        rw [z, hr'] at e
        rcases ho with ⟨u, rfl⟩ | ⟨w', u, rfl⟩ <;> cases e
      obtain ⟨x1, x2⟩ := mv2 b o e hb
      exact ⟨x1, x2.trans hc⟩
    have hO3 : SqO K H3 ρ3 ca (vn m) := hO2.mv fun b o e _ hc => F3.kp b o e hc
    obtain ⟨ht3, htc3⟩ := F3.kp _ _ ht2 (htc2.trans htc)
    obtain ⟨hr3, hrc3⟩ := F3.kp _ _ r2 colr
    have hp1 := hplay s
    have hnew : out ++ PyFlat.told (PyFlat.played Ks348Neutral.step s cs) = out ++ (((((Ks348.act s (callAt m at_ q row)).2.ret :: Ks348Neutral.ints (Ks348.act s (callAt m at_ q row)).2.out).length : Int) :: ((Ks348.act s (callAt m at_ q row)).2.ret :: Ks348Neutral.ints (Ks348.act s (callAt m at_ q row)).2.out)) ++ PyFlat.told (PyFlat.played Ks348Neutral.step (Ks348.act s (callAt m at_ q row)).1 cs')) := by
      rw [hp1]
      rfl
    rw [hnew] at hout
    have hpa : H3 pa = some (.lst (((Ks348.act s (callAt m at_ q row)).2.ret :: Ks348Neutral.ints (Ks348.act s (callAt m at_ q row)).2.out).map V.int)) := by rw [← ansV_eq]; exact hpa
    have G3 : GroundAt A H3 ρ3 gd gx (Ks348.act s (callAt m at_ q row)).1 := G3
    generalize (Ks348.act s (callAt m at_ q row)).2.ret :: Ks348Neutral.ints (Ks348.act s (callAt m at_ q row)).2.out = ans at hout hpa
    generalize (Ks348.act s (callAt m at_ q row)).1 = s3 at hout G3
    have hl2 : out.length + (ans.length + 1) ≤ 1005000 := by
      have := congrArg List.length hout
      rw [List.length_append, List.length_append, List.length_cons] at this
      omega
    have pt : pa ≠ tl := (ne_of_none ht2 npa).symm
    -- told.append(len(answer))
    refine ⟨_, rfl, .inl ⟨rfl, _, SqL.of ht3⟩, _, rfl, pa, _, rfl, .inl (SqL.of hpa), tl, _, _, rfl, rfl, ht3, ?_, ?_⟩
    · rw [List.length_map]
      exact Nat.lt_of_le_of_lt (show out.length ≤ 1005000 by omega) (by decide)
    -- told.extend(answer)
    refine ⟨_, rfl, .inl ⟨rfl, _, SqL.of upd_same⟩, _, rfl, tl, pa, _, _, rfl, rfl, upd_same, (upd_ne pt).trans hpa, ?_, ?_⟩
    · rw [List.length_append, List.length_map, List.length_map]
      show out.length + 1 + ans.length ≤ sizeLine
      exact Nat.le_trans (show _ ≤ 1005000 by omega) (by decide)
    rw [upd_upd]
    have mt : ∀ {u} b o, H3 b = some o → ¬ (ρ3 b = .other ∨ ρ3 b = .row) → upd H3 tl u b = some o ∧ ρ3 b = ρ3 b := fun {u} b o e hc => ⟨(upd_ne fun z => hc (.inl (by rw [z]; exact htc3))).trans e, rfl⟩
    refine ⟨m.length - to2, by have := rdd.lt; omega, to2, s3, ρ3, out ++ ((ans.length : Int) :: ans), cs', f', _, _, rfl, rfl, rdd.le, ?_, (upd_ne trd.symm).trans hr3, hrc3, ?_, htc3, G3.mv mt, hcs', hq', ?_⟩
    · rcases hO3 with ⟨h | ⟨o, h⟩, c⟩ | h
      · rcases hctl with z | z
        · exact .inr z
        · exact .inl ⟨.inl ((upd_ne z).trans h), c⟩
      · exact .inl ⟨.inr ⟨o, (upd_ne (ne_of h ht3 (by intro z; cases z))).trans h⟩, c⟩
      · exact .inr h
    · rw [upd_same, List.map_append, List.map_cons, List.length_map, List.append_assoc]
      rfl
    · rw [List.append_assoc]
      exact hout
  · rw [decide_eq_false hlt]
    refine iteF ⟨_, rfl, k H' tl ?_⟩
    have e0 : m.drop at_ = [] := List.drop_of_length_le (by omega)
    rw [e0] at hcs
    have ecs : cs = [] := by
      cases f with
      | zero => exact (Option.some.inj hcs).symm
      | succ f => exact (Option.some.inj hcs).symm
    subst ecs
    have hout : out ++ [] = PyKs348.answers (zs m) := hout
    rw [List.append_nil] at hout
    rw [← hout]
    exact ht'
end
end Dc

/-! names that keep the head from laying a second form of each state of the top (they mean nothing; without them the compiled file is too large) -/
def PySem.W.Fast.tw8913967878462925987 : Unit := ()
def PySem.W.Fast.tw16704911868386785089 : Unit := ()
def PySem.W.Fast.tw12383925980867029191 : Unit := ()
def PySem.W.Fast.tw15293327401500202698 : Unit := ()
def PySem.W.Fast.tw4431332400546864752 : Unit := ()
def PySem.W.Fast.tw12430230661351901871 : Unit := ()
def PySem.W.Fast.tw12384088501302161459 : Unit := ()
def PySem.W.Fast.tw7212195449739272523 : Unit := ()
def PySem.W.Fast.tw16341160044153483432 : Unit := ()
def PySem.W.Fast.tw3783923088524922787 : Unit := ()
def PySem.W.Fast.tw8106241260436307124 : Unit := ()
def PySem.W.Fast.tw9665529956845312986 : Unit := ()
def PySem.W.Fast.tw626251816092177663 : Unit := ()
def PySem.W.Fast.tw2431940762099236609 : Unit := ()
def PySem.W.Fast.tw8565319538078516937 : Unit := ()
def PySem.W.Fast.tw9452451865778817755 : Unit := ()
def PySem.W.Fast.tw8099508314119680409 : Unit := ()
def PySem.W.Fast.tw16726090676636088317 : Unit := ()
def PySem.W.Fast.tw16358310493277758314 : Unit := ()
def PySem.W.Fast.tw2906079760697807645 : Unit := ()
def PySem.W.Fast.tw3216657964157384020 : Unit := ()
def PySem.W.Fast.tw9102758765561076190 : Unit := ()
def PySem.W.Fast.tw7746526234818734779 : Unit := ()
def PySem.W.Fast.tw3388868347865416879 : Unit := ()
def PySem.W.Fast.tw6251090620925433861 : Unit := ()
def PySem.W.Fast.tw9153546976675568247 : Unit := ()
def PySem.W.Fast.tw5496861705889194970 : Unit := ()
def PySem.W.Fast.tw13241860134320047394 : Unit := ()
def PySem.W.Fast.tw13182316943190208396 : Unit := ()
def PySem.W.Fast.tw5502388522874428190 : Unit := ()
def PySem.W.Fast.tw10934150303686208901 : Unit := ()
def PySem.W.Fast.tw5330643932706851092 : Unit := ()
def PySem.W.Fast.tw2221100463861445064 : Unit := ()
def PySem.W.Fast.tw2738169789576088510 : Unit := ()
def PySem.W.Fast.tw1750381699125464346 : Unit := ()
def PySem.W.Fast.tw4536037223515650538 : Unit := ()
def PySem.W.Fast.tw17404448726466202108 : Unit := ()
def PySem.W.Fast.tw2453931394188539185 : Unit := ()
def PySem.W.Fast.tw14724509511917552389 : Unit := ()
def PySem.W.Fast.tw10063824554769856883 : Unit := ()
def PySem.W.Fast.tw6373552912059459054 : Unit := ()
def PySem.W.Fast.tw13221188015558803918 : Unit := ()
def PySem.W.Fast.tw17928950209983254575 : Unit := ()
def PySem.W.Fast.tw13198204116454225302 : Unit := ()
def PySem.W.Fast.tw16967130142821125076 : Unit := ()
def PySem.W.Fast.tw3421693168611555153 : Unit := ()
def PySem.W.Fast.tw14707658080278322607 : Unit := ()
def PySem.W.Fast.tw3578042012430661384 : Unit := ()
def PySem.W.Fast.tw8878539875184560632 : Unit := ()
def PySem.W.Fast.tw13341668583654350772 : Unit := ()
def PySem.W.Fast.tw10739216535458120248 : Unit := ()
def PySem.W.Fast.tw10197814094818755241 : Unit := ()
def PySem.W.Fast.tw15699658029285017479 : Unit := ()
def PySem.W.Fast.tw15214772524972936330 : Unit := ()
def PySem.W.Fast.tw3127874963998366657 : Unit := ()
def PySem.W.Fast.tw12455631712282023023 : Unit := ()
def PySem.W.Fast.tw10151167042899213801 : Unit := ()
def PySem.W.Fast.tw1663013460380799925 : Unit := ()
def PySem.W.Fast.tw18151980864157510724 : Unit := ()
def PySem.W.Fast.tw13935588512667893945 : Unit := ()
def PySem.W.Fast.tw16950732158237756854 : Unit := ()
def PySem.W.Fast.tw6338592944062615415 : Unit := ()
def PySem.W.Fast.tw75110893224790957 : Unit := ()
def PySem.W.Fast.tw8232642214680442594 : Unit := ()
def PySem.W.Fast.tw14753451107115843647 : Unit := ()
def PySem.W.Fast.tw17882575803432312845 : Unit := ()
def PySem.W.Fast.tw10550920964735260215 : Unit := ()
def PySem.W.Fast.tw5155220761550447083 : Unit := ()
def PySem.W.Fast.tw16783250538053172039 : Unit := ()
def PySem.W.Fast.tw14245637657527607154 : Unit := ()
def PySem.W.Fast.tw15177838267222092034 : Unit := ()
def PySem.W.Fast.tw14371286833977399520 : Unit := ()
def PySem.W.Fast.tw15317461956187530198 : Unit := ()
def PySem.W.Fast.tw17850540945900945824 : Unit := ()
def PySem.W.Fast.tw11079607969939814045 : Unit := ()
def PySem.W.Fast.tw1902345988059998941 : Unit := ()
def PySem.W.Fast.tw953884129552491909 : Unit := ()
def PySem.W.Fast.tw5088771025046863766 : Unit := ()
def PySem.W.Fast.tw11974092975399648462 : Unit := ()
def PySem.W.Fast.tw3885233437014385845 : Unit := ()
def PySem.W.Fast.tw6889126363980177063 : Unit := ()
def PySem.W.Fast.tw2434678660924726972 : Unit := ()
def PySem.W.Fast.tw9615271600440206013 : Unit := ()
def PySem.W.Fast.tw2425500040358338702 : Unit := ()
def PySem.W.Fast.tw6159646610704941336 : Unit := ()
def PySem.W.Fast.tw8275804804231790877 : Unit := ()
def PySem.W.Fast.tw8444163433658320916 : Unit := ()
def PySem.W.Fast.tw3171394140319467748 : Unit := ()
def PySem.W.Fast.tw11549257871425229704 : Unit := ()
def PySem.W.Fast.tw11082630929315338952 : Unit := ()
def PySem.W.Fast.tw9029475111508054181 : Unit := ()
def PySem.W.Fast.tw9944733707561950817 : Unit := ()
def PySem.W.Fast.tw13502702274123075823 : Unit := ()
def PySem.W.Fast.tw6409094108825628822 : Unit := ()
def PySem.W.Fast.tw11193748947437803044 : Unit := ()
def PySem.W.Fast.tw11113454836691718342 : Unit := ()
def PySem.W.Fast.tw6245816204006044008 : Unit := ()
def PySem.W.Fast.tw695034001441952775 : Unit := ()
def PySem.W.Fast.tw7440547180081813013 : Unit := ()
def PySem.W.Fast.tw1390935863639967879 : Unit := ()
def PySem.W.Fast.tw5762202263161994610 : Unit := ()
def PySem.W.Fast.tw6216074658156026910 : Unit := ()
def PySem.W.Fast.tw10896005453958247952 : Unit := ()
def PySem.W.Fast.tw3007343201737094505 : Unit := ()
def PySem.W.Fast.tw6679165160261034184 : Unit := ()
def PySem.W.Fast.tw25845874335310551 : Unit := ()
def PySem.W.Fast.tw4270838819030942508 : Unit := ()
def PySem.W.Fast.tw1890502002693811958 : Unit := ()
def PySem.W.Fast.tw3398843456235576675 : Unit := ()
def PySem.W.Fast.tw7262775759772296002 : Unit := ()
def PySem.W.Fast.tw10479179187723128129 : Unit := ()
def PySem.W.Fast.tw18356569944166636921 : Unit := ()
def PySem.W.Fast.tw18173857142847668563 : Unit := ()
def PySem.W.Fast.tw16039339654134456523 : Unit := ()
def PySem.W.Fast.tw9582327230477198920 : Unit := ()
def PySem.W.Fast.tw1525859000806526579 : Unit := ()
def PySem.W.Fast.tw4141682108610384427 : Unit := ()
def PySem.W.Fast.tw1541885012479113672 : Unit := ()
def PySem.W.Fast.tw15519239267735420281 : Unit := ()
def PySem.W.Fast.tw3457225445889344977 : Unit := ()
def PySem.W.Fast.tw17181245808514521086 : Unit := ()
def PySem.W.Fast.tw7696373289092466310 : Unit := ()
def PySem.W.Fast.tw12949679575954872031 : Unit := ()
def PySem.W.Fast.tw10458680950882211519 : Unit := ()
def PySem.W.Fast.tw1366939764404682154 : Unit := ()
def PySem.W.Fast.tw4690941988311683560 : Unit := ()
def PySem.W.Fast.tw8221427629969079889 : Unit := ()
def PySem.W.Fast.tw13522463128244709828 : Unit := ()
def PySem.W.Fast.tw12628633128505767992 : Unit := ()
def PySem.W.Fast.tw18277074980668090419 : Unit := ()
def PySem.W.Fast.tw9305646721606448987 : Unit := ()
def PySem.W.Fast.tw6796943808266929891 : Unit := ()
def PySem.W.Fast.tw15929624661516676440 : Unit := ()
def PySem.W.Fast.tw12501830732533724064 : Unit := ()
def PySem.W.Fast.tw8408539868886081503 : Unit := ()
def PySem.W.Fast.tw6913772786101703081 : Unit := ()
def PySem.W.Fast.tw15882207260367036293 : Unit := ()
def PySem.W.Fast.tw10418966160693521968 : Unit := ()
def PySem.W.Fast.tw9252774950111949323 : Unit := ()
def PySem.W.Fast.tw14210218691344607226 : Unit := ()
def PySem.W.Fast.tw1422050263895996600 : Unit := ()
def PySem.W.Fast.tw16571500632228287350 : Unit := ()
def PySem.W.Fast.tw3320396264329425601 : Unit := ()
def PySem.W.Fast.tw1416477137587165194 : Unit := ()
def PySem.W.Fast.tw16896780170836785100 : Unit := ()
def PySem.W.Fast.tw1769839780243366219 : Unit := ()
def PySem.W.Fast.tw10434977672776133617 : Unit := ()
def PySem.W.Fast.tw16801753237462186769 : Unit := ()
def PySem.W.Fast.tw13460871612361158405 : Unit := ()
def PySem.W.Fast.tw12791891463199095908 : Unit := ()
def PySem.W.Fast.tw1436011912964283707 : Unit := ()
def PySem.W.Fast.tw7165012735302673641 : Unit := ()
def PySem.W.Fast.tw11241129222643949933 : Unit := ()
def PySem.W.Fast.tw2462706774286275893 : Unit := ()
def PySem.W.Fast.tw11197436080648646534 : Unit := ()
def PySem.W.Fast.tw9327954149671110296 : Unit := ()
def PySem.W.Fast.tw9134358956278043090 : Unit := ()
def PySem.W.Fast.tw10163899627743966106 : Unit := ()
def PySem.W.Fast.tw4055786858029569337 : Unit := ()
def PySem.W.Fast.tw12684497916734339116 : Unit := ()
def PySem.W.Fast.tw225106889517669235 : Unit := ()
def PySem.W.Fast.tw18044316550065182678 : Unit := ()
def PySem.W.Fast.tw1871730709614992806 : Unit := ()
def PySem.W.Fast.tw11896912750819618155 : Unit := ()
def PySem.W.Fast.tw4557295399534524290 : Unit := ()
def PySem.W.Fast.tw18374694578687284951 : Unit := ()
def PySem.W.Fast.tw17023946208260943009 : Unit := ()
def PySem.W.Fast.tw8511279414054628239 : Unit := ()
def PySem.W.Fast.tw2086119529133072436 : Unit := ()
def PySem.W.Fast.tw16040891129438223466 : Unit := ()
def PySem.W.Fast.tw7796944815893603986 : Unit := ()
def PySem.W.Fast.tw13928733855989761012 : Unit := ()
def PySem.W.Fast.tw10225093284608171057 : Unit := ()
def PySem.W.Fast.tw9917172555926743126 : Unit := ()
def PySem.W.Fast.tw2675795309507227041 : Unit := ()
def PySem.W.Fast.tw741794400988057235 : Unit := ()
def PySem.W.Fast.tw12715687641549476725 : Unit := ()
def PySem.W.Fast.tw6804169294666800204 : Unit := ()
def PySem.W.Fast.tw10920371067722087136 : Unit := ()
def PySem.W.Fast.tw17494788275110190940 : Unit := ()
def PySem.W.Fast.tw11753948260101638207 : Unit := ()
def PySem.W.Fast.tw10048611181188059686 : Unit := ()
def PySem.W.Fast.tw1344053620602982225 : Unit := ()
def PySem.W.Fast.tw6296228696609783361 : Unit := ()
def PySem.W.Fast.tw819536656443520831 : Unit := ()
def PySem.W.Fast.tw1198550684124994801 : Unit := ()
def PySem.W.Fast.tw4759402664343015910 : Unit := ()
def PySem.W.Fast.tw2595768327516632747 : Unit := ()
def PySem.W.Fast.tw15028777271500069358 : Unit := ()
def PySem.W.Fast.tw7083855640415410202 : Unit := ()
def PySem.W.Fast.tw2725245130261167721 : Unit := ()
def PySem.W.Fast.tw1936095039730393711 : Unit := ()
def PySem.W.Fast.tw4624224701298691783 : Unit := ()
def PySem.W.Fast.tw7586623488384059748 : Unit := ()
def PySem.W.Fast.tw13526299722895912721 : Unit := ()
def PySem.W.Fast.tw14750158644170109503 : Unit := ()
def PySem.W.Fast.tw8330533706804079821 : Unit := ()
def PySem.W.Fast.tw4370492799827340274 : Unit := ()
def PySem.W.Fast.tw9584562284368056130 : Unit := ()
def PySem.W.Fast.tw7927140441884375026 : Unit := ()
def PySem.W.Fast.tw14624246402677458672 : Unit := ()
def PySem.W.Fast.tw1978499207266720709 : Unit := ()
def PySem.W.Fast.tw2931115270141584116 : Unit := ()
def PySem.W.Fast.tw11654080462877200800 : Unit := ()
def PySem.W.Fast.tw17828093724954295840 : Unit := ()
def PySem.W.Fast.tw3494944426882897237 : Unit := ()
def PySem.W.Fast.tw16070321135656369883 : Unit := ()
def PySem.W.Fast.tw12358780124091810714 : Unit := ()
def PySem.W.Fast.tw8591564022534383321 : Unit := ()
def PySem.W.Fast.tw16942131683209981064 : Unit := ()
def PySem.W.Fast.tw470834357499550662 : Unit := ()
def PySem.W.Fast.tw9973202864405199965 : Unit := ()
def PySem.W.Fast.tw15694366378773381656 : Unit := ()
def PySem.W.Fast.tw12780643695781685014 : Unit := ()
def PySem.W.Fast.tw10814559474328044056 : Unit := ()
def PySem.W.Fast.tw5262443915859241337 : Unit := ()
def PySem.W.Fast.tw2079496956307058037 : Unit := ()
def PySem.W.Fast.tw5871507155042214773 : Unit := ()
def PySem.W.Fast.tw3503645252389902313 : Unit := ()
def PySem.W.Fast.tw10681284730423099487 : Unit := ()
def PySem.W.Fast.tw6946194282438797129 : Unit := ()
def PySem.W.Fast.tw11873427948855562819 : Unit := ()
def PySem.W.Fast.tw15037151130423094134 : Unit := ()
def PySem.W.Fast.tw13158815218524648339 : Unit := ()
def PySem.W.Fast.tw9776456697109835127 : Unit := ()
def PySem.W.Fast.tw12714834842126687387 : Unit := ()
def PySem.W.Fast.tw112755608886533774 : Unit := ()
def PySem.W.Fast.tw6385073874919637518 : Unit := ()
def PySem.W.Fast.tw9191730794346457907 : Unit := ()
def PySem.W.Fast.tw4526300221822805643 : Unit := ()
def PySem.W.Fast.tw13601982508722252202 : Unit := ()
def PySem.W.Fast.tw2937129817789595285 : Unit := ()
def PySem.W.Fast.tw99660269107576057 : Unit := ()
def PySem.W.Fast.tw10635047268086471317 : Unit := ()
def PySem.W.Fast.tw14809985685949072575 : Unit := ()
def PySem.W.Fast.tw14368698616873952390 : Unit := ()
def PySem.W.Fast.tw11190480223909724292 : Unit := ()
def PySem.W.Fast.tw1878283444319599262 : Unit := ()
def PySem.W.Fast.tw8520744057189393855 : Unit := ()
def PySem.W.Fast.tw11329129843182785275 : Unit := ()
def PySem.W.Fast.tw2144380215305217568 : Unit := ()
def PySem.W.Fast.tw4418122752185024777 : Unit := ()
def PySem.W.Fast.tw12627375521530324199 : Unit := ()
def PySem.W.Fast.tw1225804401878315377 : Unit := ()
def PySem.W.Fast.tw16873099172529561667 : Unit := ()
def PySem.W.Fast.tw6283022592992806944 : Unit := ()
def PySem.W.Fast.tw1692805494773610221 : Unit := ()
def PySem.W.Fast.tw9389787374666981694 : Unit := ()
def PySem.W.Fast.tw14205156731475455106 : Unit := ()
def PySem.W.Fast.tw16741696647646828154 : Unit := ()
def PySem.W.Fast.tw15710721680697045736 : Unit := ()
def PySem.W.Fast.tw6351504644162385979 : Unit := ()
def PySem.W.Fast.tw12638250467485984016 : Unit := ()
def PySem.W.Fast.tw4225918116121855310 : Unit := ()
def PySem.W.Fast.tw6951933063243710029 : Unit := ()
def PySem.W.Fast.tw15282121284982861942 : Unit := ()
def PySem.W.Fast.tw4932238215782082139 : Unit := ()
def PySem.W.Fast.tw8792178251001237536 : Unit := ()
def PySem.W.Fast.tw6799827764207296931 : Unit := ()
def PySem.W.Fast.tw1852736296110107437 : Unit := ()
def PySem.W.Fast.tw2757378185338734346 : Unit := ()
def PySem.W.Fast.tw13847722059756774314 : Unit := ()
def PySem.W.Fast.tw2770510563360561225 : Unit := ()
def PySem.W.Fast.tw16030859393886331734 : Unit := ()
def PySem.W.Fast.tw16972842371332305723 : Unit := ()
def PySem.W.Fast.tw5235214487749367095 : Unit := ()
def PySem.W.Fast.tw2946157665441885974 : Unit := ()
def PySem.W.Fast.tw14061004038020214171 : Unit := ()
def PySem.W.Fast.tw15135967884277529791 : Unit := ()
def PySem.W.Fast.tw16637200942919830014 : Unit := ()
def PySem.W.Fast.tw12257286399024728907 : Unit := ()
def PySem.W.Fast.tw16402462942496494827 : Unit := ()
def PySem.W.Fast.tw10408361481684047564 : Unit := ()
def PySem.W.Fast.tw11764822936536091313 : Unit := ()
def PySem.W.Fast.tw9458190275154139295 : Unit := ()
def PySem.W.Fast.tw14327748508740850609 : Unit := ()
def PySem.W.Fast.tw700817800721442763 : Unit := ()
def PySem.W.Fast.tw8360912118591066161 : Unit := ()
def PySem.W.Fast.tw8611386750560618938 : Unit := ()
def PySem.W.Fast.tw708700934782326668 : Unit := ()
def PySem.W.Fast.tw17878989598595924761 : Unit := ()
def PySem.W.Fast.tw7194253147546027890 : Unit := ()
def PySem.W.Fast.tw14652965677736070166 : Unit := ()
def PySem.W.Fast.tw16130319559740693055 : Unit := ()
def PySem.W.Fast.tw15551514781329796956 : Unit := ()
def PySem.W.Fast.tw12212611479245588226 : Unit := ()
def PySem.W.Fast.tw13306068634143118622 : Unit := ()
def PySem.W.Fast.tw4279583101321196148 : Unit := ()
def PySem.W.Fast.tw14256565291485765670 : Unit := ()
def PySem.W.Fast.tw10314869700352768702 : Unit := ()
def PySem.W.Fast.tw11559546673728170328 : Unit := ()
def PySem.W.Fast.tw17840696485755198739 : Unit := ()
def PySem.W.Fast.tw7617323958730580954 : Unit := ()
def PySem.W.Fast.tw14813542639235838558 : Unit := ()
def PySem.W.Fast.tw9371984585655449701 : Unit := ()
def PySem.W.Fast.tw15121947488444448156 : Unit := ()
def PySem.W.Fast.tw17487566279950699470 : Unit := ()
def PySem.W.Fast.tw13130581664172514206 : Unit := ()
def PySem.W.Fast.tw17394278380149493783 : Unit := ()
def PySem.W.Fast.tw4006675276516759665 : Unit := ()
def PySem.W.Fast.tw18278408757730250708 : Unit := ()
def PySem.W.Fast.tw17110725149329357558 : Unit := ()
def PySem.W.Fast.tw1159841629337555048 : Unit := ()
def PySem.W.Fast.tw17512781209147821427 : Unit := ()
def PySem.W.Fast.tw16766734751020456055 : Unit := ()
def PySem.W.Fast.tw1221475168359120665 : Unit := ()
def PySem.W.Fast.tw14604133793063060502 : Unit := ()
def PySem.W.Fast.tw17733469600453651831 : Unit := ()
def PySem.W.Fast.tw3672654731392388098 : Unit := ()
def PySem.W.Fast.tw49288769959580086 : Unit := ()
def PySem.W.Fast.tw9470729097725134413 : Unit := ()
def PySem.W.Fast.tw15197841631720946418 : Unit := ()
def PySem.W.Fast.tw11273207143150189814 : Unit := ()
def PySem.W.Fast.tw4343674367219053199 : Unit := ()
def PySem.W.Fast.tw3464909444014704235 : Unit := ()
def PySem.W.Fast.tw14969092838372337580 : Unit := ()
def PySem.W.Fast.tw12965735465691836544 : Unit := ()
def PySem.W.Fast.tw18424825315913598897 : Unit := ()
def PySem.W.Fast.tw2715319818794597250 : Unit := ()
def PySem.W.Fast.tw3004494447816663637 : Unit := ()
def PySem.W.Fast.tw12450200883050530123 : Unit := ()
def PySem.W.Fast.tw9005473545455711581 : Unit := ()
def PySem.W.Fast.tw6330539626917834570 : Unit := ()
def PySem.W.Fast.tw15313259611643756102 : Unit := ()
def PySem.W.Fast.tw17680022880040547565 : Unit := ()
def PySem.W.Fast.tw997695304487805982 : Unit := ()
def PySem.W.Fast.tw1039009272977768642 : Unit := ()
def PySem.W.Fast.tw8313279403274510651 : Unit := ()
def PySem.W.Fast.tw14814675788246466089 : Unit := ()
def PySem.W.Fast.tw7555563320736821188 : Unit := ()
def PySem.W.Fast.tw15917359136421242048 : Unit := ()
def PySem.W.Fast.tw2809715350191514926 : Unit := ()
def PySem.W.Fast.tw4033005420105515252 : Unit := ()
def PySem.W.Fast.tw16806538241709597448 : Unit := ()
def PySem.W.Fast.tw15368699557331520434 : Unit := ()
def PySem.W.Fast.tw17738856763202931235 : Unit := ()
def PySem.W.Fast.tw13723324934762156042 : Unit := ()
def PySem.W.Fast.tw1101785216478338238 : Unit := ()
def PySem.W.Fast.tw6029540440420728020 : Unit := ()
def PySem.W.Fast.tw7773971806770073603 : Unit := ()
def PySem.W.Fast.tw10364267615722426335 : Unit := ()
def PySem.W.Fast.tw18060795404723565701 : Unit := ()
def PySem.W.Fast.tw12175644545708697922 : Unit := ()
def PySem.W.Fast.tw12208954874042432871 : Unit := ()
def PySem.W.Fast.tw8613032129488027445 : Unit := ()
def PySem.W.Fast.tw2105247555594602369 : Unit := ()
def PySem.W.Fast.tw12612259181389333767 : Unit := ()
def PySem.W.Fast.tw17670206154529252960 : Unit := ()
def PySem.W.Fast.tw14537253737575850814 : Unit := ()
def PySem.W.Fast.tw7998872268668493815 : Unit := ()
def PySem.W.Fast.tw945663910462278403 : Unit := ()
def PySem.W.Fast.tw6135130459615437201 : Unit := ()
def PySem.W.Fast.tw17171199839961911420 : Unit := ()
def PySem.W.Fast.tw10845706601122985262 : Unit := ()
def PySem.W.Fast.tw11381882721170801865 : Unit := ()
def PySem.W.Fast.tw17007412434891723010 : Unit := ()
def PySem.W.Fast.tw17938555624038850901 : Unit := ()
def PySem.W.Fast.tw5752254292406663449 : Unit := ()
def PySem.W.Fast.tw11810038330764732040 : Unit := ()
def PySem.W.Fast.tw11367510356391789371 : Unit := ()
def PySem.W.Fast.tw12719024875550257522 : Unit := ()
def PySem.W.Fast.tw2344251942032542879 : Unit := ()
def PySem.W.Fast.tw1622584196489068313 : Unit := ()
def PySem.W.Fast.tw9968096508550601031 : Unit := ()
def PySem.W.Fast.tw13633781519330642680 : Unit := ()
def PySem.W.Fast.tw11546594669803335995 : Unit := ()
def PySem.W.Fast.tw7051154422719337571 : Unit := ()
def PySem.W.Fast.tw8679018670840512376 : Unit := ()
def PySem.W.Fast.tw8604018579584308426 : Unit := ()
def PySem.W.Fast.tw4104917689360355799 : Unit := ()
def PySem.W.Fast.tw17564378488603132948 : Unit := ()
def PySem.W.Fast.tw9823807963609847635 : Unit := ()
def PySem.W.Fast.tw14033626417269555994 : Unit := ()
def PySem.W.Fast.tw6928668195837590012 : Unit := ()
def PySem.W.Fast.tw7839383813651301787 : Unit := ()
def PySem.W.Fast.tw4517791015938607915 : Unit := ()
def PySem.W.Fast.tw1201517842720819194 : Unit := ()
def PySem.W.Fast.tw425071415164303128 : Unit := ()
def PySem.W.Fast.tw7329759021143405294 : Unit := ()
def PySem.W.Fast.tw17948188305608298564 : Unit := ()
def PySem.W.Fast.tw14646316923089998208 : Unit := ()
def PySem.W.Fast.tw15044439717959969683 : Unit := ()
def PySem.W.Fast.tw425445825515299782 : Unit := ()
def PySem.W.Fast.tw8612342413343495819 : Unit := ()
def PySem.W.Fast.tw16707406363957571505 : Unit := ()
def PySem.W.Fast.tw3803739758157457653 : Unit := ()
def PySem.W.Fast.tw1044812190290896692 : Unit := ()
def PySem.W.Fast.tw15526362731662261528 : Unit := ()
def PySem.W.Fast.tw12686848867423237741 : Unit := ()
def PySem.W.Fast.tw13269273661505753335 : Unit := ()
def PySem.W.Fast.tw5178784817566851893 : Unit := ()
def PySem.W.Fast.tw1983623184009245667 : Unit := ()
def PySem.W.Fast.tw2222570446904239733 : Unit := ()
def PySem.W.Fast.tw2432873233154827896 : Unit := ()
def PySem.W.Fast.tw17523933738809775950 : Unit := ()
def PySem.W.Fast.tw4630861836931426045 : Unit := ()
def PySem.W.Fast.tw16584370207802202389 : Unit := ()
def PySem.W.Fast.tw12653433657311392546 : Unit := ()
def PySem.W.Fast.tw14684724572887502768 : Unit := ()
def PySem.W.Fast.tw12896687984158747014 : Unit := ()
def PySem.W.Fast.tw6999606820402941054 : Unit := ()
def PySem.W.Fast.tw14820305702191715663 : Unit := ()
def PySem.W.Fast.tw12736230584469613597 : Unit := ()
def PySem.W.Fast.tw8546239937523609390 : Unit := ()
def PySem.W.Fast.tw2628235684241804149 : Unit := ()
def PySem.W.Fast.tw16676758858474458487 : Unit := ()
def PySem.W.Fast.tw12764115874151152780 : Unit := ()
def PySem.W.Fast.tw9212850013149209771 : Unit := ()
def PySem.W.Fast.tw17414012447795139817 : Unit := ()
def PySem.W.Fast.tw12639342009131217249 : Unit := ()
def PySem.W.Fast.tw18385639866951455261 : Unit := ()
def PySem.W.Fast.tw18403996151780601257 : Unit := ()
def PySem.W.Fast.tw5695818360743433059 : Unit := ()
def PySem.W.Fast.tw12405573008290333559 : Unit := ()
def PySem.W.Fast.tw10008895610707558814 : Unit := ()
def PySem.W.Fast.tw13033215898914552670 : Unit := ()
def PySem.W.Fast.tw311228629679892878 : Unit := ()
def PySem.W.Fast.tw14009981997265617456 : Unit := ()
def PySem.W.Fast.tw14396506087289831613 : Unit := ()
def PySem.W.Fast.tw17262607654309388443 : Unit := ()
def PySem.W.Fast.tw16940370182192094027 : Unit := ()
def PySem.W.Fast.tw1348745248281137702 : Unit := ()
def PySem.W.Fast.tw13945165358778581553 : Unit := ()
def PySem.W.Fast.tw2789880136813343512 : Unit := ()
def PySem.W.Fast.tw1830289246666709858 : Unit := ()
def PySem.W.Fast.tw10118269275705249610 : Unit := ()
def PySem.W.Fast.tw15865910253504614823 : Unit := ()
def PySem.W.Fast.tw11908429583930018091 : Unit := ()
def PySem.W.Fast.tw965790121491412218 : Unit := ()
def PySem.W.Fast.tw8132175683355646637 : Unit := ()
def PySem.W.Fast.tw15316118637365632896 : Unit := ()
def PySem.W.Fast.tw10218257581496944972 : Unit := ()
def PySem.W.Fast.tw4421516482177499248 : Unit := ()
def PySem.W.Fast.tw11220547712342032398 : Unit := ()
def PySem.W.Fast.tw988285235285838450 : Unit := ()
def PySem.W.Fast.tw3077163162198306712 : Unit := ()
def PySem.W.Fast.tw8944285025142428429 : Unit := ()
def PySem.W.Fast.tw1925449422132203747 : Unit := ()
def PySem.W.Fast.tw12629619469445664430 : Unit := ()
def PySem.W.Fast.tw16388882547811432886 : Unit := ()
def PySem.W.Fast.tw18419377991319881910 : Unit := ()
def PySem.W.Fast.tw5709411719875606189 : Unit := ()
def PySem.W.Fast.tw4905870561030735088 : Unit := ()
def PySem.W.Fast.tw15343256166572114109 : Unit := ()
def PySem.W.Fast.tw9487928977358336052 : Unit := ()
def PySem.W.Fast.tw9998720362440755806 : Unit := ()
def PySem.W.Fast.tw16915386510466120441 : Unit := ()
def PySem.W.Fast.tw1075373926184165088 : Unit := ()
def PySem.W.Fast.tw1638732015049462198 : Unit := ()
def PySem.W.Fast.tw12197189515358917145 : Unit := ()
def PySem.W.Fast.tw1194770367008641927 : Unit := ()
def PySem.W.Fast.tw10319384910024358482 : Unit := ()
def PySem.W.Fast.tw3496308516479731384 : Unit := ()
def PySem.W.Fast.tw16192481532081392494 : Unit := ()
def PySem.W.Fast.tw1191779375905349487 : Unit := ()
def PySem.W.Fast.tw1151601803383868107 : Unit := ()
def PySem.W.Fast.tw8506946366633184072 : Unit := ()
def PySem.W.Fast.tw12863865575971927484 : Unit := ()
def PySem.W.Fast.tw5067249734451129704 : Unit := ()
def PySem.W.Fast.tw2343734429347127006 : Unit := ()
def PySem.W.Fast.tw8443186048136921639 : Unit := ()
def PySem.W.Fast.tw11779801093628551203 : Unit := ()
def PySem.W.Fast.tw2781653007362916559 : Unit := ()
def PySem.W.Fast.tw5507678514580135304 : Unit := ()
def PySem.W.Fast.tw13651238356806474543 : Unit := ()
def PySem.W.Fast.tw15355234496939466868 : Unit := ()
def PySem.W.Fast.tw5056258778763820482 : Unit := ()
def PySem.W.Fast.tw2395374801269165622 : Unit := ()
def PySem.W.Fast.tw13675865282875025707 : Unit := ()
def PySem.W.Fast.tw581527975660536539 : Unit := ()
def PySem.W.Fast.tw10955744585474469171 : Unit := ()
def PySem.W.Fast.tw4666090191930104717 : Unit := ()
def PySem.W.Fast.tw1538017283069939145 : Unit := ()
def PySem.W.Fast.tw5803933556229748498 : Unit := ()
def PySem.W.Fast.tw9073488443727055677 : Unit := ()
def PySem.W.Fast.tw8307045457394779947 : Unit := ()
def PySem.W.Fast.tw11165748856760898467 : Unit := ()
def PySem.W.Fast.tw11452006393162295785 : Unit := ()
def PySem.W.Fast.tw12919206378141992587 : Unit := ()
def PySem.W.Fast.tw9661045942701284616 : Unit := ()
def PySem.W.Fast.tw16189045649753686301 : Unit := ()
def PySem.W.Fast.tw14468512477438924923 : Unit := ()
def PySem.W.Fast.tw17286589227466632885 : Unit := ()
def PySem.W.Fast.tw10379656194237352954 : Unit := ()
def PySem.W.Fast.tw10810261554166347973 : Unit := ()
def PySem.W.Fast.tw16190862660863340452 : Unit := ()
def PySem.W.Fast.tw10983404142029087918 : Unit := ()
def PySem.W.Fast.tw15140187160210760510 : Unit := ()
def PySem.W.Fast.tw5301251651002668067 : Unit := ()
def PySem.W.Fast.tw11112212420072772093 : Unit := ()
def PySem.W.Fast.tw15142354370754140390 : Unit := ()
def PySem.W.Fast.tw10180605422658686277 : Unit := ()
def PySem.W.Fast.tw1134504571390547684 : Unit := ()
def PySem.W.Fast.tw10679699376186457837 : Unit := ()
def PySem.W.Fast.tw16444741846728386660 : Unit := ()
def PySem.W.Fast.tw12706029780600846018 : Unit := ()
def PySem.W.Fast.tw13381346159389731856 : Unit := ()
def PySem.W.Fast.tw16491469798246829787 : Unit := ()
def PySem.W.Fast.tw7801445620530396427 : Unit := ()
def PySem.W.Fast.tw3907673577941879 : Unit := ()
def PySem.W.Fast.tw16394498963200748326 : Unit := ()
def PySem.W.Fast.tw17131445140295717 : Unit := ()
def PySem.W.Fast.tw8803575202080985259 : Unit := ()
def PySem.W.Fast.tw16056587861941336931 : Unit := ()
def PySem.W.Fast.tw4230936425252487763 : Unit := ()
def PySem.W.Fast.tw11273317339963221909 : Unit := ()
def PySem.W.Fast.tw997893457726875394 : Unit := ()
def PySem.W.Fast.tw8809339679857065521 : Unit := ()
def PySem.W.Fast.tw6813655994613209141 : Unit := ()
def PySem.W.Fast.tw13597655501151061113 : Unit := ()
def PySem.W.Fast.tw2273752577507937381 : Unit := ()
def PySem.W.Fast.tw15204389919384166161 : Unit := ()
def PySem.W.Fast.tw1712394503420201790 : Unit := ()
def PySem.W.Fast.tw2677271749491710669 : Unit := ()
def PySem.W.Fast.tw5909086945023850254 : Unit := ()
def PySem.W.Fast.tw10284154759038768655 : Unit := ()
def PySem.W.Fast.tw14874041753277486144 : Unit := ()
def PySem.W.Fast.tw10496496302711424512 : Unit := ()
def PySem.W.Fast.tw8827349162416087130 : Unit := ()
def PySem.W.Fast.tw18177260857694473100 : Unit := ()
def PySem.W.Fast.tw10790625558349235672 : Unit := ()
def PySem.W.Fast.tw3222059530553415484 : Unit := ()
def PySem.W.Fast.tw15393339777426030293 : Unit := ()
def PySem.W.Fast.tw12728289429921642874 : Unit := ()
def PySem.W.Fast.tw17516827435737332060 : Unit := ()
def PySem.W.Fast.tw126248827155380759 : Unit := ()
def PySem.W.Fast.tw2104198656813623673 : Unit := ()
def PySem.W.Fast.tw3267552694416511977 : Unit := ()
def PySem.W.Fast.tw13883766890281842646 : Unit := ()
def PySem.W.Fast.tw12246067672240030978 : Unit := ()
def PySem.W.Fast.tw3581549488178433620 : Unit := ()
def PySem.W.Fast.tw1352381940353564948 : Unit := ()
def PySem.W.Fast.tw6424050560570329207 : Unit := ()
def PySem.W.Fast.tw12095784349527205151 : Unit := ()
def PySem.W.Fast.tw16548481798655406089 : Unit := ()
def PySem.W.Fast.tw6799084913741374128 : Unit := ()
def PySem.W.Fast.tw11820017180552011727 : Unit := ()
def PySem.W.Fast.tw6271789538492605583 : Unit := ()
def PySem.W.Fast.tw9286301525084327593 : Unit := ()
def PySem.W.Fast.tw5752932215617483986 : Unit := ()
def PySem.W.Fast.tw15226256007877888236 : Unit := ()
def PySem.W.Fast.tw7245976689235060719 : Unit := ()
def PySem.W.Fast.tw13004447814750216684 : Unit := ()
def PySem.W.Fast.tw45822760290958157 : Unit := ()
def PySem.W.Fast.tw2342470201274334621 : Unit := ()
def PySem.W.Fast.tw5246676073154230232 : Unit := ()
def PySem.W.Fast.tw9825113004717992854 : Unit := ()
def PySem.W.Fast.tw4831071524279022898 : Unit := ()
def PySem.W.Fast.tw16898927406892443817 : Unit := ()
def PySem.W.Fast.tw10733616196900502328 : Unit := ()
def PySem.W.Fast.tw18359778734890712397 : Unit := ()
def PySem.W.Fast.tw10899675781861581515 : Unit := ()
def PySem.W.Fast.tw13149526428824916731 : Unit := ()
def PySem.W.Fast.tw5555192800132971407 : Unit := ()
def PySem.W.Fast.tw8229438911453843583 : Unit := ()
def PySem.W.Fast.tw9604393784469204951 : Unit := ()
def PySem.W.Fast.tw16438912643980280996 : Unit := ()
def PySem.W.Fast.tw13371056433816635579 : Unit := ()
def PySem.W.Fast.tw996246980445918771 : Unit := ()
def PySem.W.Fast.tw16492150527798388375 : Unit := ()
def PySem.W.Fast.tw6949409213281240573 : Unit := ()
def PySem.W.Fast.tw11859177600057093116 : Unit := ()
def PySem.W.Fast.tw9536271017882777178 : Unit := ()
def PySem.W.Fast.tw8614439591034186312 : Unit := ()
def PySem.W.Fast.tw1758408998590641613 : Unit := ()
def PySem.W.Fast.tw815828824802952394 : Unit := ()
def PySem.W.Fast.tw13043941471725292119 : Unit := ()
def PySem.W.Fast.tw10287926175984463824 : Unit := ()
def PySem.W.Fast.tw10483710530846667493 : Unit := ()
def PySem.W.Fast.tw5894531891373924230 : Unit := ()
def PySem.W.Fast.tw9026816177729998906 : Unit := ()
def PySem.W.Fast.tw2018792924257485993 : Unit := ()
def PySem.W.Fast.tw223303279540897272 : Unit := ()
def PySem.W.Fast.tw10078447714697177664 : Unit := ()
def PySem.W.Fast.tw14836585056930715156 : Unit := ()
def PySem.W.Fast.tw10810318647841481412 : Unit := ()
def PySem.W.Fast.tw17633897508750075778 : Unit := ()
def PySem.W.Fast.tw7932303225651457490 : Unit := ()
def PySem.W.Fast.tw16380495866158144580 : Unit := ()
def PySem.W.Fast.tw7150067655188024435 : Unit := ()
def PySem.W.Fast.tw18025069881495649032 : Unit := ()
def PySem.W.Fast.tw6718474575166311723 : Unit := ()
def PySem.W.Fast.tw16170634398306630364 : Unit := ()
def PySem.W.Fast.tw11237588962762727933 : Unit := ()

set_option Elab.async false
set_option linter.all false
open PySem PySem.W PyProof.Rows
set_option maxRecDepth 100000 in
set_option maxHeartbeats 0 in
theorem PySem.Challenge.cw_doorcardsdesk_s01_answers_holds : PySem.Challenge.rw_doorcardsdesk_s01_answers.Holds := by
  w_on; k_headS; (case hw => exact ⟨[.list [.int 10]], by decide +kernel, by decide +kernel⟩)
  k_fillS
  refine L2.walk_specK (r := PySem.Challenge.rw_doorcardsdesk_s01_answers) (k := 11) (CX := L2.CX0) (ps := ["calls"]) (sp := Dc.sp_answers) (by decide +kernel) rfl rfl ⟨rfl, by decide, by decide⟩ (fun w h Y => PySem.W.kIn_of Y) ?F ?S (fun _ _ _ _ z => z)
  case F =>
    intro w mg fa h Y KX G hmg
    refine' Dc.fn_then (x := "number_of") (st := Dc.s_number_of) KX G ?a ?l ?c ?k ?_; (case a => k_is); (case l => k_is); (case c => k_is); (case k => k_is)
    intro t_number_of
    refine' Dc.fn_then (x := "octets_of") (st := Dc.s_octets_of) KX G ?a ?l ?c ?k ?_; (case a => k_is); (case l => k_is); (case c => k_is); (case k => k_is)
    intro t_octets_of
    refine' Dc.fn_then (x := "turned") (st := Dc.s_turned) KX G ?a ?l ?c ?k ?_; (case a => k_is); (case l => k_is); (case c => k_is); (case k => k_is)
    intro t_turned
    refine' Dc.fn_then (x := "words_of") (st := Dc.s_words_of) KX G ?a ?l ?c ?k ?_; (case a => k_is); (case l => k_is); (case c => k_is); (case k => k_is)
    intro t_words_of
    refine' Dc.fn_then (x := "tag_of") (st := Dc.s_tag_of) KX G ?a ?l ?c ?k ?_; (case a => k_is); (case l => k_is); (case c => k_is); (case k => k_is)
    intro t_tag_of
    refine' Dc.fn_then (x := "card_octets") (st := Dc.s_card_octets) KX G ?a ?l ?c ?k ?_; (case a => k_is); (case l => k_is); (case c => k_is); (case k => k_is)
    intro t_card_octets
    refine' Dc.fn_then (x := "is_place_of_kind") (st := Dc.s_is_place_of_kind) KX G ?a ?l ?c ?k ?_; (case a => k_is); (case l => k_is); (case c => k_is); (case k => k_is)
    intro t_is_place_of_kind
    refine' Dc.fn_then (x := "read_card") (st := Dc.s_read_card) KX G ?a ?l ?c ?k ?_; (case a => k_is); (case l => k_is); (case c => k_is); (case k => k_is)
    intro t_read_card
    refine' Dc.fn_then (x := "is_day_from") (st := Dc.s_is_day_from) KX G ?a ?l ?c ?k ?_; (case a => k_is); (case l => k_is); (case c => k_is); (case k => k_is)
    intro t_is_day_from
    refine' Dc.fn_then (x := "bears_out") (st := Dc.s_bears_out) KX G ?a ?l ?c ?k ?_; (case a => k_is); (case l => k_is); (case c => k_is); (case k => k_is)
    intro t_bears_out
    refine' Dc.fn_then (x := "is_good") (st := Dc.s_is_good) KX G ?a ?l ?c ?k ?_; (case a => k_is); (case l => k_is); (case c => k_is); (case k => k_is)
    intro t_is_good
    refine' Dc.fn_then (x := "make_card") (st := Dc.s_make_card) KX G ?a ?l ?c ?k ?_; (case a => k_is); (case l => k_is); (case c => k_is); (case k => k_is)
    intro t_make_card
    refine' Dc.fn_then (x := "guest_card") (st := Dc.s_guest_card) KX G ?a ?l ?c ?k ?_; (case a => k_is); (case l => k_is); (case c => k_is); (case k => k_is)
    intro t_guest_card
    refine' Dc.fn_then (x := "no_more_cards") (st := Dc.s_no_more_cards) KX G ?a ?l ?c ?k ?_; (case a => k_is); (case l => k_is); (case c => k_is); (case k => k_is)
    intro t_no_more_cards
    refine' Dc.fn_then (x := "no_newer_card") (st := Dc.s_no_newer_card) KX G ?a ?l ?c ?k ?_; (case a => k_is); (case l => k_is); (case c => k_is); (case k => k_is)
    intro t_no_newer_card
    refine' Dc.fn_then (x := "add_room") (st := Dc.s_add_room) KX G ?a ?l ?c ?k ?_; (case a => k_is); (case l => k_is); (case c => k_is); (case k => k_is)
    intro t_add_room
    refine' Dc.fn_then (x := "set_day") (st := Dc.s_set_day) KX G ?a ?l ?c ?k ?_; (case a => k_is); (case l => k_is); (case c => k_is); (case k => k_is)
    intro t_set_day
    refine' Dc.fn_then (x := "come") (st := Dc.s_come) KX G ?a ?l ?c ?k ?_; (case a => k_is); (case l => k_is); (case c => k_is); (case k => k_is)
    intro t_come
    refine' Dc.fn_then (x := "copy_card") (st := Dc.s_copy_card) KX G ?a ?l ?c ?k ?_; (case a => k_is); (case l => k_is); (case c => k_is); (case k => k_is)
    intro t_copy_card
    refine' Dc.fn_then (x := "replace_lost") (st := Dc.s_replace_lost) KX G ?a ?l ?c ?k ?_; (case a => k_is); (case l => k_is); (case c => k_is); (case k => k_is)
    intro t_replace_lost
    refine' Dc.fn_then (x := "stay_longer") (st := Dc.s_stay_longer) KX G ?a ?l ?c ?k ?_; (case a => k_is); (case l => k_is); (case c => k_is); (case k => k_is)
    intro t_stay_longer
    refine' Dc.fn_then (x := "leave") (st := Dc.s_leave) KX G ?a ?l ?c ?k ?_; (case a => k_is); (case l => k_is); (case c => k_is); (case k => k_is)
    intro t_leave
    refine' Dc.fn_then (x := "shut_room") (st := Dc.s_shut_room) KX G ?a ?l ?c ?k ?_; (case a => k_is); (case l => k_is); (case c => k_is); (case k => k_is)
    intro t_shut_room
    refine' Dc.fn_then (x := "staff_card") (st := Dc.s_staff_card) KX G ?a ?l ?c ?k ?_; (case a => k_is); (case l => k_is); (case c => k_is); (case k => k_is)
    intro t_staff_card
    refine' Dc.fn_then (x := "recall_staff") (st := Dc.s_recall_staff) KX G ?a ?l ?c ?k ?_; (case a => k_is); (case l => k_is); (case c => k_is); (case k => k_is)
    intro t_recall_staff
    refine' Dc.fn_then (x := "emergency_card") (st := Dc.s_emergency_card) KX G ?a ?l ?c ?k ?_; (case a => k_is); (case l => k_is); (case c => k_is); (case k => k_is)
    intro t_emergency_card
    refine' Dc.fn_then (x := "tell_whose") (st := Dc.s_tell_whose) KX G ?a ?l ?c ?k ?_; (case a => k_is); (case l => k_is); (case c => k_is); (case k => k_is)
    intro t_tell_whose
    refine' Dc.fn_then (x := "tell_stay") (st := Dc.s_tell_stay) KX G ?a ?l ?c ?k ?_; (case a => k_is); (case l => k_is); (case c => k_is); (case k => k_is)
    intro t_tell_stay
    refine' Dc.fn_then (x := "tell_free") (st := Dc.s_tell_free) KX G ?a ?l ?c ?k ?_; (case a => k_is); (case l => k_is); (case c => k_is); (case k => k_is)
    intro t_tell_free
    refine' Dc.fn_then (x := "tell_desk") (st := Dc.s_tell_desk) KX G ?a ?l ?c ?k ?_; (case a => k_is); (case l => k_is); (case c => k_is); (case k => k_is)
    intro t_tell_desk
    refine' Dc.fn_then (x := "desk_answer") (st := Dc.s_desk_answer) KX G ?a ?l ?c ?k ?_; (case a => k_is); (case l => k_is); (case c => k_is); (case k => k_is)
    intro t_desk_answer
    refine' Dc.fn_then (x := "goes_by_room") (st := Dc.s_goes_by_room) KX G ?a ?l ?c ?k ?_; (case a => k_is); (case l => k_is); (case c => k_is); (case k => k_is)
    intro t_goes_by_room
    refine' Dc.fn_then (x := "is_for") (st := Dc.s_is_for) KX G ?a ?l ?c ?k ?_; (case a => k_is); (case l => k_is); (case c => k_is); (case k => k_is)
    intro t_is_for
    refine' Dc.fn_then (x := "learned_for") (st := Dc.s_learned_for) KX G ?a ?l ?c ?k ?_; (case a => k_is); (case l => k_is); (case c => k_is); (case k => k_is)
    intro t_learned_for
    refine' Dc.fn_then (x := "is_stopped_by_bolt") (st := Dc.s_is_stopped_by_bolt) KX G ?a ?l ?c ?k ?_; (case a => k_is); (case l => k_is); (case c => k_is); (case k => k_is)
    intro t_is_stopped_by_bolt
    refine' Dc.fn_then (x := "verdict") (st := Dc.s_verdict) KX G ?a ?l ?c ?k ?_; (case a => k_is); (case l => k_is); (case c => k_is); (case k => k_is)
    intro t_verdict
    refine' Dc.fn_then (x := "learn") (st := Dc.s_learn) KX G ?a ?l ?c ?k ?_; (case a => k_is); (case l => k_is); (case c => k_is); (case k => k_is)
    intro t_learn
    refine' Dc.fn_then (x := "show_card") (st := Dc.s_show_card) KX G ?a ?l ?c ?k ?_; (case a => k_is); (case l => k_is); (case c => k_is); (case k => k_is)
    intro t_show_card
    refine' Dc.fn_then (x := "hang") (st := Dc.s_hang) KX G ?a ?l ?c ?k ?_; (case a => k_is); (case l => k_is); (case c => k_is); (case k => k_is)
    intro t_hang
    refine' Dc.fn_then (x := "set_door_day") (st := Dc.s_set_door_day) KX G ?a ?l ?c ?k ?_; (case a => k_is); (case l => k_is); (case c => k_is); (case k => k_is)
    intro t_set_door_day
    refine' Dc.fn_then (x := "try_card") (st := Dc.s_try_card) KX G ?a ?l ?c ?k ?_; (case a => k_is); (case l => k_is); (case c => k_is); (case k => k_is)
    intro t_try_card
    refine' Dc.fn_then (x := "weigh_card") (st := Dc.s_weigh_card) KX G ?a ?l ?c ?k ?_; (case a => k_is); (case l => k_is); (case c => k_is); (case k => k_is)
    intro t_weigh_card
    refine' Dc.fn_then (x := "try_kept_card") (st := Dc.s_try_kept_card) KX G ?a ?l ?c ?k ?_; (case a => k_is); (case l => k_is); (case c => k_is); (case k => k_is)
    intro t_try_kept_card
    refine' Dc.fn_then (x := "tell_kept_card") (st := Dc.s_tell_kept_card) KX G ?a ?l ?c ?k ?_; (case a => k_is); (case l => k_is); (case c => k_is); (case k => k_is)
    intro t_tell_kept_card
    refine' Dc.fn_then (x := "set_bolt") (st := Dc.s_set_bolt) KX G ?a ?l ?c ?k ?_; (case a => k_is); (case l => k_is); (case c => k_is); (case k => k_is)
    intro t_set_bolt
    refine' Dc.fn_then (x := "tell_book") (st := Dc.s_tell_book) KX G ?a ?l ?c ?k ?_; (case a => k_is); (case l => k_is); (case c => k_is); (case k => k_is)
    intro t_tell_book
    refine' Dc.fn_then (x := "tell_door") (st := Dc.s_tell_door) KX G ?a ?l ?c ?k ?_; (case a => k_is); (case l => k_is); (case c => k_is); (case k => k_is)
    intro t_tell_door
    refine' Dc.fn_then (x := "set_day_everywhere") (st := Dc.s_set_day_everywhere) KX G ?a ?l ?c ?k ?_; (case a => k_is); (case l => k_is); (case c => k_is); (case k => k_is)
    intro t_set_day_everywhere
    refine' Dc.fn_then (x := "door_answer") (st := Dc.s_door_answer) KX G ?a ?l ?c ?k ?_; (case a => k_is); (case l => k_is); (case c => k_is); (case k => k_is)
    intro t_door_answer
    refine' Dc.fn_then (x := "take_given") (st := Dc.s_take_given) KX G ?a ?l ?c ?k ?_; (case a => k_is); (case l => k_is); (case c => k_is); (case k => k_is)
    intro t_take_given
    refine' Dc.fn_then (x := "begin") (st := Dc.s_begin) KX G ?a ?l ?c ?k ?_; (case a => k_is); (case l => k_is); (case c => k_is); (case k => k_is)
    intro t_begin
    refine' Dc.fn_then (x := "answer_to") (st := Dc.s_answer_to) KX G ?a ?l ?c ?k ?_; (case a => k_is); (case l => k_is); (case c => k_is); (case k => k_is)
    intro t_answer_to
    refine' Dc.fn_then (x := "answers") (st := Dc.s_answers) KX G ?a ?l ?c ?k ?_; (case a => k_is); (case l => k_is); (case c => k_is); (case k => k_is)
    intro t_answers
    refine' Dc.cl_then (x := "Mix") KX G ?a ?pg ?hd ?po ?sa ?mk ?i ?fn ?kc ?_; (case a => k_is); (case pg => k_is); (case hd => k_is); (case po => k_is); (case sa => k_is); (case mk => k_is); (case i => k_is); (case fn => k_is); (case kc => k_is)
    intro t_Mix
    refine' Dc.me_then (m := "__init__") (qual := "Mix.__init__") (st := Dc.s_Mix_init) t_Mix ?a ?i ?l ?c ?k ?_; (case a => k_is); (case i => k_is); (case l => k_is); (case c => k_is); (case k => k_is)
    intro t_Mix_init
    refine' Dc.me_then (m := "stir") (qual := "Mix.stir") (st := Dc.s_Mix_stir) t_Mix ?a ?i ?l ?c ?k ?_; (case a => k_is); (case i => k_is); (case l => k_is); (case c => k_is); (case k => k_is)
    intro t_Mix_stir
    refine' Dc.me_then (m := "take_in") (qual := "Mix.take_in") (st := Dc.s_Mix_take_in) t_Mix ?a ?i ?l ?c ?k ?_; (case a => k_is); (case i => k_is); (case l => k_is); (case c => k_is); (case k => k_is)
    intro t_Mix_take_in
    refine' Dc.me_then (m := "finish") (qual := "Mix.finish") (st := Dc.s_Mix_finish) t_Mix ?a ?i ?l ?c ?k ?_; (case a => k_is); (case i => k_is); (case l => k_is); (case c => k_is); (case k => k_is)
    intro t_Mix_finish
    refine' Dc.no_then (f := "a") t_Mix ?a ?_; (case a => k_is)
    intro t_Mix_no_a
    refine' Dc.no_then (f := "b") t_Mix ?a ?_; (case a => k_is)
    intro t_Mix_no_b
    refine' Dc.no_then (f := "c") t_Mix ?a ?_; (case a => k_is)
    intro t_Mix_no_c
    refine' Dc.no_then (f := "d") t_Mix ?a ?_; (case a => k_is)
    intro t_Mix_no_d
    refine' Dc.cl_then (x := "Card") KX G ?a ?pg ?hd ?po ?sa ?mk ?i ?fn ?kc ?_; (case a => k_is); (case pg => k_is); (case hd => k_is); (case po => k_is); (case sa => k_is); (case mk => k_is); (case i => k_is); (case fn => k_is); (case kc => k_is)
    intro t_Card
    refine' Dc.me_then (m := "__init__") (qual := "Card.__init__") (st := Dc.s_Card_init) t_Card ?a ?i ?l ?c ?k ?_; (case a => k_is); (case i => k_is); (case l => k_is); (case c => k_is); (case k => k_is)
    intro t_Card_init
    refine' Dc.no_then (f := "kind") t_Card ?a ?_; (case a => k_is)
    intro t_Card_no_kind
    refine' Dc.no_then (f := "place") t_Card ?a ?_; (case a => k_is)
    intro t_Card_no_place
    refine' Dc.no_then (f := "number") t_Card ?a ?_; (case a => k_is)
    intro t_Card_no_number
    refine' Dc.no_then (f := "last") t_Card ?a ?_; (case a => k_is)
    intro t_Card_no_last
    refine' Dc.no_then (f := "serial") t_Card ?a ?_; (case a => k_is)
    intro t_Card_no_serial
    refine' Dc.cl_then (x := "Room") KX G ?a ?pg ?hd ?po ?sa ?mk ?i ?fn ?kc ?_; (case a => k_is); (case pg => k_is); (case hd => k_is); (case po => k_is); (case sa => k_is); (case mk => k_is); (case i => k_is); (case fn => k_is); (case kc => k_is)
    intro t_Room
    refine' Dc.me_then (m := "__init__") (qual := "Room.__init__") (st := Dc.s_Room_init) t_Room ?a ?i ?l ?c ?k ?_; (case a => k_is); (case i => k_is); (case l => k_is); (case c => k_is); (case k => k_is)
    intro t_Room_init
    refine' Dc.no_then (f := "zone") t_Room ?a ?_; (case a => k_is)
    intro t_Room_no_zone
    refine' Dc.no_then (f := "number") t_Room ?a ?_; (case a => k_is)
    intro t_Room_no_number
    refine' Dc.no_then (f := "stay") t_Room ?a ?_; (case a => k_is)
    intro t_Room_no_stay
    refine' Dc.cl_then (x := "Desk") KX G ?a ?pg ?hd ?po ?sa ?mk ?i ?fn ?kc ?_; (case a => k_is); (case pg => k_is); (case hd => k_is); (case po => k_is); (case sa => k_is); (case mk => k_is); (case i => k_is); (case fn => k_is); (case kc => k_is)
    intro t_Desk
    refine' Dc.me_then (m := "__init__") (qual := "Desk.__init__") (st := Dc.s_Desk_init) t_Desk ?a ?i ?l ?c ?k ?_; (case a => k_is); (case i => k_is); (case l => k_is); (case c => k_is); (case k => k_is)
    intro t_Desk_init
    refine' Dc.no_then (f := "key") t_Desk ?a ?_; (case a => k_is)
    intro t_Desk_no_key
    refine' Dc.no_then (f := "day") t_Desk ?a ?_; (case a => k_is)
    intro t_Desk_no_day
    refine' Dc.no_then (f := "staff_round") t_Desk ?a ?_; (case a => k_is)
    intro t_Desk_no_staff_round
    refine' Dc.no_then (f := "serial") t_Desk ?a ?_; (case a => k_is)
    intro t_Desk_no_serial
    refine' Dc.no_then (f := "rooms") t_Desk ?a ?_; (case a => k_is)
    intro t_Desk_no_rooms
    refine' Dc.cl_then (x := "Door") KX G ?a ?pg ?hd ?po ?sa ?mk ?i ?fn ?kc ?_; (case a => k_is); (case pg => k_is); (case hd => k_is); (case po => k_is); (case sa => k_is); (case mk => k_is); (case i => k_is); (case fn => k_is); (case kc => k_is)
    intro t_Door
    refine' Dc.me_then (m := "__init__") (qual := "Door.__init__") (st := Dc.s_Door_init) t_Door ?a ?i ?l ?c ?k ?_; (case a => k_is); (case i => k_is); (case l => k_is); (case c => k_is); (case k => k_is)
    intro t_Door_init
    refine' Dc.no_then (f := "key") t_Door ?a ?_; (case a => k_is)
    intro t_Door_no_key
    refine' Dc.no_then (f := "room") t_Door ?a ?_; (case a => k_is)
    intro t_Door_no_room
    refine' Dc.no_then (f := "zone") t_Door ?a ?_; (case a => k_is)
    intro t_Door_no_zone
    refine' Dc.no_then (f := "day") t_Door ?a ?_; (case a => k_is)
    intro t_Door_no_day
    refine' Dc.no_then (f := "number") t_Door ?a ?_; (case a => k_is)
    intro t_Door_no_number
    refine' Dc.no_then (f := "staff_round") t_Door ?a ?_; (case a => k_is)
    intro t_Door_no_staff_round
    refine' Dc.no_then (f := "bolted") t_Door ?a ?_; (case a => k_is)
    intro t_Door_no_bolted
    refine' Dc.no_then (f := "book") t_Door ?a ?_; (case a => k_is)
    intro t_Door_no_book
    refine' Dc.cl_then (x := "House") KX G ?a ?pg ?hd ?po ?sa ?mk ?i ?fn ?kc ?_; (case a => k_is); (case pg => k_is); (case hd => k_is); (case po => k_is); (case sa => k_is); (case mk => k_is); (case i => k_is); (case fn => k_is); (case kc => k_is)
    intro t_House
    refine' Dc.me_then (m := "__init__") (qual := "House.__init__") (st := Dc.s_House_init) t_House ?a ?i ?l ?c ?k ?_; (case a => k_is); (case i => k_is); (case l => k_is); (case c => k_is); (case k => k_is)
    intro t_House_init
    refine' Dc.no_then (f := "desk") t_House ?a ?_; (case a => k_is)
    intro t_House_no_desk
    refine' Dc.no_then (f := "doors") t_House ?a ?_; (case a => k_is)
    intro t_House_no_doors
    refine' Dc.no_then (f := "cards") t_House ?a ?_; (case a => k_is)
    intro t_House_no_cards
    refine' Dc.cl_then (x := "Ground") KX G ?a ?pg ?hd ?po ?sa ?mk ?i ?fn ?kc ?_; (case a => k_is); (case pg => k_is); (case hd => k_is); (case po => k_is); (case sa => k_is); (case mk => k_is); (case i => k_is); (case fn => k_is); (case kc => k_is)
    intro t_Ground
    refine' Dc.me_then (m := "__init__") (qual := "Ground.__init__") (st := Dc.s_Ground_init) t_Ground ?a ?i ?l ?c ?k ?_; (case a => k_is); (case i => k_is); (case l => k_is); (case c => k_is); (case k => k_is)
    intro t_Ground_init
    refine' Dc.no_then (f := "house") t_Ground ?a ?_; (case a => k_is)
    intro t_Ground_no_house
    refine' Dc.cl_then (x := "Reader") KX G ?a ?pg ?hd ?po ?sa ?mk ?i ?fn ?kc ?_; (case a => k_is); (case pg => k_is); (case hd => k_is); (case po => k_is); (case sa => k_is); (case mk => k_is); (case i => k_is); (case fn => k_is); (case kc => k_is)
    intro t_Reader
    refine' Dc.me_then (m := "__init__") (qual := "Reader.__init__") (st := Dc.s_Reader_init) t_Reader ?a ?i ?l ?c ?k ?_; (case a => k_is); (case i => k_is); (case l => k_is); (case c => k_is); (case k => k_is)
    intro t_Reader_init
    refine' Dc.me_then (m := "has_more") (qual := "Reader.has_more") (st := Dc.s_Reader_has_more) t_Reader ?a ?i ?l ?c ?k ?_; (case a => k_is); (case i => k_is); (case l => k_is); (case c => k_is); (case k => k_is)
    intro t_Reader_has_more
    refine' Dc.me_then (m := "take_number") (qual := "Reader.take_number") (st := Dc.s_Reader_take_number) t_Reader ?a ?i ?l ?c ?k ?_; (case a => k_is); (case i => k_is); (case l => k_is); (case c => k_is); (case k => k_is)
    intro t_Reader_take_number
    refine' Dc.me_then (m := "take_row") (qual := "Reader.take_row") (st := Dc.s_Reader_take_row) t_Reader ?a ?i ?l ?c ?k ?_; (case a => k_is); (case i => k_is); (case l => k_is); (case c => k_is); (case k => k_is)
    intro t_Reader_take_row
    refine' Dc.no_then (f := "calls") t_Reader ?a ?_; (case a => k_is)
    intro t_Reader_no_calls
    refine' Dc.no_then (f := "at") t_Reader ?a ?_; (case a => k_is)
    intro t_Reader_no_at
    refine' Dc.co_then (x := "LARGEST") (n := 18446744073709551615) KX G ?a ?_; (case a => k_is)
    intro t_LARGEST
    refine' Dc.co_then (x := "GUEST") (n := 1) KX G ?a ?_; (case a => k_is)
    intro t_GUEST
    refine' Dc.co_then (x := "STAFF") (n := 2) KX G ?a ?_; (case a => k_is)
    intro t_STAFF
    refine' Dc.co_then (x := "SHUTTING") (n := 3) KX G ?a ?_; (case a => k_is)
    intro t_SHUTTING
    refine' Dc.co_then (x := "EMERGENCY") (n := 4) KX G ?a ?_; (case a => k_is)
    intro t_EMERGENCY
    refine' Dc.co_then (x := "MOST_ROOMS") (n := 64) KX G ?a ?_; (case a => k_is)
    intro t_MOST_ROOMS
    refine' Dc.co_then (x := "ALL_ZONES") (n := 255) KX G ?a ?_; (case a => k_is)
    intro t_ALL_ZONES
    refine' Dc.co_then (x := "EVERYWHERE") (n := 255) KX G ?a ?_; (case a => k_is)
    intro t_EVERYWHERE
    refine' Dc.co_then (x := "MOST") (n := 65535) KX G ?a ?_; (case a => k_is)
    intro t_MOST
    refine' Dc.co_then (x := "NO_ROOM") (n := -2) KX G ?a ?_; (case a => k_is)
    intro t_NO_ROOM
    refine' Dc.co_then (x := "NO_DOOR") (n := -2) KX G ?a ?_; (case a => k_is)
    intro t_NO_DOOR
    refine' Dc.co_then (x := "NO_STAY") (n := -6) KX G ?a ?_; (case a => k_is)
    intro t_NO_STAY
    refine' Dc.co_then (x := "NOT_KEPT") (n := -6) KX G ?a ?_; (case a => k_is)
    intro t_NOT_KEPT
    refine' Dc.co_then (x := "ELSEWHERE") (n := -13) KX G ?a ?_; (case a => k_is)
    intro t_ELSEWHERE
    refine' Dc.co_then (x := "HAS_STAY") (n := -15) KX G ?a ?_; (case a => k_is)
    intro t_HAS_STAY
    refine' Dc.co_then (x := "BOLTED") (n := -15) KX G ?a ?_; (case a => k_is)
    intro t_BOLTED
    refine' Dc.co_then (x := "HAS_DOOR") (n := -17) KX G ?a ?_; (case a => k_is)
    intro t_HAS_DOOR
    refine' Dc.co_then (x := "OLDER") (n := -17) KX G ?a ?_; (case a => k_is)
    intro t_OLDER
    refine' Dc.co_then (x := "WRONG") (n := -22) KX G ?a ?_; (case a => k_is)
    intro t_WRONG
    refine' Dc.co_then (x := "NO_MORE") (n := -28) KX G ?a ?_; (case a => k_is)
    intro t_NO_MORE
    refine' Dc.co_then (x := "DAY_OVER") (n := -34) KX G ?a ?_; (case a => k_is)
    intro t_DAY_OVER
    refine' Dc.co_then (x := "NO_HOUSE") (n := -61) KX G ?a ?_; (case a => k_is)
    intro t_NO_HOUSE
    refine' Dc.co_then (x := "NO_CARD") (n := -71) KX G ?a ?_; (case a => k_is)
    intro t_NO_CARD
    refine' Dc.co_then (x := "CARDS_KEPT") (n := 64) KX G ?a ?_; (case a => k_is)
    intro t_CARDS_KEPT
    refine' Dc.co_then (x := "LAST_ZONE") (n := 7) KX G ?a ?_; (case a => k_is)
    intro t_LAST_ZONE
    refine' Dc.co_then (x := "BOOK_KEPT") (n := 16) KX G ?a ?_; (case a => k_is)
    intro t_BOOK_KEPT
    refine' Dc.co_then (x := "MOST_DOORS") (n := 16) KX G ?a ?_; (case a => k_is)
    intro t_MOST_DOORS
    refine' Dc.co_then (x := "BEGIN") (n := 0) KX G ?a ?_; (case a => k_is)
    intro t_BEGIN
    refine' Dc.co_then (x := "FIRST_DOOR_CALL") (n := 16) KX G ?a ?_; (case a => k_is)
    intro t_FIRST_DOOR_CALL
    refine' Dc.co_then (x := "KEY_LENGTH") (n := 16) KX G ?a ?_; (case a => k_is)
    intro t_KEY_LENGTH
    refine' Dc.bl_then (x := "enumerate") KX G ?a ?_; (case a => k_is)
    intro b_enumerate
    refine' Dc.bl_then (x := "len") KX G ?a ?_; (case a => k_is)
    intro b_len
    refine' Dc.bl_then (x := "list") KX G ?a ?_; (case a => k_is)
    intro b_list
    refine' Dc.bl_then (x := "max") KX G ?a ?_; (case a => k_is)
    intro b_max
    refine' Dc.bl_then (x := "range") KX G ?a ?_; (case a => k_is)
    intro b_range
    refine' Dc.bl_then (x := "reversed") KX G ?a ?_; (case a => k_is)
    intro b_reversed
    refine' Dc.re_then (x := "CALLS_OF_A_ROOM") KX G ?a ?_; (case a => k_is)
    intro t_CALLS_OF_A_ROOM
    refine' Dc.tu_then (xs := [.int 3, .int 4, .int 5, .int 6, .int 7, .int 8, .int 13]) KX t_CALLS_OF_A_ROOM ?l ?z ?v ?_; (case l => k_is); (case z => decide); (case v => exact .cons ⟨_, rfl⟩ (.cons ⟨_, rfl⟩ (.cons ⟨_, rfl⟩ (.cons ⟨_, rfl⟩ (.cons ⟨_, rfl⟩ (.cons ⟨_, rfl⟩ (.cons ⟨_, rfl⟩ (.nil))))))))
    intro q_CALLS_OF_A_ROOM
    refine' Dc.re_then (x := "DESK_CALLS") KX G ?a ?_; (case a => k_is)
    intro t_DESK_CALLS
    refine' Dc.di_then (kvs := [(1, Dc.adr t_add_room), (2, Dc.adr t_set_day), (3, Dc.adr t_come), (4, Dc.adr t_copy_card), (5, Dc.adr t_replace_lost), (6, Dc.adr t_stay_longer), (7, Dc.adr t_leave), (8, Dc.adr t_shut_room), (9, Dc.adr t_staff_card), (10, Dc.adr t_recall_staff), (11, Dc.adr t_emergency_card), (12, Dc.adr t_tell_whose), (13, Dc.adr t_tell_stay), (14, Dc.adr t_tell_free), (15, Dc.adr t_tell_desk)]) KX t_DESK_CALLS ?l ?d ?_; (case l => k_is); (case d => exact ⟨⟨_, rfl⟩, rfl, rfl, ⟨⟨_, rfl⟩, rfl, rfl, ⟨⟨_, rfl⟩, rfl, rfl, ⟨⟨_, rfl⟩, rfl, rfl, ⟨⟨_, rfl⟩, rfl, rfl, ⟨⟨_, rfl⟩, rfl, rfl, ⟨⟨_, rfl⟩, rfl, rfl, ⟨⟨_, rfl⟩, rfl, rfl, ⟨⟨_, rfl⟩, rfl, rfl, ⟨⟨_, rfl⟩, rfl, rfl, ⟨⟨_, rfl⟩, rfl, rfl, ⟨⟨_, rfl⟩, rfl, rfl, ⟨⟨_, rfl⟩, rfl, rfl, ⟨⟨_, rfl⟩, rfl, rfl, ⟨⟨_, rfl⟩, rfl, rfl, trivial⟩⟩⟩⟩⟩⟩⟩⟩⟩⟩⟩⟩⟩⟩⟩)
    intro q_DESK_CALLS
    refine' Dc.re_then (x := "CALLS_OF_A_DOOR") KX G ?a ?_; (case a => k_is)
    intro t_CALLS_OF_A_DOOR
    refine' Dc.tu_then (xs := [.int 17, .int 18, .int 19, .int 20, .int 22, .int 23, .int 24]) KX t_CALLS_OF_A_DOOR ?l ?z ?v ?_; (case l => k_is); (case z => decide); (case v => exact .cons ⟨_, rfl⟩ (.cons ⟨_, rfl⟩ (.cons ⟨_, rfl⟩ (.cons ⟨_, rfl⟩ (.cons ⟨_, rfl⟩ (.cons ⟨_, rfl⟩ (.cons ⟨_, rfl⟩ (.nil))))))))
    intro q_CALLS_OF_A_DOOR
    refine' Dc.re_then (x := "DOOR_CALLS") KX G ?a ?_; (case a => k_is)
    intro t_DOOR_CALLS
    refine' Dc.di_then (kvs := [(16, Dc.adr t_hang), (17, Dc.adr t_set_door_day), (18, Dc.adr t_try_card), (19, Dc.adr t_weigh_card), (20, Dc.adr t_try_kept_card), (21, Dc.adr t_tell_kept_card), (22, Dc.adr t_set_bolt), (23, Dc.adr t_tell_book), (24, Dc.adr t_tell_door), (25, Dc.adr t_set_day_everywhere)]) KX t_DOOR_CALLS ?l ?d ?_; (case l => k_is); (case d => exact ⟨⟨_, rfl⟩, rfl, rfl, ⟨⟨_, rfl⟩, rfl, rfl, ⟨⟨_, rfl⟩, rfl, rfl, ⟨⟨_, rfl⟩, rfl, rfl, ⟨⟨_, rfl⟩, rfl, rfl, ⟨⟨_, rfl⟩, rfl, rfl, ⟨⟨_, rfl⟩, rfl, rfl, ⟨⟨_, rfl⟩, rfl, rfl, ⟨⟨_, rfl⟩, rfl, rfl, ⟨⟨_, rfl⟩, rfl, rfl, trivial⟩⟩⟩⟩⟩⟩⟩⟩⟩⟩)
    intro q_DOOR_CALLS
    refine' Dc.re_then (x := "LAYOUT") KX G ?a ?_; (case a => k_is)
    intro t_LAYOUT
    refine' Dc.ts_LAYOUT KX t_LAYOUT ?o ?v0 ?v1 ?v2 ?v3 ?v4 ?v5 ?v6 ?v7 ?v8 ?v9 ?v10 ?v11 ?v12 ?v13 ?v14 ?v15 ?v16 ?v17 ?v18 ?v19 ?v20 ?v21 ?v22 ?v23 ?v24 ?v25 ?_
    (case o => k_is)
    (case v0 => refine' Dc.tu_mk ?l ?z ?v; (case l => k_is); (case z => decide); (case v => exact .cons ⟨_, rfl⟩ (.cons ⟨_, rfl⟩ .nil)))
    (case v1 => refine' Dc.tu_mk ?l ?z ?v; (case l => k_is); (case z => decide); (case v => exact .cons ⟨_, rfl⟩ (.cons ⟨_, rfl⟩ .nil)))
    (case v2 => refine' Dc.tu_mk ?l ?z ?v; (case l => k_is); (case z => decide); (case v => exact .cons ⟨_, rfl⟩ (.cons ⟨_, rfl⟩ .nil)))
    (case v3 => refine' Dc.tu_mk ?l ?z ?v; (case l => k_is); (case z => decide); (case v => exact .cons ⟨_, rfl⟩ (.cons ⟨_, rfl⟩ .nil)))
    (case v4 => refine' Dc.tu_mk ?l ?z ?v; (case l => k_is); (case z => decide); (case v => exact .cons ⟨_, rfl⟩ (.cons ⟨_, rfl⟩ .nil)))
    (case v5 => refine' Dc.tu_mk ?l ?z ?v; (case l => k_is); (case z => decide); (case v => exact .cons ⟨_, rfl⟩ (.cons ⟨_, rfl⟩ .nil)))
    (case v6 => refine' Dc.tu_mk ?l ?z ?v; (case l => k_is); (case z => decide); (case v => exact .cons ⟨_, rfl⟩ (.cons ⟨_, rfl⟩ .nil)))
    (case v7 => refine' Dc.tu_mk ?l ?z ?v; (case l => k_is); (case z => decide); (case v => exact .cons ⟨_, rfl⟩ (.cons ⟨_, rfl⟩ .nil)))
    (case v8 => refine' Dc.tu_mk ?l ?z ?v; (case l => k_is); (case z => decide); (case v => exact .cons ⟨_, rfl⟩ (.cons ⟨_, rfl⟩ .nil)))
    (case v9 => refine' Dc.tu_mk ?l ?z ?v; (case l => k_is); (case z => decide); (case v => exact .cons ⟨_, rfl⟩ (.cons ⟨_, rfl⟩ .nil)))
    (case v10 => refine' Dc.tu_mk ?l ?z ?v; (case l => k_is); (case z => decide); (case v => exact .cons ⟨_, rfl⟩ (.cons ⟨_, rfl⟩ .nil)))
    (case v11 => refine' Dc.tu_mk ?l ?z ?v; (case l => k_is); (case z => decide); (case v => exact .cons ⟨_, rfl⟩ (.cons ⟨_, rfl⟩ .nil)))
    (case v12 => refine' Dc.tu_mk ?l ?z ?v; (case l => k_is); (case z => decide); (case v => exact .cons ⟨_, rfl⟩ (.cons ⟨_, rfl⟩ .nil)))
    (case v13 => refine' Dc.tu_mk ?l ?z ?v; (case l => k_is); (case z => decide); (case v => exact .cons ⟨_, rfl⟩ (.cons ⟨_, rfl⟩ .nil)))
    (case v14 => refine' Dc.tu_mk ?l ?z ?v; (case l => k_is); (case z => decide); (case v => exact .cons ⟨_, rfl⟩ (.cons ⟨_, rfl⟩ .nil)))
    (case v15 => refine' Dc.tu_mk ?l ?z ?v; (case l => k_is); (case z => decide); (case v => exact .cons ⟨_, rfl⟩ (.cons ⟨_, rfl⟩ .nil)))
    (case v16 => refine' Dc.tu_mk ?l ?z ?v; (case l => k_is); (case z => decide); (case v => exact .cons ⟨_, rfl⟩ (.cons ⟨_, rfl⟩ .nil)))
    (case v17 => refine' Dc.tu_mk ?l ?z ?v; (case l => k_is); (case z => decide); (case v => exact .cons ⟨_, rfl⟩ (.cons ⟨_, rfl⟩ .nil)))
    (case v18 => refine' Dc.tu_mk ?l ?z ?v; (case l => k_is); (case z => decide); (case v => exact .cons ⟨_, rfl⟩ (.cons ⟨_, rfl⟩ .nil)))
    (case v19 => refine' Dc.tu_mk ?l ?z ?v; (case l => k_is); (case z => decide); (case v => exact .cons ⟨_, rfl⟩ (.cons ⟨_, rfl⟩ .nil)))
    (case v20 => refine' Dc.tu_mk ?l ?z ?v; (case l => k_is); (case z => decide); (case v => exact .cons ⟨_, rfl⟩ (.cons ⟨_, rfl⟩ .nil)))
    (case v21 => refine' Dc.tu_mk ?l ?z ?v; (case l => k_is); (case z => decide); (case v => exact .cons ⟨_, rfl⟩ (.cons ⟨_, rfl⟩ .nil)))
    (case v22 => refine' Dc.tu_mk ?l ?z ?v; (case l => k_is); (case z => decide); (case v => exact .cons ⟨_, rfl⟩ (.cons ⟨_, rfl⟩ .nil)))
    (case v23 => refine' Dc.tu_mk ?l ?z ?v; (case l => k_is); (case z => decide); (case v => exact .cons ⟨_, rfl⟩ (.cons ⟨_, rfl⟩ .nil)))
    (case v24 => refine' Dc.tu_mk ?l ?z ?v; (case l => k_is); (case z => decide); (case v => exact .cons ⟨_, rfl⟩ (.cons ⟨_, rfl⟩ .nil)))
    (case v25 => refine' Dc.tu_mk ?l ?z ?v; (case l => k_is); (case z => decide); (case v => exact .cons ⟨_, rfl⟩ (.cons ⟨_, rfl⟩ .nil)))
    intro q_LAYOUT
    have T : Dc.Txt _ mg ⟨_, _, _, _, _, _, _, _, _, _, _, _, _, _, _, _, _, _, _, _, _, _, _, _, _, _, _, _, _, _, _, _, _, _, _, _, _, _, _, _, _, _, _, _, _, _, _, _, _, _, _, _, _, _, _, _, _, _, _, _, _, _, _, _, _, _, _, _, _, _, _, _, _, _, _, _, _, _, _, _⟩ := ⟨t_number_of, t_octets_of, t_turned, t_words_of, t_tag_of, t_card_octets, t_is_place_of_kind, t_read_card, t_is_day_from, t_bears_out, t_is_good, t_make_card, t_guest_card, t_no_more_cards, t_no_newer_card, t_add_room, t_set_day, t_come, t_copy_card, t_replace_lost, t_stay_longer, t_leave, t_shut_room, t_staff_card, t_recall_staff, t_emergency_card, t_tell_whose, t_tell_stay, t_tell_free, t_tell_desk, t_desk_answer, t_goes_by_room, t_is_for, t_learned_for, t_is_stopped_by_bolt, t_verdict, t_learn, t_show_card, t_hang, t_set_door_day, t_try_card, t_weigh_card, t_try_kept_card, t_tell_kept_card, t_set_bolt, t_tell_book, t_tell_door, t_set_day_everywhere, t_door_answer, t_take_given, t_begin, t_answer_to, t_answers, t_Mix, t_Mix_init, t_Mix_stir, t_Mix_take_in, t_Mix_finish, t_Mix_no_a, t_Mix_no_b, t_Mix_no_c, t_Mix_no_d, t_Card, t_Card_init, t_Card_no_kind, t_Card_no_place, t_Card_no_number, t_Card_no_last, t_Card_no_serial, t_Room, t_Room_init, t_Room_no_zone, t_Room_no_number, t_Room_no_stay, t_Desk, t_Desk_init, t_Desk_no_key, t_Desk_no_day, t_Desk_no_staff_round, t_Desk_no_serial, t_Desk_no_rooms, t_Door, t_Door_init, t_Door_no_key, t_Door_no_room, t_Door_no_zone, t_Door_no_day, t_Door_no_number, t_Door_no_staff_round, t_Door_no_bolted, t_Door_no_book, t_House, t_House_init, t_House_no_desk, t_House_no_doors, t_House_no_cards, t_Ground, t_Ground_init, t_Ground_no_house, t_Reader, t_Reader_init, t_Reader_has_more, t_Reader_take_number, t_Reader_take_row, t_Reader_no_calls, t_Reader_no_at, t_LARGEST, t_GUEST, t_STAFF, t_SHUTTING, t_EMERGENCY, t_MOST_ROOMS, t_ALL_ZONES, t_EVERYWHERE, t_MOST, t_NO_ROOM, t_NO_DOOR, t_NO_STAY, t_NOT_KEPT, t_ELSEWHERE, t_HAS_STAY, t_BOLTED, t_HAS_DOOR, t_OLDER, t_WRONG, t_NO_MORE, t_DAY_OVER, t_NO_HOUSE, t_NO_CARD, t_CARDS_KEPT, t_LAST_ZONE, t_BOOK_KEPT, t_MOST_DOORS, t_BEGIN, t_FIRST_DOOR_CALL, t_KEY_LENGTH, b_enumerate, b_len, b_list, b_max, b_range, b_reversed, t_CALLS_OF_A_ROOM, q_CALLS_OF_A_ROOM, t_DESK_CALLS, q_DESK_CALLS, t_CALLS_OF_A_DOOR, q_CALLS_OF_A_DOOR, t_DOOR_CALLS, q_DOOR_CALLS, t_LAYOUT, q_LAYOUT⟩
    obtain ⟨fd, Fn⟩ := T.t_answers.fn
    have e := hmg.symm.trans T.t_answers.mg
    cases e
    have Fx := Fn.ex
    obtain ⟨oc, od, kV, doc, pm, an, cdv, ct, osl, rfl, lk, hcd⟩ := Fx
    exact ⟨_, fun s us hu => match us, hu with | [_], _ => .of_eq rfl, fun base _ _ => Dc.fn_answers Fn T⟩
  case S =>
    intro K H xs a hO hwi hask hx
    cases hx with
    | cons h1 h2 =>
      cases h2
      cases h1 with
      | lst hs ha =>
        have e := L2.ints_dw a.1 _ ha
        subst e
        have q : ((Codec.inLen 0 30000 a.1 && a.1.all (Codec.inInt 0 4294967295)) && true) = true := hwi
        rw [Bool.and_eq_true, Bool.and_eq_true] at q
        have hp : ∀ x ∈ a.1, 0 ≤ x := fun x hx => by
          have := List.all_eq_true.mp q.1.2 x hx
          unfold Codec.inInt at this
          simp at this
          exact this.1
        have ez := Dc.zs_of hp
        rw [ez] at hs
        refine ⟨_, a.1.map Int.toNat, rfl, ?_, ?_, fun H' p hp' => ?_⟩
        · rw [Dc.vn_zs]
          exact hs
        · rw [← ez]
          exact hask
        · rw [← ez] at hp'
          exact .lst (L2.SqL.of hp') (L2.dw_ints _)
#print axioms PySem.Challenge.cw_doorcardsdesk_s01_answers_holds
