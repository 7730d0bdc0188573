import PyProof.Rows.All
import Wide.All
import OpenK.AllK
import Wide.FinOn
import PyProof.EqAt
import PyProof.EqKinds
import PyProof.TupleCall
import KE.BitLaws
import Open.SpecLaws
import KE.OsHead
import KE.OsGo
import KE.KTryMore
import KE.KLooksOwn
import PyProof.RulesAs
import PyProof.RulesDel
import PyProof.ExcBaseAll.Exception
import PyProof.InstStoreFacts
import PyProof.ExcArgs
import PyProof.ExcAttrAll.Exception
import PyProof.Draws
import PyProof.NeKinds
import PySem.Challenge.RW_wallbonds_s04_where
section
set_option Elab.async false
set_option linter.all false
set_option maxRecDepth 100000
/-! THE HAND LAYER, for ints, bools, texts, own classes, lists, tuples, dicts, comprehensions, walks over dicts, enumerate, zip, reversed, texts, calls, loops. Paste it whole ahead of your own text; what your proof does not reach may be deleted. -/
namespace L2
open PySem PySem.Spec PyProof.Rows

/-- a key: an int or a str -/
abbrev Key := Sum Int Str
def keyIs : Key → Value → Bool
  | .inl k, v => Value.isInt k v
  | .inr x, v => Value.isStrOf x v
def keyH (w : World) : Key → Int
  | .inl k => hashInt k
  | .inr x => hashStr w x
theorem keyIs_shape : ∀ {k : Key} {v : Value}, keyIs k v = true → (∃ i t, k = Sum.inl i ∧ v = Value.int i t) ∨ (∃ x t, k = Sum.inr x ∧ v = Value.str x t)
  | .inl i, v, h => by
    obtain ⟨t, e⟩ := Value.isInt_shape (k := i) (v := v) h
    exact .inl ⟨i, t, rfl, e⟩
  | .inr x, v, h => by
    obtain ⟨t, e⟩ := Value.isStrOf_shape (x := x) (v := v) h
    exact .inr ⟨x, t, rfl, e⟩
theorem key_ll (a b : Int) : decide ((Sum.inl a : Key) = Sum.inl b) = (a == b) := by
  by_cases e : a = b
  · subst e; simp
  · have h : ¬ (Sum.inl a : Key) = Sum.inl b := fun q => e (Sum.inl.inj q)
    rw [decide_eq_false h]
    exact (beq_eq_false_iff_ne.mpr e).symm
theorem key_rr (a b : Str) : decide ((Sum.inr a : Key) = Sum.inr b) = decide (a = b) := by
  by_cases e : a = b
  · subst e; simp
  · have h : ¬ (Sum.inr a : Key) = Sum.inr b := fun q => e (Sum.inr.inj q)
    rw [decide_eq_false h, decide_eq_false e]
theorem key_lr (a : Int) (b : Str) : decide ((Sum.inl a : Key) = Sum.inr b) = false := decide_eq_false (fun q => nomatch q)
theorem key_rl (a : Str) (b : Int) : decide ((Sum.inr a : Key) = Sum.inl b) = false := decide_eq_false (fun q => nomatch q)

def mixKind (prog : Program) (w : World) : PySem.KeyKind prog w Key where
  is := keyIs
  hash := keyH w
  inj := fun v a b ha hb => by
    rcases keyIs_shape ha with ⟨i, t, rfl, rfl⟩ | ⟨x, t, rfl, rfl⟩
    · rcases keyIs_shape hb with ⟨j, u, rfl, e⟩ | ⟨y, u, rfl, e⟩
      · injection e with e1 _; rw [e1]
      · exact nomatch e
    · rcases keyIs_shape hb with ⟨j, u, rfl, e⟩ | ⟨y, u, rfl, e⟩
      · exact nomatch e
      · injection e with e1 _; rw [e1]
  byValue := fun k v h => by
    rcases keyIs_shape h with ⟨i, t, rfl, rfl⟩ | ⟨x, t, rfl, rfl⟩ <;> rfl
  pyHash := fun hv h => by
    rcases keyIs_shape hv with ⟨i, t, rfl, rfl⟩ | ⟨x, t, rfl, rfl⟩
    · exact wpAny_pyHash_int h
    · exact wpAny_pyHash_str h
  eqBool := fun hu hv h => by
    rcases keyIs_shape hu with ⟨i, t, rfl, rfl⟩ | ⟨x, t, rfl, rfl⟩
    · rcases keyIs_shape hv with ⟨j, u, rfl, rfl⟩ | ⟨y, u, rfl, rfl⟩
      · rw [key_ll] at h; exact wpAny_eqBool_int h
      · rw [key_lr] at h; exact SeqAt.EqAt.int_str i t y u _ _ _ _ h
    · rcases keyIs_shape hv with ⟨j, u, rfl, rfl⟩ | ⟨y, u, rfl, rfl⟩
      · rw [key_rl] at h; exact SeqAt.EqAt.str_int x t j u _ _ _ _ h
      · rw [key_rr] at h; exact wpAny_eqBool_str h
  «strs» := fun k x t v h => by
    rcases keyIs_shape h with ⟨i, u, rfl, e⟩ | ⟨y, u, rfl, e⟩
    · exact nomatch e
    · injection e with e1 _
      subst e1
      cases v <;> rfl

end L2

namespace L2
open PySem PySem.Spec PyProof.Rows

/-- a value, without the heap -/
inductive V where
  | non | bl (b : Bool) | int (i : Int) | str (x : Str) | byt (b : Array UInt8) | flt (b : UInt64) | ref (a : Addr) | ty (n : String)
  deriving DecidableEq

def RelV : V → Value → Prop
  | .non, u => u = Value.none
  | .bl b, u => u = Value.bool b
  | .int i, u => ∃ t, u = Value.int i t
  | .str x, u => ∃ t, u = Value.str x t
  | .byt b, u => ∃ t, u = Value.bytes b t
  | .flt b, u => ∃ t, u = Value.float b t
  | .ref a, u => u = Value.ref a
  | .ty n, u => u = Value.type n

abbrev Vals : List V → List Value → Prop := Paired RelV
theorem Vals.length {xs : List V} {us : List Value} (r : Vals xs us) : xs.length = us.length := Paired.length r
theorem Vals.get : ∀ {xs : List V} {us : List Value} {i : Nat} {x : V}, Vals xs us → xs[i]? = some x → ∃ u, us[i]? = some u ∧ RelV x u
  | _, _, _, _, .nil, e => by simp at e
  | _, _, 0, _, .cons r _, e => by simp at e; subst e; exact ⟨_, rfl, r⟩
  | _, _, i + 1, x, .cons _ t, e => by
    obtain ⟨u, h1, h2⟩ := Vals.get (i := i) (x := x) t (by simpa using e)
    exact ⟨u, by simpa using h1, h2⟩
theorem Vals.append : ∀ {xs ys : List V} {us ws : List Value}, Vals xs us → Vals ys ws → Vals (xs ++ ys) (us ++ ws)
  | _, _, _, _, .nil, s => s
  | _, _, _, _, .cons r t, s => .cons r (Vals.append t s)
theorem Vals.take : ∀ {xs : List V} {us : List Value} (n : Nat), Vals xs us → Vals (xs.take n) (us.take n)
  | _, _, 0, _ => .nil
  | _, _, _ + 1, .nil => .nil
  | _, _, n + 1, .cons r t => .cons r (Vals.take n t)
theorem Vals.drop : ∀ {xs : List V} {us : List Value} (n : Nat), Vals xs us → Vals (xs.drop n) (us.drop n)
  | _, _, 0, r => r
  | _, _, _ + 1, .nil => .nil
  | _, _, n + 1, .cons _ t => Vals.drop n t
def RelO : Option V → Option Value → Prop
  | some v, some u => RelV v u
  | none, none => True
  | _, _ => False
def KV {κ : Type} : List (κ × V) → List (κ × Value) → Prop := Paired fun (p : κ × V) (q : κ × Value) => p.1 = q.1 ∧ RelV p.2 q.2

/-- a key of a dict (00_mix): an int or a text -/
def kV : Key → V
  | .inl i => .int i
  | .inr x => .str x

/-- what stands at a tracked address -/
inductive HO where
  /-- a list -/
  | lst (xs : List V)
  /-- a tuple (never changes) -/
  | tup (xs : List V)
  /-- a dict whose keys are ints and texts; one whose keys are tuples of ints and texts (the empty one is both) -/
  | dK (kvs : List (Key × V)) | dT (kvs : List (List Key × V))
  /-- a set of ints: its members, its size -/
  | set (S : Int → Bool) (n : Nat)
  /-- an instance of the class at C, its dict at dx, its attributes -/
  | ins (C dx : Addr) (fs : List (Str × V))
  /-- the dict of the instance at x -/
  | own (x : Addr)
  /-- the dict of an exception -/
  | xd (fs : List (Str × V))
  /-- a bound method, f of x -/
  | met (f x : Addr)
  /-- a range object lo, lo + 1, .. below hi -/
  | rng (lo hi : Int)
  /-- a thing that is known to the object (the script; a dict while a loop walks it): read, never written while it is so -/
  | frz (o : Obj) (u : HO)
  /-- a code object's table -/
  | tbl (ps : Array Value)
  /-- any other thing, by what is true of its one object (a def of one's own: SetO a S n := HO.ext fun h => ..) -/
  | ext (φ : Heap → Prop)

abbrev Hp := Addr → Option HO
def upd (H : Hp) (a : Addr) (o : HO) : Hp := fun b => if b = a then some o else H b
theorem upd_same {H : Hp} {a : Addr} {o : HO} : upd H a o a = some o := by unfold upd; rw [if_pos rfl]
theorem upd_ne {H : Hp} {a b : Addr} {o : HO} (h : b ≠ a) : upd H a o b = H b := by unfold upd; rw [if_neg h]
theorem upd_upd {H : Hp} {a : Addr} {o u : HO} : upd (upd H a o) a u = upd H a u := by
  funext b; unfold upd; split <;> rfl
/-- two objects of different content stand apart -/
theorem ne_of {H : Hp} {a b : Addr} {o u : HO} (h : H a = some o) (h' : H b = some u) (d : o ≠ u) : a ≠ b := by
  intro e; subst e; rw [h] at h'; exact d (Option.some.inj h')
theorem ne_of_none {H : Hp} {a b : Addr} {o : HO} (h : H a = some o) (h' : H b = none) : a ≠ b := by
  intro e; subst e; rw [h] at h'; cases h'

section
variable (P : Program) (w : World)
def ObjOk (H : Hp) (h : Heap) (a : Addr) : HO → Prop
  | .lst xs => xs.length ≤ sizeLine ∧ ∃ (its : List Value) (n : Nat), Vals xs its ∧ h.get? a = some { cls := .type "list", data := .seq its.toArray n }
  | .tup xs => xs.length ≤ sizeLine ∧ ∃ its : List Value, Vals xs its ∧ IsTup h a its.toArray
  | .dK kvs => kvs.length ≤ sizeLine ∧ (a == sysModules) = false ∧ ∃ vs, KV kvs vs ∧ h.DictOf (mixKind P w) a vs
  | .dT kvs => kvs.length ≤ sizeLine ∧ (a == sysModules) = false ∧ ∃ xs : List (List Key × Addr × Value),
      Paired (fun (p : List Key × V) (q : List Key × Addr × Value) => p.1 = q.1 ∧ H q.2.1 = some (.tup (p.1.map kV)) ∧ RelV p.2 q.2.2) kvs xs ∧
      ∃ o es ep, h.get? a = some o ∧ o.ExactDict ∧ o.data = .dict es ep ∧ es.toList = xs.map (entryOfKey (tupleKind (mixKind P w))) ∧ (xs.map (·.1)).Nodup
  | .set S n => h.SetOf (intKind P w) a S n
  | .ins C dx fs => H dx = some (.own a) ∧ fs.length ≤ 1000 ∧ dx ≠ a ∧ h.get? a = some (PySem.W.instObj C dx) ∧
      ∃ mA, h.Ns1 dx mA ∧ (∀ f, RelO (fs.lookup f) (mA f)) ∧ PySem.Within mA (fs.map (·.1))
  | .own _ => ∃ o, h.get? a = some o
  | .xd fs => ∃ mA, h.Ns1 a mA ∧ (∀ f, RelO (fs.lookup f) (mA f)) ∧ fs.length ≤ 1000 ∧ PySem.Within mA (fs.map (·.1))
  | .rng lo hi => ∃ t u v, h.get? a = some { cls := .type "range", data := .fields #[.int lo t, .int hi u, .int 1 v] }
  | .frz o u => h.get? a = some o ∧ ObjOk H h a u
  | .tbl ps => h.get? a = some { cls := .none, data := .fields ps }
  | .met f x => h.get? a = some (PySem.W.methodObj (.ref f) (.ref x))
  | .ext φ => φ h ∧ (∃ o, h.get? a = some o) ∧ ∀ h1 h2 : Heap, φ h1 → (∀ o, h1.get? a = some o → h2.get? a = some o) → φ h2
/-- the abstract heap is held -/
def HOk (H : Hp) (h : Heap) : Prop := ∀ a o, H a = some o → ObjOk P w H h a o
end

section
variable {P : Program} {w : World} {H H' : Hp} {h h' : Heap} {a : Addr} {o : HO}
theorem ObjOk.lt (x : ObjOk P w H h a o) : a < h.objs.size := by
  cases o with
  | lst xs => obtain ⟨_, _, _, _, e⟩ := x; exact Heap.lt_size e
  | tup xs => obtain ⟨_, _, _, p⟩ := x; exact p.lt
  | dK kvs => obtain ⟨_, _, _, _, o, _, _, e, _⟩ := x; exact Heap.lt_size e
  | dT kvs => obtain ⟨_, _, _, _, o, _, _, e, _⟩ := x; exact Heap.lt_size e
  | set S n => obtain ⟨o, _, _, _, e, _⟩ := x; exact Heap.lt_size e
  | ins C dx fs => obtain ⟨_, _, _, e, _⟩ := x; exact Heap.lt_size e
  | own y => obtain ⟨_, e⟩ := x; exact Heap.lt_size e
  | xd fs => obtain ⟨_, ⟨_, _, _, e, _⟩, _⟩ := x; exact Heap.lt_size e
  | rng lo hi => obtain ⟨_, _, _, e⟩ := x; exact Heap.lt_size e
  | frz ob u => obtain ⟨e, _⟩ := x; exact Heap.lt_size e
  | tbl ps => exact Heap.lt_size (show h.get? a = some _ from x)
  | met f y => exact Heap.lt_size (show h.get? a = some _ from x)
  | ext φ => obtain ⟨_, ⟨_, e⟩, _⟩ := x; exact Heap.lt_size e
theorem Paired.mapP {α β : Type} {F G : α → β → Prop} : ∀ {l₁ : List α} {l₂ : List β}, Paired F l₁ l₂ → (∀ a b, F a b → G a b) → Paired G l₁ l₂
  | _, _, .nil, _ => .nil
  | _, _, .cons r t, f => .cons (f _ _ r) (Paired.mapP t f)
/-- what an object's description leans on: its own object, its own dict, the tuples -/
theorem ObjOk.stay (x : ObjOk P w H h a o) (k : ∀ b u, (b = a ∨ H b = some (.own a)) → h.get? b = some u → h'.get? b = some u)
    (ho : ∀ b, H b = some (.own a) → H' b = some (.own a)) (ht : ∀ b xs, H b = some (.tup xs) → H' b = some (.tup xs)) : ObjOk P w H' h' a o := by
  induction o with
  | lst xs => obtain ⟨z, its, n, r, e⟩ := x; exact ⟨z, its, n, r, k _ _ (.inl rfl) e⟩
  | tup xs => obtain ⟨z, its, r, ob, e, c⟩ := x; exact ⟨z, its, r, ob, k _ _ (.inl rfl) e, c⟩
  | dK kvs => obtain ⟨z, y, vs, r, ob, es, ep, e, c⟩ := x; exact ⟨z, y, vs, r, ob, es, ep, k _ _ (.inl rfl) e, c⟩
  | dT kvs =>
    obtain ⟨z, y, xs, r, ob, es, ep, e, c⟩ := x
    exact ⟨z, y, xs, Paired.mapP r fun p q z => ⟨z.1, ht _ _ z.2.1, z.2.2⟩, ob, es, ep, k _ _ (.inl rfl) e, c⟩
  | set S n => obtain ⟨ob, es, ep, t, e, c⟩ := x; exact ⟨ob, es, ep, t, k _ _ (.inl rfl) e, c⟩
  | ins C dx fs =>
    obtain ⟨d, z, ne, e, mA, ⟨od, es, ep, e2, c⟩, r⟩ := x
    exact ⟨ho _ d, z, ne, k _ _ (.inl rfl) e, mA, ⟨od, es, ep, k _ _ (.inr d) e2, c⟩, r⟩
  | own y => obtain ⟨ob, e⟩ := x; exact ⟨ob, k _ _ (.inl rfl) e⟩
  | xd fs => obtain ⟨mA, ⟨od, es, ep, e, c⟩, r⟩ := x; exact ⟨mA, ⟨od, es, ep, k _ _ (.inl rfl) e, c⟩, r⟩
  | rng lo hi => obtain ⟨t, u, v, e⟩ := x; exact ⟨t, u, v, k _ _ (.inl rfl) e⟩
  | frz ob u ih => obtain ⟨e, q⟩ := x; exact ⟨k _ _ (.inl rfl) e, ih q⟩
  | tbl ps =>
    have e : h.get? a = some { cls := .none, data := .fields ps } := x
    show h'.get? a = some { cls := .none, data := .fields ps }
    exact k a _ (.inl rfl) e
  | met f y =>
    have e : h.get? a = some (PySem.W.methodObj (.ref f) (.ref y)) := x
    show h'.get? a = some (PySem.W.methodObj (.ref f) (.ref y))
    exact k a _ (.inl rfl) e
  | ext φ => obtain ⟨p, ⟨o, e⟩, st⟩ := x; exact ⟨st _ _ p fun o q => k _ _ (.inl rfl) q, ⟨o, k _ _ (.inl rfl) e⟩, st⟩
theorem HOk.lt (x : HOk P w H h) (e : H a = some o) : a < h.objs.size := (x a o e).lt
theorem HOk.fresh (x : HOk P w H h) (e : h.objs.size ≤ a) : H a = none := by
  cases q : H a with
  | none => rfl
  | some u => exact absurd (Nat.lt_of_lt_of_le (x.lt q) e) (Nat.lt_irrefl _)
/-- every object of the heap is kept -/
theorem HOk.kept (x : HOk P w H h) (k : ∀ b u, h.get? b = some u → h'.get? b = some u) : HOk P w H h' := fun a o e =>
  (x a o e).stay (fun b u _ q => k b u q) (fun _ q => q) fun _ _ q => q
/-- a new object is laid and tracked -/
theorem HOk.laid (x : HOk P w H h) (k : ∀ b u, h.get? b = some u → h'.get? b = some u) (hp : h.objs.size ≤ a) (new : ObjOk P w (upd H a o) h' a o) : HOk P w (upd H a o) h' := fun b u e => by
  have hn := x.fresh hp
  by_cases hb : b = a
  · subst hb; rw [upd_same] at e; cases e; exact new
  · rw [upd_ne hb] at e
    exact (x b u e).stay (fun c v _ q => k c v q) (fun c q => by rw [upd_ne (ne_of_none q hn)]; exact q) fun c xs q => by rw [upd_ne (ne_of_none q hn)]; exact q
end

/-- what may be read as u: it is u, or a known u -/
def Rd (H : Hp) (a : Addr) (u : HO) : Prop := H a = some u ∨ ∃ o, H a = some (.frz o u)
theorem Rd.ok {P : Program} {w : World} {H : Hp} {h : Heap} {a : Addr} {u : HO} (r : Rd H a u) (x : HOk P w H h) : ObjOk P w H h a u := by
  rcases r with r | ⟨o, r⟩
  · exact x a u r
  · obtain ⟨_, q⟩ := x a _ r
    exact q
/-- what may be written -/
def Mut : Option HO → Prop
  | some (.lst _) => True
  | some (.dK _) => True
  | some (.dT _) => True
  | some (.set _ _) => True
  | some (.ins _ _ _) => True
  | some (.ext _) => True
  | some (.xd _) => True
  | _ => False
section
variable {P : Program} {w : World} {H : Hp} {h h' : Heap} {x e : Addr} {o' : HO}
/-- the object at e is changed: x itself, or the dict of the instance x -/
theorem HOk.write (ok : HOk P w H h) (mu : Mut (H x)) (he : e = x ∨ H e = some (.own x)) (k : ∀ b u, b ≠ e → h.get? b = some u → h'.get? b = some u) (heo : ∃ u, h'.get? e = some u)
    (new : ObjOk P w (upd H x o') h' x o') : HOk P w (upd H x o') h' := fun b u q => by
  have nown : ∀ c y, H c = some (.own y) → c ≠ x := fun c y r z => by subst z; rw [r] at mu; exact mu
  have ntup : ∀ c xs, H c = some (.tup xs) → c ≠ x := fun c xs r z => by subst z; rw [r] at mu; exact mu
  by_cases hb : b = x
  · subst hb; rw [upd_same] at q; cases q; exact new
  · rw [upd_ne hb] at q
    by_cases hbe : b = e
    · have q' : H b = some (.own x) := by
        rcases he with z | z
        · exact absurd (hbe.trans z) hb
        · rw [hbe]; exact z
      rw [q] at q'; cases q'
      obtain ⟨v, hv⟩ := heo
      exact ⟨v, by rw [hbe]; exact hv⟩
    · refine (ok b u q).stay (fun c v hc r => k c v ?_ r) (fun c r => by rw [upd_ne (nown c b r)]; exact r) fun c xs r => by rw [upd_ne (ntup c xs r)]; exact r
      rcases hc with rfl | hc
      · exact hbe
      · rintro rfl
        rcases he with z | z
        · exact nown c b hc z
        · rw [hc] at z; cases z; exact hb rfl
end

/-! ### kept unless tracked; of the frames at fs (the callers') the slots may change (an exception that passes writes there); of the records at ex (iterators) nothing is said -/
structure Un (fs ex : List Addr) (H H' : Hp) (h h' : Heap) : Prop where
  keep : ∀ b o, h.get? b = some o → H b = none → b ∉ fs → b ∉ ex → h'.get? b = some o
  slot : ∀ b o, h.get? b = some o → H b = none → b ∈ fs → b ∉ ex → ∃ sl, h'.get? b = some { o with slots := sl }
  free : ∀ b o, h.get? b = some o → H b = none → b ∉ ex → H' b = none
  there : ∀ b o, h.get? b = some o → b ∉ ex → ∃ o', h'.get? b = some o'
  tups : ∀ b xs, H b = some (.tup xs) → H' b = some (.tup xs)
  frzs : ∀ b o u, H b = some (.frz o u) → H' b = some (.frz o u)
  tbls : ∀ b ps, H b = some (.tbl ps) → ∃ more, H' b = some (.tbl (ps ++ more))
section
variable {fs fs' ex ex' : List Addr} {H H1 H2 : Hp} {h h1 h2 h' : Heap} {a x e : Addr} {o : HO}
theorem Un.any (u : Un fs ex H H1 h h1) {b : Addr} {ob : Obj} (q : h.get? b = some ob) (n : H b = none) (hx : b ∉ ex) : ∃ sl, h1.get? b = some { ob with slots := sl } := by
  by_cases hb : b ∈ fs
  · exact u.slot b ob q n hb hx
  · exact ⟨ob.slots, u.keep b ob q n hb hx⟩
theorem Un.kept (k : ∀ b u, h.get? b = some u → h'.get? b = some u) : Un fs ex H H h h' :=
  ⟨fun b ob q _ _ _ => k b ob q, fun b ob q _ _ _ => ⟨ob.slots, k b ob q⟩, fun _ _ _ n _ => n, fun b ob q _ => ⟨ob, k b ob q⟩, fun _ _ q => q, fun _ _ _ q => q, fun _ ps q => ⟨#[], by rw [q]; simp⟩⟩
theorem Un.refl : Un fs ex H H h h := Un.kept fun _ _ q => q
theorem Un.laid (k : ∀ b u, h.get? b = some u → h'.get? b = some u) (hp : h.objs.size ≤ a) (hn : H a = none) : Un fs ex H (upd H a o) h h' where
  keep := fun b u q _ _ _ => k b u q
  slot := fun b u q _ _ _ => ⟨u.slots, k b u q⟩
  free := fun b u q n _ => by rw [upd_ne (Nat.ne_of_lt (Nat.lt_of_lt_of_le (Heap.lt_size q) hp))]; exact n
  there := fun b u q _ => ⟨u, k b u q⟩
  tups := fun b xs q => by rw [upd_ne (ne_of_none q hn)]; exact q
  frzs := fun b u xs q => by rw [upd_ne (ne_of_none q hn)]; exact q
  tbls := fun b ps q => ⟨#[], by rw [upd_ne (ne_of_none q hn), q]; simp⟩
theorem Un.write (mu : Mut (H x)) (he : e = x ∨ H e = some (.own x)) (k : ∀ b u, b ≠ e → h.get? b = some u → h'.get? b = some u) (heo : ∃ u, h'.get? e = some u) : Un fs ex H (upd H x o) h h' := by
  have hx : ∀ b, H b = none → b ≠ x := fun b n z => by subst z; rw [n] at mu; exact mu
  have hb : ∀ b, H b = none → b ≠ e := fun b n z => by
    subst z
    rcases he with r | r
    · exact hx b n r
    · rw [n] at r; cases r
  have hm : ∀ b u, H b = some u → ¬ Mut (some u) → b ≠ x := fun b u q nm z => by subst z; rw [q] at mu; exact nm mu
  refine ⟨fun b u q n _ _ => k b u (hb b n) q, fun b u q n _ _ => ⟨u.slots, k b u (hb b n) q⟩, fun b u q n _ => by rw [upd_ne (hx b n)]; exact n, fun b u q _ => ?_,
    fun b xs q => by rw [upd_ne (hm b _ q fun z => z)]; exact q, fun b u xs q => by rw [upd_ne (hm b _ q fun z => z)]; exact q, fun b ps q => ⟨#[], by rw [upd_ne (hm b _ q fun z => z), q]; simp⟩⟩
  by_cases hbe : b = e
  · subst hbe; exact heo
  · exact ⟨u, k b u hbe q⟩
end

/-! ### the heap without what is tracked -/
def trk (h : Heap) (H : Hp) : List Addr := (List.range h.objs.size).filter fun a => (H a).isSome
def hidT (h : Heap) (H : Hp) : Heap := PySem.W.hideAll h (trk h H)
theorem hidT_size (h : Heap) (H : Hp) : (hidT h H).objs.size = h.objs.size := PySem.W.hideAll_size _ _
theorem hidT_get {h : Heap} {H : Hp} {b : Addr} {o : Obj} (e : h.get? b = some o) (n : H b = none) : (hidT h H).get? b = some o :=
  PySem.W.hideAll_get _ e fun hm => by
    have q : (H b).isSome = true := (List.mem_filter.mp hm).2
    rw [n] at q; simp at q
theorem of_hidT {h : Heap} {H : Hp} {b : Addr} {o : Obj} (e : (hidT h H).get? b = some o) : h.get? b = some o ∧ H b = none := by
  have e' : h.get? b = some o := PySem.W.of_hideAll (trk h H) e
  refine ⟨e', ?_⟩
  cases q : H b with
  | none => rfl
  | some x =>
    have hm : b ∈ trk h H := List.mem_filter.mpr ⟨List.mem_range.mpr (Heap.lt_size e'), by simp [q]⟩
    have z : (hidT h H).get? b = none := PySem.W.hideAll_none (trk h H) hm
    rw [z] at e; cases e

/-! ### OpenK's ledger, filled with every new object but one -/
def allNews (g h : Heap) (L : Addr) : List (Addr × Obj) := (List.range h.objs.size).filterMap fun a => if a = L ∨ (g.get? a).isSome = true then none else (h.get? a).map fun o => (a, o)
def rest (g h : Heap) (L d : Addr) : List (Addr × Obj) := (allNews g h L).filter fun p => decide (p.1 ≠ d)
end L2

namespace L2
open PySem PySem.Spec PyProof.Rows

/-- the module's facts, over the base: the heap at the law's entry without what is tracked there -/
structure Mod (K : PySem.W.Frag) (mg : Str → Option Value) (base : Heap) : Prop where
  kin : K.In base
  glob : base.Ns mainGlobals mg
  blt : ∃ mb, base.Ns builtinsNs mb ∧ ∀ x : Str, x ≠ "__name__" → mb x = bootBuiltins x
  nolimit : base.NoLimit

/-- the context: a def's body (or a comprehension's block) running. base: fixed through the whole law; s₀, H₀: the entry; outer: the frames whose slots others may change (a def's callers); stack: all frames that run;
   ex: iterators that were made ahead of the entry and are walked here (a comprehension's); fn: the names whose cells were made at the entry (a def: all; a comprehension's block: its own); calm: not within an except suite; pn: pins that every state bears; xe: what is wanted of an exception that leaves the code -/
structure Cx where
  prog : Program
  w : World
  K : PySem.W.Frag
  mg : Str → Option Value
  base : Heap
  A : Around
  N : List Str
  s_0 : Shared
  H_0 : Hp
  env : Env
  outer : List Env
  stack : List Env
  ex : List Addr
  fn : Str → Bool
  calm : Bool
  pn : List (Addr × Obj)
  xe : Value → Shared → Prop
/-- the callers' frames -/
def frs (l : List Env) : List Addr := l.filterMap (·.frame)
abbrev Cx.fs (X : Cx) : List Addr := frs X.outer

def Vis (sc : Scope) (x : Str) : Prop := sc.names.lookup x = some .local ∨ sc.names.lookup x = some .cell ∨ sc.names.lookup x = some .free
def Loc (sc : Scope) (x : Str) : Prop := sc.names.lookup x = some .local ∨ sc.names.lookup x = some .cell
def Look (env : Env) (h : Heap) (m : Str → Option Value) (x : Str) (u : Value) : Prop :=
  (env.kindOf x = some .local ∧ m x = some u) ∨ ((env.kindOf x = some .cell ∨ env.kindOf x = some .free) ∧ ∃ c, env.cells.lookup x = some c ∧ h.IsCell c (some u))

structure Cx.Ok (X : Cx) : Prop where
  mod : Mod X.K X.mg X.base
  kind : X.env.scope.kind = .function
  glob : X.env.globals = mainGlobals
  blt : X.env.builtins = builtinsNs
  above : X.s_0.heap.objs.size ≤ X.env.locals
  inj : ∀ x y c, X.env.cells.lookup x = some c → X.env.cells.lookup y = some c → x = y
  has : ∀ x, (X.env.kindOf x = some .cell ∨ X.env.kindOf x = some .free) → ∃ c, X.env.cells.lookup x = some c
  cab : ∀ x c, X.fn x = true → X.env.cells.lookup x = some c → X.s_0.heap.objs.size ≤ c
  hd : X.calm = true → X.A.handled = none
  frames : X.A.frames = some X.stack
  stk : X.stack = X.outer ∨ (X.stack = X.env :: X.outer ∧ X.env.frame = some X.env.locals)
  exf : ∀ b ∈ X.ex, b ≠ X.env.locals ∧ ∀ x c, X.env.cells.lookup x = some c → c ≠ b
  bs : ∀ b o, X.base.get? b = some o → X.s_0.heap.get? b = some o ∧ X.H_0 b = none
  bsz : X.base.objs.size ≤ X.s_0.heap.objs.size
  noex : ∀ b o, X.base.get? b = some o → b ∉ X.ex
  exfs : ∀ b ∈ X.ex, b ∉ X.fs
  funs : X.s_0.heap.FunFrames X.base X.outer
  frf : ∀ b ∈ X.fs, X.H_0 b = none

structure Inv (X : Cx) (pins : List (Addr × Obj)) (σ : List (Option V)) (H : Hp) (s : Shared) : Prop where
  ok : X.Ok
  os : s.os = X.s_0.os
  bare : AllBare s.gens
  base : Un X.fs X.ex X.H_0 H X.s_0.heap s.heap
  loc : ∃ m, s.heap.Ns X.env.locals m ∧ ∀ (i : Nat) (x : Str) (v : V), X.N[i]? = some x → σ[i]? = some (some v) → Vis X.env.scope x → ∃ u, RelV v u ∧ Look X.env s.heap m x u
  cell : ∀ x c, X.env.cells.lookup x = some c → ∃ v, s.heap.IsCell c v
  free : H X.env.locals = none
  freeC : ∀ x c, X.env.cells.lookup x = some c → H c = none
  pin : ∀ p ∈ X.pn ++ pins, s.heap.get? p.1 = some p.2 ∧ H p.1 = none ∧ p.1 ≠ X.env.locals ∧ p.1 ∉ X.fs ∧ ∀ v, p.2.data ≠ .cell v
  hok : HOk X.prog X.w H s.heap
  len : σ.length = X.N.length

section
variable {X : Cx} {pins : List (Addr × Obj)} {σ : List (Option V)} {H H' : Hp} {s : Shared} {h' : Heap}

theorem Cx.Ok.nofr (ok : X.Ok) {b : Addr} {o : Obj} (e : X.base.get? b = some o) : b ∉ X.fs := fun hb => by
  have := (ok.funs.mem hb).1
  rw [e] at this; cases this
theorem Inv.bs (I : Inv X pins σ H s) : ∀ b o, X.base.get? b = some o → s.heap.get? b = some o ∧ H b = none := fun b o e =>
  ⟨I.base.keep b o (I.ok.bs b o e).1 (I.ok.bs b o e).2 (I.ok.nofr e) (I.ok.noex b o e), I.base.free b o (I.ok.bs b o e).1 (I.ok.bs b o e).2 (I.ok.noex b o e)⟩
theorem Inv.bk (I : Inv X pins σ H s) : ∀ b o, X.base.get? b = some o → s.heap.get? b = some o := fun b o e => (I.bs b o e).1
theorem Inv.mod (I : Inv X pins σ H s) : Mod X.K X.mg X.base := I.ok.mod
theorem Inv.kIn (I : Inv X pins σ H s) : X.K.In s.heap := I.ok.mod.kin.keeps I.bk
theorem Inv.lt (I : Inv X pins σ H s) : X.env.locals < s.heap.objs.size := let ⟨_, hn, _⟩ := I.loc; hn.lt
theorem Inv.sz (I : Inv X pins σ H s) : X.s_0.heap.objs.size ≤ s.heap.objs.size := Nat.le_trans I.ok.above (Nat.le_of_lt I.lt)
theorem Inv.nofs (I : Inv X pins σ H s) {a : Addr} (h : s.heap.objs.size ≤ a) : a ∉ X.fs := fun hb => by
  obtain ⟨_, o, ho, _⟩ := I.ok.funs.mem hb
  exact absurd (Nat.lt_of_lt_of_le (Heap.lt_size ho) (Nat.le_trans I.sz h)) (Nat.lt_irrefl _)
theorem Inv.cne (I : Inv X pins σ H s) : ∀ x c, X.env.cells.lookup x = some c → c ≠ X.env.locals := fun x c e z => by
  obtain ⟨v, o, ho, hd⟩ := I.cell x c e
  obtain ⟨m, ⟨o', es, ep, ho', hd', _⟩, _⟩ := I.loc
  rw [z, ho'] at ho; cases ho; rw [hd'] at hd; cases hd
theorem Inv.funs (I : Inv X pins σ H s) : s.heap.FunFrames X.base X.outer := by
  have all : ∀ (l : List Env), (∀ b ∈ frs l, b ∈ X.fs) → X.s_0.heap.FunFrames X.base l → s.heap.FunFrames X.base l := by
    intro l
    induction l with
    | nil => intro _ _; trivial
    | cons env r ih =>
      intro hs hl
      obtain ⟨hk, ⟨L, o, hf, hn, ho, hd⟩, hr⟩ := hl
      have hL : L ∈ X.fs := hs L (by unfold frs; rw [List.filterMap_cons, hf]; exact List.mem_cons_self)
      obtain ⟨sl, e⟩ := I.base.slot L o ho (I.ok.frf L hL) hL fun z => I.ok.exfs L z hL
      exact ⟨hk, ⟨L, _, hf, hn, e, hd⟩, ih (fun b hb => hs b (by unfold frs; rw [List.filterMap_cons, hf]; exact List.mem_cons_of_mem _ hb)) hr⟩
  exact all X.outer (fun _ hb => hb) I.ok.funs

/-- the frames that run, for a call -/
theorem Inv.stack (I : Inv X pins σ H s) : s.heap.FunFrames X.base X.stack := by
  rcases I.ok.stk with e | ⟨e, hf⟩
  · rw [e]; exact I.funs
  · rw [e]
    obtain ⟨m, hn, _⟩ := I.loc
    refine .cons (by rw [I.ok.kind]; decide) hf hn ?_ I.funs
    exact Heap.get?_none_of_le (Nat.le_trans I.ok.bsz I.ok.above)
theorem Inv.stkSub (I : Inv X pins σ H s) : ∀ b ∈ frs X.stack, b ∈ X.env.locals :: X.fs := fun b hb => by
  rcases I.ok.stk with e | ⟨e, hf⟩
  · rw [e] at hb; exact List.mem_cons_of_mem _ hb
  · rw [e] at hb
    unfold frs at hb
    rw [List.filterMap_cons, hf] at hb
    exact hb
theorem Inv.stkFree (I : Inv X pins σ H s) : ∀ b ∈ frs X.stack, H b = none := fun b hb => by
  rcases List.mem_cons.mp (I.stkSub b hb) with e | hb
  · rw [e]; exact I.free
  · obtain ⟨_, o, ho, _⟩ := I.ok.funs.mem hb
    exact I.base.free b o ho (I.ok.frf b hb) fun z => I.ok.exfs b z hb

/-- THE STEP: the untracked objects but the frame and the records at ch are kept (the callers' frames up to slots), the frame's map is kept, the new abstract heap is held -/
theorem Inv.step {g' : Array GenState} {t' : Nat} {d' : Drawn} {ch : List Addr} (I : Inv X pins σ H s)
    (hch : ∀ b ∈ ch, (b ∈ X.ex ∨ X.s_0.heap.objs.size ≤ b) ∧ b ≠ X.env.locals ∧ (∀ x c, X.env.cells.lookup x = some c → c ≠ b) ∧ ∀ p ∈ X.pn ++ pins, p.1 ≠ b)
    (keep : ∀ b o, b ≠ X.env.locals → b ∉ X.fs → b ∉ ch → s.heap.get? b = some o → H b = none → h'.get? b = some o)
    (slot : ∀ b o, b ≠ X.env.locals → b ∈ X.fs → b ∉ ch → s.heap.get? b = some o → H b = none → ∃ sl, h'.get? b = some { o with slots := sl }) (free : ∀ b o, b ∉ ch → s.heap.get? b = some o → H b = none → H' b = none)
    (there : ∀ b o, b ∉ ch → s.heap.get? b = some o → ∃ o', h'.get? b = some o')
    (tups : ∀ b xs, H b = some (.tup xs) → H' b = some (.tup xs)) (frzs : ∀ b o u, H b = some (.frz o u) → H' b = some (.frz o u)) (tbls : ∀ b ps, H b = some (.tbl ps) → ∃ more, H' b = some (.tbl (ps ++ more)))
    (ns : ∀ m, s.heap.Ns X.env.locals m → h'.Ns X.env.locals m) (hok : HOk X.prog X.w H' h') (hg : AllBare g') :
    Inv X pins σ H' { s with heap := h', gens := g', drawn := d', toks := t' } := by
  have neL : ∀ b o, X.s_0.heap.get? b = some o → b ≠ X.env.locals := fun b o e => Nat.ne_of_lt (Nat.lt_of_lt_of_le (Heap.lt_size e) I.ok.above)
  have neC : ∀ b o, X.s_0.heap.get? b = some o → b ∉ X.ex → b ∉ ch := fun b o e hx hb => by
    rcases (hch b hb).1 with z | z
    · exact hx z
    · exact absurd (Nat.lt_of_lt_of_le (Heap.lt_size e) z) (Nat.lt_irrefl _)
  have cellK : ∀ x c, X.env.cells.lookup x = some c → ∀ v, s.heap.IsCell c v → h'.IsCell c v := fun x c e v ⟨o, ho, hd⟩ => by
    have nch : c ∉ ch := fun z => (hch c z).2.2.1 x c e rfl
    by_cases hc : c ∈ X.fs
    · obtain ⟨sl, q⟩ := slot c o (I.cne x c e) hc nch ho (I.freeC x c e)
      exact ⟨_, q, hd⟩
    · exact ⟨o, keep c o (I.cne x c e) hc nch ho (I.freeC x c e), hd⟩
  refine ⟨I.ok, I.os, hg, ⟨fun b o e n hb hx => ?_, fun b o e n hb hx => ?_, fun b o e n hx => ?_, fun b o e hx => ?_, fun b xs e => tups b xs (I.base.tups b xs e), fun b o xs e => frzs b o xs (I.base.frzs b o xs e), fun b ps e => ?_⟩, ?_, fun x c e => ?_, ?_, fun x c e => ?_, fun p hp => ?_, hok, I.len⟩
  · exact keep b o (neL b o e) hb (neC b o e hx) (I.base.keep b o e n hb hx) (I.base.free b o e n hx)
  · obtain ⟨sl, e1⟩ := I.base.slot b o e n hb hx
    obtain ⟨sl', e2⟩ := slot b _ (neL b o e) hb (neC b o e hx) e1 (I.base.free b o e n hx)
    exact ⟨sl', e2⟩
  · obtain ⟨o', e1⟩ := I.base.there b o e hx
    exact free b o' (neC b o e hx) e1 (I.base.free b o e n hx)
  · obtain ⟨o', e1⟩ := I.base.there b o e hx
    exact there b o' (neC b o e hx) e1
  · obtain ⟨m1, e1⟩ := I.base.tbls b ps e
    obtain ⟨m2, e2⟩ := tbls b _ e1
    exact ⟨m1 ++ m2, by rw [e2, Array.append_assoc]⟩
  · obtain ⟨m, hn, hl⟩ := I.loc
    refine ⟨m, ns m hn, fun i x v e1 e2 e3 => ?_⟩
    obtain ⟨u, r, l⟩ := hl i x v e1 e2 e3
    refine ⟨u, r, ?_⟩
    rcases l with l | ⟨k, c, e, z⟩
    · exact .inl l
    · exact .inr ⟨k, c, e, cellK x c e _ z⟩
  · obtain ⟨v, z⟩ := I.cell x c e
    exact ⟨v, cellK x c e v z⟩
  · obtain ⟨m, ⟨o, _, _, ho, _⟩, _⟩ := I.loc
    exact free _ o (fun z => (hch _ z).2.1 rfl) ho I.free
  · obtain ⟨v, o, ho, hd⟩ := I.cell x c e
    exact free c o (fun z => (hch c z).2.2.1 x c e rfl) ho (I.freeC x c e)
  · obtain ⟨e, n, ne, nf, d⟩ := I.pin p hp
    have nch : p.1 ∉ ch := fun z => (hch p.1 z).2.2.2 p hp rfl
    exact ⟨keep p.1 p.2 ne nf nch e n, free p.1 p.2 nch e n, ne, nf, d⟩
/-- .. where the frame's own object is kept too -/
theorem Inv.un {t' : Nat} (I : Inv X pins σ H s) (u : Un X.fs [] H H' s.heap h') (hok : HOk X.prog X.w H' h') : Inv X pins σ H' { s with heap := h', toks := t' } := by
  obtain ⟨m, ⟨o, es, ep, ho, r⟩, _⟩ := id I.loc
  obtain ⟨sl, hL⟩ := u.any ho I.free (by simp)
  exact I.step (g' := s.gens) (d' := s.drawn) (ch := []) (fun _ z => nomatch z) (fun b o _ hb _ e n => u.keep b o e n hb (by simp)) (fun b o _ hb _ e n => u.slot b o e n hb (by simp)) (fun b o _ e n => u.free b o e n (by simp)) (fun b o _ e => u.there b o e (by simp)) u.tups u.frzs u.tbls (fun m' hm => by
    obtain ⟨o', es', ep', ho', r'⟩ := hm
    rw [ho] at ho'; cases ho'
    exact ⟨_, es', ep', hL, r'⟩) hok I.bare
/-- behind a call (or a comprehension's block): the slots of this frame may have changed too, the records at ch may have turned -/
theorem Inv.call {g' : Array GenState} {t' : Nat} {d' : Drawn} {ch : List Addr} (I : Inv X pins σ H s) (u : Un (frs X.stack) ch H H' s.heap h') (hok : HOk X.prog X.w H' h') (hg : AllBare g')
    (hch : ∀ b ∈ ch, (b ∈ X.ex ∨ X.s_0.heap.objs.size ≤ b) ∧ b ≠ X.env.locals ∧ (∀ x c, X.env.cells.lookup x = some c → c ≠ b) ∧ ∀ p ∈ X.pn ++ pins, p.1 ≠ b) :
    Inv X pins σ H' { s with heap := h', gens := g', drawn := d', toks := t' } := by
  obtain ⟨m, ⟨o, es, ep, ho, r⟩, _⟩ := id I.loc
  obtain ⟨sl, hL⟩ := u.any ho I.free fun z => (hch _ z).2.1 rfl
  exact I.step (ch := ch) hch (fun b o hL hb hc e n => u.keep b o e n (fun z => (List.mem_cons.mp (I.stkSub b z)).elim hL hb) hc) (fun b o _ _ hc e n => u.any e n hc) (fun b o hc e n => u.free b o e n hc) (fun b o hc e => u.there b o e hc) u.tups u.frzs u.tbls (fun m' hm => by
    obtain ⟨o', es', ep', ho', r'⟩ := hm
    rw [ho] at ho'; cases ho'
    exact ⟨_, es', ep', hL, r'⟩) hok hg
/-- an untracked record of ours (an iterator) has turned -/
theorem Inv.turned {t' : Nat} {it : Addr} (I : Inv X pins σ H s) (k : ∀ b o, b ≠ it → s.heap.get? b = some o → h'.get? b = some o) (hn : H it = none) (hL : it ≠ X.env.locals)
    (h1 : it ∈ X.ex ∨ X.s_0.heap.objs.size ≤ it) (h2 : ∀ x c, X.env.cells.lookup x = some c → c ≠ it) (h3 : ∀ p ∈ X.pn ++ pins, p.1 ≠ it) : Inv X pins σ H { s with heap := h', toks := t' } := by
  have nit : ∀ b u, H b = some u → b ≠ it := fun b u e z => by rw [z, hn] at e; cases e
  refine I.step (g' := s.gens) (d' := s.drawn) (ch := [it]) (fun b hb => ?_) (fun b o _ _ hc e _ => k b o (fun z => hc (by simp [z])) e) (fun b o _ _ hc e _ => ⟨o.slots, k b o (fun z => hc (by simp [z])) e⟩) (fun _ _ _ _ n => n)
    (fun b o hc e => ⟨o, k b o (fun z => hc (by simp [z])) e⟩) (fun _ _ e => e) (fun _ _ _ e => e) (fun b ps e => ⟨#[], by rw [e]; simp⟩) (fun m hm => ?_) (fun b u e => ?_) I.bare
  · have e : b = it := by simpa using hb
    subst e
    exact ⟨h1, hL, h2, h3⟩
  · obtain ⟨o, es, ep, ho, r⟩ := hm
    exact ⟨o, es, ep, k _ o (Ne.symm hL) ho, r⟩
  · refine (I.hok b u e).stay (fun c v hc q => k c v ?_ q) (fun _ q => q) fun _ _ q => q
    rcases hc with z | z
    · rw [z]; exact nit b u e
    · exact nit c _ z
theorem Inv.tok (I : Inv X pins σ H s) (t : Nat) : Inv X pins σ H { s with toks := t } := I.un (h' := s.heap) (t' := t) Un.refl I.hok
/-- all objects kept -/
theorem Inv.kept {t' : Nat} (I : Inv X pins σ H s) (k : ∀ b u, s.heap.get? b = some u → h'.get? b = some u) : Inv X pins σ H { s with heap := h', toks := t' } := I.un (Un.kept k) (I.hok.kept k)
/-- a new object laid and tracked -/
theorem Inv.laid {a : Addr} {o : HO} {t' : Nat} (I : Inv X pins σ H s) (k : ∀ b u, s.heap.get? b = some u → h'.get? b = some u) (hp : s.heap.objs.size ≤ a) (new : ObjOk X.prog X.w (upd H a o) h' a o) :
    Inv X pins σ (upd H a o) { s with heap := h', toks := t' } := I.un (Un.laid k hp (I.hok.fresh hp)) (I.hok.laid k hp new)
/-- an object written -/
theorem Inv.write {x e : Addr} {o : HO} {t' : Nat} (I : Inv X pins σ H s) (mu : Mut (H x)) (he : e = x ∨ H e = some (.own x)) (k : ∀ b u, b ≠ e → s.heap.get? b = some u → h'.get? b = some u) (heo : ∃ u, h'.get? e = some u)
    (new : ObjOk X.prog X.w (upd H x o) h' x o) : Inv X pins σ (upd H x o) { s with heap := h', toks := t' } := I.un (Un.write mu he k heo) (I.hok.write mu he k heo new)
/-- forgetting slots, pins -/
theorem Inv.weak {σ' : List (Option V)} (I : Inv X pins σ H s) (hl : σ'.length = σ.length) (w : ∀ (i : Nat) v, σ'[i]? = some (some v) → σ[i]? = some (some v)) : Inv X pins σ' H s :=
  ⟨I.ok, I.os, I.bare, I.base, let ⟨m, hn, hl'⟩ := I.loc; ⟨m, hn, fun i x v e1 e2 e3 => hl' i x v e1 (w i v e2) e3⟩, I.cell, I.free, I.freeC, I.pin, I.hok, hl.trans I.len⟩
theorem Inv.pins_of {pins' : List (Addr × Obj)} (I : Inv X pins σ H s) (h : ∀ p ∈ pins', s.heap.get? p.1 = some p.2 ∧ H p.1 = none ∧ p.1 ≠ X.env.locals ∧ p.1 ∉ X.fs ∧ ∀ v, p.2.data ≠ .cell v) : Inv X pins' σ H s :=
  ⟨I.ok, I.os, I.bare, I.base, I.loc, I.cell, I.free, I.freeC, fun p hp => (List.mem_append.mp hp).elim (fun z => I.pin p (List.mem_append_left _ z)) (h p), I.hok, I.len⟩

theorem nodup_ix {N : List Str} (hN : N.Nodup) {i j : Nat} {x : Str} (a : N[i]? = some x) (b : N[j]? = some x) : i = j := by
  obtain ⟨h1, e1⟩ := List.getElem?_eq_some_iff.mp a
  obtain ⟨h2, e2⟩ := List.getElem?_eq_some_iff.mp b
  exact (List.getElem_inj hN).mp (e1.trans e2.symm)

/-- a name is stored; what changed -/
theorem store_ok2 {M : Model} {A : Around} {E : Value → Shared → Prop} {i : Nat} {x : Str} {v : V} {u : Value} {Q : Unit → Shared → Prop} (I : Inv X pins σ H s) (hN : X.N.Nodup) (hi : X.N[i]? = some x) (hx : Loc X.env.scope x) (r : RelV v u)
    (h : ∀ s', Inv X pins (σ.set i (some v)) H s' → (∃ a, Heap.SameBut a s.heap s'.heap ∧ (a = X.env.locals ∨ X.env.cells.lookup x = some a)) → Q () s') (hf : X.fn x = true ∨ X.env.scope.names.lookup x = some .local := by first | exact .inl rfl | exact .inr rfl | assumption) : wpAny M A (storeName X.env x u) Q E s := by
  obtain ⟨m, hn, hl⟩ := id I.loc
  have hcls : (X.env.scope.kind == .class || (X.env.scope.kind == .module && X.env.locals != X.env.globals)) = false := by rw [I.ok.kind]; rfl
  have hiσ : i < σ.length := by rw [I.len]; exact (List.getElem?_eq_some_iff.mp hi).1
  have cne := I.cne
  have tracked : ∀ {a : Addr} {h' : Heap}, (∃ o, s.heap.get? a = some o ∧ H a = none) → Heap.SameBut a s.heap h' → HOk X.prog X.w H h' := fun {a h'} ha hs b ob e => by
    obtain ⟨_, _, hfree⟩ := ha
    refine (I.hok b ob e).stay (fun c w' hc q => (hs.2 c ?_).trans q) (fun _ q => q) fun _ _ q => q
    rintro rfl
    rcases hc with rfl | hc
    · rw [hfree] at e; cases e
    · rw [hfree] at hc; cases hc
  rcases hx with hk | hk
  · refine wpAny_storeName_local hk hn (fun h' hn' hs => ?_) hcls
    obtain ⟨oL, _, _, hoL, _⟩ := id hn
    refine h _ ⟨I.ok, I.os, I.bare, ⟨fun b o e n hb hx => ?_, fun b o e n hb hx => ?_, I.base.free, fun b o e hx => ?_, I.base.tups, I.base.frzs, I.base.tbls⟩, ⟨_, hn', fun j y v' e1 e2 e3 => ?_⟩, fun y c e => ?_, I.free, I.freeC, fun p hp => ?_, tracked ⟨oL, hoL, I.free⟩ hs, by simpa using I.len⟩ ⟨_, hs, .inl rfl⟩
    · exact (hs.2 b (Nat.ne_of_lt (Nat.lt_of_lt_of_le (Heap.lt_size e) I.ok.above))).trans (I.base.keep b o e n hb hx)
    · obtain ⟨sl, e1⟩ := I.base.slot b o e n hb hx
      exact ⟨sl, (hs.2 b (Nat.ne_of_lt (Nat.lt_of_lt_of_le (Heap.lt_size e) I.ok.above))).trans e1⟩
    · obtain ⟨o', e1⟩ := I.base.there b o e hx
      exact ⟨o', (hs.2 b (Nat.ne_of_lt (Nat.lt_of_lt_of_le (Heap.lt_size e) I.ok.above))).trans e1⟩
    · by_cases hj : j = i
      · subst hj
        rw [hi] at e1; cases e1
        rw [List.getElem?_set_self hiσ] at e2
        cases e2
        exact ⟨u, r, .inl ⟨hk, by simp⟩⟩
      · rw [List.getElem?_set_ne (Ne.symm hj)] at e2
        obtain ⟨u', r', q⟩ := hl j y v' e1 e2 e3
        refine ⟨u', r', ?_⟩
        rcases q with ⟨k, e⟩ | ⟨k, c, e, z⟩
        · refine .inl ⟨k, ?_⟩
          have : y ≠ x := fun e => hj (nodup_ix hN e1 (e ▸ hi))
          simp [this, e]
        · exact .inr ⟨k, c, e, z.sameBut hs (cne y c e)⟩
    · obtain ⟨w', z⟩ := I.cell y c e
      exact ⟨w', z.sameBut hs (cne y c e)⟩
    · obtain ⟨e, n, ne, nf, d⟩ := I.pin p hp
      exact ⟨(hs.2 p.1 ne).trans e, n, ne, nf, d⟩
  · have hfn : X.fn x = true := by
      rcases hf with z | z
      · exact z
      · rw [z] at hk; cases hk
    obtain ⟨c, hc⟩ := I.ok.has x (.inl hk)
    obtain ⟨w', z⟩ := I.cell x c hc
    refine wpAny_storeName_cell I.ok.kind hk hc z (fun h' hc' hs => ?_)
    obtain ⟨oc, hoc, hocd⟩ := id z
    refine h { s with heap := h' } ⟨I.ok, I.os, I.bare, ⟨fun b o e n hb hx => ?_, fun b o e n hb hx => ?_, I.base.free, fun b o e hx => ?_, I.base.tups, I.base.frzs, I.base.tbls⟩, ⟨m, hn.sameBut hs (Ne.symm (cne x c hc)), fun j y v' e1 e2 e3 => ?_⟩, fun y c' e => ?_, I.free, I.freeC, fun p hp => ?_, tracked ⟨oc, hoc, I.freeC x c hc⟩ hs, by simpa using I.len⟩ ⟨c, hs, .inr hc⟩
    · exact (hs.2 b (Nat.ne_of_lt (Nat.lt_of_lt_of_le (Heap.lt_size e) (I.ok.cab x c hfn hc)))).trans (I.base.keep b o e n hb hx)
    · obtain ⟨sl, e1⟩ := I.base.slot b o e n hb hx
      exact ⟨sl, (hs.2 b (Nat.ne_of_lt (Nat.lt_of_lt_of_le (Heap.lt_size e) (I.ok.cab x c hfn hc)))).trans e1⟩
    · obtain ⟨o', e1⟩ := I.base.there b o e hx
      exact ⟨o', (hs.2 b (Nat.ne_of_lt (Nat.lt_of_lt_of_le (Heap.lt_size e) (I.ok.cab x c hfn hc)))).trans e1⟩
    · by_cases hj : j = i
      · subst hj
        rw [hi] at e1; cases e1
        rw [List.getElem?_set_self hiσ] at e2
        cases e2
        exact ⟨u, r, .inr ⟨.inl hk, c, hc, hc'⟩⟩
      · rw [List.getElem?_set_ne (Ne.symm hj)] at e2
        obtain ⟨u', r', q⟩ := hl j y v' e1 e2 e3
        refine ⟨u', r', ?_⟩
        rcases q with q | ⟨k, c', e, z'⟩
        · exact .inl q
        · refine .inr ⟨k, c', e, z'.sameBut hs ?_⟩
          rintro rfl
          exact hj (nodup_ix hN e1 (I.ok.inj _ _ _ e hc ▸ hi))
    · by_cases hcc : c' = c
      · subst hcc; exact ⟨_, hc'⟩
      · obtain ⟨w2, z2⟩ := I.cell y c' e
        exact ⟨w2, z2.sameBut hs hcc⟩
    · obtain ⟨e, n, ne, nf, d⟩ := I.pin p hp
      refine ⟨(hs.2 p.1 ?_).trans e, n, ne, nf, d⟩
      intro q
      rw [q, hoc] at e
      have q' : oc = p.2 := Option.some.inj e
      exact d w' (by rw [← q']; exact hocd)
theorem store_ok {M : Model} {A : Around} {E : Value → Shared → Prop} {i : Nat} {x : Str} {v : V} {u : Value} {Q : Unit → Shared → Prop} (I : Inv X pins σ H s) (hN : X.N.Nodup) (hi : X.N[i]? = some x) (hx : Loc X.env.scope x) (r : RelV v u)
    (h : ∀ s', Inv X pins (σ.set i (some v)) H s' → Q () s') (hf : X.fn x = true ∨ X.env.scope.names.lookup x = some .local := by first | exact .inl rfl | exact .inr rfl | assumption) : wpAny M A (storeName X.env x u) Q E s :=
  store_ok2 I hN hi hx r (fun s' I' _ => h s' I') hf
/-- behind a call or a block, the state as it is -/
theorem Inv.call' {s' : Shared} {ch : List Addr} (I : Inv X pins σ H s) (ho : s'.os = s.os) (u : Un (frs X.stack) ch H H' s.heap s'.heap) (hok : HOk X.prog X.w H' s'.heap) (hg : AllBare s'.gens)
    (hch : ∀ b ∈ ch, (b ∈ X.ex ∨ X.s_0.heap.objs.size ≤ b) ∧ b ≠ X.env.locals ∧ (∀ x c, X.env.cells.lookup x = some c → c ≠ b) ∧ ∀ p ∈ X.pn ++ pins, p.1 ≠ b) : Inv X pins σ H' s' := by
  obtain ⟨h', g', d', t', o'⟩ := s'
  have e : o' = s.os := ho
  subst e
  exact I.call (g' := g') (t' := t') (d' := d') u hok hg hch
end

/-! ### the judgements -/
/-- an exception: its class, its own dict's address (where it has one), the abstract heap behind it -/
abbrev XK := Addr × Bool → Option Addr → Hp → Prop
abbrev St := List (Option V)
abbrev VK := V → Hp → Prop
/-- an expression's reading; a test's; an argument list's -/
abbrev TE := St → Hp → VK → Prop
abbrev TT := St → Hp → (Bool → Hp → Prop) → Prop
abbrev TA := St → Hp → (List V → Hp → Prop) → Prop
/-- what is wanted behind a statement -/
structure Ends where
  nx : St → Hp → Prop
  rt : VK
  bk : St → Hp → Prop := fun _ _ => False
  ct : St → Hp → Prop := fun _ _ => False
abbrev TS := Ends → St → Hp → Prop

def EP (X : Cx) (pins : List (Addr × Obj)) (σ : St) (Q : VK) (u : Value) (s' : Shared) : Prop := ∃ v H', Inv X pins σ H' s' ∧ RelV v u ∧ Q v H'
def TP (X : Cx) (pins : List (Addr × Obj)) (σ : St) (Q : Bool → Hp → Prop) (b : Bool) (s' : Shared) : Prop := ∃ H', Inv X pins σ H' s' ∧ Q b H'
def AP (X : Cx) (pins : List (Addr × Obj)) (σ : St) (Q : List V → Hp → Prop) (us : List Value) (s' : Shared) : Prop := ∃ vs H', Inv X pins σ H' s' ∧ Vals vs us ∧ Q vs H'
def SP (X : Cx) (pins : List (Addr × Obj)) (D : Ends) (f : Flow) (s' : Shared) : Prop :=
  match f with
  | .next => ∃ σ' H', Inv X pins σ' H' s' ∧ D.nx σ' H'
  | .brk => ∃ σ' H', Inv X pins σ' H' s' ∧ D.bk σ' H'
  | .cont => ∃ σ' H', Inv X pins σ' H' s' ∧ D.ct σ' H'
  | .ret u => ∃ v σ' H', Inv X pins σ' H' s' ∧ RelV v u ∧ D.rt v H'

def PE (X : Cx) (e : Expr) (t : TE) : Prop :=
  ∀ (pins : List (Addr × Obj)) (s : Shared) (σ : St) (H : Hp) (Q : VK), Inv X pins σ H s → t σ H Q → wpAny (model X.prog X.w) X.A (eval e X.env) (EP X pins σ Q) X.xe s
def PT (X : Cx) (e : Expr) (t : TT) : Prop :=
  ∀ (pins : List (Addr × Obj)) (s : Shared) (σ : St) (H : Hp) (Q : Bool → Hp → Prop), Inv X pins σ H s → t σ H Q → wpAny (model X.prog X.w) X.A (isTrue e X.env (eval e X.env)) (TP X pins σ Q) X.xe s
/-- a test whatever its 'whole' is (and, or) -/
def PW (X : Cx) (e : Expr) (t : TT) : Prop :=
  ∀ (whole : Sem Value) (pins : List (Addr × Obj)) (s : Shared) (σ : St) (H : Hp) (Q : Bool → Hp → Prop), Inv X pins σ H s → t σ H Q → wpAny (model X.prog X.w) X.A (isTrue e X.env whole) (TP X pins σ Q) X.xe s
theorem PW.pt {X : Cx} {e : Expr} {t : TT} (h : PW X e t) : PT X e t := h _
/-- an argument list (no star), from the left -/
def PA (X : Cx) (es : List Expr) (t : TA) : Prop :=
  ∀ (pos : Pos) (pins : List (Addr × Obj)) (s : Shared) (σ : St) (H : Hp) (Q : List V → Hp → Prop), Inv X pins σ H s → t σ H Q → wpAny (model X.prog X.w) X.A (spliced (backTo pos (starEach es X.env))) (AP X pins σ Q) X.xe s
def PS (X : Cx) (st : Stmt) (t : TS) : Prop :=
  ∀ (pins : List (Addr × Obj)) (s : Shared) (σ : St) (H : Hp) (D : Ends), Inv X pins σ H s → t D σ H → wpAny (model X.prog X.w) X.A (exec st X.env) (SP X pins D) X.xe s
def PSs (X : Cx) (st : List Stmt) (t : TS) : Prop :=
  ∀ (pins : List (Addr × Obj)) (s : Shared) (σ : St) (H : Hp) (D : Ends), Inv X pins σ H s → t D σ H → wpAny (model X.prog X.w) X.A (execs st X.env) (SP X pins D) X.xe s
/-- weaken the end -/
theorem thn {α : Type} {t : Sem α} {Q Q' : α → Shared → Prop} {M : Model} {A : Around} {E : Value → Shared → Prop} {s : Shared} (h : wpAny M A t Q E s) (hQ : ∀ a s, Q a s → Q' a s) : wpAny M A t Q' E s := wpAny_mono h hQ fun _ _ x => x
end L2

namespace L2
open PySem PySem.Spec PyProof.Rows
section
variable {X : Cx}

/-! ### names and constants -/
def tVar (i : Nat) : TE := fun σ H Q => ∃ v, σ[i]? = some (some v) ∧ Q v H
def tC (v : V) : TE := fun _ H Q => Q v H
theorem pe_var {i : Nat} {x : Str} {pos : Pos} (hN : X.N[i]? = some x) (hv : Vis X.env.scope x) (hd : (x == ("__debug__" : Str)) = false := by decide) (hcd : (x == ("__classdict__" : Str)) = false := by decide) : PE X (.Name x pos) (tVar i) := by
  intro pins s σ H Q I h
  obtain ⟨v, e, h⟩ := h
  obtain ⟨m, hn, hl⟩ := I.loc
  obtain ⟨u, r, l⟩ := hl i x v hN e hv
  have fin : EP X pins σ Q u s := ⟨v, H, I, r, h⟩
  rcases l with ⟨hk, hm⟩ | ⟨hk, c, hc, hcell⟩
  · exact wpAny_Name (wpAny_loadName_local I.ok.kind hk hn hm fin) hd
  · rcases hk with hk | hk
    · exact wpAny_Name (wpAny_loadName_cell I.ok.kind hk hc hcell fin) hd
    · exact wpAny_Name (wpAny_loadName_free I.ok.kind hk hc hcell fin hcd) hd
theorem pe_int {i j pos} : PE X (.Constant (.int i) j pos) (tC (.int i)) := fun _ _ _ H _ I h => wpAny_Constant_int ⟨.int i, H, I.tok _, ⟨_, rfl⟩, h⟩
/-- a global name of the def -/
def Gl (X : Cx) (x : Str) : Prop := X.env.kindOf x = some .globalImplicit
theorem ld_glob {E : Value → Shared → Prop} {pins : List (Addr × Obj)} {s : Shared} {σ : St} {H : Hp} {x : Str} {u : Value} {pos : Pos} {Q : Value → Shared → Prop} (I : Inv X pins σ H s) (hg : Gl X x) (hm : X.mg x = some u) (h : Q u s)
    (hd : (x == ("__debug__" : Str)) = false := by decide) : wpAny (model X.prog X.w) X.A (eval (.Name x pos) X.env) Q E s :=
  Calls.Name_function_global I.ok.kind hg (Calls.loadGlobal_global (by rw [I.ok.glob]; exact I.mod.glob.keeps I.bk) hm h) hd
theorem ld_blt {E : Value → Shared → Prop} {pins : List (Addr × Obj)} {s : Shared} {σ : St} {H : Hp} {x : Str} {u : Value} {pos : Pos} {Q : Value → Shared → Prop} (I : Inv X pins σ H s) (hg : Gl X x) (hm : X.mg x = none) (hv : bootBuiltins x = some u) (h : Q u s)
    (hn : x ≠ "__name__" := by decide) (hd : (x == ("__debug__" : Str)) = false := by decide) : wpAny (model X.prog X.w) X.A (eval (.Name x pos) X.env) Q E s := by
  obtain ⟨mb, h1, h2⟩ := I.mod.blt
  exact Calls.Name_function_global I.ok.kind hg (Calls.loadGlobal_builtin (by rw [I.ok.glob]; exact I.mod.glob.keeps I.bk) hm (by rw [I.ok.blt]; exact h1.keeps I.bk) ((h2 x hn).trans hv) h) hd
/-- a module's constant, a class, a function, as a value -/
theorem pe_glob {x : Str} {v : V} {u : Value} {pos : Pos} (hg : Gl X x) (hm : X.mg x = some u) (r : RelV v u) (hd : (x == ("__debug__" : Str)) = false := by decide) : PE X (.Name x pos) (tC v) :=
  fun _ _ _ H _ I h => ld_glob I hg hm ⟨v, H, I, r, h⟩ hd
/-! ### arithmetic -/
/-- two ints -/
def t2I (ta tb : TE) (k : Int → Int → Hp → Prop) : St → Hp → Prop := fun σ H => ta σ H fun x H1 => tb σ H1 fun y H2 => ∃ i j, x = .int i ∧ y = .int j ∧ k i j H2
def tAdd (ta tb : TE) : TE := fun σ H Q => t2I ta tb (fun i j H2 => Q (.int (i + j)) H2) σ H
def tSub (ta tb : TE) : TE := fun σ H Q => t2I ta tb (fun i j H2 => Q (.int (i - j)) H2) σ H
/-- the left factor below 2^64 -/
def tMul (ta tb : TE) : TE := fun σ H Q => t2I ta tb (fun i j H2 => (-(2 ^ 64) < i ∧ i < 2 ^ 64) ∧ Q (.int (i * j)) H2) σ H
variable {a b : Expr} {ta tb : TE} {pos : Pos}
/-! ### comparisons -/
def PC (X : Cx) (op : CmpOp) (a b : Expr) (t : TE) : Prop :=
  ∀ (pins : List (Addr × Obj)) (s : Shared) (σ : St) (H : Hp) (Q : VK), Inv X pins σ H s → t σ H Q →
    wpAny (model X.prog X.w) X.A (eval a X.env) (fun v s₁ => wpAny (model X.prog X.w) X.A (eval b X.env) (fun u s₂ => wpAny (model X.prog X.w) X.A (compareOp op v u) (EP X pins σ Q) X.xe s₂) X.xe s₁) X.xe s
def tCmp (p : Int → Int → Bool) (ta tb : TE) : TE := fun σ H Q => t2I ta tb (fun i j H2 => Q (.bl (p i j)) H2) σ H
abbrev tLt : TE → TE → TE := tCmp fun i j => decide (i < j)
abbrev tLe : TE → TE → TE := tCmp fun i j => decide (i ≤ j)
abbrev tGt : TE → TE → TE := tCmp fun i j => decide (j < i)
abbrev tGe : TE → TE → TE := tCmp fun i j => decide (j ≤ i)
abbrev tEqI : TE → TE → TE := tCmp fun i j => decide (i = j)
abbrev tNeI : TE → TE → TE := tCmp fun i j => !decide (i = j)
/-- is None -/
def tIsN (ta : TE) : TE := fun σ H Q => ta σ H fun x H1 => Q (.bl (decide (x = .non))) H1
def tNotN (ta : TE) : TE := fun σ H Q => ta σ H fun x H1 => Q (.bl (!decide (x = .non))) H1
/-- a comparison as a value, as a test -/
def tB (t : TE) : TT := fun σ H Q => t σ H fun x H1 => ∃ c, x = .bl c ∧ Q c H1
/-- an expression whose value is a bool, as a test -/
theorem pt_val {e : Expr} {t : TE} (h : PE X e t) (he : ∀ whole, isTrue e X.env whole = (do let v ← whole; standAt e.pos; holding [v] (truthy v)) := by intro _; rfl) : PT X e (tB t) := by
  intro pins s σ H Q I hw
  refine isTrue_plain (thn (h pins s σ H _ I hw) fun v s1 ⟨x, H1, I1, r1, q1⟩ => ?_) (he _)
  obtain ⟨d, rfl, q⟩ := q1
  cases r1
  exact wpAny_truthy_bool ⟨H1, I1, q⟩

/-! ### and, or, not -/
variable {tA tB' : TT} {rest : List Expr}
def tAnd (t u : TT) : TT := fun σ H Q => t σ H fun c H1 => if c = true then u σ H1 Q else Q false H1
def tOr (t u : TT) : TT := fun σ H Q => t σ H fun c H1 => if c = true then Q true H1 else u σ H1 Q
def tNot (t : TT) : TT := fun σ H Q => t σ H fun c H1 => Q (!c) H1
theorem pw_and1 (ha : PT X a tA) : PW X (.BoolOp .And [a] pos) tA := by
  intro wh pins s σ H Q I h
  refine isTrue_and (thn (ha pins s σ H Q I h) fun c s1 e => ?_)
  cases c with
  | true => exact isTrue_and_nil e
  | false => exact e
theorem pw_or1 (ha : PT X a tA) : PW X (.BoolOp .Or [a] pos) tA := by
  intro wh pins s σ H Q I h
  refine isTrue_or (thn (ha pins s σ H Q I h) fun c s1 e => ?_)
  cases c with
  | false => exact isTrue_or_nil e
  | true => exact e
theorem pw_and (ha : PT X a tA) (hb : PW X (.BoolOp .And (b :: rest) pos) tB') : PW X (.BoolOp .And (a :: b :: rest) pos) (tAnd tA tB') := by
  intro wh pins s σ H Q I h
  refine isTrue_and (thn (ha pins s σ H _ I h) fun c s1 ⟨H1, I1, q1⟩ => ?_)
  cases c with
  | true => exact hb wh pins s1 σ H1 Q I1 q1
  | false => exact ⟨H1, I1, q1⟩
theorem pw_or (ha : PT X a tA) (hb : PW X (.BoolOp .Or (b :: rest) pos) tB') : PW X (.BoolOp .Or (a :: b :: rest) pos) (tOr tA tB') := by
  intro wh pins s σ H Q I h
  refine isTrue_or (thn (ha pins s σ H _ I h) fun c s1 ⟨H1, I1, q1⟩ => ?_)
  cases c with
  | true => exact ⟨H1, I1, q1⟩
  | false => exact hb wh pins s1 σ H1 Q I1 q1
theorem pt_not (ha : PT X a tA) : PT X (.UnaryOp .Not a pos) (tNot tA) := by
  intro pins s σ H Q I h
  exact isTrue_not (ha pins s σ H (fun c H1 => Q (!c) H1) I h)
/-- .. as values (bools) -/
def tAndV (ta tb : TE) : TE := fun σ H Q => ta σ H fun x H1 => ∃ c, x = .bl c ∧ if c = true then tb σ H1 Q else Q (.bl false) H1
def tOrV (ta tb : TE) : TE := fun σ H Q => ta σ H fun x H1 => ∃ c, x = .bl c ∧ if c = true then Q (.bl true) H1 else tb σ H1 Q
def tNotV (ta : TE) : TE := fun σ H Q => ta σ H fun x H1 => ∃ c, x = .bl c ∧ Q (.bl (!c)) H1
theorem pe_one {op} {t : TE} (h : PE X a t) : PE X (.BoolOp op [a] pos) t := fun pins s σ H Q I hw => BoolOp_one (h pins s σ H Q I hw)
theorem pe_and (ha : PE X a ta) (hb : PE X (.BoolOp .And (b :: rest) pos) tb) : PE X (.BoolOp .And (a :: b :: rest) pos) (tAndV ta tb) := by
  intro pins s σ H Q I h
  refine BoolOp_and (thn (ha pins s σ H _ I h) fun v s1 ⟨x, H1, I1, r1, q1⟩ => ?_)
  obtain ⟨c, rfl, q1⟩ := q1
  cases r1
  refine wpAny_truthy_bool ?_
  cases c with
  | true => exact hb pins s1 σ H1 Q I1 q1
  | false => exact ⟨.bl false, H1, I1, rfl, q1⟩
theorem pe_or (ha : PE X a ta) (hb : PE X (.BoolOp .Or (b :: rest) pos) tb) : PE X (.BoolOp .Or (a :: b :: rest) pos) (tOrV ta tb) := by
  intro pins s σ H Q I h
  refine BoolOp_or (thn (ha pins s σ H _ I h) fun v s1 ⟨x, H1, I1, r1, q1⟩ => ?_)
  obtain ⟨c, rfl, q1⟩ := q1
  cases r1
  refine wpAny_truthy_bool ?_
  cases c with
  | false => exact hb pins s1 σ H1 Q I1 q1
  | true => exact ⟨.bl true, H1, I1, rfl, q1⟩
theorem pe_not (ha : PE X a ta) : PE X (.UnaryOp .Not a pos) (tNotV ta) := by
  intro pins s σ H Q I h
  refine UnaryOp_ (thn (ha pins s σ H _ I h) fun v s1 ⟨x, H1, I1, r1, q1⟩ => ?_)
  obtain ⟨c, rfl, q1⟩ := q1
  cases r1
  exact not_of (wpAny_truthy_bool ⟨.bl (!c), H1, I1, rfl, q1⟩)
/-- a if t else b -/
def tIf (t : TT) (ta tb : TE) : TE := fun σ H Q => t σ H fun c H1 => if c = true then ta σ H1 Q else tb σ H1 Q
end
end L2

namespace L2
open PySem PySem.Spec PyProof.Rows

/-! ### a list, a tuple that is read: tracked, frozen, or an object of the module -/
def SqL (K : PySem.W.Frag) (H : Hp) (a : Addr) (xs : List V) : Prop :=
  Rd H a (.lst xs) ∨
    ∃ (o : Obj) (its : Array Value) (n : Nat), K.lookup a = some o ∧ o.cls = .type "list" ∧ o.dict = none ∧ o.data = .seq its n ∧ its.size ≤ sizeLine ∧ Vals xs its.toList
def SqT (K : PySem.W.Frag) (H : Hp) (a : Addr) (xs : List V) : Prop :=
  Rd H a (.tup xs) ∨
    ∃ (o : Obj) (its : Array Value) (n : Nat), K.lookup a = some o ∧ o.cls = .type "tuple" ∧ o.data = .seq its n ∧ its.size ≤ sizeLine ∧ Vals xs its.toList
def absV : Value → Option V
  | .none => some .non
  | .bool b => some (.bl b)
  | .int i _ => some (.int i)
  | .str x _ => some (.str x)
  | .bytes b _ => some (.byt b)
  | .float b _ => some (.flt b)
  | .ref a => some (.ref a)
  | .type n => some (.ty n)
  | _ => none
theorem RelV.abs {x : V} {u : Value} (r : RelV x u) : absV u = some x := by
  cases x with
  | non => cases r; rfl
  | bl _ => cases r; rfl
  | int _ => obtain ⟨t, rfl⟩ := r; rfl
  | str _ => obtain ⟨t, rfl⟩ := r; rfl
  | byt _ => obtain ⟨t, rfl⟩ := r; rfl
  | flt _ => obtain ⟨t, rfl⟩ := r; rfl
  | ref _ => cases r; rfl
  | ty _ => cases r; rfl
theorem RelV.inj {x y : V} {u : Value} (r : RelV x u) (q : RelV y u) : x = y := Option.some.inj (r.abs.symm.trans q.abs)
theorem Vals.inj : ∀ {xs ys : List V} {us : List Value}, Vals xs us → Vals ys us → xs = ys
  | _, _, _, .nil, .nil => rfl
  | _, _, _, .cons r t, .cons r' t' => by rw [r.inj r', Vals.inj t t']
section
variable {X : Cx} {pins : List (Addr × Obj)} {σ : St} {H : Hp} {s : Shared} {a : Addr} {xs ys : List V}
theorem SqL.of {K : PySem.W.Frag} (h : H a = some (.lst xs)) : SqL K H a xs := .inl (.inl h)
theorem Inv.list (I : Inv X pins σ H s) (h : SqL X.K H a xs) : ∃ its : List Value, Vals xs its ∧ PlainL s.heap a its.toArray ∧ xs.length ≤ sizeLine := by
  rcases h with h | ⟨o, its, n, hk, hc, hd, hs, hz, r⟩
  · obtain ⟨z, its, n, r, e⟩ := h.ok I.hok
    exact ⟨its, r, ⟨_, n, e, rfl, rfl, rfl⟩, z⟩
  · refine ⟨its.toList, r, ⟨o, n, I.kIn a o hk, hc, hd, by simpa using hs⟩, ?_⟩
    have e := r.length
    simp only [Array.length_toList] at e
    omega
theorem Inv.tuple (I : Inv X pins σ H s) (h : SqT X.K H a xs) : ∃ its : List Value, Vals xs its ∧ IsTup s.heap a its.toArray ∧ xs.length ≤ sizeLine := by
  rcases h with h | ⟨o, its, n, hk, hc, hs, hz, r⟩
  · obtain ⟨z, its, r, p⟩ := h.ok I.hok
    exact ⟨its, r, p, z⟩
  · refine ⟨its.toList, r, ⟨o, I.kIn a o hk, hc, n, by simpa using hs⟩, ?_⟩
    have e := r.length
    simp only [Array.length_toList] at e
    omega
theorem Inv.list_inj (I : Inv X pins σ H s) (h : SqL X.K H a xs) (h' : SqL X.K H a ys) : xs = ys := by
  obtain ⟨its, r, ⟨o, n, e, _, _, d⟩, _⟩ := I.list h
  obtain ⟨its', r', ⟨o', n', e', _, _, d'⟩, _⟩ := I.list h'
  rw [e] at e'; cases e'
  rw [d] at d'
  injection d' with d1 _
  have : its = its' := by simpa using congrArg Array.toList d1
  subst this
  exact r.inj r'
theorem Inv.tuple_inj (I : Inv X pins σ H s) (h : SqT X.K H a xs) (h' : SqT X.K H a ys) : xs = ys := by
  obtain ⟨its, r, ⟨o, e, _, n, d⟩, _⟩ := I.tuple h
  obtain ⟨its', r', ⟨o', e', _, n', d'⟩, _⟩ := I.tuple h'
  rw [e] at e'; cases e'
  rw [d] at d'
  injection d' with d1 _
  have : its = its' := by simpa using congrArg Array.toList d1
  subst this
  exact r.inj r'
end

/-! ### another wish about exceptions -/
abbrev Cx.wish (X : Cx) (E : Value → Shared → Prop) : Cx := { X with xe := E }
/-- no exception leaves -/
abbrev Cx.nox (X : Cx) : Cx := X.wish fun _ _ => False
theorem Cx.Ok.wish {X : Cx} (ok : X.Ok) (E : Value → Shared → Prop) : (X.wish E).Ok :=
  ⟨ok.mod, ok.kind, ok.glob, ok.blt, ok.above, ok.inj, ok.has, ok.cab, ok.hd, ok.frames, ok.stk, ok.exf, ok.bs, ok.bsz, ok.noex, ok.exfs, ok.funs, ok.frf⟩
theorem Cx.Ok.unwish {X : Cx} {E : Value → Shared → Prop} (ok : (X.wish E).Ok) : X.Ok :=
  ⟨ok.mod, ok.kind, ok.glob, ok.blt, ok.above, ok.inj, ok.has, ok.cab, ok.hd, ok.frames, ok.stk, ok.exf, ok.bs, ok.bsz, ok.noex, ok.exfs, ok.funs, ok.frf⟩
section
variable {X : Cx} {pins : List (Addr × Obj)} {σ : St} {H : Hp} {s : Shared} {E : Value → Shared → Prop}
theorem Inv.wish (I : Inv X pins σ H s) (E : Value → Shared → Prop) : Inv (X.wish E) pins σ H s := ⟨I.ok.wish E, I.os, I.bare, I.base, I.loc, I.cell, I.free, I.freeC, I.pin, I.hok, I.len⟩
theorem Inv.unwish (I : Inv (X.wish E) pins σ H s) : Inv X pins σ H s := ⟨I.ok.unwish, I.os, I.bare, I.base, I.loc, I.cell, I.free, I.freeC, I.pin, I.hok, I.len⟩
end

/-! ### blocks and small statements -/
section
variable {X : Cx} {st : Stmt} {rest : List Stmt} {t u : TS} {e : Expr} {te : TE} {pos : Pos}
def tNext : TS := fun D σ H => D.nx σ H
def tSeq (t u : TS) : TS := fun D σ H => t { D with nx := u D } σ H
theorem pss_nil : PSs X [] tNext := fun _ _ σ H _ I h => wpAny_execs_nil ⟨σ, H, I, h⟩
theorem pss_cons (h1 : PS X st t) (h2 : PSs X rest u) : PSs X (st :: rest) (tSeq t u) := by
  intro pins s σ H D I h
  refine wpAny_execs_cons (thn (h1 pins s σ H { D with nx := u D } I h) fun f s1 q => ?_)
  cases f with
  | next =>
    obtain ⟨σ', H', I', q⟩ := q
    exact h2 pins s1 σ' H' D I' q
  | ret v => exact q
  | brk => exact q
  | cont => exact q
theorem pss_one (h1 : PS X st t) : PSs X [st] t := by
  intro pins s σ H D I h
  refine wpAny_execs_cons (thn (h1 pins s σ H D I h) fun f s1 q => ?_)
  cases f with
  | next => exact wpAny_execs_nil q
  | ret v => exact q
  | brk => exact q
  | cont => exact q
def tBreak : TS := fun D σ H => D.bk σ H
def tCont : TS := fun D σ H => D.ct σ H
/-- in a def's body nothing is shown -/
theorem Inv.quiet {pins : List (Addr × Obj)} {σ : St} {H : Hp} {s : Shared} (I : Inv X pins σ H s) : interactive X.env = false := by simp [interactive, I.ok.kind]
/-- an expression whose value is dropped -/
def tDrop (te : TE) : TS := fun D σ H => te σ H fun _ H1 => D.nx σ H1
theorem ps_expr (he : PE X e te) (hs : swapsWith e none pos.line X.env = pure false := by rfl) : PS X (.Expr e pos) (tDrop te) := by
  intro pins s σ H D I h
  exact wpAny_Expr_any (thn (he pins s σ H _ I h) fun v s1 ⟨x, H1, I1, r1, q1⟩ => ⟨σ, H1, I1, q1⟩) I.quiet hs
def tRet (te : TE) : TS := fun D σ H => te σ H D.rt
theorem ps_ret (he : PE X e te) : PS X (.Return (some e) pos) (tRet te) := by
  intro pins s σ H D I h
  exact wpAny_Return_some (thn (he pins s σ H _ I h) fun v s1 ⟨x, H1, I1, r1, q1⟩ => ⟨x, σ, H1, I1, r1, q1⟩)
def tRetN : TS := fun D _ H => D.rt .non H
def tIfS (c : TT) (t u : TS) : TS := fun D σ H => c σ H fun b H1 => if b = true then t D σ H1 else u D σ H1
theorem ps_if {c : Expr} {a b : List Stmt} {tc : TT} (hc : PT X c tc) (ha : PSs X a t) (hb : PSs X b u) : PS X (.If c a b pos) (tIfS tc t u) := by
  intro pins s σ H D I h
  refine wpAny_If (thn (hc pins s σ H _ I h) fun d s1 ⟨H1, I1, q1⟩ => ?_)
  cases d with
  | true => exact ha pins s1 σ H1 D I1 q1
  | false => exact hb pins s1 σ H1 D I1 q1
/-- code that the proof never comes to -/
def tNever : TS := fun _ _ _ => False
end

/-! ### targets -/
abbrev TG := V → St → Hp → (St → Hp → Prop) → Prop
abbrev TGs := List V → St → Hp → (St → Hp → Prop) → Prop
def PG (X : Cx) (target : Expr) (t : TG) : Prop :=
  ∀ (pins : List (Addr × Obj)) (s : Shared) (σ : St) (H : Hp) (v : V) (u : Value) (Q : St → Hp → Prop), Inv X pins σ H s → RelV v u → t v σ H Q →
    wpAny (model X.prog X.w) X.A (assign target X.env u) (fun _ s' => ∃ σ' H', Inv X pins σ' H' s' ∧ Q σ' H') X.xe s
/-- several targets, one after another -/
def PGs (X : Cx) (ts : List Expr) (t : TGs) : Prop :=
  ∀ (pins : List (Addr × Obj)) (s : Shared) (σ : St) (H : Hp) (vs : List V) (us : List Value) (Q : St → Hp → Prop), Inv X pins σ H s → Vals vs us → t vs σ H Q →
    wpAny (model X.prog X.w) X.A (assignInOrder ((assignEach ts X.env).map (·.2)) us) (fun _ s' => ∃ σ' H', Inv X pins σ' H' s' ∧ Q σ' H') X.xe s
/-- o[i] = v, by values -/
abbrev TSet := V → V → V → Hp → (Hp → Prop) → Prop
def PSet (X : Cx) (t : TSet) : Prop :=
  ∀ (pins : List (Addr × Obj)) (s : Shared) (σ : St) (H : Hp) (o i v : V) (ov iv u : Value) (Q : Hp → Prop), Inv X pins σ H s → RelV o ov → RelV i iv → RelV v u → t o i v H Q →
    wpAny (model X.prog X.w) X.A (setItem ov iv u) (fun _ s' => ∃ H', Inv X pins σ H' s' ∧ Q H') X.xe s
/-- a op= b, by values -/
abbrev TIp := V → V → Hp → VK → Prop
def PIp (X : Cx) (op : Operator) (t : TIp) : Prop :=
  ∀ (pins : List (Addr × Obj)) (s : Shared) (σ : St) (H : Hp) (x y : V) (v u : Value) (Q : VK), Inv X pins σ H s → RelV x v → RelV y u → t x y H Q →
    wpAny (model X.prog X.w) X.A (inplaceOp op v u) (EP X pins σ Q) X.xe s
section
variable {X : Cx} {pos : Pos}
def gName (i : Nat) : TG := fun v σ H Q => Q (σ.set i (some v)) H
theorem pg_name {i : Nat} {x : Str} (hN : X.N.Nodup) (hi : X.N[i]? = some x) (hx : Loc X.env.scope x) (hf : X.fn x = true ∨ X.env.scope.names.lookup x = some .local := by first | exact .inl rfl | exact .inr rfl | assumption) : PG X (.Name x pos) (gName i) := by
  intro pins s σ H v u Q I r h
  exact wpAny_assign_Name (store_ok I hN hi hx r (fun s' I' => ⟨_, H, I', h⟩) hf)
def gNil : TGs := fun vs σ H Q => vs = [] ∧ Q σ H
def gCons (t : TG) (u : TGs) : TGs := fun vs σ H Q => ∃ v r, vs = v :: r ∧ t v σ H fun σ' H' => u r σ' H' Q
theorem pgs_nil : PGs X [] gNil := by
  intro pins s σ H vs us Q I r h
  obtain ⟨e, h⟩ := h
  subst e
  cases r
  exact assignInOrder_nil ⟨σ, H, I, h⟩
theorem pgs_cons {e : Expr} {es : List Expr} {t : TG} {u : TGs} (h1 : PG X e t) (h2 : PGs X es u)
    (hs : (assignEach (e :: es) X.env).map (·.2) = assign e X.env :: (assignEach es X.env).map (·.2) := by rfl) : PGs X (e :: es) (gCons t u) := by
  intro pins s σ H vs us Q I r h
  obtain ⟨v, vr, e1, h⟩ := h
  subst e1
  cases r with
  | cons r rr =>
    rw [hs]
    refine assignInOrder_cons (thn (h1 pins s σ H _ _ _ I r h) fun _ s1 ⟨σ1, H1, I1, q1⟩ => ?_)
    exact h2 pins s1 σ1 H1 _ _ Q I1 rr q1
/-- (a, b, ..) = a tuple of that length -/
def gTup (K : PySem.W.Frag) (n : Nat) (t : TGs) : TG := fun v σ H Q => ∃ a xs, v = .ref a ∧ SqT K H a xs ∧ xs.length = n ∧ t xs σ H Q
theorem pg_tup {es : List Expr} {k : Nat} {t : TGs} {n : Nat} (hc : X.calm = true) (h : PGs X es t)
    (hn : (assignEach es X.env).length = n := by rfl) (hst : (assignEach es X.env).findIdx? (·.1) = none := by rfl) : PG X (.Tuple es k pos) (gTup X.K n t) := by
  intro pins s σ H v u Q I r hw
  obtain ⟨a, xs, e1, hq, hl, hw⟩ := hw
  subst e1
  cases r
  obtain ⟨its, rv, ht, hz⟩ := I.tuple hq
  refine assign_Tuple_tuple (I.ok.hd hc) ht (by simp [hn, ← hl, rv.length]) hst fun h' hx => ?_
  have I1 : Inv X pins σ H { s with heap := h' } := I.kept (t' := s.toks) fun b o e => hx b o (Nat.ne_of_lt (Heap.lt_size e)) e
  exact h pins _ σ H xs _ Q I1 (by simpa using rv) hw
/-- o[i] = .. -/
def gSub (to ti : TE) (t : TSet) : TG := fun v σ H Q => to σ H fun o H1 => ti σ H1 fun i H2 => t o i v H2 fun H3 => Q σ H3
/-- target = value -/
def tAsg (te : TE) (g : TG) : TS := fun D σ H => te σ H fun x H1 => g x σ H1 D.nx
/-- name = value -/
theorem ps_set {i : Nat} {x : Str} {e : Expr} {te : TE} {pos' : Pos} (hN : X.N.Nodup) (hi : X.N[i]? = some x) (hx : Loc X.env.scope x) (he : PE X e te) (hs : swapsWith e (some (.Name x pos')) pos.line X.env = pure false := by rfl) (hf : X.fn x = true ∨ X.env.scope.names.lookup x = some .local := by first | exact .inl rfl | exact .inr rfl | assumption) :
    PS X (.Assign [.Name x pos'] e pos) (tAsg te (gName i)) := by
  intro pins s σ H D I h
  refine wpAny_Assign_Name (thn (he pins s σ H _ I h) fun v s1 ⟨y, H1, I1, r1, q1⟩ => ?_) hs
  exact store_ok I1 hN hi hx r1 (fun s2 I2 => ⟨_, H1, I2, q1⟩) hf
/-- a, b = x, y with plain local names: stored from the right; the pair itself is not tracked (the opening rows as in PyProof/Rows/TupAssign.lean:23) -/
def tPar (i j : Nat) (ta : TA) : TS := fun D σ H => ta σ H fun vs H1 => ∃ v w, vs = [v, w] ∧ D.nx ((σ.set i (some v)).set j (some w)) H1
/-- name op= e -/
def tAug (i : Nat) (te : TE) (ti : TIp) : TS := fun D σ H => ∃ x, σ[i]? = some (some x) ∧ te σ H fun y H1 => ti x y H1 fun z H2 => D.nx (σ.set i (some z)) H2
theorem ps_aug {i : Nat} {x : Str} {e : Expr} {te : TE} {op : Operator} {ti : TIp} {pos' : Pos} (hN : X.N.Nodup) (hi : X.N[i]? = some x) (hx : Loc X.env.scope x) (he : PE X e te) (ho : PIp X op ti) (hf : X.fn x = true ∨ X.env.scope.names.lookup x = some .local := by first | exact .inl rfl | exact .inr rfl | assumption) :
    PS X (.AugAssign (.Name x pos') op e pos) (tAug i te ti) := by
  intro pins s σ H D I h
  obtain ⟨v, e1, h⟩ := h
  obtain ⟨m, hn, hl⟩ := I.loc
  have vis : Vis X.env.scope x := by rcases hx with k | k; exact .inl k; exact .inr (.inl k)
  obtain ⟨u, r, l⟩ := hl i x v hi e1 vis
  refine wpAny_AugAssign_Name ?_
  have go : wpAny (model X.prog X.w) X.A (eval e X.env) (fun w s₂ => wpAny (model X.prog X.w) X.A (inplaceOp op u w) (fun r s₃ => wpAny (model X.prog X.w) X.A (storeName X.env x r) (fun _ => SP X pins D .next) X.xe s₃) X.xe s₂) X.xe s := by
    refine thn (he pins s σ H _ I h) fun w s1 ⟨y, H1, I1, r1, q1⟩ => ?_
    refine thn (ho pins s1 σ H1 v y u w _ I1 r r1 q1) fun z s2 ⟨zv, H2, I2, r2, q2⟩ => ?_
    exact store_ok I2 hN hi hx r2 (fun s3 I3 => ⟨_, H2, I3, q2⟩) hf
  rcases l with ⟨hk, hm⟩ | ⟨hk, c, hc, hcell⟩
  · exact wpAny_loadName_local I.ok.kind hk hn hm go
  · rcases hk with hk | hk
    · exact wpAny_loadName_cell I.ok.kind hk hc hcell go
    · rcases hx with k | k
      · have : X.env.scope.names.lookup x = some .free := hk
        rw [k] at this; cases this
      · have : X.env.scope.names.lookup x = some .free := hk
        rw [k] at this; cases this
/-- o[i] op= e -/
def tAugS (to ti te : TE) (tget : V → V → Hp → VK → Prop) (tip : TIp) (tset : TSet) : TS := fun D σ H => to σ H fun o H1 => ti σ H1 fun i H2 => tget o i H2 fun x H3 => te σ H3 fun y H4 => tip x y H4 fun z H5 => tset o i z H5 fun H6 => D.nx σ H6
/-- o[i], by values -/
def PGet (X : Cx) (t : V → V → Hp → VK → Prop) : Prop :=
  ∀ (pins : List (Addr × Obj)) (s : Shared) (σ : St) (H : Hp) (o i : V) (ov iv : Value) (Q : VK), Inv X pins σ H s → RelV o ov → RelV i iv → t o i H Q →
    wpAny (model X.prog X.w) X.A (getItem ov iv) (EP X pins σ Q) X.xe s
/-- ints -/
def ipI (f : Int → Int → Int) : TIp := fun x y H Q => ∃ i j, x = .int i ∧ y = .int j ∧ Q (.int (f i j)) H
theorem ip_add : PIp X .Add (ipI fun i j => i + j) := by
  intro pins s σ H x y v u Q I r1 r2 h
  obtain ⟨i, j, e1, e2, q⟩ := h
  subst e1; subst e2
  obtain ⟨t, rfl⟩ := r1
  obtain ⟨t', rfl⟩ := r2
  exact iadd_int ⟨.int _, H, I.tok _, ⟨_, rfl⟩, q⟩
end

/-! ### while -/
section
variable {X : Cx} {pos : Pos}
/-- the invariant W with its measure -/
def tWhile (c : TT) (tb : TS) : TS := fun D σ H => ∃ W : Nat → St → Hp → Prop, (∃ m, W m σ H) ∧ ∀ m σ H, W m σ H →
  c σ H fun b H1 => if b = true then ∃ N : St → Hp → Prop, (∀ σ' H', N σ' H' → ∃ m', m' < m ∧ W m' σ' H') ∧ tb { D with nx := N, ct := N, bk := D.nx } σ H1 else D.nx σ H1
theorem ps_while {c : Expr} {body : List Stmt} {tc : TT} {tb : TS} (hp : PassesOwn (model X.prog X.w) X.A X.env X.xe) (hc : PT X c tc) (hb : PSs X body tb) : PS X (.While c body [] pos) (tWhile tc tb) := by
  intro pins s σ H D I h
  obtain ⟨W, ⟨m0, w0⟩, turn⟩ := h
  refine wpAny_While (codeAny_whileLoop (fun n s' => ∃ σ' H', Inv X pins σ' H' s' ∧ W n σ' H') ?_ m0 ⟨σ, H, I, w0⟩)
  rintro n s1 ⟨σ1, H1, I1, w1⟩
  refine wpAny_passesOwn hp (thn (hc pins s1 σ1 H1 _ I1 (turn n σ1 H1 w1)) fun b s2 ⟨H2, I2, q2⟩ => ?_)
  cases b with
  | true =>
    obtain ⟨N, hN, q2⟩ := q2
    rw [if_pos rfl]
    refine wpAny_passesOwn hp (thn (hb pins s2 σ1 H2 _ I2 q2) fun f s3 q3 => ?_)
    cases f with
    | next =>
      obtain ⟨σ3, H3, I3, n3⟩ := q3
      obtain ⟨m', hm, w3⟩ := hN σ3 H3 n3
      exact ⟨m', hm, σ3, H3, I3, w3⟩
    | cont =>
      obtain ⟨σ3, H3, I3, n3⟩ := q3
      obtain ⟨m', hm, w3⟩ := hN σ3 H3 n3
      exact ⟨m', hm, σ3, H3, I3, w3⟩
    | brk => exact q3
    | ret v => exact q3
  | false =>
    rw [if_neg Bool.false_ne_true]
    exact wpAny_execs_nil ⟨σ1, H2, I2, q2⟩
end

/-! ### what a loop or a comprehension walks -/
/-- at turn i: it yields x (the heap may grow), or it stops -/
structure It where
  go : Nat → Hp → Prop
  yld : Nat → Hp → V → Hp → Prop
  stop : Nat → Hp → Prop
/-- the iterator's own objects may turn: they are not the frame's, not pinned, younger than the entry (or a comprehension's own) -/
def FpOk (X : Cx) (pins : List (Addr × Obj)) (H : Hp) (b : Addr) : Prop :=
  H b = none ∧ b ≠ X.env.locals ∧ b ∉ X.fs ∧ (b ∈ X.ex ∨ X.s_0.heap.objs.size ≤ b) ∧ (∀ x c, X.env.cells.lookup x = some c → c ≠ b) ∧ ∀ p ∈ X.pn ++ pins, p.1 ≠ b
theorem Inv.fpOk {X : Cx} {pins : List (Addr × Obj)} {σ : St} {H H' : Hp} {s : Shared} {b : Addr} (I : Inv X pins σ H s) (hb : s.heap.objs.size ≤ b) (hn : H' b = none) : FpOk X pins H' b := by
  refine ⟨hn, Nat.ne_of_gt (Nat.lt_of_lt_of_le I.lt hb), I.nofs hb, .inr (Nat.le_trans I.sz hb), fun x c e z => ?_, fun p hp z => ?_⟩
  · obtain ⟨v, q⟩ := I.cell x c e
    exact absurd (Nat.lt_of_lt_of_le q.lt (by rw [z]; exact hb)) (Nat.lt_irrefl _)
  · exact absurd (Nat.lt_of_lt_of_le (Heap.lt_size (I.pin p hp).1) (by rw [z]; exact hb)) (Nat.lt_irrefl _)
structure Turn (P : Program) (w : World) (K : PySem.W.Frag) (tg : Expr) (J : It) (fp : List Addr) (it : Addr) (tn : Nat → Heap → Prop) : Prop where
  mem : it ∈ fp
  obj : ∀ i h, tn i h → ∀ b ∈ fp, ∃ o, h.get? b = some o ∧ ∀ v, o.data ≠ .cell v
  keep : ∀ i h h', tn i h → (∀ b ∈ fp, ∀ o, h.get? b = some o → h'.get? b = some o) → tn i h'
  item : ∀ (X : Cx), X.prog = P → X.w = w → X.K = K → X.calm = true → ∀ (i : Nat) (pins : List (Addr × Obj)) (s : Shared) (σ : St) (H : Hp) (E : Value → Shared → Prop), Inv X pins σ H s → (∀ b ∈ fp, FpOk X pins H b) → tn i s.heap → J.go i H →
    wpAny (model P w) X.A (pyNext (.ref it)) (fun r s1 => ∃ u, r = some u ∧
      wpAny (model P w) X.A (letOwnedTupleGo tg (.ref it) u) (fun _ s2 => ∃ x H', Inv X pins σ H' s2 ∧ RelV x u ∧ J.yld i H x H' ∧ tn (i + 1) s2.heap ∧ ∀ b ∈ fp, H' b = none) E s1) E s
  done : ∀ (X : Cx), X.prog = P → X.w = w → X.K = K → X.calm = true → ∀ (i : Nat) (pins : List (Addr × Obj)) (s : Shared) (σ : St) (H : Hp) (E : Value → Shared → Prop), Inv X pins σ H s → (∀ b ∈ fp, FpOk X pins H b) → tn i s.heap → J.stop i H →
    wpAny (model P w) X.A (pyNext (.ref it)) (fun r s1 => r = none ∧ Inv X pins σ H s1) E s
  self : ∀ (A : Around) (i : Nat) (s : Shared) (Q : Value → Shared → Prop) (E : Value → Shared → Prop), tn i s.heap → Q (.ref it) s → wpAny (model P w) A (pyIter (.ref it)) Q E s
abbrev TI := St → Hp → (It → Hp → Prop) → Prop
/-- an iterator has come -/
def PIE (X : Cx) (pins : List (Addr × Obj)) (σ : St) (tg : Expr) (R : It → Hp → Prop) (itv : Value) (s2 : Shared) : Prop :=
  ∃ (it : Addr) (fp : List Addr) (tn : Nat → Heap → Prop) (J : It) (H' : Hp), itv = .ref it ∧ Inv X pins σ H' s2 ∧ Turn X.prog X.w X.K tg J fp it tn ∧ tn 0 s2.heap ∧ (∀ b ∈ fp, FpOk X pins H' b) ∧ R J H'
def PI (X : Cx) (tg iter : Expr) (wi : TI) : Prop :=
  ∀ (pins : List (Addr × Obj)) (s : Shared) (σ : St) (H : Hp) (R : It → Hp → Prop), Inv X pins σ H s → wi σ H R →
    wpAny (model X.prog X.w) X.A (eval iter X.env) (fun v s1 => wpAny (model X.prog X.w) X.A (pyIter v) (PIE X pins σ tg R) X.xe s1) X.xe s

/-- the step ahead of the store is nothing for an iterator that keeps no tuple -/
theorem go_of {M : Model} {A : Around} {E : Value → Shared → Prop} {s : Shared} {tg : Expr} {it : Addr} {u : Value} {o : Obj} {n : String} {vs : Array Value} {Q : Unit → Shared → Prop} (ho : s.heap.get? it = some o) (hc : o.cls = .type n) (hd : o.data = .fields vs)
    (hn : ["enumerate", "zip", "dict_itemiterator", "dict_reverseitemiterator", "odict_iterator", "itertools.zip_longest", "itertools.pairwise"].contains n = false) (hQ : Q () s) : wpAny M A (letOwnedTupleGo tg (.ref it) u) Q E s := by
  unfold letOwnedTupleGo
  cases tg <;> first
    | exact wpAny_pure hQ
    | (cases u <;> first
        | exact wpAny_pure hQ
        | (refine wpAny_bind (wpAny_load ho ?_)
           rw [hc, hd]
           show wpAny M A (if (["enumerate", "zip", "dict_itemiterator", "dict_reverseitemiterator", "odict_iterator", "itertools.zip_longest", "itertools.pairwise"].contains n && vs[0]? == some (rawInt _)) = true then _ else _) Q E s
           rw [if_neg (by intro h; rw [hn, Bool.false_and] at h; cases h)]
           exact wpAny_pure hQ))

/-- the list at a, as it stands at each turn (a loop may append to it) -/
def Itl (K : PySem.W.Frag) (a : Addr) : It :=
  ⟨fun i H => ∃ xs x, SqL K H a xs ∧ xs[i]? = some x, fun i H x H' => H' = H ∧ ∀ xs, SqL K H a xs → xs[i]? = some x, fun i H => ∃ xs, SqL K H a xs ∧ xs.length ≤ i⟩
def Itt (K : PySem.W.Frag) (a : Addr) : It :=
  ⟨fun i H => ∃ xs x, SqT K H a xs ∧ xs[i]? = some x, fun i H x H' => H' = H ∧ ∀ xs, SqT K H a xs → xs[i]? = some x, fun i H => ∃ xs, SqT K H a xs ∧ xs.length ≤ i⟩
/-- lo, lo + 1, .. (n of them) -/
def Itr (lo : Int) (n : Nat) : It := ⟨fun i _ => i < n, fun i H x H' => H' = H ∧ x = .int (lo + i), fun i _ => n ≤ i⟩
theorem turn_list {P : Program} {w : World} {K : PySem.W.Frag} {tg : Expr} (a it : Addr) : Turn P w K tg (Itl K a) [it] it (fun i h => h.IsListIter it a i) where
  mem := by simp
  obj := fun i h st b hb => by
    have e : b = it := by simpa using hb
    subst e
    obtain ⟨o, e, c, d⟩ := st
    exact ⟨o, e, fun v z => by rw [d] at z; cases z⟩
  keep := fun i h h' st k => st.at fun o e => k it (by simp) o e
  item := by
    intro X hP hw hK hc i pins s σ H E I hf st hg
    subst hP hw hK
    obtain ⟨xs, x, hq, hx⟩ := hg
    obtain ⟨its, rv, p, hz⟩ := I.list hq
    obtain ⟨u, hu, ru⟩ := rv.get hx
    obtain ⟨f0, f1, f2, f3, f4, f5⟩ := hf it (by simp)
    refine wpAny_pyNext_list_item st p.isList (x := u) (by simpa using hu) fun h' st' sb => ?_
    have I1 : Inv X pins σ H { s with heap := h' } := I.turned (t' := s.toks) (fun b o hb e => (sb.2 b hb).trans e) f0 f1 f3 f4 f5
    obtain ⟨o, e, c, d⟩ := id st'
    exact ⟨u, rfl, go_of (s := { s with heap := h' }) e c d (by decide) ⟨x, H, I1, ru, ⟨rfl, fun ys hy => by rw [I.list_inj hy hq]; exact hx⟩, st', fun b hb => (hf b hb).1⟩⟩
  done := by
    intro X hP hw hK hc i pins s σ H E I hf st hg
    subst hP hw hK
    obtain ⟨xs, hq, hx⟩ := hg
    obtain ⟨its, rv, p, hz⟩ := I.list hq
    obtain ⟨f0, f1, f2, f3, f4, f5⟩ := hf it (by simp)
    have hl := rv.length
    exact wpAny_pyNext_list_end (I.ok.hd hc) st p.isList (by simp; omega) fun h' eb => ⟨rfl, I.turned (t' := s.toks) (fun b o hb e => eb b o hb e) f0 f1 f3 f4 f5⟩
  self := fun _ _ _ _ _ st h => wpAny_pyIter_listiter st h
theorem turn_range {P : Program} {w : World} {K : PySem.W.Frag} {tg : Expr} (it : Addr) (lo : Int) (n : Nat) : Turn P w K tg (Itr lo n) [it] it (fun i h => IsRangeIter h it (lo + (i : Nat) * 1) ((n : Int) - (i : Nat)) 1) where
  mem := by simp
  obj := fun i h st b hb => by
    have e : b = it := by simpa using hb
    subst e
    exact ⟨_, st, fun v z => by
      have z' : Data.fields _ = Data.cell v := z
      cases z'⟩
  keep := fun i h h' st k => k it (by simp) _ st
  item := by
    intro X hP hw hK hc i pins s σ H E I hf st hg
    subst hP hw hK
    obtain ⟨f0, f1, f2, f3, f4, f5⟩ := hf it (by simp)
    have W := Walks.range (prog := X.prog) (w := X.w) (I.ok.hd hc) it lo 1 n
    refine W.item i s _ _ hg st fun v h' tk hv st' kk => ?_
    obtain ⟨t, rfl⟩ := hv
    have I1 : Inv X pins σ H { s with heap := h', toks := tk } := I.turned (fun b o hb e => kk b o (by simpa using hb) e) f0 f1 f3 f4 f5
    refine ⟨_, rfl, go_of (s := { s with heap := h', toks := tk }) (n := "range_iterator") st' rfl rfl (by decide) ⟨.int (lo + i), H, I1, ⟨t, ?_⟩, ⟨rfl, rfl⟩, st', fun b hb => (hf b hb).1⟩⟩
    rw [Int.mul_one]
  done := by
    intro X hP hw hK hc i pins s σ H E I hf st hg
    subst hP hw hK
    obtain ⟨f0, f1, f2, f3, f4, f5⟩ := hf it (by simp)
    exact wpAny_pyNext_range_end (I.ok.hd hc) st (by have : n ≤ i := hg; omega) fun h' eb => ⟨rfl, I.turned (t' := s.toks) (fun b o hb e => eb b o hb e) f0 f1 f3 f4 f5⟩
  self := fun _ _ _ _ _ st h => wpAny_pyIter_rangeiter st h
end L2

namespace L2
open PySem PySem.Spec PyProof.Rows
section
variable {X : Cx} {tg : Expr}
def iList (K : PySem.W.Frag) (tl : TE) : TI := fun σ H R => tl σ H fun x H1 => ∃ a, x = .ref a ∧ (∃ xs, SqL K H1 a xs) ∧ R (Itl K a) H1
def iTup (K : PySem.W.Frag) (tl : TE) : TI := fun σ H R => tl σ H fun x H1 => ∃ a, x = .ref a ∧ (∃ xs, SqT K H1 a xs) ∧ R (Itt K a) H1
theorem pi_list {l : Expr} {tl : TE} (hl : PE X l tl) : PI X tg l (iList X.K tl) := by
  intro pins s σ H R I h
  refine thn (hl pins s σ H _ I h) fun v s1 ⟨x, H1, I1, r1, q1⟩ => ?_
  obtain ⟨a, e, ⟨xs, hq⟩, q⟩ := q1
  subst e
  cases r1
  obtain ⟨its, rv, p, hz⟩ := I1.list hq
  refine wpAny_pyIter_list p.isList ?_
  refine ⟨s1.heap.objs.size, [s1.heap.objs.size], _, _, H1, rfl, I1.kept (t' := s1.toks) fun b o e => Heap.get?_push_of_some _ e, turn_list a _, ⟨_, Heap.get?_push_size _ rfl, rfl, rfl⟩, fun b hb => ?_, q⟩
  have e : b = s1.heap.objs.size := by simpa using hb
  subst e
  exact I1.fpOk (Nat.le_refl _) (I1.hok.fresh (Nat.le_refl _))
/-- a range object just made, walked -/
theorem range_it {pins : List (Addr × Obj)} {σ : St} {H : Hp} {s : Shared} {R : It → Hp → Prop} {E : Value → Shared → Prop} {lo hi : Int} {t u v : Tok} {tk : Nat} (I : Inv X pins σ H s) (h1 : -(2 ^ 62) ≤ lo) (h2 : lo < 2 ^ 62) (h3 : -(2 ^ 62) ≤ hi) (h4 : hi < 2 ^ 62)
    (q : R (Itr lo (hi - lo).toNat) H) : wpAny (model X.prog X.w) X.A (pyIter (.ref s.heap.objs.size)) (PIE X pins σ tg R) E { s with heap := s.heap.push { cls := .type "range", data := .fields #[.int lo t, .int hi u, .int 1 v] }, toks := tk } := by
  refine wpAny_pyIter_range (IsRange.new ..) (small_one h1 h2 h3 h4) ?_
  have I1 : Inv X pins σ H { s with heap := s.heap.push { cls := .type "range", data := .fields #[.int lo t, .int hi u, .int 1 v] }, toks := tk } := I.kept fun b o e => Heap.get?_push_of_some _ e
  refine ⟨(s.heap.push { cls := .type "range", data := .fields #[.int lo t, .int hi u, .int 1 v] }).objs.size, [(s.heap.push { cls := .type "range", data := .fields #[.int lo t, .int hi u, .int 1 v] }).objs.size], _, _, H, rfl,
    I1.kept (t' := tk) fun b o e => Heap.get?_push_of_some _ e, turn_range _ lo (hi - lo).toNat, ?_, fun b hb => ?_, q⟩
  · have e1 : lo + ((0 : Nat) : Int) * 1 = lo := by simp
    have e2 : (((hi - lo).toNat : Nat) : Int) - ((0 : Nat) : Int) = Builtin.Range.rangeSize lo hi 1 := by rw [rangeSize_one]; split <;> omega
    show IsRangeIter _ _ (lo + ((0 : Nat) : Int) * 1) ((((hi - lo).toNat : Nat) : Int) - ((0 : Nat) : Int)) 1
    rw [e1, e2]
    exact Heap.get?_push_size _ rfl
  · have e : b = (s.heap.push { cls := .type "range", data := .fields #[.int lo t, .int hi u, .int 1 v] }).objs.size := by simpa using hb
    subst e
    exact I1.fpOk (Nat.le_refl _) (I1.hok.fresh (Nat.le_refl _))
def iRng1 (ta : TA) : TI := fun σ H R => ta σ H fun vs H1 => ∃ j : Int, vs = [.int j] ∧ -(2 ^ 62) ≤ j ∧ j < 2 ^ 62 ∧ R (Itr 0 j.toNat) H1
def iRng2 (ta : TA) : TI := fun σ H R => ta σ H fun vs H1 => ∃ i j : Int, vs = [.int i, .int j] ∧ (-(2 ^ 62) ≤ i ∧ i < 2 ^ 62 ∧ -(2 ^ 62) ≤ j ∧ j < 2 ^ 62) ∧ R (Itr i (j - i).toNat) H1
theorem pi_range1 {a : Expr} {ta : TA} {p pos : Pos} (hg : Gl X "range") (hm : X.mg "range" = none) (ha : PA X [a] ta) (hs : starEach [a] X.env = [(false, eval a X.env)] := by rfl) : PI X tg (.Call (.Name "range" p) [a] [] pos) (iRng1 ta) := by
  intro pins s σ H R I h
  refine Call_ (ld_blt I hg hm boot_range (PyProof.Rows.callWith_type1 (thn (ha pos pins s σ H _ I h) fun us s1 ⟨vs, H1, I1, r1, q1⟩ => ?_) hs rfl))
  obtain ⟨j, e, q1, q2, q⟩ := q1
  subst e
  cases r1 with
  | cons r rr =>
    cases rr
    obtain ⟨t, rfl⟩ := r
    exact call_range_1 (range_it I1 (by omega) (by omega) q1 q2 (by simpa using q))
/-! ### for -/
/-- W: the invariant by the turn and a measure; N: what the body is to reach -/
def tFor (wi : TI) (g : TG) (tb : TS) : TS := fun D σ H => wi σ H fun J H1 => ∃ W : Nat → Nat → St → Hp → Prop, (∃ m, W 0 m σ H1) ∧ ∀ i m σ H, W i m σ H →
  (J.stop i H ∧ D.nx σ H) ∨ (J.go i H ∧ ∃ N : St → Hp → Prop, (∀ σ' H', N σ' H' → ∃ m', m' < m ∧ W (i + 1) m' σ' H') ∧ ∀ x H', J.yld i H x H' → g x σ H' fun σ2 H2 => tb { D with nx := N, ct := N, bk := D.nx } σ2 H2)
/-- the records at fp as they stand -/
def pinsAt (fp : List Addr) (h : Heap) : List (Addr × Obj) := fp.filterMap fun b => (h.get? b).map fun o => (b, o)
theorem mem_pinsAt {fp : List Addr} {h : Heap} {b : Addr} {o : Obj} (hb : b ∈ fp) (e : h.get? b = some o) : (b, o) ∈ pinsAt fp h := List.mem_filterMap.mpr ⟨b, hb, by rw [e]; rfl⟩
theorem of_pinsAt {fp : List Addr} {h : Heap} {p : Addr × Obj} (hp : p ∈ pinsAt fp h) : p.1 ∈ fp ∧ h.get? p.1 = some p.2 := by
  obtain ⟨b, hb, e⟩ := List.mem_filterMap.mp hp
  cases q : h.get? b with
  | none => rw [q] at e; cases e
  | some o =>
    rw [q] at e
    have e' : (b, o) = p := Option.some.inj e
    subst e'
    exact ⟨hb, q⟩
theorem Inv.pinned {pins : List (Addr × Obj)} {σ : St} {H : Hp} {s : Shared} {fp : List Addr} (I : Inv X pins σ H s) (hf : ∀ b ∈ fp, FpOk X pins H b) (ho : ∀ b ∈ fp, ∃ o, s.heap.get? b = some o ∧ ∀ v, o.data ≠ .cell v) : Inv X (pins ++ pinsAt fp s.heap) σ H s :=
  I.pins_of fun p hp => (List.mem_append.mp hp).elim (fun z => I.pin p (List.mem_append_right _ z)) fun z => by
    obtain ⟨hb, e⟩ := of_pinsAt z
    obtain ⟨f0, f1, f2, _⟩ := hf p.1 hb
    obtain ⟨o, e', d⟩ := ho p.1 hb
    rw [e] at e'; cases e'
    exact ⟨e, f0, f1, f2, d⟩
theorem Inv.unpinned {pins pl : List (Addr × Obj)} {σ : St} {H : Hp} {s : Shared} (I : Inv X (pins ++ pl) σ H s) : Inv X pins σ H s := I.pins_of fun p hp => I.pin p (List.mem_append_right _ (List.mem_append_left _ hp))
theorem ps_for {iter : Expr} {body : List Stmt} {wi : TI} {g : TG} {tb : TS} {pos : Pos} (hp : PassesOwn (model X.prog X.w) X.A X.env X.xe) (hc : X.calm = true) (hi : PI X tg iter wi) (hg : PG X tg g) (hb : PSs X body tb)
    (hs : ∀ x, foldedSetIterable iter X.env x = pure x := by intro _; rfl) : PS X (.For tg iter body [] pos) (tFor wi g tb) := by
  intro pins s σ H D I h
  refine wpAny_For (thn (hi pins s σ H _ I h) fun v s1 h1 => thn h1 fun itv s2 h2 => ?_) hs
  obtain ⟨it, fp, tn, J, H2, e, I2, T, st2, f2, W, ⟨m0, w0⟩, turn⟩ := h2
  subst e
  -- what stays true of the iterator's objects through the loop
  have stat : ∀ {H' : Hp}, (∀ b ∈ fp, H' b = none) → ∀ b ∈ fp, FpOk X pins H' b := fun hn b hb => ⟨hn b hb, (f2 b hb).2⟩
  refine codeAny_forLoop_any (fun n s' => ∃ i σ' H', Inv X pins σ' H' s' ∧ tn i s'.heap ∧ (∀ b ∈ fp, H' b = none) ∧ W i n σ' H') ?_ m0 ⟨0, σ, H2, I2, st2, fun b hb => (f2 b hb).1, w0⟩
  rintro n s3 ⟨i, σ3, H3, I3, st3, fr3, w3⟩
  rcases turn i n σ3 H3 w3 with ⟨stop, qn⟩ | ⟨go, N, hN, step⟩
  · refine wpAny_passesOwn hp (thn (T.done X rfl rfl rfl hc i pins s3 σ3 H3 X.xe I3 (stat fr3) st3 stop) fun r s4 ⟨hr, I4⟩ => ?_)
    subst hr
    exact wpAny_execs_nil ⟨σ3, H3, I4, qn⟩
  · refine wpAny_passesOwn hp (thn (T.item X rfl rfl rfl hc i pins s3 σ3 H3 X.xe I3 (stat fr3) st3 go) fun r s4 ⟨u, hr, h4⟩ => ?_)
    subst hr
    refine wpAny_passesOwn hp (thn h4 fun _ s5 ⟨x, H5, I5, r5, y5, st5, fr5⟩ => ?_)
    have I5' := I5.pinned (stat fr5) (T.obj _ _ st5)
    refine wpAny_passesOwn hp (thn (hg _ s5 σ3 H5 x u _ I5' r5 (step x H5 y5)) fun _ s6 ⟨σ6, H6, I6, q6⟩ => ?_)
    refine wpAny_passesOwn hp (thn (hb _ s6 σ6 H6 _ I6 q6) fun f s7 q7 => ?_)
    have again : ∀ {σ7 : St} {H7 : Hp}, Inv X (pins ++ pinsAt fp s5.heap) σ7 H7 s7 → N σ7 H7 → ∃ m, m < n ∧ ∃ i σ' H', Inv X pins σ' H' s7 ∧ tn i s7.heap ∧ (∀ b ∈ fp, H' b = none) ∧ W i m σ' H' := fun {σ7 H7} I7 n7 => by
      obtain ⟨m', hm, w7⟩ := hN σ7 H7 n7
      refine ⟨m', hm, i + 1, σ7, H7, I7.unpinned, T.keep _ _ _ st5 fun b hb o e => (I7.pin (b, o) (List.mem_append_right _ (List.mem_append_right _ (mem_pinsAt hb e)))).1, fun b hb => ?_, w7⟩
      obtain ⟨o, e, d⟩ := T.obj _ _ st5 b hb
      exact (I7.pin (b, o) (List.mem_append_right _ (List.mem_append_right _ (mem_pinsAt hb e)))).2.1
    cases f with
    | next => obtain ⟨σ7, H7, I7, n7⟩ := q7; exact again I7 n7
    | cont => obtain ⟨σ7, H7, I7, n7⟩ := q7; exact again I7 n7
    | brk => obtain ⟨σ7, H7, I7, q7⟩ := q7; exact ⟨σ7, H7, I7.unpinned, q7⟩
    | ret v => obtain ⟨x7, σ7, H7, I7, r7, q7⟩ := q7; exact ⟨x7, σ7, H7, I7.unpinned, r7, q7⟩
end

/-! ### the forms one uses -/
/-- over a list that the body leaves as it is -/
theorem for_list {K : PySem.W.Frag} {a : Addr} {xs : List V} {g : TG} {tb : TS} {D : Ends} {σ : St} {H : Hp} (Pv : Nat → St → Hp → Prop) (h0 : Pv 0 σ H) (hl : ∀ i σ H, i ≤ xs.length → Pv i σ H → SqL K H a xs)
    (hs : ∀ i x σ H, xs[i]? = some x → Pv i σ H → g x σ H fun σ2 H2 => tb { D with nx := Pv (i + 1), ct := Pv (i + 1), bk := D.nx } σ2 H2) (hd : ∀ σ H, Pv xs.length σ H → D.nx σ H) :
    ∃ W : Nat → Nat → St → Hp → Prop, (∃ m, W 0 m σ H) ∧ ∀ i m σ H, W i m σ H →
      ((Itl K a).stop i H ∧ D.nx σ H) ∨ ((Itl K a).go i H ∧ ∃ N : St → Hp → Prop, (∀ σ' H', N σ' H' → ∃ m', m' < m ∧ W (i + 1) m' σ' H') ∧ ∀ x H', (Itl K a).yld i H x H' → g x σ H' fun σ2 H2 => tb { D with nx := N, ct := N, bk := D.nx } σ2 H2) := by
  refine ⟨fun i m σ H => m = xs.length - i ∧ i ≤ xs.length ∧ Pv i σ H, ⟨xs.length, by simp, Nat.zero_le _, h0⟩, ?_⟩
  rintro i m σ H ⟨rfl, hi, p⟩
  have q := hl i σ H hi p
  by_cases hlt : i < xs.length
  · refine .inr ⟨⟨xs, xs[i], q, by simp [hlt]⟩, Pv (i + 1), fun σ' H' p' => ⟨xs.length - (i + 1), by omega, rfl, hlt, p'⟩, fun x H' y => ?_⟩
    obtain ⟨e, y⟩ := y
    subst e
    exact hs i x σ _ (y xs q) p
  · have e : i = xs.length := by omega
    subst e
    exact .inl ⟨⟨xs, q, Nat.le_refl _⟩, hd σ H p⟩
theorem for_range {lo : Int} {n : Nat} {g : TG} {tb : TS} {D : Ends} {σ : St} {H : Hp} (Pv : Nat → St → Hp → Prop) (h0 : Pv 0 σ H)
    (hs : ∀ i σ H, i < n → Pv i σ H → g (.int (lo + i)) σ H fun σ2 H2 => tb { D with nx := Pv (i + 1), ct := Pv (i + 1), bk := D.nx } σ2 H2) (hd : ∀ σ H, Pv n σ H → D.nx σ H) :
    ∃ W : Nat → Nat → St → Hp → Prop, (∃ m, W 0 m σ H) ∧ ∀ i m σ H, W i m σ H →
      ((Itr lo n).stop i H ∧ D.nx σ H) ∨ ((Itr lo n).go i H ∧ ∃ N : St → Hp → Prop, (∀ σ' H', N σ' H' → ∃ m', m' < m ∧ W (i + 1) m' σ' H') ∧ ∀ x H', (Itr lo n).yld i H x H' → g x σ H' fun σ2 H2 => tb { D with nx := N, ct := N, bk := D.nx } σ2 H2) := by
  refine ⟨fun i m σ H => m = n - i ∧ i ≤ n ∧ Pv i σ H, ⟨n, by simp, Nat.zero_le _, h0⟩, ?_⟩
  rintro i m σ H ⟨rfl, hi, p⟩
  by_cases hlt : i < n
  · refine .inr ⟨hlt, Pv (i + 1), fun σ' H' p' => ⟨n - (i + 1), by omega, rfl, hlt, p'⟩, fun x H' y => ?_⟩
    obtain ⟨e, y⟩ := y
    subst e y
    exact hs i σ _ hlt p
  · have e : i = n := by omega
    subst e
    exact .inl ⟨Nat.le_refl _, hd σ H p⟩
/-- while, by a word and a measure of the state -/
theorem while_by {c : TT} {tb : TS} {D : Ends} {σ : St} {H : Hp} (Pv : St → Hp → Prop) (μ : St → Hp → Nat) (h0 : Pv σ H)
    (hs : ∀ σ H, Pv σ H → c σ H fun b H1 => if b = true then tb { D with nx := fun σ' H' => Pv σ' H' ∧ μ σ' H' < μ σ H, ct := fun σ' H' => Pv σ' H' ∧ μ σ' H' < μ σ H, bk := D.nx } σ H1 else D.nx σ H1)
    (mono : ∀ σ H Q Q', (∀ b H1, Q b H1 → Q' b H1) → c σ H Q → c σ H Q') : tWhile c tb D σ H := by
  refine ⟨fun m σ H => m = μ σ H ∧ Pv σ H, ⟨_, rfl, h0⟩, ?_⟩
  rintro m σ H ⟨rfl, p⟩
  refine mono σ H _ _ (fun b H1 q => ?_) (hs σ H p)
  cases b with
  | true => exact ⟨_, fun σ' H' ⟨p', l⟩ => ⟨_, l, rfl, p'⟩, q⟩
  | false => exact q
end L2

namespace L2
open PySem PySem.Spec PyProof.Rows

abbrev R2 := V → V → Hp → VK → Prop
/-- a two-place operation on values: f is binaryOp op, inplaceOp op or compareOp op -/
def OpR (X : Cx) (f : Value → Value → Sem Value) (r : R2) : Prop :=
  ∀ (pins : List (Addr × Obj)) (s : Shared) (σ : St) (H : Hp) (x y : V) (v u : Value) (Q : VK), Inv X pins σ H s → RelV x v → RelV y u → r x y H Q →
    wpAny (model X.prog X.w) X.A (f v u) (EP X pins σ Q) X.xe s
/-- a one-place operation -/
def UnR (X : Cx) (f : Value → Sem Value) (r : V → Hp → VK → Prop) : Prop :=
  ∀ (pins : List (Addr × Obj)) (s : Shared) (σ : St) (H : Hp) (x : V) (v : Value) (Q : VK), Inv X pins σ H s → RelV x v → r x H Q →
    wpAny (model X.prog X.w) X.A (f v) (EP X pins σ Q) X.xe s
/-- a call of a value that is known (a builtin, a type) with values -/
def CallR (X : Cx) (f : Value) (r : List V → Hp → VK → Prop) : Prop :=
  ∀ (pins : List (Addr × Obj)) (s : Shared) (σ : St) (H : Hp) (xs : List V) (us : List Value) (Q : VK), Inv X pins σ H s → Vals xs us → r xs H Q →
    wpAny (model X.prog X.w) X.A (call f us) (EP X pins σ Q) X.xe s
/-- a value's truth -/
def TruR (X : Cx) (r : V → Hp → (Bool → Hp → Prop) → Prop) : Prop :=
  ∀ (pins : List (Addr × Obj)) (s : Shared) (σ : St) (H : Hp) (x : V) (v : Value) (Q : Bool → Hp → Prop), Inv X pins σ H s → RelV x v → r x H Q →
    wpAny (model X.prog X.w) X.A (truthy v) (TP X pins σ Q) X.xe s

def tOp (r : R2) (ta tb : TE) : TE := fun σ H Q => ta σ H fun x H1 => tb σ H1 fun y H2 => r x y H2 Q
def tUn (r : V → Hp → VK → Prop) (ta : TE) : TE := fun σ H Q => ta σ H fun x H1 => r x H1 Q
/-- ints in, under C, and a value out -/
def rI (C : Int → Int → Prop) (g : Int → Int → V) : R2 := fun x y H Q => ∃ i j, x = .int i ∧ y = .int j ∧ C i j ∧ Q (g i j) H
def rI0 (g : Int → Int → V) : R2 := fun x y H Q => ∃ i j, x = .int i ∧ y = .int j ∧ Q (g i j) H
def rU (g : Int → V) : V → Hp → VK → Prop := fun x H Q => ∃ i, x = .int i ∧ Q (g i) H

section
variable {X : Cx} {a b c : Expr} {ta tb tc : TE} {pos : Pos}

theorem binT (ha : PE X a ta) (hb : PE X b tb) {pins : List (Addr × Obj)} {s : Shared} {σ : St} {H : Hp} {R : V → V → Hp → Prop} (I : Inv X pins σ H s)
    (h : ta σ H fun x H1 => tb σ H1 fun y H2 => R x y H2) {Q : Value → Shared → Prop} {f : Value → Value → Sem Value}
    (hf : ∀ v u s2 x y H2, Inv X pins σ H2 s2 → RelV x v → RelV y u → R x y H2 → wpAny (model X.prog X.w) X.A (f v u) Q X.xe s2) :
    wpAny (model X.prog X.w) X.A (eval a X.env) (fun v s₁ => wpAny (model X.prog X.w) X.A (eval b X.env) (fun u s₂ => wpAny (model X.prog X.w) X.A (f v u) Q X.xe s₂) X.xe s₁) X.xe s := by
  refine thn (ha pins s σ H _ I h) fun v s1 ⟨x, H1, I1, r1, q1⟩ => ?_
  refine thn (hb pins s1 σ H1 _ I1 q1) fun u s2 ⟨y, H2, I2, r2, q2⟩ => ?_
  exact hf v u s2 x y H2 I2 r1 r2 q2

theorem pe_op {op : Operator} {r : R2} (ho : OpR X (binaryOp op) r) (ha : PE X a ta) (hb : PE X b tb) : PE X (.BinOp a op b pos) (tOp r ta tb) := by
  intro pins s σ H Q I h
  exact wpAny_BinOp (binT ha hb I h fun v u s2 x y H2 I2 rx ry q => ho pins s2 σ H2 x y v u Q I2 rx ry q)
theorem pe_un {op : UnaryOp} {r : V → Hp → VK → Prop} (ho : UnR X (unaryOp op) r) (ha : PE X a ta) : PE X (.UnaryOp op a pos) (tUn r ta) := by
  intro pins s σ H Q I h
  exact UnaryOp_ (thn (ha pins s σ H _ I h) fun v s1 ⟨x, H1, I1, r1, q1⟩ => ho pins s1 σ H1 x v Q I1 r1 q1)
/-! ### ints -/
theorem opI {f : Value → Value → Sem Value} {C : Int → Int → Prop} {g : Int → Int → Int}
    (rule : ∀ (i j : Int) (t u : Tok) (s : Shared) (Q : Value → Shared → Prop) (E : Value → Shared → Prop), C i j → Q (.int (g i j) s.toks) { s with toks := s.toks + 1 } → wpAny (model X.prog X.w) X.A (f (.int i t) (.int j u)) Q E s) :
    OpR X f (rI C fun i j => .int (g i j)) := by
  intro pins s σ H x y v u Q I rx ry h
  obtain ⟨i, j, rfl, rfl, hc, q⟩ := h
  obtain ⟨t, rfl⟩ := rx
  obtain ⟨t', rfl⟩ := ry
  exact rule i j t t' s _ _ hc ⟨.int (g i j), H, I.tok _, ⟨_, rfl⟩, q⟩
theorem opI0 {f : Value → Value → Sem Value} {g : Int → Int → Int}
    (rule : ∀ (i j : Int) (t u : Tok) (s : Shared) (Q : Value → Shared → Prop) (E : Value → Shared → Prop), Q (.int (g i j) s.toks) { s with toks := s.toks + 1 } → wpAny (model X.prog X.w) X.A (f (.int i t) (.int j u)) Q E s) :
    OpR X f (rI0 fun i j => .int (g i j)) := by
  intro pins s σ H x y v u Q I rx ry h
  obtain ⟨i, j, rfl, rfl, q⟩ := h
  obtain ⟨t, rfl⟩ := rx
  obtain ⟨t', rfl⟩ := ry
  exact rule i j t t' s _ _ ⟨.int (g i j), H, I.tok _, ⟨_, rfl⟩, q⟩
theorem opB0 {f : Value → Value → Sem Value} {g : Int → Int → Bool}
    (rule : ∀ (i j : Int) (t u : Tok) (s : Shared) (Q : Value → Shared → Prop) (E : Value → Shared → Prop), Q (.bool (g i j)) s → wpAny (model X.prog X.w) X.A (f (.int i t) (.int j u)) Q E s) :
    OpR X f (rI0 fun i j => .bl (g i j)) := by
  intro pins s σ H x y v u Q I rx ry h
  obtain ⟨i, j, rfl, rfl, q⟩ := h
  obtain ⟨t, rfl⟩ := rx
  obtain ⟨t', rfl⟩ := ry
  exact rule i j t t' s _ _ ⟨.bl (g i j), H, I, rfl, q⟩

def CDiv (i j : Int) : Prop := 0 < j ∧ j < 1073741824
def CDivN (i j : Int) : Prop := j ≠ 0 ∧ j.natAbs < 1073741824
def CPow (i j : Int) : Prop := 0 ≤ j ∧ j ≤ 1000000 ∧ i.natAbs < 2 ^ 64
def CMul (i j : Int) : Prop := (-(2 ^ 64) < i ∧ i < 2 ^ 64) ∨ (-(2 ^ 64) < j ∧ j < 2 ^ 64)
theorem CMul.ok {i j : Int} (h : CMul i j) : IntMulOk i j := by
  rcases h with ⟨h1, h2⟩ | ⟨h1, h2⟩
  · exact .of_left (intBits_le_64 h1 h2)
  · exact .of_right (intBits_le_64 h1 h2)
theorem op_add : OpR X (binaryOp .Add) (rI0 fun i j => .int (i + j)) := opI0 fun _ _ _ _ _ _ _ q => add_int q
theorem op_sub : OpR X (binaryOp .Sub) (rI0 fun i j => .int (i - j)) := opI0 fun _ _ _ _ _ _ _ q => sub_int q
theorem op_mul : OpR X (binaryOp .Mult) (rI CMul fun i j => .int (i * j)) := opI fun _ _ _ _ _ _ _ hc q => mul_int q hc.ok
theorem unI {f : Value → Sem Value} {g : Int → Int}
    (rule : ∀ (i : Int) (t : Tok) (s : Shared) (Q : Value → Shared → Prop) (E : Value → Shared → Prop), Q (.int (g i) s.toks) { s with toks := s.toks + 1 } → wpAny (model X.prog X.w) X.A (f (.int i t)) Q E s) :
    UnR X f (rU fun i => .int (g i)) := by
  intro pins s σ H x v Q I rx h
  obtain ⟨i, rfl, q⟩ := h
  obtain ⟨t, rfl⟩ := rx
  exact rule i t s _ _ ⟨.int (g i), H, I.tok _, ⟨_, rfl⟩, q⟩
theorem un_neg : UnR X (unaryOp .USub) (rU fun i => .int (-i)) := unI fun _ _ _ _ _ q => neg_int q
/-! ### bools among ints: n += (a < b) -/
end

/-! ### comparisons -/
/-- the scalars that == tells apart as data does -/
def scal : V → V → Bool
  | .non, .non => true | .non, .int _ => true | .int _, .non => true | .non, .bl _ => true | .bl _, .non => true | .non, .str _ => true | .str _, .non => true
  | .int _, .int _ => true | .bl _, .bl _ => true | .str _, .str _ => true | .byt _, .byt _ => true
  | .int _, .str _ => true | .str _, .int _ => true | .bl _, .str _ => true | .str _, .bl _ => true
  | _, _ => false
def rEq : R2 := fun x y H Q => scal x y = true ∧ Q (.bl (decide (x = y))) H
def rNe : R2 := fun x y H Q => scal x y = true ∧ Q (.bl (!decide (x = y))) H

theorem dec_int {i j : Int} : decide (V.int i = V.int j) = (i == j) := by
  rw [Bool.eq_iff_iff]
  simp
theorem dec_bl {i j : Bool} : decide (V.bl i = V.bl j) = (i == j) := by
  rw [Bool.eq_iff_iff]
  simp
theorem dec_str {i j : Str} : decide (V.str i = V.str j) = (i == j) := by
  rw [Bool.eq_iff_iff]
  simp
theorem dec_byt {i j : Array UInt8} : decide (V.byt i = V.byt j) = (i.toList == j.toList) := by
  rw [Bool.eq_iff_iff]
  cases i
  cases j
  simp

section
variable {X : Cx} {a b c : Expr} {ta tb tc : TE} {pos : Pos}
theorem fin_bl {pins : List (Addr × Obj)} {σ : St} {H : Hp} {s : Shared} {Q : VK} {k k' : Bool} (I : Inv X pins σ H s) (q : Q (.bl k) H) (e : k = k') : EP X pins σ Q (.bool k') s := by
  subst e
  exact ⟨.bl k, H, I, rfl, q⟩
theorem op_eq : OpR X (compareOp .Eq) rEq := by
  intro pins s σ H x y v u Q I rx ry h
  obtain ⟨hs, q⟩ := h
  cases x with
  | non =>
    cases rx
    cases y with
    | non => cases ry; exact PySem.EqNone.eq_none_none (fin_bl I q (by simp))
    | bl j => cases ry; exact PySem.EqNone.eq_none_bool (fin_bl I q (by simp))
    | int j => obtain ⟨t', rfl⟩ := ry; exact PySem.EqNone.eq_none_int (fin_bl I q (by simp))
    | str j => obtain ⟨t', rfl⟩ := ry; exact PySem.EqNone.eq_none_str (fin_bl I q (by simp))
    | _ => exact absurd (show false = true from hs) Bool.false_ne_true
  | bl i =>
    cases rx
    cases y with
    | non => cases ry; exact PySem.EqNone.eq_bool_none (fin_bl I q (by simp))
    | bl j => cases ry; exact eq_bool (fin_bl I q dec_bl)
    | str j => obtain ⟨t', rfl⟩ := ry; exact PySem.EqMixed.eq_bool_str (fin_bl I q (by simp))
    | _ => exact absurd (show false = true from hs) Bool.false_ne_true
  | int i =>
    obtain ⟨t, rfl⟩ := rx
    cases y with
    | non => cases ry; exact PySem.EqNone.eq_int_none (fin_bl I q (by simp))
    | int j => obtain ⟨t', rfl⟩ := ry; exact eq_int (fin_bl I q dec_int)
    | str j => obtain ⟨t', rfl⟩ := ry; exact PySem.EqMixed.eq_int_str (fin_bl I q (by simp))
    | _ => exact absurd (show false = true from hs) Bool.false_ne_true
  | str i =>
    obtain ⟨t, rfl⟩ := rx
    cases y with
    | non => cases ry; exact PySem.EqNone.eq_str_none (fin_bl I q (by simp))
    | bl j => cases ry; exact PySem.EqMixed.eq_str_bool (fin_bl I q (by simp))
    | int j => obtain ⟨t', rfl⟩ := ry; exact PySem.EqMixed.eq_str_int (fin_bl I q (by simp))
    | str j => obtain ⟨t', rfl⟩ := ry; exact eq_str (fin_bl I q dec_str)
    | _ => exact absurd (show false = true from hs) Bool.false_ne_true
  | byt i =>
    obtain ⟨t, rfl⟩ := rx
    cases y with
    | byt j => obtain ⟨t', rfl⟩ := ry; exact PySem.W.eq_bytes (fin_bl I q dec_byt)
    | _ => exact absurd (show false = true from hs) Bool.false_ne_true
  | _ => cases y <;> exact absurd (show false = true from hs) Bool.false_ne_true
theorem op_ne : OpR X (compareOp .NotEq) rNe := by
  intro pins s σ H x y v u Q I rx ry h
  obtain ⟨hs, q⟩ := h
  cases x with
  | non =>
    cases rx
    cases y with
    | non => cases ry; exact PySem.EqNone.ne_none_none (fin_bl I q (by simp))
    | bl j => cases ry; exact PySem.EqNone.ne_none_bool (fin_bl I q (by simp))
    | int j => obtain ⟨t', rfl⟩ := ry; exact PySem.EqNone.ne_none_int (fin_bl I q (by simp))
    | str j => obtain ⟨t', rfl⟩ := ry; exact PySem.EqNone.ne_none_str (fin_bl I q (by simp))
    | _ => exact absurd (show false = true from hs) Bool.false_ne_true
  | bl i =>
    cases rx
    cases y with
    | non => cases ry; exact PySem.EqNone.ne_bool_none (fin_bl I q (by simp))
    | bl j => cases ry; exact ne_bool (fin_bl I q (congrArg not dec_bl))
    | str j => obtain ⟨t', rfl⟩ := ry; exact PySem.EqMixed.ne_bool_str (fin_bl I q (by simp))
    | _ => exact absurd (show false = true from hs) Bool.false_ne_true
  | int i =>
    obtain ⟨t, rfl⟩ := rx
    cases y with
    | non => cases ry; exact PySem.EqNone.ne_int_none (fin_bl I q (by simp))
    | int j => obtain ⟨t', rfl⟩ := ry; exact ne_int (fin_bl I q (congrArg not dec_int))
    | str j => obtain ⟨t', rfl⟩ := ry; exact PySem.EqMixed.ne_int_str (fin_bl I q (by simp))
    | _ => exact absurd (show false = true from hs) Bool.false_ne_true
  | str i =>
    obtain ⟨t, rfl⟩ := rx
    cases y with
    | non => cases ry; exact PySem.EqNone.ne_str_none (fin_bl I q (by simp))
    | bl j => cases ry; exact PySem.EqMixed.ne_str_bool (fin_bl I q (by simp))
    | int j => obtain ⟨t', rfl⟩ := ry; exact PySem.EqMixed.ne_str_int (fin_bl I q (by simp))
    | str j => obtain ⟨t', rfl⟩ := ry; exact ne_str (fin_bl I q (congrArg not dec_str))
    | _ => exact absurd (show false = true from hs) Bool.false_ne_true
  | byt i =>
    obtain ⟨t, rfl⟩ := rx
    cases y with
    | byt j => obtain ⟨t', rfl⟩ := ry; exact PySem.W.ne_bytes (fin_bl I q (congrArg not dec_byt))
    | _ => exact absurd (show false = true from hs) Bool.false_ne_true
  | _ => cases y <;> exact absurd (show false = true from hs) Bool.false_ne_true

theorem op_lt : OpR X (compareOp .Lt) (rI0 fun i j => .bl (decide (i < j))) := opB0 fun _ _ _ _ _ _ _ q => lt_int q
theorem op_le : OpR X (compareOp .LtE) (rI0 fun i j => .bl (decide (i ≤ j))) := opB0 fun _ _ _ _ _ _ _ q => le_int q
theorem op_gt : OpR X (compareOp .Gt) (rI0 fun i j => .bl (decide (j < i))) := opB0 fun _ _ _ _ _ _ _ q => gt_int q
theorem op_ge : OpR X (compareOp .GtE) (rI0 fun i j => .bl (decide (j ≤ i))) := opB0 fun _ _ _ _ _ _ _ q => ge_int q
/-- is, is not of two objects that are tracked lists or instances -/
def isObj : HO → Bool
  | .lst _ => true
  | .ins _ _ _ => true
  | _ => false
theorem nomark (b : Expr) {op : CmpOp} (h : op ≠ .In := by decide) (h2 : op ≠ .NotIn := by decide) : behindInMarks op b = false := by
  have e1 : (op == CmpOp.In) = false := by cases op <;> first | rfl | exact absurd rfl h
  have e2 : (op == CmpOp.NotIn) = false := by cases op <;> first | rfl | exact absurd rfl h2
  cases b <;> simp [behindInMarks, e1, e2]
/-- a comparison as a value; hm: nomark b, or (for in, not in) by with_unfolding_all rfl -/
theorem pe_cmpR {op : CmpOp} {r : R2} (ho : OpR X (compareOp op) r) (ha : PE X a ta) (hb : PE X b tb) (hm : behindInMarks op b = false) : PE X (.Compare a [op] [b] pos) (tOp r ta tb) := by
  intro pins s σ H Q I h
  exact wpAny_Compare1 (binT ha hb I h fun v u s2 x y H2 I2 rx ry q => ho pins s2 σ H2 x y v u Q I2 rx ry q) hm
/-- a reading of a value as a test -/
def tTest (t : TE) : TT := fun σ H Q => t σ H fun x H' => ∃ k, x = .bl k ∧ Q k H'
theorem pt_cmpR {op : CmpOp} {r : R2} (ho : OpR X (compareOp op) r) (ha : PE X a ta) (hb : PE X b tb) (hm : behindInMarks op b = false) : PT X (.Compare a [op] [b] pos) (tTest (tOp r ta tb)) := by
  intro pins s σ H Q I h
  refine wpAny_isTrue_Compare1 (thn (ha pins s σ H _ I h) fun v s1 ⟨x, H1, I1, r1, q1⟩ => thn (hb pins s1 σ H1 _ I1 q1) fun u s2 ⟨y, H2, I2, r2, q2⟩ =>
    thn (ho pins s2 σ H2 x y v u _ I2 r1 r2 q2) fun c s3 ⟨z, H3, I3, r3, k, e, q3⟩ => ?_) hm
  subst e
  cases r3
  exact wpAny_truthy_bool ⟨H3, I3, q3⟩
/-- a op1 b op2 c -/
def tChain (r r' : R2) (ta tb tc : TE) : TE := fun σ H Q => ta σ H fun x H1 => tb σ H1 fun y H2 => r x y H2 fun z H3 => ∃ k, z = .bl k ∧
  (if k = true then tc σ H3 fun w' H4 => r' y w' H4 Q else Q (.bl false) H3)
theorem pe_chain {op op' : CmpOp} {r r' : R2} (ho : OpR X (compareOp op) r) (ho' : OpR X (compareOp op') r') (ha : PE X a ta) (hb : PE X b tb) (hc : PE X c tc)
    (hm : lastMarks [op, op'] [b, c] = false := by with_unfolding_all rfl) : PE X (.Compare a [op, op'] [b, c] pos) (tChain r r' ta tb tc) := by
  intro pins s σ H Q I h
  refine Compare_chain (thn (ha pins s σ H _ I h) fun v s1 ⟨x, H1, I1, r1, q1⟩ => chain_link (thn (hb pins s1 σ H1 _ I1 q1) fun u s2 ⟨y, H2, I2, r2, q2⟩ =>
    thn (ho pins s2 σ H2 x y v u _ I2 r1 r2 q2) fun d s3 ⟨z, H3, I3, r3, k, e, q3⟩ => ?_)) hm
  subst e
  cases r3
  refine wpAny_truthy_bool ?_
  cases k with
  | false => exact ite_ff ⟨.bl false, H3, I3, rfl, q3⟩
  | true => exact ite_tt (chain_last (thn (hc pins s3 σ H3 _ I3 q3) fun w' s4 ⟨z', H4, I4, r4, q4⟩ => ho' pins s4 σ H4 y z' u w' Q I4 r2 r4 q4))
theorem pt_chain {op op' : CmpOp} {r r' : R2} (ho : OpR X (compareOp op) r) (ho' : OpR X (compareOp op') r') (ha : PE X a ta) (hb : PE X b tb) (hc : PE X c tc)
    (hm : lastMarks [op, op'] [b, c] = false := by with_unfolding_all rfl) : PT X (.Compare a [op, op'] [b, c] pos) (tTest (tChain r r' ta tb tc)) := by
  intro pins s σ H Q I h
  refine isTrue_chain (thn (ha pins s σ H _ I h) fun v s1 ⟨x, H1, I1, r1, q1⟩ => test_link (thn (hb pins s1 σ H1 _ I1 q1) fun u s2 ⟨y, H2, I2, r2, q2⟩ =>
    thn (ho pins s2 σ H2 x y v u _ I2 r1 r2 q2) fun d s3 ⟨z, H3, I3, r3, k, e, q3⟩ => ?_)) hm
  subst e
  cases r3
  refine wpAny_truthy_bool ?_
  cases k with
  | false =>
    obtain ⟨k', e', q'⟩ := q3
    cases e'
    exact ite_ff ⟨H3, I3, q'⟩
  | true =>
    refine ite_tt (test_last (thn (hc pins s3 σ H3 _ I3 q3) fun w' s4 ⟨z', H4, I4, r4, q4⟩ => thn (ho' pins s4 σ H4 y z' u w' _ I4 r2 r4 q4) fun d' s5 ⟨z2, H5, I5, r5, k2, e2, q5⟩ => ?_))
    subst e2
    cases r5
    exact wpAny_truthy_bool ⟨H5, I5, q5⟩

/-! ### truth -/
/-- a value's truth by the abstract heap -/
def TruV (K : PySem.W.Frag) (x : V) (H : Hp) (k : Bool) : Prop :=
  match x with
  | .non => k = false
  | .bl b => k = b
  | .int i => k = (i != 0)
  | .str y => y.length ≤ sizeLine ∧ k = ((y.length : Int) != 0)
  | .byt y => y.size ≤ sizeLine ∧ k = ((y.size : Int) != 0)
  | .ref p => (∃ xs, SqL K H p xs ∧ k = !xs.isEmpty) ∨ (∃ xs, SqT K H p xs ∧ k = !xs.isEmpty) ∨ ∃ kvs, H p = some (.dK kvs) ∧ k = !kvs.isEmpty
  | _ => False
theorem line63 : (sizeLine : Nat) < 2 ^ 63 := by rw [sizeLine_eq]; decide
/-! ### strs and bytes -/
def PlainIxT (b : Expr) : Prop := ∀ o i, subscripted b false o i = operate [o, i] (getItem o i)
/-! ### scalar builtins, by CallR -/
theorem vals1 {x : V} {us : List Value} (r : Vals [x] us) : ∃ u, us = [u] ∧ RelV x u := by
  cases r with
  | cons r1 r2 => cases r2; exact ⟨_, rfl, r1⟩
theorem call_ord : CallR X (.builtin "ord") (fun xs H Q => ∃ x, xs = [.str x] ∧ x.length = 1 ∧ Q (.int (x.cps.getD 0 0 : Nat)) H) := by
  intro pins s σ H xs us Q I r h
  obtain ⟨x, rfl, hz, q⟩ := h
  obtain ⟨u, rfl, t, rfl⟩ := vals1 r
  exact ord_of_one hz ⟨.int _, H, I.tok _, ⟨_, rfl⟩, q⟩
/-- len of a str, a bytes, a list, a tuple -/
def LenV (K : PySem.W.Frag) (x : V) (H : Hp) (n : Nat) : Prop :=
  match x with
  | .str y => y.length ≤ sizeLine ∧ n = y.length
  | .byt y => y.size ≤ sizeLine ∧ n = y.size
  | .ref p => (∃ xs, SqL K H p xs ∧ n = xs.length) ∨ ∃ xs, SqT K H p xs ∧ n = xs.length
  | _ => False
end
end L2

namespace L2
open PySem PySem.Spec PyProof.Rows

/-! ### an instance, its attributes a map -/
structure ObjM (h : Heap) (x dx C : Addr) (mA : Str → Option Value) : Prop where
  obj : h.get? x = some (PySem.W.instObj C dx)
  ns : h.Ns1 dx mA
  ne : dx ≠ x

theorem lookIn_ns {h : Heap} {dx : Addr} {mA : Str → Option Value} (n : h.Ns1 dx mA) : ∃ od, h.get? dx = some od ∧ ∀ name, PySem.W.lookIn name od = some (mA name) := by
  obtain ⟨o, es, ep, ho, hd, hk, _, hm⟩ := n
  refine ⟨o, ho, fun name => ?_⟩
  have e := hm name
  unfold nsFind findBy at e
  rw [← Array.find?_toList] at e
  unfold PySem.W.lookIn
  rw [hd]
  dsimp only
  split
  · rename_i y q
    rw [q] at e
    exact congrArg some e
  · rename_i q
    rw [q] at e
    have a : es.toList.any (·.refKey) = false := by
      rw [List.any_eq_false]
      intro y hy
      obtain ⟨z, t, hkey⟩ := hk y (Array.mem_toList_iff.mp hy)
      simp [DictEntry.refKey, hkey]
    have a' : ¬ es.toList.any (·.refKey) = true := by rw [a]; exact Bool.false_ne_true
    rw [if_neg a']
    exact congrArg some e

theorem ObjM.look {h : Heap} {x dx C : Addr} {mA : Str → Option Value} (I : ObjM h x dx C mA) : ∃ od, PySem.W.InstAt h x (PySem.W.instObj C dx) C (some od) ∧ ∀ name, PySem.W.lookIn name od = some (mA name) :=
  let ⟨od, ho, hl⟩ := lookIn_ns I.ns
  ⟨od, ⟨I.obj, rfl, rfl, ho⟩, hl⟩

section
variable {prog : Program} {w : World} {A : Around} {E : Value → Shared → Prop} {s : Shared} {K : PySem.W.Frag} {x dx C f : Addr} {mA : Str → Option Value} {name : Str} {v : Value}

theorem get_map {expr : Bool} {Q : Value → Shared → Prop} (X : K.In s.heap) (I : ObjM s.heap x dx C mA) (hg : PySem.W.plainGet K C name = true) (hh : PySem.W.hasDictIn K C = true)
    (ha : PySem.W.findIn K (.ref C) name = some none) (hv : mA name = some v) (hv' : PySem.W.handedIn v = true) (h : Q v { s with toks := s.toks + 1 }) :
    wpAny (model prog w) A (getAttr (.ref x) name expr) Q E s := by
  obtain ⟨od, J, hl⟩ := I.look
  exact PySem.W.get_value X J (PySem.W.plainGet_of hg).1 (PySem.W.findObj_own hh ha rfl (by rw [hl, hv])) hv' h

theorem get_meth {pl : Sem Bool} {Q : Value × List Value → Shared → Prop} (X : K.In s.heap) (I : ObjM s.heap x dx C mA) (hg : PySem.W.plainGet K C name = true)
    (hf : PySem.W.findIn K (.ref C) name = some (some (.ref f))) (ht : PySem.W.isFn K (.ref f) = true) (hv : mA name = none) (h : Q (.ref f, [.ref x]) s) :
    wpAny (model prog w) A (getMethod (.ref x) name pl) Q E s := by
  obtain ⟨od, J, hl⟩ := I.look
  exact PySem.W.method_fn X J (PySem.W.plainGet_of hg).1 (PySem.W.plainGet_of hg).2 hf (beq_iff_eq.mp ht) (by show (PySem.W.lookIn name od).map (·.isSome) = some false; rw [hl, hv]; rfl) h

theorem set_map {ns : List Str} {Q : Unit → Shared → Prop} (X : K.In s.heap) (I : ObjM s.heap x dx C mA)
    (hs : PySem.W.findIn K (.ref C) "__setattr__" = some (some (.builtin "object.__setattr__"))) (hp : PySem.W.plainOver K C = true) (ht : PySem.W.takerIn K C name = some none) (hh : PySem.W.hasDictIn K C = true)
    (hw : PySem.Within mA ns) (hsz : ns.length ≤ sizeLine)
    (h : ∀ h', ObjM h' x dx C (fun y => if y = name then some v else mA y) → Heap.SameBut dx s.heap h' → Q () { s with heap := h', toks := s.toks + 2 }) :
    wpAny (model prog w) A (setAttr (.ref x) name v) Q E s := by
  obtain ⟨od, J, hl⟩ := I.look
  refine PySem.W.set_plain X J hs (PySem.W.osa_open (s := { s with toks := s.toks + 1 }) (r := none) X J hp ht fun b => ?_)
  obtain ⟨cd, hc, hd'⟩ := PySem.W.any_some hh
  have hx : s.heap.get? x = some ⟨.ref C, some dx, .plain, #[]⟩ := I.obj
  refine wpAny_bind (wpAny_pure (wpAny_bind (wpAny_bind (wpAny_loadPart hx (wpAny_bind (PySem.W.Looks.here (s := { s with toks := s.toks + 1 }) (PySem.W.looks_clsIn X hc) ?_))))))
  rw [hd']
  refine wpAny_pure (a := some dx) (wpAny_bind (wpAny_pure (wpAny_bind ?_)))
  refine wpAny_nsSet1 (s := { s with toks := s.toks + 1 }) I.ns fun h' hn2 hs2 => ?_
  obtain ⟨oD, esD, epD, hoD, hdD, hcD⟩ := hn2.count (PySem.Within.cons name v hw)
  refine wpAny_bind (wpAny_lookBehind hoD (by rw [hdD]; exact pastItsLine_dict (Nat.le_trans hcD (by rw [List.length_cons]; omega))) ?_)
  exact wpAny_pure (h _ ⟨(hs2.2 _ (Ne.symm I.ne)).trans I.obj, hn2, I.ne⟩ hs2)

/-- C(..): the dict at the heap's end, the instance behind it; then its __init__ -/
theorem make_map {R : Result → Shared → Prop} {vs : List Value} {kw : List (Str × Value)} (X : K.In s.heap) (hm : PySem.W.makesIn K C = true)
    (hi : PySem.W.findIn K (.ref C) "__init__" = some (some (.ref f))) (hf : PySem.W.typeIn K (.ref f) = some (.type "function"))
    (h : codeAny (model prog w) (A.under (.builtin "type.__call__" ⟨.ref C :: vs, kw⟩)) (.call (.ref f) ⟨.ref (s.heap.objs.size + 1) :: vs, kw⟩) (PySem.W.InitBack (s.heap.objs.size + 1) R)
      { s with heap := (s.heap.push PySem.W.emptyDict).push (PySem.W.instObj C s.heap.objs.size) }) :
    codeAny (model prog w) A (.call (.ref C) ⟨vs, kw⟩) R s := by
  obtain ⟨hh, g, d, t, os⟩ := s
  exact PySem.W.make_core (PySem.W.makes_of X hm) (PySem.W.looks_findIn X hi) (fun self => PySem.W.bind_fn X self hf) (.inl rfl) h
end

/-! ### the attributes as a list of pairs -/
def putF (f : Str) (v : V) : List (Str × V) → List (Str × V)
  | [] => [(f, v)]
  | (g, x) :: r => if g = f then (g, v) :: r else (g, x) :: putF f v r
theorem lookup_putF (f g : Str) (v : V) : ∀ fs : List (Str × V), (putF f v fs).lookup g = if g = f then some v else fs.lookup g
  | [] => by
    show List.lookup g [(f, v)] = _
    by_cases h : g = f
    · have hb : (g == f) = true := beq_iff_eq.mpr h
      simp only [List.lookup, hb, if_pos h]
    · have hb : (g == f) = false := beq_eq_false_iff_ne.mpr h
      simp only [List.lookup, hb, if_neg h]
  | (k, x) :: r => by
    have ih := lookup_putF f g v r
    rw [show putF f v ((k, x) :: r) = (if k = f then (k, v) :: r else (k, x) :: putF f v r) from rfl]
    by_cases hk : k = f
    · rw [if_pos hk]
      by_cases h : g = k
      · have hb : (g == k) = true := beq_iff_eq.mpr h
        simp only [List.lookup, hb, if_pos (h.trans hk)]
      · have hb : (g == k) = false := beq_eq_false_iff_ne.mpr h
        simp only [List.lookup, hb, if_neg (fun e : g = f => h (e.trans hk.symm))]
    · rw [if_neg hk]
      by_cases h : g = k
      · have hb : (g == k) = true := beq_iff_eq.mpr h
        simp only [List.lookup, hb, if_neg (fun e : g = f => hk (h.symm.trans e))]
      · have hb : (g == k) = false := beq_eq_false_iff_ne.mpr h
        simp only [List.lookup, hb]
        exact ih
theorem keys_putF (f : Str) (v : V) : ∀ fs : List (Str × V), f ∈ (putF f v fs).map (·.1) ∧ ∀ g, g ∈ fs.map (·.1) → g ∈ (putF f v fs).map (·.1)
  | [] => ⟨by simp [putF], fun g h => by simp at h⟩
  | (k, x) :: r => by
    obtain ⟨i1, i2⟩ := keys_putF f v r
    rw [show putF f v ((k, x) :: r) = (if k = f then (k, v) :: r else (k, x) :: putF f v r) from rfl]
    by_cases hk : k = f
    · rw [if_pos hk]
      subst hk
      exact ⟨by simp, fun g h => by simpa using h⟩
    · rw [if_neg hk]
      refine ⟨?_, fun g h => ?_⟩
      · rw [List.map_cons]
        exact List.mem_cons_of_mem _ i1
      · rw [List.map_cons] at h ⊢
        rcases List.mem_cons.mp h with e | e
        · exact List.mem_cons.mpr (.inl e)
        · exact List.mem_cons_of_mem _ (i2 g e)
theorem length_putF (f : Str) (v : V) : ∀ fs : List (Str × V), (putF f v fs).length ≤ fs.length + 1
  | [] => by simp [putF]
  | (k, x) :: r => by
    have ih := length_putF f v r
    rw [show putF f v ((k, x) :: r) = (if k = f then (k, v) :: r else (k, x) :: putF f v r) from rfl]
    by_cases hk : k = f
    · rw [if_pos hk, List.length_cons, List.length_cons]; omega
    · rw [if_neg hk, List.length_cons, List.length_cons]; omega

theorem RelO.some_of {v : V} {o : Option Value} (r : RelO (some v) o) : ∃ u, o = some u ∧ RelV v u := by
  cases o with
  | none => exact (show False from r).elim
  | some u => exact ⟨u, rfl, r⟩
theorem RelO.none_of {o : Option Value} (r : RelO none o) : o = none := by
  cases o with
  | none => rfl
  | some u => exact (show False from r).elim
theorem handed_of {v : V} {u : Value} (r : RelV v u) : PySem.W.handedIn u = true := by
  cases v with
  | non => cases (show u = Value.none from r); rfl
  | bl b => cases (show u = Value.bool b from r); rfl
  | int i => obtain ⟨t, e⟩ := (show ∃ t, u = Value.int i t from r); cases e; rfl
  | str x => obtain ⟨t, e⟩ := (show ∃ t, u = Value.str x t from r); cases e; rfl
  | byt b => obtain ⟨t, e⟩ := (show ∃ t, u = Value.bytes b t from r); cases e; rfl
  | flt b => obtain ⟨t, e⟩ := (show ∃ t, u = Value.float b t from r); cases e; rfl
  | ref a => cases (show u = Value.ref a from r); rfl
  | ty n => cases (show u = Value.type n from r); rfl

section
variable {P : Program} {w : World} {H H' : Hp} {h h' : Heap} {a C dx : Addr} {fs fs' : List (Str × V)}
theorem ins_get (hok : HOk P w H h) (e : H a = some (.ins C dx fs)) : ∃ mA, ObjM h a dx C mA ∧ (∀ f, RelO (fs.lookup f) (mA f)) ∧ PySem.Within mA (fs.map (·.1)) ∧ fs.length ≤ 1000 ∧ H dx = some (.own a) := by
  obtain ⟨d, z, ne, ob, mA, n, r, q⟩ := (show ObjOk P w H h a (.ins C dx fs) from hok a _ e)
  exact ⟨mA, ⟨ob, n, ne⟩, r, q, z, d⟩
end

/-! ### what of the text a class must have -/
structure Cls (K : PySem.W.Frag) (C : Addr) : Prop where
  pg : PySem.W.plainGet K C Str.empty = true
  hd : PySem.W.hasDictIn K C = true
  po : PySem.W.plainOver K C = true
  sa : PySem.W.findIn K (.ref C) "__setattr__" = some (some (.builtin "object.__setattr__"))
theorem Cls.get {K : PySem.W.Frag} {C : Addr} (c : Cls K C) (f : Str) : PySem.W.plainGet K C f = true := c.pg
/-- no class of it has the name -/
def NoAttr (K : PySem.W.Frag) (C : Addr) (f : Str) : Prop := PySem.W.findIn K (.ref C) f = some none
theorem NoAttr.taker {K : PySem.W.Frag} {C : Addr} {f : Str} (n : NoAttr K C f) : PySem.W.takerIn K C f = some none := by
  unfold PySem.W.takerIn
  rw [show PySem.W.findIn K (.ref C) f = some none from n]
  rfl
/-- a constant of the class -/
structure Con (K : PySem.W.Frag) (C : Addr) (f : Str) (v : V) (u : Value) : Prop where
  at_ : PySem.W.findIn K (.ref C) f = some (some u)
  rel : RelV v u
  get : PySem.W.specialIn K u "__get__" = some none
  cp : PySem.W.copiedNames.contains f = false
/-- a method: a plain def of the class or of one above it -/
structure Meth (K : PySem.W.Frag) (C : Addr) (m : Str) (f : Addr) : Prop where
  at_ : PySem.W.findIn K (.ref C) m = some (some (.ref f))
  fn : PySem.W.isFn K (.ref f) = true
  kp : PySem.W.keepIn K (.ref f) = true

section
variable {X : Cx} {pins : List (Addr × Obj)} {σ : St} {H : Hp} {s : Shared} {a C dx : Addr} {fs : List (Str × V)} {f : Str} {v : V} {A : Around} {E : Value → Shared → Prop}

theorem getattr_ok {b : Bool} {Q : Value → Shared → Prop} (I : Inv X pins σ H s) (e : H a = some (.ins C dx fs)) (c : Cls X.K C) (n : NoAttr X.K C f) (l : fs.lookup f = some v)
    (h : ∀ u s', Inv X pins σ H s' → RelV v u → Q u s') : wpAny (model X.prog X.w) A (getAttr (.ref a) f b) Q E s := by
  obtain ⟨mA, O, r, _, _, _⟩ := ins_get I.hok e
  obtain ⟨u, hu, ru⟩ := RelO.some_of (v := v) (o := mA f) (by rw [← l]; exact r f)
  exact get_map I.kIn O (c.get f) c.hd n hu (handed_of ru) (h u _ (I.tok _) ru)

theorem getmeth_ok {m : Str} {g : Addr} {pl : Sem Bool} {Q : Value × List Value → Shared → Prop} (I : Inv X pins σ H s) (e : H a = some (.ins C dx fs)) (c : Cls X.K C) (k : Meth X.K C m g) (l : fs.lookup m = none)
    (h : Q (.ref g, [.ref a]) s) : wpAny (model X.prog X.w) A (getMethod (.ref a) m pl) Q E s := by
  obtain ⟨mA, O, r, _, _, _⟩ := ins_get I.hok e
  have hn : mA m = none := RelO.none_of (by rw [← l]; exact r m)
  exact get_meth I.kIn O (c.get m) k.at_ k.fn hn h

theorem setattr_ok {y : V} {u : Value} {Q : Unit → Shared → Prop} (I : Inv X pins σ H s) (e : H a = some (.ins C dx fs)) (c : Cls X.K C) (n : NoAttr X.K C f) (hl : fs.length < 1000) (ry : RelV y u)
    (h : ∀ s', Inv X pins σ (upd H a (.ins C dx (putF f y fs))) s' → Q () s') : wpAny (model X.prog X.w) A (setAttr (.ref a) f u) Q E s := by
  obtain ⟨mA, O, r, wi, _, ho⟩ := ins_get I.hok e
  have hz : (fs.map (·.1)).length ≤ sizeLine := by rw [List.length_map, sizeLine_eq]; omega
  refine set_map I.kIn O c.sa c.po n.taker c.hd wi hz fun h' O' sb => h _ ?_
  have hd : ∃ o, h'.get? dx = some o := let ⟨o, _, _, e', _⟩ := O'.ns; ⟨o, e'⟩
  refine I.write (x := a) (e := dx) (by rw [e]; exact True.intro) (.inr ho) (fun b q hb z => (sb.2 b hb).trans z) hd ?_
  refine ⟨by rw [upd_ne O.ne]; exact ho, ?_, O.ne, O'.obj, _, O'.ns, fun g => ?_, fun g hg => ?_⟩
  · have := length_putF f y fs; omega
  · show RelO ((putF f y fs).lookup g) (if g = f then some u else mA g)
    rw [lookup_putF]
    by_cases q : g = f
    · rw [if_pos q, if_pos q]; exact ry
    · rw [if_neg q, if_neg q]; exact r g
  · by_cases q : g = f
    · rw [q]; exact (keys_putF f y fs).1
    · refine (keys_putF f y fs).2 g (wi g fun z => hg ?_)
      show (if g = f then some u else mA g) = none
      rw [if_neg q]; exact z

/-- a new instance, tracked, without attributes -/
theorem Inv.made (I : Inv X pins σ H s) : Inv X pins σ (upd (upd H s.heap.objs.size (.own (s.heap.objs.size + 1))) (s.heap.objs.size + 1) (.ins C s.heap.objs.size []))
    { s with heap := (s.heap.push PySem.W.emptyDict).push (PySem.W.instObj C s.heap.objs.size) } := by
  have e1 : (s.heap.push PySem.W.emptyDict).get? s.heap.objs.size = some PySem.W.emptyDict := Heap.get?_push_size s.heap rfl
  have e2 : ((s.heap.push PySem.W.emptyDict).push (PySem.W.instObj C s.heap.objs.size)).get? (s.heap.objs.size + 1) = some (PySem.W.instObj C s.heap.objs.size) := by
    have := Heap.get?_push_size (s.heap.push PySem.W.emptyDict) (o := PySem.W.instObj C s.heap.objs.size) rfl
    rwa [Heap.size_push] at this
  have e3 : (s.heap.push PySem.W.emptyDict).Ns s.heap.objs.size (fun _ => none) := ⟨PySem.W.emptyDict, #[], _, e1, rfl, (fun e he => absurd he (by simp)), fun _ => rfl⟩
  have I1 := I.laid (a := s.heap.objs.size) (o := .own (s.heap.objs.size + 1)) (h' := s.heap.push PySem.W.emptyDict) (t' := s.toks) (fun b u q => Heap.get?_push_of_some _ q) (Nat.le_refl _) ⟨_, e1⟩
  refine I1.laid (a := s.heap.objs.size + 1) (o := .ins C s.heap.objs.size []) (t' := s.toks) (fun b u q => Heap.get?_push_of_some _ q) (Nat.le_of_eq (Heap.size_push _ _)) ?_
  have ne : s.heap.objs.size ≠ s.heap.objs.size + 1 := Nat.ne_of_lt (Nat.lt_succ_self _)
  refine ⟨by rw [upd_ne ne, upd_same], Nat.zero_le _, ne, e2, fun _ => none, (Heap.Ns1.of_empty e3).at fun o q => Heap.get?_push_of_some _ q, fun _ => True.intro, fun y hy => absurd rfl hy⟩

/-- e.f where nothing but the object is asked: through attributeBase (super) and the last hold -/
theorem attr_of {prog : Program} {w : World} {env : Env} {e : Expr} {f : Str} {pos : Pos} {s : Shared} {Q : Value → Shared → Prop} (hb : attributeBase e f env (eval e env) = eval e env)
    (h : wpAny (model prog w) A (eval e env) (fun o s₁ => wpAny (model prog w) A (getAttr o f true) Q E s₁) E s) : wpAny (model prog w) A (eval (.Attribute e f pos) env) Q E s :=
  Attribute_any_ h (by rw [arm_eval_Attribute, hb])
end

/-! ### readings and rules -/
/-- e.f, an attribute of the instance -/
def tFld (K : PySem.W.Frag) (ta : TE) (f : Str) : TE := fun σ H Q => ta σ H fun x H1 => ∃ a C dx fs v, x = .ref a ∧ H1 a = some (.ins C dx fs) ∧ Cls K C ∧ NoAttr K C f ∧ fs.lookup f = some v ∧ Q v H1
/-- e.f, a constant of the class -/
def tCon (K : PySem.W.Frag) (ta : TE) (f : Str) : TE := fun σ H Q => ta σ H fun x H1 => ∃ a C dx fs v u, x = .ref a ∧ H1 a = some (.ins C dx fs) ∧ Cls K C ∧ Con K C f v u ∧ fs.lookup f = none ∧ Q v H1
/-- e.f = value -/
def sFld (K : PySem.W.Frag) (ta tv : TE) (f : Str) : TS := fun D σ H => tv σ H fun y H1 => ta σ H1 fun x H2 => ∃ a C dx fs, x = .ref a ∧ H2 a = some (.ins C dx fs) ∧ Cls K C ∧ NoAttr K C f ∧ fs.length < 1000 ∧
  D.nx σ (upd H2 a (.ins C dx (putF f y fs)))
/-- an augmented operator on two values -/
def InOp (X : Cx) (op : Operator) (rd : V → V → Hp → VK → Prop) : Prop :=
  ∀ (pins : List (Addr × Obj)) (s : Shared) (σ : St) (H : Hp) (x y : V) (u v : Value) (Q : VK), Inv X pins σ H s → RelV x u → RelV y v → rd x y H Q → wpAny (model X.prog X.w) X.A (inplaceOp op u v) (EP X pins σ Q) X.xe s
/-- e.f op= value -/
def sFldAug (K : PySem.W.Frag) (ta tv : TE) (rd : V → V → Hp → VK → Prop) (f : Str) : TS := fun D σ H => ta σ H fun x H1 => ∃ a C dx fs v, x = .ref a ∧ H1 a = some (.ins C dx fs) ∧ Cls K C ∧ NoAttr K C f ∧ fs.lookup f = some v ∧
  tv σ H1 fun y H2 => rd v y H2 fun z H3 => ∃ dx' fs', H3 a = some (.ins C dx' fs') ∧ fs'.length < 1000 ∧ D.nx σ (upd H3 a (.ins C dx' (putF f z fs')))

section
variable {X : Cx} {o e value : Expr} {f : Str} {pos pos' tpos : Pos} {ta tv : TE}
theorem pe_fld (he : PE X e ta) (hb : attributeBase e f X.env (eval e X.env) = eval e X.env) : PE X (.Attribute e f pos) (tFld X.K ta f) := by
  intro pins s σ H Q I h
  refine attr_of hb (thn (he pins s σ H _ I h) fun u s1 ⟨x, H1, I1, rx, a, C, dx, fs, v, ex, ea, c, n, l, q⟩ => ?_)
  subst ex
  obtain rfl : u = Value.ref a := rx
  exact getattr_ok I1 ea c n l fun u' s2 I2 ru => ⟨v, H1, I2, ru, q⟩
theorem ps_fld (ha : PE X o ta) (hv : PE X value tv) (hs : swapsWith value (some (.Attribute o f pos')) pos.line X.env = pure false) : PS X (.Assign [.Attribute o f pos'] value pos) (sFld X.K ta tv f) := by
  intro pins s σ H D I h
  refine plainObj_wpAny_Assign_Attribute (thn (hv pins s σ H _ I h) fun u s1 ⟨y, H1, I1, ry, q⟩ => thn (ha pins s1 σ H1 _ I1 q) fun ov s2 ⟨x, H2, I2, rx, a, C, dx, fs, ex, ea, c, n, l, q2⟩ => ?_) hs
  subst ex
  obtain rfl : ov = Value.ref a := rx
  exact setattr_ok I2 ea c n l ry fun s3 I3 => ⟨σ, _, I3, q2⟩
def rAdd : V → V → Hp → VK → Prop := fun x y H Q => ∃ i j, x = .int i ∧ y = .int j ∧ Q (.int (i + j)) H
def rSub : V → V → Hp → VK → Prop := fun x y H Q => ∃ i j, x = .int i ∧ y = .int j ∧ Q (.int (i - j)) H
end

/-! ### isinstance -/
section
variable {X : Cx} {pins : List (Addr × Obj)} {σ : St} {H : Hp} {s : Shared} {A : Around} {E : Value → Shared → Prop} {Q : Value → Shared → Prop} {c : Value} {b : Bool}
/-- the type of a value, as the fragment's deciders take it; for an instance its class -/
inductive TyOf (K : PySem.W.Frag) (H : Hp) : V → Value → Prop where
  | non : TyOf K H .non (.type "NoneType")
  | bl (x : Bool) : TyOf K H (.bl x) (.type "bool")
  | int (i : Int) : TyOf K H (.int i) (.type "int")
  | str (x : Str) : TyOf K H (.str x) (.type "str")
  | flt (x : UInt64) : TyOf K H (.flt x) (.type "float")
  | lst {a : Addr} {xs : List V} (e : H a = some (.lst xs)) : TyOf K H (.ref a) (.type "list")
  | frz {a : Addr} {o : Obj} {xs : List V} (e : H a = some (.frz o (.lst xs))) : TyOf K H (.ref a) (.type "list")
  | tup {a : Addr} {xs : List V} (e : H a = some (.tup xs)) : TyOf K H (.ref a) (.type "tuple")
  | dK {a : Addr} {kvs : List (Key × V)} (e : H a = some (.dK kvs)) : TyOf K H (.ref a) (.type "dict")
  | dT {a : Addr} {kvs : List (List Key × V)} (e : H a = some (.dT kvs)) : TyOf K H (.ref a) (.type "dict")
  | ins {a C dx : Addr} {fs : List (Str × V)} (e : H a = some (.ins C dx fs)) (cl : Cls K C) (ha : PySem.W.findIn K (.ref C) "__class__" = some (some (.builtin "object.__class__")))
      (hn : PySem.W.specialIn K (.builtin "object.__class__") "__get__" = some (some (.builtin "getset_descriptor.__get__"))) (htk : PySem.W.takesIn K (.builtin "object.__class__") = some true)
      (hm : PySem.W.mroIn K C (.type "object") = some true) : TyOf K H (.ref a) (.ref C)
end
end L2

namespace L2
open PySem PySem.Spec PyProof.Rows

/-! ### room -/
structure Room (cm : Bool) (k : Nat) (A : Around) : Prop where
  hd : cm = true → A.handled = none
  dp : A.depth + 3 * k + 5 < recursionLimit
  un : A.units + 16 * k + 200 < cLine
theorem Room.mono {cm : Bool} {j k : Nat} {A : Around} (r : Room cm k A) (h : j ≤ k) : Room cm j A := ⟨r.hd, by have := r.dp; omega, by have := r.un; omega⟩
theorem Room.deeper {cm : Bool} {k : Nat} {A : Around} (r : Room cm (k + 1) A) (env : Env) : Room cm k (A.deeper env) :=
  ⟨r.hd, by have := r.dp; show A.depth + 1 + 3 * k + 5 < _; omega, by have := r.un; show A.units + 3 + 16 * k + 200 < _; omega⟩
theorem make_depth {A : Around} {C : Addr} {us : List Value} {kw : List (Str × Value)} : (A.under (.builtin "type.__call__" ⟨.ref C :: us, kw⟩)).depth = A.depth + 1 := by
  first | rfl | simp [Around.under, Code.weight, Code.isCreation, Code.isGuard, Code.isCaller, Code.frames, Code.isFrame, guardIds]
theorem make_units {A : Around} {C : Addr} {us : List Value} {kw : List (Str × Value)} : (A.under (.builtin "type.__call__" ⟨.ref C :: us, kw⟩)).units = A.units + 1 := by
  first | rfl | simp [Around.under, Code.cUnits, Code.frames, Code.isFrame]
theorem Room.make {cm : Bool} {k : Nat} {A : Around} (r : Room cm (k + 1) A) (C : Addr) (us : List Value) (kw : List (Str × Value)) : Room cm k (A.under (.builtin "type.__call__" ⟨.ref C :: us, kw⟩)) :=
  ⟨r.hd, by have := r.dp; rw [make_depth]; omega, by have := r.un; rw [make_units]; omega⟩
theorem Room.depth {cm : Bool} {k : Nat} {A : Around} (r : Room cm k A) : A.depth < recursionLimit := by have := r.dp; omega
theorem Room.units {cm : Bool} {k : Nat} {A : Around} (r : Room cm k A) : A.units + 64 < cLine := by have := r.un; omega
theorem Room.units0 {cm : Bool} {k : Nat} {A : Around} (r : Room cm k A) : A.units < cLine := by have := r.un; omega

/-! ### argument lists and displays -/
def tNil : TA := fun _ H Q => Q [] H
def tCons (ta : TE) (tr : TA) : TA := fun σ H Q => ta σ H fun x H1 => tr σ H1 fun xs H2 => Q (x :: xs) H2
section
variable {X : Cx} {e : Expr} {es : List Expr} {te : TE} {t : TA} {pos : Pos}
theorem pa_nil : PA X [] tNil := fun _ _ _ _ H Q I h => Calls.spliced_nil ⟨[], H, I, .nil, h⟩
theorem pa_cons (ha : PE X e te) (hr : PA X es t) (hs : starEach (e :: es) X.env = (false, eval e X.env) :: starEach es X.env := by rfl) : PA X (e :: es) (tCons te t) := by
  intro pos pins s σ H Q I h
  rw [hs]
  show wpAny _ _ (spliced ((false, eval e X.env) :: backTo pos (starEach es X.env))) _ _ s
  refine Calls.spliced_cons (thn (ha pins s σ H _ I h) fun u s1 ⟨x, H1, I1, r1, q1⟩ => ?_)
  exact thn (hr pos pins s1 σ H1 _ I1 q1) fun us s2 ⟨xs, H2, I2, r2, q2⟩ => ⟨x :: xs, H2, I2, .cons r1 r2, q2⟩

/-- a tuple, a list of written items -/
def tTup (t : TA) : TE := fun σ H Q => t σ H fun xs H1 => xs.length ≤ sizeLine ∧ ∀ p, H1 p = none → Q (.ref p) (upd H1 p (.tup xs))
def tLst (t : TA) : TE := fun σ H Q => t σ H fun xs H1 => xs.length ≤ sizeLine ∧ ∀ p, H1 p = none → Q (.ref p) (upd H1 p (.lst xs))
theorem pe_tup {x1} (h : PA X es t) : PE X (.Tuple es x1 pos) (tTup t) := by
  intro pins s σ H Q I hq
  refine wpAny_Tuple_spliced (thn (h pos pins s σ H _ I hq) fun us s1 ⟨xs, H1, I1, r, z, q⟩ => ⟨by rw [← r.length]; exact z, ?_⟩)
  have hf : H1 s1.heap.objs.size = none := I1.hok.fresh (Nat.le_refl _)
  refine ⟨.ref s1.heap.objs.size, upd H1 s1.heap.objs.size (.tup xs), I1.laid (t' := s1.toks) (fun b u e => Heap.get?_push_of_some _ e) (Nat.le_refl _) ?_, rfl, q _ hf⟩
  exact ⟨z, us, r, ⟨_, Heap.get?_push_size _ rfl, rfl, _, rfl⟩⟩
theorem pe_lst (h : PA X es t) : PE X (.List es pos) (tLst t) := by
  intro pins s σ H Q I hq
  refine wpAny_List_spliced (thn (h pos pins s σ H _ I hq) fun us s1 ⟨xs, H1, I1, r, z, q⟩ => ⟨by rw [← r.length]; exact z, ?_⟩)
  have hf : H1 s1.heap.objs.size = none := I1.hok.fresh (Nat.le_refl _)
  refine ⟨.ref s1.heap.objs.size, upd H1 s1.heap.objs.size (.lst xs), I1.laid (t' := s1.toks) (fun b u e => Heap.get?_push_of_some _ e) (Nat.le_refl _) ?_, rfl, q _ hf⟩
  exact ⟨z, us, 0, r, Heap.get?_push_size _ rfl⟩
end

/-! ### what a def promises -/
/-- a def's promise: the bound arguments in the parameters' order, the heap, the wanted end, the wanted exception -/
abbrev Sp := List V → Hp → VK → XK → Prop
/-- how an exception lies behind a call (file 08 gives it): the callers' frames, abstract heap and state ahead of the call, the wish, the exception, the state -/
abbrev CXT := List Env → Hp → Shared → XK → Value → Shared → Prop

/-- the state at a call -/
structure Env0 (P : Program) (w : World) (K : PySem.W.Frag) (mg : Str → Option Value) (base : Heap) (A : Around) (outer : List Env) (s : Shared) (H : Hp) : Prop where
  frames : A.frames = some outer
  mod : Mod K mg base
  bs : ∀ b o, base.get? b = some o → s.heap.get? b = some o ∧ H b = none
  bsz : base.objs.size ≤ s.heap.objs.size
  funs : s.heap.FunFrames base outer
  frf : ∀ b ∈ frs outer, H b = none
  hok : HOk P w H s.heap
  bare : AllBare s.gens
/-- a call's end -/
def CE (outer : List Env) (P : Program) (w : World) (H : Hp) (s : Shared) (Q : VK) (u : Value) (s' : Shared) : Prop :=
  ∃ v H', s'.os = s.os ∧ AllBare s'.gens ∧ Un (frs outer) [] H H' s.heap s'.heap ∧ HOk P w H' s'.heap ∧ RelV v u ∧ Q v H'
def CR (CX : CXT) (outer : List Env) (P : Program) (w : World) (H : Hp) (s : Shared) (Q : VK) (E : XK) (r : Result) (s' : Shared) : Prop :=
  match r with
  | .ok (.ret u) => CE outer P w H s Q u s'
  | .ok _ => False
  | .error e => CX outer H s E e s'
structure FnOk (P : Program) (w : World) (K : PySem.W.Frag) (mg : Str → Option Value) (base : Heap) (CX : CXT) (cm : Bool) (k : Nat) (f : Addr) (fd : FuncData) (ps : List Str) (sp : Sp) : Prop where
  len : ∀ vs H Q E, sp vs H Q E → vs.length = ps.length
  run : ∀ (A : Around) (outer : List Env) (s : Shared) (H : Hp) (args : Args) (us : List Value) (vs : List V) (Q : VK) (E : XK), Room cm k A → Env0 P w K mg base A outer s H → BindsTo s fd args (ps.zip us) → Vals vs us → sp vs H Q E →
    codeAny (model P w) A (.call (.ref f) args) (CR CX outer P w H s Q E) s
theorem FnOk.mono {cm : Bool} {P : Program} {w : World} {K : PySem.W.Frag} {mg : Str → Option Value} {base : Heap} {CX : CXT} {j k : Nat} {f : Addr} {fd : FuncData} {ps : List Str} {sp : Sp} (F : FnOk P w K mg base CX cm j f fd ps sp) (h : j ≤ k) :
    FnOk P w K mg base CX cm k f fd ps sp := ⟨F.len, fun A outer s H args us vs Q E hr => F.run A outer s H args us vs Q E (hr.mono h)⟩
/-- a weaker promise -/
theorem FnOk.imp {cm : Bool} {P : Program} {w : World} {K : PySem.W.Frag} {mg : Str → Option Value} {base : Heap} {CX : CXT} {k : Nat} {f : Addr} {fd : FuncData} {ps : List Str} {sp sp' : Sp} (F : FnOk P w K mg base CX cm k f fd ps sp)
    (h : ∀ vs H Q E, sp' vs H Q E → sp vs H Q E) : FnOk P w K mg base CX cm k f fd ps sp' :=
  ⟨fun vs H Q E q => F.len vs H Q E (h _ _ _ _ q), fun A outer s H args us vs Q E hr he hb hv hs => F.run A outer s H args us vs Q E hr he hb hv (h _ _ _ _ hs)⟩

theorem Env0.make {P : Program} {w : World} {K : PySem.W.Frag} {mg : Str → Option Value} {base : Heap} {A : Around} {outer : List Env} {s : Shared} {H : Hp} (e : Env0 P w K mg base A outer s H) (C : Addr) (us : List Value) (kw : List (Str × Value)) :
    Env0 P w K mg base (A.under (.builtin "type.__call__" ⟨.ref C :: us, kw⟩)) outer s H := ⟨by first | exact e.frames | (simpa [Around.under, Code.envs, Code.isFrame, pushEnvs] using e.frames), e.mod, e.bs, e.bsz, e.funs, e.frf, e.hok, e.bare⟩
section
variable {X : Cx} {pins : List (Addr × Obj)} {σ : St} {H : Hp} {s s' : Shared}
/-- from a body: what a callee wants -/
theorem Inv.env0 (I : Inv X pins σ H s) : Env0 X.prog X.w X.K X.mg X.base X.A X.stack s H :=
  ⟨I.ok.frames, I.ok.mod, I.bs, Nat.le_trans I.ok.bsz I.sz, I.stack, I.stkFree, I.hok, I.bare⟩
/-- behind a call -/
theorem Inv.after {Q : VK} {u : Value} (I : Inv X pins σ H s) (h : CE X.stack X.prog X.w H s Q u s') : EP X pins σ Q u s' := by
  obtain ⟨v, H', os, bare, un, hok, r, q⟩ := h
  obtain ⟨hh, g, d, t, os'⟩ := s'
  obtain rfl : os' = s.os := os
  exact ⟨v, H', I.call (h' := hh) (g' := g) (d' := d) (t' := t) (ch := []) un hok bare (fun b z => absurd z (by simp)), r, q⟩
end

/-! ### calls -/
/-- f(..): the written arguments, then the defaults dvs; E: what is wanted of an exception -/
def tCall (sp : Sp) (dvs : List V) (E : St → XK) (t : TA) : TE := fun σ H Q => t σ H fun vs H1 => sp (vs ++ dvs) H1 Q (E σ)
/-- o.m(..) of an instance of the class at C -/
def tMeth (C : Addr) (m : Str) (sp : Sp) (dvs : List V) (E : St → XK) (ta : TE) (t : TA) : TE := fun σ H Q => ta σ H fun x H1 => ∃ a dx fs, x = .ref a ∧ H1 a = some (.ins C dx fs) ∧ fs.lookup m = none ∧
  t σ H1 fun vs H2 => sp (x :: (vs ++ dvs)) H2 Q (E σ)
/-- C(..): a new instance and its dict, then __init__ -/
def tMake (C : Addr) (sp : Sp) (dvs : List V) (E : St → XK) (t : TA) : TE := fun σ H Q => t σ H fun vs H1 => ∀ x dx, H1 x = none → H1 dx = none → dx ≠ x →
  sp (.ref x :: (vs ++ dvs)) (upd (upd H1 dx (.own x)) x (.ins C dx [])) (fun v H2 => v = .non ∧ Q (.ref x) H2) (E σ)

/-- how the parameters are bound: us the positional arguments, kw the keywords' values by name, ds the defaults that fill up -/
def Binds (K : PySem.W.Frag) (fd : FuncData) (ps : List Str) (ds : List Value) : Prop :=
  ∀ (s : Shared) (us : List Value), K.In s.heap → (us ++ ds).length = ps.length → BindsTo s fd ⟨us, []⟩ (ps.zip (us ++ ds))
/-- every parameter is given -/
theorem Binds.all {K : PySem.W.Frag} {fd : FuncData} {ps : List Str} (h : ∀ us : List Value, us.length = ps.length → bindArgs fd ⟨us, []⟩ = pure (ps.zip us)) : Binds K fd ps [] := fun s us _ hl => by
  rw [List.append_nil] at hl ⊢
  exact .of_eq (h us hl)

/-- an exception of a callee reaches what this body wants of exceptions -/
def Passes (CX : CXT) (X : Cx) (E : St → XK) : Prop := ∀ (pins : List (Addr × Obj)) (σ : St) (H : Hp) (s : Shared) (e : Value) (s' : Shared), Inv X pins σ H s → CX X.stack H s (E σ) e s' → X.xe e s'

section
variable {X : Cx} {CX : CXT} {k : Nat} {f C : Addr} {fd : FuncData} {ps : List Str} {sp : Sp} {dvs : List V} {ds : List Value} {E : St → XK} {x m : Str} {p pos apos : Pos} {e o : Expr} {es : List Expr} {ta : TE} {t : TA}

/-- the callee runs -/
theorem run_fn {cm : Bool} {pins : List (Addr × Obj)} {σ : St} {H : Hp} {s : Shared} {Q : VK} {us : List Value} {vs : List V} (F : FnOk X.prog X.w X.K X.mg X.base CX cm k f fd ps sp) (hr : Room cm k X.A) (hb : Binds X.K fd ps ds) (hd : Vals dvs ds) (hx : Passes CX X E)
    (I : Inv X pins σ H s) (r : Vals vs us) (h : sp (vs ++ dvs) H Q (E σ)) : wpAny (model X.prog X.w) X.A (call (.ref f) us) (EP X pins σ Q) X.xe s := by
  have r2 : Vals (vs ++ dvs) (us ++ ds) := r.append hd
  have hl : (us ++ ds).length = ps.length := by rw [← r2.length]; exact F.len _ _ _ _ h
  refine wpAny_call (codeAny_mono (F.run X.A X.stack s H ⟨us, []⟩ (us ++ ds) (vs ++ dvs) Q (E σ) hr I.env0 (hb s us I.kIn hl) r2 h) fun r s' hq => ?_)
  cases r with
  | error e => exact hx pins σ H s e s' I hq
  | ok fl =>
    cases fl with
    | ret u => exact I.after hq
    | next => exact False.elim hq
    | brk => exact False.elim hq
    | cont => exact False.elim hq

theorem pe_call {cm : Bool} (F : FnOk X.prog X.w X.K X.mg X.base CX cm k f fd ps sp) (hr : Room cm k X.A) (hg : Gl X x) (hm : X.mg x = some (.ref f)) (hk : PySem.W.keepIn X.K (.ref f) = true) (hb : Binds X.K fd ps ds) (hd : Vals dvs ds) (hx : Passes CX X E)
    (ha : PA X (e :: es) t) (hdb : (x == ("__debug__" : Str)) = false := by decide) (he : starEach (e :: es) X.env = (false, eval e X.env) :: starEach es X.env := by rfl) (hpl : (backTo pos (starEach es X.env)).any (·.1) = false := by rfl) :
    PE X (.Call (.Name x p) (e :: es) [] pos) (tCall sp dvs E t) := by
  intro pins s σ H Q I h
  refine wpAny_Call_Name_kw (ld_glob I hg hm ?_ hdb)
  refine PySem.W.callWith_K (h₀ := X.base) I.ok.mod.kin hk (thn (ha pos pins s σ H _ I h) fun us s1 ⟨vs, H1, I1, r, q⟩ => ⟨I1.kIn, ?_⟩) he hpl
  exact run_fn F hr hb hd hx I1 r q
/-- o.m(e, ..) -/
theorem pe_meth {cm : Bool} {pl : Sem Bool} (he : PE X o ta) (c : Cls X.K C) (hm : Meth X.K C m f) (F : FnOk X.prog X.w X.K X.mg X.base CX cm k f fd ps sp) (hr : Room cm k X.A) (hb : Binds X.K fd ps ds) (hd : Vals dvs ds) (hx : Passes CX X E) (ha : PA X (e :: es) t)
    (hst : starEach (e :: es) X.env = (false, eval e X.env) :: starEach es X.env := by rfl) (hpl : (backTo pos (starEach es X.env)).any (·.1) = false := by rfl)
    (ht : eval (.Call (.Attribute o m apos) (e :: es) [] pos) X.env = (do
      let ov ← eval o X.env
      standAt apos.atName
      let (f, first) ← holding [ov] (getMethod ov m pl)
      callWith pos f first (backTo pos (starEach (e :: es) X.env)) (backToKw pos (keywordEach [] X.env))) := by rfl) :
    PE X (.Call (.Attribute o m apos) (e :: es) [] pos) (tMeth C m sp dvs E ta t) := by
  intro pins s σ H Q I h
  refine PySem.W.methodCall_KW (pl := pl) (thn (he pins s σ H _ I h) fun u s1 ⟨x, H1, I1, rx, a, dx, fs, ex, ea, l, q⟩ => ?_) ht
  subst ex
  obtain rfl : u = Value.ref a := rx
  refine getmeth_ok I1 ea c hm l ?_
  refine PySem.W.callWith_K (first := [.ref a]) (h₀ := X.base) I.ok.mod.kin hm.kp (thn (ha pos pins s1 σ H1 _ I1 q) fun us s2 ⟨vs, H2, I2, r, q2⟩ => ⟨I2.kIn, ?_⟩) hst hpl
  exact run_fn (us := .ref a :: us) (vs := .ref a :: vs) F hr hb hd hx I2 (.cons rfl r) q2
/-- o.m() -/
theorem pe_meth0 {cm : Bool} {pl : Sem Bool} (he : PE X o ta) (c : Cls X.K C) (hm : Meth X.K C m f) (F : FnOk X.prog X.w X.K X.mg X.base CX cm k f fd ps sp) (hr : Room cm k X.A) (hb : Binds X.K fd ps ds) (hd : Vals dvs ds) (hx : Passes CX X E)
    (ht : eval (.Call (.Attribute o m apos) [] [] pos) X.env = (do
      let ov ← eval o X.env
      standAt apos.atName
      let (f, first) ← holding [ov] (getMethod ov m pl)
      callWith pos f first (backTo pos (starEach [] X.env)) (backToKw pos (keywordEach [] X.env))) := by rfl) :
    PE X (.Call (.Attribute o m apos) [] [] pos) (tMeth C m sp dvs E ta tNil) := by
  intro pins s σ H Q I h
  refine PySem.W.methodCall_KW (pl := pl) (thn (he pins s σ H _ I h) fun u s1 ⟨x, H1, I1, rx, a, dx, fs, ex, ea, l, q⟩ => ?_) ht
  subst ex
  obtain rfl : u = Value.ref a := rx
  refine getmeth_ok I1 ea c hm l ?_
  exact PySem.W.callWith_K0 (first := [.ref a]) I1.kIn hm.kp (run_fn (us := [.ref a]) (vs := [.ref a]) F hr hb hd hx I1 (.cons rfl .nil) q)

/-- what a class must have to be made -/
structure Mk (K : PySem.W.Frag) (C f : Addr) : Prop where
  makes : PySem.W.makesIn K C = true
  init : PySem.W.findIn K (.ref C) "__init__" = some (some (.ref f))
  fn : PySem.W.isFn K (.ref f) = true
  kp : PySem.W.keepIn K (.ref C) = true

theorem run_make {cm : Bool} {pins : List (Addr × Obj)} {σ : St} {H : Hp} {s : Shared} {Q : VK} {us : List Value} {vs : List V} (M : Mk X.K C f) (F : FnOk X.prog X.w X.K X.mg X.base CX cm k f fd ps sp) (hr : Room cm (k + 1) X.A) (hb : Binds X.K fd ps ds) (hd : Vals dvs ds)
    (hx : Passes CX X E) (I : Inv X pins σ H s) (r : Vals vs us)
    (h : ∀ x dx, H x = none → H dx = none → dx ≠ x → sp (.ref x :: (vs ++ dvs)) (upd (upd H dx (.own x)) x (.ins C dx [])) (fun v H2 => v = .non ∧ Q (.ref x) H2) (E σ)) :
    wpAny (model X.prog X.w) X.A (call (.ref C) us) (EP X pins σ Q) X.xe s := by
  have hq := h (s.heap.objs.size + 1) s.heap.objs.size (I.hok.fresh (Nat.le_succ _)) (I.hok.fresh (Nat.le_refl _)) (Nat.ne_of_lt (Nat.lt_succ_self _))
  have I2 := Inv.made (C := C) I
  have r2 : Vals (V.ref (s.heap.objs.size + 1) :: (vs ++ dvs)) (Value.ref (s.heap.objs.size + 1) :: (us ++ ds)) := .cons rfl (r.append hd)
  have hl : (Value.ref (s.heap.objs.size + 1) :: us ++ ds).length = ps.length := by
    have e := r2.length
    rw [F.len _ _ _ _ hq] at e
    exact e.symm
  refine wpAny_call (make_map (f := f) I.kIn M.makes M.init (beq_iff_eq.mp M.fn) (codeAny_mono (F.run _ X.stack _ _ ⟨Value.ref (s.heap.objs.size + 1) :: us, []⟩ (Value.ref (s.heap.objs.size + 1) :: (us ++ ds)) _ _ (E σ) (hr.make C us [])
    (I2.env0.make C us []) (hb _ (Value.ref (s.heap.objs.size + 1) :: us) I2.kIn hl) r2 hq) fun r s' hq' => ?_))
  cases r with
  | error e => exact hx pins σ _ _ e s' I2 hq'
  | ok fl =>
    cases fl with
    | ret u =>
      obtain ⟨v, H', I3, rv, ev, q3⟩ := I2.after hq'
      subst ev
      exact ⟨rv, ⟨V.ref (s.heap.objs.size + 1), H', I3, rfl, q3⟩⟩
    | next => exact False.elim hq'
    | brk => exact False.elim hq'
    | cont => exact False.elim hq'
theorem pe_make {cm : Bool} (M : Mk X.K C f) (F : FnOk X.prog X.w X.K X.mg X.base CX cm k f fd ps sp) (hr : Room cm (k + 1) X.A) (hg : Gl X x) (hm : X.mg x = some (.ref C)) (hb : Binds X.K fd ps ds) (hd : Vals dvs ds) (hx : Passes CX X E)
    (ha : PA X (e :: es) t) (hdb : (x == ("__debug__" : Str)) = false := by decide) (he : starEach (e :: es) X.env = (false, eval e X.env) :: starEach es X.env := by rfl) (hpl : (backTo pos (starEach es X.env)).any (·.1) = false := by rfl) :
    PE X (.Call (.Name x p) (e :: es) [] pos) (tMake C sp dvs E t) := by
  intro pins s σ H Q I h
  refine wpAny_Call_Name_kw (ld_glob I hg hm ?_ hdb)
  refine PySem.W.callWith_K (h₀ := X.base) I.ok.mod.kin M.kp (thn (ha pos pins s σ H _ I h) fun us s1 ⟨vs, H1, I1, r, q⟩ => ⟨I1.kIn, ?_⟩) he hpl
  exact run_make M F hr hb hd hx I1 r q
theorem pe_make0 {cm : Bool} (M : Mk X.K C f) (F : FnOk X.prog X.w X.K X.mg X.base CX cm k f fd ps sp) (hr : Room cm (k + 1) X.A) (hg : Gl X x) (hm : X.mg x = some (.ref C)) (hb : Binds X.K fd ps ds) (hd : Vals dvs ds) (hx : Passes CX X E)
    (hdb : (x == ("__debug__" : Str)) = false := by decide) : PE X (.Call (.Name x p) [] [] pos) (tMake C sp dvs E tNil) := by
  intro pins s σ H Q I h
  refine wpAny_Call_Name_kw (ld_glob I hg hm ?_ hdb)
  exact PySem.W.callWith_K0 I.kIn M.kp (run_make (us := []) M F hr hb hd hx I .nil h)
end

/-! ### keywords -/
/-- the values of the keywords, from the left -/
def PK (X : Cx) (kws : List Keyword) (t : TA) : Prop :=
  ∀ (pos : Pos) (pins : List (Addr × Obj)) (s : Shared) (σ : St) (H : Hp) (Q : List V → Hp → Prop), Inv X pins σ H s → t σ H Q → wpAny (model X.prog X.w) X.A (evalAll ((backToKw pos (keywordEach kws X.env)).map (·.2))) (AP X pins σ Q) X.xe s
section
variable {X : Cx} {CX : CXT} {k : Nat} {f C : Addr} {fd : FuncData} {ps ks : List Str} {sp : Sp} {E : St → XK} {x m : Str} {p pos apos kpos : Pos} {e o : Expr} {es : List Expr} {kws : List Keyword} {te ta : TE} {t tk : TA} {nm : Option Str}
/-- how a call with keywords binds: g puts the positional values us and the keywords' values ws (names ks) in the parameters' order, defaults among them -/
structure KBinds (K : PySem.W.Frag) (fd : FuncData) (ps ks : List Str) (g : List Value → List Value → List Value) (gV : List V → List V → List V) : Prop where
  to : ∀ (s : Shared) (us ws : List Value), K.In s.heap → (g us ws).length = ps.length → BindsTo s fd ⟨us, ks.zip ws⟩ (ps.zip (g us ws))
  rel : ∀ {vs : List V} {us : List Value} {zs : List V} {ws : List Value}, Vals vs us → Vals zs ws → Vals (gV vs zs) (g us ws)
def tCallK (sp : Sp) (gV : List V → List V → List V) (E : St → XK) (t tk : TA) : TE := fun σ H Q => t σ H fun vs H1 => tk σ H1 fun zs H2 => sp (gV vs zs) H2 Q (E σ)
variable {g : List Value → List Value → List Value} {gV : List V → List V → List V}
end

/-! ### a def's body keeps its promise -/
/-- names: the parameters first -/
structure FnScope (N P : List Str) (sc : Scope) : Prop where
  kind : sc.kind = .function
  co : sc.isCoroutine = false
  gen : sc.isGenerator = false
  nd : N.Nodup
  pre : N.take P.length = P
  par : ∀ x ∈ P, sc.names.lookup x = some .local ∨ sc.names.lookup x = some .cell
  nofree : ∀ y ∈ sc.names, y.2 ≠ .free

theorem bindL_out {kindOf : Str → Option NameKind} {x : Str} : ∀ {binds : List (Str × Value)} {m : Str → Option Value}, (∀ v, (x, v) ∉ binds) → bindL kindOf binds m x = m x
  | [], _, _ => rfl
  | (n, v) :: r, m, h => by
    unfold bindL
    rw [bindL_out fun w hw => h w (List.mem_cons_of_mem _ hw)]
    split
    · have : x ≠ n := by rintro rfl; exact h v List.mem_cons_self
      simp [this]
    · rfl
theorem bindC_out {kindOf : Str → Option NameKind} {x : Str} : ∀ {binds : List (Str × Value)} {m : Str → Option Value}, (∀ v, (x, v) ∉ binds) → bindC kindOf binds m x = m x
  | [], _, _ => rfl
  | (n, v) :: r, m, h => by
    unfold bindC
    rw [bindC_out fun w hw => h w (List.mem_cons_of_mem _ hw)]
    split
    · rfl
    · have : x ≠ n := by rintro rfl; exact h v List.mem_cons_self
      simp [this]
theorem bindL_get {kindOf : Str → Option NameKind} {x : Str} {v : Value} : ∀ {P : List Str} {vs : List Value} {i : Nat} {m : Str → Option Value}, P.Nodup → P[i]? = some x → vs[i]? = some v → kindOf x = some .local →
    bindL kindOf (P.zip vs) m x = some v
  | [], _, _, _, _, h, _, _ => by simp at h
  | _ :: _, [], _, _, _, _, h, _ => by simp at h
  | p :: P, w :: vs, 0, m, nd, h1, h2, hk => by
    simp at h1 h2; subst h1; subst h2
    show bindL kindOf ((p, w) :: P.zip vs) m p = _
    unfold bindL
    rw [bindL_out fun v hv => (List.nodup_cons.mp nd).1 (List.of_mem_zip hv).1, if_pos hk]
    simp
  | p :: P, w :: vs, i + 1, m, nd, h1, h2, hk => by
    show bindL kindOf ((p, w) :: P.zip vs) m x = _
    unfold bindL
    exact bindL_get (i := i) (List.nodup_cons.mp nd).2 (by simpa using h1) (by simpa using h2) hk
theorem bindC_get {kindOf : Str → Option NameKind} {x : Str} {v : Value} : ∀ {P : List Str} {vs : List Value} {i : Nat} {m : Str → Option Value}, P.Nodup → P[i]? = some x → vs[i]? = some v → kindOf x ≠ some .local →
    bindC kindOf (P.zip vs) m x = some v
  | [], _, _, _, _, h, _, _ => by simp at h
  | _ :: _, [], _, _, _, _, h, _ => by simp at h
  | p :: P, w :: vs, 0, m, nd, h1, h2, hk => by
    simp at h1 h2; subst h1; subst h2
    show bindC kindOf ((p, w) :: P.zip vs) m p = _
    unfold bindC
    rw [bindC_out fun v hv => (List.nodup_cons.mp nd).1 (List.of_mem_zip hv).1, if_neg hk]
    simp
  | p :: P, w :: vs, i + 1, m, nd, h1, h2, hk => by
    show bindC kindOf ((p, w) :: P.zip vs) m x = _
    unfold bindC
    exact bindC_get (i := i) (List.nodup_cons.mp nd).2 (by simpa using h1) (by simpa using h2) hk

/-- the names' values at the entry -/
def start (N : List Str) (vs : List V) : St := vs.map some ++ List.replicate (N.length - vs.length) none

/-- the context of a def's body, at its entry; an exception leaves the frame, then lies as CX says -/
def cxOf (CX : CXT) (cm : Bool) (P : Program) (w : World) (K : PySem.W.Frag) (mg : Str → Option Value) (base : Heap) (N : List Str) (qual : Str) (scope : Scope) (f : Addr) (cd : Value) (A : Around) (outer : List Env) (s : Shared) (H : Hp) (E : XK) : Cx where
  prog := P
  w := w
  K := K
  mg := mg
  base := base
  A := A.deeper (envOfC qual scope s.heap.objs.size f cd)
  N := N
  s_0 := s
  H_0 := H
  env := envOfC qual scope s.heap.objs.size f cd
  outer := outer
  stack := envOfC qual scope s.heap.objs.size f cd :: outer
  ex := []
  calm := cm
  fn := fun _ => true
  pn := []
  xe := fun e s' => wpAny (model P w) (A.deeper (envOfC qual scope s.heap.objs.size f cd)) (leaving (envOfC qual scope s.heap.objs.size f cd) e) (fun _ s'' => CX outer H s E e s'') (fun e' s'' => CX outer H s E e' s'') s'

theorem cell_has {sc : Scope} {n : Nat} {x : Str} (h : sc.names.lookup x = some .cell) : ∃ c, (cellsFrom n sc.names []).lookup x = some c := by
  have q := PySem.W.cellsFrom_some sc.names n [] (.inl h)
  exact Option.isSome_iff_exists.mp q

theorem inv_start {cm : Bool} {CX : CXT} {P : Program} {w : World} {K : PySem.W.Frag} {mg : Str → Option Value} {base : Heap} {N ps : List Str} {qual : Str} {scope : Scope} {f : Addr} {cd : Value} {A : Around} {outer : List Env} {s s1 : Shared} {H : Hp} {E : XK} {us : List Value} {vs : List V}
    (S : FnScope N ps scope) (hd : cm = true → A.handled = none) (e0 : Env0 P w K mg base A outer s H) (hl : vs.length = ps.length) (r : Vals vs us)
    (x : InCallC s s.heap.objs.size (bindL (envOfC qual scope s.heap.objs.size f cd).kindOf (ps.zip us) fun _ => none) (cellsFrom (s.heap.objs.size + 1) scope.names []) (bindC (envOfC qual scope s.heap.objs.size f cd).kindOf (ps.zip us) fun _ => none) s1) :
    Inv (cxOf CX cm P w K mg base N qual scope f cd A outer s H E) [] (start N vs) H s1 := by
  have hpl : ps.length ≤ N.length := by have := congrArg List.length S.pre; rw [List.length_take] at this; omega
  obtain ⟨h1, tk, rfl, hk⟩ := x.done
  have noA : ∀ b : Addr, b ∉ (cxOf CX cm P w K mg base N qual scope f cd A outer s H E).ex := fun b z => absurd (show b ∈ ([] : List Addr) from z) (by simp)
  refine ⟨⟨e0.mod, S.kind, rfl, rfl, Nat.le_refl _, fun y z c h1 h2 => ?_, fun y hy => ?_, fun y c _ h => ?_, hd, Around.frames_deeper e0.frames, .inr ⟨rfl, rfl⟩, fun b z => absurd z (noA b), e0.bs, e0.bsz, fun b _ _ => noA b, fun b z => absurd z (noA b), e0.funs, e0.frf⟩,
    rfl, e0.bare, Un.kept hk, ⟨_, x.toInCall.ns, fun i y v h1 h2 h3 => ?_⟩, fun y c h => ⟨_, x.cell y c h⟩, e0.hok.fresh (Nat.le_refl _), fun y c h => ?_, fun p hp => absurd (show p ∈ ([] : List (Addr × Obj)) from hp) (by simp), e0.hok.kept hk, ?_⟩
  · exact name_of_addr x.apart (PySem.mem_of_lookup h1) (PySem.mem_of_lookup h2)
  · have hy : scope.names.lookup y = some .cell ∨ scope.names.lookup y = some .free := hy
    rcases hy with hy | hy
    · exact cell_has hy
    · exact absurd rfl (S.nofree _ (PySem.mem_of_lookup hy))
  · exact Nat.le_of_lt (x.above y c (PySem.mem_of_lookup h))
  · have hi : i < vs.length := by
      unfold start at h2
      by_cases hi : i < vs.length
      · exact hi
      · rw [List.getElem?_append_right (by simpa using hi)] at h2
        rw [List.getElem?_replicate] at h2
        split at h2 <;> cases h2
    have ha : vs[i]? = some v := by
      unfold start at h2
      rw [List.getElem?_append_left (by simpa using hi), List.getElem?_map] at h2
      cases e : vs[i]? with
      | none => rw [e] at h2; cases h2
      | some a => rw [e] at h2; cases h2; rfl
    obtain ⟨u, hu, rv⟩ := r.get ha
    have hp : ps[i]? = some y := by
      rw [← S.pre, List.getElem?_take_of_lt (by omega)]; exact h1
    have ndP : ps.Nodup := by rw [← S.pre]; exact S.nd.sublist (List.take_sublist _ _)
    refine ⟨u, rv, ?_⟩
    rcases S.par y (List.mem_of_getElem? hp) with k | k
    · exact .inl ⟨k, bindL_get ndP hp hu k⟩
    · obtain ⟨c, e⟩ := cell_has (n := s.heap.objs.size + 1) k
      refine .inr ⟨.inl k, c, e, ?_⟩
      have q := x.cell y c e
      rw [bindC_get ndP hp hu (by show scope.names.lookup y ≠ _; rw [k]; decide)] at q
      exact q
  · exact e0.hok.fresh (Nat.le_of_lt (x.above y c (PySem.mem_of_lookup h)))
  · unfold start
    show _ = N.length
    rw [List.length_append, List.length_map, List.length_replicate]
    omega

/-- THE RULE: a def (or a method) of the text, by its body. The body's reading t is chosen for each entry; it is run at the parameters' values -/
theorem fn_of {cm : Bool} {CX : CXT} {P : Program} {w : World} {K : PySem.W.Frag} {mg : Str → Option Value} {base : Heap} {k : Nat} {f : Addr} {name qual : Str} {params : Arguments} {body : List Stmt} {scope : Scope} {dV kV doc pm cdv ct oc : Value} {an od : Option Addr}
    {osl : Array (Option Value)} {N ps : List Str} {sp : Sp} (lk : K.lookup f = some ⟨oc, od, .func (PySem.W.fnOf name qual params body scope dV kV doc pm an cdv ct), osl⟩) (hcd : PySem.W.codeIn K cdv qual = true) (S : FnScope N ps scope)
    (len : ∀ vs H Q E, sp vs H Q E → vs.length = ps.length)
    (hbody : ∀ (A : Around) (outer : List Env) (s : Shared) (H : Hp) (vs : List V) (Q : VK) (E : XK), Room cm k (A.deeper (envOfC qual scope s.heap.objs.size f cdv)) → sp vs H Q E →
      ∃ t, PSs (cxOf CX cm P w K mg base N qual scope f cdv A outer s H E) body t ∧ t { nx := fun _ H' => Q .non H', rt := Q } (start N vs) H) :
    FnOk P w K mg base CX cm (k + 1) f (PySem.W.fnOf name qual params body scope dV kV doc pm an cdv ct) ps sp := by
  refine ⟨len, fun A outer s H args us vs Q E hr e0 hb r hsp => ?_⟩
  have hl := len _ _ _ _ hsp
  have KX : K.In s.heap := e0.mod.kin.keeps fun b o e => (e0.bs b o e).1
  have lim : s.heap.NoLimit := e0.mod.nolimit.keeps fun b o e => (e0.bs b o e).1
  have hkind : ∀ y ∈ ps.zip us, scope.names.lookup y.1 = some .local ∨ (scope.names.lookup y.1 = some .cell ∧ ((cellsFrom (s.heap.objs.size + 1) scope.names []).lookup y.1).isSome = true) := fun ⟨n, v⟩ hy => by
    rcases S.par n (List.of_mem_zip hy).1 with q | q
    · exact .inl q
    · exact .inr ⟨q, PySem.W.cellsFrom_some _ _ _ (.inl q)⟩
  refine codeAny_call_function hr.depth (KX _ _ lk) rfl S.co S.gen rfl (PySem.W.codeRec_of KX hcd) (hb _ _ _ _ ?_)
  refine wpAny_newFunctionEnv_cells S.kind hkind fun env he s1 x => ?_
  subst he
  refine ⟨lim.keeps x.toInCall.keep, codeAny_func ?_⟩
  obtain ⟨t, ht, hq⟩ := hbody A outer s H vs Q E (hr.deeper _) hsp
  have I : Inv (cxOf CX cm P w K mg base N qual scope f cdv A outer s H E) [] (start N vs) H s1 := inv_start S hr.hd e0 hl r x
  refine wpAny_mono (ht [] s1 (start N vs) H _ I hq) (fun fl s' hs => ?_) fun e s' hs => hs
  have fin : ∀ {σ' : St} {H' : Hp} {v : V} {u : Value}, Inv (cxOf CX cm P w K mg base N qual scope f cdv A outer s H E) [] σ' H' s' → RelV v u → Q v H' → CE outer P w H s Q u s' :=
    fun {σ' H' v u} J rv q => ⟨v, H', J.os, J.bare, J.base, J.hok, rv, q⟩
  cases fl with
  | ret u =>
    obtain ⟨v, σ', H', J, rv, q⟩ := hs
    exact fin J rv q
  | next =>
    obtain ⟨σ', H', J, q⟩ := hs
    exact fin (v := V.non) (u := Value.none) J rfl q
  | brk =>
    obtain ⟨_, _, _, q⟩ := hs
    exact False.elim q
  | cont =>
    obtain ⟨_, _, _, q⟩ := hs
    exact False.elim q
end L2

namespace L2
open PySem PySem.Spec PyProof.Rows
section
variable {X : Cx} {x : Str} {p pos : Pos} {e : Expr} {es : List Expr} {t : TA} {id T : String} {r : List V → Hp → VK → Prop}

def tCB (r : List V → Hp → VK → Prop) (t : TA) : TE := fun σ H Q => t σ H fun vs H1 => r vs H1 Q
/-- f(e, ..), f a built-in function -/
theorem pe_callB (hc : CallR X (.builtin id) r) (hg : Gl X x) (hm : X.mg x = none) (hv : bootBuiltins x = some (.builtin id)) (ha : PA X (e :: es) t) (hn : x ≠ "__name__" := by decide) (hdb : (x == ("__debug__" : Str)) = false := by decide)
    (he : starEach (e :: es) X.env = (false, eval e X.env) :: starEach es X.env := by rfl) (hpl : (backTo pos (starEach es X.env)).any (·.1) = false := by rfl) : PE X (.Call (.Name x p) (e :: es) [] pos) (tCB r t) := by
  intro pins s σ H Q I h
  refine wpAny_Call_Name_kw (ld_blt I hg hm hv ?_ hn hdb)
  exact PyProof.Rows.callWith_builtin1 (thn (ha pos pins s σ H _ I h) fun us s1 ⟨vs, H1, I1, r1, q1⟩ => hc pins s1 σ H1 vs us Q I1 r1 q1) he hpl
end
end L2

namespace HT
open PySem PyProof.Rows

/-- t < u of tuples of ints -/
def lexLt : List Int → List Int → Bool
  | [], [] => false
  | [], _ :: _ => true
  | _ :: _, [] => false
  | x :: xs, y :: ys => if x = y then lexLt xs ys else decide (x < y)
theorem eqAt_int (A : Around) (s : Shared) (a : Int) (t : Tok) (c : Int) (u : Tok) : ∃ e, SeqAt.EqAt A s (.int a t) (.int c u) e ∧ (e = true ↔ a = c) :=
  ⟨(a == c), SeqAt.EqAt.int_int a t c u, by simp⟩
section
open PySem.SeqAt
open PySem.AutoSeq1 (wpAny_loadPart')
open PySem.MeetsSeq PySem.MeetsSeq2 PySem.MeetsSeq3

end

section
variable {prog : Program} {w : World} {A : Around} {E : Value → Shared → Prop} {s : Shared}

/-! ### t[a:b], not the whole -/
/-- a slice's bound as a place among n (d where it is left out) -/
def sIx (n d : Nat) : Option Int → Nat
  | none => d
  | some v => if v < 0 then (v + (n : Int)).toNat else min v.toNat n
end
end HT

namespace L2
open PySem PySem.Spec PyProof.Rows

/-! ### the parts of a slice -/
abbrev TO := St → Hp → (Option Int → Hp → Prop) → Prop
/-- a slice's part (left out, or an int) -/
def PO (X : Cx) (e : Option Expr) (t : TO) : Prop :=
  ∀ (pins : List (Addr × Obj)) (s : Shared) (σ : St) (H : Hp) (Q : Option Int → Hp → Prop), Inv X pins σ H s → t σ H Q →
    wpAny (model X.prog X.w) X.A (evalPart e X.env) (fun u s' => ∃ o H', Inv X pins σ H' s' ∧ IsPart u o ∧ Q o H') X.xe s
def tNoPart : TO := fun _ H Q => Q none H
def tPart (t : TE) : TO := fun σ H Q => t σ H fun x H1 => ∃ i, x = .int i ∧ Q (some i) H1

theorem intsAre_of {ns : List Int} : ∀ {us : List Value}, Vals (ns.map V.int) us → IntsAre us ns := by
  induction ns with
  | nil => intro us r; rw [List.map_nil] at r; cases r; exact .nil
  | cons n ns ih =>
    intro us r
    rw [List.map_cons] at r
    cases r with
    | cons r1 r2 =>
      obtain ⟨t, e⟩ := r1
      subst e
      exact .cons n t (ih r2)

section
variable {X : Cx} {e : Expr} {te : TE} {lo hi : Option Expr} {tl th : TO} {pos p2 : Pos}

theorem po_none : PO X none tNoPart := by
  intro pins s σ H Q I h
  rw [evalPart_none]
  exact wpAny_pure ⟨none, H, I, .none, h⟩
theorem po_some (h : PE X e te) : PO X (some e) (tPart te) := by
  intro pins s σ H Q I hw
  rw [evalPart_some]
  refine thn (h pins s σ H _ I hw) fun u s1 ⟨x, H1, I1, r1, q1⟩ => ?_
  obtain ⟨i, rfl, q⟩ := q1
  obtain ⟨t, rfl⟩ := r1
  exact ⟨some i, H1, I1, .int i t, q⟩

/-- what a slice of a value is, by values: the slice object stands at sl -/
def SlR (X : Cx) (r : V → Option Int → Option Int → Hp → VK → Prop) : Prop :=
  ∀ (pins : List (Addr × Obj)) (s : Shared) (σ : St) (H : Hp) (x : V) (v vl vu : Value) (lo hi : Option Int) (sl : Addr) (Q : VK), Inv X pins σ H s → RelV x v → s.heap.IsSliceOf sl vl vu .none → IsPart vl lo → IsPart vu hi → r x lo hi H Q →
    ∃ T id, typeLookup (.type T) "__getitem__" = pure (some (.builtin id)) ∧ s.TypeIs v T ∧ wpAny (model X.prog X.w) X.A (getItem v (.ref sl)) (EP X pins σ Q) X.xe s
def tSl (r : V → Option Int → Option Int → Hp → VK → Prop) (te : TE) (tl th : TO) : TE := fun σ H Q => te σ H fun x H1 => tl σ H1 fun l H2 => th σ H2 fun u H3 => r x l u H3 Q
/-- a[lo:hi], any a -/
theorem pe_slice {r : V → Option Int → Option Int → Hp → VK → Prop} (hr : SlR X r) (he : PE X e te) (hl : PO X lo tl) (hu : PO X hi th) : PE X (.Subscript e (.Slice lo hi none p2) pos) (tSl r te tl th) := by
  intro pins s σ H Q I h
  refine Subscript_ (thn (he pins s σ H _ I h) fun v s1 ⟨x, H1, I1, r1, q1⟩ => ?_)
  refine wpAny_Slice (thn (hl pins s1 σ H1 _ I1 q1) fun vl s2 ⟨l, H2, I2, pl, q2⟩ => thn (hu pins s2 σ H2 _ I2 q2) fun vu s3 ⟨u, H3, I3, pu, q3⟩ => ?_)
  rw [evalPart_none]
  refine wpAny_pure ?_
  have I4 : Inv X pins σ H3 { s3 with heap := s3.heap.push { cls := .type "slice", data := .fields #[vl, vu, .none] } } := I3.kept (t' := s3.toks) fun b ob q => Heap.get?_push_of_some _ q
  obtain ⟨T, id, hT, ht, hg⟩ := hr pins { s3 with heap := s3.heap.push { cls := .type "slice", data := .fields #[vl, vu, .none] } } σ H3 x v vl vu l u s3.heap.objs.size Q I4 r1 (Heap.IsSliceOf.new ..) pl pu q3
  show wpAny (model X.prog X.w) X.A (subscriptTail e (.Slice lo hi none p2) v (.ref s3.heap.objs.size)) (EP X pins σ Q) X.xe { s3 with heap := s3.heap.push { cls := .type "slice", data := .fields #[vl, vu, .none] } }
  exact tail_any (ops := [.ref s3.heap.objs.size, v]) ht hT hg (by with_unfolding_all rfl)

/-- the items of xs[lo:hi] -/
def cutV (xs : List V) (lo hi : Option Int) : List V := (xs.drop (HT.sIx xs.length 0 lo)).take (HT.sIx xs.length xs.length hi - HT.sIx xs.length 0 lo)
theorem cutV_length (xs : List V) (lo hi : Option Int) : (cutV xs lo hi).length ≤ xs.length := by
  unfold cutV
  rw [List.length_take, List.length_drop]
  omega
/-- t[lo:hi], not the whole of it (the whole would be t itself) -/
def rSlT (K : PySem.W.Frag) : V → Option Int → Option Int → Hp → VK → Prop := fun x lo hi H Q => ∃ a xs, x = .ref a ∧ SqT K H a xs ∧
  ¬ (HT.sIx xs.length 0 lo = 0 ∧ HT.sIx xs.length xs.length hi = xs.length) ∧ ∀ p, H p = none → Q (.ref p) (upd H p (.tup (cutV xs lo hi)))
/-! ### t < u, t + u -/
def rLtT (K : PySem.W.Frag) : R2 := fun x y H Q => ∃ a b ns ms, x = .ref a ∧ y = .ref b ∧ SqT K H a (ns.map V.int) ∧ SqT K H b (ms.map V.int) ∧ Q (.bl (HT.lexLt ns ms)) H
/-- t + u, t not empty: u empty gives t itself -/
def rCatT (K : PySem.W.Frag) : R2 := fun x y H Q => ∃ a b xs ys, x = .ref a ∧ y = .ref b ∧ SqT K H a xs ∧ SqT K H b ys ∧ xs ≠ [] ∧ xs.length + ys.length ≤ sizeLine ∧
  (ys = [] → Q (.ref a) H) ∧ (ys ≠ [] → ∀ p, H p = none → Q (.ref p) (upd H p (.tup (xs ++ ys))))
end
end L2

namespace L2
open PySem PySem.Spec PyProof.Rows

/-! ### places -/
/-- the place that an index of any sign means -/
def ixN (n : Nat) (i : Int) : Option Nat := if 0 ≤ i then (if i < n then some i.toNat else none) else if -(n : Int) ≤ i then some (i + n).toNat else none
def atI {α : Type} (xs : List α) (i : Int) : Option α := (ixN xs.length i).bind fun j => xs[j]?
theorem ixN_seq {n : Nat} {i : Int} {j : Nat} (h : ixN n i = some j) : seqIndex? i n = some j ∧ j < n ∧ -(n : Int) ≤ i ∧ i < n := by
  unfold ixN at h
  by_cases h0 : 0 ≤ i
  · rw [if_pos h0] at h
    by_cases h1 : i < n
    · rw [if_pos h1] at h
      have e : i.toNat = j := Option.some.inj h
      exact ⟨by rw [seqIndex_of h0 h1, e], by omega, by omega, h1⟩
    · rw [if_neg h1] at h; cases h
  · rw [if_neg h0] at h
    by_cases h1 : -(n : Int) ≤ i
    · rw [if_pos h1] at h
      have e : (i + n).toNat = j := Option.some.inj h
      exact ⟨by rw [seqIndex_neg (by omega) h1, e], by omega, h1, by omega⟩
    · rw [if_neg h1] at h; cases h
theorem atI_get {α : Type} {xs : List α} {i : Int} {v : α} (h : atI xs i = some v) : ∃ j, seqIndex? i xs.length = some j ∧ xs[j]? = some v ∧ j < xs.length ∧ -(xs.length : Int) ≤ i ∧ i < xs.length := by
  unfold atI at h
  cases e : ixN xs.length i with
  | none => rw [e] at h; cases h
  | some j =>
    rw [e] at h
    obtain ⟨h1, h2, h3, h4⟩ := ixN_seq e
    exact ⟨j, h1, h, h2, h3, h4⟩
theorem atI_nat {α : Type} {xs : List α} {j : Nat} {v : α} (h : xs[j]? = some v) : atI xs (j : Int) = some v := by
  have hj : j < xs.length := (List.getElem?_eq_some_iff.mp h).1
  have e : ixN xs.length (j : Int) = some j := by
    unfold ixN
    rw [if_pos (by omega), if_pos (by omega)]; simp
  unfold atI; rw [e]; exact h
theorem atI_last {α : Type} (xs : List α) (v : α) : atI (xs ++ [v]) (-1) = some v := by
  have hl : (xs ++ [v]).length = xs.length + 1 := by simp
  have e : ixN (xs ++ [v]).length (-1) = some xs.length := by
    unfold ixN
    rw [hl, if_neg (by decide), if_pos (by omega)]
    congr 1
    omega
  unfold atI
  rw [e]
  show (xs ++ [v])[xs.length]? = some v
  simp

/-! ### what may be subscripted -/
/-- what stands as an index of a plain subscript -/
def PlainIx (b : Expr) : Prop := ∀ o i, subscripted b false o i = operate [o, i] (getItem o i)
/-- a subscript by values -/
def IxR (X : Cx) (r : R2) : Prop :=
  ∀ (value slice : Expr) (pins : List (Addr × Obj)) (s : Shared) (σ : St) (H : Hp) (x y : V) (v u : Value) (Q : VK), Inv X pins σ H s → RelV x v → RelV y u → r x y H Q →
    subscripted slice false v u = operate [v, u] (getItem v u) → wpAny (model X.prog X.w) X.A (subscriptTail value slice v u) (EP X pins σ Q) X.xe s
/-- a call of a builtin's method by values: the receiver, the arguments -/
def MtR (X : Cx) (id : String) (r : V → List V → Hp → VK → Prop) : Prop :=
  ∀ (pins : List (Addr × Obj)) (s : Shared) (σ : St) (H : Hp) (x : V) (xs : List V) (v : Value) (us : List Value) (Q : VK), Inv X pins σ H s → RelV x v → Vals xs us → r x xs H Q →
    wpAny (model X.prog X.w) X.A (call (.builtin id) (v :: us)) (EP X pins σ Q) X.xe s
section
variable {X : Cx} {a b : Expr} {ta tb : TE} {pos : Pos}
/-- a[b] -/
theorem pe_ix {r : R2} (hr : IxR X r) (ha : PE X a ta) (hb : PE X b tb) (hs : PlainIx b) : PE X (.Subscript a b pos) (tOp r ta tb) := by
  intro pins s σ H Q I h
  exact Subscript_ (binT ha hb I h fun v u s2 x y H2 I2 rx ry q => hr a b pins s2 σ H2 x y v u Q I2 rx ry q (hs _ _))

def rIxL (K : PySem.W.Frag) : R2 := fun x y H Q => ∃ p xs i v, x = .ref p ∧ y = .int i ∧ SqL K H p xs ∧ atI xs i = some v ∧ Q v H
def rIxT (K : PySem.W.Frag) : R2 := fun x y H Q => ∃ p xs i v, x = .ref p ∧ y = .int i ∧ SqT K H p xs ∧ atI xs i = some v ∧ Q v H
def rIxS : R2 := fun x y H Q => ∃ z i c, x = .str z ∧ y = .int i ∧ z.length ≤ sizeLine ∧ atI z.cps.toList i = some c ∧ Q (.str ⟨#[c]⟩) H
theorem ix_list : IxR X (rIxL X.K) := by
  intro value slice pins s σ H x y v u Q I rx ry h hs
  obtain ⟨p, xs, i, z, rfl, rfl, hq, he, q⟩ := h
  cases rx
  obtain ⟨t, rfl⟩ := ry
  obtain ⟨its, r, pl, hz⟩ := I.list hq
  obtain ⟨j, h1, h2, h3, h4, h5⟩ := atI_get he
  obtain ⟨w, ew, rw'⟩ := r.get h2
  have hl := r.length
  have hn := line63
  have fin : EP X pins σ Q w s := ⟨z, H, I, rw', q⟩
  by_cases h0 : 0 ≤ i
  · have hj : i.toNat = j := by
      rw [seqIndex_of h0 h5] at h1
      exact Option.some.inj h1
    exact item_listR pl.isList h0 (by omega) (by rw [hj]; simpa using ew) fin hs
  · have hj : (i + (its.toArray.size : Int)).toNat = j := by
      rw [seqIndex_neg (by omega) h4] at h1
      rw [List.size_toArray, ← hl]
      exact Option.some.inj h1
    exact subscriptTail_builtinR (x := w) pl.isList.typeIs slot_list_getitem.lookup
      (wpAny_getItem_list_neg (Q := fun r s' => r = w ∧ EP X pins σ Q r s') pl.isList (by omega) (by rw [List.size_toArray] <;> omega) (by omega) (by rw [hj]; simpa using ew) ⟨rfl, fin⟩) hs
theorem ix_tup : IxR X (rIxT X.K) := by
  intro value slice pins s σ H x y v u Q I rx ry h hs
  obtain ⟨p, xs, i, z, rfl, rfl, hq, he, q⟩ := h
  cases rx
  obtain ⟨t, rfl⟩ := ry
  obtain ⟨its, r, pl, hz⟩ := I.tuple hq
  obtain ⟨j, h1, h2, h3, h4, h5⟩ := atI_get he
  obtain ⟨w, ew, rw'⟩ := r.get h2
  have hl := r.length
  have hn := line63
  have fin : EP X pins σ Q w s := ⟨z, H, I, rw', q⟩
  exact subscriptTail_builtinR (x := w) pl.typeIs slot_tuple_getitem.lookup
    (getItem_tuple (j := j) (Q := fun r s' => r = w ∧ EP X pins σ Q r s') pl (by omega) (by omega) (by rw [List.size_toArray, ← hl]; exact h1) (by simpa using ew) ⟨rfl, fin⟩) hs
/-- list, tuple or str -/
def rIx (K : PySem.W.Frag) : R2 := fun x y H Q => rIxL K x y H Q ∨ rIxT K x y H Q ∨ rIxS x y H Q
/-! ### xs[i] = v, any sign -/
def rSetL : V → V → V → Hp → (Hp → Prop) → Prop := fun o i v H Q => ∃ p xs k j, o = .ref p ∧ i = .int k ∧ H p = some (.lst xs) ∧ ixN xs.length k = some j ∧ Q (upd H p (.lst (xs.set j v)))
/-! ### slices -/
theorem slice_bounds (lo hi : Option Int) (n : Nat) : (sliceBounds lo hi none n).1 = ((HT.sIx n 0 lo : Nat) : Int) ∧ (sliceBounds lo hi none n).2.1 = ((HT.sIx n n hi : Nat) : Int) ∧ (sliceBounds lo hi none n).2.2 = 1 := by
  refine ⟨?_, ?_, rfl⟩
  · cases lo with
    | none => simp [sliceBounds, HT.sIx]
    | some i =>
      simp only [sliceBounds, HT.sIx, Option.getD_none, show (1 : Int) > 0 by decide, if_true]
      by_cases h : i < 0
      · simp only [h, if_true] <;> omega
      · simp only [h, if_false] <;> omega
  · cases hi with
    | none => simp [sliceBounds, HT.sIx]
    | some i =>
      simp only [sliceBounds, HT.sIx, Option.getD_none, show (1 : Int) > 0 by decide, if_true]
      by_cases h : i < 0
      · simp only [h, if_true] <;> omega
      · simp only [h, if_false] <;> omega
theorem slicePick_cut (its : List Value) (lo hi : Option Int) : slicePick its.toArray lo hi none = ((its.drop (HT.sIx its.length 0 lo)).take (HT.sIx its.length its.length hi - HT.sIx its.length 0 lo)).toArray := by
  obtain ⟨h1, h2, h3⟩ := slice_bounds lo hi its.toArray.size
  unfold slicePick
  rw [h1, h2, h3]
  simp only [sliceRange_one, pick_run, List.size_toArray] <;> rfl
/-- xs[lo:hi] of a list: a new list -/
def rSlL (K : PySem.W.Frag) : V → Option Int → Option Int → Hp → VK → Prop := fun x lo hi H Q => ∃ a xs, x = .ref a ∧ SqL K H a xs ∧ ∀ p, H p = none → Q (.ref p) (upd H p (.lst (cutV xs lo hi)))
theorem sl_list : SlR X (rSlL X.K) := by
  intro pins s σ H x v vl vu lo hi sl Q I rx hs pl pu h
  obtain ⟨a, xs, rfl, hx, q⟩ := h
  cases rx
  obtain ⟨its, r, ht, hz⟩ := I.list hx
  have hlen := r.length
  refine ⟨"list", _, slot_list_getitem.lookup, ht.isList.typeIs, ?_⟩
  refine wpAny_getItem_list_slice ht.isList hs pl pu .none (by simp) ?_ (by rw [List.size_toArray] <;> omega)
  rw [slicePick_cut, ← hlen]
  refine ⟨.ref s.heap.objs.size, _, I.laid (t' := s.toks) (o := .lst (cutV xs lo hi)) (fun b ob q => Heap.get?_push_of_some _ q) (Nat.le_refl _) ?_, rfl, q _ (I.hok.fresh (Nat.le_refl _))⟩
  exact ⟨Nat.le_trans (cutV_length xs lo hi) hz, _, 0, (r.drop (HT.sIx xs.length 0 lo)).take (HT.sIx xs.length xs.length hi - HT.sIx xs.length 0 lo), Heap.get?_push_size _ rfl⟩

/-! ### in, not in: flat items -/
def flatV : V → Bool
  | .non => true
  | .bl _ => true
  | .int _ => true
  | .str _ => true
  | _ => false
/-- == of flat values -/
def eqV : V → V → Bool
  | .non, .non => true
  | .bl a, .bl b => a == b
  | .bl a, .int b => (if a then 1 else 0) == b
  | .int a, .bl b => a == (if b then 1 else 0)
  | .int a, .int b => a == b
  | .str a, .str b => a == b
  | _, _ => false
/-- the items' answers, read off the values (a value's own answer does not lean on its token) -/
def eqU (x : V) (u : Value) : Bool := match u with
  | .none => eqV .non x
  | .bool b => eqV (.bl b) x
  | .int i _ => eqV (.int i) x
  | .str z _ => eqV (.str z) x
  | _ => false
def inV (x : V) (xs : List V) : Bool := xs.any fun y => eqV y x
/-- x in a list or tuple of flat items -/
def rIn (K : PySem.W.Frag) (neg : Bool) : R2 := fun x y H Q => ∃ p xs, y = .ref p ∧ (SqL K H p xs ∨ SqT K H p xs) ∧ flatV x = true ∧ xs.all flatV = true ∧ Q (.bl (if neg then !inV x xs else inV x xs)) H
/-! ### len, list(x), tuple(x) of any list or tuple that is read -/
theorem call_len_seq : CallR X (.builtin "len") (fun xs H Q => ∃ p ys, xs = [.ref p] ∧ (SqL X.K H p ys ∨ SqT X.K H p ys) ∧ Q (.int ys.length) H) := by
  intro pins s σ H xs us Q I r h
  obtain ⟨p, ys, rfl, hq, q⟩ := h
  obtain ⟨u, rfl, rx⟩ := vals1 r
  cases rx
  have hn := line63
  rcases hq with hq | hq
  · obtain ⟨its, r', pl, hz⟩ := I.list hq
    have hlen := r'.length
    exact Calls.call_len_list pl.isList (by simp only [List.size_toArray] <;> omega) ⟨.int ys.length, H, I.tok _, ⟨s.toks + 1, by rw [List.size_toArray, hlen]⟩, q⟩
  · obtain ⟨its, r', pl, hz⟩ := I.tuple hq
    have hlen := r'.length
    exact len_tuple pl (by simp only [List.size_toArray] <;> omega) ⟨.int ys.length, H, I.tok _, ⟨s.toks + 1, by rw [List.size_toArray, hlen]⟩, q⟩
/-! ### the call of a builtin's method: o.m(..) -/
/-- the value is of that builtin type -/
def tyV (K : PySem.W.Frag) (T : String) (x : V) (H : Hp) : Prop := match x with
  | .str _ => T = "str"
  | .int _ => T = "int"
  | .ref p => (T = "list" ∧ ∃ xs, SqL K H p xs) ∨ (T = "tuple" ∧ ∃ o, K.lookup p = some o ∧ o.cls = .type "tuple" ∧ o.dict = none) ∨
      (T = "dict" ∧ ((∃ kvs, H p = some (.dK kvs)) ∨ ∃ kvs, H p = some (.dT kvs))) ∨ (T = "set" ∧ ∃ S n, H p = some (.set S n))
  | _ => False
theorem tyV_is {pins : List (Addr × Obj)} {σ : St} {H : Hp} {s : Shared} {T : String} {x : V} {v : Value} (I : Inv X pins σ H s) (r : RelV x v) (ty : tyV X.K T x H) :
    s.TypeIs v T ∧ ∀ a, v = .ref a → ∃ ob, s.heap.get? a = some ob ∧ ob.dict = none := by
  cases x with
  | str z =>
    obtain ⟨t, rfl⟩ := r
    cases (show T = "str" from ty)
    exact ⟨typeIs_str s z t, fun _ e => nomatch e⟩
  | int i =>
    obtain ⟨t, rfl⟩ := r
    cases (show T = "int" from ty)
    exact ⟨typeIs_int s i t, fun _ e => nomatch e⟩
  | ref p =>
    cases r
    rcases ty with ⟨rfl, xs, hq⟩ | ⟨rfl, o, hk, hc, hd⟩ | ⟨rfl, hk⟩ | ⟨rfl, S, n, hk⟩
    · obtain ⟨its, _, pl, _⟩ := I.list hq
      refine ⟨pl.isList.typeIs, fun a e => ?_⟩
      cases e
      obtain ⟨o, n, e, c, hd, _⟩ := pl
      exact ⟨o, e, hd⟩
    · refine ⟨⟨o, I.kIn p o hk, hc⟩, fun a e => ?_⟩
      cases e
      exact ⟨o, I.kIn _ o hk, hd⟩
    · have z : ∃ o, s.heap.get? p = some o ∧ o.ExactDict := by
        rcases hk with ⟨kvs, hk⟩ | ⟨kvs, hk⟩
        · obtain ⟨_, _, _, _, o, _, _, e, ex, _⟩ := I.hok p _ hk
          exact ⟨o, e, ex⟩
        · obtain ⟨_, _, _, _, o, _, _, e, ex, _⟩ := I.hok p _ hk
          exact ⟨o, e, ex⟩
      obtain ⟨o, e, ex⟩ := z
      refine ⟨⟨o, e, ex.1⟩, fun a e2 => ?_⟩
      cases e2
      exact ⟨o, e, ex.2.1⟩
    · obtain ⟨o, _, _, _, e, ex, _⟩ := I.hok p _ hk
      refine ⟨⟨o, e, ex.1⟩, fun a e2 => ?_⟩
      cases e2
      exact ⟨o, e, ex.2.1⟩
  | _ => exact False.elim ty
def tBM0 (K : PySem.W.Frag) (T : String) (r : V → List V → Hp → VK → Prop) (to : TE) : TE := fun σ H Q => to σ H fun x H1 => tyV K T x H1 ∧ r x [] H1 Q
def tBM (K : PySem.W.Frag) (T : String) (r : V → List V → Hp → VK → Prop) (to : TE) (t : TA) : TE := fun σ H Q => to σ H fun x H1 => tyV K T x H1 ∧ t σ H1 fun xs H2 => r x xs H2 Q
variable {o e : Expr} {es : List Expr} {to : TE} {t : TA} {name : Str} {apos cpos : Pos} {T id : String} {r : V → List V → Hp → VK → Prop}
theorem pe_bm (pa : PlainAttrs T) (slot : Slot T name id) (hty : typeOf (.builtin id) = pure (.type "method_descriptor")) (hm : MtR X id r) (ho : PE X o to) (ha : PA X (e :: es) t)
    (hbase : attributeBase o name X.env (eval o X.env) = eval o X.env := by rfl)
    (hfew : ((backTo cpos (starEach (e :: es) X.env)).all (fun x => !x.1) && (backToKw cpos (keywordEach [] X.env)).all (fun x => x.1.isSome)
      && decide ((e :: es).length + ([] : List Keyword).length + (if ([] : List Keyword).isEmpty then 0 else 1) < 30)) = true := by rfl)
    (hline : (apos.endLine == cpos.line) = true := by rfl) (hs : starEach (e :: es) X.env = (false, eval e X.env) :: starEach es X.env := by rfl) (hplain : (backTo cpos (starEach es X.env)).any (·.1) = false := by rfl) :
    PE X (.Call (.Attribute o name apos) (e :: es) [] cpos) (tBM X.K T r to t) := by
  intro pins s σ H Q I h
  refine wpAny_Call_method_late hbase hfew hline rfl (thn (ho pins s σ H _ I h) fun v s1 ⟨x, H1, I1, r1, ty, q1⟩ => ?_)
  obtain ⟨h1, h2⟩ := tyV_is I1 r1 ty
  refine ⟨T, id, pa, slot, hty, h1, h2, ?_⟩
  have hA := ha cpos pins s1 σ H1 _ I1 q1
  rw [hs] at hA ⊢
  refine Calls.callWith_builtin (by show (false || (backTo cpos (starEach es X.env)).any (·.1)) = false; rw [hplain] <;> rfl) (Calls.evalArgs_plain ?_)
  exact thn hA fun us s2 ⟨vs, H2, I2, r2, q2⟩ => hm pins s2 σ H2 x vs v us Q I2 r1 r2 q2
/- xs.append(e), list.index on a module's tuple .. are MtR facts of 06m -/
end
end L2

namespace L2
open PySem PySem.Spec PyProof.Rows

def MtM (X : Cx) (id : String) (r : V → List V → Hp → VK → Prop) : Prop :=
  ∀ (pins : List (Addr × Obj)) (s : Shared) (σ : St) (H : Hp) (x : V) (xs : List V) (v : Value) (us : List Value) (Q : VK), Inv X pins σ H s → RelV x v → Vals xs us → r x xs H Q →
    wpAny (model X.prog X.w) X.A (call (.builtin id) (v :: us)) (EP X pins σ Q) X.xe s

/-! ### lists of values -/
theorem Vals.one : ∀ {x : V} {us : List Value}, Vals [x] us → ∃ u, us = [u] ∧ RelV x u
  | _, _, .cons r .nil => ⟨_, rfl, r⟩
section
variable {X : Cx} {pins : List (Addr × Obj)} {σ : St} {H : Hp} {s : Shared} {l b : Addr} {xs ys zs : List V}

/-! ### the two steps: a tracked list is rewritten, a new list is laid -/
theorem Inv.lset {its its' : List Value} {n : Nat} {f : Array Value → Array Value} {t' : Nat} (I : Inv X pins σ H s) (hH : H l = some (.lst xs))
    (e : s.heap.get? l = some { cls := .type "list", data := .seq its.toArray n }) (hf : f its.toArray = its'.toArray) (hv : Vals ys its') (hz : ys.length ≤ sizeLine) :
    Inv X pins σ (upd H l (.lst ys)) { s with heap := s.heap.update l (Obj.mapSeq f), toks := t' } := by
  have q := PySem.IsL.update e f
  rw [hf] at q
  refine I.write (x := l) (e := l) (by rw [hH]; exact trivial) (.inl rfl) (fun b' u hb hu => (Heap.get?_update_other s.heap (Obj.mapSeq f) (Ne.symm hb)).trans hu) ⟨_, q⟩ ?_
  exact ⟨hz, its', _, hv, q⟩
theorem Inv.lnew {its : List Value} {t' : Nat} (I : Inv X pins σ H s) (hv : Vals ys its) (hz : ys.length ≤ sizeLine) :
    Inv X pins σ (upd H s.heap.objs.size (.lst ys)) { s with heap := s.heap.push { cls := .type "list", data := .seq its.toArray }, toks := t' } :=
  I.laid (fun _ _ q => Heap.get?_push_of_some _ q) (Nat.le_refl _) ⟨hz, its, 0, hv, Heap.get?_push_size _ rfl⟩
theorem Inv.fresh (I : Inv X pins σ H s) : H s.heap.objs.size = none := I.hok.fresh (Nat.le_refl _)
theorem Inv.lstM (I : Inv X pins σ H s) (hH : H l = some (.lst xs)) : xs.length ≤ sizeLine ∧ ∃ (its : List Value) (n : Nat), Vals xs its ∧ xs.length = its.length ∧ s.heap.get? l = some { cls := .type "list", data := .seq its.toArray n } := by
  obtain ⟨z, its, n, r, e⟩ := I.hok l _ hH
  exact ⟨z, its, n, r, r.length, e⟩

end

section
variable {X : Cx}

/-! ### methods -/
def rAppend : V → List V → Hp → VK → Prop := fun x vs H Q => ∃ l xs y, x = .ref l ∧ vs = [y] ∧ H l = some (.lst xs) ∧ xs.length < sizeLine ∧ Q .non (upd H l (.lst (xs ++ [y])))
theorem mt_append : MtM X "list.append" rAppend := by
  intro pins s σ H x vs v us Q I rx rv h
  obtain ⟨l, xs, y, rfl, rfl, hH, hz, q⟩ := h
  cases rx
  obtain ⟨u, rfl, ru⟩ := rv.one
  obtain ⟨z, its, n, r, hl, e⟩ := I.lstM hH
  refine call_meets F.slot_list_append ⟨_, e, rfl⟩ F.entry_list_append (F.args_list_append_2 _ _) (PySem.list_append l its.toArray n u (by rw [List.size_toArray]; omega)) ⟨e, ?_⟩
  refine ⟨.non, _, I.lset (its' := its ++ [u]) hH e (by simp) (r.append (.cons ru .nil)) ?_, rfl, q⟩
  rw [List.length_append, List.length_singleton]
  omega

def rExtend : V → List V → Hp → VK → Prop := fun x vs H Q => ∃ l b xs zs, x = .ref l ∧ vs = [.ref b] ∧ H l = some (.lst xs) ∧ H b = some (.lst zs) ∧ xs.length + zs.length ≤ sizeLine ∧ Q .non (upd H l (.lst (xs ++ zs)))
def rPop : V → List V → Hp → VK → Prop := fun x vs H Q => ∃ l xs y, x = .ref l ∧ vs = [] ∧ H l = some (.lst xs) ∧ xs[xs.length - 1]? = some y ∧ Q y (upd H l (.lst xs.dropLast))
def rPopAt : V → List V → Hp → VK → Prop := fun x vs H Q => ∃ l xs i k y, x = .ref l ∧ vs = [.int i] ∧ H l = some (.lst xs) ∧ -(2 ^ 63) ≤ i ∧ i < 2 ^ 63 ∧ seqIndex? i xs.length = some k ∧ xs[k]? = some y ∧ Q y (upd H l (.lst (xs.eraseIdx k)))
def rReverse : V → List V → Hp → VK → Prop := fun x vs H Q => ∃ l xs, x = .ref l ∧ vs = [] ∧ H l = some (.lst xs) ∧ Q .non (upd H l (.lst xs.reverse))
def rClear : V → List V → Hp → VK → Prop := fun x vs H Q => ∃ l xs, x = .ref l ∧ vs = [] ∧ H l = some (.lst xs) ∧ Q .non (upd H l (.lst []))
/-! ### list + list, list += list, list * int -/
def rCat : R2 := fun x y H Q => ∃ l b xs zs, x = .ref l ∧ y = .ref b ∧ H l = some (.lst xs) ∧ H b = some (.lst zs) ∧ xs.length + zs.length ≤ sizeLine ∧ ∀ p, H p = none → Q (.ref p) (upd H p (.lst (xs ++ zs)))
theorem op_cat : OpR X (binaryOp .Add) rCat := by
  intro pins s σ H x y v u Q I rx ry h
  obtain ⟨l, b, xs, zs, rfl, rfl, hH, hB, hz, q⟩ := h
  cases rx
  cases ry
  obtain ⟨z, its, n, r, hl, e⟩ := I.lstM hH
  obtain ⟨z2, its2, n2, r2, hl2, e2⟩ := I.lstM hB
  refine PySem.P.add_list e e2 ?_ (by rw [List.size_toArray, List.size_toArray]; omega)
  have ea : its.toArray ++ its2.toArray = (its ++ its2).toArray := by simp
  rw [ea]
  exact ⟨.ref _, _, I.lnew (t' := s.toks) (r.append r2) (by rw [List.length_append]; omega), rfl, q _ I.fresh⟩
/-- a list times an int (a negative one is nothing) -/
def rRep : R2 := fun x y H Q => ∃ l k xs, x = .ref l ∧ y = .int k ∧ H l = some (.lst xs) ∧ -(2 ^ 63) ≤ k ∧ k < 2 ^ 63 ∧ xs.length * k.toNat ≤ sizeLine ∧
  ∀ p, H p = none → Q (.ref p) (upd H p (.lst (List.replicate k.toNat xs).flatten))
/-! ### del xs[i] -/
end

/-! ### xs[a:b] = ys -/
section
variable {prog : Program} {w : World} {A : Around} {E : Value → Shared → Prop} {s : Shared}
end

section
variable {X : Cx}
end
end L2

namespace L2
open PySem PySem.Spec PyProof.Rows

theorem Vals.bls : ∀ {bs : List Bool} {us : List Value}, Vals (bs.map V.bl) us → us = bs.map Value.bool
  | [], us, h => by
    rw [List.map_nil] at h
    cases h
    rfl
  | b :: bs, us, h => by
    rw [List.map_cons] at h
    cases h with
    | cons r t =>
      cases r
      rw [Vals.bls t, List.map_cons]
theorem Vals.ref1 {a : Addr} {us : List Value} (r : Vals [V.ref a] us) : us = [Value.ref a] := by
  cases r with
  | cons r t =>
    cases t
    cases r
    rfl
/-! ### the library's walks over a list of ints, kept objects alone -/
section
variable {prog : Program} {w : World} {A : Around} {E : Value → Shared → Prop} {s : Shared} {l : Addr} {its : List Value} {ns : List Int} {Q : Value → Shared → Prop}
end

/-! ### the calls, by values (CallR of 03t; MtR of 06l) -/
section
variable {X : Cx}
/-- sum(xs) of a list of ints -/
def rSum (K : PySem.W.Frag) : List V → Hp → VK → Prop := fun vs H Q => ∃ (a : Addr) (ns : List Int), vs = [V.ref a] ∧ SqL K H a (ns.map V.int) ∧ Q (.int ns.sum) H
/-- max(xs), min(xs) of a list of ints -/
def rMax (K : PySem.W.Frag) : List V → Hp → VK → Prop := fun vs H Q => ∃ (a : Addr) (ns : List Int), vs = [V.ref a] ∧ SqL K H a (ns.map V.int) ∧ 0 < ns.length ∧ ∀ m, m ∈ ns → (∀ y, y ∈ ns → y ≤ m) → Q (.int m) H
def rMin (K : PySem.W.Frag) : List V → Hp → VK → Prop := fun vs H Q => ∃ (a : Addr) (ns : List Int), vs = [V.ref a] ∧ SqL K H a (ns.map V.int) ∧ 0 < ns.length ∧ ∀ m, m ∈ ns → (∀ y, y ∈ ns → m ≤ y) → Q (.int m) H
/-! sorted, sort (fewer than 64 items: the library's own bound) -/
def rSorted (K : PySem.W.Frag) : List V → Hp → VK → Prop := fun vs H Q => ∃ (a : Addr) (ns : List Int), vs = [V.ref a] ∧ SqL K H a (ns.map V.int) ∧ ns.length < 64 ∧
  ∀ (ns' : List Int) (p : Addr), ns'.Perm ns → ns'.Pairwise (· ≤ ·) → H p = none → Q (.ref p) (upd H p (.lst (ns'.map V.int)))
def rSortedS (K : PySem.W.Frag) : List V → Hp → VK → Prop := fun vs H Q => ∃ (a : Addr) (xs : List Str), vs = [V.ref a] ∧ SqL K H a (xs.map V.str) ∧ xs.length < 64 ∧
  ∀ (ys : List Str) (p : Addr), ys.Perm xs → sortedS ys = true → H p = none → Q (.ref p) (upd H p (.lst (ys.map V.str)))
/-- xs.sort(), ints -/
def rSort : V → List V → Hp → VK → Prop := fun x xs H Q => ∃ (a : Addr) (ns : List Int), x = V.ref a ∧ xs = [] ∧ H a = some (.lst (ns.map V.int)) ∧ ns.length < 64 ∧
  ∀ ns' : List Int, ns'.Perm ns → ns'.Pairwise (· ≤ ·) → Q .non (upd H a (.lst (ns'.map V.int)))
end

/-! ### list.index, flat items -/
section
variable {X : Cx}
def rIndex (K : PySem.W.Frag) : V → List V → Hp → VK → Prop := fun x xs H Q => ∃ (a : Addr) (ys : List V) (y : V) (j : Nat) (z : V), x = V.ref a ∧ xs = [y] ∧ SqL K H a ys ∧ flatV y = true ∧ ys.all flatV = true ∧ ys[j]? = some z ∧ eqV z y = true ∧
  (∀ (m : Nat) (z' : V), m < j → ys[m]? = some z' → eqV z' y = false) ∧ Q (.int (j : Nat)) H
end

/-! ### type(x) of an own instance; is, is not of a module's class -/
section
variable {X : Cx}
end

/-! ### any(xs), all(xs) of a list of bools -/
theorem iter_any {prog : Program} {w : World} {A : Around} {E : Value → Shared → Prop} {s : Shared} {l : Addr} {items : Array Value} {Q : Value → Shared → Prop} (hl : s.heap.IsList l items)
    (h : ∀ s₂ : Shared, s₂ = { s with heap := s.heap.push { cls := .type "list_iterator", data := .fields #[.ref l, .int 0 0] } } →
      (s₂.heap.IsListIter s.heap.objs.size l 0 ∧ s₂.heap.IsList l items) → l ≠ s.heap.objs.size → Q (.ref s.heap.objs.size) s₂) : wpAny (model prog w) A (pyIter (.ref l)) Q E s := by
  have hlt : l < s.heap.objs.size := by obtain ⟨_, e, _⟩ := hl; exact Heap.lt_size e
  exact wpAny_pyIter_list hl (h _ rfl ⟨⟨_, Heap.get?_push_size _ rfl, rfl, rfl⟩, hl.push _⟩ (Nat.ne_of_lt hlt))
theorem truth_bools {prog : Program} {w : World} {A : Around} {bs : List Bool} {its : List Value} (e : its = bs.map Value.bool) :
    TruthOf prog w A (fun i v => its.toArray[i]? = some v) (fun i => bs.getD i false) := fun i v s Q E hv hq => by
  have hv' : its[i]? = some v := by simpa using hv
  rw [e, List.getElem?_map] at hv'
  obtain ⟨b, hb, rfl⟩ := Option.map_eq_some_iff.mp hv'
  have hg : bs.getD i false = b := by rw [List.getD_eq_getElem?_getD, hb] <;> rfl
  have hq' : Q (bs.getD i false) s := hq
  rw [hg] at hq'
  exact wpAny_truthy_bool hq'
theorem any_range : ∀ bs : List Bool, (List.range bs.length).any (fun i => bs.getD i false) = bs.any id
  | [] => rfl
  | b :: bs => by
    rw [List.length_cons, List.range_succ_eq_map, List.any_cons, List.any_map, List.any_cons, ← any_range bs]
    all_goals rfl
theorem all_range : ∀ bs : List Bool, (List.range bs.length).all (fun i => bs.getD i false) = bs.all id
  | [] => rfl
  | b :: bs => by
    rw [List.length_cons, List.range_succ_eq_map, List.all_cons, List.all_map, List.all_cons, ← all_range bs]
    all_goals rfl
section
variable {X : Cx}
def rAny (K : PySem.W.Frag) : List V → Hp → VK → Prop := fun vs H Q => ∃ (a : Addr) (bs : List Bool), vs = [V.ref a] ∧ SqL K H a (bs.map V.bl) ∧ Q (.bl (bs.any id)) H
def rAll (K : PySem.W.Frag) : List V → Hp → VK → Prop := fun vs H Q => ∃ (a : Addr) (bs : List Bool), vs = [V.ref a] ∧ SqL K H a (bs.map V.bl) ∧ Q (.bl (bs.all id)) H
theorem cr_any (hc : X.calm = true) : CallR X (.builtin "any") (rAny X.K) := by
  intro pins s σ H vs us Q I r h
  obtain ⟨a, bs, rfl, hs, q⟩ := h
  obtain ⟨its, rv, hl, _⟩ := I.list hs
  rw [Vals.ref1 r]
  have hb := rv.bls
  refine call_any_walk (iter_any hl.isList fun s₂ e2 st hne => ?_)
  subst e2
  refine ⟨_, _, _, _, _, _, _, rfl, Walks.list (A := X.A.in1) (I.ok.hd hc) _ a hne its.toArray, st, truth_bools hb, fun h' tk hk => ?_⟩
  refine ⟨.bl _, H, I.kept fun b o eo => hk b o (fun hmem => ?_) (Heap.get?_push_of_some _ eo), ?_, q⟩
  · rcases List.mem_cons.mp hmem with e1 | hmem
    · exact absurd (e1 ▸ Heap.lt_size eo) (Nat.lt_irrefl _)
    · cases hmem
  · show Value.bool _ = Value.bool _
    rw [← any_range, hb, List.size_toArray, List.length_map]
theorem cr_all (hc : X.calm = true) : CallR X (.builtin "all") (rAll X.K) := by
  intro pins s σ H vs us Q I r h
  obtain ⟨a, bs, rfl, hs, q⟩ := h
  obtain ⟨its, rv, hl, _⟩ := I.list hs
  rw [Vals.ref1 r]
  have hb := rv.bls
  refine call_all_walk (iter_any hl.isList fun s₂ e2 st hne => ?_)
  subst e2
  refine ⟨_, _, _, _, _, _, _, rfl, Walks.list (A := X.A.in1) (I.ok.hd hc) _ a hne its.toArray, st, truth_bools hb, fun h' tk hk => ?_⟩
  refine ⟨.bl _, H, I.kept fun b o eo => hk b o (fun hmem => ?_) (Heap.get?_push_of_some _ eo), ?_, q⟩
  · rcases List.mem_cons.mp hmem with e1 | hmem
    · exact absurd (e1 ▸ Heap.lt_size eo) (Nat.lt_irrefl _)
    · cases hmem
  · show Value.bool _ = Value.bool _
    rw [← all_range, hb, List.size_toArray, List.length_map]
end

/-! ### == and != of data at any depth: none, bools, ints, texts, lists, tuples -/
mutual
inductive Dp (K : PySem.W.Frag) (H : Hp) : V → PyData → Prop
  | non : Dp K H .non .none
  | bl (b : Bool) : Dp K H (.bl b) (.bool b)
  | int (i : Int) : Dp K H (.int i) (.int i)
  | str (x : Str) : Dp K H (.str x) (.str x)
  | lst {a : Addr} {xs : List V} {ds : List PyData} : SqL K H a xs → DpAll K H xs ds → Dp K H (.ref a) (.list ds)
  | tup {a : Addr} {xs : List V} {ds : List PyData} : SqT K H a xs → DpAll K H xs ds → Dp K H (.ref a) (.tuple ds)
inductive DpAll (K : PySem.W.Frag) (H : Hp) : List V → List PyData → Prop
  | nil : DpAll K H [] []
  | cons {v : V} {vs : List V} {d : PyData} {ds : List PyData} : Dp K H v d → DpAll K H vs ds → DpAll K H (v :: vs) (d :: ds)
end
section
variable {X : Cx} {pins : List (Addr × Obj)} {σ : St} {H : Hp} {s : Shared}
mutual
theorem Dp.reads (I : Inv X pins σ H s) : ∀ (d : PyData) (v : V) (u : Value), Dp X.K H v d → RelV v u → ∃ as, Reads s.heap u d as
  | .none, _, _, h, r => by
    cases h
    cases r
    exact ⟨_, Reads.none⟩
  | .bool b, _, _, h, r => by
    cases h
    cases r
    exact ⟨_, Reads.bool b⟩
  | .int i, _, _, h, r => by
    cases h
    obtain ⟨t, rfl⟩ := r
    exact ⟨_, Reads.int i t⟩
  | .str x, _, _, h, r => by
    cases h
    obtain ⟨t, rfl⟩ := r
    exact ⟨_, Reads.str x t⟩
  | .list ds, _, _, h, r => by
    cases h with
    | lst hs ha =>
      cases r
      obtain ⟨its, rv, ⟨o, n, ho, hc, _, hd⟩, _⟩ := I.list hs
      obtain ⟨as, hr⟩ := Dp.readsAll I ds _ its ha rv
      exact ⟨_, Reads.list ho hc hd hr⟩
  | .tuple ds, _, _, h, r => by
    cases h with
    | tup hs ha =>
      cases r
      obtain ⟨its, rv, ⟨o, ho, hc, n, hd⟩, _⟩ := I.tuple hs
      obtain ⟨as, hr⟩ := Dp.readsAll I ds _ its ha rv
      exact ⟨_, Reads.tuple ho hc hd hr⟩
  | .dict _, _, _, h, _ => by cases h
theorem Dp.readsAll (I : Inv X pins σ H s) : ∀ (ds : List PyData) (vs : List V) (us : List Value), DpAll X.K H vs ds → Vals vs us → ∃ as, ReadsAll s.heap us ds as
  | [], _, _, h, r => by
    cases h
    cases r
    exact ⟨_, ReadsAll.nil⟩
  | d :: ds, _, _, h, r => by
    cases h with
    | cons h1 h2 =>
      cases r with
      | cons r1 r2 =>
        obtain ⟨as, q1⟩ := Dp.reads I d _ _ h1 r1
        obtain ⟨bs, q2⟩ := Dp.readsAll I ds _ _ h2 r2
        exact ⟨_, ReadsAll.cons q1 q2⟩
end
end
section
variable {X : Cx}
def rEqD (K : PySem.W.Frag) : R2 := fun x y H Q => ∃ d e, Dp K H x d ∧ Dp K H y e ∧ SeqAt.shaped d = true ∧ SeqAt.shaped e = true ∧ Q (.bl (PyData.eqv d e)) H
def rNeD (K : PySem.W.Frag) : R2 := fun x y H Q => ∃ d e, Dp K H x d ∧ Dp K H y e ∧ SeqAt.shaped d = true ∧ SeqAt.shaped e = true ∧ Q (.bl (!PyData.eqv d e)) H
theorem op_eqD (hu : X.A.units + 64 < cLine) : OpR X (compareOp .Eq) (rEqD X.K) := by
  intro pins s σ H x y v u Q I rx ry h
  obtain ⟨d, e, hd, he, sd, se, q⟩ := h
  obtain ⟨as, r1⟩ := Dp.reads I d x v hd rx
  obtain ⟨bs, r2⟩ := Dp.reads I e y u he ry
  exact SeqAt.compareEq_shaped r1 r2 sd se hu ⟨.bl _, H, I, rfl, q⟩
theorem op_neD (hu : X.A.units + 64 < cLine) : OpR X (compareOp .NotEq) (rNeD X.K) := by
  intro pins s σ H x y v u Q I rx ry h
  obtain ⟨d, e, hd, he, sd, se, q⟩ := h
  obtain ⟨as, r1⟩ := Dp.reads I d x v hd rx
  obtain ⟨bs, r2⟩ := Dp.reads I e y u he ry
  exact SeqAt.compareNe_shaped r1 r2 sd se hu ⟨.bl _, H, I, rfl, q⟩
end
end L2

namespace L2
open PySem PySem.Spec PyProof.Rows
abbrev CellAt (h : Heap) (c : Addr) (v : Option Value) : Prop := h.IsCell c v
def relS (scope sc : Scope) : Scope :=
  { scope with names := scope.names.map fun (n, k) => if (k == .free && sc.kind == .function && sc.names.lookup n == some .cell) then (n, .cell) else (n, k) }

def cloFrom (cells : List (Str × Addr)) : List (Str × NameKind) → List (Str × Addr) → List (Str × Addr)
  | [], acc => acc
  | (n, k) :: r, acc => if k == .free then cloFrom cells r ((n, (cells.lookup n).getD 0) :: acc) else cloFrom cells r acc

theorem closure_loop (env : Env) (f : Str × NameKind → List (Str × Addr) → Sem (ForInStep (List (Str × Addr))))
    (hf : ∀ n k c, f (n, k) c = if k == .free then (do let a ← cellOf env n; pure (.yield ((n, a) :: c))) else pure (.yield c)) :
    ∀ (names : List (Str × NameKind)) (acc : List (Str × Addr)), (∀ y ∈ names, y.2 = .free → ∃ c, env.cells.lookup y.1 = some c) → forIn names acc f = pure (cloFrom env.cells names acc)
  | [], acc, _ => by rw [List.forIn_nil]; rfl
  | (n, k) :: r, acc, h => by
    rw [List.forIn_cons, hf]
    have ih := fun acc => closure_loop env f hf r acc fun y hy => h y (List.mem_cons_of_mem _ hy)
    unfold cloFrom
    by_cases hk : (k == NameKind.free) = true
    · rw [if_pos hk, if_pos hk]
      obtain ⟨c, hc⟩ := h (n, k) List.mem_cons_self (by simpa using hk)
      have e : cellOf env n = pure c := by unfold cellOf; rw [hc]
      rw [e]
      have e2 : (env.cells.lookup n).getD 0 = c := by rw [hc]; rfl
      rw [e2]
      exact ih _
    · rw [if_neg hk, if_neg hk]
      exact ih _
theorem closure_ok {scope : Scope} {env : Env} (h : ∀ y ∈ scope.names, y.2 = .free → ∃ c, env.cells.lookup y.1 = some c) : closureFor scope env = pure (cloFrom env.cells scope.names []) := by
  simp only [closureFor]
  rw [closure_loop env _ (fun n k c => rfl) scope.names [] h]
  rfl

theorem mem_lookup {α : Type} : ∀ {l : List (Str × α)} {n : Str} {c : α}, (n, c) ∈ l → ∃ c', l.lookup n = some c'
  | (k, v) :: r, n, c, h => by
    rw [List.lookup_cons]
    cases hb : n == k with
    | true => exact ⟨_, rfl⟩
    | false =>
      rcases List.mem_cons.mp h with e | h
      · cases e; simp at hb
      · exact mem_lookup h

theorem cloFrom_mem {cells : List (Str × Addr)} : ∀ {names : List (Str × NameKind)} {acc : List (Str × Addr)} {n : Str} {c : Addr}, (n, c) ∈ cloFrom cells names acc → (n, c) ∈ acc ∨ ((n, .free) ∈ names ∧ c = (cells.lookup n).getD 0)
  | [], _, _, _, h => .inl h
  | (m, k) :: r, acc, n, c, h => by
    unfold cloFrom at h
    split at h
    · rename_i hk
      have hk : k = .free := by simpa using hk
      rcases cloFrom_mem h with h | ⟨h1, h2⟩
      · rcases List.mem_cons.mp h with e | h
        · cases e; exact .inr ⟨hk ▸ List.mem_cons_self, rfl⟩
        · exact .inl h
      · exact .inr ⟨List.mem_cons_of_mem _ h1, h2⟩
    · rcases cloFrom_mem h with h | ⟨h1, h2⟩
      · exact .inl h
      · exact .inr ⟨List.mem_cons_of_mem _ h1, h2⟩
theorem cloFrom_acc {cells : List (Str × Addr)} : ∀ {names : List (Str × NameKind)} {acc : List (Str × Addr)} {p : Str × Addr}, p ∈ acc → p ∈ cloFrom cells names acc
  | [], _, _, h => h
  | (m, k) :: r, acc, p, h => by
    unfold cloFrom
    split
    · exact cloFrom_acc (List.mem_cons_of_mem _ h)
    · exact cloFrom_acc h
theorem cloFrom_has {cells : List (Str × Addr)} : ∀ {names : List (Str × NameKind)} {acc : List (Str × Addr)} {n : Str}, (n, .free) ∈ names → (n, (cells.lookup n).getD 0) ∈ cloFrom cells names acc
  | (m, k) :: r, acc, n, h => by
    unfold cloFrom
    rcases List.mem_cons.mp h with e | h
    · cases e
      exact cloFrom_acc List.mem_cons_self
    · split
      · exact cloFrom_has h
      · exact cloFrom_has h

theorem cells_mem : ∀ {names : List (Str × NameKind)} {h : Heap} {acc : List (Str × Addr)} {x : Str} {c : Addr}, (x, c) ∈ cellsFrom h.objs.size names acc →
    (x, c) ∈ acc ∨ ((x, .cell) ∈ names ∧ h.objs.size ≤ c ∧ CellAt (pushCells h names) c none)
  | [], _, _, _, _, h => .inl h
  | (n, k) :: r, h, acc, x, c, hm => by
    unfold cellsFrom at hm
    unfold pushCells
    split at hm
    · rename_i hk
      rw [if_pos hk]
      have hk : k = .cell := by simpa using hk
      rw [← Heap.size_push h { cls := .type "cell", data := .cell none }] at hm
      rcases cells_mem hm with hm | ⟨h1, h2, h3⟩
      · rcases List.mem_cons.mp hm with e | hm
        · cases e
          exact .inr ⟨hk ▸ List.mem_cons_self, Nat.le_refl _, _, pushCells_keeps r _ _ _ (Heap.get?_push_size _ rfl), rfl⟩
        · exact .inl hm
      · rw [Heap.size_push] at h2
        exact .inr ⟨List.mem_cons_of_mem _ h1, Nat.le_of_succ_le h2, h3⟩
    · rename_i hk
      rw [if_neg hk]
      rcases cells_mem hm with hm | ⟨h1, h2, h3⟩
      · exact .inl hm
      · exact .inr ⟨List.mem_cons_of_mem _ h1, h2, h3⟩
theorem cells_acc : ∀ {names : List (Str × NameKind)} {n : Nat} {acc : List (Str × Addr)} {p : Str × Addr}, p ∈ acc → p ∈ cellsFrom n names acc
  | [], _, _, _, h => h
  | (m, k) :: r, n, acc, p, h => by
    unfold cellsFrom
    split
    · exact cells_acc (List.mem_cons_of_mem _ h)
    · exact cells_acc h
theorem cells_has : ∀ {names : List (Str × NameKind)} {n : Nat} {acc : List (Str × Addr)} {x : Str}, (x, .cell) ∈ names → ∃ c, (x, c) ∈ cellsFrom n names acc
  | (m, k) :: r, n, acc, x, h => by
    unfold cellsFrom
    rcases List.mem_cons.mp h with e | h
    · cases e
      exact ⟨n, cells_acc List.mem_cons_self⟩
    · split
      · exact cells_has h
      · exact cells_has h
theorem cells_inj : ∀ {names : List (Str × NameKind)} {h : Heap} {acc : List (Str × Addr)} {x y : Str} {c : Addr}, (∀ p ∈ acc, p.2 < h.objs.size) → (∀ x y c, (x, c) ∈ acc → (y, c) ∈ acc → x = y) →
    (x, c) ∈ cellsFrom h.objs.size names acc → (y, c) ∈ cellsFrom h.objs.size names acc → x = y
  | [], _, _, _, _, _, _, hi, h1, h2 => hi _ _ _ h1 h2
  | (n, k) :: r, h, acc, x, y, c, hl, hi, h1, h2 => by
    unfold cellsFrom at h1 h2
    split at h1
    · rename_i hk
      rw [if_pos hk] at h2
      rw [← Heap.size_push h { cls := .type "cell", data := .cell none }] at h1 h2
      refine cells_inj (h := h.push _) (fun p hp => ?_) (fun x y c a b => ?_) h1 h2
      · rw [Heap.size_push]
        rcases List.mem_cons.mp hp with rfl | hp
        · exact Nat.lt_succ_self _
        · exact Nat.lt_succ_of_lt (hl p hp)
      · rcases List.mem_cons.mp a with e | a <;> rcases List.mem_cons.mp b with e' | b
        · cases e; cases e'; rfl
        · cases e; exact absurd (hl _ b) (Nat.lt_irrefl _)
        · cases e'; exact absurd (hl _ a) (Nat.lt_irrefl _)
        · exact hi _ _ _ a b
    · rename_i hk
      rw [if_neg hk] at h2
      exact cells_inj hl hi h1 h2

theorem newEnv_comp {M : Model} {A : Around} {E : Value → Shared → Prop} {s : Shared} {scope : Scope} {globals : Addr} {closure : List (Str × Addr)} {qual : Str} {func : Option Addr} {code : Value} {around : Env} {builtins : Addr} {Q : Env → Shared → Prop}
    (h : Q (newEnv scope s.heap.objs.size globals (cellsFrom (s.heap.objs.size + 1) scope.names closure) qual func code (some around) builtins)
      { s with heap := pushCells (s.heap.push { cls := .type "dict", data := .dict #[] }) scope.names }) :
    wpAny M A (newFunctionEnv scope globals closure [] qual func code (some around) builtins) Q E s := by
  simp only [newFunctionEnv, Option.isSome_some, if_true]
  refine wpAny_bind (wpAny_alloc ?_)
  refine wpAny_bind (wpAny_layCells _ (fun n k c => rfl) scope.names closure _ _ ?_)
  rw [show ({ s with heap := s.heap.push { cls := .type "dict", data := .dict #[] } } : Shared).heap.objs.size = s.heap.objs.size + 1 from Heap.size_push ..]
  rw [List.forIn_nil]
  exact wpAny_bind (wpAny_pure (wpAny_pure h))

/-- every name of the written scope, in the scope that runs -/
theorem lookup_relS {sc : Scope} : ∀ {names : List (Str × NameKind)} {x : Str} {k : NameKind},
    (names.map fun (n, k) => if (k == NameKind.free && sc.kind == .function && sc.names.lookup n == some .cell) then (n, NameKind.cell) else (n, k)).lookup x = some k →
    ∃ k', names.lookup x = some k' ∧ (k = k' ∨ (k' = .free ∧ k = .cell))
  | [], _, _, h => by simp at h
  | (n, k₀) :: r, x, k, h => by
    have ih := @lookup_relS sc r x k
    have h' : List.lookup x ((if (k₀ == NameKind.free && sc.kind == .function && sc.names.lookup n == some .cell) = true then (n, NameKind.cell) else (n, k₀)) :: (r.map _)) = some k := h
    cases hx : x == n with
    | true =>
      simp only [List.lookup_cons, hx]
      by_cases hc : (k₀ == NameKind.free && sc.kind == .function && sc.names.lookup n == some .cell) = true
      · rw [if_pos hc] at h'
        simp only [List.lookup_cons, hx] at h'
        cases h'
        simp only [Bool.and_eq_true, beq_iff_eq] at hc
        exact ⟨k₀, rfl, .inr ⟨hc.1.1, rfl⟩⟩
      · rw [if_neg hc] at h'
        simp only [List.lookup_cons, hx] at h'
        cases h'
        exact ⟨_, rfl, .inl rfl⟩
    | false =>
      simp only [List.lookup_cons, hx]
      by_cases hc : (k₀ == NameKind.free && sc.kind == .function && sc.names.lookup n == some .cell) = true
      · rw [if_pos hc] at h'
        simp only [List.lookup_cons, hx] at h'
        exact ih h'
      · rw [if_neg hc] at h'
        simp only [List.lookup_cons, hx] at h'
        exact ih h'
/-- the names of a comprehension's block: its own (with their places in N), or captured -/
structure BlkOk (N : List Str) (sc scope : Scope) (own : List (Str × Nat)) : Prop where
  kind : scope.kind = .function
  uniq : ∀ y ∈ scope.names, scope.names.lookup y.1 = some y.2
  ix : ∀ p ∈ own, N[p.2]? = some p.1
  free : ∀ y ∈ scope.names, y.2 = .free → sc.names.lookup y.1 = some .cell ∨ sc.names.lookup y.1 = some .free
  own : ∀ y ∈ scope.names, y.2 = .local ∨ y.2 = .cell → y.1 ∈ own.map (·.1) ∨ y.1 ∉ N
/-- the slots of the block's own names forgotten -/
def wipe (σ : St) : List Nat → St
  | [] => σ
  | v :: vs => (wipe σ vs).set v none
theorem wipe_length (σ : St) : ∀ vs : List Nat, (wipe σ vs).length = σ.length
  | [] => rfl
  | v :: vs => by unfold wipe; rw [List.length_set, wipe_length σ vs]
theorem wipe_some {σ : St} {i : Nat} {x : V} : ∀ {vs : List Nat}, (wipe σ vs)[i]? = some (some x) → σ[i]? = some (some x) ∧ i ∉ vs
  | [], h => ⟨h, by simp⟩
  | v :: vs, h => by
    unfold wipe at h
    by_cases hi : v = i
    · subst hi
      by_cases hv : v < (wipe σ vs).length
      · rw [List.getElem?_set_self hv] at h; cases h
      · rw [List.getElem?_eq_none (by simpa using hv)] at h; cases h
    · rw [List.getElem?_set_ne hi] at h
      obtain ⟨h1, h2⟩ := wipe_some h
      exact ⟨h1, by simp only [List.mem_cons, not_or]; exact ⟨fun e => hi e.symm, h2⟩⟩

/-- the context of a block that starts at s, its iterator's objects at fp -/
abbrev Cx.blk (X : Cx) (s : Shared) (H : Hp) (scope : Scope) (cenv : Env) (fp : List Addr) : Cx := { X with s_0 := s, H_0 := H, env := cenv, outer := X.stack, ex := fp, fn := fun x => scope.names.lookup x == some .cell, pn := [], xe := fun _ _ => False }
section
variable {X : Cx} {pins : List (Addr × Obj)} {σ : St} {H : Hp} {s : Shared}
theorem block_start {scope : Scope} {own : List (Str × Nat)} {fp : List Addr} (I : Inv X pins σ H s) (ok : BlkOk X.N X.env.scope scope own) (hN : X.N.Nodup) (hfp : ∀ b ∈ fp, FpOk X pins H b ∧ b < s.heap.objs.size) :
    Inv (X.blk s H scope (compEnvC scope (cellsFrom (s.heap.objs.size + 1) scope.names (cloFrom X.env.cells scope.names [])) s.heap.objs.size X.env) fp) [] (wipe σ (own.map (·.2))) H { s with heap := pushCells (s.heap.push { cls := .type "dict", data := .dict #[] }) scope.names } := by
  have hfree : ∀ y ∈ scope.names, y.2 = .free → ∃ c, X.env.cells.lookup y.1 = some c := fun y hy e => by
    rcases ok.free y hy e with k | k
    · exact I.ok.has _ (.inl k)
    · exact I.ok.has _ (.inr k)
  generalize hcenv : compEnvC scope (cellsFrom (s.heap.objs.size + 1) scope.names (cloFrom X.env.cells scope.names [])) s.heap.objs.size X.env = cenv
  have kp : ∀ b o, s.heap.get? b = some o → (pushCells (s.heap.push { cls := .type "dict", data := .dict #[] }) scope.names).get? b = some o := fun b o e => pushCells_keeps _ _ _ _ (Heap.get?_push_of_some _ e)
  have hL : cenv.locals = s.heap.objs.size := by rw [← hcenv]; rfl
  have hcl : cenv.cells = cellsFrom (s.heap.objs.size + 1) scope.names (cloFrom X.env.cells scope.names []) := by rw [← hcenv]; rfl
  have hsc : cenv.scope = relS scope X.env.scope := by rw [← hcenv]; rfl
  rw [← Heap.size_push s.heap { cls := .type "dict", data := .dict #[] }] at hcl
  have cm : ∀ {y c}, (y, c) ∈ cloFrom X.env.cells scope.names [] → X.env.cells.lookup y = some c ∧ c < s.heap.objs.size := fun {y c} hm => by
    rcases cloFrom_mem hm with hm | ⟨h1, rfl⟩
    · cases hm
    · obtain ⟨c, hc⟩ := hfree _ h1 rfl
      rw [hc]
      obtain ⟨w, z⟩ := I.cell _ _ hc
      exact ⟨rfl, z.lt⟩
  have mem : ∀ {y c}, cenv.cells.lookup y = some c → (X.env.cells.lookup y = some c ∧ c < s.heap.objs.size) ∨ (s.heap.objs.size + 1 ≤ c ∧ CellAt (pushCells (s.heap.push { cls := .type "dict", data := .dict #[] }) scope.names) c none) := fun {y c} e => by
    rw [hcl] at e
    rcases cells_mem (PySem.mem_of_lookup e) with hm | ⟨_, h2, h3⟩
    · exact .inl (cm hm)
    · rw [Heap.size_push] at h2; exact .inr ⟨h2, h3⟩
  have look : ∀ {y}, scope.names.lookup y = some .free → ∃ c, cenv.cells.lookup y = some c ∧ X.env.cells.lookup y = some c := fun {y} hl => by
    have hy : (y, NameKind.free) ∈ scope.names := PySem.mem_of_lookup hl
    obtain ⟨c', e'⟩ := mem_lookup (cells_acc (names := scope.names) (n := (s.heap.push { cls := .type "dict", data := .dict #[] }).objs.size) (cloFrom_has (cells := X.env.cells) (acc := []) hy))
    rw [← hcl] at e'
    refine ⟨c', e', ?_⟩
    rw [hcl] at e'
    rcases cells_mem (PySem.mem_of_lookup e') with hm | ⟨h1, _, _⟩
    · exact (cm hm).1
    · have := ok.uniq _ h1
      rw [hl] at this; cases this
  have okB : (X.blk s H scope cenv fp).Ok := by
    refine ⟨I.ok.mod, by show cenv.scope.kind = _; rw [hsc]; exact ok.kind, by show cenv.globals = _; rw [← hcenv]; exact I.ok.glob, by show cenv.builtins = _; rw [← hcenv]; exact I.ok.blt, by show s.heap.objs.size ≤ cenv.locals; rw [hL]; exact Nat.le_refl _,
      fun y z c e1 e2 => ?_, fun y hy => ?_, fun y c z e => ?_, I.ok.hd, I.ok.frames, .inl rfl, fun b hb => ⟨?_, fun y c e z => ?_⟩, I.bs, Nat.le_trans I.ok.bsz I.sz, fun b o e hb => ?_, fun b hb z => ?_, I.stack, I.stkFree⟩
    · have e1 : cenv.cells.lookup y = some c := e1
      have e2 : cenv.cells.lookup z = some c := e2
      rw [hcl] at e1 e2
      refine cells_inj (fun p hp => ?_) (fun y z c a b => I.ok.inj y z c (cm a).1 (cm b).1) (PySem.mem_of_lookup e1) (PySem.mem_of_lookup e2)
      rw [Heap.size_push]
      exact Nat.lt_succ_of_lt (cm (y := p.1) (c := p.2) hp).2
    · show ∃ c, cenv.cells.lookup y = some c
      have key : ∀ k, cenv.kindOf y = some k → (k = .cell ∨ k = .free) → ∃ c, cenv.cells.lookup y = some c := fun k hk hk' => by
        unfold Env.kindOf at hk
        rw [hsc] at hk
        obtain ⟨k', e, r⟩ := lookup_relS hk
        have : k' = .cell ∨ k' = .free := by
          rcases r with rfl | ⟨rfl, _⟩
          · exact hk'
          · exact .inr rfl
        rcases this with rfl | rfl
        · obtain ⟨c, hm⟩ := cells_has (n := (s.heap.push { cls := .type "dict", data := .dict #[] }).objs.size) (acc := cloFrom X.env.cells scope.names []) (PySem.mem_of_lookup e)
          obtain ⟨c', e'⟩ := mem_lookup hm
          exact ⟨c', by rw [hcl]; exact e'⟩
        · obtain ⟨c, h1, _⟩ := look e
          exact ⟨c, h1⟩
      rcases hy with hy | hy
      · exact key _ hy (.inl rfl)
      · exact key _ hy (.inr rfl)
    · have z : (scope.names.lookup y == some NameKind.cell) = true := z
      have z : scope.names.lookup y = some .cell := by simpa using z
      have e : cenv.cells.lookup y = some c := e
      rw [hcl] at e
      rcases cells_mem (PySem.mem_of_lookup e) with hm | ⟨_, h2, _⟩
      · rcases cloFrom_mem hm with hm | ⟨h1, _⟩
        · cases hm
        · have q := ok.uniq _ h1
          rw [z] at q; cases q
      · rw [Heap.size_push] at h2
        exact Nat.le_of_succ_le h2
    · show b ≠ cenv.locals
      rw [hL]; exact Nat.ne_of_lt (hfp b hb).2
    · have e : cenv.cells.lookup y = some c := e
      rcases mem e with ⟨h1, _⟩ | ⟨h1, _⟩
      · exact (hfp b hb).1.2.2.2.2.1 y c h1 z
      · have h2 : s.heap.objs.size + 1 ≤ b := by rw [← z]; exact h1
        exact absurd (Nat.lt_of_lt_of_le (hfp b hb).2 (Nat.le_of_succ_le h2)) (Nat.lt_irrefl _)
    · rcases (hfp b hb).1.2.2.2.1 with z | z
      · exact I.ok.noex b o e z
      · exact absurd (Nat.lt_of_lt_of_le (Heap.lt_size e) (Nat.le_trans I.ok.bsz z)) (Nat.lt_irrefl _)
    · rcases List.mem_cons.mp (I.stkSub b z) with z | z
      · exact (hfp b hb).1.2.1 z
      · exact (hfp b hb).1.2.2.1 z
  refine ⟨okB, rfl, I.bare, Un.kept kp, ⟨fun _ => none, ?_, fun i y av e1 e2 e3 => ?_⟩, fun y c e => ?_, ?_, fun y c e => ?_, fun p hp => ?_, I.hok.kept kp, by rw [wipe_length]; exact I.len⟩
  · show Heap.Ns _ cenv.locals _
    rw [hL]
    exact Heap.Ns.keeps (Heap.Ns.new ..) fun b o e => pushCells_keeps _ _ _ _ e
  · obtain ⟨e2, hne⟩ := wipe_some e2
    have hfr : scope.names.lookup y = some .free ∧ (cenv.kindOf y = some .cell ∨ cenv.kindOf y = some .free) := by
      have key : ∀ k, cenv.scope.names.lookup y = some k → k = .local ∨ k = .cell ∨ k = .free → scope.names.lookup y = some .free ∧ (cenv.kindOf y = some .cell ∨ cenv.kindOf y = some .free) := fun k hk hk' => by
        have hk0 := hk
        rw [hsc] at hk
        obtain ⟨k', e, r⟩ := lookup_relS hk
        have no : ¬ (k' = .local ∨ k' = .cell) := fun hh => by
          rcases ok.own _ (PySem.mem_of_lookup e) hh with e' | e'
          · obtain ⟨p, hp, hpy⟩ := List.mem_map.mp e'
            have e3 := ok.ix p hp
            have : p.1 = y := hpy
            rw [this] at e3
            exact hne (List.mem_map.mpr ⟨p, hp, nodup_ix hN e3 e1⟩)
          · exact e' (List.mem_of_getElem? e1)
        rcases r with rfl | ⟨rfl, rfl⟩
        · rcases hk' with rfl | rfl | rfl
          · exact absurd (.inl rfl) no
          · exact absurd (.inr rfl) no
          · exact ⟨e, .inr hk0⟩
        · exact ⟨e, .inl hk0⟩
      have e3 : Vis cenv.scope y := e3
      rcases e3 with e3 | e3 | e3
      · exact key _ e3 (.inl rfl)
      · exact key _ e3 (.inr (.inl rfl))
      · exact key _ e3 (.inr (.inr rfl))
    obtain ⟨m, hn, hl⟩ := I.loc
    have hvis : Vis X.env.scope y := (ok.free _ (PySem.mem_of_lookup hfr.1) rfl).elim (fun k => .inr (.inl k)) (fun k => .inr (.inr k))
    obtain ⟨w, r, q⟩ := hl i y av e1 e2 hvis
    refine ⟨w, r, .inr ⟨hfr.2, ?_⟩⟩
    obtain ⟨c, h1, h2⟩ := look hfr.1
    rcases q with ⟨k, _⟩ | ⟨_, c', e', z⟩
    · have k : X.env.scope.names.lookup y = some .local := k
      rcases ok.free _ (PySem.mem_of_lookup hfr.1) rfl with k' | k' <;> rw [show X.env.scope.names.lookup y = _ from k'] at k <;> cases k
    · rw [h2] at e'; cases e'
      exact ⟨c, h1, z.keeps kp⟩
  · have e : cenv.cells.lookup y = some c := e
    rcases mem e with ⟨h1, _⟩ | ⟨_, z⟩
    · obtain ⟨w, z⟩ := I.cell y c h1
      exact ⟨w, z.keeps kp⟩
    · exact ⟨_, z⟩
  · show H cenv.locals = none
    rw [hL]; exact I.hok.fresh (Nat.le_refl _)
  · have e : cenv.cells.lookup y = some c := e
    rcases mem e with ⟨h1, _⟩ | ⟨h1, _⟩
    · exact I.freeC y c h1
    · exact I.hok.fresh (Nat.le_of_succ_le h1)
  · exact absurd (show p ∈ ([] : List (Addr × Obj)) ++ [] from hp) (by simp)

/-- an item appended to a tracked list -/
theorem app_ok {E : Value → Shared → Prop} {D : Addr} {xs : List V} {y : V} {v : Value} {Q : Value → Shared → Prop} (I : Inv X pins σ H s) (hD : H D = some (.lst xs)) (hz : xs.length < sizeLine) (r : RelV y v)
    (h : ∀ s', Inv X pins σ (upd H D (.lst (xs ++ [y]))) s' → Q .none s') : wpAny (model X.prog X.w) X.A (call (.builtin "list.append") [.ref D, v]) Q E s := by
  obtain ⟨hz', its, n, ri, e⟩ := I.hok D _ hD
  have hl := ri.length
  refine append_at (hsz := by rw [List.size_toArray]; omega) e fun h' sb ho' => ?_
  refine h { s with heap := h' } (I.write (t' := s.toks) (by rw [hD]; trivial) (.inl rfl) (fun b u hb q => (sb.2 b hb).trans q) ⟨_, ho'⟩ ⟨by rw [List.length_append]; exact hz, its ++ [v], n + 1, ri.append (.cons r .nil), ?_⟩)
  rw [ho']
  simp

/-- a clause's tests -/
def PTs (X : Cx) (ifs : List Expr) (t : TT) : Prop :=
  ∀ (pins : List (Addr × Obj)) (s : Shared) (σ : St) (H : Hp) (Q : Bool → Hp → Prop), Inv X pins σ H s → t σ H Q →
    wpAny (model X.prog X.w) X.A (forIn ifs true fun c r => if r = true then do let ok ← isTrue c X.env (eval c X.env); pure (ForInStep.yield ok) else pure (ForInStep.yield r)) (TP X pins σ Q) X.xe s
def tYes : TT := fun _ H Q => Q true H
theorem pts_nil : PTs X [] tYes := fun _ _ _ H _ I h => wpAny_tests_nil ⟨H, I, h⟩
end

theorem thnF {α : Type} {t : Sem α} {Q Q' : α → Shared → Prop} {M : Model} {A : Around} {E : Value → Shared → Prop} {s : Shared} (h : wpAny M A t Q (fun _ _ => False) s) (hQ : ∀ a s, Q a s → Q' a s) : wpAny M A t Q' E s := wpAny_mono h hQ fun _ _ z => False.elim z

/-- the loop of a list comprehension's block, the target of any form (codeAny_compLoop_tests asks a target that no tuple goes to; statement and proof follow it, PyProof/CompMap.lean:41-61, with the step letOwnedTupleGo kept) -/
theorem compLoop_any {prog : Program} {w : World} {A : Around} {R : Result → Shared → Prop} {s : Shared} {elt target iter : Expr} {ifs : List Expr} {scope : Scope} {pos : Pos} {it acc : Value} {env : Env} (I : Nat → Shared → Prop)
    (turn : ∀ n s, I n s → wpAny (model prog w) A (pyNext it) (fun r s₁ => match r with
      | none => R (.ok .next) s₁
      | some v => wpAny (model prog w) A (letOwnedTupleGo target it v) (fun _ s₁' => wpAny (model prog w) A (assign target env v) (fun _ s₂ =>
          wpAny (model prog w) A (forIn ifs true fun c r => if r = true then do let ok ← isTrue c env (eval c env); pure (ForInStep.yield ok) else pure (ForInStep.yield r)) (fun ok s₃ =>
            if ok = true then wpAny (model prog w) A (eval elt env) (fun x s₄ =>
              wpAny (model prog w) A (call (.builtin "list.append") [acc, x]) (fun _ s₅ => ∃ m, m < n ∧ I m s₅) (notedBy (model prog w) A env fun e s' => R (.error e) s') s₄) (notedBy (model prog w) A env fun e s' => R (.error e) s') s₃
            else ∃ m, m < n ∧ I m s₃) (notedBy (model prog w) A env fun e s' => R (.error e) s') s₂) (notedBy (model prog w) A env fun e s' => R (.error e) s') s₁') (notedBy (model prog w) A env fun e s' => R (.error e) s') s₁) (notedBy (model prog w) A env fun e s' => R (.error e) s') s)
    (n : Nat) (h : I n s) :
    codeAny (model prog w) A (.compLoop (.ListComp elt [⟨target, iter, ifs, 0⟩] scope pos) 0 it acc env) R s := by
  refine codeAny_loop rfl I (fun n s hI => ?_) n h
  show wpAny _ A ((compTurn (.ListComp elt [⟨target, iter, ifs, 0⟩] scope pos) 0 it acc env).onRaise (fun x => do noteFrame x env; theTreesLotGoes x)) _ _ s
  refine wpAny_noted ?_
  rw [compTurn_list]
  refine wpAny_bind (wpAny_standAt (wpAny_bind (wpAny_mono (turn n s hI) (fun r s₁ h₁ => ?_) fun _ _ h' => h')))
  cases r with
  | none => exact wpAny_pure h₁
  | some v =>
    refine wpAny_bind (wpAny_mono h₁ (fun _ s₁' h₁' => ?_) fun _ _ h' => h')
    refine wpAny_bind (wpAny_mono h₁' (fun _ s₂ h₂ => wpAny_bind (wpAny_mono h₂ (fun ok s₃ h₃ => ?_) fun _ _ h' => h')) fun _ _ h' => h')
    cases ok with
    | false => exact wpAny_pure ⟨rfl, h₃⟩
    | true =>
      exact wpAny_bind (wpAny_bind (wpAny_mono h₃ (fun x s₄ h₄ => wpAny_bind (wpAny_mono h₄ (fun _ s₅ h₅ => wpAny_pure (wpAny_pure ⟨rfl, h₅⟩)) fun _ _ h' => h')) fun _ _ h' => h'))

section
variable {X : Cx}
/-- [elt for target in iter if ..]: D the new list; W by the turn and a measure, Nx what a turn is to reach -/
def tLc (wi : TI) (g : TG) (tt : TT) (te : TE) (vs : List Nat) : TE := fun σ H Q => wi σ H fun J H1 => ∀ D, H1 D = none → ∃ W : Nat → Nat → Hp → Prop, (∃ m, W 0 m (upd H1 D (.lst []))) ∧ ∀ i m H, W i m H →
  (J.stop i H ∧ Q (.ref D) H) ∨ (J.go i H ∧ ∃ Nx : Hp → Prop, (∀ H', Nx H' → ∃ m', m' < m ∧ W (i + 1) m' H') ∧ ∀ x H', J.yld i H x H' → g x (wipe σ vs) H' fun σ2 H2 => wipe σ2 vs = wipe σ vs ∧ tt σ2 H2 fun b H3 =>
    if b = true then te σ2 H3 fun y H4 => ∃ acc, H4 D = some (.lst acc) ∧ acc.length < sizeLine ∧ Nx (upd H4 D (.lst (acc ++ [y]))) else Nx H3)
theorem lc_core {pins : List (Addr × Obj)} {s : Shared} {σ : St} {H : Hp} {Q : VK} {elt tg iter : Expr} {ifs : List Expr} {scope : Scope} {own : List (Str × Nat)} {pos pos' : Pos} {wi : TI} {g : TG} {tt : TT} {te : TE} {use : Option (Value → Sem Unit)} {Qf : Value → Shared → Prop}
    (hc : X.calm = true) (hN : X.N.Nodup) (I : Inv X pins σ H s) (hi : PI X tg iter wi) (ok : BlkOk X.N X.env.scope scope own)
    (hg : ∀ (s : Shared) (H : Hp) (C : Addr) (cl : List (Str × Addr)) (fp : List Addr), PG (X.blk s H scope (compEnvC scope cl C X.env) fp) tg g) (ht : ∀ (s : Shared) (H : Hp) (C : Addr) (cl : List (Str × Addr)) (fp : List Addr), PTs (X.blk s H scope (compEnvC scope cl C X.env) fp) ifs tt)
    (he : ∀ (s : Shared) (H : Hp) (C : Addr) (cl : List (Str × Addr)) (fp : List Addr), PE (X.blk s H scope (compEnvC scope cl C X.env) fp) elt te) (hs : ∀ x, foldedSetIterable iter X.env x = pure x)
    (h : tLc wi g tt te (own.map (·.2)) σ H Q)
    (hRR : ∀ D C s' m H', Inv X pins σ H' s' → Q (.ref D) H' → s'.heap.Ns C m → FpOk X pins H' C → compPost (model X.prog X.w) X.A X.xe use Qf (.ref D) C (.ok .next) s') :
    wpAny (model X.prog X.w) X.A (comprehension (.ListComp elt [⟨tg, iter, ifs, 0⟩] scope pos) scope X.env pos' (newList []) false (eval iter X.env) use) Qf X.xe s := by
  have hfree : ∀ y ∈ scope.names, y.2 = .free → ∃ c, X.env.cells.lookup y.1 = some c := fun y hy e => by
    rcases ok.free y hy e with k | k
    · exact I.ok.has _ (.inl k)
    · exact I.ok.has _ (.inr k)
  refine wpAny_comprehension_free (use := use) rfl hs (closure_ok hfree) ok.kind (fun y hy e => by rw [ok.uniq y hy, e])
    (thn (hi pins s σ H _ I h) fun xv s1 hx => thn hx fun itv s2 h2 => ?_)
  obtain ⟨it, fp, tn, J, H2, e, I2, T, st2, f2, q⟩ := h2
  subst e
  refine wpAny_newObj_type (newEnv_comp ?_) (by show 0 ≤ sizeLine; decide)
  generalize hD : s2.heap.objs.size = D
  have hDn : H2 D = none := I2.hok.fresh (Nat.le_of_eq hD)
  obtain ⟨W, ⟨m0, w0⟩, turn⟩ := q D hDn
  -- the new list
  generalize hs3 : ({ s2 with heap := s2.heap.push { cls := .type "list", data := .seq ([] : List Value).toArray } } : Shared) = s3
  have I3 : Inv X pins σ (upd H2 D (.lst [])) s3 := by
    rw [← hs3]
    refine I2.laid (t' := s2.toks) (fun b o e => Heap.get?_push_of_some _ e) (Nat.le_of_eq hD) ⟨Nat.zero_le _, [], 0, .nil, ?_⟩
    rw [← hD]
    exact Heap.get?_push_size _ rfl
  have h3 : s3.heap = s2.heap.push { cls := .type "list", data := .seq ([] : List Value).toArray } := by rw [← hs3]
  have sz : ∀ b ∈ fp, b < s2.heap.objs.size := fun b hb => by
    obtain ⟨o, e, _⟩ := T.obj _ _ st2 b hb
    exact Heap.lt_size e
  have f3 : ∀ b ∈ fp, FpOk X pins (upd H2 D (.lst [])) b ∧ b < s3.heap.objs.size := fun b hb => by
    have hlt := sz b hb
    refine ⟨⟨?_, (f2 b hb).2⟩, by rw [h3, Heap.size_push]; exact Nat.lt_succ_of_lt hlt⟩
    rw [upd_ne (by rw [← hD]; exact Nat.ne_of_lt hlt)]
    exact (f2 b hb).1
  have st3 : tn 0 s3.heap := T.keep _ _ _ st2 fun b _ o e => by rw [h3]; exact Heap.get?_push_of_some _ e
  have I4 := block_start I3 ok hN f3
  have pg := hg s3 (upd H2 D (.lst [])) s3.heap.objs.size (cellsFrom (s3.heap.objs.size + 1) scope.names (cloFrom X.env.cells scope.names [])) fp
  have pt := ht s3 (upd H2 D (.lst [])) s3.heap.objs.size (cellsFrom (s3.heap.objs.size + 1) scope.names (cloFrom X.env.cells scope.names [])) fp
  have pe := he s3 (upd H2 D (.lst [])) s3.heap.objs.size (cellsFrom (s3.heap.objs.size + 1) scope.names (cloFrom X.env.cells scope.names [])) fp
  show codeAny _ _ (.compStart (.ListComp elt [⟨tg, iter, ifs, 0⟩] scope pos) 0 (.ref it) (.ref D) (compEnvC scope (cellsFrom (s3.heap.objs.size + 1) scope.names (cloFrom X.env.cells scope.names [])) s3.heap.objs.size X.env)) (compPost (model X.prog X.w) X.A X.xe use Qf (.ref D) s3.heap.objs.size) { s3 with heap := pushCells (s3.heap.push { cls := .type "dict", data := .dict #[] }) scope.names }
  have nfp : ∀ b ∈ fp, (upd H2 D (.lst [])) b = none := fun b hb => (f3 b hb).1.1
  generalize hce : compEnvC scope (cellsFrom (s3.heap.objs.size + 1) scope.names (cloFrom X.env.cells scope.names [])) s3.heap.objs.size X.env = ce at I4 pg pt pe ⊢
  have cL : ce.locals = s3.heap.objs.size := by subst hce; rfl
  generalize hH3 : upd H2 D (.lst []) = H3 at I3 I4 pg pt pe w0 nfp f3
  generalize hs4 : ({ s3 with heap := pushCells (s3.heap.push { cls := .type "dict", data := .dict #[] }) scope.names } : Shared) = s4 at I4 ⊢
  have st4 : tn 0 s4.heap := T.keep _ _ _ st3 fun b _ o e => by rw [← hs4]; exact pushCells_keeps _ _ _ _ (Heap.get?_push_of_some _ e)
  have stat : ∀ {σ' : St} {H' : Hp} {s' : Shared}, Inv (X.blk s3 H3 scope ce fp) [] σ' H' s' → (∀ b ∈ fp, H' b = none) → ∀ b ∈ fp, FpOk (X.blk s3 H3 scope ce fp) [] H' b := fun {σ' H' s'} I' hn b hb =>
    ⟨hn b hb, (I'.ok.exf b hb).1, I'.ok.exfs b hb, .inl hb, fun x c e => (I'.ok.exf b hb).2 x c e, fun p hp => absurd (show p ∈ ([] : List (Addr × Obj)) ++ [] from hp) (by simp)⟩
  have loop : codeAny (model X.prog X.w) X.A (.compLoop (.ListComp elt [⟨tg, iter, ifs, 0⟩] scope pos) 0 (.ref it) (.ref D) ce) (compPost (model X.prog X.w) X.A X.xe use Qf (.ref D) s3.heap.objs.size) s4 := by
    refine compLoop_any (fun n s' => ∃ i H', Inv (X.blk s3 H3 scope ce fp) [] (wipe σ (own.map (·.2))) H' s' ∧ tn i s'.heap ∧ (∀ b ∈ fp, H' b = none) ∧ W i n H') ?_ m0 ⟨0, H3, I4, st4, nfp, w0⟩
    rintro n s5 ⟨i, H5, I5, st5, n5, w5⟩
    rcases turn i n H5 w5 with ⟨stop, qq⟩ | ⟨go, Nx, hNx, step⟩
    · have td := T.done (X.blk s3 H3 scope ce fp) rfl rfl rfl hc i [] s5 _ H5 (fun _ _ => False) I5 (stat I5 n5) st5 stop
      refine thnF td fun r s6 ⟨hr, I6⟩ => ?_
      subst hr
      -- back in the def's context
      have I7 : Inv X pins σ H5 s6 := I3.call' (ch := fp) I6.os I6.base I6.hok I6.bare fun b hb => ⟨(f3 b hb).1.2.2.2.1, (f3 b hb).1.2.1, (f3 b hb).1.2.2.2.2.1, (f3 b hb).1.2.2.2.2.2⟩
      have nC : H5 s3.heap.objs.size = none := by
        have z : H5 ce.locals = none := I6.free
        rw [cL] at z
        exact z
      obtain ⟨m, hn, _⟩ := I6.loc
      have hn : s6.heap.Ns ce.locals m := hn
      rw [cL] at hn
      exact hRR D s3.heap.objs.size s6 m H5 I7 qq hn (I3.fpOk (Nat.le_refl _) nC)
    · have ti := T.item (X.blk s3 H3 scope ce fp) rfl rfl rfl hc i [] s5 _ H5 (fun _ _ => False) I5 (stat I5 n5) st5 go
      refine thnF ti fun r s6 ⟨u, hr, h6⟩ => ?_
      subst hr
      refine thnF h6 fun _ s7 ⟨x, H7, I7, r7, y7, st7, n7⟩ => ?_
      have I7' := I7.pinned (stat I7 n7) (T.obj _ _ st7)
      refine thnF (pg _ s7 _ H7 x u _ I7' r7 (step x H7 y7)) fun _ s8 ⟨σ8, H8, I8, hw8, q8⟩ => ?_
      refine thnF (pt _ s8 σ8 H8 _ I8 q8) fun b s9 ⟨H9, I9, q9⟩ => ?_
      -- the turn's end
      have fin : ∀ {s' : Shared} {H' : Hp}, Inv (X.blk s3 H3 scope ce fp) ([] ++ pinsAt fp s7.heap) σ8 H' s' → Nx H' → ∃ m, m < n ∧ ∃ i H', Inv (X.blk s3 H3 scope ce fp) [] (wipe σ (own.map (·.2))) H' s' ∧ tn i s'.heap ∧ (∀ b ∈ fp, H' b = none) ∧ W i m H' := fun {s' H'} I' nx => by
        obtain ⟨m', hm, w'⟩ := hNx H' nx
        have pin' : ∀ b ∈ fp, ∀ o, s7.heap.get? b = some o → s'.heap.get? b = some o ∧ H' b = none := fun b hb o e =>
          let z := I'.pin (b, o) (List.mem_append_right _ (List.mem_append_right _ (mem_pinsAt hb e)))
          ⟨z.1, z.2.1⟩
        have hl : (wipe σ (own.map (·.2))).length = σ8.length := by rw [← hw8, wipe_length]
        refine ⟨m', hm, i + 1, H', (I'.unpinned (pins := [])).weak hl (fun j v e => ?_), T.keep _ _ _ st7 fun b hb o e => (pin' b hb o e).1, fun b hb => ?_, w'⟩
        · rw [← hw8] at e
          exact (wipe_some e).1
        · obtain ⟨o, e, _⟩ := T.obj _ _ st7 b hb
          exact (pin' b hb o e).2
      cases b with
      | false =>
        simp only [Bool.false_eq_true, if_false] at q9 ⊢
        exact fin I9 q9
      | true =>
        simp only [if_true] at q9 ⊢
        refine thnF (pe _ s9 σ8 H9 _ I9 q9) fun z s10 ⟨yv, H10, I10, r10, acc, hD10, hz10, nx⟩ => ?_
        exact app_ok (X := X.blk s3 H3 scope ce fp) I10 hD10 hz10 r10 fun s11 I11 => fin I11 nx
  exact codeAny_compStart_list loop (T.self X.A 0 _ _ _ st4 loop)
/-- as a value -/
theorem pe_lc {elt tg iter : Expr} {ifs : List Expr} {scope : Scope} {own : List (Str × Nat)} {pos : Pos} {wi : TI} {g : TG} {tt : TT} {te : TE} (hc : X.calm = true) (hN : X.N.Nodup) (hi : PI X tg iter wi) (ok : BlkOk X.N X.env.scope scope own)
    (hg : ∀ (s : Shared) (H : Hp) (C : Addr) (cl : List (Str × Addr)) (fp : List Addr), PG (X.blk s H scope (compEnvC scope cl C X.env) fp) tg g) (ht : ∀ (s : Shared) (H : Hp) (C : Addr) (cl : List (Str × Addr)) (fp : List Addr), PTs (X.blk s H scope (compEnvC scope cl C X.env) fp) ifs tt)
    (he : ∀ (s : Shared) (H : Hp) (C : Addr) (cl : List (Str × Addr)) (fp : List Addr), PE (X.blk s H scope (compEnvC scope cl C X.env) fp) elt te) (hs : ∀ x, foldedSetIterable iter X.env x = pure x := by intro _; rfl) :
    PE X (.ListComp elt [⟨tg, iter, ifs, 0⟩] scope pos) (tLc wi g tt te (own.map (·.2))) := by
  intro pins s σ H Q I h
  rw [eval_ListComp]
  refine lc_core hc hN I hi ok hg ht he hs h fun D C s' m H' I' q hn f => ⟨m, hn, fun h'' sb => ?_⟩
  obtain ⟨f0, f1, f2, f3, f4, f5⟩ := f
  exact ⟨.ref D, H', I'.turned (t' := s'.toks) (fun b o hb e => (sb.2 b hb).trans e) f0 f1 f3 f4 f5, rfl, q⟩
end

/-! ### the forms one uses -/
/-- over a range: Pv by the turn and the heap (the new list at D within) -/
theorem lc_range {lo : Int} {n : Nat} {g : TG} {tt : TT} {te : TE} {vs : List Nat} {σ : St} {H1 : Hp} {D : Addr} {Qd : Hp → Prop} (Pv : Nat → Hp → Prop) (h0 : Pv 0 (upd H1 D (.lst [])))
    (hs : ∀ i H, i < n → Pv i H → g (.int (lo + i)) (wipe σ vs) H fun σ2 H2 => wipe σ2 vs = wipe σ vs ∧ tt σ2 H2 fun b H3 =>
      if b = true then te σ2 H3 fun y H4 => ∃ acc, H4 D = some (.lst acc) ∧ acc.length < sizeLine ∧ Pv (i + 1) (upd H4 D (.lst (acc ++ [y]))) else Pv (i + 1) H3) (hd : ∀ H, Pv n H → Qd H) :
    ∃ W : Nat → Nat → Hp → Prop, (∃ m, W 0 m (upd H1 D (.lst []))) ∧ ∀ i m H, W i m H →
      ((Itr lo n).stop i H ∧ Qd H) ∨ ((Itr lo n).go i H ∧ ∃ Nx : Hp → Prop, (∀ H', Nx H' → ∃ m', m' < m ∧ W (i + 1) m' H') ∧ ∀ x H', (Itr lo n).yld i H x H' → g x (wipe σ vs) H' fun σ2 H2 => wipe σ2 vs = wipe σ vs ∧ tt σ2 H2 fun b H3 =>
        if b = true then te σ2 H3 fun y H4 => ∃ acc, H4 D = some (.lst acc) ∧ acc.length < sizeLine ∧ Nx (upd H4 D (.lst (acc ++ [y]))) else Nx H3) := by
  refine ⟨fun i m H => m = n - i ∧ i ≤ n ∧ Pv i H, ⟨n, by simp, Nat.zero_le _, h0⟩, ?_⟩
  rintro i m H ⟨rfl, hi, p⟩
  by_cases hlt : i < n
  · refine .inr ⟨hlt, Pv (i + 1), fun H' p' => ⟨n - (i + 1), by omega, rfl, hlt, p'⟩, fun x H' y => ?_⟩
    obtain ⟨e, y⟩ := y
    subst e y
    exact hs i _ hlt p
  · have e : i = n := by omega
    subst e
    exact .inl ⟨Nat.le_refl _, hd H p⟩
/-- over a list that the block leaves as it is -/
theorem lc_list {K : PySem.W.Frag} {a : Addr} {xs : List V} {g : TG} {tt : TT} {te : TE} {vs : List Nat} {σ : St} {H1 : Hp} {D : Addr} {Qd : Hp → Prop} (Pv : Nat → Hp → Prop) (h0 : Pv 0 (upd H1 D (.lst []))) (hl : ∀ i H, i ≤ xs.length → Pv i H → SqL K H a xs)
    (hs : ∀ i x H, xs[i]? = some x → Pv i H → g x (wipe σ vs) H fun σ2 H2 => wipe σ2 vs = wipe σ vs ∧ tt σ2 H2 fun b H3 =>
      if b = true then te σ2 H3 fun y H4 => ∃ acc, H4 D = some (.lst acc) ∧ acc.length < sizeLine ∧ Pv (i + 1) (upd H4 D (.lst (acc ++ [y]))) else Pv (i + 1) H3) (hd : ∀ H, Pv xs.length H → Qd H) :
    ∃ W : Nat → Nat → Hp → Prop, (∃ m, W 0 m (upd H1 D (.lst []))) ∧ ∀ i m H, W i m H →
      ((Itl K a).stop i H ∧ Qd H) ∨ ((Itl K a).go i H ∧ ∃ Nx : Hp → Prop, (∀ H', Nx H' → ∃ m', m' < m ∧ W (i + 1) m' H') ∧ ∀ x H', (Itl K a).yld i H x H' → g x (wipe σ vs) H' fun σ2 H2 => wipe σ2 vs = wipe σ vs ∧ tt σ2 H2 fun b H3 =>
        if b = true then te σ2 H3 fun y H4 => ∃ acc, H4 D = some (.lst acc) ∧ acc.length < sizeLine ∧ Nx (upd H4 D (.lst (acc ++ [y]))) else Nx H3) := by
  refine ⟨fun i m H => m = xs.length - i ∧ i ≤ xs.length ∧ Pv i H, ⟨xs.length, by simp, Nat.zero_le _, h0⟩, ?_⟩
  rintro i m H ⟨rfl, hi, p⟩
  have q := hl i H hi p
  by_cases hlt : i < xs.length
  · refine .inr ⟨⟨xs, xs[i], q, by simp [hlt]⟩, Pv (i + 1), fun H' p' => ⟨xs.length - (i + 1), by omega, rfl, hlt, p'⟩, fun x H' y => ?_⟩
    obtain ⟨e, y⟩ := y
    subst e
    exact hs i x _ (y xs q) p
  · have e : i = xs.length := by omega
    subst e
    exact .inl ⟨⟨xs, q, Nat.le_refl _⟩, hd H p⟩
def blkC (N : List Str) (sc scope : Scope) (own : List (Str × Nat)) : Bool :=
  (match scope.kind with | .function => true | _ => false) && (scope.names.all fun y => decide (scope.names.lookup y.1 = some y.2)) && (own.all fun p => decide (N[p.2]? = some p.1)) &&
    (scope.names.all fun y => match y.2 with
      | .free => (match sc.names.lookup y.1 with | some .cell => true | some .free => true | _ => false)
      | .local => decide (y.1 ∈ own.map (·.1)) || decide (y.1 ∉ N)
      | .cell => decide (y.1 ∈ own.map (·.1)) || decide (y.1 ∉ N)
      | _ => true)
end L2

namespace L2
open PySem PySem.Spec PyProof.Rows

section
variable {prog : Program} {w : World} {A : Around} {R : Result → Shared → Prop} {s : Shared} {elt t0 i0 t1 i1 : Expr} {ifs0 ifs1 : List Expr} {scope : Scope} {pos : Pos} {it acc : Value} {env : Env}
end

section
variable {X : Cx}
/-- [elt for tg in iter if .. for tg1 in iter1 if ..]: behind the first clause's store and tests the second source's own loop, from which Nx is reached. vs: the block's names; vs1: those of the second target -/
def tLc2 (wi : TI) (g : TG) (tt : TT) (wi1 : TI) (g1 : TG) (tt1 : TT) (te : TE) (vs vs1 : List Nat) : TE := fun σ H Q => wi σ H fun J H1 => ∀ D, H1 D = none → ∃ W : Nat → Nat → Hp → Prop, (∃ m, W 0 m (upd H1 D (.lst []))) ∧ ∀ i m H, W i m H →
  (J.stop i H ∧ Q (.ref D) H) ∨ (J.go i H ∧ ∃ Nx : Hp → Prop, (∀ H', Nx H' → ∃ m', m' < m ∧ W (i + 1) m' H') ∧ ∀ x H', J.yld i H x H' → g x (wipe σ vs) H' fun σ2 H2 => wipe σ2 vs = wipe σ vs ∧ tt σ2 H2 fun b H3 =>
    if b = true then wi1 σ2 H3 fun J1 H4 => ∃ W1 : Nat → Nat → Hp → Prop, (∃ m, W1 0 m H4) ∧ ∀ j k H, W1 j k H →
      (J1.stop j H ∧ Nx H) ∨ (J1.go j H ∧ ∃ Nx1 : Hp → Prop, (∀ H', Nx1 H' → ∃ k', k' < k ∧ W1 (j + 1) k' H') ∧ ∀ x H', J1.yld j H x H' → g1 x (wipe σ2 vs1) H' fun σ3 H5 => wipe σ3 vs1 = wipe σ2 vs1 ∧ tt1 σ3 H5 fun b H6 =>
        if b = true then te σ3 H6 fun y H7 => ∃ acc, H7 D = some (.lst acc) ∧ acc.length < sizeLine ∧ Nx1 (upd H7 D (.lst (acc ++ [y]))) else Nx1 H6)
    else Nx H3)
end
end L2

namespace L2
open PySem PySem.Spec PyProof.Rows

/-! ### lists of pairs as tables -/
section
variable {κ : Type} [DecidableEq κ]
def valV (kvs : List (κ × V)) (k : κ) : Option V := (kvs.find? fun kv => decide (kv.1 = k)).map (·.2)
/-- in its place, or at the end -/
def putK (kvs : List (κ × V)) (k : κ) (v : V) : List (κ × V) :=
  if (kvs.any fun kv => decide (kv.1 = k)) = true then kvs.map (fun kv => if kv.1 = k then (kv.1, v) else kv) else kvs ++ [(k, v)]
def dropK (kvs : List (κ × V)) (k : κ) : List (κ × V) := kvs.filter fun kv => decide (kv.1 ≠ k)

end


/-! ### a tracked dict, its keys ints and texts or tuples of these -/
/-- raw entries of a dict with tuple keys -/
abbrev KT (H : Hp) : List (List Key × V) → List (List Key × Addr × Value) → Prop := Paired fun p q => p.1 = q.1 ∧ H q.2.1 = some (.tup (p.1.map kV)) ∧ RelV p.2 q.2.2
section
variable {P : Program} {w : World} {H : Hp} {h : Heap} {a : Addr}
end

/-- what the dict at a holds at the key y -/
def DGet (H : Hp) (a : Addr) (y : V) (r : Option V) : Prop :=
  (∃ kvs k, Rd H a (.dK kvs) ∧ y = kV k ∧ r = valV kvs k) ∨ ∃ kvs k b, Rd H a (.dT kvs) ∧ y = .ref b ∧ H b = some (.tup (k.map kV)) ∧ r = valV kvs k
/-- the heap behind a[y] = v -/
def DPut (H : Hp) (a : Addr) (y v : V) (H' : Hp) : Prop :=
  (∃ kvs k, H a = some (.dK kvs) ∧ y = kV k ∧ kvs.length < sizeLine ∧ H' = upd H a (.dK (putK kvs k v))) ∨
  ∃ kvs k b, H a = some (.dT kvs) ∧ y = .ref b ∧ H b = some (.tup (k.map kV)) ∧ kvs.length < sizeLine ∧ H' = upd H a (.dT (putK kvs k v))
section
variable {X : Cx} {pins : List (Addr × Obj)} {σ : St} {H : Hp} {s : Shared} {a : Addr} {y v : V} {u r : Value} {o : Option V} {A : Around} {E : Value → Shared → Prop}

end

section
variable {X : Cx} {pins : List (Addr × Obj)} {σ : St} {H : Hp} {s : Shared} {a : Addr} {kvs : List (Key × V)} {k : Key} {u : Value} {A : Around} {E : Value → Shared → Prop}
end


/-! ### readings and rules -/
/-- the element of a subscription, not a slice -/
def NoSl (i : Expr) : Prop := ∀ ov iv, subscripted i false ov iv = operate [ov, iv] (getItem ov iv)
/-- d[y] -/
def tDGet (td ty : TE) : TE := fun σ H Q => td σ H fun x H1 => ty σ H1 fun y H2 => ∃ a v, x = .ref a ∧ DGet H2 a y (some v) ∧ Q v H2
/-- y in d, y not in d -/
def tDIn (ty td : TE) : TE := fun σ H Q => ty σ H fun y H1 => td σ H1 fun x H2 => ∃ a o, x = .ref a ∧ DGet H2 a y o ∧ Q (.bl o.isSome) H2
def tDNotIn (ty td : TE) : TE := fun σ H Q => ty σ H fun y H1 => td σ H1 fun x H2 => ∃ a o, x = .ref a ∧ DGet H2 a y o ∧ Q (.bl (!o.isSome)) H2
/-- d[y] = v -/
def sDPut (td ty tv : TE) : TS := fun D σ H => tv σ H fun v H1 => td σ H1 fun x H2 => ty σ H2 fun y H3 => ∃ a H4, x = .ref a ∧ DPut H3 a y v H4 ∧ D.nx σ H4
/-- d[y] op= v -/
def sDAug (td ty tv : TE) (rd : V → V → Hp → VK → Prop) : TS := fun D σ H => td σ H fun x H1 => ty σ H1 fun y H2 => ∃ a v, x = .ref a ∧ DGet H2 a y (some v) ∧
  tv σ H2 fun y2 H3 => rd v y2 H3 fun z H4 => ∃ H5, DPut H4 a y z H5 ∧ D.nx σ H5
/-- del d[y] -/
def sDDel (td ty : TE) : TS := fun D σ H => td σ H fun x H1 => ty σ H1 fun y H2 => ∃ a kvs k, x = .ref a ∧ H2 a = some (.dK kvs) ∧ y = kV k ∧ (valV kvs k).isSome = true ∧ D.nx σ (upd H2 a (.dK (dropK kvs k)))

section
variable {X : Cx} {o i e value : Expr} {pos pos' tpos : Pos} {td ty tv : TE}
end


/-! ### displays -/
/-- {}, to be a dict of the kind that is wanted -/
def tDNewK : TE := fun _ H Q => ∀ p, H p = none → Q (.ref p) (upd H p (.dK []))
def tDNewT : TE := fun _ H Q => ∀ p, H p = none → Q (.ref p) (upd H p (.dT []))
section
variable {X : Cx} {pos : Pos}
end

/-- the pairs of a display, from the left -/
def tPairs : List (TE × TE) → St → Hp → (List (V × V) → Hp → Prop) → Prop
  | [], _, H, Q => Q [] H
  | (tk, tv) :: r, σ, H, Q => tk σ H fun x H1 => tv σ H1 fun y H2 => tPairs r σ H2 fun ps H3 => Q ((x, y) :: ps) H3
abbrev VV : List (V × V) → List (Value × Value) → Prop := Paired fun p q => RelV p.1 q.1 ∧ RelV p.2 q.2
def PPs (X : Cx) (pos : Pos) (keys : List (Option Expr)) (values : List Expr) (trs : List (TE × TE)) : Prop :=
  ∀ (pins : List (Addr × Obj)) (s : Shared) (σ : St) (H : Hp) (Q : List (V × V) → Hp → Prop), Inv X pins σ H s → tPairs trs σ H Q →
    wpAny (model X.prog X.w) X.A (evalPairs (pairTrees keys values X.env pos)) (fun vs s' => ∃ ps H', Inv X pins σ H' s' ∧ VV ps vs ∧ Q ps H') X.xe s
def mergeK (kvs more : List (Key × V)) : List (Key × V) := more.foldl (fun acc kv => putK acc kv.1 kv.2) kvs
/-- {k: v, ..} with keys ints and texts; the new dict stands empty while the pairs are made -/
def tDisp (trs : List (TE × TE)) : TE := fun σ H Q => ∀ p, H p = none → tPairs trs σ (upd H p (.dK [])) fun ps H2 => H2 p = some (.dK []) ∧ ∃ kvs : List (Key × V), ps = kvs.map (fun kv => (kV kv.1, kv.2)) ∧ kvs.length ≤ 15 ∧ Q (.ref p) (upd H2 p (.dK (mergeK [] kvs)))
/-! ### methods -/
/-- a method call o.m(e) of a built-in, with one argument: what must be seen of the text -/
structure M1 (X : Cx) (o : Expr) (m : Str) (apos : Pos) (e : Expr) (cpos : Pos) : Prop where
  base : attributeBase o m X.env (eval o X.env) = eval o X.env
  few : ((backTo cpos (starEach [e] X.env)).all (fun x => !x.1) && (backToKw cpos (keywordEach [] X.env)).all (fun x => x.1.isSome)
    && decide (([e] : List Expr).length + ([] : List Keyword).length + (if ([] : List Keyword).isEmpty then 0 else 1) < 30)) = true
  line : (apos.endLine == cpos.line) = true
  trees : backTo cpos (starEach [e] X.env) = [(false, eval e X.env)]
structure M2 (X : Cx) (o : Expr) (m : Str) (apos : Pos) (e f : Expr) (cpos : Pos) : Prop where
  base : attributeBase o m X.env (eval o X.env) = eval o X.env
  few : ((backTo cpos (starEach [e, f] X.env)).all (fun x => !x.1) && (backToKw cpos (keywordEach [] X.env)).all (fun x => x.1.isSome)
    && decide (([e, f] : List Expr).length + ([] : List Keyword).length + (if ([] : List Keyword).isEmpty then 0 else 1) < 30)) = true
  line : (apos.endLine == cpos.line) = true
  trees : backTo cpos (starEach [e, f] X.env) = [(false, eval e X.env), (false, eval f X.env)]

/-- a is a dict, whatever its keys -/
def IsD (H : Hp) (a : Addr) : Prop := (∃ kvs, Rd H a (.dK kvs)) ∨ ∃ kvs, Rd H a (.dT kvs)
section
variable {X : Cx} {pins : List (Addr × Obj)} {σ : St} {H : Hp} {s : Shared} {a : Addr} {y d : V} {u r : Value} {o : Option V} {A : Around} {E : Value → Shared → Prop}
end

def tDGet1 (td ty : TE) : TE := fun σ H Q => td σ H fun x H1 => ∃ a, x = .ref a ∧ IsD H1 a ∧ ty σ H1 fun y H2 => ∃ o, DGet H2 a y o ∧ Q (o.getD .non) H2
def tDGet2 (td ty tx : TE) : TE := fun σ H Q => td σ H fun x H1 => ∃ a, x = .ref a ∧ IsD H1 a ∧ ty σ H1 fun y H2 => tx σ H2 fun z H3 => ∃ o, DGet H3 a y o ∧ Q (o.getD z) H3
/-- d.pop(k): there; d.pop(k, x): there or not -/
def tDPop1 (td ty : TE) : TE := fun σ H Q => td σ H fun x H1 => ∃ a, x = .ref a ∧ IsD H1 a ∧ ty σ H1 fun y H2 => ∃ kvs k v, H2 a = some (.dK kvs) ∧ y = kV k ∧ valV kvs k = some v ∧ Q v (upd H2 a (.dK (dropK kvs k)))
def tDPop2 (td ty tx : TE) : TE := fun σ H Q => td σ H fun x H1 => ∃ a, x = .ref a ∧ IsD H1 a ∧ ty σ H1 fun y H2 => tx σ H2 fun z H3 => ∃ kvs k, H3 a = some (.dK kvs) ∧ y = kV k ∧
  (∀ v, valV kvs k = some v → Q v (upd H3 a (.dK (dropK kvs k)))) ∧ (valV kvs k = none → Q z H3)
section
variable {X : Cx} {o e f : Expr} {apos cpos : Pos} {td ty tx : TE}
end

/-! ### dict(d): a copy -/
section
variable {X : Cx} {pins : List (Addr × Obj)} {σ : St} {H : Hp} {s : Shared} {a : Addr} {kvs : List (Key × V)} {A : Around} {E : Value → Shared → Prop}
end


section
variable {X : Cx} {pins : List (Addr × Obj)} {σ : St} {H : Hp} {s : Shared} {a : Addr} {y : V} {u : Value} {A : Around} {E : Value → Shared → Prop}
end
end L2

namespace L2
open PySem PySem.Spec PyProof.Rows

section
variable {prog : Program} {w : World} {A : Around} {E : Value → Shared → Prop}
end

section
variable {X : Cx}
end
end L2

namespace L2
open PySem PySem.Spec PyProof.Rows

section
variable {X : Cx} {pins : List (Addr × Obj)} {σ : St} {H : Hp} {s : Shared} {h' : Heap}
/-- .. and one new object is laid -/
theorem Inv.turnedNew {t' : Nat} {ch : List Addr} {T : Addr} {ob : HO} (I : Inv X pins σ H s) (k : ∀ b o, b ∉ ch → s.heap.get? b = some o → h'.get? b = some o) (hf : ∀ b ∈ ch, FpOk X pins H b) (hT : s.heap.objs.size ≤ T)
    (new : ObjOk X.prog X.w (upd H T ob) h' T ob) : Inv X pins σ (upd H T ob) { s with heap := h', toks := t' } := by
  have hn : H T = none := I.hok.fresh hT
  have nit : ∀ b u, H b = some u → b ∉ ch := fun b u e z => by
    have q := (hf b z).1
    rw [q] at e; cases e
  refine I.step (g' := s.gens) (d' := s.drawn) (ch := ch) (fun b hb => ⟨(hf b hb).2.2.2.1, (hf b hb).2.1, (hf b hb).2.2.2.2.1, (hf b hb).2.2.2.2.2⟩) (fun b o _ _ hc e _ => k b o hc e) (fun b o _ _ hc e _ => ⟨o.slots, k b o hc e⟩)
    (fun b o _ e n => ?_) (fun b o hc e => ⟨o, k b o hc e⟩) (fun b xs e => ?_) (fun b o u e => ?_) (fun b ps e => ⟨#[], ?_⟩) (fun m hm => ?_) (fun b u e => ?_) I.bare
  · rw [upd_ne (Nat.ne_of_lt (Nat.lt_of_lt_of_le (Heap.lt_size e) hT))]; exact n
  · rw [upd_ne (ne_of_none e hn)]; exact e
  · rw [upd_ne (ne_of_none e hn)]; exact e
  · rw [upd_ne (ne_of_none e hn), e]; simp
  · obtain ⟨o, es, ep, ho, r⟩ := hm
    exact ⟨o, es, ep, k _ o (fun z => (hf _ z).2.1 rfl) ho, r⟩
  · by_cases hb : b = T
    · subst hb
      rw [upd_same] at e
      cases e
      exact new
    · rw [upd_ne hb] at e
      refine (I.hok b u e).stay (fun c v hc q => k c v ?_ q) (fun c q => by rw [upd_ne (ne_of_none q hn)]; exact q) fun c xs q => by rw [upd_ne (ne_of_none q hn)]; exact q
      rcases hc with z | z
      · rw [z]; exact nit b u e
      · exact nit c _ z

/-! ### locking a thing while a statement runs -/
end
/-- the statement runs while the thing at d is locked (read, not written); d and what stands there are the reading's choice -/
def tLock (t : TS) : TS := fun D σ H => ∃ d u, H d = some u ∧ Mut (some u) ∧ ∀ od, t ⟨fun σ' H' => H' d = some (.frz od u) ∧ D.nx σ' (upd H' d u), fun v H' => H' d = some (.frz od u) ∧ D.rt v (upd H' d u), fun σ' H' => H' d = some (.frz od u) ∧ D.bk σ' (upd H' d u), fun σ' H' => H' d = some (.frz od u) ∧ D.ct σ' (upd H' d u)⟩ σ (upd H d (.frz od u))
def tLockE (t : TE) : TE := fun σ H Q => ∃ d u, H d = some u ∧ Mut (some u) ∧ ∀ od, t σ (upd H d (.frz od u)) fun v H' => H' d = some (.frz od u) ∧ Q v (upd H' d u)
section
variable {X : Cx}
/-! ### one iterator just laid -/
theorem pi_one {tg : Expr} {pins : List (Addr × Obj)} {σ : St} {H : Hp} {s : Shared} {R : It → Hp → Prop} {J : It} {tn : Nat → Heap → Prop} {tk : Nat} (I : Inv X pins σ H s) (o : Obj)
    (T : Turn X.prog X.w X.K tg J [s.heap.objs.size] s.heap.objs.size tn) (st : tn 0 (s.heap.push o)) (q : R J H) : PIE X pins σ tg R (.ref s.heap.objs.size) { s with heap := s.heap.push o, toks := tk } := by
  refine ⟨s.heap.objs.size, [s.heap.objs.size], tn, J, H, rfl, I.kept fun b ob e => Heap.get?_push_of_some _ e, T, st, fun b hb => ?_, q⟩
  have e : b = s.heap.objs.size := by simpa using hb
  subst e
  exact I.fpOk (Nat.le_refl _) (I.hok.fresh (Nat.le_refl _))
end

/-! ### range with a step -/
/-- lo, lo + c, .. (n of them) -/
def Itc (lo c : Int) (n : Nat) : It := ⟨fun i _ => i < n, fun i H x H' => H' = H ∧ x = .int (lo + (i : Nat) * c), fun i _ => n ≤ i⟩
/-- range(i, j, c): small bounds, n items -/
def RgC (i j c : Int) (n : Nat) : Prop := c ≠ 0 ∧ c.natAbs < 1073741824 ∧ Builtin.Range.small i j c = true ∧ Builtin.Range.rangeSize i j c = n
def iRng3 (ta : TA) : TI := fun σ H R => ta σ H fun vs H1 => ∃ (i j c : Int) (n : Nat), vs = [.int i, .int j, .int c] ∧ RgC i j c n ∧ R (Itc i c n) H1
section
variable {X : Cx} {tg : Expr}
end
/-! ### reversed(list) -/
/-- the list at a (n items at the start, which the loop leaves there), from its end -/
def Itv (K : PySem.W.Frag) (a : Addr) (n : Nat) : It :=
  ⟨fun i H => i < n ∧ ∃ (xs : List V) (x : V), SqL K H a xs ∧ xs[n - 1 - i]? = some x, fun i H x H' => H' = H ∧ ∀ xs, SqL K H a xs → xs[n - 1 - i]? = some x, fun i _ => n ≤ i⟩
def iRev (K : PySem.W.Frag) (ta : TA) : TI := fun σ H R => ta σ H fun vs H1 => ∃ (a : Addr) (xs : List V), vs = [.ref a] ∧ SqL K H1 a xs ∧ R (Itv K a xs.length) H1
section
variable {X : Cx} {tg : Expr}
end

/-! ### a str -/
def Its (x : Str) : It := ⟨fun i _ => i < x.cps.size, fun i H v H' => H' = H ∧ ∃ c, x.cps[i]? = some c ∧ v = .str ⟨#[c]⟩, fun i _ => x.cps.size ≤ i⟩
theorem turn_str {P : Program} {w : World} {K : PySem.W.Frag} {tg : Expr} (it : Addr) (x : Str) (t : Tok) (ty : String) (hty : ty = "str_ascii_iterator" ∨ ty = "str_iterator") :
    Turn P w K tg (Its x) [it] it (fun i h => h.IsStrIter it ty x t i) where
  mem := by simp
  obj := fun i h st b hb => by
    have e : b = it := by simpa using hb
    subst e
    obtain ⟨o, e, c, d⟩ := st
    exact ⟨o, e, fun v z => by rw [d] at z; cases z⟩
  keep := fun i h h' st k => let ⟨o, ho, r⟩ := st; ⟨o, k it (by simp) o ho, r⟩
  item := by
    intro X hP hw hK hc i pins s σ H E I hf st hg
    subst hP hw hK
    obtain ⟨f0, f1, f2, f3, f4, f5⟩ := hf it (by simp)
    have W : Walks X.prog X.w X.A it [it] [it] x.cps.size (SignAt x) (fun i h => h.IsStrIter it ty x t i) := by
      rcases hty with e | e
      · rw [e]; exact Walks.strAscii (I.ok.hd hc) it x t
      · rw [e]; exact Walks.strWide (I.ok.hd hc) it x t
    have hno : ["enumerate", "zip", "dict_itemiterator", "dict_reverseitemiterator", "odict_iterator", "itertools.zip_longest", "itertools.pairwise"].contains ty = false := by
      rcases hty with e | e
      · rw [e]; decide
      · rw [e]; decide
    refine W.item i s _ _ hg st fun v h' tk hv st' kk => ?_
    obtain ⟨c, u, hcx, rfl⟩ := hv
    have I1 : Inv X pins σ H { s with heap := h', toks := tk } := I.turned (fun b o hb e => kk b o (by simpa using hb) e) f0 f1 f3 f4 f5
    obtain ⟨oi, e, cc, dd⟩ := id st'
    exact ⟨_, rfl, go_of (s := { s with heap := h', toks := tk }) e cc dd hno ⟨.str ⟨#[c]⟩, H, I1, ⟨u, rfl⟩, ⟨rfl, c, hcx, rfl⟩, st', fun b hb => (hf b hb).1⟩⟩
  done := by
    intro X hP hw hK hc i pins s σ H E I hf st hg
    subst hP hw hK
    obtain ⟨f0, f1, f2, f3, f4, f5⟩ := hf it (by simp)
    have hx : x.cps[i]? = none := Array.getElem?_eq_none hg
    rcases hty with e | e
    · rw [e] at st
      exact wpAny_pyNext_ascii_end (I.ok.hd hc) st hx fun h' eb => ⟨rfl, I.turned (t' := s.toks) (fun b o hb e => eb b o hb e) f0 f1 f3 f4 f5⟩
    · rw [e] at st
      exact wpAny_pyNext_wide_end (I.ok.hd hc) st hx fun h' eb => ⟨rfl, I.turned (t' := s.toks) (fun b o hb e => eb b o hb e) f0 f1 f3 f4 f5⟩
  self := fun A i s Q E st h => by
    rcases hty with e | e
    · rw [e] at st; exact wpAny_pyIter_striter_ascii st h
    · rw [e] at st; exact wpAny_pyIter_striter_wide st h
def iStr (te : TE) : TI := fun σ H R => te σ H fun v H1 => ∃ x, v = .str x ∧ R (Its x) H1
theorem pi_str {X : Cx} {tg e : Expr} {te : TE} (he : PE X e te) : PI X tg e (iStr te) := by
  intro pins s σ H R I h
  refine thn (he pins s σ H _ I h) fun v s1 ⟨y, H1, I1, r1, x, ex, q⟩ => ?_
  subst ex
  obtain ⟨t, rfl⟩ := r1
  cases ha : x.cps.all (· < 128)
  · exact wpAny_pyIter_wide ha (pi_one (tk := s1.toks) I1 _ (turn_str _ x t "str_iterator" (.inr rfl)) ⟨_, Heap.get?_push_size _ rfl, rfl, rfl⟩ q)
  · exact wpAny_pyIter_ascii ha (pi_one (tk := s1.toks) I1 _ (turn_str _ x t "str_ascii_iterator" (.inl rfl)) ⟨_, Heap.get?_push_size _ rfl, rfl, rfl⟩ q)

/-! ### a dict's keys: any dict's entries -/
section
variable {prog : Program} {w : World} {A : Around} {E : Value → Shared → Prop} {s : Shared}
end

/-! ### a locked dict -/
section
variable {X : Cx} {pins : List (Addr × Obj)} {σ : St} {H : Hp} {s : Shared} {d : Addr} {o : Obj}
end

/-- the keys of the locked dict at d, in their order -/
def Itk (d : Addr) (o : Obj) (kvs : List (Key × V)) : It :=
  ⟨fun i H => H d = some (.frz o (.dK kvs)) ∧ i < kvs.length, fun i H x H' => H' = H ∧ ∃ k v, kvs[i]? = some (k, v) ∧ x = kV k, fun i H => H d = some (.frz o (.dK kvs)) ∧ kvs.length ≤ i⟩
/-- .. of tuple keys: the key's own tuple -/
def Itkt (d : Addr) (o : Obj) (kvs : List (List Key × V)) : It :=
  ⟨fun i H => H d = some (.frz o (.dT kvs)) ∧ i < kvs.length, fun i H x H' => H' = H ∧ ∃ (k : List Key) (v : V) (q : Addr), kvs[i]? = some (k, v) ∧ x = .ref q ∧ H q = some (.tup (k.map kV)), fun i H => H d = some (.frz o (.dT kvs)) ∧ kvs.length ≤ i⟩
/-- the values -/
def Itd (d : Addr) (o : Obj) (kvs : List (Key × V)) : It :=
  ⟨fun i H => H d = some (.frz o (.dK kvs)) ∧ i < kvs.length, fun i H x H' => H' = H ∧ ∃ k, kvs[i]? = some (k, x), fun i H => H d = some (.frz o (.dK kvs)) ∧ kvs.length ≤ i⟩
/-- the pairs, each a new tuple -/
def Iti (d : Addr) (o : Obj) (kvs : List (Key × V)) : It :=
  ⟨fun i H => H d = some (.frz o (.dK kvs)) ∧ i < kvs.length, fun i H x H' => ∃ T k v, kvs[i]? = some (k, v) ∧ x = .ref T ∧ H T = none ∧ H' = upd H T (.tup [kV k, v]), fun i H => H d = some (.frz o (.dK kvs)) ∧ kvs.length ≤ i⟩
section
variable {P : Program} {w : World} {K : PySem.W.Frag} {tg : Expr} {d : Addr} {o : Obj} {es : Array DictEntry} {ep : Nat}
end

/-! ### for k in d, d.keys(), d.values(), d.items() -/
/-- the dict is locked (tLock, or by the caller) -/
def iKeys (td : TE) : TI := fun σ H R => td σ H fun x H1 => ∃ d o, x = .ref d ∧ ((∃ kvs, H1 d = some (.frz o (.dK kvs)) ∧ R (Itk d o kvs) H1) ∨ ∃ kvs, H1 d = some (.frz o (.dT kvs)) ∧ R (Itkt d o kvs) H1)
def iVals (td : TE) : TI := fun σ H R => td σ H fun x H1 => ∃ d o kvs, x = .ref d ∧ H1 d = some (.frz o (.dK kvs)) ∧ R (Itd d o kvs) H1
def iItems (td : TE) : TI := fun σ H R => td σ H fun x H1 => ∃ d o kvs, x = .ref d ∧ H1 d = some (.frz o (.dK kvs)) ∧ R (Iti d o kvs) H1
def iKeysM (td : TE) : TI := fun σ H R => td σ H fun x H1 => ∃ d o kvs, x = .ref d ∧ H1 d = some (.frz o (.dK kvs)) ∧ R (Itk d o kvs) H1
section
variable {X : Cx} {tg e : Expr} {td : TE} {apos cpos : Pos}
end

/-! ### enumerate(list) -/
/-- the list at a as it stands at each turn, each item in a new pair -/
def Ite (K : PySem.W.Frag) (a : Addr) : It :=
  ⟨fun i H => ∃ (xs : List V) (x : V), SqL K H a xs ∧ xs[i]? = some x, fun i H v H' => ∃ T x, v = .ref T ∧ H T = none ∧ H' = upd H T (.tup [.int (i : Nat), x]) ∧ ∀ xs, SqL K H a xs → xs[i]? = some x, fun i H => ∃ xs : List V, SqL K H a xs ∧ xs.length ≤ i⟩
theorem turn_enum {P : Program} {w : World} {K : PySem.W.Frag} {elts : List Expr} {kk : Nat} {tpos : Pos} (a e it : Addr) :
    Turn P w K (.Tuple elts kk tpos) (Ite K a) [e, it] e (fun i h => (∃ old, IsEnum h e it ((i : Nat) : Int) old) ∧ h.IsListIter it a i ∧ e ≠ it) where
  mem := by simp
  obj := fun i h st b hb => by
    obtain ⟨⟨old, he⟩, ⟨o, ho, hc, hd⟩, _⟩ := st
    have e' : b = e ∨ b = it := by simpa using hb
    rcases e' with z | z
    · rw [z]; exact ⟨_, he, fun v q => nomatch q⟩
    · rw [z]; exact ⟨o, ho, fun v q => by rw [hd] at q; cases q⟩
  keep := fun i h h' st k => let ⟨⟨old, he⟩, hi, hne⟩ := st; ⟨⟨old, k e (by simp) _ he⟩, hi.at fun o q => k it (by simp) o q, hne⟩
  item := by
    intro X hP hw hK hc i pins s σ H E I hf st hg
    subst hP hw hK
    obtain ⟨⟨old, he⟩, hit, hne⟩ := st
    obtain ⟨xs, x, hq, hx⟩ := hg
    obtain ⟨its, rv, p, hz⟩ := I.list hq
    obtain ⟨u, hu, ru⟩ := rv.get hx
    have hel : e < s.heap.objs.size := Heap.lt_size he
    have hil : it < s.heap.objs.size := by obtain ⟨_, q, _⟩ := hit; exact Heap.lt_size q
    refine wpAny_pyNext_enum_item he hit p.isList (x := u) (by simpa using hu) hne fun h' ho hit' hT hsz hk => ?_
    refine ⟨_, rfl, wpAny_letOwnedTupleGo_enum (s := { s with heap := h', toks := s.toks + 1 }) ho fun h'' he' sb => ?_⟩
    have hT2 : h''.get? s.heap.objs.size = some { cls := .type "tuple", data := .seq #[.int i s.toks, u] } := (sb.2 _ (Nat.ne_of_gt hel)).trans hT
    have new : ObjOk X.prog X.w (upd H s.heap.objs.size (.tup [.int (i : Nat), x])) h'' s.heap.objs.size (.tup [.int (i : Nat), x]) :=
      ⟨by show 2 ≤ sizeLine; decide, [.int i s.toks, u], .cons ⟨_, rfl⟩ (.cons ru .nil), ⟨_, hT2, rfl, _, rfl⟩⟩
    have I1 : Inv X pins σ (upd H s.heap.objs.size (.tup [.int (i : Nat), x])) { s with heap := h'', toks := s.toks + 1 } :=
      I.turnedNew (ch := [e, it]) (fun b ob hb q => (sb.2 b (fun z => hb (by simp [z]))).trans (hk b ob (fun z => hb (by simp [z])) (fun z => hb (by simp [z])) q)) hf (Nat.le_refl _) new
    refine ⟨.ref s.heap.objs.size, _, I1, rfl, ⟨_, x, rfl, I.hok.fresh (Nat.le_refl _), rfl, fun ys hy => by rw [I.list_inj hy hq]; exact hx⟩, ⟨⟨u, ?_⟩, hit'.at fun o q => (sb.2 it (Ne.symm hne)).trans q, hne⟩, fun b hb => ?_⟩
    · have e1 : ((i + 1 : Nat) : Int) = (i : Int) + 1 := by omega
      rw [e1]; exact he'
    · have hb' : b < s.heap.objs.size := by
        have e' : b = e ∨ b = it := by simpa using hb
        rcases e' with z | z
        · rw [z]; exact hel
        · rw [z]; exact hil
      rw [upd_ne (Nat.ne_of_lt hb')]
      exact (hf b hb).1
  done := by
    intro X hP hw hK hc i pins s σ H E I hf st hg
    subst hP hw hK
    obtain ⟨⟨old, he⟩, hit, hne⟩ := st
    obtain ⟨xs, hq, hx⟩ := hg
    obtain ⟨its, rv, p, hz⟩ := I.list hq
    obtain ⟨f0, f1, f2, f3, f4, f5⟩ := hf it (by simp)
    have hl := rv.length
    exact wpAny_pyNext_enum_end (I.ok.hd hc) he hit p.isList (by simp; omega) fun h' eb => ⟨rfl, I.turned (t' := s.toks) (fun b o hb q => eb b o hb q) f0 f1 f3 f4 f5⟩
  self := fun A i s Q E st h => let ⟨⟨_, he⟩, _⟩ := st; wpAny_pyIter_enum he h
def iEnum (K : PySem.W.Frag) (ta : TA) : TI := fun σ H R => ta σ H fun vs H1 => ∃ a xs, vs = [.ref a] ∧ SqL K H1 a xs ∧ R (Ite K a) H1
theorem pi_enum {X : Cx} {e : Expr} {ta : TA} {p pos tpos : Pos} {elts : List Expr} {kk : Nat} (hg : Gl X "enumerate") (hm : X.mg "enumerate" = none) (ha : PA X [e] ta) (hs : starEach [e] X.env = [(false, eval e X.env)] := by rfl) :
    PI X (.Tuple elts kk tpos) (.Call (.Name "enumerate" p) [e] [] pos) (iEnum X.K ta) := by
  intro pins s σ H R I h
  refine Call_ (ld_blt I hg hm boot_enumerate (PyProof.Rows.callWith_type1 (thn (ha pos pins s σ H _ I h) fun us s1 ⟨vs, H1, I1, r1, q1⟩ => ?_) hs rfl))
  obtain ⟨a, xs, ex, hq, q⟩ := q1
  subst ex
  cases r1 with
  | cons r rr =>
    cases rr
    cases r
    obtain ⟨its, rv, p', hz⟩ := I1.list hq
    refine call_enumerate_list p'.isList fun h' he hit hsz hk => wpAny_pyIter_enum he ?_
    have I2 : Inv X pins σ H1 { s1 with heap := h' } := I1.kept (t' := s1.toks) hk
    refine ⟨s1.heap.objs.size + 1, [s1.heap.objs.size + 1, s1.heap.objs.size], _, _, H1, rfl, I2, turn_enum a (s1.heap.objs.size + 1) s1.heap.objs.size, ⟨⟨.none, he⟩, hit, Nat.succ_ne_self _⟩, fun b hb => ?_, q⟩
    have e' : b = s1.heap.objs.size + 1 ∨ b = s1.heap.objs.size := by simpa using hb
    have hle : s1.heap.objs.size ≤ b := by
      rcases e' with z | z
      · rw [z]; exact Nat.le_add_right _ _
      · rw [z]; exact Nat.le_refl _
    exact I1.fpOk hle (I1.hok.fresh hle)
/-! ### zip(list, list) -/
/-- the lists at a and b as they stand at each turn, the items in new pairs -/
def Itz (K : PySem.W.Frag) (a b : Addr) : It :=
  ⟨fun i H => ∃ (xs ys : List V) (x y : V), SqL K H a xs ∧ SqL K H b ys ∧ xs[i]? = some x ∧ ys[i]? = some y,
    fun i H v H' => ∃ T x y, v = .ref T ∧ H T = none ∧ H' = upd H T (.tup [x, y]) ∧ (∀ xs, SqL K H a xs → xs[i]? = some x) ∧ ∀ ys, SqL K H b ys → ys[i]? = some y,
    fun i H => ∃ xs ys : List V, SqL K H a xs ∧ SqL K H b ys ∧ (xs.length ≤ i ∨ ys.length ≤ i)⟩
def iZip (K : PySem.W.Frag) (ta : TA) : TI := fun σ H R => ta σ H fun vs H1 => ∃ a b xs ys, vs = [.ref a, .ref b] ∧ SqL K H1 a xs ∧ SqL K H1 b ys ∧ R (Itz K a b) H1
end L2

section 
namespace Bits
open PySem PyProof.Rows

end Bits
end 

section 
namespace TL
open PySem PySem.Builtin PySem.Builtin.Str PySem.StrLaws

abbrev tl (x : Str) : List Nat := x.cps.toList
/-! ### the list functions -/
/-- S stands at the head of l -/
def pre (S l : List Nat) : Bool := l.take S.length == S
/-- l cut at each S from the left; k signs are still to be passed over -/
def spl (S : List Nat) : Nat → List Nat → List Nat → List (List Nat)
  | _, acc, [] => [acc]
  | 0, acc, c :: r => if pre S (c :: r) = true then acc :: spl S (S.length - 1) [] r else spl S 0 (acc ++ [c]) r
  | k + 1, acc, _ :: r => spl S k acc r
/-- what stands before the first S, and behind it -/
def par (S : List Nat) : List Nat → List Nat → Option (List Nat × List Nat)
  | _, [] => none
  | acc, c :: r => if pre S (c :: r) = true then some (acc, (c :: r).drop S.length) else par S (acc ++ [c]) r

/-! ### the model's split and partition are these -/
/-! ### computing spl and par -/
/-- joined lists -/
def joinL (S : List Nat) : List (List Nat) → List Nat
  | [] => []
  | [p] => p
  | p :: q :: r => p ++ (S ++ joinL S (q :: r))
/-! ### digits -/
/-- the signs of a number -/
def numL (n : Nat) : List Nat := (Nat.toDigits 10 n).map Char.toNat
/-! ### words: x.split() -/
def wstep (st : List (List Nat) × List Nat) (c : Nat) : List (List Nat) × List Nat :=
  if Unicode.isSpace c = true then (if st.2 = [] then st else (st.1 ++ [st.2], [])) else (st.1, st.2 ++ [c])
def wfin (st : List (List Nat) × List Nat) : List (List Nat) := if st.2 = [] then st.1 else st.1 ++ [st.2]
end TL
end 

namespace L2
open PySem PySem.Spec PyProof.Rows

/-- a new list of texts, tracked -/
def rNewStrs (ys : List Str) : Hp → VK → Prop := fun H Q => ∀ p, H p = none → Q (.ref p) (upd H p (.lst (ys.map V.str)))

section
variable {X : Cx} {pins : List (Addr × Obj)} {σ : St} {H : Hp} {s : Shared} {Q : VK}
end

section
variable {X : Cx}

/-! ### of a text alone -/
/-! ### of a text and a text -/
end

section
variable {X : Cx} {o e : Expr} {to te : TE}
def tM0 (r : V → List V → Hp → VK → Prop) (to : TE) : TE := fun σ H Q => to σ H fun x H1 => (∃ a, x = .str a) ∧ r x [] H1 Q
def tM1 (r : V → List V → Hp → VK → Prop) (to te : TE) : TE := fun σ H Q => to σ H fun x H1 => (∃ a, x = .str a) ∧ te σ H1 fun y H2 => r x [y] H2 Q
end
end L2

namespace L2
open PySem PySem.Spec PyProof.Rows

section
variable {X : Cx}
end

/-! ### slices of a text -/
/-- a part, clipped, as the text's slice reckons it -/
def clipS (n d : Nat) : Option Int → Int
  | none => (d : Int)
  | some i => max 0 (min (if i < 0 then i + (n : Int) else i) (n : Int))
/-- z[lo:hi] -/
def cutS (z : Str) (lo hi : Option Int) : Str :=
  ⟨((z.cps.toList.drop (HT.sIx z.length 0 lo)).take (HT.sIx z.length z.length hi - HT.sIx z.length 0 lo)).toArray⟩
def rSlS : V → Option Int → Option Int → Hp → VK → Prop := fun x lo hi H Q => ∃ z, x = .str z ∧ z.length ≤ sizeLine ∧ Q (.str (cutS z lo hi)) H
end L2

namespace Att
open PySem PySem.W PySem.Calls PyProof.Rows

/-! ### the script -/
/-! ### the attachment: holds_open's last premise (the goal 'hc' behind k_head) from a wpAny of the law's body -/
/-! ### rules over ANY heap (no ledger) from facts about the written part K: the library's own take a ledger (News) for what they write -/
section
variable {prog : Program} {w : World} {A : Around} {E : Value → Shared → Prop} {s : Shared} {K : Frag}

/-! the whole heap as the ledger: makes every rule that writes through a ledger a rule over any heap -/
def noObjs (h : Heap) : Heap := { h with objs := #[] }
def ledger (h : Heap) (L d : Addr) : List (Addr × Obj) := (List.range h.objs.size).filterMap fun a => if a = L ∨ a = d then none else (h.get? a).map fun o => (a, o)
end
end Att

namespace L2
open PySem PySem.Spec PyProof.Rows

/-- nothing is tracked but the script, known to the object (or it is an object of the module) -/
def Only (H : Hp) : Prop := ∀ b, H b = none ∨ ∃ o xs, H b = some (.frz o (.lst xs))

end L2

namespace L2
open PySem PySem.Spec PyProof.Rows

abbrev KOf {K : PySem.W.Frag} {h : Heap} (_ : K.In h) : PySem.W.Frag := K

end L2

/- THE LAST THEOREM (shape; LID, My.* are yours):
   My.Adr: a structure of the addresses that your layer names (classes, functions); My.Txt K t: a structure (Prop) of the equations over K;
   My.txt_mk : {K} {implicit addresses ..} (e1 : nsIn K mainGlobals "law" = some (some (.ref f))) (e2 : K.lookup f = some ⟨oc, od, .func (fnOf "law" "law" params body scope dV kV doc pm an cdv ct), sl⟩) (e3 : codeIn K cdv "law" = true) .. : ∃ t, My.Txt K t

set_option maxRecDepth 100000 in
set_option maxHeartbeats 0 in
theorem PySem.Challenge.cw_LID_holds : PySem.Challenge.rw_LID.Holds := by
  w_on; o_law; k_head; (case hw => w_witness2)
  k_fill
  refine L2.walk_of (l := PySem.Challenge.rw_LID) (n := 63) (k := 40) (x := "script") (CX := fun w => ..) (sp := fun _ => My.sp_law) rfl (by decide) rfl ⟨rfl, by decide, by decide⟩ (fun w h Y => PySem.W.kIn_of Y) ?F ?S ?C
  case F =>
    intro w mg fa h KX G hmg
    have T : ∃ t, My.Txt (L2.KOf KX) t := by
      dsimp only [L2.KOf]                          -- K must stand as «<heap const> w.params» for k_is
      refine' My.txt_mk ?e1 ?e2 ?e3 ..
      (case e1 => PySem.W.k_is)                    -- in the order: a name -> its address -> its object -> its parts
      (case e2 => PySem.W.k_is)
      ..
    obtain ⟨t, T⟩ := T
    have e0 := hmg.symm.trans (PySem.W.mg_of KX G T.law)
    cases e0                                       -- fa is the law's own address
    exact ⟨_, fun s u => .of_eq rfl, fun base kb nb => My.law_fn T kb nb⟩     -- if «.of_eq rfl» comes too early: refine' ⟨_, ?b, fun base kb nb => My.law_fn T kb nb⟩; exact fun s u => .of_eq rfl
  case S => exact fun w H a ns hl hO hS => ..
  case C => exact ..
(the tactic k_is has no namespace: write k_is) -/

/-! SHORT WORDS over the layer: a def of the text, its body, what a loop and a test want. -/
namespace L2
open PySem PySem.Spec PyProof.Rows

/-! ### the text by places -/
/-- the j-th statement of a class's body -/
def inClass (s : Stmt) (j : Nat) : Stmt := match s with
  | .ClassDef _ _ _ body _ _ _ _ _ _ _ => body.getD j (.Pass ⟨0, 0, 0, 0⟩)
  | _ => .Pass ⟨0, 0, 0, 0⟩
def defArgs (s : Stmt) : Arguments := match s with
  | .FunctionDef _ a _ _ _ _ _ _ _ _ => a
  | _ => { posonlyargs := [], args := [], vararg := none, kwonlyargs := [], kw_defaults := [], kwarg := none, defaults := [] }
def defBody (s : Stmt) : List Stmt := match s with
  | .FunctionDef _ _ b _ _ _ _ _ _ _ => b
  | _ => []
def defScope (s : Stmt) : Scope := match s with
  | .FunctionDef _ _ _ _ _ _ sc _ _ _ => sc
  | _ => { kind := .function, names := [], isGenerator := false, isCoroutine := false }

/-! ### no exception leaves a def -/
abbrev CX0 : CXT := fun _ _ _ _ _ _ => False
abbrev E0 : St → XK := fun _ _ _ _ => False
/-! ### a def (or method) of the text as it stands behind the top -/
structure Fun (K : PySem.W.Frag) (x qual : Str) (st : Stmt) (f : Addr) (fd : FuncData) : Prop where
  ex : ∃ (oc : Value) (od : Option Addr) (kV doc pm : Value) (an : Option Addr) (cdv ct : Value) (osl : Array (Option Value)),
    fd = PySem.W.fnOf x qual (defArgs st) (defBody st) (defScope st) .none kV doc pm an cdv ct ∧ K.lookup f = some ⟨oc, od, .func fd, osl⟩ ∧ PySem.W.codeIn K cdv qual = true
  kp : PySem.W.keepIn K (.ref f) = true
section
variable {P : Program} {w : World} {K : PySem.W.Frag} {mg : Str → Option Value} {base : Heap}
/-- how its arguments bind (no defaults): h is «fun _ _ _ _ _ _ us hl => match us, hl with | [_, _], _ => rfl», one _ a parameter -/
theorem Fun.binds {x qual : Str} {st : Stmt} {f : Addr} {fd : FuncData} {ps : List Str} (F : Fun K x qual st f fd)
    (h : ∀ (kV doc pm : Value) (an : Option Addr) (cdv ct : Value) (us : List Value), us.length = ps.length → bindArgs (PySem.W.fnOf x qual (defArgs st) (defBody st) (defScope st) .none kV doc pm an cdv ct) ⟨us, []⟩ = pure (ps.zip us)) : Binds K fd ps [] := by
  obtain ⟨oc, od, kV, doc, pm, an, cdv, ct, osl, rfl, lk, hcd⟩ := F.ex
  exact .all (h kV doc pm an cdv ct)
theorem fun_mk {x qual : Str} {st : Stmt} {f : Addr} {oc : Value} {od an : Option Addr} {osl : Array (Option Value)} {kV doc pm cdv ct : Value} (l : K.lookup f = some ⟨oc, od, .func (PySem.W.fnOf x qual (defArgs st) (defBody st) (defScope st) .none kV doc pm an cdv ct), osl⟩)
    (c : PySem.W.codeIn K cdv qual = true) (k : PySem.W.keepIn K (.ref f) = true) : Fun K x qual st f (PySem.W.fnOf x qual (defArgs st) (defBody st) (defScope st) .none kV doc pm an cdv ct) := ⟨⟨oc, od, kV, doc, pm, an, cdv, ct, osl, rfl, l, c⟩, k⟩
end
/-! ### expressions in short: the name that stands in the i-th slot -/
section
variable {X : Cx}
theorem pv (i : Nat) {x : Str} {pos : Pos} (hN : X.N[i]? = some x := by rfl) (hv : Vis X.env.scope x := by first | exact Or.inl rfl | exact Or.inr (Or.inl rfl) | exact Or.inr (Or.inr rfl)) (hd : (x == ("__debug__" : Str)) = false := by decide)
    (hcd : (x == ("__classdict__" : Str)) = false := by decide) : PE X (.Name x pos) (tVar i) := pe_var hN hv hd hcd
end

/-! ### tests -/
theorem iteF {A B : Prop} (h : B) : if false = true then A else B := by
  rw [if_neg Bool.false_ne_true]
  exact h
theorem iteT {A B : Prop} (h : A) : if true = true then A else B := by
  rw [if_pos rfl]
  exact h
theorem ite2 {c A B : Prop} [Decidable c] (h1 : c → A) (h2 : ¬ c → B) : if c then A else B := by
  by_cases h : c
  · rw [if_pos h]
    exact h1 h
  · rw [if_neg h]
    exact h2 h
/-! ### heaps -/
/-- all that was tracked is as it was -/
def Same (H H' : Hp) : Prop := ∀ b o, H b = some o → H' b = some o
theorem Same.refl (H : Hp) : Same H H := fun _ _ h => h
theorem Same.trans {H H1 H2 : Hp} (a : Same H H1) (b : Same H1 H2) : Same H H2 := fun c o h => b c o (a c o h)
theorem Same.free {H H' : Hp} (e : Same H H') {l : Addr} (h : H' l = Option.none) : H l = Option.none := by
  cases q : H l with
  | none => rfl
  | some o =>
    rw [e l o q] at h
    cases h
theorem Same.seq {K : PySem.W.Frag} {H H' : Hp} {a : Addr} {xs : List V} (e : Same H H') (h : SqL K H a xs) : SqL K H' a xs := by
  rcases h with (h | ⟨o, h⟩) | h
  · exact .inl (.inl (e _ _ h))
  · exact .inl (.inr ⟨o, e _ _ h⟩)
  · exact .inr h

/-! ### a dict's pairs: keys that differ -/
section
variable {κ : Type} [DecidableEq κ]
end
/-! ### lists -/
theorem at_of {xs : List V} {z : Int} {j : Nat} {v : V} (e : z = (j : Int)) (h : xs[j]? = some v) : atI xs z = some v := by
  rw [e]
  exact atI_nat h
end L2

namespace L2
open PySem PySem.Spec PyProof.Rows
open PySem.W (WData Codec OpenSpec Well WellAll ReadsW ReadsAllW)
/-! ### an answer as data -/
mutual
/-- x stands for the datum d, lists and tuples all the way -/
inductive Dw (K : PySem.W.Frag) (H : Hp) : V → WData → Prop
  | non : Dw K H .non .none
  | bl (b : Bool) : Dw K H (.bl b) (.bool b)
  | int (i : Int) : Dw K H (.int i) (.int i)
  | str (x : Str) : Dw K H (.str x) (.str x)
  | byt (b : Array UInt8) : Dw K H (.byt b) (.bytes b.toList)
  | lst {a : Addr} {xs : List V} {ds : List WData} : SqL K H a xs → DwAll K H xs ds → Dw K H (.ref a) (.list ds)
  | tup {a : Addr} {xs : List V} {ds : List WData} : SqT K H a xs → DwAll K H xs ds → Dw K H (.ref a) (.tuple ds)
inductive DwAll (K : PySem.W.Frag) (H : Hp) : List V → List WData → Prop
  | nil : DwAll K H [] []
  | cons {v : V} {vs : List V} {d : WData} {ds : List WData} : Dw K H v d → DwAll K H vs ds → DwAll K H (v :: vs) (d :: ds)
end
theorem dw_ints {K : PySem.W.Frag} {H : Hp} : ∀ ns : List Int, DwAll K H (ns.map V.int) (ns.map WData.int)
  | [] => .nil
  | n :: r => .cons (.int n) (dw_ints r)
theorem ints_dw {K : PySem.W.Frag} {H : Hp} : ∀ (ns : List Int) (xs : List V), DwAll K H xs (ns.map WData.int) → xs = ns.map V.int
  | [], xs, h => by
    cases h
    rfl
  | n :: r, xs, h => by
    cases h with
    | cons h1 h2 =>
      cases h1
      rw [ints_dw r _ h2] <;> rfl
section
variable {P : Program} {w : World} {K : PySem.W.Frag} {H : Hp} {h : Heap} {R : PySem.W.WRecords} {cl : Str → Option Addr}
theorem sqL_at {a : Addr} {xs : List V} (hok : HOk P w H h) (KX : K.In h) (q : SqL K H a xs) : ∃ (its : List Value) (o : Obj) (n : Nat), Vals xs its ∧ h.get? a = some o ∧ o.cls = .type "list" ∧ o.data = .seq its.toArray n := by
  rcases q with q | ⟨o, its, n, e, hc, _, hd, _, hv⟩
  · obtain ⟨_, its, n, hv, e⟩ := (show ObjOk P w H h a (.lst xs) from q.ok hok)
    exact ⟨its, _, n, hv, e, rfl, rfl⟩
  · exact ⟨its.toList, o, n, hv, KX _ _ e, hc, by simp [hd]⟩
theorem sqT_at {a : Addr} {xs : List V} (hok : HOk P w H h) (KX : K.In h) (q : SqT K H a xs) : ∃ (its : List Value) (o : Obj) (n : Nat), Vals xs its ∧ h.get? a = some o ∧ o.cls = .type "tuple" ∧ o.data = .seq its.toArray n := by
  rcases q with q | ⟨o, its, n, e, hc, hd, _, hv⟩
  · obtain ⟨_, its, hv, o, e, hc, n, hd⟩ := (show ObjOk P w H h a (.tup xs) from q.ok hok)
    exact ⟨its, o, n, hv, e, hc, hd⟩
  · exact ⟨its.toList, o, n, hv, KX _ _ e, hc, by simp [hd]⟩
mutual
theorem Dw.reads (hok : HOk P w H h) (KX : K.In h) : ∀ (d : WData) (v : V) (u : Value), Dw K H v d → RelV v u → ∃ as, ReadsW R cl h u d as
  | .none, _, _, x, r => by
    cases x
    cases r
    exact ⟨_, ReadsW.none⟩
  | .bool b, _, _, x, r => by
    cases x
    cases r
    exact ⟨_, ReadsW.bool b⟩
  | .int i, _, _, x, r => by
    cases x
    obtain ⟨t, rfl⟩ := r
    exact ⟨_, ReadsW.int i t⟩
  | .str s, _, _, x, r => by
    cases x
    obtain ⟨t, rfl⟩ := r
    exact ⟨_, ReadsW.str s t⟩
  | .bytes b, _, _, x, r => by
    cases x
    obtain ⟨t, rfl⟩ := r
    exact ⟨_, ReadsW.bytes _ t⟩
  | .list ds, _, _, x, r => by
    cases x with
    | lst hs ha =>
      cases r
      obtain ⟨its, o, n, rv, ho, hc, hd⟩ := sqL_at hok KX hs
      obtain ⟨as, hr⟩ := Dw.readsAll hok KX ds _ its ha rv
      exact ⟨_, ReadsW.list ho hc hd hr⟩
  | .tuple ds, _, _, x, r => by
    cases x with
    | tup hs ha =>
      cases r
      obtain ⟨its, o, n, rv, ho, hc, hd⟩ := sqT_at hok KX hs
      obtain ⟨as, hr⟩ := Dw.readsAll hok KX ds _ its ha rv
      exact ⟨_, ReadsW.tuple ho hc hd hr⟩
  | .float _, _, _, x, _ => by cases x
  | .dict _, _, _, x, _ => by cases x
  | .bytearray _, _, _, x, _ => by cases x
  | .set _, _, _, x, _ => by cases x
  | .frozenset _, _, _, x, _ => by cases x
  | .obj _ _, _, _, x, _ => by cases x
theorem Dw.readsAll (hok : HOk P w H h) (KX : K.In h) : ∀ (ds : List WData) (vs : List V) (us : List Value), DwAll K H vs ds → Vals vs us → ∃ as, ReadsAllW R cl h us ds as
  | [], _, _, x, r => by
    cases x
    cases r
    exact ⟨_, ReadsAllW.nil⟩
  | d :: ds, _, _, x, r => by
    cases x with
    | cons h1 h2 =>
      cases r with
      | cons r1 r2 =>
        obtain ⟨as, q1⟩ := Dw.reads hok KX d _ _ h1 r1
        obtain ⟨bs, q2⟩ := Dw.readsAll hok KX ds _ _ h2 r2
        exact ⟨_, ReadsAllW.cons q1 q2⟩
end
end
/-! ### the arguments -/
mutual
/-- data that a codec tells -/
def plW : WData → Bool
  | .none => true
  | .bool _ => true
  | .int _ => true
  | .str _ => true
  | .bytes _ => true
  | .list xs => plWs xs
  | .tuple xs => plWs xs
  | _ => false
def plWs : List WData → Bool
  | [] => true
  | x :: r => plW x && plWs r
end
theorem plWs_map {α : Type} {f : α → WData} (h : ∀ a, plW (f a) = true) : ∀ l : List α, plWs (l.map f) = true
  | [] => rfl
  | x :: r => by
    show (plW (f x) && plWs (r.map f)) = true
    rw [h x, plWs_map h r] <;> rfl
theorem pl_enc : ∀ (c : Codec) (a : c.denote), plW (c.enc a) = true
  | .unit, _ => rfl
  | .bool, _ => rfl
  | .int _ _, _ => rfl
  | .nat _ _, _ => rfl
  | .u8, _ => rfl
  | .bytes _ _, _ => rfl
  | .text _ _ _ _, _ => rfl
  | .list _ _ c, a => plWs_map (fun x => pl_enc c x) a
  | .pair c d, a => by
    show (plW (c.enc a.1) && (plW (d.enc a.2) && true)) = true
    rw [pl_enc c a.1, pl_enc d a.2] <;> rfl
  | .triple c d e, a => by
    show (plW (c.enc a.1) && (plW (d.enc a.2.1) && (plW (e.enc a.2.2) && true))) = true
    rw [pl_enc c a.1, pl_enc d a.2.1, pl_enc e a.2.2] <;> rfl
  | .option c, none => rfl
  | .option c, some x => pl_enc c x
theorem pl_encAll : ∀ (cs : List Codec) (a : Codec.denoteAll cs), plWs (Codec.encAll cs a) = true
  | [], _ => rfl
  | c :: cs, a => by
    show (plW (c.enc a.1) && plWs (Codec.encAll cs a.2)) = true
    rw [pl_enc c a.1, pl_encAll cs a.2] <;> rfl
theorem weight_mem : ∀ {xs : List WData} {d : WData}, d ∈ xs → d.weight ≤ WData.weightAll xs
  | [], d, h => absurd h (by simp)
  | x :: r, d, h => by
    show d.weight ≤ x.weight + 1 + WData.weightAll r
    rcases List.mem_cons.mp h with e | m
    · rw [e]
      omega
    · have z := weight_mem m
      omega
def toV : Value → V
  | .none => .non
  | .bool b => .bl b
  | .int i _ => .int i
  | .str x _ => .str x
  | .bytes b _ => .byt b
  | .ref a => .ref a
  | _ => .non
/-- a value of the arguments, its objects among A -/
def OkU (A : List Addr) : Value → Prop
  | .none => True
  | .bool _ => True
  | .int _ _ => True
  | .str _ _ => True
  | .bytes _ _ => True
  | .ref a => a ∈ A
  | _ => False
theorem OkU.mono {A B : List Addr} (h : ∀ a ∈ A, a ∈ B) : ∀ {u : Value}, OkU A u → OkU B u := fun {u} x => by
  cases u with
  | ref a => exact h a x
  | none => trivial
  | bool b => trivial
  | int i t => trivial
  | str s t => trivial
  | bytes b t => trivial
  | _ => exact False.elim x
theorem relV_toV {A : List Addr} {u : Value} (x : OkU A u) : RelV (toV u) u := by
  cases u with
  | ref a => rfl
  | none => rfl
  | bool b => rfl
  | int i t => exact ⟨t, rfl⟩
  | str s t => exact ⟨t, rfl⟩
  | bytes b t => exact ⟨t, rfl⟩
  | _ => exact False.elim x
theorem vals_toV {A : List Addr} : ∀ {vs : List Value}, (∀ u ∈ vs, OkU A u) → Vals (vs.map toV) vs
  | [], _ => .nil
  | u :: r, h => .cons (relV_toV (h u (List.mem_cons_self ..))) (vals_toV fun x hx => h x (List.mem_cons_of_mem _ hx))
/-- an object of the arguments -/
def ArgOb (h : Heap) (A : List Addr) (a : Addr) : Prop := ∃ vs : List Value, vs.length ≤ sizeLine ∧ (∀ u ∈ vs, OkU A u) ∧
  (h.get? a = some { cls := .type "list", data := .seq vs.toArray } ∨ h.get? a = some { cls := .type "tuple", data := .seq vs.toArray })
theorem ArgOb.mono {h : Heap} {A B : List Addr} {a : Addr} (k : ∀ a ∈ A, a ∈ B) (x : ArgOb h A a) : ArgOb h B a := by
  obtain ⟨vs, h1, h2, h3⟩ := x
  exact ⟨vs, h1, fun u hu => (h2 u hu).mono k, h3⟩
theorem wellAll_len {P : Params} {h : Heap} : ∀ {vs : List Value} {ds : List WData}, WellAll P h vs ds → vs.length = ds.length
  | _, _, .nil => rfl
  | _, _, .cons _ b => by
    show _ + 1 = _ + 1
    rw [wellAll_len b]
theorem well_list {P : Params} {h : Heap} {v : Value} {ds : List WData} (x : Well P h v (.list ds)) : ∃ (a : Addr) (vs : List Value), v = .ref a ∧ h.get? a = some { cls := .type "list", data := .seq vs.toArray } ∧ WellAll P h vs ds := by
  cases x with
  | list ho hall => exact ⟨_, _, rfl, ho, hall⟩
theorem well_tuple {P : Params} {h : Heap} {v : Value} {ds : List WData} (x : Well P h v (.tuple ds)) : ∃ (a : Addr) (vs : List Value), v = .ref a ∧ h.get? a = some { cls := .type "tuple", data := .seq vs.toArray } ∧ WellAll P h vs ds := by
  cases x with
  | tuple ho hall => exact ⟨_, _, rfl, ho, hall⟩
theorem well_cons {P : Params} {h : Heap} {us : List Value} {d : WData} {ds : List WData} (x : WellAll P h us (d :: ds)) : ∃ (v : Value) (vs : List Value), us = v :: vs ∧ Well P h v d ∧ WellAll P h vs ds := by
  cases x with
  | cons a b => exact ⟨_, _, rfl, a, b⟩
theorem line_of {n : Nat} (h : n ≤ 1048576) : n ≤ sizeLine := Nat.le_trans h (by decide)
section
variable {P : Params} {h : Heap}
mutual
theorem area_one : ∀ (d : WData) (v : Value), Well P h v d → plW d = true → d.weight ≤ 1048576 → ∃ A : List Addr, OkU A v ∧ ∀ a ∈ A, ArgOb h A a
  | .none, _, x, _, _ => by
    cases x
    exact ⟨[], trivial, fun a m => absurd m (by simp)⟩
  | .bool b, _, x, _, _ => by
    cases x
    exact ⟨[], trivial, fun a m => absurd m (by simp)⟩
  | .int i, _, x, _, _ => by
    cases x
    exact ⟨[], trivial, fun a m => absurd m (by simp)⟩
  | .str s, _, x, _, _ => by
    cases x
    exact ⟨[], trivial, fun a m => absurd m (by simp)⟩
  | .bytes b, _, x, _, _ => by
    cases x
    exact ⟨[], trivial, fun a m => absurd m (by simp)⟩
  | .list ds, _, x, p, z => by
    obtain ⟨a, vs, rfl, ho, hall⟩ := well_list x
    have z2 : WData.weightAll ds ≤ 1048576 := z
    obtain ⟨A, h1, h2⟩ := area_all ds _ hall p fun d hd => Nat.le_trans (weight_mem hd) z2
    have k : ∀ b ∈ A, b ∈ a :: A := fun b hb => List.mem_cons_of_mem _ hb
    refine ⟨a :: A, List.mem_cons_self .., fun b hb => ?_⟩
    rcases List.mem_cons.mp hb with e | m
    · rw [e]
      exact ⟨vs, line_of (by rw [wellAll_len hall]; exact Nat.le_trans (PySem.W.length_le_weightAllW ds) z2), fun u hu => (h1 u hu).mono k, .inl ho⟩
    · exact (h2 b m).mono k
  | .tuple ds, _, x, p, z => by
    obtain ⟨a, vs, rfl, ho, hall⟩ := well_tuple x
    have z2 : WData.weightAll ds ≤ 1048576 := z
    obtain ⟨A, h1, h2⟩ := area_all ds _ hall p fun d hd => Nat.le_trans (weight_mem hd) z2
    have k : ∀ b ∈ A, b ∈ a :: A := fun b hb => List.mem_cons_of_mem _ hb
    refine ⟨a :: A, List.mem_cons_self .., fun b hb => ?_⟩
    rcases List.mem_cons.mp hb with e | m
    · rw [e]
      exact ⟨vs, line_of (by rw [wellAll_len hall]; exact Nat.le_trans (PySem.W.length_le_weightAllW ds) z2), fun u hu => (h1 u hu).mono k, .inr ho⟩
    · exact (h2 b m).mono k
  | .float _, _, _, p, _ => Bool.noConfusion (show false = true from p)
  | .dict _, _, _, p, _ => Bool.noConfusion (show false = true from p)
  | .bytearray _, _, _, p, _ => Bool.noConfusion (show false = true from p)
  | .set _, _, _, p, _ => Bool.noConfusion (show false = true from p)
  | .frozenset _, _, _, p, _ => Bool.noConfusion (show false = true from p)
  | .obj _ _, _, _, p, _ => Bool.noConfusion (show false = true from p)
theorem area_all : ∀ (ds : List WData) (vs : List Value), WellAll P h vs ds → plWs ds = true → (∀ d ∈ ds, d.weight ≤ 1048576) → ∃ A : List Addr, (∀ u ∈ vs, OkU A u) ∧ ∀ a ∈ A, ArgOb h A a
  | [], _, x, _, _ => by
    cases x
    exact ⟨[], fun u m => absurd m (by simp), fun a m => absurd m (by simp)⟩
  | d :: ds, _, x, p, z => by
    obtain ⟨v, vs, rfl, x1, x2⟩ := well_cons x
    have q : plW d = true ∧ plWs ds = true := Bool.and_eq_true_iff.mp p
    obtain ⟨A, a1, a2⟩ := area_one d v x1 q.1 (z d (List.mem_cons_self ..))
    obtain ⟨B, b1, b2⟩ := area_all ds vs x2 q.2 fun e he => z e (List.mem_cons_of_mem _ he)
    have kA : ∀ b ∈ A, b ∈ A ++ B := fun b hb => List.mem_append.mpr (.inl hb)
    have kB : ∀ b ∈ B, b ∈ A ++ B := fun b hb => List.mem_append.mpr (.inr hb)
    refine ⟨A ++ B, fun u hu => ?_, fun b hb => ?_⟩
    · rcases List.mem_cons.mp hu with e | m
      · rw [e]
        exact a1.mono kA
      · exact (b1 u m).mono kB
    · rcases List.mem_append.mp hb with m | m
      · exact (a2 b m).mono kA
      · exact (b2 b m).mono kB
end
end
/-- what is tracked of an argument's object -/
def hoOf (o : Obj) : Option HO := match o.data with
  | .seq vs _ => if (o.cls == Value.type "list") = true then some (.frz o (.lst (vs.toList.map toV))) else some (.frz o (.tup (vs.toList.map toV)))
  | _ => none
def argH (K : PySem.W.Frag) (h : Heap) (A : List Addr) : Hp := fun b => if b ∈ A then (if (K.lookup b).isNone = true then (h.get? b).bind hoOf else none) else none
/-- nothing is tracked but what is known to the object -/
def OnlyF (H : Hp) : Prop := ∀ b, H b = none ∨ ∃ o u, H b = some (.frz o u)
theorem hoOf_lst (vs : List Value) : hoOf { cls := .type "list", data := .seq vs.toArray } = some (.frz { cls := .type "list", data := .seq vs.toArray } (.lst (vs.map toV))) := by
  show (if (Value.type "list" == Value.type "list") = true then some (HO.frz { cls := .type "list", data := .seq vs.toArray } (.lst (vs.toArray.toList.map toV))) else some (HO.frz { cls := .type "list", data := .seq vs.toArray } (.tup (vs.toArray.toList.map toV)))) = _
  rw [if_pos (beq_self_eq_true _)]
theorem hoOf_tup (vs : List Value) : hoOf { cls := .type "tuple", data := .seq vs.toArray } = some (.frz { cls := .type "tuple", data := .seq vs.toArray } (.tup (vs.map toV))) := by
  show (if (Value.type "tuple" == Value.type "list") = true then some (HO.frz { cls := .type "tuple", data := .seq vs.toArray } (.lst (vs.toArray.toList.map toV))) else some (HO.frz { cls := .type "tuple", data := .seq vs.toArray } (.tup (vs.toArray.toList.map toV)))) = _
  rw [if_neg (by decide)]
section
variable {P : Program} {w : World} {K : PySem.W.Frag} {h : Heap} {A : List Addr}
theorem argH_at {b : Addr} {o : Obj} (hb : b ∈ A) (hk : K.lookup b = none) (e : h.get? b = some o) : argH K h A b = hoOf o := by
  unfold argH
  rw [if_pos hb, hk, if_pos (show (none : Option Obj).isNone = true from rfl), e] <;> rfl
theorem of_argH {b : Addr} {u : HO} (q : argH K h A b = some u) : b ∈ A ∧ K.lookup b = none := by
  unfold argH at q
  by_cases hb : b ∈ A
  · rw [if_pos hb] at q
    cases hk : K.lookup b with
    | none => exact ⟨hb, rfl⟩
    | some o =>
      rw [hk, if_neg (by simp)] at q
      cases q
  · rw [if_neg hb] at q
    cases q
/-- what stands tracked -/
theorem argH_is (ar : ∀ a ∈ A, ArgOb h A a) {b : Addr} {u : HO} (q : argH K h A b = some u) : K.lookup b = none ∧ ∃ vs : List Value, vs.length ≤ sizeLine ∧ (∀ u ∈ vs, OkU A u) ∧
    ((h.get? b = some { cls := .type "list", data := .seq vs.toArray } ∧ u = .frz { cls := .type "list", data := .seq vs.toArray } (.lst (vs.map toV))) ∨
     (h.get? b = some { cls := .type "tuple", data := .seq vs.toArray } ∧ u = .frz { cls := .type "tuple", data := .seq vs.toArray } (.tup (vs.map toV)))) := by
  obtain ⟨hb, hk⟩ := of_argH q
  obtain ⟨vs, h1, h2, h3⟩ := ar b hb
  refine ⟨hk, vs, h1, h2, ?_⟩
  rcases h3 with e | e
  · rw [argH_at hb hk e, hoOf_lst] at q
    exact .inl ⟨e, (Option.some.inj q).symm⟩
  · rw [argH_at hb hk e, hoOf_tup] at q
    exact .inr ⟨e, (Option.some.inj q).symm⟩
theorem argH_only (ar : ∀ a ∈ A, ArgOb h A a) : OnlyF (argH K h A) := fun b => by
  cases q : argH K h A b with
  | none => exact .inl rfl
  | some u =>
    obtain ⟨_, vs, _, _, ⟨_, e⟩ | ⟨_, e⟩⟩ := argH_is ar q
    · exact .inr ⟨_, _, by rw [e]⟩
    · exact .inr ⟨_, _, by rw [e]⟩
theorem argH_ok (ar : ∀ a ∈ A, ArgOb h A a) : HOk P w (argH K h A) h := fun b u q => by
  obtain ⟨_, vs, h1, h2, ⟨e, rfl⟩ | ⟨e, rfl⟩⟩ := argH_is ar q
  · exact ⟨e, by rw [List.length_map]; exact h1, vs, _, vals_toV h2, e⟩
  · exact ⟨e, by rw [List.length_map]; exact h1, vs, vals_toV h2, _, e, rfl, _, rfl⟩
theorem seq_inj {c c' : Value} {vs us : List Value} (e : (some { cls := c, data := .seq vs.toArray } : Option Obj) = some { cls := c', data := .seq us.toArray }) : c = c' ∧ vs = us := by
  have e1 := Option.some.inj e
  have e2 : c = c' := congrArg Obj.cls e1
  have e3 : Data.seq vs.toArray = Data.seq us.toArray := congrArg Obj.data e1
  injection e3 with e4
  refine ⟨e2, ?_⟩
  have e5 := congrArg Array.toList e4
  simpa using e5
/-- a list argument -/
theorem argL (KX : K.In h) (ar : ∀ a ∈ A, ArgOb h A a) {a : Addr} {vs : List Value} (ha : a ∈ A) (e : h.get? a = some { cls := .type "list", data := .seq vs.toArray }) : (∀ u ∈ vs, OkU A u) ∧ SqL K (argH K h A) a (vs.map toV) := by
  obtain ⟨us, h1, h2, h3⟩ := ar a ha
  have hu : us = vs := by
    rcases h3 with q | q
    · rw [e] at q
      exact (seq_inj q).2.symm
    · rw [e] at q
      exact absurd (Value.type.inj (seq_inj q).1) (by decide)
  subst hu
  refine ⟨h2, ?_⟩
  cases hk : K.lookup a with
  | none => exact .inl (.inr ⟨_, by rw [argH_at ha hk e, hoOf_lst]⟩)
  | some o =>
    have e2 := KX a o hk
    rw [e] at e2
    obtain rfl := Option.some.inj e2
    exact .inr ⟨_, us.toArray, _, hk, rfl, rfl, rfl, by rw [List.size_toArray]; exact h1, by simpa using vals_toV h2⟩
theorem argT (KX : K.In h) (ar : ∀ a ∈ A, ArgOb h A a) {a : Addr} {vs : List Value} (ha : a ∈ A) (e : h.get? a = some { cls := .type "tuple", data := .seq vs.toArray }) : (∀ u ∈ vs, OkU A u) ∧ SqT K (argH K h A) a (vs.map toV) := by
  obtain ⟨us, h1, h2, h3⟩ := ar a ha
  have hu : us = vs := by
    rcases h3 with q | q
    · rw [e] at q
      exact absurd (Value.type.inj (seq_inj q).1) (by decide)
    · rw [e] at q
      exact (seq_inj q).2.symm
  subst hu
  refine ⟨h2, ?_⟩
  cases hk : K.lookup a with
  | none => exact .inl (.inr ⟨_, by rw [argH_at ha hk e, hoOf_tup]⟩)
  | some o =>
    have e2 := KX a o hk
    rw [e] at e2
    obtain rfl := Option.some.inj e2
    exact .inr ⟨_, us.toArray, _, hk, rfl, rfl, by rw [List.size_toArray]; exact h1, by simpa using vals_toV h2⟩
mutual
theorem dw_one {Pm : Params} (KX : K.In h) (ar : ∀ a ∈ A, ArgOb h A a) : ∀ (d : WData) (v : Value), Well Pm h v d → plW d = true → OkU A v → Dw K (argH K h A) (toV v) d
  | .none, _, x, _, _ => by
    cases x
    exact .non
  | .bool b, _, x, _, _ => by
    cases x
    exact .bl b
  | .int i, _, x, _, _ => by
    cases x
    exact .int i
  | .str s, _, x, _, _ => by
    cases x
    exact .str s
  | .bytes b, _, x, _, _ => by
    cases x
    have z := Dw.byt (K := K) (H := argH K h A) b.toArray
    exact z
  | .list ds, _, x, p, hu => by
    obtain ⟨a, vs, rfl, ho, hall⟩ := well_list x
    obtain ⟨h2, hs⟩ := argL KX ar hu ho
    exact .lst hs (dw_all KX ar ds _ hall p h2)
  | .tuple ds, _, x, p, hu => by
    obtain ⟨a, vs, rfl, ho, hall⟩ := well_tuple x
    obtain ⟨h2, hs⟩ := argT KX ar hu ho
    exact .tup hs (dw_all KX ar ds _ hall p h2)
  | .float _, _, _, p, _ => Bool.noConfusion (show false = true from p)
  | .dict _, _, _, p, _ => Bool.noConfusion (show false = true from p)
  | .bytearray _, _, _, p, _ => Bool.noConfusion (show false = true from p)
  | .set _, _, _, p, _ => Bool.noConfusion (show false = true from p)
  | .frozenset _, _, _, p, _ => Bool.noConfusion (show false = true from p)
  | .obj _ _, _, _, p, _ => Bool.noConfusion (show false = true from p)
theorem dw_all {Pm : Params} (KX : K.In h) (ar : ∀ a ∈ A, ArgOb h A a) : ∀ (ds : List WData) (vs : List Value), WellAll Pm h vs ds → plWs ds = true → (∀ u ∈ vs, OkU A u) → DwAll K (argH K h A) (vs.map toV) ds
  | [], _, x, _, _ => by
    cases x
    exact .nil
  | d :: ds, _, x, p, hu => by
    obtain ⟨v, vs, rfl, x1, x2⟩ := well_cons x
    have q : plW d = true ∧ plWs ds = true := Bool.and_eq_true_iff.mp p
    exact .cons (dw_one KX ar d v x1 q.1 (hu _ (List.mem_cons_self ..))) (dw_all KX ar ds vs x2 q.2 fun u m => hu u (List.mem_cons_of_mem _ m))
end
end
/-! ### the call -/
theorem spec_call {cm : Bool} {P : Program} {w : World} {K : PySem.W.Frag} {mg mb : Str → Option Value} {CX : CXT} {k : Nat} {fa : Addr} {fd : FuncData} {ps : List Str} {sp : Sp} {s₁ : Shared} {vals : List Value} {ds : List WData} {R : PySem.W.WRecords} {cl : Str → Option Addr} {d0 : WData}
    (KX : K.In s₁.heap) (hns : s₁.heap.Ns mainGlobals mg) (hb : s₁.heap.Ns builtinsNs mb) (hbb : ∀ x : Str, x ≠ "__name__" → mb x = bootBuiltins x) (hlim : s₁.heap.NoLimit) (hg : s₁.gens = #[])
    (hwl : WellAll w.params s₁.heap vals ds) (hpl : plWs ds = true) (hwt : ∀ d ∈ ds, d.weight ≤ 1048576) (hr : Room cm k callerA)
    (F : ∀ base : Heap, K.In base → base.Ns mainGlobals mg → FnOk P w K mg base CX cm k fa fd ps sp) (hbind : ∀ (s : Shared) (us : List Value), us.length = ps.length → BindsTo s fd ⟨us, []⟩ (ps.zip us)) (hlen : ds.length = ps.length)
    (hsp : ∀ (H : Hp) (xs : List V), OnlyF H → DwAll K H xs ds → sp xs H (fun v H' => Dw K H' v d0) fun _ _ _ => False)
    (hCX : ∀ H e s', CX [] H s₁ (fun _ _ _ => False) e s' → False) :
    codeAny (model P w) callerA (.call (.ref fa) ⟨vals, []⟩) (fun r s' => ∃ u as, r = .ok (.ret u) ∧ ReadsW R cl s'.heap u d0 as ∧ OldK s₁.heap s'.heap ∧ s'.os = s₁.os ∧ AllBare s'.gens) s₁ := by
  obtain ⟨A, ho, ar⟩ := area_all ds vals hwl hpl hwt
  have hO : OnlyF (argH K s₁.heap A) := argH_only ar
  have hok : HOk P w (argH K s₁.heap A) s₁.heap := argH_ok ar
  have hS := dw_all KX ar ds vals hwl hpl ho
  have hV := vals_toV ho
  have hK : ∀ b u, argH K s₁.heap A b = some u → K.lookup b = none := fun b u q => (argH_is ar q).1
  have noA : ∀ {b : Addr} {o : Obj} {es : Array DictEntry} {ep : Nat}, s₁.heap.get? b = some o → o.data = .dict es ep → argH K s₁.heap A b = none := fun {b o es ep} e d => by
    cases q : argH K s₁.heap A b with
    | none => rfl
    | some u =>
      obtain ⟨_, vs, _, _, ⟨e2, _⟩ | ⟨e2, _⟩⟩ := argH_is ar q
      · rw [e2] at e
        cases e
        have d' : Data.seq vs.toArray _ = Data.dict es ep := d
        cases d'
      · rw [e2] at e
        cases e
        have d' : Data.seq vs.toArray _ = Data.dict es ep := d
        cases d'
  generalize argH K s₁.heap A = H at hO hok hS hK noA
  have base_of : ∀ {b : Addr} {o : Obj}, s₁.heap.get? b = some o → H b = none → (hidT s₁.heap H).get? b = some o := fun e n => hidT_get e n
  have nsK : ∀ {b : Addr} {m : Str → Option Value}, s₁.heap.Ns b m → (hidT s₁.heap H).Ns b m := fun {b m} ⟨o, es, ep, e, d, r⟩ => ⟨o, es, ep, base_of e (noA e d), d, r⟩
  have nK : ∀ b o, K.lookup b = some o → H b = none := fun b o e => by
    cases q : H b with
    | none => rfl
    | some u =>
      rw [hK b u q] at e
      cases e
  have hKb : K.In (hidT s₁.heap H) := fun b o e => base_of (KX b o e) (nK b o e)
  have hM : Mod K mg (hidT s₁.heap H) := ⟨hKb, nsK hns, ⟨mb, nsK hb, hbb⟩, let ⟨mc, h1, h2⟩ := hlim; ⟨mc, nsK h1, h2⟩⟩
  have e0 : Env0 P w K mg (hidT s₁.heap H) callerA [] s₁ H := ⟨rfl, hM, fun b o e => of_hidT e, Nat.le_of_eq (hidT_size _ _), trivial, fun b hb => absurd (show b ∈ ([] : List Addr) from hb) (by simp), hok, .of_eq hg⟩
  have hl : vals.length = ps.length := by rw [wellAll_len hwl]; exact hlen
  refine codeAny_mono ((F _ hKb (nsK hns)).run callerA [] s₁ H ⟨vals, []⟩ vals (vals.map toV) _ _ hr e0 (hbind s₁ vals hl) hV (hsp H _ hO hS)) fun r s' x => ?_
  cases r with
  | error e => exact (hCX H e s' x).elim
  | ok fl =>
    cases fl with
    | next => exact False.elim x
    | brk => exact False.elim x
    | cont => exact False.elim x
    | ret u =>
      obtain ⟨v, H', os, bare, un, hok', r', q⟩ := x
      have kept : ∀ b o, s₁.heap.get? b = some o → s'.heap.get? b = some o := fun b o e => by
        cases q2 : H b with
        | none => exact un.keep b o e q2 (by intro z; exact absurd (show b ∈ ([] : List Addr) from z) (by simp)) (by simp)
        | some u2 =>
          rcases hO b with z | ⟨ob, u3, z⟩
          · rw [q2] at z
            cases z
          · have z2 := un.frzs b ob _ z
            obtain ⟨e1, _⟩ := hok b _ z
            obtain ⟨e2, _⟩ := hok' b _ z2
            rw [e] at e1
            cases e1
            exact e2
      have KX' : K.In s'.heap := fun b o e => kept b o (KX b o e)
      obtain ⟨as, hrd⟩ := Dw.reads (R := R) (cl := cl) hok' KX' d0 v u q r'
      exact ⟨u, as, rfl, hrd, OldK.of_keep kept, os, bare⟩
/-! ### the row -/
theorem layable_weight {ds : List WData} (h : WData.layableAll ds = true) : ∀ d ∈ ds, d.weight ≤ 1048576 := fun d hd =>
  (PySem.W.layableW_iff.mp (List.all_eq_true.mp h d hd)).2.2
theorem encAll_len : ∀ (cs : List Codec) (a : Codec.denoteAll cs), (Codec.encAll cs a).length = cs.length
  | [], _ => rfl
  | c :: cs, a => by
    show (Codec.encAll cs a.2).length + 1 = cs.length + 1
    rw [encAll_len cs a.2]
/-- the goal that k_headS leaves (case hc), from the promise of the row's def: whatever the arguments that the codecs let and the row asks for, the def gives what stands for enc (f ..) -/
theorem walk_spec {cm : Bool} {r : OpenSpec} {k : Nat} {q : Program} {loose : List Str} {XP : (Str → Option Value) → Heap → Prop} {YP : World → Heap → Prop} {d : DefRec} {K : Params → PySem.W.Frag} {CX : World → CXT} {ps : List Str} {sp : World → Sp}
    (hwell : r.wellSaid = true) (hdf : d.params.defaults = []) (hlen : r.args.length = ps.length) (hr : Room cm k callerA)
    (hY : ∀ (w : World) (h : Heap), YP w h → (K w.params).In h)
    (F : ∀ (w : World) (mg : Str → Option Value) (fa : Addr) (h : Heap), YP w h → (K w.params).In h → h.Ns mainGlobals mg → mg d.name = some (.ref fa) →
      ∃ fd : FuncData, (∀ (s : Shared) (us : List Value), us.length = ps.length → BindsTo s fd ⟨us, []⟩ (ps.zip us)) ∧
        ∀ base : Heap, (K w.params).In base → base.Ns mainGlobals mg → FnOk r.prog w (K w.params) mg base (CX w) cm k fa fd ps (sp w))
    (hsp : ∀ (w : World) (H : Hp) (xs : List V) (a : Codec.denoteAll r.args), OnlyF H → Codec.withinAll r.args a = true → Codec.app r.args r.asked a = true → DwAll (K w.params) H xs (Codec.encAll r.args a) →
      sp w xs H (fun v H' => Dw (K w.params) H' v (r.ret.enc (Codec.app r.args r.f a))) fun _ _ _ => False)
    (hCX : ∀ (w : World) (H : Hp) (s : Shared) (e : Value) (s' : Shared), CX w [] H s (fun _ _ _ => False) e s' → False) :
    PySem.W.WalkOS q loose XP YP r d [] (fun f vs => PySem.call f vs) := by
  intro w s_0 s₁ mg mb G Y fa o pm cd doc dV kV ho hd hcd hD hmg hg args vals as hpre hlay hrd hwl hlo
  obtain ⟨a, e1, e2⟩ := PySem.W.os_pre_some hpre
  obtain ⟨e3, hwi⟩ := Codec.encAll_of_decAll r.args args a e1
  subst e3
  have KX := hY w _ Y
  obtain ⟨fd, hb, hF⟩ := F w mg fa _ Y KX G.T.g hmg
  refine PySem.W.enter_call (codeAny_mono (spec_call (R := []) (cl := classAt s_0.heap) (d0 := r.ret.enc (Codec.app r.args r.f a)) KX G.T.g G.T.b G.T.builtins G.T.nolimit hg hwl (pl_encAll _ _) (layable_weight hlay) hr hF hb (by rw [encAll_len]; exact hlen)
    (fun H xs hO hS => hsp w H xs a hO hwi e2 hS) fun H e s' => hCX w H s₁ e s') fun r' s' hq => ?_)
  obtain ⟨u, as', rfl, h1, h2, h3, h4⟩ := hq
  exact ⟨.inl ⟨u, _, as', rfl, fun _ => rfl, h1, (OpenSpec.post_iff hwell hwi _ _).mpr rfl, fun z => Bool.noConfusion (show false = true from z)⟩, h2, h3, h4⟩
end L2
end
section
set_option Elab.async false
set_option linter.all false
set_option maxRecDepth 100000
set_option maxHeartbeats 4000000
/-! Errors of the text's own classes, over the hand layer. -/
namespace L2
open PySem PySem.Spec PyProof.Rows

/-- the record of an error of the class C: its own dict, what stands in its fields 1 (the trace) and 2 (the error that was being handled; fr: none) -/
def xP (C : Addr) (fr : Bool) (dx : Option Addr) (tb : Value) (a : Addr) (h : Heap) : Prop :=
  ∃ vs sl, h.get? a = some ⟨.ref C, dx, .fields vs, sl⟩ ∧ vs.size = 6 ∧ vs[1]? = some tb ∧ (fr = true → vs[2]? = some .none)
def xO (C : Addr) (fr : Bool) (dx : Option Addr) (tb : Value) (a : Addr) : HO := .ext (xP C fr dx tb a)
/-- the record of a trace -/
def tP (fl : Value) (a : Addr) (h : Heap) : Prop := ∃ o ts, h.get? a = some o ∧ o.data = .fields ts ∧ ts[3]? = some fl
def tO (fl : Value) (a : Addr) : HO := .ext (tP fl a)
/-- an error that flies -/
def Live (H : Hp) (a C : Addr) (fr : Bool) (dx : Option Addr) : Prop :=
  H a = some (xO C fr dx .none a) ∨ ∃ T fl, T ≠ a ∧ H a = some (xO C fr dx (.ref T) a) ∧ H T = some (tO fl T)
/-- .. that has a trace -/
def LiveT (H : Hp) (a C : Addr) (fr : Bool) (dx : Option Addr) (fl : Value) : Prop := ∃ T, T ≠ a ∧ H a = some (xO C fr dx (.ref T) a) ∧ H T = some (tO fl T)
theorem LiveT.live {H : Hp} {a C : Addr} {fr : Bool} {dx : Option Addr} {fl : Value} (l : LiveT H a C fr dx fl) : Live H a C fr dx := let ⟨T, h⟩ := l; .inr ⟨T, fl, h⟩
/-- the heap without such records -/
def mask (H : Hp) : Hp := fun b => match H b with
  | some (.ext _) => none
  | o => o
theorem mask_ext {H : Hp} {a : Addr} {φ ψ : Heap → Prop} (h : H a = some (.ext φ) ∨ H a = none) : mask (upd H a (.ext ψ)) = mask H := by
  funext b
  unfold mask upd
  by_cases e : b = a
  · subst e
    rw [if_pos rfl]
    rcases h with h | h <;> rw [h]
  · rw [if_neg e]
theorem mask_some {H : Hp} {b : Addr} {o : HO} (h : mask H b = some o) : H b = some o := by
  unfold mask at h
  split at h
  · cases h
  · exact h
theorem mask_of {H : Hp} {b : Addr} {o : HO} (h : H b = some o) (n : ∀ φ, o ≠ .ext φ) : mask H b = some o := by
  unfold mask
  split
  · rename_i φ e
    rw [h] at e
    exact absurd (Option.some.inj e) (n φ)
  · exact h
section
variable {P : Program} {w : World} {H : Hp} {h h' : Heap} {a C : Addr} {fr : Bool} {dx : Option Addr} {tb fl : Value}
theorem xP_stay (h1 h2 : Heap) (p : xP C fr dx tb a h1) (k : ∀ o, h1.get? a = some o → h2.get? a = some o) : xP C fr dx tb a h2 :=
  let ⟨vs, sl, e, r⟩ := p; ⟨vs, sl, k _ e, r⟩
theorem tP_stay (h1 h2 : Heap) (p : tP fl a h1) (k : ∀ o, h1.get? a = some o → h2.get? a = some o) : tP fl a h2 :=
  let ⟨o, ts, e, r⟩ := p; ⟨o, ts, k _ e, r⟩
theorem xO_ok (p : xP C fr dx tb a h) : ObjOk P w H h a (xO C fr dx tb a) := ⟨p, let ⟨_, _, e, _⟩ := p; ⟨_, e⟩, xP_stay⟩
theorem tO_ok (p : tP fl a h) : ObjOk P w H h a (tO fl a) := ⟨p, let ⟨_, _, e, _⟩ := p; ⟨_, e⟩, tP_stay⟩
theorem mut_xO : Mut (some (xO C fr dx tb a)) := True.intro
theorem mut_tO : Mut (some (tO fl a)) := True.intro
end

section
variable {X : Cx} {pins : List (Addr × Obj)} {σ : List (Option V)} {H H' : Hp} {s : Shared} {h' : Heap} {a C : Addr} {fr : Bool} {dx : Option Addr} {tb fl : Value}
theorem Inv.xo (I : Inv X pins σ H s) (e : H a = some (xO C fr dx tb a)) : xP C fr dx tb a s.heap := (I.hok a _ e).1
theorem Inv.to (I : Inv X pins σ H s) (e : H a = some (tO fl a)) : tP fl a s.heap := (I.hok a _ e).1
/-- tracked objects kept: the heap is held -/
theorem hok_part {P : Program} {w : World} {h : Heap} (x : HOk P w H h) (k : ∀ b u, (∃ o, H b = some o) → h.get? b = some u → h'.get? b = some u) : HOk P w H h' := fun b u e =>
  (x b u e).stay (fun c v hc q => k c v (by
    rcases hc with z | z
    · exact ⟨u, by rw [z]; exact e⟩
    · exact ⟨_, z⟩) q) (fun _ q => q) fun _ _ q => q
/-- the frames' slots have changed -/
theorem Inv.slots (I : Inv X pins σ H s) (hs : Heap.SlotsOnly (frs X.stack) s.heap h') : Inv X pins σ H { s with heap := h' } := by
  have fr0 : ∀ b, (∃ o, H b = some o) → b ∉ frs X.stack := fun b ⟨o, e⟩ z => by
    rw [I.stkFree b z] at e
    cases e
  refine I.call (g' := s.gens) (d' := s.drawn) (t' := s.toks) (ch := []) ⟨fun b o e _ hb _ => (hs.2.1 b hb).trans e, fun b o e _ _ _ => hs.2.2 b o e, fun b o _ n _ => n, fun b o e _ => ?_, fun _ _ q => q, fun _ _ _ q => q, fun _ ps q => ⟨#[], by rw [q]; simp⟩⟩
    (hok_part I.hok fun b u hb e => (hs.2.1 b (fr0 b hb)).trans e) I.bare (fun b z => absurd z (by simp))
  obtain ⟨sl, e'⟩ := hs.2.2 b o e
  exact ⟨_, e'⟩
/-- a record's field is set -/
theorem get_upd {h : Heap} {o : Obj} {vs : Array Value} {i : Nat} {x : Value} (e : h.get? a = some o) (d : o.data = .fields vs) : (h.update a (Obj.mapFields (·.setIfInBounds i x))).get? a = some { o with data := .fields (vs.setIfInBounds i x) } := by
  obtain ⟨c, dd, dt, sl⟩ := o
  obtain rfl : dt = .fields vs := d
  exact Heap.get?_update_self _ e rfl
end
end L2
end
section
set_option Elab.async false
set_option linter.all false
set_option maxRecDepth 100000
set_option maxHeartbeats 4000000
namespace L2
open PySem PySem.Spec PyProof.Rows
section
variable {X : Cx} {pins : List (Addr × Obj)} {σ : List (Option V)} {H H' : Hp} {s : Shared} {h' : Heap} {a C : Addr} {fr : Bool} {dx : Option Addr} {tb fl : Value} {M : Model} {A : Around} {E : Value → Shared → Prop}
/-- the flight's mark is set -/
theorem fly_ok {fo : Option Addr} {Q : Unit → Shared → Prop} (I : Inv X pins σ H s) (l : LiveT H a C fr dx fl)
    (h : ∀ H' s', Inv X pins σ H' s' → mask H' = mask H → LiveT H' a C fr dx (fo.elim .none fun f => rawInt f) → Q () s') :
    wpAny M A (setFlight (.ref a) fo) Q E s := by
  obtain ⟨T, hT, e1, e2⟩ := l
  obtain ⟨vs, sl, g1, sz, v1, v2⟩ := Inv.xo I e1
  obtain ⟨o, ts, g2, d2, t3⟩ := Inv.to I e2
  have hsz : 3 < ts.size := (Array.getElem?_eq_some_iff.mp t3).1
  unfold setFlight
  refine wpAny_bind (wpAny_field g1 rfl v1 ?_)
  rw [if_pos (show (Value.ref T != Value.none) = true from by simp)]
  refine wpAny_setField g2 d2 hsz ?_
  have mu : Mut (H T) := by rw [e2]; exact mut_tO
  have g3 := get_upd (i := 3) (x := fo.elim Value.none fun f => rawInt f) g2 d2
  refine h (upd H T (tO _ T)) _ (I.write (x := T) (e := T) (t' := s.toks) mu (.inl rfl) (fun b u hb q => ?_) ⟨_, g3⟩ (tO_ok ⟨_, _, g3, rfl, by simp [hsz]⟩)) (mask_ext (φ := tP fl T) (.inl e2)) ⟨T, hT, ?_, upd_same⟩
  · rw [Heap.get?_update_other _ _ (Ne.symm hb)]
    exact q
  · rw [upd_ne (Ne.symm hT)]
    exact e1
/-- the running frame's object, asked by a block of it -/
theorem frame_of {base : Heap} {env env0 : Env} {rest : List Env} {L : Addr} {Q : Value → Shared → Prop} (hfr : A.frames = some (env0 :: rest)) (hl : s.heap.FunFrames base (env0 :: rest)) (hf0 : env0.frame = some L) (hf : env.frame = some L)
    (h : ∀ h1, Heap.SlotsOnly ((env0 :: rest).filterMap (·.frame)) s.heap h1 → Q (.ref L) { s with heap := h1 }) : wpAny M A (PySem.frameOf env) Q E s := by
  unfold PySem.frameOf
  refine wpAny_bind (wpAny_frameEnvs hfr ?_)
  have dw : ((env0 :: rest).dropWhile fun x => x.frame != env.frame) = env0 :: rest := by simp [List.dropWhile, hf, hf0]
  rw [dw]
  unfold frameObject
  refine wpAny_bind (wpAny_bind (wpAny_readyFrames_fun hl fun h1 hs1 => wpAny_pure ?_))
  rw [hf0]
  exact wpAny_pure (h h1 hs1)
/-- a new trace entry is laid ahead of an error's trace -/
theorem entry_ok {head : Value} {b : Bool} {L : Addr} {env env0 : Env} {rest : List Env} {Q : Unit → Shared → Prop} (I : Inv X pins σ H s) (hfr : A.frames = some X.stack) (hst : X.stack = env0 :: rest) (hf0 : env0.frame = some L) (hf : env.frame = some L) (e1 : H a = some (xO C fr dx tb a))
    (h : ∀ H' s', Inv X pins σ H' s' → mask H' = mask H → LiveT H' a C fr dx (rawInt L) → Q () s') :
    wpAny M A (do let z ← PySem.frameOf env; let pl ← entryPlaceOf L b; let y ← EntryCells.newEntry head z .none (rawInt L) .none pl; setField (.ref a) 1 y) Q E s := by
  have hl := I.stack
  rw [hst] at hl hfr
  refine wpAny_bind (frame_of hfr hl hf0 hf fun h1 hs1 => ?_)
  have I1 : Inv X pins σ H { s with heap := h1 } := Inv.slots I (by rw [hst]; exact hs1)
  refine wpAny_bind (wpAny_entryPlaceOf fun pl hpl => ?_)
  unfold EntryCells.newEntry newFields
  refine wpAny_bind (wpAny_newObj_type ?_ (hpl.sizeOk5 _ _ _ _ _))
  have gT := Heap.get?_push_size h1 (o := { cls := .type "traceback", dict := none, data := .fields ([head, .ref L, .none, rawInt L, .none] ++ (if pl.isEmpty then List.replicate 6 Value.none else pl)).toArray }) rfl
  have hn : H h1.objs.size = none := I1.hok.fresh (Nat.le_refl _)
  have I2 := I1.laid (t' := s.toks) (a := h1.objs.size) (o := tO (rawInt L) h1.objs.size) (fun b u e => Heap.get?_push_of_some _ e) (Nat.le_refl _)
    (tO_ok ⟨_, _, gT, rfl, by simp⟩)
  have ne : a ≠ h1.objs.size := ne_of_none e1 hn
  have e2 : upd H h1.objs.size (tO (rawInt L) h1.objs.size) a = some (xO C fr dx tb a) := by
    rw [upd_ne ne]
    exact e1
  obtain ⟨vs, sl, g1, sz, v1, v2⟩ := Inv.xo I2 e2
  refine wpAny_setField g1 rfl (by omega) ?_
  have mu : Mut (upd H h1.objs.size (tO (rawInt L) h1.objs.size) a) := by rw [e2]; exact mut_xO
  have g3 := get_upd (i := 1) (x := Value.ref h1.objs.size) g1 rfl
  refine h (upd (upd H h1.objs.size (tO (rawInt L) h1.objs.size)) a (xO C fr dx (.ref h1.objs.size) a)) _
    (I2.write (x := a) (e := a) (t' := s.toks) mu (.inl rfl) (fun b u hb q => ?_) ⟨_, g3⟩ (xO_ok ⟨_, sl, g3, by simp [sz], by simp [sz], fun z => ?_⟩))
    ((mask_ext (φ := xP C fr dx tb a) (.inl e2)).trans (mask_ext (φ := fun _ => True) (.inr hn))) ⟨h1.objs.size, Ne.symm ne, upd_same, ?_⟩
  · rw [Heap.get?_update_other _ _ (Ne.symm hb)]
    exact q
  · rw [Array.getElem?_setIfInBounds_ne (by decide)]
    exact v2 z
  · rw [upd_ne (Ne.symm ne)]
    exact upd_same
/-- a frame notes an error -/
theorem note_ok {L : Addr} {env env0 : Env} {rest : List Env} {Q : Unit → Shared → Prop} (I : Inv X pins σ H s) (hfr : A.frames = some X.stack) (hst : X.stack = env0 :: rest) (hf0 : env0.frame = some L) (hf : env.frame = some L) (l : Live H a C fr dx)
    (h : ∀ H' s', Inv X pins σ H' s' → mask H' = mask H → LiveT H' a C fr dx (rawInt L) → Q () s') :
    wpAny M A (noteFrame (.ref a) env) Q E s := by
  unfold noteFrame
  simp only [hf]
  rcases l with e1 | ⟨T, fl, hT, e1, e2⟩
  · obtain ⟨vs, sl, g1, sz, v1, v2⟩ := Inv.xo I e1
    refine wpAny_bind (wpAny_field g1 rfl v1 ?_)
    rw [if_neg (by decide)]
    exact entry_ok I hfr hst hf0 hf e1 h
  · obtain ⟨vs, sl, g1, sz, v1, v2⟩ := Inv.xo I e1
    obtain ⟨o, ts, g2, d2, t3⟩ := Inv.to I e2
    have hsz : 3 < ts.size := (Array.getElem?_eq_some_iff.mp t3).1
    refine wpAny_bind (wpAny_field g1 rfl v1 ?_)
    rw [if_pos (show (Value.ref T != Value.none) = true from by simp)]
    refine wpAny_bind (wpAny_field g2 d2 t3 ?_)
    by_cases hfl : (fl == rawInt L) = true
    · rw [if_pos hfl]
      obtain rfl := eq_of_beq hfl
      exact wpAny_pure (h H s I rfl ⟨T, hT, e1, e2⟩)
    · rw [if_neg hfl]
      refine wpAny_bind (wpAny_setField g2 d2 hsz ?_)
      have mu : Mut (H T) := by rw [e2]; exact mut_tO
      have g3 := get_upd (i := 3) (x := Value.none) g2 d2
      have I1 := I.write (x := T) (e := T) (t' := s.toks) mu (.inl rfl) (h' := s.heap.update T (Obj.mapFields (·.setIfInBounds 3 .none))) (o := tO .none T)
        (fun b u hb q => by rw [Heap.get?_update_other _ _ (Ne.symm hb)]; exact q) ⟨_, g3⟩ (tO_ok ⟨_, _, g3, rfl, by simp [hsz]⟩)
      have e3 : upd H T (tO .none T) a = some (xO C fr dx (.ref T) a) := by
        rw [upd_ne (Ne.symm hT)]
        exact e1
      exact entry_ok I1 hfr hst hf0 hf e3 fun H' s' I' m l' => h H' s' I' (m.trans (mask_ext (φ := tP fl T) (.inl e2))) l'
/-- it's noted, and lies -/
theorem noted_ok {L : Addr} {env env0 : Env} {rest : List Env} {Q : Unit → Shared → Prop} (I : Inv X pins σ H s) (hfr : A.frames = some X.stack) (hst : X.stack = env0 :: rest) (hf0 : env0.frame = some L) (hf : env.frame = some L) (l : Live H a C fr dx)
    (h : ∀ H' s', Inv X pins σ H' s' → mask H' = mask H → LiveT H' a C fr dx .none → Q () s') :
    wpAny M A (noteFrame (.ref a) env) (fun _ s1 => wpAny M A (setFlight (.ref a) none) Q E s1) E s :=
  note_ok I hfr hst hf0 hf l fun H1 s1 I1 m1 l1 => fly_ok I1 l1 fun H2 s2 I2 m2 l2 => h H2 s2 I2 (m2.trans m1) l2
theorem leaving_ok {L : Addr} {env env0 : Env} {rest : List Env} {Q : Unit → Shared → Prop} (I : Inv X pins σ H s) (hfr : A.frames = some X.stack) (hst : X.stack = env0 :: rest) (hf0 : env0.frame = some L) (hf : env.frame = some L) (l : Live H a C fr dx)
    (h : ∀ H' s', Inv X pins σ H' s' → mask H' = mask H → LiveT H' a C fr dx .none → Q () s') :
    wpAny M A (leaving env (.ref a)) Q E s := by
  unfold leaving
  exact wpAny_bind (noted_ok I hfr hst hf0 hf l h)
end
end L2
end
section
set_option Elab.async false
set_option linter.all false
set_option maxRecDepth 100000
set_option maxHeartbeats 4000000
namespace L2
open PySem PySem.Spec PyProof.Rows
/-- how an error lies behind a call -/
def CXo (P : Program) (w : World) : CXT := fun outer H s E e s' => ∃ a C fr dx H', e = .ref a ∧ s'.os = s.os ∧ AllBare s'.gens ∧ Un (frs outer) [] H H' s.heap s'.heap ∧ HOk P w H' s'.heap ∧ Live H' a C fr dx ∧ E (C, fr) dx (mask H')
/-- what is wanted of an error, by the names' values where it comes -/
abbrev WX := St → XK
/-- the context takes every error of which W is true -/
structure Takes (X : Cx) (W : WX) : Prop where
  th : ∀ (pins : List (Addr × Obj)) (σ : St) (H : Hp) (s : Shared) (a C : Addr) (fr : Bool) (dx : Option Addr), Inv X pins σ H s → Live H a C fr dx → W σ (C, fr) dx (mask H) → X.xe (.ref a) s
  po : PassesOwn (model X.prog X.w) X.A X.env X.xe
theorem Takes.passes {X : Cx} {W : WX} (t : Takes X W) : Passes (CXo X.prog X.w) X W := fun pins σ H s e s' I ⟨a, C, fr, dx, H', he, os, bare, un, hok, l, q⟩ => by
  subst he
  exact t.th pins σ H' s' a C fr dx (I.call' os un hok bare (fun b z => absurd z (by simp))) l q
section
variable {P : Program} {w : World} {K : PySem.W.Frag} {mg : Str → Option Value} {base : Heap}
/-- a def's body -/
theorem takes_cx {cm : Bool} {N : List Str} {qual : Str} {scope : Scope} {f : Addr} {cd : Value} {A : Around} {outer : List Env} {s : Shared} {H : Hp} {E : XK} :
    Takes (cxOf (CXo P w) cm P w K mg base N qual scope f cd A outer s H E) (fun _ => E) := by
  refine ⟨fun pins σ H1 s1 a C fr dx I l q => ?_, ?_⟩
  · exact leaving_ok (X := cxOf (CXo P w) cm P w K mg base N qual scope f cd A outer s H E) I I.ok.frames rfl rfl rfl l fun H2 s2 I2 m2 l2 =>
      ⟨a, C, fr, dx, H2, rfl, I2.os, I2.bare, I2.base, I2.hok, l2.live, by rw [m2]; exact q⟩
  · exact PassesOwn.leaving (Q₁ := fun e s'' => CXo P w outer H s E e s'') (E₁ := fun e s'' => CXo P w outer H s E e s'')
/-- THE RULE for a def whose body may raise -/
theorem fun_ok {cm : Bool} {x qual : Str} {st : Stmt} {f : Addr} {fd : FuncData} {N ps : List Str} {k : Nat} {sp : Sp} (F : Fun K x qual st f fd) (S : FnScope N ps (defScope st)) (len : ∀ vs H Q E, sp vs H Q E → vs.length = ps.length)
    (hbody : ∀ (cdv : Value) (A : Around) (outer : List Env) (s : Shared) (H : Hp) (vs : List V) (Q : VK) (E : XK), Room cm k (A.deeper (envOfC qual (defScope st) s.heap.objs.size f cdv)) → sp vs H Q E →
      ∃ t, PSs (cxOf (CXo P w) cm P w K mg base N qual (defScope st) f cdv A outer s H E) (defBody st) t ∧ t { nx := fun _ H' => Q .non H', rt := Q } (start N vs) H) : FnOk P w K mg base (CXo P w) cm (k + 1) f fd ps sp := by
  obtain ⟨oc, od, kV, doc, pm, an, cdv, ct, osl, rfl, lk, hcd⟩ := F.ex
  exact fn_of lk hcd S len fun A outer s H vs Q E hr hsp => hbody cdv A outer s H vs Q E hr hsp
end
end L2
end
section
set_option Elab.async false
set_option linter.all false
set_option maxRecDepth 100000
set_option maxHeartbeats 4000000
namespace L2
open PySem PySem.Spec PyProof.Rows
/-- a class of errors -/
structure ErrC (K : PySem.W.Frag) (C : Addr) : Prop where
  base : PySem.W.mroIn K C (.type "BaseException") = some true
  ty : PySem.W.typeIn K (.ref C) = some (.type "type")
def tRaise (K : PySem.W.Frag) (W : WX) (te : TE) : TS := fun _ σ H => te σ H fun x H1 => ∃ a C dx, x = .ref a ∧ H1 a = some (xO C true dx .none a) ∧ ErrC K C ∧ W σ (C, true) dx (mask H1)
section
variable {X : Cx} {W : WX} {e : Expr} {te : TE} {pos : Pos}
theorem ps_raise (tk : Takes X W) (hc : X.calm = true) (he : PE X e te) : PS X (.Raise (some e) none pos) (tRaise X.K W te) := by
  intro pins s σ H D I h
  show wpAny _ X.A (do standAt pos; raiseStmt X.env (some (do let v ← eval e X.env; standAt pos; pure v)) none) _ X.xe s
  refine wpAny_bind (wpAny_standAt ?_)
  unfold raiseStmt
  dsimp only
  refine wpAny_bind (wpAny_bind (thn (he pins s σ H _ I h) fun v s1 ⟨x, H1, I1, rx, a, C, dx, ex, ea, er, q⟩ => wpAny_bind (wpAny_standAt (wpAny_pure ?_))))
  subst ex
  obtain rfl : v = Value.ref a := rx
  obtain ⟨vs, sl, g1, sz, v1, v2⟩ := I1.xo ea
  have nt : ∀ {Q' : Bool → Shared → Prop}, Q' false s1 → wpAny (model X.prog X.w) X.A (isType (.ref a)) Q' X.xe s1 := by
    intro Q' hq
    simp only [isType, loadHead]
    exact wpAny_bind (wpAny_loadPart g1 (wpAny_pure hq))
  have ty : PySem.W.Looks (model X.prog X.w) s1.heap (typeOf (.ref a)) (.ref C) := (PySem.W.Looks.ld g1).andThen .now
  have sb : PySem.W.Looks (model X.prog X.w) s1.heap (isSubtype (.ref C) (.type "BaseException")) true := PySem.W.looks_mroIn I1.kIn er.base
  have tt : PySem.W.Looks (model X.prog X.w) s1.heap (typeOf (.ref C)) (.type "type") := PySem.W.looks_typeIn I1.kIn er.ty
  refine wpAny_bind (wpAny_pure ?_)
  dsimp only
  refine wpAny_bind (wpAny_holding ?_)
  unfold excFromValue isExcClass
  refine wpAny_bind (wpAny_bind (nt ?_))
  simp only [Bool.false_eq_true, if_false]
  refine wpAny_pure ?_
  simp only [Bool.false_eq_true, if_false]
  unfold isInstance
  refine wpAny_bind (wpAny_bind (ty.here (sb.here ?_)))
  simp only [if_true]
  refine wpAny_pure ?_
  refine wpAny_bind (nt ?_)
  simp only [Bool.false_eq_true, if_false]
  unfold raisedInstance
  refine wpAny_bind (wpAny_bind (ty.here (wpAny_bind (tt.here ?_))))
  rw [if_pos (by decide)]
  refine wpAny_pure ?_
  unfold setFlight raiseNew
  refine wpAny_bind (wpAny_bind (wpAny_field g1 rfl v1 ?_))
  rw [if_neg (by decide)]
  refine wpAny_pure (wpAny_bind (wpAny_handled ?_))
  rw [I1.ok.hd hc]
  have fin : X.xe (.ref a) s1 := tk.th pins σ H1 s1 a C true dx I1 (.inl ea) q
  first
    | exact wpAny_throw fin
    | exact wpAny_bind (wpAny_pure (wpAny_throw fin))
end
end L2
end
section
set_option Elab.async false
set_option linter.all false
set_option maxRecDepth 100000
set_option maxHeartbeats 4000000
namespace L2
open PySem PySem.Spec PyProof.Rows
theorem entry_unchain : entryFor table "proto.unchain" = some Builtin.«proto.unchain» := entryFor_of_fast (by kernel_rfl)
section
variable {X : Cx} {pins : List (Addr × Obj)} {σ : List (Option V)} {H : Hp} {s : Shared} {a C : Addr} {fr : Bool} {dx : Option Addr} {tb : Value} {M : Model} {A : Around} {E : Value → Shared → Prop}
/-- a field of an error is set (not its trace) -/
theorem setx_ok {i : Nat} {x : Value} {fr' : Bool} {Q : Unit → Shared → Prop} (I : Inv X pins σ H s) (e : H a = some (xO C fr dx tb a)) (hi : i < 6) (h1 : i ≠ 1) (h2 : fr' = true → fr = true ∧ i ≠ 2)
    (h : ∀ s', Inv X pins σ (upd H a (xO C fr' dx tb a)) s' → Q () s') : wpAny M A (setField (.ref a) i x) Q E s := by
  obtain ⟨vs, sl, g1, sz, v1, v2⟩ := I.xo e
  refine wpAny_setField g1 rfl (by omega) ?_
  have mu : Mut (H a) := by rw [e]; exact mut_xO
  have g3 := get_upd (i := i) (x := x) g1 rfl
  refine h _ (I.write (x := a) (e := a) (t' := s.toks) mu (.inl rfl) (fun b u hb q => ?_) ⟨_, g3⟩ (xO_ok ⟨_, sl, g3, by simp [sz], ?_, fun z => ?_⟩))
  · rw [Heap.get?_update_other _ _ (Ne.symm hb)]
    exact q
  · rw [Array.getElem?_setIfInBounds_ne h1]
    exact v1
  · rw [Array.getElem?_setIfInBounds_ne (h2 z).2]
    exact v2 (h2 z).1
end
def tRaiseF (K : PySem.W.Frag) (W : WX) (b : Addr) (te tc : TE) : TS := fun _ σ H => te σ H fun x H1 => tc σ H1 fun y H2 => ∃ a C dx Cb dxb tbb, x = .ref a ∧ y = .ref b ∧ a ≠ b ∧ H2 a = some (xO C true dx .none a) ∧ H2 b = some (xO Cb true dxb tbb b) ∧
  ErrC K C ∧ ErrC K Cb ∧ W σ (C, false) dx (mask H2)
section
variable {X : Cx} {W : WX} {e c : Expr} {te tc : TE} {pos : Pos} {b : Addr}
theorem ps_raiseF (tk : Takes X W) (hh : X.A.handled = some (.ref b)) (he : PE X e te) (hcs : PE X c tc) : PS X (.Raise (some e) (some c) pos) (tRaiseF X.K W b te tc) := by
  intro pins s σ H D I h
  show wpAny _ X.A (do standAt pos; raiseStmt X.env (some (do let v ← eval e X.env; standAt pos; pure v)) (some (do let v ← eval c X.env; standAt pos; pure v))) _ X.xe s
  refine wpAny_bind (wpAny_standAt ?_)
  unfold raiseStmt
  dsimp only
  refine wpAny_bind (wpAny_bind (thn (he pins s σ H _ I h) fun v s0 ⟨x, H0, I0, rx, q0⟩ => wpAny_bind (wpAny_standAt (wpAny_pure ?_))))
  refine wpAny_bind (wpAny_holding (wpAny_bind (thn (hcs pins s0 σ H0 _ I0 q0) fun u s1 ⟨y, H1, I1, ry, a, C, dx, Cb, dxb, tbb, ex, ey, nab, ea, eb, er, erb, q⟩ => wpAny_bind (wpAny_standAt (wpAny_pure ?_)))))
  subst ex ey
  obtain rfl : v = Value.ref a := rx
  obtain rfl : u = Value.ref b := ry
  have nt : ∀ {z : Addr} {Cz : Addr} {fz : Bool} {dz : Option Addr} {tz : Value} {Q' : Bool → Shared → Prop}, H1 z = some (xO Cz fz dz tz z) → Q' false s1 → wpAny (model X.prog X.w) X.A (isType (.ref z)) Q' X.xe s1 := by
    intro z Cz fz dz tz Q' ez hq
    obtain ⟨_, _, g, _⟩ := I1.xo ez
    simp only [isType, loadHead]
    exact wpAny_bind (wpAny_loadPart g (wpAny_pure hq))
  have ofv : ∀ {z : Addr} {Cz : Addr} {fz : Bool} {dz : Option Addr} {tz : Value} {w : String} {Q' : Value → Shared → Prop}, H1 z = some (xO Cz fz dz tz z) → ErrC X.K Cz → Q' (.ref z) s1 → wpAny (model X.prog X.w) X.A (excFromValue (.ref z) w) Q' X.xe s1 := by
    intro z Cz fz dz tz w Q' ez rz hq
    obtain ⟨_, _, g, _⟩ := I1.xo ez
    have ty : PySem.W.Looks (model X.prog X.w) s1.heap (typeOf (.ref z)) (.ref Cz) := (PySem.W.Looks.ld g).andThen .now
    have sb : PySem.W.Looks (model X.prog X.w) s1.heap (isSubtype (.ref Cz) (.type "BaseException")) true := PySem.W.looks_mroIn I1.kIn rz.base
    unfold excFromValue isExcClass
    refine wpAny_bind (wpAny_bind (nt ez ?_))
    simp only [Bool.false_eq_true, if_false]
    refine wpAny_pure ?_
    simp only [Bool.false_eq_true, if_false]
    unfold isInstance
    refine wpAny_bind (wpAny_bind (ty.here (sb.here ?_)))
    simp only [if_true]
    exact wpAny_pure hq
  refine wpAny_bind (wpAny_pure ?_)
  refine wpAny_bind (wpAny_holding (ofv ea er ?_))
  dsimp only
  rw [if_neg (by simp)]
  refine wpAny_bind (wpAny_holding (ofv eb erb ?_))
  refine wpAny_bind (setx_ok (fr' := true) I1 ea (by decide) (by decide) (fun _ => ⟨rfl, by decide⟩) fun s2 I2 => ?_)
  refine wpAny_bind (setx_ok (fr' := true) I2 upd_same (by decide) (by decide) (fun _ => ⟨rfl, by decide⟩) fun s3 I3 => ?_)
  rw [upd_upd] at I3
  have e3 : upd H1 a (xO C true dx .none a) a = some (xO C true dx .none a) := upd_same
  have eb3 : upd H1 a (xO C true dx .none a) b = some (xO Cb true dxb tbb b) := by
    rw [upd_ne (Ne.symm nab)]
    exact eb
  obtain ⟨vs, sl, g1, sz, v1, v2⟩ := I3.xo e3
  have ty : PySem.W.Looks (model X.prog X.w) s3.heap (typeOf (.ref a)) (.ref C) := (PySem.W.Looks.ld g1).andThen .now
  have tt : PySem.W.Looks (model X.prog X.w) s3.heap (typeOf (.ref C)) (.type "type") := PySem.W.looks_typeIn I3.kIn er.ty
  have nt3 : ∀ {Q' : Bool → Shared → Prop}, Q' false s3 → wpAny (model X.prog X.w) X.A (isType (.ref a)) Q' X.xe s3 := by
    intro Q' hq
    simp only [isType, loadHead]
    exact wpAny_bind (wpAny_loadPart g1 (wpAny_pure hq))
  refine wpAny_bind (nt3 ?_)
  simp only [Bool.false_eq_true, if_false]
  unfold raisedInstance
  refine wpAny_bind (wpAny_bind (ty.here (wpAny_bind (tt.here ?_))))
  rw [if_pos (by decide)]
  refine wpAny_pure ?_
  unfold setFlight raiseNew
  refine wpAny_bind (wpAny_bind (wpAny_field g1 rfl v1 ?_))
  rw [if_neg (by decide)]
  refine wpAny_pure (wpAny_bind (wpAny_handled ?_))
  rw [hh]
  dsimp only
  rw [if_pos (show (Value.ref b != Value.ref a) = true by simp [Ne.symm nab])]
  obtain ⟨ws, sl', g2, sz', w1, w2⟩ := I3.xo eb3
  refine wpAny_bind (wpAny_holding (wpAny_runValue (codeAny_builtin entry_unchain ?_)))
  unfold Builtin.«proto.unchain»
  dsimp only
  refine wpAny_bind (wpAny_field g2 rfl (w2 rfl) ?_)
  rw [if_pos (by decide)]
  refine wpAny_pure ?_
  refine wpAny_bind ?_
  show wpAny _ _ (setField (.ref a) 2 (.ref b)) _ _ _
  refine setx_ok (fr' := false) I3 e3 (by decide) (by decide) (fun z => nomatch z) fun s4 I4 => ?_
  rw [upd_upd] at I4
  have fin : X.xe (.ref a) s4 := tk.th pins σ _ s4 a C false dx I4 (.inl upd_same) (by rw [show mask (upd H1 a (xO C false dx .none a)) = mask H1 from mask_ext (φ := xP C true dx .none a) (.inl ea)]; exact q)
  first
    | exact wpAny_throw fin
    | exact wpAny_bind (wpAny_pure (wpAny_throw fin))
end
end L2
end
section
set_option Elab.async false
set_option linter.all false
set_option maxRecDepth 100000
set_option maxHeartbeats 4000000
namespace L2
open PySem PySem.Spec PyProof.Rows
/-- the context within a try's body, within an except suite -/
abbrev Cx.sub (X : Cx) (A' : Around) (cm : Bool) (pn' : List (Addr × Obj)) (xe' : Value → Shared → Prop) : Cx := { X with A := A', calm := cm, pn := pn', xe := xe' }
section
variable {X : Cx} {pins pins' : List (Addr × Obj)} {σ : List (Option V)} {H : Hp} {s : Shared} {A' : Around} {cm : Bool} {xe' : Value → Shared → Prop}
theorem Inv.into (I : Inv X pins σ H s) (hA : A'.frames = X.A.frames) (hc : cm = true → A'.handled = none) : Inv (X.sub A' cm (X.pn ++ pins) xe') [] σ H s :=
  ⟨⟨I.ok.mod, I.ok.kind, I.ok.glob, I.ok.blt, I.ok.above, I.ok.inj, I.ok.has, I.ok.cab, hc, hA.trans I.ok.frames, I.ok.stk, I.ok.exf, I.ok.bs, I.ok.bsz, I.ok.noex, I.ok.exfs, I.ok.funs, I.ok.frf⟩, I.os, I.bare, I.base, I.loc, I.cell, I.free, I.freeC,
    fun p hp => I.pin p (by simpa using hp), I.hok, I.len⟩
theorem Inv.back (ok : X.Ok) (I : Inv (X.sub A' cm (X.pn ++ pins) xe') pins' σ H s) : Inv X pins σ H s :=
  ⟨ok, I.os, I.bare, I.base, I.loc, I.cell, I.free, I.freeC, fun p hp => I.pin p (List.mem_append_left _ hp), I.hok, I.len⟩
theorem SP.back {D : Ends} {f : Flow} {s' : Shared} (ok : X.Ok) (h : SP (X.sub A' cm (X.pn ++ pins) xe') pins' D f s') : SP X pins D f s' := by
  cases f with
  | next => obtain ⟨a, b, I, q⟩ := h; exact ⟨a, b, I.back ok, q⟩
  | brk => obtain ⟨a, b, I, q⟩ := h; exact ⟨a, b, I.back ok, q⟩
  | cont => obtain ⟨a, b, I, q⟩ := h; exact ⟨a, b, I.back ok, q⟩
  | ret u => obtain ⟨v, a, b, I, r, q⟩ := h; exact ⟨v, a, b, I.back ok, r, q⟩
/-- a local is unbound -/
theorem unbind_ok {M : Model} {A : Around} {E : Value → Shared → Prop} {i : Nat} {n : Str} {pos : Pos} {v : V} {Q : Unit → Shared → Prop} (I : Inv X pins σ H s) (hN : X.N.Nodup) (hi : X.N[i]? = some n) (hk : X.env.scope.names.lookup n = some .local) (hv : σ[i]? = some (some v))
    (h : ∀ s', Inv X pins (σ.set i none) H s' → Q () s') : wpAny M A (unbindBehindTheSuite X.env n pos) Q E s := by
  obtain ⟨m, hn, hl⟩ := id I.loc
  obtain ⟨u, ru, lu⟩ := hl i n v hi hv (.inl hk)
  have hm : m n = some u := by
    rcases lu with ⟨_, z⟩ | ⟨z, _⟩
    · exact z
    · have z' : X.env.scope.names.lookup n = some .cell ∨ X.env.scope.names.lookup n = some .free := z
      rw [hk] at z'
      rcases z' with q | q <;> cases q
  have hcls : (X.env.scope.kind == .class || (X.env.scope.kind == .module && X.env.locals != X.env.globals)) = false := by rw [I.ok.kind]; rfl
  unfold unbindBehindTheSuite
  refine wpAny_onRaise (wpAny_unbindName_local hk hn hm hcls fun h' u' hn' hs => h _ ?_)
  have ltL : ∀ b o, X.s_0.heap.get? b = some o → b ≠ X.env.locals := fun b o e => Nat.ne_of_lt (Nat.lt_of_lt_of_le (Heap.lt_size e) I.ok.above)
  refine ⟨I.ok, I.os, I.bare, ⟨fun b o e n' hb hx => ?_, fun b o e n' hb hx => ?_, I.base.free, fun b o e hx => ?_, I.base.tups, I.base.frzs, I.base.tbls⟩, ⟨_, hn', fun j y w e1 e2 e3 => ?_⟩, fun y c e => ?_, I.free, I.freeC, fun p hp => ?_, ?_, by simpa using I.len⟩
  · exact (hs.2 b (ltL b o e)).trans (I.base.keep b o e n' hb hx)
  · obtain ⟨sl, e1⟩ := I.base.slot b o e n' hb hx
    exact ⟨sl, (hs.2 b (ltL b o e)).trans e1⟩
  · obtain ⟨o', e1⟩ := I.base.there b o e hx
    exact ⟨o', (hs.2 b (ltL b o e)).trans e1⟩
  · by_cases hj : j = i
    · subst hj
      rw [List.getElem?_set_self (List.getElem?_eq_some_iff.mp hv).1] at e2
      cases e2
    · rw [List.getElem?_set_ne (Ne.symm hj)] at e2
      obtain ⟨u2, r2, q⟩ := hl j y w e1 e2 e3
      refine ⟨u2, r2, ?_⟩
      rcases q with ⟨k, e⟩ | ⟨k, c, e, z⟩
      · refine .inl ⟨k, ?_⟩
        have ny : y ≠ n := fun e => hj (nodup_ix hN e1 (e ▸ hi))
        simp [ny, e]
      · exact .inr ⟨k, c, e, z.sameBut hs (I.cne y c e)⟩
  · obtain ⟨w', z⟩ := I.cell y c e
    exact ⟨w', z.sameBut hs (I.cne y c e)⟩
  · obtain ⟨e, n', ne, nf, d⟩ := I.pin p hp
    exact ⟨(hs.2 p.1 ne).trans e, n', ne, nf, d⟩
  · refine hok_part I.hok fun b u2 ⟨o, hb⟩ e => (hs.2 b fun z => ?_).trans e
    rw [z, I.free] at hb
    cases hb
/-- the name of an except suite goes -/
theorem goes_ok {M : Model} {A : Around} {E : Value → Shared → Prop} {i : Nat} {n : Str} {pos : Pos} {Q : Unit → Shared → Prop} (I : Inv X pins σ H s) (hN : X.N.Nodup) (hi : X.N[i]? = some n) (hk : X.env.scope.names.lookup n = some .local)
    (h : ∀ s', Inv X pins (σ.set i none) H s' → Q () s') : wpAny M A (do bindName X.env n .none; unbindBehindTheSuite X.env n pos) Q E s := by
  have hl : i < σ.length := by rw [I.len]; exact (List.getElem?_eq_some_iff.mp hi).1
  refine wpAny_bind (wpAny_bindName (store_ok (v := V.non) I hN hi (.inl hk) rfl (fun s1 I1 => ?_) (.inr hk)))
  refine unbind_ok (v := V.non) I1 hN hi hk (by rw [List.getElem?_set_self hl]) fun s2 I2 => ?_
  rw [List.set_set] at I2
  exact h s2 I2
end
end L2
end
section
set_option Elab.async false
set_option linter.all false
set_option maxRecDepth 100000
set_option maxHeartbeats 4000000
namespace L2
open PySem PySem.Spec PyProof.Rows
/-- the reading of except clauses, at an error that has come -/
abbrev HR := Addr → Addr → Bool → Option Addr → Ends → St → Hp → Prop
def PH (X : Cx) (hs : List ExceptHandler) (t : HR) : Prop :=
  ∀ (pins : List (Addr × Obj)) (s : Shared) (σ : St) (H : Hp) (D : Ends) (a C : Addr) (fr : Bool) (dx : Option Addr), Inv X pins σ H s → LiveT H a C fr dx .none → t a C fr dx D σ H →
    wpAny (model X.prog X.w) X.A (handleBy (.ref a) X.env hs) (SP X pins D) X.xe s
section
variable {X : Cx} {pins pins' : List (Addr × Obj)} {σ : List (Option V)} {H : Hp} {s : Shared} {M : Model} {A : Around} {E : Value → Shared → Prop} {a C : Addr} {fr : Bool} {dx : Option Addr} {fl : Value}
theorem upd_self {H : Hp} {a : Addr} {o : HO} (h : H a = some o) : upd H a o = H := by
  funext b
  by_cases e : b = a
  · subst e
    rw [upd_same, h]
  · rw [upd_ne e]
/-- the mark of an error that lies is set anew -/
theorem fly_same {Q : Unit → Shared → Prop} (I : Inv X pins σ H s) (l : LiveT H a C fr dx .none) (h : ∀ s', Inv X pins σ H s' → Q () s') : wpAny M A (setFlight (.ref a) none) Q E s := by
  obtain ⟨T, hT, e1, e2⟩ := l
  obtain ⟨vs, sl, g1, sz, v1, v2⟩ := Inv.xo I e1
  obtain ⟨o, ts, g2, d2, t3⟩ := Inv.to I e2
  have hsz : 3 < ts.size := (Array.getElem?_eq_some_iff.mp t3).1
  unfold setFlight
  refine wpAny_bind (wpAny_field g1 rfl v1 ?_)
  rw [if_pos (show (Value.ref T != Value.none) = true from by simp)]
  refine wpAny_setField g2 d2 hsz ?_
  have mu : Mut (H T) := by rw [e2]; exact mut_tO
  have g3 := get_upd (i := 3) (x := Value.none) g2 d2
  have I' := I.write (x := T) (e := T) (t' := s.toks) mu (.inl rfl) (h' := s.heap.update T (Obj.mapFields (·.setIfInBounds 3 .none))) (o := tO .none T)
    (fun b u hb q => by rw [Heap.get?_update_other _ _ (Ne.symm hb)]; exact q) ⟨_, g3⟩ (tO_ok ⟨_, _, g3, rfl, by simp [hsz]⟩)
  rw [upd_self e2] at I'
  exact h _ I'
/-- an error that has a trace flies on -/
theorem passOn_ok {α : Type} {what : String} {env : Env} {Q : α → Shared → Prop} (I : Inv X pins σ H s) (l : LiveT H a C fr dx fl)
    (h : ∀ H' s', Inv X pins σ H' s' → mask H' = mask H → LiveT H' a C fr dx (env.frame.elim .none fun f => rawInt f) → E (.ref a) s') : wpAny M A (PySem.passOn what (.ref a) env : Sem α) Q E s := by
  have l' := l
  obtain ⟨T, hT, e1, e2⟩ := l
  obtain ⟨vs, sl, g1, sz, v1, v2⟩ := I.xo e1
  unfold PySem.passOn
  refine wpAny_bind (wpAny_field g1 rfl v1 ?_)
  rw [if_neg (by simp)]
  exact wpAny_bind (fly_ok I l' fun H' s' I' m' l2 => wpAny_throw (h H' s' I' m' l2))
/-- .. back in the activation that ran the suite -/
theorem came_ok {env : Env} (I : Inv X pins σ H s) (l : LiveT H a C fr dx fl)
    (h : ∀ H' s', Inv X pins σ H' s' → mask H' = mask H → LiveT H' a C fr dx (env.frame.elim .none fun f => rawInt f) → E (.ref a) s') : cameBackBy M A env E (.ref a) s := by
  have l' := l
  obtain ⟨T, hT, e1, e2⟩ := l
  obtain ⟨vs, sl, g1, sz, v1, v2⟩ := I.xo e1
  unfold cameBackBy
  refine wpAny_bind (wpAny_field g1 rfl v1 ?_)
  rw [if_neg (by simp)]
  exact fly_ok I l' fun H' s' I' m' l2 => h H' s' I' m' l2
end
def hNil (W : WX) : HR := fun _ C fr dx _ σ H => W σ (C, fr) dx (mask H)
/-- except C' as n: (n in slot i), then the other clauses -/
def hAs (K : PySem.W.Frag) (C' : Addr) (i : Nat) (ts : Addr → TS) (tr : HR) : HR := fun a C fr dx D σ H => ∃ b, PySem.W.exmOne K (.ref C) (.ref C') = some b ∧
  if b = true then ts a { nx := fun σ' H' => D.nx (σ'.set i none) H', rt := D.rt, bk := fun σ' H' => D.bk (σ'.set i none) H', ct := fun σ' H' => D.ct (σ'.set i none) H' } (σ.set i (some (.ref a))) H else tr a C fr dx D σ H
/-- except C':, then the other clauses -/
def hNo (K : PySem.W.Frag) (C' : Addr) (ts : Addr → TS) (tr : HR) : HR := fun a C fr dx D σ H => ∃ b, PySem.W.exmOne K (.ref C) (.ref C') = some b ∧
  if b = true then ts a D σ H else tr a C fr dx D σ H
section
variable {X : Cx} {W : WX}
theorem ph_nil (tk : Takes X W) : PH X [] (hNil W) := by
  intro pins s σ H D a C fr dx I l h
  refine wpAny_handleBy_nil (passOn_ok I l fun H' s' I' m' l' => tk.th pins σ H' s' a C fr dx I' l'.live ?_)
  rw [m']
  exact h
theorem ph_as {x n : Str} {np pos : Pos} {b0 : Stmt} {body : List Stmt} {rest : List ExceptHandler} {C' : Addr} {i : Nat} {ts : Addr → TS} {tr : HR} (tk : Takes X W) (hst : X.stack = X.env :: X.outer) (hf : X.env.frame = some X.env.locals) (hN : X.N.Nodup) (hi : X.N[i]? = some n) (hk : X.env.scope.names.lookup n = some .local)
    (hg : Gl X x) (hm : X.mg x = some (.ref C'))
    (suite : ∀ (a : Addr) (pn : List (Addr × Obj)) (xe : Value → Shared → Prop), Takes (X.sub (X.A.mark (some (.ref a))) false pn xe) (fun σ => W (σ.set i none)) → PSs (X.sub (X.A.mark (some (.ref a))) false pn xe) (b0 :: body) (ts a))
    (hr : PH X rest tr) (hd : (x == ("__debug__" : Str)) = false := by decide) : PH X (.ExceptHandler (some (.Name x np)) (some n) (b0 :: body) pos :: rest) (hAs X.K C' i ts tr) := by
  intro pins s σ H D a C fr dx I l h
  obtain ⟨b, hb, h⟩ := h
  have frm : (X.A.mark (some (.ref a))).frames = X.A.frames := rfl
  have noH : false = true → (X.A.mark (some (.ref a))).handled = none := fun z => nomatch z
  refine wpAny_handleBy_cons (codeAny_handlers_test ?_) (by intro q; cases q)
  have I0 : Inv (X.sub (X.A.mark (some (.ref a))) false (X.pn ++ pins) (fun _ _ => False)) [] σ H s := I.into frm noH
  refine ld_glob (X := X.sub (X.A.mark (some (.ref a))) false (X.pn ++ pins) (fun _ _ => False)) I0 hg hm ?_ hd
  obtain ⟨T, hT, e1, e2⟩ := id l
  obtain ⟨vs, sl, g1, sz, v1, v2⟩ := I.xo e1
  have ty : PySem.W.Looks (model X.prog X.w) s.heap (typeOf (.ref a)) (.ref C) := (PySem.W.Looks.ld g1).andThen .now
  refine (PySem.W.exm_one I.kIn ty hb).here ?_
  cases b with
  | false =>
    simp only [Bool.false_eq_true, if_false] at h ⊢
    exact hr pins s σ H D a C fr dx I l h
  | true =>
    simp only [if_true] at h ⊢
    refine codeAny_handlers_suite_as ?_
    -- what is wanted of an error that leaves the suite
    generalize hNE : notedBy (model X.prog X.w) (X.A.mark (some (.ref a))) X.env (fun x s' => cameBackBy (model X.prog X.w) X.A X.env X.xe x s') = NE
    refine fly_same I l fun s1 I1 => ?_
    have hil : i < σ.length := by rw [I.len]; exact (List.getElem?_eq_some_iff.mp hi).1
    let xe2 : Value → Shared → Prop := fun x s3 => wpAny (model X.prog X.w) (X.A.mark (some (.ref a))) (noteFrame x X.env) (fun _ s3' =>
            wpAny (model X.prog X.w) (X.A.mark (some (.ref a))) (do bindName X.env n .none; unbindBehindTheSuite X.env n pos)
              (fun _ s4 => wpAny (model X.prog X.w) (X.A.mark (some (.ref a))) (PySem.passOn "try.except-as" x X.env : Sem Flow) (fun _ _ => False) NE s4)
              (fun y s4 => wpAny (model X.prog X.w) (X.A.mark (some (.ref a))) (setFlight x none) (fun _ s5 => NE y s5) NE s4) s3') NE s3
    have I2 : Inv (X.sub (X.A.mark (some (.ref a))) false (X.pn ++ pins) xe2) [] σ H s1 := I1.into frm noH
    have tk2 : Takes (X.sub (X.A.mark (some (.ref a))) false (X.pn ++ pins) xe2) (fun σ => W (σ.set i none)) := by
      refine ⟨fun p2 σ2 H2 s2 a2 C2 fr2 dx2 J2 k2 w2 => ?_, PassesOwn.looking⟩
      refine note_ok (X := X.sub (X.A.mark (some (.ref a))) false (X.pn ++ pins) xe2) (L := X.env.locals) J2 J2.ok.frames hst hf hf k2 fun H3 s3 J3 m3 k3 => ?_
      refine goes_ok (X := X.sub (X.A.mark (some (.ref a))) false (X.pn ++ pins) xe2) J3 hN hi hk fun s4 J4 => ?_
      refine passOn_ok J4 k3 fun H5 s5 J5 m5 k5 => ?_
      rw [← hNE]
      unfold notedBy
      refine note_ok (X := X.sub (X.A.mark (some (.ref a))) false (X.pn ++ pins) xe2) (L := X.env.locals) J5 J5.ok.frames hst hf hf k5.live fun H6 s6 J6 m6 k6 => ?_
      refine came_ok J6 k6 fun H7 s7 J7 m7 k7 => ?_
      refine tk.th pins _ H7 s7 a2 C2 fr2 dx2 (J7.back I.ok) k7.live ?_
      rw [m7, m6, m5, m3]
      exact w2
    refine store_ok (X := X.sub (X.A.mark (some (.ref a))) false (X.pn ++ pins) xe2) (v := V.ref a) I2 hN hi (.inl hk) rfl (fun s3 I3 => ?_) (.inr hk)
    refine wpAny_mono (suite a (X.pn ++ pins) xe2 tk2 [] s3 _ H _ I3 h) (fun f s4 h4 => ?_) fun x s4 h4 => h4
    -- the suite's end: the name goes
    have h5 : SP X pins { nx := fun σ' H' => D.nx (σ'.set i none) H', rt := D.rt, bk := fun σ' H' => D.bk (σ'.set i none) H', ct := fun σ' H' => D.ct (σ'.set i none) H' } f s4 := SP.back I.ok h4
    show wpAny _ X.A (do bindName X.env n .none; unbindBehindTheSuite X.env n pos) _ X.xe s4
    cases f with
    | next =>
      obtain ⟨σ5, H5, I5, q5⟩ := h5
      exact goes_ok I5 hN hi hk fun s6 I6 => ⟨_, H5, I6, q5⟩
    | brk =>
      obtain ⟨σ5, H5, I5, q5⟩ := h5
      exact goes_ok I5 hN hi hk fun s6 I6 => ⟨_, H5, I6, q5⟩
    | cont =>
      obtain ⟨σ5, H5, I5, q5⟩ := h5
      exact goes_ok I5 hN hi hk fun s6 I6 => ⟨_, H5, I6, q5⟩
    | ret u =>
      obtain ⟨v5, σ5, H5, I5, r5, q5⟩ := h5
      exact goes_ok I5 hN hi hk fun s6 I6 => ⟨v5, _, H5, I6, r5, q5⟩
/-- try: body except ..: -/
def tTry (Wt : WX) (tb : TS) (th : HR) : TS := fun D σ H => tb D σ H ∧ ∀ (a C : Addr) (fr : Bool) (dx : Option Addr) (σ' : St) (H' : Hp), LiveT H' a C fr dx .none → Wt σ' (C, fr) dx (mask H') → th a C fr dx D σ' H'
theorem ps_try {body : List Stmt} {h0 : ExceptHandler} {hs : List ExceptHandler} {pos : Pos} {Wt : WX} {tb : TS} {th : HR} (hst : X.stack = X.env :: X.outer) (hf : X.env.frame = some X.env.locals)
    (hb : ∀ (pn : List (Addr × Obj)) (xe : Value → Shared → Prop), Takes (X.sub X.A X.calm pn xe) Wt → PSs (X.sub X.A X.calm pn xe) body tb) (hh : PH X (h0 :: hs) th) : PS X (.Try body (h0 :: hs) [] [] pos) (tTry Wt tb th) := by
  intro pins s σ H D I h
  obtain ⟨h1, h2⟩ := h
  refine wpAny_Try_except ?_
  let xe2 : Value → Shared → Prop := fun e s1 => wpAny (model X.prog X.w) X.A (noteFrame e X.env) (fun _ s2 => wpAny (model X.prog X.w) X.A (setFlight e none) (fun _ s3 => wpAny (model X.prog X.w) X.A (handleBy e X.env (h0 :: hs)) (SP X pins D) X.xe s3) X.xe s2) X.xe s1
  have I2 : Inv (X.sub X.A X.calm (X.pn ++ pins) xe2) [] σ H s := I.into rfl I.ok.hd
  have tk2 : Takes (X.sub X.A X.calm (X.pn ++ pins) xe2) Wt := by
    refine ⟨fun p2 σ2 H2 s2 a2 C2 fr2 dx2 J2 k2 w2 => ?_, PassesOwn.looking⟩
    refine noted_ok (X := X.sub X.A X.calm (X.pn ++ pins) xe2) (L := X.env.locals) J2 J2.ok.frames hst hf hf k2 fun H3 s3 J3 m3 k3 => ?_
    exact hh pins s3 σ2 H3 D a2 C2 fr2 dx2 (J3.back I.ok) k3 (h2 a2 C2 fr2 dx2 σ2 H3 k3 (by rw [m3]; exact w2))
  refine wpAny_mono (hb (X.pn ++ pins) xe2 tk2 [] s σ H D I2 h1) (fun f s4 h4 => ?_) fun x s4 h4 => h4
  have h5 : SP X pins D f s4 := SP.back I.ok h4
  cases f with
  | next =>
    obtain ⟨σ5, H5, I5, q5⟩ := h5
    exact wpAny_execs_nil ⟨σ5, H5, I5, q5⟩
  | brk => exact h5
  | cont => exact h5
  | ret u => exact h5
end
end L2
end
section
set_option Elab.async false
set_option linter.all false
set_option maxRecDepth 100000
set_option maxHeartbeats 4000000
namespace L2
open PySem PySem.Spec PyProof.Rows
/-- the class at C is a class of errors, made by Exception's own way -/
def exMakesIn (K : PySem.W.Frag) (C : Addr) : Bool := match K.lookup C with
  | some ⟨_, _, .cls cd, sl⟩ => !cd.hasDel && (sl.toList[4]?).join == some (.builtin "Exception.__new__") && !cd.mro.isEmpty && (cd.mro.contains (.ref C) && cd.mro.contains (.type "Exception")) && !cd.mro.contains (.type "AttributeError") && !cd.mro.contains (.type "NameError") &&
      (PySem.W.specialIn K (.ref C) "__call__" == some (some (.builtin "type.__call__")) && PySem.W.instIn K (.ref C) (.type "type") == some true)
  | _ => false
structure XMakes (M : Model) (h : Heap) (C : Addr) : Prop where
  obj : ∃ oc od cd sl, h.get? C = some ⟨oc, od, .cls cd, sl⟩ ∧ cd.hasDel = false ∧ cd.mro.isEmpty = false
  made : PySem.W.Looks M h (Bind.madeBy (.ref C)) (some "Exception.__new__")
  base : PySem.W.Looks M h (Bind.staticBase (.ref C)) (.ref C)
  self : PySem.W.Looks M h (isSubtype (.ref C) (.ref C)) true
  exc : PySem.W.Looks M h (isSubtype (.ref C) (.type "Exception")) true
  noA : PySem.W.Looks M h (isSubtype (.ref C) (.type "AttributeError")) false
  noN : PySem.W.Looks M h (isSubtype (.ref C) (.type "NameError")) false
  call : PySem.W.Looks M h (specialOf (.ref C) "__call__") (some (.builtin "type.__call__"))
  typ : PySem.W.Looks M h (isInstance (.ref C) (.type "type")) true
theorem xmakes_of {K : PySem.W.Frag} {M : Model} {h : Heap} (KX : K.In h) {C : Addr} (q : exMakesIn K C = true) : XMakes M h C := by
  unfold exMakesIn at q
  split at q
  · rename_i oc od cd sl lk
    simp only [Bool.and_eq_true, Bool.not_eq_true', beq_iff_eq] at q
    obtain ⟨⟨⟨⟨⟨⟨q1, q2⟩, q3⟩, q4, q5⟩, q6⟩, q7⟩, q8, q9⟩ := q
    have hcd : PySem.W.clsIn K C = some cd := by unfold PySem.W.clsIn; rw [lk]
    have mro : PySem.W.Looks M h (mroOf (.ref C)) cd.mro := (PySem.W.looks_clsIn KX hcd).andThen .now
    obtain ⟨c1, l1, hl⟩ : ∃ c1 l1, cd.mro = c1 :: l1 := by
      cases z : cd.mro with
      | nil => rw [z] at q3; cases q3
      | cons c1 l1 => exact ⟨c1, l1, rfl⟩
    have made : PySem.W.Looks M h (Bind.madeBy (.ref C)) (some "Exception.__new__") := by
      intro A0 Q0 E0 s0 k0 w0
      unfold Bind.madeBy
      refine wpAny_bind (mro A0 _ E0 s0 k0 ?_)
      rw [hl, List.forIn_cons]
      refine wpAny_bind (wpAny_bind (wpAny_bind (wpAny_bind (wpAny_loadPart (k0 _ _ (KX _ _ lk)) (wpAny_pure ?_)))))
      dsimp only
      rw [← Array.getElem?_toList, q2]
      exact wpAny_pure (wpAny_pure (wpAny_pure w0))
    have sub : ∀ {b : Value} {r : Bool}, cd.mro.contains b = r → PySem.W.Looks M h (isSubtype (.ref C) b) r := fun {b r} z => PySem.W.looks_mroIn KX (by
      unfold PySem.W.mroIn
      rw [hcd, Option.bind_some, if_neg (by rw [q3]; decide), z])
    refine ⟨⟨oc, od, cd, sl, KX _ _ lk, q1, q3⟩, made, ?_, sub q4, sub q5, sub q6, sub q7, PySem.W.looks_specialIn KX q8, PySem.W.looks_instIn KX q9⟩
    intro A0 Q0 E0 s0 k0 w0
    unfold Bind.staticBase
    refine wpAny_bind (mro A0 _ E0 s0 k0 ?_)
    rw [hl, List.forIn_cons]
    exact wpAny_bind (wpAny_bind (wpAny_bind (made A0 _ E0 s0 k0 (wpAny_pure (wpAny_pure (wpAny_pure w0))))))
  · cases q
abbrev tupObj (us : List Value) : Obj := { cls := .type "tuple", data := .seq us.toArray }
abbrev excObj (C t : Addr) : Obj := { cls := .ref C, data := .fields #[.ref t, .none, .none, .none, .bool false, .none] }
section
variable {prog : Program} {w : World} {A : Around} {C : Addr} {R : Result → Shared → Prop} {h : Heap} {g : Array GenState} {d : Drawn} {t : Nat} {os : OsState}
theorem exc_new {us : List Value} (Y : XMakes (model prog w) h C) (hus : us.length ≤ sizeLine)
    (hq : R (.ok (.ret (.ref (h.objs.size + 1)))) ⟨(h.push (tupObj us)).push (excObj C h.objs.size), g, d, t, os⟩) :
    codeAny (model prog w) A (.call (.builtin "Exception.__new__") ⟨.ref C :: us, []⟩) R ⟨h, g, d, t, os⟩ := by
  obtain ⟨⟨oc, od, cd, sl, hC, e2, e4⟩, made, base, self, exc, noA, noN, call, typ⟩ := Y
  have F := PySem.F.excBase_Exception
  have hstar := F.noStar
  refine codeAny_call_builtin_code (Code.quiet_builtin _ F.quiet) ?_
  simp only [checkBuiltinCall, F.newKind, F.newSplit, F.newRow]
  have here : PySem.W.Looks (model prog w) h (Bind.madeHere "BaseException.__new__" (.ref C)) () := base.andThen (made.andThen (PySem.W.Looks.of_pure (by simp only [Option.map_some, F.canon, bne_self_eq_false, Bool.false_eq_true, if_false])))
  have here2 : PySem.W.Looks (model prog w) h (Bind.madeHere "Exception.__new__" (.ref C)) () := base.andThen (made.andThen (PySem.W.Looks.of_pure (by simp only [Option.map_some, bne_self_eq_false, Bool.false_eq_true, if_false])))
  repeat (first | simp only [bne_self_eq_false, Bool.false_eq_true, if_false] | lk)
  have hends := F.ends
  refine codeAny_builtinAt F.entry ?_
  unfold Builtin.«BaseException.__new__»
  refine PySem.wpAt_bind ?_
  show PySem.wpAt _ _ _ (stack >>= _) _ _ _
  refine PySem.wpAt_bind (PySem.wpAt_stack fun p below => PySem.wpAt_of_wpAny ?_)
  wp_walk
  refine PySem.wpAt_of_wpAny ?_
  rw [F.owner]
  have isT : PySem.W.Looks (model prog w) h (isType (.ref C)) true := by
    unfold isType loadHead
    exact (PySem.W.Looks.ld hC).andThen .now
  repeat (first | simp only [Bool.not_true, Bool.false_eq_true, if_false] | lk)
  rw [if_neg (by rw [List.size_toArray]; omega)]
  unfold newObjAsIs
  refine wpAny_bind (wpAny_alloc (wpAny_pure ?_))
  have hC1 := Heap.get?_push_of_some (tupObj us) hC
  have hC2 := Heap.get?_push_of_some (excObj C h.objs.size) hC1
  refine wpAny_bind ?_
  show wpAny _ _ (newObjAsIs (.ref C) _ _) _ _ _
  unfold newObjAsIs classHasDel
  refine wpAny_bind (wpAny_alloc (wpAny_bind (wpAny_bind (wpAny_load hC2 (wpAny_pure ?_)))))
  rw [e2]
  refine wpAny_pure (wpAny_pure ?_)
  show R _ _
  rw [Heap.size_push]
  exact hq
end
end L2
end
section
set_option Elab.async false
set_option linter.all false
set_option maxRecDepth 100000
set_option maxHeartbeats 4000000
namespace L2
open PySem PySem.Spec PyProof.Rows
section
variable {prog : Program} {w : World} {A : Around} {C f : Addr} {R : Result → Shared → Prop} {h : Heap} {g : Array GenState} {d : Drawn} {t : Nat} {os : OsState}
theorem exc_make {us : List Value} (Y : XMakes (model prog w) h C) (hi : PySem.W.Looks (model prog w) h (typeLookup (.ref C) "__init__") (some (.ref f))) (hb : ∀ self, PySem.W.Looks (model prog w) h (bindSpecial (.ref f) self) (.ref f, [self])) (hus : us.length ≤ sizeLine)
    (hq : codeAny (model prog w) (A.under (.builtin "type.__call__" ⟨.ref C :: us, []⟩)) (.call (.ref f) ⟨.ref (h.objs.size + 1) :: us, []⟩) (PySem.W.InitBack (h.objs.size + 1) R) ⟨(h.push (tupObj us)).push (excObj C h.objs.size), g, d, t, os⟩) :
    codeAny (model prog w) A (.call (.ref C) ⟨us, []⟩) R ⟨h, g, d, t, os⟩ := by
  have Y' := Y
  obtain ⟨⟨oc, od, cd, sl, hC, e2, e4⟩, made, base, self, exc, noA, noN, call, typ⟩ := Y
  refine codeAny_of_tree ?_
  show wpAny _ _ (callAny (.ref C) _) _ _ _
  refine PySem.W.nd_load hC ?_
  show wpAny _ _ (callAny.viaDunder (.ref C) _) _ _ _
  unfold callAny.viaDunder
  refine wpAny_bind (call.at ?_)
  dsimp only
  rw [tc_bind]
  refine wpAny_bind (wpAny_pure (wpAny_bind (wpAny_pure ?_)))
  refine wpAny_pure (a := Fin.again (.call (.builtin "type.__call__") ⟨.ref C :: us, []⟩)) (And.intro rfl ?_)
  refine codeAny_call_builtin_at (Code.quiet_builtin _ (by decide +kernel)) entry_typeCall (PySem.W.check_slot tc_kind tc_split typ (PySem.W.tc_args _ _ _) ?_)
  unfold Builtin.«type.__call__»
  have hm : PySem.W.Looks (model prog w) h (mroOf (.ref C)) cd.mro := ((PySem.W.Looks.ld (part := none) hC).andThen .now).andThen .now
  repeat (first | simp only [e4, Bool.false_eq_true, if_false] | with_reducible refine wpAny_call ?_ | lk)
  refine exc_new Y' hus ?_
  have kp : ∀ b o, h.get? b = some o → ((h.push (tupObj us)).push (excObj C h.objs.size)).get? b = some o := fun b o e => Heap.get?_push_of_some _ (Heap.get?_push_of_some _ e)
  have hx : ((h.push (tupObj us)).push (excObj C h.objs.size)).get? (h.objs.size + 1) = some (excObj C h.objs.size) := by heap_get
  have t1 : PySem.W.Looks (model prog w) ((h.push (tupObj us)).push (excObj C h.objs.size)) (typeOf (.ref (h.objs.size + 1))) (.ref C) := (PySem.W.Looks.ld hx).andThen .now
  have s1 := self.keeps kp
  have i1 := hi.keeps kp
  have b1 := (hb (.ref (h.objs.size + 1))).keeps kp
  unfold isInstance callSpecial? specialOf
  repeat (first | with_reducible refine wpAny_call ?_ | lk)
  refine codeAny_mono hq fun r s' z => ?_
  rcases r with e | (v | _ | _ | _) <;> first | exact z | exact z.elim | skip
  obtain ⟨rfl, z⟩ := z
  exact wpAny_pure (wpAny_pure z)
end
/-- what a class of errors must have to be made -/
structure MkX (K : PySem.W.Frag) (C f : Addr) : Prop where
  makes : exMakesIn K C = true
  init : PySem.W.findIn K (.ref C) "__init__" = some (some (.ref f))
  fn : PySem.W.isFn K (.ref f) = true
  kp : PySem.W.keepIn K (.ref C) = true
/-- C(..): a new error, then its __init__ -/
def tMakeX (C : Addr) (sp : Sp) (W : WX) (t : TA) : TE := fun σ H Q => t σ H fun vs H1 => vs.length ≤ 1000 ∧ ∀ x, H1 x = none → sp (.ref x :: vs) (upd H1 x (xO C true none .none x)) (fun v H2 => v = .non ∧ Q (.ref x) H2) (W σ)
section
variable {X : Cx} {W : WX} {k : Nat} {f C : Addr} {fd : FuncData} {ps : List Str} {sp : Sp} {x : Str} {p pos : Pos} {e : Expr} {es : List Expr} {t : TA} {cm : Bool}
theorem run_makeX {pins : List (Addr × Obj)} {σ : St} {H : Hp} {s : Shared} {Q : VK} {us : List Value} {vs : List V} (M : MkX X.K C f) (F : FnOk X.prog X.w X.K X.mg X.base (CXo X.prog X.w) cm k f fd ps sp) (hr : Room cm (k + 1) X.A) (hb : Binds X.K fd ps [])
    (tk : Takes X W) (I : Inv X pins σ H s) (r : Vals vs us) (hl : vs.length ≤ 1000)
    (h : ∀ x, H x = none → sp (.ref x :: vs) (upd H x (xO C true none .none x)) (fun v H2 => v = .non ∧ Q (.ref x) H2) (W σ)) :
    wpAny (model X.prog X.w) X.A (call (.ref C) us) (EP X pins σ Q) X.xe s := by
  obtain ⟨hp, g, d, tk0, os⟩ := s
  have hq := h (hp.objs.size + 1) (I.hok.fresh (Nat.le_succ _))
  have I1 : Inv X pins σ H ⟨hp.push (tupObj us), g, d, tk0, os⟩ := I.kept (h' := hp.push (tupObj us)) (t' := tk0) (fun b u e => Heap.get?_push_of_some _ e)
  have hx : ((hp.push (tupObj us)).push (excObj C hp.objs.size)).get? (hp.objs.size + 1) = some (excObj C hp.objs.size) := by heap_get
  have I2 : Inv X pins σ (upd H (hp.objs.size + 1) (xO C true none .none (hp.objs.size + 1))) ⟨(hp.push (tupObj us)).push (excObj C hp.objs.size), g, d, tk0, os⟩ :=
    I1.laid (h' := (hp.push (tupObj us)).push (excObj C hp.objs.size)) (t' := tk0) (fun b u e => Heap.get?_push_of_some _ e) (by show (hp.push (tupObj us)).objs.size ≤ _; rw [Heap.size_push]; exact Nat.le_refl _) (xO_ok ⟨_, _, hx, rfl, rfl, fun _ => rfl⟩)
  have r2 : Vals (V.ref (hp.objs.size + 1) :: vs) (Value.ref (hp.objs.size + 1) :: us) := .cons rfl r
  have hl2 : (Value.ref (hp.objs.size + 1) :: us ++ []).length = ps.length := by
    have e := r2.length
    rw [F.len _ _ _ _ hq] at e
    simpa using e.symm
  have hbd := hb ⟨(hp.push (tupObj us)).push (excObj C hp.objs.size), g, d, tk0, os⟩ (Value.ref (hp.objs.size + 1) :: us) I2.kIn hl2
  rw [List.append_nil] at hbd
  have hfn : PySem.W.typeIn X.K (.ref f) = some (.type "function") := beq_iff_eq.mp M.fn
  refine wpAny_call (exc_make (f := f) (xmakes_of I.kIn M.makes) (PySem.W.looks_findIn I.kIn M.init) (fun self => PySem.W.bind_fn I.kIn self hfn) (by rw [← r.length]; exact Nat.le_trans hl (by decide))
    (codeAny_mono (F.run _ X.stack _ _ ⟨Value.ref (hp.objs.size + 1) :: us, []⟩ (Value.ref (hp.objs.size + 1) :: us) _ _ (W σ) (hr.make C us []) (I2.env0.make C us []) hbd r2 hq) fun r s' hq' => ?_))
  cases r with
  | error e =>
    have z := tk.passes pins σ _ _ e s' I2 hq'
    exact z
  | ok fl =>
    cases fl with
    | ret u =>
      obtain ⟨v, H', I3, rv, ev, q3⟩ := I2.after hq'
      subst ev
      exact ⟨rv, ⟨V.ref (hp.objs.size + 1), H', I3, rfl, q3⟩⟩
    | next => exact False.elim hq'
    | brk => exact False.elim hq'
    | cont => exact False.elim hq'
theorem pe_makeX (M : MkX X.K C f) (F : FnOk X.prog X.w X.K X.mg X.base (CXo X.prog X.w) cm k f fd ps sp) (hr : Room cm (k + 1) X.A) (hg : Gl X x) (hm : X.mg x = some (.ref C)) (hb : Binds X.K fd ps []) (tk : Takes X W)
    (ha : PA X (e :: es) t) (hdb : (x == ("__debug__" : Str)) = false := by decide) (he : starEach (e :: es) X.env = (false, eval e X.env) :: starEach es X.env := by rfl) (hpl : (backTo pos (starEach es X.env)).any (·.1) = false := by rfl) :
    PE X (.Call (.Name x p) (e :: es) [] pos) (tMakeX C sp W t) := by
  intro pins s σ H Q I h
  refine wpAny_Call_Name_kw (ld_glob I hg hm ?_ hdb)
  refine PySem.W.callWith_K (h₀ := X.base) I.ok.mod.kin M.kp (thn (ha pos pins s σ H _ I h) fun us s1 ⟨vs, H1, I1, r, hl, q⟩ => ⟨I1.kIn, ?_⟩) he hpl
  exact run_makeX M F hr hb tk I1 r hl q
theorem pe_makeX0 (M : MkX X.K C f) (F : FnOk X.prog X.w X.K X.mg X.base (CXo X.prog X.w) cm k f fd ps sp) (hr : Room cm (k + 1) X.A) (hg : Gl X x) (hm : X.mg x = some (.ref C)) (hb : Binds X.K fd ps []) (tk : Takes X W)
    (hdb : (x == ("__debug__" : Str)) = false := by decide) : PE X (.Call (.Name x p) [] [] pos) (tMakeX C sp W tNil) := by
  intro pins s σ H Q I h
  refine wpAny_Call_Name_kw (ld_glob I hg hm ?_ hdb)
  exact PySem.W.callWith_K0 I.kIn M.kp (run_makeX (us := []) M F hr hb tk I .nil h.1 h.2)
end
end L2
end
section
set_option Elab.async false
set_option linter.all false
set_option maxRecDepth 100000
set_option maxHeartbeats 4000000
namespace L2
open PySem PySem.Spec PyProof.Rows
open Builtin.ObjectAttr
def onlyExc : List Value → Bool
  | [.type a, .type b, .type c] => a == "Exception" && b == "BaseException" && c == "object"
  | .ref _ :: r => onlyExc r
  | _ => false
theorem refuse_exc (self : Value) : ∀ {l : List Value}, onlyExc l = true → refuseLoop self "__setattr__" l = pure ()
  | [], e => by cases e
  | .ref c :: r, e => by
    rw [refuseLoop_ref]
    exact refuse_exc self (l := r) (by unfold onlyExc at e; exact e)
  | [.type a, .type b, .type c], e => by
    have e' : (a == "Exception" && b == "BaseException" && c == "object") = true := e
    simp only [Bool.and_eq_true, beq_iff_eq] at e'
    obtain ⟨⟨rfl, rfl⟩, rfl⟩ := e'
    exact PySem.F.store_Exception.passes self
theorem exc_has_object : ∀ {l : List Value}, onlyExc l = true → l.contains (.type "object") = true ∧ l.contains (.type "BaseException") = true
  | [], e => by cases e
  | .ref c :: r, e => by
    have z := exc_has_object (l := r) (by unfold onlyExc at e; exact e)
    rw [List.contains_cons, List.contains_cons, z.1, z.2]
    exact ⟨Bool.or_true _, Bool.or_true _⟩
  | [.type a, .type b, .type c], e => by
    have e' : (a == "Exception" && b == "BaseException" && c == "object") = true := e
    simp only [Bool.and_eq_true, beq_iff_eq] at e'
    obtain ⟨⟨rfl, rfl⟩, rfl⟩ := e'
    exact ⟨by decide, by decide⟩
def exOver (K : PySem.W.Frag) (C : Addr) : Bool := (PySem.W.clsIn K C).any fun cd => onlyExc cd.mro
/-- what a class of errors must have so that its errors bear attributes -/
structure XCls (K : PySem.W.Frag) (C : Addr) : Prop where
  po : exOver K C = true
  hd : PySem.W.hasDictIn K C = true
  sa : PySem.W.findIn K (.ref C) "__setattr__" = some (some (.builtin "object.__setattr__"))
  ga : PySem.W.findIn K (.ref C) "__getattribute__" = some (some (.builtin "BaseException.__getattribute__"))
  gh : PySem.W.findIn K (.ref C) "__getattr__" = some none
section
variable {prog : Program} {w : World} {A : Around} {K : PySem.W.Frag} {s : Shared} {x C : Addr} {R : Result → Shared → Prop}
theorem xosa_open {ox : Obj} {od : Option Obj} {name : Str} {tk : Tok} {v : Value} (KX : K.In s.heap) (I : PySem.W.InstAt s.heap x ox C od) (hp : exOver K C = true) (ht : NoAttr K C name)
    (h : ∀ b, wpAny (model prog w) A.in1 (storeInOwnDict (.ref x) (.ref C) (.str name tk) name v b)
      (fun fin s' => match fin with | .done f => R (.ok f) s' | .again c' => c'.quiet = true ∧ codeAny (model prog w) A c' R s') (fun e s' => R (.error e) s') s) :
    codeAny (model prog w) A (.call (.builtin "object.__setattr__") ⟨[.ref x, .str name tk, v], []⟩) R s := by
  have SF := PySem.F.store_object
  obtain ⟨cd, hc, ho⟩ := PySem.W.any_some hp
  have ne : cd.mro.isEmpty = false := by
    cases q : cd.mro with
    | nil => rw [q] at ho; cases ho
    | cons _ _ => rfl
  have sub : PySem.W.Looks (model prog w) s.heap (isInstance (.ref x) (.type "object")) true := I.type.andThen (PySem.W.looks_mroIn KX (by
    unfold PySem.W.mroIn
    rw [hc, Option.bind_some, if_neg (by rw [ne]; decide), (exc_has_object ho).1]))
  refine codeAny_call_builtin SF.slot.plain SF.entry (@PySem.W.check_slot (model prog w) _ _ s "object.__setattr__" "object" "__setattr__" (.ref x) [.str name tk, v] [] _ SF.kind SF.split sub (SF.args (.ref x) (.str name tk) v) ?_)
  have hm : PySem.W.Looks (model prog w) s.heap (mroOf (.ref C)) cd.mro := (PySem.W.looks_clsIn KX hc).andThen .now
  rw [PySem.W.osa_eq, refuse_eq]
  refine wpAny_bind (wpAny_bind (I.type.here (wpAny_bind (hm.here ?_))))
  rw [refuse_exc _ ho]
  exact wpAny_pure (wpAny_bind (I.type.here (wpAny_bind ((PySem.W.looks_findIn KX ht).here (wpAny_bind (wpAny_pure (h _)))))))
end
section
variable {X : Cx} {pins : List (Addr × Obj)} {σ : List (Option V)} {H : Hp} {s : Shared} {a C d : Addr} {fr : Bool} {tb : Value} {A : Around} {E : Value → Shared → Prop} {f : Str} {y : V} {u : Value} {fs : List (Str × V)}
/-- self.f = y, the first attribute of an error -/
theorem xset_new {Q : Unit → Shared → Prop} (I : Inv X pins σ H s) (e : H a = some (xO C fr none tb a)) (c : XCls X.K C) (n : NoAttr X.K C f) (ry : RelV y u)
    (h : ∀ d H' s', H d = none → d ≠ a → Inv X pins σ H' s' → H' a = some (xO C fr (some d) tb a) → H' d = some (.xd [(f, y)]) → (∀ b, b ≠ a → b ≠ d → H' b = H b) → Q () s') : wpAny (model X.prog X.w) A (setAttr (.ref a) f u) Q E s := by
  obtain ⟨vs, sl, g1, sz, v1, v2⟩ := I.xo e
  have J : PySem.W.InstAt s.heap a ⟨.ref C, none, .fields vs, sl⟩ C none := ⟨g1, rfl, rfl, True.intro⟩
  have I0 := I.tok (s.toks + 1)
  refine PySem.W.set_plain I.kIn J c.sa (xosa_open (s := { s with toks := s.toks + 1 }) I.kIn J c.po n fun b => ?_)
  obtain ⟨cd, hc, hd'⟩ := PySem.W.any_some c.hd
  refine wpAny_bind (wpAny_pure (wpAny_bind (wpAny_bind (wpAny_loadPart g1 (wpAny_bind (PySem.W.Looks.here (s := { s with toks := s.toks + 1 }) (PySem.W.looks_clsIn I.kIn hc) ?_))))))
  rw [hd']
  show wpAny _ A.in1 (alloc { cls := .type "dict", data := .dict #[] } >>= fun d => (update a fun o => { cls := o.cls, dict := some d, data := o.data, slots := o.slots }) >>= fun _ => dictMade (.ref C) a d) _ _ _
  refine wpAny_bind (wpAny_alloc ?_)
  generalize hd0 : s.heap.objs.size = d
  have dn : H d = none := I.hok.fresh (Nat.le_of_eq hd0)
  have da : a ≠ d := ne_of_none e dn
  have gD : (s.heap.push { cls := .type "dict", data := .dict #[] }).get? d = some { cls := .type "dict", data := .dict #[] } := by
    rw [← hd0]
    exact Heap.get?_push_size s.heap rfl
  have nD : (s.heap.push { cls := .type "dict", data := .dict #[] }).Ns d (fun _ => none) := ⟨_, #[], _, gD, rfl, fun z hz => absurd hz (by simp), fun _ => rfl⟩
  have I1 := I0.laid (a := d) (o := .xd []) (h' := s.heap.push { cls := .type "dict", data := .dict #[] }) (t' := s.toks + 1) (fun b q z => Heap.get?_push_of_some _ z) (Nat.le_of_eq hd0)
    ⟨fun _ => none, Heap.Ns1.of_empty nD, fun _ => True.intro, Nat.zero_le _, fun z hz => absurd rfl hz⟩
  have e1 : upd H d (.xd []) a = some (xO C fr none tb a) := by
    rw [upd_ne da]
    exact e
  have g2 : (s.heap.push { cls := .type "dict", data := .dict #[] }).get? a = some ⟨.ref C, none, .fields vs, sl⟩ := Heap.get?_push_of_some _ g1
  refine wpAny_bind (wpAny_update g2 ?_)
  have g3 : ((s.heap.push { cls := .type "dict", data := .dict #[] }).update a fun o => { cls := o.cls, dict := some d, data := o.data, slots := o.slots }).get? a = some ⟨.ref C, some d, .fields vs, sl⟩ := Heap.get?_update_self _ g2 rfl
  have I2 := I1.write (x := a) (e := a) (o := xO C fr (some d) tb a) (t' := s.toks + 1) (h' := (s.heap.push { cls := .type "dict", data := .dict #[] }).update a fun o => { cls := o.cls, dict := some d, data := o.data, slots := o.slots })
    (by rw [e1]; exact mut_xO) (.inl rfl) (fun b q hb z => (Heap.get?_update_other _ _ (Ne.symm hb)).trans z) ⟨_, g3⟩ (xO_ok ⟨vs, sl, g3, sz, v1, v2⟩)
  have e2 : upd (upd H d (.xd [])) a (xO C fr (some d) tb a) d = some (.xd []) := by
    rw [upd_ne (Ne.symm da)]
    exact upd_same
  refine wpAny_pure (a := some d) ?_
  show wpAny _ _ (storeInDict d (.str f s.toks) f u) _ _ _
  unfold storeInDict newKeyGuard
  obtain ⟨mA, n1, r1, l1, w1⟩ := (show ObjOk X.prog X.w _ _ d (.xd []) from I2.hok d _ e2)
  refine wpAny_bind (wpAny_pure (wpAny_bind (wpAny_nsSet1 n1 fun h3 n3 s3 => ?_)))
  obtain ⟨oD, esD, epD, hoD, hdD, hcD⟩ := n3.count (PySem.Within.cons f u w1)
  refine wpAny_bind (wpAny_lookBehind hoD (by rw [hdD]; exact pastItsLine_dict (Nat.le_trans hcD (by show 1 ≤ _; rw [sizeLine_eq]; decide))) ?_)
  refine wpAny_pure (h d (upd (upd (upd H d (.xd [])) a (xO C fr (some d) tb a)) d (.xd [(f, y)])) _ dn (Ne.symm da) (I2.write (x := d) (e := d) (by rw [e2]; exact True.intro) (.inl rfl) (fun b q hb z => (s3.2 b hb).trans z) ⟨_, hoD⟩
    ⟨_, n3, fun g => ?_, by show 1 ≤ 1000; decide, fun g hg => ?_⟩) ?_ upd_same fun b hb hbd => ?_)
  · show RelO (List.lookup g [(f, y)]) (if g = f then some u else mA g)
    by_cases q : g = f
    · rw [if_pos q, q]
      simp only [List.lookup_cons, beq_self_eq_true]
      exact ry
    · rw [if_neg q]
      have q' : (g == f) = false := by simpa using q
      simp only [List.lookup_cons, q', List.lookup_nil]
      exact r1 g
  · show g ∈ [f]
    by_cases q : g = f
    · rw [q]
      exact List.mem_singleton.mpr rfl
    · have z : mA g ≠ none := fun z => hg (by show (if g = f then some u else mA g) = none; rw [if_neg q]; exact z)
      exact absurd (w1 g z) (by simp)
  · rw [upd_ne da]
    exact upd_same
  · rw [upd_ne hbd, upd_ne hb, upd_ne hbd]
/-- self.f = y, a further attribute -/
theorem xset_old {Q : Unit → Shared → Prop} (I : Inv X pins σ H s) (e : H a = some (xO C fr (some d) tb a)) (ed : H d = some (.xd fs)) (c : XCls X.K C) (n : NoAttr X.K C f) (hl : fs.length < 1000) (ry : RelV y u)
    (h : ∀ s', Inv X pins σ (upd H d (.xd (putF f y fs))) s' → Q () s') : wpAny (model X.prog X.w) A (setAttr (.ref a) f u) Q E s := by
  obtain ⟨vs, sl, g1, sz, v1, v2⟩ := I.xo e
  have da : a ≠ d := ne_of e ed (by intro z; cases z)
  obtain ⟨mA, n1, r1, l1, w1⟩ := (show ObjOk X.prog X.w _ _ d (.xd fs) from I.hok d _ ed)
  obtain ⟨od, god, _⟩ := lookIn_ns n1
  have J : PySem.W.InstAt s.heap a ⟨.ref C, some d, .fields vs, sl⟩ C (some od) := ⟨g1, rfl, rfl, god⟩
  have I0 := I.tok (s.toks + 1)
  refine PySem.W.set_plain I.kIn J c.sa (xosa_open (s := { s with toks := s.toks + 1 }) I.kIn J c.po n fun b => ?_)
  obtain ⟨cd, hc, hd'⟩ := PySem.W.any_some c.hd
  refine wpAny_bind (wpAny_pure (wpAny_bind (wpAny_bind (wpAny_loadPart g1 (wpAny_bind (PySem.W.Looks.here (s := { s with toks := s.toks + 1 }) (PySem.W.looks_clsIn I.kIn hc) ?_))))))
  rw [hd']
  refine wpAny_pure (a := some d) ?_
  show wpAny _ _ (storeInDict d (.str f s.toks) f u) _ _ _
  unfold storeInDict newKeyGuard
  refine wpAny_bind (wpAny_pure (wpAny_bind (wpAny_nsSet1 n1 fun h3 n3 s3 => ?_)))
  obtain ⟨oD, esD, epD, hoD, hdD, hcD⟩ := n3.count (PySem.Within.cons f u w1)
  refine wpAny_bind (wpAny_lookBehind hoD (by rw [hdD]; exact pastItsLine_dict (Nat.le_trans hcD (by rw [List.length_cons, List.length_map, sizeLine_eq]; omega))) ?_)
  refine wpAny_pure (h _ (I0.write (x := d) (e := d) (by rw [ed]; exact True.intro) (.inl rfl) (fun b q hb z => (s3.2 b hb).trans z) ⟨_, hoD⟩ ⟨_, n3, fun g => ?_, ?_, fun g hg => ?_⟩))
  · show RelO ((putF f y fs).lookup g) (if g = f then some u else mA g)
    rw [lookup_putF]
    by_cases q : g = f
    · rw [if_pos q, if_pos q]
      exact ry
    · rw [if_neg q, if_neg q]
      exact r1 g
  · have := length_putF f y fs
    omega
  · by_cases q : g = f
    · rw [q]
      exact (keys_putF f y fs).1
    · refine (keys_putF f y fs).2 g (w1 g fun z => hg ?_)
      show (if g = f then some u else mA g) = none
      rw [if_neg q]
      exact z
end
end L2
end
section
set_option Elab.async false
set_option linter.all false
set_option maxRecDepth 100000
set_option maxHeartbeats 400000
namespace L2
open PySem PySem.Spec PyProof.Rows
theorem ga_kind : builtinKind "BaseException.__getattribute__" = some .slot := by decide +kernel
theorem ga_split : splitId "BaseException.__getattribute__" = some ("BaseException", "__getattribute__") := by decide +kernel
section
variable {X : Cx} {pins : List (Addr × Obj)} {σ : List (Option V)} {H : Hp} {s : Shared} {a C d : Addr} {fr : Bool} {tb : Value} {A : Around} {E : Value → Shared → Prop} {f : Str} {v : V} {fs : List (Str × V)}
theorem xget_ok {b : Bool} {Q : Value → Shared → Prop} (I : Inv X pins σ H s) (e : H a = some (xO C fr (some d) tb a)) (ed : H d = some (.xd fs)) (c : XCls X.K C) (n : NoAttr X.K C f) (l : fs.lookup f = some v)
    (h : ∀ u s', Inv X pins σ H s' → RelV v u → Q u s') : wpAny (model X.prog X.w) A (getAttr (.ref a) f b) Q E s := by
  obtain ⟨vs, sl, g1, sz, v1, v2⟩ := I.xo e
  obtain ⟨mA, n1, r1, l1, w1⟩ := (show ObjOk X.prog X.w _ _ d (.xd fs) from I.hok d _ ed)
  obtain ⟨od, god, lk0⟩ := lookIn_ns n1
  have J : PySem.W.InstAt s.heap a ⟨.ref C, some d, .fields vs, sl⟩ C (some od) := ⟨g1, rfl, rfl, god⟩
  obtain ⟨u, hu, ru⟩ : ∃ u, mA f = some u ∧ RelV v u := by
    have z := r1 f
    rw [l] at z
    cases q : mA f with
    | none => rw [q] at z; exact z.elim
    | some u => rw [q] at z; exact ⟨u, rfl, z⟩
  have FX := PySem.F.attr_Exception
  have L0 := J.type (M := model X.prog X.w)
  have L1 := PySem.W.looks_findIn (M := model X.prog X.w) I.kIn c.ga
  have L2' := PySem.W.looks_findIn (M := model X.prog X.w) I.kIn c.gh
  have LF := PySem.W.looks_find (M := model X.prog X.w) I.kIn J (PySem.W.findObj_own (name := f) c.hd n rfl (by rw [lk0, hu]))
  obtain ⟨cd, hc, ho⟩ := PySem.W.any_some c.po
  have ne : cd.mro.isEmpty = false := by
    cases q : cd.mro with
    | nil => rw [q] at ho; cases ho
    | cons _ _ => rfl
  have sub : PySem.W.Looks (model X.prog X.w) s.heap (isInstance (.ref a) (.type "BaseException")) true := J.type.andThen (PySem.W.looks_mroIn I.kIn (by
    unfold PySem.W.mroIn
    rw [hc, Option.bind_some, if_neg (by rw [ne]; decide), (exc_has_object ho).2]))
  have I' := I.tok (s.toks + 1)
  obtain ⟨hp, g, dr, tk, os⟩ := s
  unfold getAttr getAttrBy
  refine wpAny_bind (wpAny_mkText (wpAny_holding (wpAny_bind (L0.at (wpAny_bind (L1.at ?_))))))
  dsimp only
  rw [if_neg (by simp)]
  unfold getAttrByItsOwn hookBefore
  rw [if_pos (by rfl)]
  refine wpAny_bind (L2'.at ?_)
  refine wpAny_bind (wpAny_attempt (wpAny_holding ?_))
  unfold callGetattribute
  rw [if_neg (by cases b <;> decide)]
  unfold boundAndCalled
  rw [FX.ga.bind]
  refine wpAny_bind (wpAny_pure (wpAny_call ?_))
  refine codeAny_call_builtin FX.ga.plain PySem.F.entry_bexc_ga (@PySem.W.check_slot (model X.prog X.w) _ _ ⟨hp, g, dr, tk + 1, os⟩ "BaseException.__getattribute__" "BaseException" "__getattribute__" (.ref a) [.str f tk] [] _ ga_kind ga_split sub (PySem.F.args_bexc_ga _ _) ?_)
  show wpAny _ _ (typeOf (.ref a) >>= fun tp => Builtin.ObjectAttr.find (.ref a) tp f >>= _) _ _ _
  refine wpAny_bind (L0.at (wpAny_bind (LF.at ?_)))
  refine wpAny_pure ?_
  show wpAny _ _ (handedOut u) _ _ _
  rw [PySem.W.handedOut_of (handed_of ru)]
  exact wpAny_pure (h u _ I' ru)
end
end L2
end
section
set_option Elab.async false
set_option linter.all false
set_option maxRecDepth 100000
set_option maxHeartbeats 1000000
namespace L2
open PySem PySem.Spec PyProof.Rows
/-! ### attributes of errors, as expressions and statements -/
def tFldX (K : PySem.W.Frag) (ta : TE) (f : Str) : TE := fun σ H Q => ta σ H fun x H1 => ∃ a C fr d tb fs v, x = .ref a ∧ H1 a = some (xO C fr (some d) tb a) ∧ H1 d = some (.xd fs) ∧ XCls K C ∧ NoAttr K C f ∧ fs.lookup f = some v ∧ Q v H1
/-- o.f = e, o an error: its first attribute, or a further one -/
def sFldX (K : PySem.W.Frag) (ta tv : TE) (f : Str) : TS := fun D σ H => tv σ H fun y H1 => ta σ H1 fun x H2 => ∃ a C fr dx tb, x = .ref a ∧ H2 a = some (xO C fr dx tb a) ∧ XCls K C ∧ NoAttr K C f ∧
  ((dx = none ∧ ∀ d H3, H2 d = none → d ≠ a → H3 a = some (xO C fr (some d) tb a) → H3 d = some (.xd [(f, y)]) → (∀ b, b ≠ a → b ≠ d → H3 b = H2 b) → D.nx σ H3) ∨
    ∃ d fs, dx = some d ∧ H2 d = some (.xd fs) ∧ fs.length < 1000 ∧ D.nx σ (upd H2 d (.xd (putF f y fs))))
section
variable {X : Cx} {o e value : Expr} {f : Str} {pos pos' : Pos} {ta tv : TE}
theorem pe_fldX (he : PE X e ta) (hb : attributeBase e f X.env (eval e X.env) = eval e X.env) : PE X (.Attribute e f pos) (tFldX X.K ta f) := by
  intro pins s σ H Q I h
  refine attr_of hb (thn (he pins s σ H _ I h) fun u s1 ⟨x, H1, I1, rx, a, C, fr, d, tb, fs, v, ex, ea, ed, c, n, l, q⟩ => ?_)
  subst ex
  obtain rfl : u = Value.ref a := rx
  exact xget_ok I1 ea ed c n l fun u' s2 I2 ru => ⟨v, H1, I2, ru, q⟩
theorem ps_fldX (ha : PE X o ta) (hv : PE X value tv) (hs : swapsWith value (some (.Attribute o f pos')) pos.line X.env = pure false) : PS X (.Assign [.Attribute o f pos'] value pos) (sFldX X.K ta tv f) := by
  intro pins s σ H D I h
  refine plainObj_wpAny_Assign_Attribute (thn (hv pins s σ H _ I h) fun u s1 ⟨y, H1, I1, ry, q⟩ => thn (ha pins s1 σ H1 _ I1 q) fun ov s2 ⟨x, H2, I2, rx, a, C, fr, dx, tb, ex, ea, c, n, q2⟩ => ?_) hs
  subst ex
  obtain rfl : ov = Value.ref a := rx
  rcases q2 with ⟨rfl, q2⟩ | ⟨d, fs, rfl, ed, l, q2⟩
  · exact xset_new I2 ea c n ry fun d H3 s3 dn da I3 e3 e4 kp => ⟨σ, H3, I3, q2 d H3 dn da e3 e4 kp⟩
  · exact xset_old I2 ea ed c n l ry fun s3 I3 => ⟨σ, _, I3, q2⟩
end
/-! ### C.m(..), C a class of the text: its def, called with the written arguments alone -/
structure CAt (K : PySem.W.Frag) (C : Addr) (m : Str) (f : Addr) : Prop where
  ga : PySem.W.specialIn K (.ref C) "__getattribute__" = some (some (.builtin "type.__getattribute__"))
  rd : PySem.W.readsIn K C (.type "type") = true
  fd : PySem.W.findCls K (.ref C) (.type "type") m = some (.val (.ref f))
  kp : PySem.W.keepIn K (.ref f) = true
section
variable {X : Cx} {W : WX} {CX : CXT} {k : Nat} {f C : Addr} {fd : FuncData} {ps : List Str} {sp : Sp} {x m : Str} {p pos apos : Pos} {e : Expr} {es : List Expr} {t : TA} {cm : Bool}
theorem pe_ccall {pl : Sem Bool} (F : FnOk X.prog X.w X.K X.mg X.base CX cm k f fd ps sp) (hr : Room cm k X.A) (hg : Gl X x) (hm : X.mg x = some (.ref C)) (hc : CAt X.K C m f) (hb : Binds X.K fd ps []) (hx : Passes CX X W) (ha : PA X (e :: es) t)
    (hdb : (x == ("__debug__" : Str)) = false := by decide)
    (hst : starEach (e :: es) X.env = (false, eval e X.env) :: starEach es X.env := by rfl) (hpl : (backTo pos (starEach es X.env)).any (·.1) = false := by rfl)
    (ht : eval (.Call (.Attribute (.Name x p) m apos) (e :: es) [] pos) X.env = (do
      let ov ← eval (.Name x p) X.env
      standAt apos.atName
      let (f, first) ← holding [ov] (getMethod ov m pl)
      callWith pos f first (backTo pos (starEach (e :: es) X.env)) (backToKw pos (keywordEach [] X.env))) := by rfl) :
    PE X (.Call (.Attribute (.Name x p) m apos) (e :: es) [] pos) (tCall sp [] W t) := by
  intro pins s σ H Q I h
  refine PySem.W.methodCall_KW (pl := pl) (ld_glob I hg hm ?_ hdb) ht
  refine PySem.W.method_cls I.kIn hc.ga (PySem.W.cls_value I.kIn hc.rd hc.fd rfl ?_)
  have I0 := I.tok (s.toks + 1)
  refine PySem.W.callWith_K (h₀ := X.base) I.ok.mod.kin hc.kp (thn (ha pos pins { s with toks := s.toks + 1 } σ H _ I0 h) fun us s1 ⟨vs, H1, I1, r, q⟩ => ⟨I1.kIn, ?_⟩) hst hpl
  exact run_fn F hr hb .nil hx I1 r q
end
end L2
end
section
set_option Elab.async false
set_option linter.all false
set_option maxRecDepth 100000
set_option maxHeartbeats 4000000
namespace L2
open PySem PySem.Spec PyProof.Rows
section
variable {X : Cx}
theorem lc_coreX {E : XK} {pins : List (Addr × Obj)} {s : Shared} {σ : St} {H : Hp} {Q : VK} {elt tg iter : Expr} {ifs : List Expr} {scope : Scope} {own : List (Str × Nat)} {pos pos' : Pos} {wi : TI} {g : TG} {tt : TT} {te : TE} {use : Option (Value → Sem Unit)} {Qf : Value → Shared → Prop}
    (tk : Takes X (fun _ => E)) (hst : X.stack = X.env :: X.outer) (hfm : X.env.frame = some X.env.locals) (hc : X.calm = true) (hN : X.N.Nodup) (I : Inv X pins σ H s) (hi : PI X tg iter wi) (ok : BlkOk X.N X.env.scope scope own)
    (hg : ∀ (s : Shared) (H : Hp) (C : Addr) (cl : List (Str × Addr)) (fp : List Addr) (xe : Value → Shared → Prop), Takes ((X.blk s H scope (compEnvC scope cl C X.env) fp).wish xe) (fun _ => E) → PG ((X.blk s H scope (compEnvC scope cl C X.env) fp).wish xe) tg g) (ht : ∀ (s : Shared) (H : Hp) (C : Addr) (cl : List (Str × Addr)) (fp : List Addr) (xe : Value → Shared → Prop), Takes ((X.blk s H scope (compEnvC scope cl C X.env) fp).wish xe) (fun _ => E) → PTs ((X.blk s H scope (compEnvC scope cl C X.env) fp).wish xe) ifs tt)
    (he : ∀ (s : Shared) (H : Hp) (C : Addr) (cl : List (Str × Addr)) (fp : List Addr) (xe : Value → Shared → Prop), Takes ((X.blk s H scope (compEnvC scope cl C X.env) fp).wish xe) (fun _ => E) → PE ((X.blk s H scope (compEnvC scope cl C X.env) fp).wish xe) elt te) (hs : ∀ x, foldedSetIterable iter X.env x = pure x)
    (h : tLc wi g tt te (own.map (·.2)) σ H Q)
    (hRR : ∀ D C s' m H', Inv X pins σ H' s' → Q (.ref D) H' → s'.heap.Ns C m → FpOk X pins H' C → compPost (model X.prog X.w) X.A X.xe use Qf (.ref D) C (.ok .next) s') :
    wpAny (model X.prog X.w) X.A (comprehension (.ListComp elt [⟨tg, iter, ifs, 0⟩] scope pos) scope X.env pos' (newList []) false (eval iter X.env) use) Qf X.xe s := by
  have hfree : ∀ y ∈ scope.names, y.2 = .free → ∃ c, X.env.cells.lookup y.1 = some c := fun y hy e => by
    rcases ok.free y hy e with k | k
    · exact I.ok.has _ (.inl k)
    · exact I.ok.has _ (.inr k)
  refine wpAny_comprehension_free (use := use) rfl hs (closure_ok hfree) ok.kind (fun y hy e => by rw [ok.uniq y hy, e])
    (thn (hi pins s σ H _ I h) fun xv s1 hx => thn hx fun itv s2 h2 => ?_)
  obtain ⟨it, fp, tn, J, H2, e, I2, T, st2, f2, q⟩ := h2
  subst e
  refine wpAny_newObj_type (newEnv_comp ?_) (by show 0 ≤ sizeLine; decide)
  generalize hD : s2.heap.objs.size = D
  have hDn : H2 D = none := I2.hok.fresh (Nat.le_of_eq hD)
  obtain ⟨W, ⟨m0, w0⟩, turn⟩ := q D hDn
  -- the new list
  generalize hs3 : ({ s2 with heap := s2.heap.push { cls := .type "list", data := .seq ([] : List Value).toArray } } : Shared) = s3
  have I3 : Inv X pins σ (upd H2 D (.lst [])) s3 := by
    rw [← hs3]
    refine I2.laid (t' := s2.toks) (fun b o e => Heap.get?_push_of_some _ e) (Nat.le_of_eq hD) ⟨Nat.zero_le _, [], 0, .nil, ?_⟩
    rw [← hD]
    exact Heap.get?_push_size _ rfl
  have h3 : s3.heap = s2.heap.push { cls := .type "list", data := .seq ([] : List Value).toArray } := by rw [← hs3]
  have sz : ∀ b ∈ fp, b < s2.heap.objs.size := fun b hb => by
    obtain ⟨o, e, _⟩ := T.obj _ _ st2 b hb
    exact Heap.lt_size e
  have f3 : ∀ b ∈ fp, FpOk X pins (upd H2 D (.lst [])) b ∧ b < s3.heap.objs.size := fun b hb => by
    have hlt := sz b hb
    refine ⟨⟨?_, (f2 b hb).2⟩, by rw [h3, Heap.size_push]; exact Nat.lt_succ_of_lt hlt⟩
    rw [upd_ne (by rw [← hD]; exact Nat.ne_of_lt hlt)]
    exact (f2 b hb).1
  have st3 : tn 0 s3.heap := T.keep _ _ _ st2 fun b _ o e => by rw [h3]; exact Heap.get?_push_of_some _ e
  have I4 := block_start I3 ok hN f3
  let RR := compPost (model X.prog X.w) X.A X.xe use Qf (.ref D) s3.heap.objs.size
  let xeB : Value → Shared → Prop := notedBy (model X.prog X.w) X.A (compEnvC scope (cellsFrom (s3.heap.objs.size + 1) scope.names (cloFrom X.env.cells scope.names [])) s3.heap.objs.size X.env) (fun e s' => RR (.error e) s')
  have tkB : Takes ((X.blk s3 (upd H2 D (.lst [])) scope (compEnvC scope (cellsFrom (s3.heap.objs.size + 1) scope.names (cloFrom X.env.cells scope.names [])) s3.heap.objs.size X.env) fp).wish xeB) (fun _ => E) := by
    refine ⟨fun p5 σ5 H5 s5 a5 C5 fr5 dx5 I5 l5 w5 => ?_, PassesOwn.looking⟩
    refine note_ok (X := (X.blk s3 (upd H2 D (.lst [])) scope (compEnvC scope (cellsFrom (s3.heap.objs.size + 1) scope.names (cloFrom X.env.cells scope.names [])) s3.heap.objs.size X.env) fp).wish xeB) (L := X.env.locals) I5 I5.ok.frames hst hfm hfm l5 fun H6 s6 I6 m6 l6 => ?_
    have I7 : Inv X pins σ H6 s6 := I3.call' (ch := fp) I6.os I6.base I6.hok I6.bare fun b hb => ⟨(f3 b hb).1.2.2.2.1, (f3 b hb).1.2.1, (f3 b hb).1.2.2.2.2.1, (f3 b hb).1.2.2.2.2.2⟩
    have nC : H6 s3.heap.objs.size = none := I6.free
    obtain ⟨m7, hn7, _⟩ := I6.loc
    have hn7 : s6.heap.Ns s3.heap.objs.size m7 := hn7
    have F7 : FpOk X pins H6 s3.heap.objs.size := I3.fpOk (Nat.le_refl _) nC
    obtain ⟨f0, f1, f2, f3', f4, f5⟩ := F7
    refine ⟨m7, hn7, fun h8 sb8 cenv hce => ?_⟩
    have I8 : Inv X pins σ H6 { s6 with heap := h8 } := I7.turned (t' := s6.toks) (fun b o hb e => (sb8.2 b hb).trans e) f0 f1 f3' f4 f5
    exact passOn_ok I8 l6 fun H9 s9 I9 m9 l9 => tk.th pins σ H9 s9 a5 C5 fr5 dx5 I9 l9.live (by rw [m9, m6]; exact w5)
  have pg := hg s3 (upd H2 D (.lst [])) s3.heap.objs.size (cellsFrom (s3.heap.objs.size + 1) scope.names (cloFrom X.env.cells scope.names [])) fp xeB tkB
  have pt := ht s3 (upd H2 D (.lst [])) s3.heap.objs.size (cellsFrom (s3.heap.objs.size + 1) scope.names (cloFrom X.env.cells scope.names [])) fp xeB tkB
  have pe := he s3 (upd H2 D (.lst [])) s3.heap.objs.size (cellsFrom (s3.heap.objs.size + 1) scope.names (cloFrom X.env.cells scope.names [])) fp xeB tkB
  clear tkB
  show codeAny _ _ (.compStart (.ListComp elt [⟨tg, iter, ifs, 0⟩] scope pos) 0 (.ref it) (.ref D) (compEnvC scope (cellsFrom (s3.heap.objs.size + 1) scope.names (cloFrom X.env.cells scope.names [])) s3.heap.objs.size X.env)) (compPost (model X.prog X.w) X.A X.xe use Qf (.ref D) s3.heap.objs.size) { s3 with heap := pushCells (s3.heap.push { cls := .type "dict", data := .dict #[] }) scope.names }
  have nfp : ∀ b ∈ fp, (upd H2 D (.lst [])) b = none := fun b hb => (f3 b hb).1.1
  have hxe : xeB = notedBy (model X.prog X.w) X.A (compEnvC scope (cellsFrom (s3.heap.objs.size + 1) scope.names (cloFrom X.env.cells scope.names [])) s3.heap.objs.size X.env) (fun e s' => RR (.error e) s') := rfl
  clear_value xeB
  generalize hce : compEnvC scope (cellsFrom (s3.heap.objs.size + 1) scope.names (cloFrom X.env.cells scope.names [])) s3.heap.objs.size X.env = ce at I4 pg pt pe hxe ⊢
  have cL : ce.locals = s3.heap.objs.size := by subst hce; rfl
  generalize hH3 : upd H2 D (.lst []) = H3 at I3 I4 pg pt pe w0 nfp f3
  generalize hs4 : ({ s3 with heap := pushCells (s3.heap.push { cls := .type "dict", data := .dict #[] }) scope.names } : Shared) = s4 at I4 ⊢
  have st4 : tn 0 s4.heap := T.keep _ _ _ st3 fun b _ o e => by rw [← hs4]; exact pushCells_keeps _ _ _ _ (Heap.get?_push_of_some _ e)
  have stat : ∀ {σ' : St} {H' : Hp} {s' : Shared}, Inv (X.blk s3 H3 scope ce fp) [] σ' H' s' → (∀ b ∈ fp, H' b = none) → ∀ b ∈ fp, FpOk (X.blk s3 H3 scope ce fp) [] H' b := fun {σ' H' s'} I' hn b hb =>
    ⟨hn b hb, (I'.ok.exf b hb).1, I'.ok.exfs b hb, .inl hb, fun x c e => (I'.ok.exf b hb).2 x c e, fun p hp => absurd (show p ∈ ([] : List (Addr × Obj)) ++ [] from hp) (by simp)⟩
  have loop : codeAny (model X.prog X.w) X.A (.compLoop (.ListComp elt [⟨tg, iter, ifs, 0⟩] scope pos) 0 (.ref it) (.ref D) ce) (compPost (model X.prog X.w) X.A X.xe use Qf (.ref D) s3.heap.objs.size) s4 := by
    refine compLoop_any (fun n s' => ∃ i H', Inv (X.blk s3 H3 scope ce fp) [] (wipe σ (own.map (·.2))) H' s' ∧ tn i s'.heap ∧ (∀ b ∈ fp, H' b = none) ∧ W i n H') ?_ m0 ⟨0, H3, I4, st4, nfp, w0⟩
    rintro n s5 ⟨i, H5, I5, st5, n5, w5⟩
    rcases turn i n H5 w5 with ⟨stop, qq⟩ | ⟨go, Nx, hNx, step⟩
    · have td := T.done (X.blk s3 H3 scope ce fp) rfl rfl rfl hc i [] s5 _ H5 (fun _ _ => False) I5 (stat I5 n5) st5 stop
      refine thnF td fun r s6 ⟨hr, I6⟩ => ?_
      subst hr
      -- back in the def's context
      have I7 : Inv X pins σ H5 s6 := I3.call' (ch := fp) I6.os I6.base I6.hok I6.bare fun b hb => ⟨(f3 b hb).1.2.2.2.1, (f3 b hb).1.2.1, (f3 b hb).1.2.2.2.2.1, (f3 b hb).1.2.2.2.2.2⟩
      have nC : H5 s3.heap.objs.size = none := by
        have z : H5 ce.locals = none := I6.free
        rw [cL] at z
        exact z
      obtain ⟨m, hn, _⟩ := I6.loc
      have hn : s6.heap.Ns ce.locals m := hn
      rw [cL] at hn
      exact hRR D s3.heap.objs.size s6 m H5 I7 qq hn (I3.fpOk (Nat.le_refl _) nC)
    · have ti := T.item (X.blk s3 H3 scope ce fp) rfl rfl rfl hc i [] s5 _ H5 (fun _ _ => False) I5 (stat I5 n5) st5 go
      refine thnF ti fun r s6 ⟨u, hr, h6⟩ => ?_
      subst hr
      refine thnF h6 fun _ s7 ⟨x, H7, I7, r7, y7, st7, n7⟩ => ?_
      have I7' := I7.pinned (stat I7 n7) (T.obj _ _ st7)
      refine wpAny_mono (pg _ s7 _ H7 x u _ (I7'.wish xeB) r7 (step x H7 y7)) (fun _ s8 ⟨σ8, H8, I8w, hw8, q8⟩ => ?_) fun _ _ z => (by rw [← hxe]; exact z)
      have I8 := I8w.unwish
      refine wpAny_mono (pt _ s8 σ8 H8 _ (I8.wish xeB) q8) (fun b s9 ⟨H9, I9w, q9⟩ => ?_) fun _ _ z => (by rw [← hxe]; exact z)
      have I9 := I9w.unwish
      -- the turn's end
      have fin : ∀ {s' : Shared} {H' : Hp}, Inv (X.blk s3 H3 scope ce fp) ([] ++ pinsAt fp s7.heap) σ8 H' s' → Nx H' → ∃ m, m < n ∧ ∃ i H', Inv (X.blk s3 H3 scope ce fp) [] (wipe σ (own.map (·.2))) H' s' ∧ tn i s'.heap ∧ (∀ b ∈ fp, H' b = none) ∧ W i m H' := fun {s' H'} I' nx => by
        obtain ⟨m', hm, w'⟩ := hNx H' nx
        have pin' : ∀ b ∈ fp, ∀ o, s7.heap.get? b = some o → s'.heap.get? b = some o ∧ H' b = none := fun b hb o e =>
          let z := I'.pin (b, o) (List.mem_append_right _ (List.mem_append_right _ (mem_pinsAt hb e)))
          ⟨z.1, z.2.1⟩
        have hl : (wipe σ (own.map (·.2))).length = σ8.length := by rw [← hw8, wipe_length]
        refine ⟨m', hm, i + 1, H', (I'.unpinned (pins := [])).weak hl (fun j v e => ?_), T.keep _ _ _ st7 fun b hb o e => (pin' b hb o e).1, fun b hb => ?_, w'⟩
        · rw [← hw8] at e
          exact (wipe_some e).1
        · obtain ⟨o, e, _⟩ := T.obj _ _ st7 b hb
          exact (pin' b hb o e).2
      cases b with
      | false =>
        simp only [Bool.false_eq_true, if_false] at q9 ⊢
        exact fin I9 q9
      | true =>
        simp only [if_true] at q9 ⊢
        refine wpAny_mono (pe _ s9 σ8 H9 _ (I9.wish xeB) q9) (fun z s10 ⟨yv, H10, I10w, r10, acc, hD10, hz10, nx⟩ => ?_) fun _ _ z => (by rw [← hxe]; exact z)
        have I10 := I10w.unwish
        exact app_ok (X := X.blk s3 H3 scope ce fp) I10 hD10 hz10 r10 fun s11 I11 => fin I11 nx
  exact codeAny_compStart_list loop (T.self X.A 0 _ _ _ st4 loop)
/-- as a value -/
theorem pe_lcX {E : XK} {elt tg iter : Expr} {ifs : List Expr} {scope : Scope} {own : List (Str × Nat)} {pos : Pos} {wi : TI} {g : TG} {tt : TT} {te : TE} (tk : Takes X (fun _ => E)) (hst : X.stack = X.env :: X.outer) (hfm : X.env.frame = some X.env.locals) (hc : X.calm = true) (hN : X.N.Nodup) (hi : PI X tg iter wi) (ok : BlkOk X.N X.env.scope scope own)
    (hg : ∀ (s : Shared) (H : Hp) (C : Addr) (cl : List (Str × Addr)) (fp : List Addr) (xe : Value → Shared → Prop), Takes ((X.blk s H scope (compEnvC scope cl C X.env) fp).wish xe) (fun _ => E) → PG ((X.blk s H scope (compEnvC scope cl C X.env) fp).wish xe) tg g) (ht : ∀ (s : Shared) (H : Hp) (C : Addr) (cl : List (Str × Addr)) (fp : List Addr) (xe : Value → Shared → Prop), Takes ((X.blk s H scope (compEnvC scope cl C X.env) fp).wish xe) (fun _ => E) → PTs ((X.blk s H scope (compEnvC scope cl C X.env) fp).wish xe) ifs tt)
    (he : ∀ (s : Shared) (H : Hp) (C : Addr) (cl : List (Str × Addr)) (fp : List Addr) (xe : Value → Shared → Prop), Takes ((X.blk s H scope (compEnvC scope cl C X.env) fp).wish xe) (fun _ => E) → PE ((X.blk s H scope (compEnvC scope cl C X.env) fp).wish xe) elt te) (hs : ∀ x, foldedSetIterable iter X.env x = pure x := by intro _; rfl) :
    PE X (.ListComp elt [⟨tg, iter, ifs, 0⟩] scope pos) (tLc wi g tt te (own.map (·.2))) := by
  intro pins s σ H Q I h
  rw [eval_ListComp]
  refine lc_coreX tk hst hfm hc hN I hi ok hg ht he hs h fun D C s' m H' I' q hn f => ⟨m, hn, fun h'' sb => ?_⟩
  obtain ⟨f0, f1, f2, f3, f4, f5⟩ := f
  exact ⟨.ref D, H', I'.turned (t' := s'.toks) (fun b o hb e => (sb.2 b hb).trans e) f0 f1 f3 f4 f5, rfl, q⟩
/-- name = [..] on one line, the name a local -/
theorem ps_setLcX {E : XK} {i : Nat} {y : Str} {py : Pos} {elt tg iter : Expr} {ifs : List Expr} {scope : Scope} {own : List (Str × Nat)} {pos spos : Pos} {wi : TI} {g : TG} {tt : TT} {te : TE} (tk : Takes X (fun _ => E)) (hst : X.stack = X.env :: X.outer) (hfm : X.env.frame = some X.env.locals) (hc : X.calm = true) (hN : X.N.Nodup) (hy : X.N[i]? = some y) (hyl : X.env.scope.names.lookup y = some .local)
    (hsw : swapsWith (.ListComp elt [⟨tg, iter, ifs, 0⟩] scope pos) (some (.Name y py)) spos.line X.env = pure true) (hi : PI X tg iter wi) (ok : BlkOk X.N X.env.scope scope own)
    (hg : ∀ (s : Shared) (H : Hp) (C : Addr) (cl : List (Str × Addr)) (fp : List Addr) (xe : Value → Shared → Prop), Takes ((X.blk s H scope (compEnvC scope cl C X.env) fp).wish xe) (fun _ => E) → PG ((X.blk s H scope (compEnvC scope cl C X.env) fp).wish xe) tg g) (ht : ∀ (s : Shared) (H : Hp) (C : Addr) (cl : List (Str × Addr)) (fp : List Addr) (xe : Value → Shared → Prop), Takes ((X.blk s H scope (compEnvC scope cl C X.env) fp).wish xe) (fun _ => E) → PTs ((X.blk s H scope (compEnvC scope cl C X.env) fp).wish xe) ifs tt)
    (he : ∀ (s : Shared) (H : Hp) (C : Addr) (cl : List (Str × Addr)) (fp : List Addr) (xe : Value → Shared → Prop), Takes ((X.blk s H scope (compEnvC scope cl C X.env) fp).wish xe) (fun _ => E) → PE ((X.blk s H scope (compEnvC scope cl C X.env) fp).wish xe) elt te) (hs : ∀ x, foldedSetIterable iter X.env x = pure x := by intro _; rfl) :
    PS X (.Assign [.Name y py] (.ListComp elt [⟨tg, iter, ifs, 0⟩] scope pos) spos) (tAsg (tLc wi g tt te (own.map (·.2))) (gName i)) := by
  intro pins s σ H D I h
  rw [exec_Assign_Name_used _ _ _ _ hsw]
  refine wpAny_bind (wpAny_standAt (wpAny_bind ?_))
  show wpAny _ X.A (do let _ ← comprehension (.ListComp elt [⟨tg, iter, ifs, 0⟩] scope pos) scope X.env (firstIterPos [⟨tg, iter, ifs, 0⟩] pos) (newList []) false (eval iter X.env) (some (assign (.Name y py) X.env))) _ _ s
  have h : tLc wi g tt te (own.map (·.2)) σ H (fun x H1 => gName i x σ H1 D.nx) := h
  refine wpAny_bind (thn (lc_coreX (Qf := fun _ s' => SP X pins D .next s') tk hst hfm hc hN I hi ok hg ht he hs h fun L C s' m H' I' q hn f => ?_) fun _ s' hq => wpAny_pure (wpAny_pure hq))
  show wpAny _ _ (assign (.Name y py) X.env (.ref L)) _ _ _
  refine wpAny_assign_Name (store_ok2 (v := V.ref L) I' hN hy (.inl hyl) rfl (fun s2 I2 ⟨a, sb, ha⟩ => ?_) (.inr hyl))
  obtain ⟨f0, f1, f2, f3, f4, f5⟩ := f
  have haC : C ≠ a := by
    rcases ha with z | z
    · rw [z]; exact f1
    · exact fun e => f4 y a z e.symm
  refine ⟨m, hn.sameBut sb haC, fun h3 sb3 => ?_⟩
  exact ⟨_, H', I2.turned (t' := s2.toks) (fun b o hb e => (sb3.2 b hb).trans e) f0 f1 f3 f4 f5, q⟩
end
end L2
end
section
set_option Elab.async false
set_option linter.all false
set_option maxRecDepth 100000
set_option maxHeartbeats 4000000
namespace HT
open PySem PyProof.Rows
def lexGt : List Int → List Int → Bool
  | [], [] => false
  | [], _ :: _ => false
  | _ :: _, [] => true
  | x :: xs, y :: ys => if x = y then lexGt xs ys else decide (y < x)
theorem lexGt_cons (x y : Int) (xs ys : List Int) : lexGt (x :: xs) (y :: ys) = if x = y then lexGt xs ys else decide (y < x) := rfl
theorem lexGt_nil_nil : lexGt [] [] = false := rfl
theorem lexGt_nil_cons (y : Int) (ys : List Int) : lexGt [] (y :: ys) = false := rfl
theorem lexGt_cons_nil (x : Int) (xs : List Int) : lexGt (x :: xs) [] = true := rfl
theorem rcGt_int (A : Around) (s : Shared) (a : Int) (t : Tok) (c : Int) (u : Tok) (prog : Program) (w : World) (E : Value → Shared → Prop) (Q : Value → Shared → Prop) (h : Q (.bool (decide (c < a))) s) :
    wpAny (model prog w) A (richCompare .Gt (.int a t) (.int c u)) Q E s :=
  (PyProof.Rows.gt_int h : wpAny (model prog w) A (compareOp .Gt (.int a t) (.int c u)) Q E s)
section
open PySem.SeqAt
open PySem.AutoSeq1 (wpAny_loadPart')
open PySem.MeetsSeq PySem.MeetsSeq2 PySem.MeetsSeq3
theorem tuple_gt_ints (l b : Addr) (items items2 : Array Value) (n n2 : Nat) (dd dd2 : Option Addr) (sl sl2 : Array (Option Value)) (ns ms : List Int) (hi : IntsAre items.toList ns) (hj : IntsAre items2.toList ms) :
    Meets (Builtin.«tuple.__gt__» ⟨[.ref l, .ref b], []⟩)
      (fun _ R s => s.heap.get? l = some { cls := .type "tuple", dict := dd, data := .seq items n, slots := sl } ∧ s.heap.get? b = some { cls := .type "tuple", dict := dd2, data := .seq items2 n2, slots := sl2 } ∧
        R (.ok (.ret (.bool (lexGt ns ms)))) s) :=
  .of_wp fun prog w A R s h => by
    obtain ⟨hp, g, d, tk, os⟩ := s; obtain ⟨hl, hb, h⟩ := h
    have f2 := AutoSeq1.sub_tuple_tuple
    have z1 : items.size = ns.length := by rw [← hi.length]; simp
    have z2 : items2.size = ms.length := by rw [← hj.length]; simp
    wp_walk using wpAny_loadPart' hl, wpAny_loadPart' hb, wpAny_forIn_list _ (fun rest b s' => b.1 = none ∧ s' = ⟨hp, g, d, tk, os⟩ ∧ ∃ (vs ws : List Value) (ns' ms' : List Int), rest = vs.zip ws ∧
      IntsAre vs ns' ∧ IntsAre ws ms' ∧ ns'.length + items2.size = ms'.length + items.size ∧ R (.ok (.ret (.bool (lexGt ns' ms')))) ⟨hp, g, d, tk, os⟩) _
    case turn =>
      rintro ⟨y, x⟩ rest b s' ⟨hb', rfl, vs, ws, ns', ms', hz, hvi, hwi, hlen, hR⟩
      cases hvi with
      | nil => rw [List.zip_nil_left] at hz; cases hz
      | cons a t hvi' =>
        cases hwi with
        | nil => rw [List.zip_nil_right] at hz; cases hz
        | cons c u hwi' =>
          rw [List.zip_cons_cons] at hz
          injection hz with hyx hrest
          injection hyx with hy hx
          subst hy hx
          rw [lexGt_cons] at hR
          simp only [List.length_cons] at hlen
          obtain ⟨e, he, hiff⟩ := eqAt_int A.in1 ⟨hp, g, d, tk, os⟩ a t c u
          refine wpAny_bind (he prog w _ _ ?_)
          cases e with
          | true =>
            rw [if_pos (hiff.mp rfl)] at hR
            wp_walk
            exact ⟨rfl, rfl, _, _, _, _, hrest, hvi', hwi', by omega, hR⟩
          | false =>
            rw [if_neg (fun q => absurd (hiff.mpr q) Bool.false_ne_true)] at hR
            have hri := rcGt_int A.in1 ⟨hp, g, d, tk, os⟩ a t c u prog w
            wp_walk using hri
            exact ⟨_, rfl, by simpa using hR⟩
    case fin =>
      rintro ⟨b1, b2⟩ s' ⟨hb', rfl, vs, ws, ns', ms', hz, hvi, hwi, hlen, hR⟩
      simp only at hb'
      subst hb'
      have hv : lexGt ns' ms' = decide (items2.size < items.size) := by
        cases hvi with
        | nil =>
          cases hwi with
          | nil =>
            simp only [List.length_nil] at hlen
            rw [lexGt_nil_nil]
            exact (decide_eq_false (by omega)).symm
          | cons c u hw =>
            simp only [List.length_nil, List.length_cons] at hlen
            rw [lexGt_nil_cons]
            exact (decide_eq_false (by omega)).symm
        | cons a t hv =>
          cases hwi with
          | nil =>
            simp only [List.length_nil, List.length_cons] at hlen
            rw [lexGt_cons_nil]
            exact (decide_eq_true (by omega)).symm
          | cons c u hw =>
            rw [List.zip_cons_cons] at hz
            cases hz
      rw [hv] at hR
      wp_walk
      exact ⟨_, rfl, by simpa [Builtin.Tuple.tupleCompareSizes] using hR⟩
    case h =>
      exact ⟨rfl, rfl, items.toList, items2.toList, ns, ms, rfl, hi, hj, by omega, h⟩
end
theorem gt_tupInts {prog : Program} {w : World} {A : Around} {E : Value → Shared → Prop} {s : Shared} {l b : Addr} {items items2 : Array Value} {ns ms : List Int} {Q : Value → Shared → Prop} (hl : IsTup s.heap l items) (hb : IsTup s.heap b items2) (hi : IntsAre items.toList ns) (hj : IntsAre items2.toList ms)
    (hu : A.units < cLine) (h : Q (.bool (lexGt ns ms)) s) : wpAny (model prog w) A (compareOp .Gt (.ref l) (.ref b)) Q E s := by
  obtain ⟨⟨cls, dd, data, sl⟩, ho, hc, n, hd⟩ := id hl
  obtain ⟨⟨cls2, dd2, data2, sl2⟩, ho2, hc2, n2, hd2⟩ := id hb
  simp only at hc hd hc2 hd2
  subst hc hd hc2 hd2
  exact richCompare_meets_room (op := .Gt) ⟨_, ho, rfl⟩ ⟨_, ho2, rfl⟩ PySem.F.slot_tuple_gt PySem.F.entry_tuple_gt (PySem.F.args_tuple_gt_2 _ _) (tuple_gt_ints l b items items2 n n2 dd dd2 sl sl2 ns ms hi hj)
    ⟨ho, ho2, show Value.bool (lexGt ns ms) ≠ Value.notImplemented ∧ Q (.bool (lexGt ns ms)) s from ⟨(fun x => nomatch x), h⟩⟩ hu
end HT
namespace L2
open PySem PySem.Spec PyProof.Rows
open PySem.AutoSeq1 (wpAny_loadPart')
def rGtT (K : PySem.W.Frag) : R2 := fun x y H Q => ∃ a b ns ms, x = .ref a ∧ y = .ref b ∧ SqT K H a (ns.map V.int) ∧ SqT K H b (ms.map V.int) ∧ Q (.bl (HT.lexGt ns ms)) H
theorem op_gtT {X : Cx} (hu : X.A.units < cLine) : OpR X (compareOp .Gt) (rGtT X.K) := by
  intro pins s σ H x y v u Q I rx ry h
  obtain ⟨a, b, ns, ms, rfl, rfl, ha, hb, q⟩ := h
  cases rx
  cases ry
  obtain ⟨its, r1, p1, _⟩ := I.tuple ha
  obtain ⟨its2, r2, p2, _⟩ := I.tuple hb
  have i1 : IntsAre its.toArray.toList ns := intsAre_of r1
  have i2 : IntsAre its2.toArray.toList ms := intsAre_of r2
  exact HT.gt_tupInts p1 p2 i1 i2 hu ⟨.bl (HT.lexGt ns ms), H, I, rfl, q⟩
/-! ### enumerate(tuple) -/
section
variable {prog : Program} {w : World} {A : Around} {E : Value → Shared → Prop} {s : Shared}
theorem nextT_item {it t : Addr} {i : Nat} {items : Array Value} {x : Value} {Q : Value → Shared → Prop} (hit : s.heap.IsTupleIter it t i) (ht : s.heap.IsTuple t items) (hx : items[i]? = some x)
    (hQ : ∀ h', h'.IsTupleIter it t (i + 1) → Heap.SameBut it s.heap h' → Q x { s with heap := h' }) : wpAny (model prog w) A (Builtin.SmallTypes.nextOf (.ref it)) Q E s := by
  obtain ⟨o, ho, hc, hd⟩ := id hit
  obtain ⟨ot, hot, _, n, hdt⟩ := ht
  unfold Builtin.SmallTypes.nextOf
  refine wpAny_bind (wpAny_callSpecial?_slot (name := Str.ofString "__next__") hit.typeIs F.slot_tuple_iterator_next (wpAny_call_entry F.slot_tuple_iterator_next hit.typeIs F.entry_tuple_iterator_next ?_ (F.args_tuple_iterator_next_1 _)))
  have nt : ¬ ((Value.ref t == Value.none) = true) := fun z => nomatch z
  show wpAny _ _ (field (.ref it) 0 >>= fun v => if (v == Value.none) = true then _ else _) _ _ s
  refine wpAny_bind (wpAny_field ho hd (x := .ref t) rfl ?_)
  rw [if_neg nt]
  refine wpAny_bind (wpAny_field ho hd (x := .int i 0) rfl (wpAny_bind (wpAny_seqItems hot hdt ?_)))
  simp only [Int.toNat_natCast, hx]
  refine wpAny_bind (wpAny_setField ho hd (by simp) (wpAny_pure ⟨x, rfl, wpAny_pure (hQ _ ⟨_, Heap.get?_update_self _ ho (Obj.isFreed_of_fields (Obj.data_mapFields hd _)), (Obj.cls_mapFields ..).trans hc, ?_⟩ (Heap.SameBut.update ..))⟩))
  rw [Obj.data_mapFields hd]
  simp [rawInt]
theorem nextT_end {it t : Addr} {i : Nat} {items : Array Value} {Q : Value → Shared → Prop} (hh : A.handled = none) (hit : s.heap.IsTupleIter it t i) (ht : s.heap.IsTuple t items) (hx : items[i]? = none)
    (hE : ∀ h' e, Heap.ExtBut it s.heap h' → (∃ o, h'.get? e = some o ∧ o.cls = .type "StopIteration") → E (.ref e) { s with heap := h' }) : wpAny (model prog w) A (Builtin.SmallTypes.nextOf (.ref it)) Q E s := by
  obtain ⟨o, ho, hc, hd⟩ := id hit
  obtain ⟨ot, hot, _, n, hdt⟩ := ht
  unfold Builtin.SmallTypes.nextOf
  refine wpAny_bind (wpAny_callSpecial?_slot (name := Str.ofString "__next__") hit.typeIs F.slot_tuple_iterator_next (wpAny_call_entry F.slot_tuple_iterator_next hit.typeIs F.entry_tuple_iterator_next ?_ (F.args_tuple_iterator_next_1 _)))
  have nt : ¬ ((Value.ref t == Value.none) = true) := fun z => nomatch z
  show wpAny _ _ (field (.ref it) 0 >>= fun v => if (v == Value.none) = true then _ else _) _ _ s
  refine wpAny_bind (wpAny_field ho hd (x := .ref t) rfl ?_)
  rw [if_neg nt]
  refine wpAny_bind (wpAny_field ho hd (x := .int i 0) rfl (wpAny_bind (wpAny_seqItems hot hdt ?_)))
  simp only [Int.toNat_natCast, hx]
  refine wpAny_bind (wpAny_rule (wpAny_bind (wpAny_setField ho hd (by simp) ?_)))
  show wpAny _ _ (newExc (.type "StopIteration") [] >>= _) _ _ _
  refine wpAny_bind ?_
  simp only [newExc, newTuple]
  refine wpAny_bind (wpAny_newObj_type ?_ (by size_fits))
  refine wpAny_bind (m := firstArgMember _ _) (wpAny_of_eq (a := Value.none) (by first | rfl | (simp only [firstArgMember]; rfl)) ?_)
  refine wpAny_newObj_type ?_ (by size_fits)
  simp only [raiseNew]
  refine wpAny_bind (wpAny_handled ?_)
  first | rw [show A.in1.handled = none from hh] | rw [hh]
  refine wpAny_bind (wpAny_pure (wpAny_throw ?_))
  exact hE _ _ (((Heap.SameBut.update ..).extBut.push _).push _) ⟨_, Heap.get?_push_size _ rfl, rfl⟩
end
theorem draws_tup {prog : Program} {w : World} {A : Around} (hh : A.handled = none) (it t : Addr) (hne : t ≠ it) (items : Array Value) : Draws prog w A it [it, t] items.size (fun i v => items[i]? = some v) (fun i h => h.IsTupleIter it t i ∧ h.IsTuple t items) where
  live := fun _ _ st => let ⟨o, ho, _⟩ := st.1; ⟨o, ho⟩
  frame := fun _ _ _ st hk => ⟨st.1.at fun o e => hk it (by simp) o e, let ⟨o, ho, r⟩ := st.2; ⟨o, hk t (by simp) o ho, r⟩⟩
  item := fun i s Q E hi st hQ => nextT_item st.1 st.2 (x := items[i]) (by simp [hi]) fun h' a b => hQ _ h' s.toks (by simp [hi]) ⟨a, st.2.extBut b.extBut hne⟩ b
  done := fun s Q E st hE => nextT_end hh st.1 st.2 (by simp) hE
section
variable {prog : Program} {w : World} {A : Around} {E : Value → Shared → Prop} {s : Shared}
theorem next_enumT_item {e it l : Addr} {i : Nat} {items : Array Value} {x old : Value} {Q : Option Value → Shared → Prop} (he : IsEnum s.heap e it i old) (hit : s.heap.IsTupleIter it l i) (hl : s.heap.IsTuple l items) (hx : items[i]? = some x) (hne : e ≠ it) (hh : A.handled = none)
    (hQ : ∀ h' tk, IsEnumOut h' e it ((i : Int) + 1) x s.heap.objs.size → h'.IsTupleIter it l (i + 1) → h'.get? s.heap.objs.size = some { cls := .type "tuple", data := .seq #[.int i tk, x] } → h'.objs.size = s.heap.objs.size + 1 →
      (∀ b o, b ≠ e → b ≠ it → s.heap.get? b = some o → h'.get? b = some o) → Q (some (.ref s.heap.objs.size)) { s with heap := h', toks := tk + 1 }) : wpAny (model prog w) A (pyNext (.ref e)) Q E s := by
  have hi : i < items.size := (Array.getElem?_eq_some_iff.mp hx).1
  obtain ⟨oi, hoi, hci, _⟩ := id hit
  obtain ⟨ol, hol, hcl, _⟩ := id hl
  have hil : l ≠ it := fun z => by
    subst z
    obtain rfl : oi = ol := Option.some.inj (hoi.symm.trans hol)
    rw [hci] at hcl
    exact absurd hcl (by decide)
  have hel : e ≠ l := fun z => by
    subst z
    have q : _ = ol := Option.some.inj (he.symm.trans hol)
    rw [← q] at hcl
    exact absurd (show Value.type "enumerate" = Value.type "tuple" from hcl) (by decide)
  refine wpAny_pyNext_enum_itemD (draws_tup (A := A.in1) hh it l hil items) he ⟨hit, hl⟩ hi hne (by simp [hne, hel]) fun y h' tk hy a b c d k => ?_
  obtain rfl : x = y := Option.some.inj (hx.symm.trans hy)
  exact hQ h' tk a b.1 c d k
theorem next_enumT_end {e it l : Addr} {i : Nat} {items : Array Value} {old : Value} {Q : Option Value → Shared → Prop} (hh : A.handled = none) (he : IsEnum s.heap e it i old) (hit : s.heap.IsTupleIter it l i) (hl : s.heap.IsTuple l items) (hx : items[i]? = none)
    (hQ : ∀ h', Heap.ExtBut it s.heap h' → Q none { s with heap := h' }) : wpAny (model prog w) A (pyNext (.ref e)) Q E s := by
  have hT : s.TypeIs (.ref e) "enumerate" := ⟨_, he, rfl⟩
  unfold pyNext
  refine wpAny_bind (wpAny_attempt (wpAny_callSpecial?_slot (name := Str.ofString "__next__") hT F.slot_enumerate_next (wpAny_call_entry F.slot_enumerate_next hT F.entry_enumerate_next ?_ (F.args_enumerate_next_1 _))))
  show wpAny _ _ (field (.ref e) 2 >>= _) _ _ _
  refine wpAny_bind (wpAny_field he rfl (x := .ref it) rfl (wpAny_bind (nextT_end hh hit hl hx fun h' x k ⟨o, ho, hc⟩ => ?_)))
  exact wpAny_bind (wpAny_isInstance (T := "StopIteration") (b := true) ⟨o, ho, hc⟩ isSubtype_stop (wpAny_pure (hQ _ k)))
theorem meets_enumT (l : Addr) (items : Array Value) (n : Nat) (dct : Option Addr) (sl : Array (Option Value)) :
    Meets (Builtin.«enumerate.__new__» ⟨[.type "enumerate", .ref l], []⟩) (fun _ R s => s.heap.get? l = some { cls := .type "tuple", dict := dct, data := .seq items n, slots := sl } ∧
      R (.ok (.ret (.ref (s.heap.push { cls := .type "tuple_iterator", data := .fields #[.ref l, .int 0 0] }).objs.size)))
        { s with heap := (s.heap.push { cls := .type "tuple_iterator", data := .fields #[.ref l, .int 0 0] }).push { cls := .type "enumerate", data := .fields #[.none, .bool false, .ref s.heap.objs.size, rawInt 0, .none, .none] } }) :=
  .of_wp fun prog w A R s h => by
    obtain ⟨hp, g, d, tk, os⟩ := s
    obtain ⟨hl, h⟩ := h
    have hsub := sub_enumerate
    have hL : Heap.IsTuple (Shared.heap ⟨hp, g, d, tk, os⟩) l items := ⟨_, hl, rfl, n, rfl⟩
    wp_walk using wpAny_loadPart' hl
    refine wpAny_stack_any fun st => wpAny_pure ?_
    split
    · rename_i c _ _ _ _ _
      cases (c == Value.type "enumerate") <;>
      · wp_walk using wpAny_loadPart' hl, wpAny_pyIter_tuple hL
        exact ⟨_, rfl, h⟩
    · wp_walk using wpAny_loadPart' hl, wpAny_pyIter_tuple hL
      exact ⟨_, rfl, h⟩
theorem call_enumT {l : Addr} {items : Array Value} {Q : Value → Shared → Prop} (hL : s.heap.IsTuple l items)
    (h : ∀ h', IsEnum h' (s.heap.objs.size + 1) s.heap.objs.size 0 .none → h'.IsTupleIter s.heap.objs.size l 0 → h'.objs.size = s.heap.objs.size + 2 → (∀ b o, s.heap.get? b = some o → h'.get? b = some o) → Q (.ref (s.heap.objs.size + 1)) { s with heap := h' }) :
    wpAny (model prog w) A (call (.type "enumerate") [.ref l]) Q E s := by
  obtain ⟨⟨c, dct, dt, sl⟩, hl, hc, n, hd⟩ := hL
  obtain rfl : c = .type "tuple" := hc
  obtain rfl : dt = .seq items n := hd
  refine callType_new F.called_enumerate (by decide) (F.typeCall_enumerate_1 _) (F.newCall_enumerate_1 _) (fun obj => F.args_object_init_2 obj _) F.entry_enumerate_new (meets_enumT l items n dct sl) ⟨hl, ?_⟩
  have hz : (s.heap.push { cls := .type "tuple_iterator", data := .fields #[.ref l, .int 0 0] }).objs.size = s.heap.objs.size + 1 := Heap.size_push ..
  have z := Heap.get?_push_size (s.heap.push { cls := .type "tuple_iterator", data := .fields #[.ref l, .int 0 0] }) (o := { cls := .type "enumerate", data := .fields #[.none, .bool false, .ref s.heap.objs.size, rawInt 0, .none, .none] }) rfl
  show _ ∧ _
  rw [hz] at z ⊢
  exact ⟨⟨_, z, rfl⟩, h _ z ⟨_, Heap.get?_push_of_some _ (Heap.get?_push_size _ rfl), rfl, rfl⟩ (by rw [Heap.size_push, hz]) fun b o q => Heap.get?_push_of_some _ (Heap.get?_push_of_some _ q)⟩
end
def IteT (K : PySem.W.Frag) (a : Addr) : It :=
  ⟨fun i H => ∃ (xs : List V) (x : V), SqT K H a xs ∧ xs[i]? = some x, fun i H v H' => ∃ T x, v = .ref T ∧ H T = none ∧ H' = upd H T (.tup [.int (i : Nat), x]) ∧ ∀ xs, SqT K H a xs → xs[i]? = some x, fun i H => ∃ xs : List V, SqT K H a xs ∧ xs.length ≤ i⟩
theorem turn_enumT {P : Program} {w : World} {K : PySem.W.Frag} {elts : List Expr} {kk : Nat} {tpos : Pos} (a e it : Addr) :
    Turn P w K (.Tuple elts kk tpos) (IteT K a) [e, it] e (fun i h => (∃ old, IsEnum h e it ((i : Nat) : Int) old) ∧ h.IsTupleIter it a i ∧ e ≠ it) where
  mem := by simp
  obj := fun i h st b hb => by
    obtain ⟨⟨old, he⟩, ⟨o, ho, hc, hd⟩, _⟩ := st
    have e' : b = e ∨ b = it := by simpa using hb
    rcases e' with z | z
    · rw [z]; exact ⟨_, he, fun v q => nomatch q⟩
    · rw [z]; exact ⟨o, ho, fun v q => by rw [hd] at q; cases q⟩
  keep := fun i h h' st k => let ⟨⟨old, he⟩, hi, hne⟩ := st; ⟨⟨old, k e (by simp) _ he⟩, hi.at fun o q => k it (by simp) o q, hne⟩
  item := by
    intro X hP hw hK hc i pins s σ H E I hf st hg
    subst hP hw hK
    obtain ⟨⟨old, he⟩, hit, hne⟩ := st
    obtain ⟨xs, x, hq, hx⟩ := hg
    obtain ⟨its, rv, p, hz⟩ := I.tuple hq
    obtain ⟨u, hu, ru⟩ := rv.get hx
    have hel : e < s.heap.objs.size := Heap.lt_size he
    have hil : it < s.heap.objs.size := by obtain ⟨_, q, _⟩ := hit; exact Heap.lt_size q
    refine next_enumT_item he hit (show s.heap.IsTuple a its.toArray from p) (x := u) (by simpa using hu) hne (I.ok.hd hc) fun h' tk ho hit' hT hsz hk => ?_
    refine ⟨_, rfl, wpAny_letOwnedTupleGo_enum (s := { s with heap := h', toks := tk + 1 }) ho fun h'' he' sb => ?_⟩
    have hT2 : h''.get? s.heap.objs.size = some { cls := .type "tuple", data := .seq #[.int i tk, u] } := (sb.2 _ (Nat.ne_of_gt hel)).trans hT
    have new : ObjOk X.prog X.w (upd H s.heap.objs.size (.tup [.int (i : Nat), x])) h'' s.heap.objs.size (.tup [.int (i : Nat), x]) :=
      ⟨by show 2 ≤ sizeLine; decide, [.int i tk, u], .cons ⟨_, rfl⟩ (.cons ru .nil), ⟨_, hT2, rfl, _, rfl⟩⟩
    have I1 : Inv X pins σ (upd H s.heap.objs.size (.tup [.int (i : Nat), x])) { s with heap := h'', toks := tk + 1 } :=
      I.turnedNew (ch := [e, it]) (fun b ob hb q => (sb.2 b (fun z => hb (by simp [z]))).trans (hk b ob (fun z => hb (by simp [z])) (fun z => hb (by simp [z])) q)) hf (Nat.le_refl _) new
    refine ⟨.ref s.heap.objs.size, _, I1, rfl, ⟨_, x, rfl, I.hok.fresh (Nat.le_refl _), rfl, fun ys hy => by rw [I.tuple_inj hy hq]; exact hx⟩, ⟨⟨u, ?_⟩, hit'.at fun o q => (sb.2 it (Ne.symm hne)).trans q, hne⟩, fun b hb => ?_⟩
    · have e1 : ((i + 1 : Nat) : Int) = (i : Int) + 1 := by omega
      rw [e1]; exact he'
    · have hb' : b < s.heap.objs.size := by
        have e' : b = e ∨ b = it := by simpa using hb
        rcases e' with z | z
        · rw [z]; exact hel
        · rw [z]; exact hil
      rw [upd_ne (Nat.ne_of_lt hb')]
      exact (hf b hb).1
  done := by
    intro X hP hw hK hc i pins s σ H E I hf st hg
    subst hP hw hK
    obtain ⟨⟨old, he⟩, hit, hne⟩ := st
    obtain ⟨xs, hq, hx⟩ := hg
    obtain ⟨its, rv, p, hz⟩ := I.tuple hq
    obtain ⟨f0, f1, f2, f3, f4, f5⟩ := hf it (by simp)
    have hl := rv.length
    exact next_enumT_end (I.ok.hd hc) he hit (show s.heap.IsTuple a its.toArray from p) (by simp; omega) fun h' eb => ⟨rfl, I.turned (t' := s.toks) (fun b o hb q => eb b o hb q) f0 f1 f3 f4 f5⟩
  self := fun A i s Q E st h => let ⟨⟨_, he⟩, _⟩ := st; wpAny_pyIter_enum he h
def iEnumT (K : PySem.W.Frag) (ta : TA) : TI := fun σ H R => ta σ H fun vs H1 => ∃ a xs, vs = [.ref a] ∧ SqT K H1 a xs ∧ R (IteT K a) H1
theorem pi_enumT {X : Cx} {e : Expr} {ta : TA} {p pos tpos : Pos} {elts : List Expr} {kk : Nat} (hg : Gl X "enumerate") (hm : X.mg "enumerate" = none) (ha : PA X [e] ta) (hs : starEach [e] X.env = [(false, eval e X.env)] := by rfl) :
    PI X (.Tuple elts kk tpos) (.Call (.Name "enumerate" p) [e] [] pos) (iEnumT X.K ta) := by
  intro pins s σ H R I h
  refine Call_ (ld_blt I hg hm boot_enumerate (PyProof.Rows.callWith_type1 (thn (ha pos pins s σ H _ I h) fun us s1 ⟨vs, H1, I1, r1, q1⟩ => ?_) hs rfl))
  obtain ⟨a, xs, ex, hq, q⟩ := q1
  subst ex
  cases r1 with
  | cons r rr =>
    cases rr
    cases r
    obtain ⟨its, rv, p', hz⟩ := I1.tuple hq
    refine call_enumT (show s1.heap.IsTuple a its.toArray from p') fun h' he hit hsz hk => wpAny_pyIter_enum he ?_
    have I2 : Inv X pins σ H1 { s1 with heap := h' } := I1.kept (t' := s1.toks) hk
    refine ⟨s1.heap.objs.size + 1, [s1.heap.objs.size + 1, s1.heap.objs.size], _, _, H1, rfl, I2, turn_enumT a (s1.heap.objs.size + 1) s1.heap.objs.size, ⟨⟨.none, he⟩, hit, Nat.succ_ne_self _⟩, fun b hb => ?_, q⟩
    have e' : b = s1.heap.objs.size + 1 ∨ b = s1.heap.objs.size := by simpa using hb
    have hle : s1.heap.objs.size ≤ b := by
      rcases e' with z | z
      · rw [z]; exact Nat.le_add_right _ _
      · rw [z]; exact Nat.le_refl _
    exact I1.fpOk hle (I1.hok.fresh hle)

/-! ### xs != [] -/
def rNeE (K : PySem.W.Frag) : R2 := fun x y H Q => ∃ p q xs, x = .ref p ∧ y = .ref q ∧ SqL K H p xs ∧ SqL K H q [] ∧ Q (.bl (!xs.isEmpty)) H
theorem op_neE {X : Cx} (hu : X.A.units < cLine) : OpR X (compareOp .NotEq) (rNeE X.K) := by
  intro pins s σ H x y v u Q I rx ry h
  obtain ⟨p, q, xs, rfl, rfl, hp, hq, k⟩ := h
  cases rx
  cases ry
  obtain ⟨its, r1, p1, _⟩ := I.list hp
  obtain ⟨its2, r2, p2, _⟩ := I.list hq
  cases r2
  have l1 := r1.length
  have fin : ∀ b : Bool, b = !xs.isEmpty → EP X pins σ Q (.bool b) s := fun b e => ⟨.bl b, H, I, rfl, by rw [e]; exact k⟩
  cases xs with
  | nil =>
    cases r1
    exact (SeqAt.RcNeAt.lists (e := fun _ => true) p1.isList p2.isList rfl hu (fun j h1 _ => absurd h1 (by simp)) X.prog X.w X.xe _ (fin _ rfl) : wpAny (model X.prog X.w) X.A (compareOp .NotEq (.ref p) (.ref q)) _ X.xe s)
  | cons x xs =>
    exact (SeqAt.RcNeAt.lists_lengths p1.isList p2.isList (by simp [← l1]) hu X.prog X.w X.xe _ (fin _ rfl) : wpAny (model X.prog X.w) X.A (compareOp .NotEq (.ref p) (.ref q)) _ X.xe s)
/-! ### small words -/
theorem Room.mark {cm : Bool} {k : Nat} {A : Around} {h : Option Value} (r : Room cm k A) : Room false k (A.mark h) := ⟨(fun z => nomatch z), r.dp, r.un⟩
/-- with the fragment by its name: it doesn't hang on what a suite's context holds besides -/
theorem pe_fldXK {X : Cx} {K : PySem.W.Frag} {e : Expr} {f : Str} {pos : Pos} {ta : TE} (hK : X.K = K) (he : PE X e ta) (hb : attributeBase e f X.env (eval e X.env) = eval e X.env) : PE X (.Attribute e f pos) (tFldX K ta f) := by
  subst hK
  exact pe_fldX he hb
theorem ps_raiseFK {X : Cx} {K : PySem.W.Frag} {W : WX} {e c : Expr} {te tc : TE} {pos : Pos} {b : Addr} (hK : X.K = K) (tk : Takes X W) (hh : X.A.handled = some (.ref b)) (he : PE X e te) (hcs : PE X c tc) : PS X (.Raise (some e) (some c) pos) (tRaiseF K W b te tc) := by
  subst hK
  exact ps_raiseF tk hh he hcs
open PySem.W (Codec OpenSpec) in
/-- the guide's walk, the ways of errors by the world -/
theorem walk_specX {cm : Bool} {r : OpenSpec} {k : Nat} {q : Program} {loose : List Str} {XP : (Str → Option Value) → Heap → Prop} {YP : World → Heap → Prop} {d : DefRec} {K : Params → PySem.W.Frag} {ps : List Str} {sp : PySem.W.Frag → Sp}
    (hwell : r.wellSaid = true) (hdf : d.params.defaults = []) (hlen : r.args.length = ps.length) (hr : Room cm k callerA) (hY : ∀ (w : World) (h : Heap), YP w h → (K w.params).In h)
    (F : ∀ (w : World) (mg : Str → Option Value) (fa : Addr) (h : Heap), YP w h → (K w.params).In h → h.Ns mainGlobals mg → mg d.name = some (.ref fa) →
      ∃ fd : FuncData, (∀ (s : Shared) (us : List Value), us.length = ps.length → BindsTo s fd ⟨us, []⟩ (ps.zip us)) ∧ ∀ base : Heap, (K w.params).In base → base.Ns mainGlobals mg → FnOk r.prog w (K w.params) mg base (CXo r.prog w) cm k fa fd ps (sp (K w.params)))
    (hsp : ∀ (K : PySem.W.Frag) (H : Hp) (xs : List V) (a : Codec.denoteAll r.args), OnlyF H → Codec.withinAll r.args a = true → Codec.app r.args r.asked a = true → DwAll K H xs (Codec.encAll r.args a) →
      sp K xs H (fun v H' => Dw K H' v (r.ret.enc (Codec.app r.args r.f a))) fun _ _ _ => False) : PySem.W.WalkOS q loose XP YP r d [] (fun f vs => PySem.call f vs) :=
  walk_spec (K := K) (CX := fun w => CXo r.prog w) (sp := fun w => sp (K w.params)) hwell hdf hlen hr hY F (fun w H xs a h1 h2 h3 h4 => hsp (K w.params) H xs a h1 h2 h3 h4) fun _ _ _ _ _ ⟨_, _, _, _, _, _, _, _, _, _, _, q⟩ => q
theorem passF {P : Program} {w : World} {X : Cx} : Passes (CXo P w) X (fun _ _ _ _ => False) := fun _ _ _ _ _ _ _ ⟨_, _, _, _, _, _, _, _, _, _, _, q⟩ => q.elim
end L2
end
section
set_option Elab.async false
set_option linter.all false
set_option maxRecDepth 100000
set_option maxHeartbeats 4000000
namespace L2
open PySem PySem.Spec PyProof.Rows
/-! ### a tuple of ints in a list of such -/
theorem dpT_ints {K : PySem.W.Frag} {H : Hp} : ∀ ns : List Int, DpAll K H (ns.map V.int) (ns.map PyData.int)
  | [] => .nil
  | n :: r => .cons (.int n) (dpT_ints r)
theorem eqvT_ints : ∀ ns ms : List Int, PyData.eqvAll (ns.map PyData.int) (ms.map PyData.int) = decide (ns = ms)
  | [], [] => rfl
  | [], _ :: _ => rfl
  | _ :: _, [] => rfl
  | n :: r, m :: q => by
    have ih := eqvT_ints r q
    show (PyData.eqv (.int n) (.int m) && PyData.eqvAll (r.map PyData.int) (q.map PyData.int)) = _
    rw [ih, Bool.eq_iff_iff]
    simp [PyData.eqv]
theorem layT_ints : ∀ ns : List Int, PyData.canLayAll0 (ns.map PyData.int) = true
  | [] => by simp [PyData.canLayAll0]
  | n :: r => by simp [PyData.canLayAll0, PyData.canLay0, layT_ints r]
theorem depT_ints : ∀ ns : List Int, PyData.depthAll (ns.map PyData.int) ≤ 1
  | [] => by simp [PyData.depthAll]
  | n :: r => by
    have ih := depT_ints r
    simp [PyData.depthAll, PyData.depth]
    omega
/-- tuples of ints at these places -/
abbrev Tups (H : Hp) : List Addr → List (List Int) → Prop := Paired fun a ms => H a = some (.tup (ms.map V.int))
def rInT (K : PySem.W.Frag) (neg : Bool) : R2 := fun x y H Q => ∃ (s p : Addr) (ns : List Int) (as : List Addr) (nss : List (List Int)), x = .ref s ∧ y = .ref p ∧ H s = some (.tup (ns.map V.int)) ∧ SqL K H p (as.map V.ref) ∧ Tups H as nss ∧ Q (.bl (if neg then !nss.contains ns else nss.contains ns)) H
def eqT (H : Hp) (ns : List Int) (u : Value) : Bool := match u with
  | .ref a => (match H a with
    | some (.tup ys) => decide (ys = ns.map V.int)
    | _ => false)
  | _ => false
theorem map_int_inj {ns ms : List Int} : ms.map V.int = ns.map V.int ↔ ms = ns := List.map_inj_right fun _ _ e => V.int.inj e
theorem any_eqT {H : Hp} {ns : List Int} : ∀ {as : List Addr} {nss : List (List Int)} {us : List Value}, Tups H as nss → Vals (as.map V.ref) us → us.any (eqT H ns) = nss.contains ns
  | _, _, _, .nil, r => by
    cases r
    rfl
  | _, _, _, .cons (a := a) (b := ms) h t, r => by
    cases r with
    | cons r1 r2 =>
      cases r1
      rw [List.any_cons, any_eqT t r2, List.contains_cons]
      congr 1
      show (match H a with
        | some (.tup ys) => decide (ys = ns.map V.int)
        | _ => false) = _
      rw [h]
      show decide (ms.map V.int = ns.map V.int) = (ns == ms)
      rw [Bool.eq_iff_iff, decide_eq_true_eq, beq_iff_eq, map_int_inj]
      exact eq_comm
section
variable {X : Cx}
theorem eqAt_T {pins : List (Addr × Obj)} {σ : St} {H : Hp} {s : Shared} {a b : Addr} {ms ns : List Int} {A : Around} (I : Inv X pins σ H s) (ha : H a = some (.tup (ms.map V.int))) (hb : H b = some (.tup (ns.map V.int))) (hu : A.units + 2 < cLine) : SeqAt.EqAt A s (.ref a) (.ref b) (decide (ms = ns)) := by
  obtain ⟨as, r1⟩ := Dp.reads I (.tuple (ms.map PyData.int)) (.ref a) (.ref a) (.tup (.inl (.inl ha)) (dpT_ints ms)) rfl
  obtain ⟨bs, r2⟩ := Dp.reads I (.tuple (ns.map PyData.int)) (.ref b) (.ref b) (.tup (.inl (.inl hb)) (dpT_ints ns)) rfl
  have l : ∀ l : List Int, PyData.canLay0 (.tuple (l.map PyData.int)) = true := fun l => by
    have := layT_ints l
    simpa [PyData.canLay0] using this
  have d : PyData.depth (.tuple (ms.map PyData.int)) ≤ 2 := by
    have := depT_ints ms
    simp [PyData.depth]
    omega
  have e := SeqAt.eqAt_reads _ _ A s _ _ as bs r1 r2 (l ms) (l ns) (Nat.lt_of_le_of_lt (Nat.add_le_add_left (Nat.le_trans (Nat.min_le_left _ _) d) _) hu)
  rw [show PyData.eqv (.tuple (ms.map PyData.int)) (.tuple (ns.map PyData.int)) = decide (ms = ns) from eqvT_ints ms ns] at e
  exact e
theorem mem_T {pins : List (Addr × Obj)} {σ : St} {H : Hp} {s : Shared} {b : Addr} {ns : List Int} {A : Around} (I : Inv X pins σ H s) (hb : H b = some (.tup (ns.map V.int))) (hu : A.units + 2 < cLine) :
    ∀ {as : List Addr} {nss : List (List Int)} {us : List Value}, Tups H as nss → Vals (as.map V.ref) us → ∀ u ∈ us, SeqAt.EqAt A s u (.ref b) (eqT H ns u)
  | _, _, _, .nil, r => fun u hu => by
    cases r
    cases hu
  | _, _, _, .cons (a := a) (b := ms) h t, r => fun u hu' => by
    cases r with
    | cons r1 r2 =>
      cases r1
      rcases List.mem_cons.mp hu' with rfl | m
      · have e : eqT H ns (.ref a) = decide (ms = ns) := by
          show (match H a with
            | some (.tup ys) => decide (ys = ns.map V.int)
            | _ => false) = _
          rw [h]
          exact decide_eq_decide.mpr map_int_inj
        rw [e]
        exact eqAt_T I h hb hu
      · exact mem_T I hb hu t r2 u m
theorem in1_room {A : Around} (hu : A.units + 64 < cLine) : A.in1.units + 2 < cLine := by
  have : A.in1.units ≤ A.units + 1 := by first | exact Nat.le_refl _ | (simp [Around.in1, Around.units])
  omega
theorem op_in_seqT (hu : X.A.units + 64 < cLine) : OpR X (compareOp .In) (rInT X.K false) := by
  intro pins s σ H x y v u Q I rx ry h
  obtain ⟨a, p, ns, as, nss, rfl, rfl, hs, hq, ht, q⟩ := h
  cases rx
  cases ry
  obtain ⟨its, r, pl, hz⟩ := I.list hq
  refine SeqAt.in_listAt (eqT H ns) pl.isList (fun w hw => mem_T I hs (in1_room hu) ht r w (by simpa using hw)) ⟨.bl _, H, I, rfl, ?_⟩
  rw [show its.toArray.any (eqT H ns) = its.any (eqT H ns) by simp, any_eqT ht r]
  exact q
theorem op_notIn_seqT (hu : X.A.units + 64 < cLine) : OpR X (compareOp .NotIn) (rInT X.K true) := by
  intro pins s σ H x y v u Q I rx ry h
  obtain ⟨a, p, ns, as, nss, rfl, rfl, hs, hq, ht, q⟩ := h
  cases rx
  cases ry
  obtain ⟨its, r, pl, hz⟩ := I.list hq
  refine SeqAt.notIn_listAt (eqT H ns) pl.isList (fun w hw => mem_T I hs (in1_room hu) ht r w (by simpa using hw)) ⟨.bl _, H, I, rfl, ?_⟩
  rw [show its.toArray.any (eqT H ns) = its.any (eqT H ns) by simp, any_eqT ht r]
  exact q
end
end L2
end
section
set_option linter.all false
namespace Wm
open Bd
/-! ### rows parted at a sign -/
def splitB (s : UInt8) : Bytes → List Bytes
  | [] => [[]]
  | c :: r => if c = s then [] :: splitB s r else match splitB s r with
    | [] => [[c]]
    | x :: l => (c :: x) :: l
/-- one more byte: the parts that are ended, the one that is not -/
def stp (s : UInt8) (p : List Bytes × Bytes) (c : UInt8) : List Bytes × Bytes := if c = s then (p.1 ++ [p.2], []) else (p.1, p.2 ++ [c])
def fl (s : UInt8) (t : Bytes) : List Bytes × Bytes := t.foldl (stp s) ([], [])
def parts (p : List Bytes × Bytes) : List Bytes := p.1 ++ [p.2]
theorem fl_snoc (s : UInt8) (t : Bytes) (c : UInt8) : fl s (t ++ [c]) = stp s (fl s t) c := by
  unfold fl
  rw [List.foldl_append]
  rfl
theorem wordsOf_eq : ∀ t : Bytes, wordsOf t = splitB 32 t
  | [] => rfl
  | c :: r => by
    unfold wordsOf splitB
    rw [wordsOf_eq r]
    rfl
theorem splitB_cons (s : UInt8) : ∀ t : Bytes, ∃ x l, splitB s t = x :: l
  | [] => ⟨_, _, rfl⟩
  | c :: r => by
    obtain ⟨x, l, e⟩ := splitB_cons s r
    unfold splitB
    rw [e]
    by_cases h : c = s
    · rw [if_pos h]
      exact ⟨_, _, rfl⟩
    · rw [if_neg h]
      exact ⟨_, _, rfl⟩
theorem parts_fold (s : UInt8) : ∀ (t : Bytes) (i : List Bytes) (l x : Bytes) (r : List Bytes), splitB s t = x :: r → parts (t.foldl (stp s) (i, l)) = i ++ (l ++ x) :: r
  | [], i, l, x, r, h => by
    cases h
    simp [parts]
  | c :: t, i, l, x, r, h => by
    obtain ⟨y, q, e⟩ := splitB_cons s t
    rw [List.foldl_cons]
    unfold splitB at h
    rw [e] at h
    by_cases hc : c = s
    · rw [if_pos hc] at h
      obtain ⟨h1, h2⟩ := List.cons.inj h
      subst h1 h2
      rw [show stp s (i, l) c = (i ++ [l], []) from if_pos hc, parts_fold s t _ _ y q e]
      simp
    · rw [if_neg hc] at h
      obtain ⟨h1, h2⟩ := List.cons.inj h
      subst h1 h2
      rw [show stp s (i, l) c = (i, l ++ [c]) from if_neg hc, parts_fold s t _ _ y q e]
      simp
theorem parts_fl (s : UInt8) (t : Bytes) : parts (fl s t) = splitB s t := by
  obtain ⟨x, l, e⟩ := splitB_cons s t
  unfold fl
  rw [parts_fold s t [] [] x l e, e]
  rfl
theorem lines_eq : ∀ t : Bytes, splitB 10 t = (linesOf t).1 ++ [(linesOf t).2]
  | [] => rfl
  | c :: r => by
    have ih := lines_eq r
    unfold splitB linesOf
    by_cases h : c = 10
    · simp only [if_pos h]
      rw [ih]
      rfl
    · simp only [if_neg h]
      rw [ih]
      cases e : (linesOf r).1 with
      | nil => rfl
      | cons x l => rfl
theorem fl_lines (t : Bytes) : fl 10 t = linesOf t := by
  have h := parts_fl 10 t
  rw [lines_eq] at h
  unfold parts at h
  have := List.append_inj' h rfl
  exact Prod.ext this.1 (by simpa using this.2)
/-! ### numbers -/
theorem dig_of : ∀ d : Nat, d < 10 → UInt8.ofNat (Nat.digitChar d).toNat = UInt8.ofNat (48 + d) := by decide
theorem number_lt {n : Nat} (h : n < 10) : number n = [UInt8.ofNat (48 + n)] := by
  unfold number ascii
  show ((String.ofList (Nat.toDigits 10 n)).toList.map _) = _
  rw [String.toList_ofList, Nat.toDigits_of_lt_base h]
  show [UInt8.ofNat (Nat.digitChar n).toNat] = _
  rw [dig_of n h]
theorem number_ge {n : Nat} (h : 10 ≤ n) : number n = number (n / 10) ++ [UInt8.ofNat (48 + n % 10)] := by
  unfold number ascii
  show ((String.ofList (Nat.toDigits 10 n)).toList.map _) = ((String.ofList (Nat.toDigits 10 (n / 10))).toList.map _) ++ _
  rw [String.toList_ofList, String.toList_ofList, Nat.toDigits_of_base_le (by decide) h, List.map_append]
  show _ ++ [UInt8.ofNat (Nat.digitChar (n % 10)).toNat] = _
  rw [dig_of (n % 10) (Nat.mod_lt _ (by decide))]
theorem valueOf_snoc (x : Bytes) (c : UInt8) : valueOf (x ++ [c]) = 10 * valueOf x + (c.toNat - 48) := by
  unfold valueOf
  rw [List.foldl_append]
  rfl
theorem dig_back {c : UInt8} (h : isDigit c = true) : UInt8.ofNat (48 + (c.toNat - 48)) = c ∧ c.toNat - 48 < 10 := by
  unfold isDigit at h
  simp only [Bool.and_eq_true, decide_eq_true_eq] at h
  refine ⟨?_, by omega⟩
  rw [show 48 + (c.toNat - 48) = c.toNat by omega]
  exact UInt8.ofNat_toNat
/-- noughts in front -/
def nought (x : Bytes) : Bool := x.headD 0 == 48 && decide (1 < x.length)
theorem number_head : ∀ (n : Nat), 10 ≤ n → (number n).headD 0 ≠ 48 ∧ number n ≠ [] ∧ 1 < (number n).length := by
  intro n
  induction n using Nat.strongRecOn with
  | _ n ih =>
    intro h
    rw [number_ge h]
    by_cases h2 : 10 ≤ n / 10
    · obtain ⟨a, b, c⟩ := ih (n / 10) (by omega) h2
      cases e : number (n / 10) with
      | nil => exact absurd e b
      | cons y l =>
        rw [e] at a
        refine ⟨a, by simp, ?_⟩
        simp
    · rw [number_lt (by omega)]
      refine ⟨?_, by simp, by simp⟩
      have hn : n / 10 < 10 := by omega
      have h1 : 1 ≤ n / 10 := by omega
      have q : ∀ d : Nat, d < 10 → 1 ≤ d → UInt8.ofNat (48 + d) ≠ 48 := by decide
      exact q _ hn h1
theorem value_pos : ∀ (x : Bytes), x ≠ [] → x.all isDigit = true → x.headD 0 ≠ 48 → 1 ≤ valueOf x := by
  intro x
  suffices h : ∀ (y : Bytes) (a : Nat), 1 ≤ a → 1 ≤ y.foldl (fun (n : Nat) (c : UInt8) => 10 * n + (c.toNat - 48)) a by
    intro hx hd hh
    cases x with
    | nil => exact absurd rfl hx
    | cons c r =>
      unfold valueOf
      rw [List.foldl_cons]
      refine h r _ ?_
      simp only [List.all_cons, Bool.and_eq_true] at hd
      obtain ⟨e, _⟩ := dig_back hd.1
      have hc : isDigit c = true := hd.1
      unfold isDigit at hc
      simp only [Bool.and_eq_true, decide_eq_true_eq] at hc
      have : c.toNat ≠ 48 := fun z => hh (by
        show c = 48
        exact UInt8.toNat_inj.mp z)
      omega
  intro y
  induction y with
  | nil => intro a h; exact h
  | cons c r ih =>
    intro a h
    rw [List.foldl_cons]
    exact ih _ (by omega)
theorem number_value : ∀ (n : Nat) (x : Bytes), x.length = n → x ≠ [] → x.all isDigit = true → nought x = false → number (valueOf x) = x
  | 0, x, hl, hx, _, _ => absurd (List.length_eq_zero_iff.mp hl) hx
  | n + 1, x, hl, hx, hd, hn => by
    have e : x = x.dropLast ++ [x.getLast hx] := (List.dropLast_concat_getLast hx).symm
    generalize x.dropLast = y at e
    generalize x.getLast hx = c at e
    subst e
    simp only [List.all_append, List.all_cons, List.all_nil, Bool.and_true, Bool.and_eq_true] at hd
    obtain ⟨e2, h2⟩ := dig_back hd.2
    rw [valueOf_snoc]
    cases y with
    | nil =>
      show number (10 * 0 + (c.toNat - 48)) = [c]
      rw [Nat.mul_zero, Nat.zero_add, number_lt h2, e2]
    | cons d r =>
      have hh : (d :: r).headD 0 ≠ 48 := by
        intro z
        unfold nought at hn
        have z' : d = 48 := z
        subst z'
        simp at hn
      have p := value_pos (d :: r) (by simp) hd.1 hh
      have nn : nought (d :: r) = false := by
        unfold nought
        rw [beq_eq_false_iff_ne.mpr hh]
        rfl
      have ih := number_value n (d :: r) (by simpa using hl) (by simp) hd.1 nn
      rw [number_ge (by omega), show (10 * valueOf (d :: r) + (c.toNat - 48)) / 10 = valueOf (d :: r) by omega, show (10 * valueOf (d :: r) + (c.toNat - 48)) % 10 = c.toNat - 48 by omega, ih, e2]
/-- what is read as a number, as the program reads it -/
def okNum (x : Bytes) : Bool := decide (1 ≤ x.length) && (decide (x.length ≤ 5) && (x.all isDigit && !nought x))
theorem readNumber_eq (x : Bytes) : readNumber x = if okNum x = true then some (valueOf x) else none := by
  unfold readNumber
  by_cases h : okNum x = true
  · rw [if_pos h]
    unfold okNum at h
    simp only [Bool.and_eq_true, decide_eq_true_eq, Bool.not_eq_true'] at h
    obtain ⟨h1, h2, h3, h4⟩ := h
    have hx : x ≠ [] := fun z => by rw [z] at h1; simp at h1
    rw [if_pos ⟨hx, h2, h3, number_value x.length x rfl hx h3 h4⟩]
  · rw [if_neg h]
    refine if_neg fun ⟨a, b, c, d⟩ => h ?_
    unfold okNum
    have l1 : 1 ≤ x.length := by
      cases x with
      | nil => exact absurd rfl a
      | cons _ _ => simp
    simp only [Bool.and_eq_true, decide_eq_true_eq, Bool.not_eq_true']
    refine ⟨l1, b, c, ?_⟩
    cases hn : nought x with
    | false => rfl
    | true =>
      exfalso
      unfold nought at hn
      simp only [Bool.and_eq_true, decide_eq_true_eq, beq_iff_eq] at hn
      by_cases h10 : 10 ≤ valueOf x
      · have z := (number_head _ h10).1
        rw [d] at z
        exact z hn.1
      · rw [number_lt (by omega)] at d
        rw [← d] at hn
        simp at hn
theorem valueOf_lt : ∀ (x : Bytes), x.length ≤ 5 → x.all isDigit = true → valueOf x < 100000 := by
  have h : ∀ (n : Nat) (x : Bytes), x.length = n → x.all isDigit = true → valueOf x < 10 ^ n := by
    intro n
    induction n with
    | zero =>
      intro x hl _
      rw [List.length_eq_zero_iff.mp hl]
      decide
    | succ n ih =>
      intro x hl hd
      have hx : x ≠ [] := fun z => by rw [z] at hl; cases hl
      have e : x = x.dropLast ++ [x.getLast hx] := (List.dropLast_concat_getLast hx).symm
      generalize x.dropLast = y at e
      generalize x.getLast hx = c at e
      subst e
      simp only [List.all_append, List.all_cons, List.all_nil, Bool.and_true, Bool.and_eq_true] at hd
      obtain ⟨_, h2⟩ := dig_back hd.2
      have z := ih y (by simpa using hl) hd.1
      rw [valueOf_snoc, Nat.pow_succ]
      omega
  intro x hl hd
  exact Nat.lt_of_lt_of_le (h x.length x rfl hd) (Nat.pow_le_pow_right (by decide) hl)
end Wm
end
section
set_option linter.all false
namespace Wm
open Bd
/-! ### lines, field by field -/
def joinB (s : UInt8) : List Bytes → Bytes
  | [] => []
  | [x] => x
  | x :: y :: l => x ++ s :: joinB s (y :: l)
theorem join_split (s : UInt8) : ∀ t : Bytes, joinB s (splitB s t) = t
  | [] => rfl
  | c :: r => by
    have ih := join_split s r
    obtain ⟨x, l, e⟩ := splitB_cons s r
    unfold splitB
    rw [e] at ih ⊢
    by_cases h : c = s
    · rw [if_pos h]
      show [] ++ s :: joinB s (x :: l) = c :: r
      rw [ih, h]
      rfl
    · rw [if_neg h]
      cases l with
      | nil =>
        have ih' : x = r := ih
        show c :: x = c :: r
        rw [ih']
      | cons y l =>
        show (c :: x) ++ s :: joinB s (y :: l) = c :: r
        have ih' : x ++ s :: joinB s (y :: l) = r := ih
        rw [← ih']
        rfl
theorem split_append {s : UInt8} : ∀ {w : Bytes} (r : Bytes), (∀ c ∈ w, c ≠ s) → splitB s (w ++ s :: r) = w :: splitB s r
  | [], r, _ => by
    show splitB s (s :: r) = [] :: splitB s r
    rw [splitB, if_pos rfl]
  | c :: w, r, h => by
    show splitB s (c :: (w ++ s :: r)) = _
    rw [splitB, if_neg (h c (by simp)), split_append (w := w) r fun d hd => h d (by simp [hd])]
/-- the fields behind a line's first word -/
def fieldsB (word : Bytes) (line : Bytes) : Option (List Bytes) := match splitB 32 line with
  | w :: r => if w = word then some r else none
  | [] => none
theorem behind_iff {w line x : Bytes} : behind w line = some x ↔ line = w ++ 32 :: x := by
  unfold behind
  constructor
  · intro h
    by_cases e : line.take (w.length + 1) = w ++ [32]
    · rw [if_pos e] at h
      have h' := Option.some.inj h
      rw [← List.take_append_drop (w.length + 1) line, e, h']
      simp
    · rw [if_neg e] at h
      cases h
  · intro h
    subst h
    rw [if_pos]
    · congr 1
      rw [show w ++ 32 :: x = (w ++ [32]) ++ x by simp, List.drop_left' (by simp)]
    · rw [show w ++ 32 :: x = (w ++ [32]) ++ x by simp, List.take_left' (by simp)]
theorem formed_eq (word : String) (ok : UInt8 → Bool) (line : Bytes) (hw : ∀ c ∈ ascii word, c ≠ 32) (h32 : ok 32 = false) :
    formed word ok line = match fieldsB (ascii word) line with
      | some [x] => if x ≠ [] ∧ x.all ok = true then some x else none
      | _ => none := by
  unfold formed
  cases hb : behind (ascii word) line with
  | some rest =>
    have e := behind_iff.mp hb
    have hs := split_append (s := 32) rest hw
    rw [← e] at hs
    unfold fieldsB
    rw [hs]
    dsimp only
    rw [if_pos rfl, Option.bind_some]
    obtain ⟨x, l, ex⟩ := splitB_cons 32 rest
    have hj := join_split 32 rest
    rw [ex] at hj ⊢
    cases l with
    | nil =>
      have hj' : x = rest := hj
      rw [hj']
    | cons y l =>
      have hj' : x ++ 32 :: joinB 32 (y :: l) = rest := hj
      show (if rest ≠ [] ∧ rest.all ok = true then some rest else none) = none
      refine if_neg fun ⟨_, z⟩ => ?_
      rw [← hj'] at z
      simp [h32] at z
  | none =>
    rw [Option.bind_none]
    unfold fieldsB
    obtain ⟨x, l, ex⟩ := splitB_cons 32 line
    have hj := join_split 32 line
    rw [ex] at hj ⊢
    dsimp only
    by_cases q : x = ascii word
    · rw [if_pos q]
      cases l with
      | nil => rfl
      | cons y l =>
        exfalso
        have hj' : x ++ 32 :: joinB 32 (y :: l) = line := hj
        rw [q] at hj'
        rw [behind_iff.mpr hj'.symm] at hb
        cases hb
    · rw [if_neg q]
theorem numbersIn_eq (word : String) (n : Nat) (line : Bytes) : numbersIn word n line = (fieldsB (ascii word) line).bind fun r => if r.length = n then r.mapM readNumber else none := by
  unfold numbersIn fieldsB
  rw [wordsOf_eq]
  obtain ⟨x, l, ex⟩ := splitB_cons 32 line
  rw [ex]
  dsimp only
  by_cases q : x = ascii word
  · rw [if_pos q, Option.bind_some]
    by_cases z : l.length = n
    · rw [if_pos ⟨q, z⟩, if_pos z]
    · rw [if_neg fun h => z h.2, if_neg z]
  · rw [if_neg fun h => q h.1, if_neg q]
    rfl
def endB (x : Bytes) : Option Nat := if x = ascii "free" then some 0 else if x = ascii "side" then some 1 else if x = ascii "end" then some 2 else none
theorem endIn_eq (word : String) (line : Bytes) : endIn word line = match fieldsB (ascii word) line with
    | some [x] => endB x
    | _ => none := by
  unfold endIn fieldsB
  rw [wordsOf_eq]
  obtain ⟨x, l, ex⟩ := splitB_cons 32 line
  rw [ex]
  cases l with
  | nil =>
    dsimp only
    by_cases q : x = ascii word
    · rw [if_pos q]
    · rw [if_neg q]
  | cons y l =>
    cases l with
    | nil =>
      dsimp only
      by_cases q : x = ascii word
      · rw [if_pos q, if_pos q]
        rfl
      · rw [if_neg q, if_neg q]
    | cons z l =>
      dsimp only
      by_cases q : x = ascii word
      · rw [if_pos q]
      · rw [if_neg q]
/-! ### the program's own reading -/
inductive HV where
  | nm (b : Bytes)
  | num (n : Nat)
  deriving DecidableEq
def nameB (x : Bytes) : Except Nat Bytes := if x = [] ∨ x.all isSmall = false then .error 1 else if 15 < x.length then .error 2 else .ok x
def sizeB (x : Bytes) (most : Nat) : Except Nat Nat := match readNumber x with
  | none => .error 1
  | some n => if n < 1 ∨ most < n then .error 2 else .ok n
def HEAD (i : Nat) : String := (["wall", "long", "high", "left", "right", "reveal"] : List String).getD i ""
/-- what a head's field tells -/
def fieldB (i : Nat) (x : Bytes) : Except Nat HV :=
  if i = 0 then (nameB x).map .nm else if i = 1 then (sizeB x 32).map .num else if i = 2 then (sizeB x 8).map .num else match endB x with
    | some e => .ok (.num e)
    | none => .error 1
def headB (i : Nat) (line : Bytes) : Except Nat HV := match fieldsB (ascii (HEAD i)) line with
  | some [x] => fieldB i x
  | _ => .error 1
def openB (line : Bytes) (long high : Nat) (before : List Opening) : Except Nat Opening := match (fieldsB (ascii "open") line).bind fun r => r.mapM readNumber with
  | some [a, b, c, d] =>
    let o : Opening := ⟨a, b, c, d⟩
    if o.within long high = false then .error 2
    else if (before.getLast?.any fun (p : Opening) => !p.before o) = true then .error 3
    else if (before.any fun (p : Opening) => p.meets o) = true then .error 4
    else if 8 ≤ before.length then .error 5
    else .ok o
  | _ => .error 1
def numAt (h : List HV) (i : Nat) : Nat := match h[i]? with
  | some (.num n) => n
  | _ => 0
def takeB (h : List HV) (o : List Opening) (line : Bytes) : Except Nat (List HV × List Opening) :=
  if h.length < 6 then (match headB h.length line with
    | .error k => .error k
    | .ok v => .ok (h ++ [v], o))
  else match openB line (numAt h 1) (numAt h 2) o with
    | .error k => .error k
    | .ok p => .ok (h, o ++ [p])
def runB : List Bytes → Nat → List HV → List Opening → Except Fault (List HV × List Opening)
  | [], _, h, o => .ok (h, o)
  | l :: r, i, h, o => match takeB h o l with
    | .error k => .error (i, k)
    | .ok z => runB r (i + 1) z.1 z.2
def readB (z : List Bytes × Bytes) : Except Fault (List HV × List Opening) := match runB z.1 0 [] [] with
  | .error e => .error e
  | .ok x => if x.1.length < 6 ∨ z.2 ≠ [] then .error (z.1.length, 1) else .ok x
def nameAt (h : List HV) : Bytes := match h[0]? with
  | some (HV.nm b) => b
  | _ => []
def wallB (h : List HV) (o : List Opening) : Wall := ⟨nameAt h, numAt h 1, numAt h 2, numAt h 3, numAt h 4, numAt h 5, o⟩
end Wm
end
section
set_option linter.all false
namespace Wm
open Bd
/-- the specification's reading of a head's line -/
def specHead (L : List Bytes) (i : Nat) : Except Fault HV :=
  if i = 0 then (match lineAt L 0 "wall" isSmall with
    | .error e => .error e
    | .ok name => if NAME < name.length then .error (0, 2) else .ok (.nm name))
  else if i = 1 then (sizeAt L 1 "long" LENGTH).map .num else if i = 2 then (sizeAt L 2 "high" HIGH).map .num
  else if i = 3 then (endAt L 3 "left").map .num else if i = 4 then (endAt L 4 "right").map .num else (endAt L 5 "reveal").map .num
def specFrom (L : List Bytes) : Nat → List HV → Except Fault Wall
  | 0, h => match opensAt L (numAt h 1) (numAt h 2) (L.length + 1) 6 [] with
    | .error e => .error e
    | .ok l => .ok (wallB h l)
  | n + 1, h => match specHead L h.length with
    | .error e => .error e
    | .ok v => specFrom L n (h ++ [v])
def allL (z : List Bytes × Bytes) : List Bytes := z.1 ++ (if z.2 = [] then [] else [[]])
theorem judge_spec (t : Bytes) : judgeWall t = specFrom (allL (linesOf t)) 6 [] := by
  unfold judgeWall
  show _ = specFrom (allL (linesOf t)) 6 []
  generalize hL : allL (linesOf t) = L
  have hL' : (linesOf t).1 ++ (if (linesOf t).2 = [] then [] else [[]]) = L := hL
  simp only [hL']
  simp only [specFrom, List.length_nil, List.nil_append, List.length_append, List.length_cons, List.cons_append, Nat.zero_add]
  have s0 : specHead L 0 = (match lineAt L 0 "wall" isSmall with
    | .error e => .error e
    | .ok name => if NAME < name.length then .error (0, 2) else .ok (.nm name)) := rfl
  have s1 : specHead L 1 = (sizeAt L 1 "long" LENGTH).map .num := rfl
  have s2 : specHead L 2 = (sizeAt L 2 "high" HIGH).map .num := rfl
  have s3 : specHead L 3 = (endAt L 3 "left").map .num := rfl
  have s4 : specHead L 4 = (endAt L 4 "right").map .num := rfl
  have s5 : specHead L 5 = (endAt L 5 "reveal").map .num := rfl
  simp only [Nat.reduceAdd, s0, s1, s2, s3, s4, s5]
  cases lineAt L 0 "wall" isSmall with
  | error e => rfl
  | ok name =>
    dsimp only
    by_cases hn : NAME < name.length
    · rw [if_pos hn, if_pos hn]
    · rw [if_neg hn, if_neg hn]
      dsimp only
      cases sizeAt L 1 "long" LENGTH with
      | error e => rfl
      | ok long =>
        dsimp only [Except.map]
        cases sizeAt L 2 "high" HIGH with
        | error e => rfl
        | ok high =>
          dsimp only
          cases endAt L 3 "left" with
          | error e => rfl
          | ok left =>
            dsimp only
            cases endAt L 4 "right" with
            | error e => rfl
            | ok right =>
              dsimp only
              cases endAt L 5 "reveal" with
              | error e => rfl
              | ok reveal => rfl
theorem sizeAt_eq (L : List Bytes) (i : Nat) (word : String) (most : Nat) : sizeAt L i word most = match L[i]? with
    | none => .error (i, 1)
    | some x => match fieldsB (ascii word) x with
      | some [y] => (match sizeB y most with
        | .error k => .error (i, k)
        | .ok n => .ok n)
      | _ => .error (i, 1) := by
  unfold sizeAt
  cases L[i]? with
  | none => rfl
  | some x =>
    rw [Option.bind_some, numbersIn_eq]
    dsimp only
    cases fieldsB (ascii word) x with
    | none => rfl
    | some r =>
      rw [Option.bind_some]
      match r with
      | [] => rfl
      | [y] =>
        rw [if_pos (show [y].length = 1 from rfl)]
        unfold sizeB
        cases hy : readNumber y with
        | none => simp [hy]
        | some n =>
          simp only [List.mapM_cons, List.mapM_nil, hy]
          show (if n < 1 ∨ most < n then Except.error (i, 2) else Except.ok n) = _
          by_cases q : n < 1 ∨ most < n
          · rw [if_pos q, if_pos q]
          · rw [if_neg q, if_neg q]
      | y :: z :: l =>
        dsimp only
        rw [if_neg (by simp)]
theorem endAt_eq (L : List Bytes) (i : Nat) (word : String) : endAt L i word = match L[i]? with
    | none => .error (i, 1)
    | some x => match fieldsB (ascii word) x with
      | some [y] => (match endB y with
        | none => .error (i, 1)
        | some n => .ok n)
      | _ => .error (i, 1) := by
  unfold endAt
  cases L[i]? with
  | none => rfl
  | some x =>
    rw [Option.bind_some, endIn_eq]
    dsimp only
    cases fieldsB (ascii word) x with
    | none => rfl
    | some r =>
      match r with
      | [] => rfl
      | [y] =>
        dsimp only
        cases endB y <;> rfl
      | y :: z :: l => rfl
def lift (i : Nat) (r : Except Nat HV) : Except Fault HV := match r with
  | .error k => .error (i, k)
  | .ok v => .ok v
def nameSpec (L : List Bytes) (i : Nat) (word : String) : Except Fault HV := match lineAt L i word isSmall with
  | .error e => .error e
  | .ok name => if NAME < name.length then .error (i, 2) else .ok (HV.nm name)
def nameOwn (L : List Bytes) (i : Nat) (word : String) : Except Fault HV := match L[i]? with
  | none => .error (i, 1)
  | some x => match fieldsB (ascii word) x with
    | some [y] => (match nameB y with
      | .error k => .error (i, k)
      | .ok n => .ok (HV.nm n))
    | _ => .error (i, 1)
theorem nameAt_eq (L : List Bytes) (i : Nat) (word : String) (hw : ∀ c ∈ ascii word, c ≠ 32) : nameSpec L i word = nameOwn L i word := by
  unfold nameSpec nameOwn lineAt
  cases L[i]? with
  | none => rfl
  | some x =>
    rw [Option.bind_some, formed_eq _ _ _ hw (by decide)]
    dsimp only
    cases fieldsB (ascii word) x with
    | none => rfl
    | some r =>
      match r with
      | [] => rfl
      | [y] =>
        dsimp only
        unfold nameB
        by_cases h1 : y = [] ∨ y.all isSmall = false
        · rw [if_pos h1, if_neg]
          rintro ⟨a, b⟩
          rcases h1 with h1 | h1
          · exact a h1
          · rw [h1] at b
            cases b
        · rw [if_neg h1, if_pos]
          · dsimp only
            by_cases h2 : NAME < y.length
            · rw [if_pos h2, if_pos (show 15 < y.length from h2)]
            · rw [if_neg h2, if_neg (show ¬ 15 < y.length from h2)]
          · refine ⟨fun z => h1 (.inl z), ?_⟩
            cases q : y.all isSmall with
            | true => rfl
            | false => exact absurd (.inr q) h1
      | y :: z :: l => rfl
theorem specHead_eq (L : List Bytes) (i : Nat) (hi : i < 6) : specHead L i = match L[i]? with
    | none => .error (i, 1)
    | some x => lift i (headB i x) := by
  unfold specHead headB
  match i, hi with
  | 0, _ =>
    rw [if_pos rfl]
    show nameSpec L 0 "wall" = _
    rw [nameAt_eq L 0 "wall" (by decide)]
    unfold nameOwn
    cases L[0]? with
    | none => rfl
    | some x =>
      dsimp only
      show _ = lift 0 (match fieldsB (ascii "wall") x with
        | some [x] => fieldB 0 x
        | _ => .error 1)
      cases fieldsB (ascii "wall") x with
      | none => rfl
      | some r =>
        match r with
        | [] => rfl
        | [y] =>
          dsimp only
          unfold fieldB
          rw [if_pos rfl]
          cases nameB y <;> rfl
        | y :: z :: l => rfl
  | 1, _ =>
    rw [if_neg (by decide), if_pos rfl, sizeAt_eq]
    cases L[1]? with
    | none => rfl
    | some x =>
      dsimp only
      show _ = lift 1 (match fieldsB (ascii "long") x with
        | some [x] => fieldB 1 x
        | _ => .error 1)
      cases fieldsB (ascii "long") x with
      | none => rfl
      | some r =>
        match r with
        | [] => rfl
        | [y] =>
          dsimp only
          show Except.map HV.num (match sizeB y 32 with
            | .error k => (.error (1, k) : Except Fault Nat)
            | .ok n => .ok n) = lift 1 ((sizeB y 32).map HV.num)
          cases sizeB y 32 <;> rfl
        | y :: z :: l => rfl
  | 2, _ =>
    rw [if_neg (by decide), if_neg (by decide), if_pos rfl, sizeAt_eq]
    cases L[2]? with
    | none => rfl
    | some x =>
      dsimp only
      show _ = lift 2 (match fieldsB (ascii "high") x with
        | some [x] => fieldB 2 x
        | _ => .error 1)
      cases fieldsB (ascii "high") x with
      | none => rfl
      | some r =>
        match r with
        | [] => rfl
        | [y] =>
          dsimp only
          show Except.map HV.num (match sizeB y 8 with
            | .error k => (.error (2, k) : Except Fault Nat)
            | .ok n => .ok n) = lift 2 ((sizeB y 8).map HV.num)
          cases sizeB y 8 <;> rfl
        | y :: z :: l => rfl
  | 3, _ =>
    rw [if_neg (by decide), if_neg (by decide), if_neg (by decide), if_pos rfl, endAt_eq]
    cases L[3]? with
    | none => rfl
    | some x =>
      dsimp only
      show _ = lift 3 (match fieldsB (ascii "left") x with
        | some [x] => fieldB 3 x
        | _ => .error 1)
      cases fieldsB (ascii "left") x with
      | none => rfl
      | some r =>
        match r with
        | [] => rfl
        | [y] =>
          dsimp only
          show _ = lift 3 (match endB y with
            | some e => .ok (HV.num e)
            | none => .error 1)
          cases endB y <;> rfl
        | y :: z :: l => rfl
  | 4, _ =>
    rw [if_neg (by decide), if_neg (by decide), if_neg (by decide), if_neg (by decide), if_pos rfl, endAt_eq]
    cases L[4]? with
    | none => rfl
    | some x =>
      dsimp only
      show _ = lift 4 (match fieldsB (ascii "right") x with
        | some [x] => fieldB 4 x
        | _ => .error 1)
      cases fieldsB (ascii "right") x with
      | none => rfl
      | some r =>
        match r with
        | [] => rfl
        | [y] =>
          dsimp only
          show _ = lift 4 (match endB y with
            | some e => .ok (HV.num e)
            | none => .error 1)
          cases endB y <;> rfl
        | y :: z :: l => rfl
  | 5, _ =>
    rw [if_neg (by decide), if_neg (by decide), if_neg (by decide), if_neg (by decide), if_neg (by decide), endAt_eq]
    cases L[5]? with
    | none => rfl
    | some x =>
      dsimp only
      show _ = lift 5 (match fieldsB (ascii "reveal") x with
        | some [x] => fieldB 5 x
        | _ => .error 1)
      cases fieldsB (ascii "reveal") x with
      | none => rfl
      | some r =>
        match r with
        | [] => rfl
        | [y] =>
          dsimp only
          show _ = lift 5 (match endB y with
            | some e => .ok (HV.num e)
            | none => .error 1)
          cases endB y <;> rfl
        | y :: z :: l => rfl
  | n + 6, h => omega
theorem headB_nil (i : Nat) (hi : i < 6) : headB i [] = .error 1 := by
  match i, hi with
  | 0, _ => rfl
  | 1, _ => rfl
  | 2, _ => rfl
  | 3, _ => rfl
  | 4, _ => rfl
  | 5, _ => rfl
  | n + 6, h => omega
theorem mapM_len : ∀ {r : List Bytes} {ns : List Nat}, r.mapM readNumber = some ns → ns.length = r.length
  | [], ns, h => by
    simp at h
    rw [h]
    rfl
  | x :: r, ns, h => by
    rw [List.mapM_cons] at h
    cases e : readNumber x with
    | none => rw [e] at h; cases h
    | some n =>
      cases e2 : r.mapM readNumber with
      | none => rw [e, e2] at h; cases h
      | some l =>
        rw [e, e2] at h
        have h' : n :: l = ns := Option.some.inj h
        rw [← h']
        simp [mapM_len e2]
theorem opens_step (L : List Bytes) (long high f i : Nat) (l : List Opening) : opensAt L long high (f + 1) i l = match L[i]? with
    | none => .ok l
    | some x => match openB x long high l with
      | .error k => .error (i, k)
      | .ok o => opensAt L long high f (i + 1) (l ++ [o]) := by
  rw [opensAt]
  cases L[i]? with
  | none => rfl
  | some x =>
    dsimp only
    unfold openB
    rw [numbersIn_eq]
    cases fieldsB (ascii "open") x with
    | none => rfl
    | some r =>
      rw [Option.bind_some, Option.bind_some]
      by_cases hr : r.length = 4
      · rw [if_pos hr]
        cases hm : r.mapM readNumber with
        | none => rfl
        | some ns =>
          have hl := (mapM_len hm).trans hr
          match ns, hl with
          | [a, b, c, d], _ =>
            dsimp only
            by_cases q1 : Opening.within ⟨a, b, c, d⟩ long high = false
            · rw [if_pos q1, if_pos q1]
            · rw [if_neg q1, if_neg q1]
              by_cases q2 : (l.getLast?.any fun (p : Opening) => !p.before ⟨a, b, c, d⟩) = true
              · rw [if_pos q2, if_pos q2]
              · rw [if_neg q2, if_neg q2]
                by_cases q3 : (l.any fun (p : Opening) => p.meets ⟨a, b, c, d⟩) = true
                · rw [if_pos q3, if_pos q3]
                · rw [if_neg q3, if_neg q3]
                  by_cases q4 : OPENS ≤ l.length
                  · rw [if_pos q4, if_pos (show 8 ≤ l.length from q4)]
                  · rw [if_neg q4, if_neg (show ¬ 8 ≤ l.length from q4)]
      · rw [if_neg hr]
        cases hm : r.mapM readNumber with
        | none => rfl
        | some ns =>
          have hl := mapM_len hm
          match ns, hl with
          | [], _ => rfl
          | [_], _ => rfl
          | [_, _], _ => rfl
          | [_, _, _], _ => rfl
          | [_, _, _, _], hl => exact absurd hl.symm hr
          | _ :: _ :: _ :: _ :: _ :: _, _ => rfl
theorem allL_lt {z : List Bytes × Bytes} {i : Nat} {x : Bytes} (h : z.1[i]? = some x) : (allL z)[i]? = some x := by
  unfold allL
  have hi := (List.getElem?_eq_some_iff.mp h).1
  rw [List.getElem?_append_left hi]
  exact h
theorem allL_end (z : List Bytes × Bytes) : (allL z)[z.1.length]? = if z.2 = [] then none else some [] := by
  unfold allL
  rw [List.getElem?_append_right (Nat.le_refl _), Nat.sub_self]
  by_cases h : z.2 = []
  · rw [if_pos h, if_pos h]
    rfl
  · rw [if_neg h, if_neg h]
    rfl
theorem allL_len (z : List Bytes × Bytes) : z.1.length ≤ (allL z).length := by
  unfold allL
  rw [List.length_append]
  omega
/-- the end: too few lines, bytes behind the last line feed -/
def fin (z : List Bytes × Bytes) : Except Fault (List HV × List Opening) → Except Fault Wall
  | .error e => .error e
  | .ok x => if x.1.length < 6 ∨ z.2 ≠ [] then .error (z.1.length, 1) else .ok (wallB x.1 x.2)
theorem opens_run (z : List Bytes × Bytes) (h : List HV) (h6 : h.length = 6) : ∀ (f i : Nat) (o : List Opening), i ≤ z.1.length → (allL z).length + 1 ≤ f + i →
    (match opensAt (allL z) (numAt h 1) (numAt h 2) f i o with
    | .error e => .error e
    | .ok l => .ok (wallB h l)) = fin z (runB (z.1.drop i) i h o) := by
  intro f
  induction f with
  | zero =>
    intro i o hi hf
    have := allL_len z
    omega
  | succ f ih =>
    intro i o hi hf
    rw [opens_step]
    by_cases hl : i < z.1.length
    · have ex : z.1[i]? = some z.1[i] := List.getElem?_eq_getElem hl
      rw [allL_lt ex, List.drop_eq_getElem_cons hl]
      dsimp only
      rw [runB]
      unfold takeB
      rw [if_neg (by omega)]
      cases openB z.1[i] (numAt h 1) (numAt h 2) o with
      | error k => rfl
      | ok p =>
        dsimp only
        exact ih (i + 1) _ hl (by omega)
    · have e : i = z.1.length := by omega
      subst e
      rw [allL_end, List.drop_length]
      show _ = if h.length < 6 ∨ z.2 ≠ [] then Except.error (z.1.length, 1) else Except.ok (wallB h o)
      by_cases h2 : z.2 = []
      · rw [if_pos h2, if_neg (fun q => by rcases q with q | q; omega; exact q h2)]
      · rw [if_neg h2, if_pos (.inr h2)]
        rfl
theorem spec_run (z : List Bytes × Bytes) : ∀ (n : Nat) (h : List HV), h.length + n = 6 → h.length ≤ z.1.length → specFrom (allL z) n h = fin z (runB (z.1.drop h.length) h.length h []) := by
  intro n
  induction n with
  | zero =>
    intro h h6 hl
    have h6' : h.length = 6 := h6
    rw [h6'] at hl ⊢
    exact opens_run z h h6' _ 6 [] hl (by omega)
  | succ n ih =>
    intro h h6 hl
    rw [specFrom, specHead_eq _ _ (by omega)]
    by_cases hlt : h.length < z.1.length
    · have ex : z.1[h.length]? = some z.1[h.length] := List.getElem?_eq_getElem hlt
      rw [allL_lt ex, List.drop_eq_getElem_cons hlt]
      dsimp only
      rw [runB]
      unfold takeB
      rw [if_pos (by omega)]
      cases headB h.length z.1[h.length] with
      | error k => rfl
      | ok v =>
        dsimp only
        have q := ih (h ++ [v]) (by simp; omega) (by simp; omega)
        show specFrom (allL z) n (h ++ [v]) = _
        rw [q]
        simp
    · have e : h.length = z.1.length := by omega
      have ea := allL_end z
      rw [← e] at ea
      have er : fin z (runB (z.1.drop h.length) h.length h []) = .error (z.1.length, 1) := by
        rw [e, List.drop_length]
        show (if h.length < 6 ∨ z.2 ≠ [] then Except.error (z.1.length, 1) else Except.ok (wallB h [])) = _
        rw [if_pos (Or.inl (show h.length < 6 by omega))]
      rw [er, ea]
      by_cases h2 : z.2 = []
      · rw [if_pos h2]
        show Except.error (h.length, 1) = _
        rw [e]
      · rw [if_neg h2]
        dsimp only
        rw [headB_nil _ (by omega)]
        show Except.error (h.length, 1) = _
        rw [e]
theorem judge_eq (t : Bytes) : judgeWall t = match readB (fl 10 t) with
    | .error e => .error e
    | .ok x => .ok (wallB x.1 x.2) := by
  rw [judge_spec, spec_run _ 6 [] rfl (Nat.zero_le _), ← fl_lines]
  show fin (fl 10 t) (runB (fl 10 t).1 0 [] []) = _
  unfold readB fin
  cases runB (fl 10 t).1 0 [] [] with
  | error e => rfl
  | ok x =>
    dsimp only
    by_cases q : x.1.length < 6 ∨ (fl 10 t).2 ≠ []
    · rw [if_pos q, if_pos q]
    · rw [if_neg q, if_neg q]
end Wm
end
section
set_option linter.all false
namespace Wm
open Bd
abbrev WS := List HV × List Opening × List Bytes
/-- one line more -/
def stepW (s : WS) (line : Bytes) : Except Nat WS := match takeB s.1 s.2.1 line with
  | .error k => .error k
  | .ok z => .ok (z.1, z.2, s.2.2 ++ [line])
def finW (s : WS) (rest : Bytes) : Option Nat := if s.1.length < 6 ∨ rest ≠ [] then some 1 else none
/-! ### lines read by a reader -/
def runS {S : Type} (step : S → Bytes → Except Nat S) : List Bytes → Nat → S → Except Fault S
  | [], _, s => .ok s
  | l :: r, i, s => match step s l with
    | .error k => .error (i, k)
    | .ok s' => runS step r (i + 1) s'
def readS {S : Type} (step : S → Bytes → Except Nat S) (fin : S → Bytes → Option Nat) (s0 : S) (z : List Bytes × Bytes) : Except Fault S := match runS step z.1 0 s0 with
  | .error e => .error e
  | .ok s => match fin s z.2 with
    | some k => .error (z.1.length, k)
    | none => .ok s
theorem runS_W : ∀ (lines : List Bytes) (i : Nat) (h : List HV) (o : List Opening) (ls : List Bytes), runS stepW lines i (h, o, ls) = match runB lines i h o with
    | .error e => .error e
    | .ok x => .ok (x.1, x.2, ls ++ lines)
  | [], i, h, o, ls => by
    rw [runS, runB, List.append_nil]
  | l :: r, i, h, o, ls => by
    rw [runS, runB]
    have e : stepW (h, o, ls) l = match takeB h o l with
      | .error k => .error k
      | .ok z => .ok (z.1, z.2, ls ++ [l]) := rfl
    rw [e]
    cases takeB h o l with
    | error k => rfl
    | ok z =>
      dsimp only
      rw [runS_W r (i + 1) z.1 z.2 (ls ++ [l]), List.append_assoc]
      rfl
theorem readS_W (z : List Bytes × Bytes) : readS stepW finW ([], [], []) z = match readB z with
    | .error e => .error e
    | .ok x => .ok (x.1, x.2, z.1) := by
  unfold readS readB
  rw [runS_W]
  cases runB z.1 0 [] [] with
  | error e => rfl
  | ok x =>
    dsimp only
    unfold finW
    dsimp only
    by_cases q : x.1.length < 6 ∨ z.2 ≠ []
    · rw [if_pos q, if_pos q]
    · rw [if_neg q, if_neg q]
      rfl
/-- the one field behind a line's first word -/
def oneB (wd line : Bytes) : Option Bytes := match fieldsB wd line with
  | some [x] => some x
  | _ => none
def rangeB (x : Bytes) (least most : Nat) : Except Nat Nat := match readNumber x with
  | none => .error 1
  | some n => if n < least ∨ most < n then .error 2 else .ok n
end Wm
end
section
set_option linter.all false
namespace Wm
open Bd
/-! ### stretches, place by place -/
def sOf (f i : Nat) : Option Nat := if f < i then some f else none
theorem str_succ {w : Wall} {y n x : Nat} {s : Option Nat} : stretchesFrom w y (n + 1) x s = if w.isOpen x y = true then (match s with
    | some a => [(a, x - a)]
    | none => []) ++ stretchesFrom w y n (x + 1) none else stretchesFrom w y n (x + 1) (s.orElse fun (_ : Unit) => some x) := by
  cases s <;> rfl
theorem str_zero {w : Wall} {y x : Nat} {s : Option Nat} : stretchesFrom w y 0 x s = match s with
    | some a => [(a, x - a)]
    | none => [] := by
  cases s <;> rfl
theorem str_open {w : Wall} {y n i f : Nat} (ho : w.isOpen i y = true) : stretchesFrom w y (n + 1) i (sOf f i) = (if f < i then [(f, i - f)] else []) ++ stretchesFrom w y n (i + 1) (sOf (i + 1) (i + 1)) := by
  rw [str_succ, if_pos ho]
  unfold sOf
  rw [if_neg (Nat.lt_irrefl (i + 1))]
  by_cases h : f < i
  · rw [if_pos h, if_pos h]
  · rw [if_neg h, if_neg h]
theorem str_shut {w : Wall} {y n i f : Nat} (hf : f ≤ i) (ho : w.isOpen i y = false) : stretchesFrom w y (n + 1) i (sOf f i) = stretchesFrom w y n (i + 1) (sOf f (i + 1)) := by
  rw [str_succ, if_neg (by rw [ho]; decide)]
  congr 1
  unfold sOf
  rw [if_pos (show f < i + 1 by omega)]
  by_cases h : f < i
  · rw [if_pos h]
    rfl
  · rw [if_neg h]
    have e : f = i := by omega
    rw [e]
    rfl
theorem str_end {w : Wall} {y i f : Nat} : stretchesFrom w y 0 i (sOf f i) = if f < i then [(f, i - f)] else [] := by
  rw [str_zero]
  unfold sOf
  by_cases h : f < i
  · rw [if_pos h, if_pos h]
  · rw [if_neg h, if_neg h]
theorem str_len (w : Wall) (y : Nat) : ∀ (n i : Nat) (s : Option Nat), (stretchesFrom w y n i s).length ≤ n + 1
  | 0, i, s => by
    rw [str_zero]
    cases s <;> simp
  | n + 1, i, s => by
    rw [str_succ]
    by_cases h : w.isOpen i y = true
    · rw [if_pos h, List.length_append]
      have z := str_len w y n (i + 1) none
      cases s with
      | none => simp; omega
      | some a => simp; omega
    · rw [if_neg h]
      have z := str_len w y n (i + 1) (s.orElse fun (_ : Unit) => some i)
      omega
theorem stretches_len (w : Wall) (y : Nat) : (w.stretches y).length ≤ w.long + 1 := str_len w y _ _ _
/-! ### panels -/
def partsIn (w : Wall) (y : Nat) (l : List (Nat × Nat)) : List Part := (l.filter fun (s : Nat × Nat) => !(decide (0 < y) && (w.stretches (y - 1)).contains s)).map fun (s : Nat × Nat) => ⟨s.1, y, s.2, w.runOf s y⟩
theorem range_snoc (n : Nat) : List.range (n + 1) = List.range n ++ [n] := List.range_succ
def partsTo (w : Wall) (n : Nat) : List Part := (List.range n).flatMap fun y => partsIn w y (w.stretches y)
theorem partsTo_succ (w : Wall) (n : Nat) : partsTo w (n + 1) = partsTo w n ++ partsIn w n (w.stretches n) := by
  unfold partsTo
  rw [range_snoc, List.flatMap_append]
  simp
theorem partsIn_snoc (w : Wall) (y : Nat) (l : List (Nat × Nat)) (s : Nat × Nat) : partsIn w y (l ++ [s]) = partsIn w y l ++ if (decide (0 < y) && (w.stretches (y - 1)).contains s) = true then [] else [⟨s.1, y, s.2, w.runOf s y⟩] := by
  unfold partsIn
  rw [List.filter_append, List.map_append]
  congr 1
  rw [List.filter_cons, List.filter_nil]
  cases (decide (0 < y) && (w.stretches (y - 1)).contains s) <;> rfl
theorem partsIn_len (w : Wall) (y : Nat) (l : List (Nat × Nat)) : (partsIn w y l).length ≤ l.length := by
  unfold partsIn
  rw [List.length_map]
  exact List.length_filter_le _ _
theorem partsTo_len (w : Wall) : ∀ n, (partsTo w n).length ≤ n * (w.long + 1)
  | 0 => by simp [partsTo]
  | n + 1 => by
    rw [partsTo_succ, List.length_append]
    have h1 := partsTo_len w n
    have h2 := partsIn_len w n (w.stretches n)
    have h3 := stretches_len w n
    rw [Nat.succ_mul]
    omega
/-! ### so many courses have it -/
def rowsW (w : Wall) : List (List (Nat × Nat)) := (List.range w.high).map w.stretches
theorem rowsW_get {w : Wall} {y : Nat} (h : y < w.high) : (rowsW w)[y]? = some (w.stretches y) := by
  unfold rowsW
  rw [List.getElem?_map, List.getElem?_range h]
  rfl
theorem run_eq (w : Wall) (s : Nat × Nat) (y : Nat) (hy : y ≤ w.high) : (((rowsW w).drop y).takeWhile fun l => l.contains s).length = w.runOf s y := by
  unfold Wall.runOf rowsW
  have e : ((List.range w.high).map w.stretches).drop y = (List.range (w.high - y)).map fun k => w.stretches (y + k) := by
    apply List.ext_getElem?
    intro i
    rw [List.getElem?_drop, List.getElem?_map, List.getElem?_map]
    by_cases h : y + i < w.high
    · rw [List.getElem?_range h, List.getElem?_range (by omega)]
      rfl
    · rw [List.getElem?_eq_none (by simp; omega), List.getElem?_eq_none (by simp; omega)]
      rfl
  rw [e, List.takeWhile_map, List.length_map]
  rfl
/-- the count goes up while it's there -/
theorem tw_step {α : Type} {p : α → Bool} : ∀ {l : List α} {k : Nat} {x : α}, l[k]? = some x → (∀ j y, j < k → l[j]? = some y → p y = true) → (l.takeWhile p).length = if p x = true then k + 1 + ((l.drop (k + 1)).takeWhile p).length else k
  | [], k, x, h, _ => by simp at h
  | a :: l, 0, x, h, _ => by
    have e : a = x := Option.some.inj h
    subst e
    rw [List.takeWhile_cons]
    cases q : p a with
    | true => simp; omega
    | false => simp
  | a :: l, k + 1, x, h, hp => by
    have pa : p a = true := hp 0 a (by omega) rfl
    have ih := tw_step (l := l) (k := k) (x := x) (p := p) h fun j y hj hy => hp (j + 1) y (by omega) hy
    rw [List.takeWhile_cons, if_pos pa, List.length_cons, ih, List.drop_succ_cons]
    by_cases q : p x = true
    · rw [if_pos q, if_pos q]
      omega
    · rw [if_neg q, if_neg q]
theorem tw_all {α : Type} {p : α → Bool} : ∀ {l : List α}, (∀ j y, j < l.length → l[j]? = some y → p y = true) → (l.takeWhile p).length = l.length
  | [], _ => rfl
  | a :: l, h => by
    have pa : p a = true := h 0 a (by simp) rfl
    rw [List.takeWhile_cons, if_pos pa, List.length_cons, List.length_cons, tw_all (l := l) fun j y hj hy => h (j + 1) y (by simp; omega) hy]
/-! ### pairs as ints -/
def pI (s : Nat × Nat) : List Int := [((s.1 : Nat) : Int), ((s.2 : Nat) : Int)]
theorem pI_inj {a b : Nat × Nat} : pI a = pI b ↔ a = b := by
  constructor
  · intro h
    unfold pI at h
    injection h with h1 h2
    injection h2 with h2 _
    exact Prod.ext (by omega) (by omega)
  · intro h
    rw [h]
theorem contains_pI (s : Nat × Nat) : ∀ l : List (Nat × Nat), (l.map pI).contains (pI s) = l.contains s
  | [] => rfl
  | a :: l => by
    rw [List.map_cons, List.contains_cons, List.contains_cons, contains_pI s l]
    congr 1
    rw [Bool.eq_iff_iff, beq_iff_eq, beq_iff_eq]
    exact pI_inj
def qI (p : Part) : List Int := [((p.x : Nat) : Int), ((p.y : Nat) : Int), ((p.long : Nat) : Int), ((p.high : Nat) : Int)]
theorem isOpen_any (w : Wall) (x y : Nat) : w.isOpen x y = (w.opens.map fun o => o.has x y).any id := by
  unfold Wall.isOpen
  rw [List.any_map]
  rfl
end Wm
end
section
set_option Elab.async false
set_option linter.all false
set_option maxRecDepth 100000
set_option maxHeartbeats 4000000
namespace Wb
open PySem PySem.Spec PyProof.Rows L2 Wm
open PySem.W (Codec)
theorem bt_all : bootBuiltins "all" = some (.builtin "all") := by decide +kernel
theorem bt_any : bootBuiltins "any" = some (.builtin "any") := by decide +kernel
theorem bt_len : bootBuiltins "len" = some (.builtin "len") := by decide +kernel
theorem bt_ord : bootBuiltins "ord" = some (.builtin "ord") := by decide +kernel
def top (i : Nat) : Stmt := PySem.Challenge.pw_wallbonds_s04_where.main.body.getD i (.Pass ⟨0, 0, 0, 0⟩)
abbrev s_bytes_of : Stmt := top 21
abbrev s_split_at : Stmt := top 22
abbrev s_read_lines : Stmt := top 23
abbrev s_fields_behind : Stmt := top 24
abbrev s_field_behind : Stmt := top 25
abbrev s_number_in : Stmt := top 26
abbrev s_number_from_to : Stmt := top 27
abbrev s_name_in : Stmt := top 28
abbrev s_read_wall : Stmt := top 40
abbrev s_head_value : Stmt := top 41
abbrev s_end_in : Stmt := top 42
abbrev s_opening_in : Stmt := top 43
abbrev s_stretches_of : Stmt := top 44
abbrev s_panels_of : Stmt := top 45
abbrev s_courses_with : Stmt := top 46
abbrev s_panel_at : Stmt := top 47
abbrev s_where : Stmt := top 50
abbrev s_wall_of : Stmt := top 51
abbrev s_refuse_long : Stmt := top 52
abbrev s_refused : Stmt := top 53
abbrev s_answer : Stmt := top 54
abbrev s_Refusal___init__ : Stmt := inClass (top 6) 0
abbrev s_TooLong___init__ : Stmt := inClass (top 7) 0
abbrev s_TextFault___init__ : Stmt := inClass (top 8) 0
abbrev s_Outside___init__ : Stmt := inClass (top 9) 0
abbrev s_NotThere___init__ : Stmt := inClass (top 10) 0
abbrev s_LineFault___init__ : Stmt := inClass (top 11) 0
abbrev s_Opening___init__ : Stmt := inClass (top 36) 0
abbrev s_Opening_lies_within : Stmt := inClass (top 36) 1
abbrev s_Opening_stands_behind : Stmt := inClass (top 36) 2
abbrev s_Opening_meets : Stmt := inClass (top 36) 3
abbrev s_Opening_covers : Stmt := inClass (top 36) 4
abbrev s_Wall___init__ : Stmt := inClass (top 37) 0
abbrev s_Wall_is_open : Stmt := inClass (top 37) 1
abbrev s_Panel___init__ : Stmt := inClass (top 38) 0
abbrev s_Panel_has : Stmt := inClass (top 38) 1
abbrev s_WallReader___init__ : Stmt := inClass (top 39) 0
abbrev s_WallReader_has_head : Stmt := inClass (top 39) 1
abbrev s_WallReader_take : Stmt := inClass (top 39) 2
abbrev s_WallReader_take_rest : Stmt := inClass (top 39) 3
theorem sc_bytes_of : FnScope ["word", "sign"] ["word"] (defScope s_bytes_of) := ⟨rfl, rfl, rfl, by decide +kernel, rfl, by decide +kernel, by decide +kernel⟩
theorem sc_split_at : FnScope ["row", "sign", "parts", "byte"] ["row", "sign"] (defScope s_split_at) := ⟨rfl, rfl, rfl, by decide +kernel, rfl, by decide +kernel, by decide +kernel⟩
theorem sc_read_lines : FnScope ["text", "reader", "parts", "number", "line", "fault"] ["text", "reader"] (defScope s_read_lines) := ⟨rfl, rfl, rfl, by decide +kernel, rfl, by decide +kernel, by decide +kernel⟩
theorem sc_fields_behind : FnScope ["word", "line", "fields"] ["word", "line"] (defScope s_fields_behind) := ⟨rfl, rfl, rfl, by decide +kernel, rfl, by decide +kernel, by decide +kernel⟩
theorem sc_field_behind : FnScope ["word", "line", "fields"] ["word", "line"] (defScope s_field_behind) := ⟨rfl, rfl, rfl, by decide +kernel, rfl, by decide +kernel, by decide +kernel⟩
theorem sc_number_in : FnScope ["field", "byte", "number"] ["field"] (defScope s_number_in) := ⟨rfl, rfl, rfl, by decide +kernel, rfl, by decide +kernel, by decide +kernel⟩
theorem sc_number_from_to : FnScope ["field", "least", "most", "number"] ["field", "least", "most"] (defScope s_number_from_to) := ⟨rfl, rfl, rfl, by decide +kernel, rfl, by decide +kernel, by decide +kernel⟩
theorem sc_name_in : FnScope ["field", "byte"] ["field"] (defScope s_name_in) := ⟨rfl, rfl, rfl, by decide +kernel, rfl, by decide +kernel, by decide +kernel⟩
theorem sc_read_wall : FnScope ["text", "reader"] ["text"] (defScope s_read_wall) := ⟨rfl, rfl, rfl, by decide +kernel, rfl, by decide +kernel, by decide +kernel⟩
theorem sc_head_value : FnScope ["number", "line", "field"] ["number", "line"] (defScope s_head_value) := ⟨rfl, rfl, rfl, by decide +kernel, rfl, by decide +kernel, by decide +kernel⟩
theorem sc_end_in : FnScope ["field", "number", "word"] ["field"] (defScope s_end_in) := ⟨rfl, rfl, rfl, by decide +kernel, rfl, by decide +kernel, by decide +kernel⟩
theorem sc_opening_in : FnScope ["line", "length", "height", "before", "numbers", "field", "opening", "other"] ["line", "length", "height", "before"] (defScope s_opening_in) := ⟨rfl, rfl, rfl, by decide +kernel, rfl, by decide +kernel, by decide +kernel⟩
theorem sc_stretches_of : FnScope ["wall", "course", "stretches", "first", "place"] ["wall", "course"] (defScope s_stretches_of) := ⟨rfl, rfl, rfl, by decide +kernel, rfl, by decide +kernel, by decide +kernel⟩
theorem sc_panels_of : FnScope ["wall", "rows", "course", "panels", "row", "stretch"] ["wall"] (defScope s_panels_of) := ⟨rfl, rfl, rfl, by decide +kernel, rfl, by decide +kernel, by decide +kernel⟩
theorem sc_courses_with : FnScope ["stretch", "rows", "count"] ["stretch", "rows"] (defScope s_courses_with) := ⟨rfl, rfl, rfl, by decide +kernel, rfl, by decide +kernel, by decide +kernel⟩
theorem sc_panel_at : FnScope ["wall", "place", "course", "number", "panel"] ["wall", "place", "course"] (defScope s_panel_at) := ⟨rfl, rfl, rfl, by decide +kernel, rfl, by decide +kernel, by decide +kernel⟩
theorem sc_where : FnScope ["x", "y", "t", "number", "refusal"] ["x", "y", "t"] (defScope s_where) := ⟨rfl, rfl, rfl, by decide +kernel, rfl, by decide +kernel, by decide +kernel⟩
theorem sc_wall_of : FnScope ["t"] ["t"] (defScope s_wall_of) := ⟨rfl, rfl, rfl, by decide +kernel, rfl, by decide +kernel, by decide +kernel⟩
theorem sc_refuse_long : FnScope ["rows", "row"] ["rows"] (defScope s_refuse_long) := ⟨rfl, rfl, rfl, by decide +kernel, rfl, by decide +kernel, by decide +kernel⟩
theorem sc_refused : FnScope ["refusal"] ["refusal"] (defScope s_refused) := ⟨rfl, rfl, rfl, by decide +kernel, rfl, by decide +kernel, by decide +kernel⟩
theorem sc_answer : FnScope ["number", "row", "signs"] ["number", "row", "signs"] (defScope s_answer) := ⟨rfl, rfl, rfl, by decide +kernel, rfl, by decide +kernel, by decide +kernel⟩
theorem sc_Refusal___init__ : FnScope ["self", "number", "told"] ["self", "number", "told"] (defScope s_Refusal___init__) := ⟨rfl, rfl, rfl, by decide +kernel, rfl, by decide +kernel, by decide +kernel⟩
theorem sc_TooLong___init__ : FnScope ["self"] ["self"] (defScope s_TooLong___init__) := ⟨rfl, rfl, rfl, by decide +kernel, rfl, by decide +kernel, by decide +kernel⟩
theorem sc_TextFault___init__ : FnScope ["self", "line", "kind"] ["self", "line", "kind"] (defScope s_TextFault___init__) := ⟨rfl, rfl, rfl, by decide +kernel, rfl, by decide +kernel, by decide +kernel⟩
theorem sc_Outside___init__ : FnScope ["self"] ["self"] (defScope s_Outside___init__) := ⟨rfl, rfl, rfl, by decide +kernel, rfl, by decide +kernel, by decide +kernel⟩
theorem sc_NotThere___init__ : FnScope ["self"] ["self"] (defScope s_NotThere___init__) := ⟨rfl, rfl, rfl, by decide +kernel, rfl, by decide +kernel, by decide +kernel⟩
theorem sc_LineFault___init__ : FnScope ["self", "kind"] ["self", "kind"] (defScope s_LineFault___init__) := ⟨rfl, rfl, rfl, by decide +kernel, rfl, by decide +kernel, by decide +kernel⟩
theorem sc_Opening___init__ : FnScope ["self", "numbers"] ["self", "numbers"] (defScope s_Opening___init__) := ⟨rfl, rfl, rfl, by decide +kernel, rfl, by decide +kernel, by decide +kernel⟩
theorem sc_Opening_lies_within : FnScope ["self", "length", "height"] ["self", "length", "height"] (defScope s_Opening_lies_within) := ⟨rfl, rfl, rfl, by decide +kernel, rfl, by decide +kernel, by decide +kernel⟩
theorem sc_Opening_stands_behind : FnScope ["self", "other"] ["self", "other"] (defScope s_Opening_stands_behind) := ⟨rfl, rfl, rfl, by decide +kernel, rfl, by decide +kernel, by decide +kernel⟩
theorem sc_Opening_meets : FnScope ["self", "other", "side_by_side", "one_above_another"] ["self", "other"] (defScope s_Opening_meets) := ⟨rfl, rfl, rfl, by decide +kernel, rfl, by decide +kernel, by decide +kernel⟩
theorem sc_Opening_covers : FnScope ["self", "place", "course"] ["self", "place", "course"] (defScope s_Opening_covers) := ⟨rfl, rfl, rfl, by decide +kernel, rfl, by decide +kernel, by decide +kernel⟩
theorem sc_Wall___init__ : FnScope ["self", "head", "openings"] ["self", "head", "openings"] (defScope s_Wall___init__) := ⟨rfl, rfl, rfl, by decide +kernel, rfl, by decide +kernel, by decide +kernel⟩
theorem sc_Wall_is_open : FnScope ["self", "place", "course", "opening"] ["self", "place", "course"] (defScope s_Wall_is_open) := ⟨rfl, rfl, rfl, by decide +kernel, rfl, by decide +kernel, by decide +kernel⟩
theorem sc_Panel___init__ : FnScope ["self", "place", "course", "length", "courses"] ["self", "place", "course", "length", "courses"] (defScope s_Panel___init__) := ⟨rfl, rfl, rfl, by decide +kernel, rfl, by decide +kernel, by decide +kernel⟩
theorem sc_Panel_has : FnScope ["self", "place", "course", "in_length"] ["self", "place", "course"] (defScope s_Panel_has) := ⟨rfl, rfl, rfl, by decide +kernel, rfl, by decide +kernel, by decide +kernel⟩
theorem sc_WallReader___init__ : FnScope ["self"] ["self"] (defScope s_WallReader___init__) := ⟨rfl, rfl, rfl, by decide +kernel, rfl, by decide +kernel, by decide +kernel⟩
theorem sc_WallReader_has_head : FnScope ["self"] ["self"] (defScope s_WallReader_has_head) := ⟨rfl, rfl, rfl, by decide +kernel, rfl, by decide +kernel, by decide +kernel⟩
theorem sc_WallReader_take : FnScope ["self", "line"] ["self", "line"] (defScope s_WallReader_take) := ⟨rfl, rfl, rfl, by decide +kernel, rfl, by decide +kernel, by decide +kernel⟩
theorem sc_WallReader_take_rest : FnScope ["self", "rest"] ["self", "rest"] (defScope s_WallReader_take_rest) := ⟨rfl, rfl, rfl, by decide +kernel, rfl, by decide +kernel, by decide +kernel⟩
structure Ad where
  c_Refusal : Addr
  f_Refusal___init__ : Addr
  d_Refusal___init__ : FuncData
  c_TooLong : Addr
  f_TooLong___init__ : Addr
  d_TooLong___init__ : FuncData
  c_TextFault : Addr
  f_TextFault___init__ : Addr
  d_TextFault___init__ : FuncData
  c_Outside : Addr
  f_Outside___init__ : Addr
  d_Outside___init__ : FuncData
  c_NotThere : Addr
  f_NotThere___init__ : Addr
  d_NotThere___init__ : FuncData
  c_LineFault : Addr
  f_LineFault___init__ : Addr
  d_LineFault___init__ : FuncData
  c_Opening : Addr
  f_Opening___init__ : Addr
  d_Opening___init__ : FuncData
  f_Opening_lies_within : Addr
  d_Opening_lies_within : FuncData
  f_Opening_stands_behind : Addr
  d_Opening_stands_behind : FuncData
  f_Opening_meets : Addr
  d_Opening_meets : FuncData
  f_Opening_covers : Addr
  d_Opening_covers : FuncData
  c_Wall : Addr
  f_Wall___init__ : Addr
  d_Wall___init__ : FuncData
  f_Wall_is_open : Addr
  d_Wall_is_open : FuncData
  c_Panel : Addr
  f_Panel___init__ : Addr
  d_Panel___init__ : FuncData
  f_Panel_has : Addr
  d_Panel_has : FuncData
  c_WallReader : Addr
  f_WallReader___init__ : Addr
  d_WallReader___init__ : FuncData
  f_WallReader_has_head : Addr
  d_WallReader_has_head : FuncData
  f_WallReader_take : Addr
  d_WallReader_take : FuncData
  f_WallReader_take_rest : Addr
  d_WallReader_take_rest : FuncData
  f_bytes_of : Addr
  d_bytes_of : FuncData
  f_split_at : Addr
  d_split_at : FuncData
  f_read_lines : Addr
  d_read_lines : FuncData
  f_fields_behind : Addr
  d_fields_behind : FuncData
  f_field_behind : Addr
  d_field_behind : FuncData
  f_number_in : Addr
  d_number_in : FuncData
  f_number_from_to : Addr
  d_number_from_to : FuncData
  f_name_in : Addr
  d_name_in : FuncData
  f_read_wall : Addr
  d_read_wall : FuncData
  f_head_value : Addr
  d_head_value : FuncData
  f_end_in : Addr
  d_end_in : FuncData
  f_opening_in : Addr
  d_opening_in : FuncData
  f_stretches_of : Addr
  d_stretches_of : FuncData
  f_panels_of : Addr
  d_panels_of : FuncData
  f_courses_with : Addr
  d_courses_with : FuncData
  f_panel_at : Addr
  d_panel_at : FuncData
  f_where : Addr
  d_where : FuncData
  f_wall_of : Addr
  d_wall_of : FuncData
  f_refuse_long : Addr
  d_refuse_long : FuncData
  f_refused : Addr
  d_refused : FuncData
  f_answer : Addr
  d_answer : FuncData
  t_OTHER_LINE : Tok
  t_OUT_OF_BOUNDS : Tok
  t_OUT_OF_ORDER : Tok
  t_PLACE_IN_COMMON : Tok
  t_TOO_MANY : Tok
  t_LINE_FEED : Tok
  t_BLANK : Tok
  t_NOUGHT : Tok
  t_NINE : Tok
  t_FIRST_LETTER : Tok
  t_LAST_LETTER : Tok
  t_MOST_DIGITS : Tok
  t_MOST_NAME_LETTERS : Tok
  p_HEAD_WORDS : Addr
  t_OPENING_WORD : Tok
  p_END_WORDS : Addr
  t_MOST_LENGTH : Tok
  t_MOST_HEIGHT : Tok
  t_MOST_OPENINGS : Tok
  t_MOST_BYTES : Tok
structure Txt (K : PySem.W.Frag) (mg : Str → Option Value) (a : Ad) : Prop where
  m_Refusal : mg "Refusal" = some (.ref a.c_Refusal)
  F_Refusal___init__ : Fun K "__init__" "Refusal.__init__" s_Refusal___init__ a.f_Refusal___init__ a.d_Refusal___init__
  b_Refusal___init__ : Binds K a.d_Refusal___init__ ["self", "number", "told"] []
  D_Refusal : XCls K a.c_Refusal
  X_Refusal : MkX K a.c_Refusal a.f_Refusal___init__
  E_Refusal : ErrC K a.c_Refusal
  n_Refusal_number : NoAttr K a.c_Refusal "number"
  n_Refusal_told : NoAttr K a.c_Refusal "told"
  m_TooLong : mg "TooLong" = some (.ref a.c_TooLong)
  F_TooLong___init__ : Fun K "__init__" "TooLong.__init__" s_TooLong___init__ a.f_TooLong___init__ a.d_TooLong___init__
  b_TooLong___init__ : Binds K a.d_TooLong___init__ ["self"] []
  D_TooLong : XCls K a.c_TooLong
  X_TooLong : MkX K a.c_TooLong a.f_TooLong___init__
  E_TooLong : ErrC K a.c_TooLong
  n_TooLong_number : NoAttr K a.c_TooLong "number"
  n_TooLong_told : NoAttr K a.c_TooLong "told"
  m_TextFault : mg "TextFault" = some (.ref a.c_TextFault)
  F_TextFault___init__ : Fun K "__init__" "TextFault.__init__" s_TextFault___init__ a.f_TextFault___init__ a.d_TextFault___init__
  b_TextFault___init__ : Binds K a.d_TextFault___init__ ["self", "line", "kind"] []
  D_TextFault : XCls K a.c_TextFault
  X_TextFault : MkX K a.c_TextFault a.f_TextFault___init__
  E_TextFault : ErrC K a.c_TextFault
  n_TextFault_kind : NoAttr K a.c_TextFault "kind"
  n_TextFault_line : NoAttr K a.c_TextFault "line"
  n_TextFault_number : NoAttr K a.c_TextFault "number"
  n_TextFault_told : NoAttr K a.c_TextFault "told"
  m_Outside : mg "Outside" = some (.ref a.c_Outside)
  F_Outside___init__ : Fun K "__init__" "Outside.__init__" s_Outside___init__ a.f_Outside___init__ a.d_Outside___init__
  b_Outside___init__ : Binds K a.d_Outside___init__ ["self"] []
  D_Outside : XCls K a.c_Outside
  X_Outside : MkX K a.c_Outside a.f_Outside___init__
  E_Outside : ErrC K a.c_Outside
  n_Outside_number : NoAttr K a.c_Outside "number"
  n_Outside_told : NoAttr K a.c_Outside "told"
  m_NotThere : mg "NotThere" = some (.ref a.c_NotThere)
  F_NotThere___init__ : Fun K "__init__" "NotThere.__init__" s_NotThere___init__ a.f_NotThere___init__ a.d_NotThere___init__
  b_NotThere___init__ : Binds K a.d_NotThere___init__ ["self"] []
  D_NotThere : XCls K a.c_NotThere
  X_NotThere : MkX K a.c_NotThere a.f_NotThere___init__
  E_NotThere : ErrC K a.c_NotThere
  n_NotThere_number : NoAttr K a.c_NotThere "number"
  n_NotThere_told : NoAttr K a.c_NotThere "told"
  m_LineFault : mg "LineFault" = some (.ref a.c_LineFault)
  F_LineFault___init__ : Fun K "__init__" "LineFault.__init__" s_LineFault___init__ a.f_LineFault___init__ a.d_LineFault___init__
  b_LineFault___init__ : Binds K a.d_LineFault___init__ ["self", "kind"] []
  D_LineFault : XCls K a.c_LineFault
  X_LineFault : MkX K a.c_LineFault a.f_LineFault___init__
  E_LineFault : ErrC K a.c_LineFault
  n_LineFault_kind : NoAttr K a.c_LineFault "kind"
  m_Opening : mg "Opening" = some (.ref a.c_Opening)
  F_Opening___init__ : Fun K "__init__" "Opening.__init__" s_Opening___init__ a.f_Opening___init__ a.d_Opening___init__
  b_Opening___init__ : Binds K a.d_Opening___init__ ["self", "numbers"] []
  F_Opening_lies_within : Fun K "lies_within" "Opening.lies_within" s_Opening_lies_within a.f_Opening_lies_within a.d_Opening_lies_within
  b_Opening_lies_within : Binds K a.d_Opening_lies_within ["self", "length", "height"] []
  M_Opening_lies_within : Meth K a.c_Opening "lies_within" a.f_Opening_lies_within
  F_Opening_stands_behind : Fun K "stands_behind" "Opening.stands_behind" s_Opening_stands_behind a.f_Opening_stands_behind a.d_Opening_stands_behind
  b_Opening_stands_behind : Binds K a.d_Opening_stands_behind ["self", "other"] []
  M_Opening_stands_behind : Meth K a.c_Opening "stands_behind" a.f_Opening_stands_behind
  F_Opening_meets : Fun K "meets" "Opening.meets" s_Opening_meets a.f_Opening_meets a.d_Opening_meets
  b_Opening_meets : Binds K a.d_Opening_meets ["self", "other"] []
  M_Opening_meets : Meth K a.c_Opening "meets" a.f_Opening_meets
  F_Opening_covers : Fun K "covers" "Opening.covers" s_Opening_covers a.f_Opening_covers a.d_Opening_covers
  b_Opening_covers : Binds K a.d_Opening_covers ["self", "place", "course"] []
  M_Opening_covers : Meth K a.c_Opening "covers" a.f_Opening_covers
  C_Opening : Cls K a.c_Opening
  K_Opening : Mk K a.c_Opening a.f_Opening___init__
  n_Opening_high : NoAttr K a.c_Opening "high"
  n_Opening_wide : NoAttr K a.c_Opening "wide"
  n_Opening_x : NoAttr K a.c_Opening "x"
  n_Opening_y : NoAttr K a.c_Opening "y"
  m_Wall : mg "Wall" = some (.ref a.c_Wall)
  F_Wall___init__ : Fun K "__init__" "Wall.__init__" s_Wall___init__ a.f_Wall___init__ a.d_Wall___init__
  b_Wall___init__ : Binds K a.d_Wall___init__ ["self", "head", "openings"] []
  F_Wall_is_open : Fun K "is_open" "Wall.is_open" s_Wall_is_open a.f_Wall_is_open a.d_Wall_is_open
  b_Wall_is_open : Binds K a.d_Wall_is_open ["self", "place", "course"] []
  M_Wall_is_open : Meth K a.c_Wall "is_open" a.f_Wall_is_open
  C_Wall : Cls K a.c_Wall
  K_Wall : Mk K a.c_Wall a.f_Wall___init__
  n_Wall_height : NoAttr K a.c_Wall "height"
  n_Wall_left : NoAttr K a.c_Wall "left"
  n_Wall_length : NoAttr K a.c_Wall "length"
  n_Wall_name : NoAttr K a.c_Wall "name"
  n_Wall_openings : NoAttr K a.c_Wall "openings"
  n_Wall_reveal : NoAttr K a.c_Wall "reveal"
  n_Wall_right : NoAttr K a.c_Wall "right"
  m_Panel : mg "Panel" = some (.ref a.c_Panel)
  F_Panel___init__ : Fun K "__init__" "Panel.__init__" s_Panel___init__ a.f_Panel___init__ a.d_Panel___init__
  b_Panel___init__ : Binds K a.d_Panel___init__ ["self", "place", "course", "length", "courses"] []
  F_Panel_has : Fun K "has" "Panel.has" s_Panel_has a.f_Panel_has a.d_Panel_has
  b_Panel_has : Binds K a.d_Panel_has ["self", "place", "course"] []
  M_Panel_has : Meth K a.c_Panel "has" a.f_Panel_has
  C_Panel : Cls K a.c_Panel
  K_Panel : Mk K a.c_Panel a.f_Panel___init__
  n_Panel_course : NoAttr K a.c_Panel "course"
  n_Panel_courses : NoAttr K a.c_Panel "courses"
  n_Panel_length : NoAttr K a.c_Panel "length"
  n_Panel_place : NoAttr K a.c_Panel "place"
  m_WallReader : mg "WallReader" = some (.ref a.c_WallReader)
  F_WallReader___init__ : Fun K "__init__" "WallReader.__init__" s_WallReader___init__ a.f_WallReader___init__ a.d_WallReader___init__
  b_WallReader___init__ : Binds K a.d_WallReader___init__ ["self"] []
  F_WallReader_has_head : Fun K "has_head" "WallReader.has_head" s_WallReader_has_head a.f_WallReader_has_head a.d_WallReader_has_head
  b_WallReader_has_head : Binds K a.d_WallReader_has_head ["self"] []
  M_WallReader_has_head : Meth K a.c_WallReader "has_head" a.f_WallReader_has_head
  F_WallReader_take : Fun K "take" "WallReader.take" s_WallReader_take a.f_WallReader_take a.d_WallReader_take
  b_WallReader_take : Binds K a.d_WallReader_take ["self", "line"] []
  M_WallReader_take : Meth K a.c_WallReader "take" a.f_WallReader_take
  F_WallReader_take_rest : Fun K "take_rest" "WallReader.take_rest" s_WallReader_take_rest a.f_WallReader_take_rest a.d_WallReader_take_rest
  b_WallReader_take_rest : Binds K a.d_WallReader_take_rest ["self", "rest"] []
  M_WallReader_take_rest : Meth K a.c_WallReader "take_rest" a.f_WallReader_take_rest
  C_WallReader : Cls K a.c_WallReader
  K_WallReader : Mk K a.c_WallReader a.f_WallReader___init__
  n_WallReader_head : NoAttr K a.c_WallReader "head"
  n_WallReader_lines : NoAttr K a.c_WallReader "lines"
  n_WallReader_openings : NoAttr K a.c_WallReader "openings"
  A_Refusal___init__ : CAt K a.c_Refusal "__init__" a.f_Refusal___init__
  x_Refusal_Refusal : PySem.W.exmOne K (.ref a.c_Refusal) (.ref a.c_Refusal) = some true
  x_TooLong_Refusal : PySem.W.exmOne K (.ref a.c_TooLong) (.ref a.c_Refusal) = some true
  x_TextFault_Refusal : PySem.W.exmOne K (.ref a.c_TextFault) (.ref a.c_Refusal) = some true
  x_Outside_Refusal : PySem.W.exmOne K (.ref a.c_Outside) (.ref a.c_Refusal) = some true
  x_NotThere_Refusal : PySem.W.exmOne K (.ref a.c_NotThere) (.ref a.c_Refusal) = some true
  x_LineFault_Refusal : PySem.W.exmOne K (.ref a.c_LineFault) (.ref a.c_Refusal) = some false
  x_Refusal_LineFault : PySem.W.exmOne K (.ref a.c_Refusal) (.ref a.c_LineFault) = some false
  x_TooLong_LineFault : PySem.W.exmOne K (.ref a.c_TooLong) (.ref a.c_LineFault) = some false
  x_TextFault_LineFault : PySem.W.exmOne K (.ref a.c_TextFault) (.ref a.c_LineFault) = some false
  x_Outside_LineFault : PySem.W.exmOne K (.ref a.c_Outside) (.ref a.c_LineFault) = some false
  x_NotThere_LineFault : PySem.W.exmOne K (.ref a.c_NotThere) (.ref a.c_LineFault) = some false
  x_LineFault_LineFault : PySem.W.exmOne K (.ref a.c_LineFault) (.ref a.c_LineFault) = some true
  F_bytes_of : Fun K "bytes_of" "bytes_of" s_bytes_of a.f_bytes_of a.d_bytes_of
  b_bytes_of : Binds K a.d_bytes_of ["word"] []
  m_bytes_of : mg "bytes_of" = some (.ref a.f_bytes_of)
  F_split_at : Fun K "split_at" "split_at" s_split_at a.f_split_at a.d_split_at
  b_split_at : Binds K a.d_split_at ["row", "sign"] []
  m_split_at : mg "split_at" = some (.ref a.f_split_at)
  F_read_lines : Fun K "read_lines" "read_lines" s_read_lines a.f_read_lines a.d_read_lines
  b_read_lines : Binds K a.d_read_lines ["text", "reader"] []
  m_read_lines : mg "read_lines" = some (.ref a.f_read_lines)
  F_fields_behind : Fun K "fields_behind" "fields_behind" s_fields_behind a.f_fields_behind a.d_fields_behind
  b_fields_behind : Binds K a.d_fields_behind ["word", "line"] []
  m_fields_behind : mg "fields_behind" = some (.ref a.f_fields_behind)
  F_field_behind : Fun K "field_behind" "field_behind" s_field_behind a.f_field_behind a.d_field_behind
  b_field_behind : Binds K a.d_field_behind ["word", "line"] []
  m_field_behind : mg "field_behind" = some (.ref a.f_field_behind)
  F_number_in : Fun K "number_in" "number_in" s_number_in a.f_number_in a.d_number_in
  b_number_in : Binds K a.d_number_in ["field"] []
  m_number_in : mg "number_in" = some (.ref a.f_number_in)
  F_number_from_to : Fun K "number_from_to" "number_from_to" s_number_from_to a.f_number_from_to a.d_number_from_to
  b_number_from_to : Binds K a.d_number_from_to ["field", "least", "most"] []
  m_number_from_to : mg "number_from_to" = some (.ref a.f_number_from_to)
  F_name_in : Fun K "name_in" "name_in" s_name_in a.f_name_in a.d_name_in
  b_name_in : Binds K a.d_name_in ["field"] []
  m_name_in : mg "name_in" = some (.ref a.f_name_in)
  F_read_wall : Fun K "read_wall" "read_wall" s_read_wall a.f_read_wall a.d_read_wall
  b_read_wall : Binds K a.d_read_wall ["text"] []
  m_read_wall : mg "read_wall" = some (.ref a.f_read_wall)
  F_head_value : Fun K "head_value" "head_value" s_head_value a.f_head_value a.d_head_value
  b_head_value : Binds K a.d_head_value ["number", "line"] []
  m_head_value : mg "head_value" = some (.ref a.f_head_value)
  F_end_in : Fun K "end_in" "end_in" s_end_in a.f_end_in a.d_end_in
  b_end_in : Binds K a.d_end_in ["field"] []
  m_end_in : mg "end_in" = some (.ref a.f_end_in)
  F_opening_in : Fun K "opening_in" "opening_in" s_opening_in a.f_opening_in a.d_opening_in
  b_opening_in : Binds K a.d_opening_in ["line", "length", "height", "before"] []
  m_opening_in : mg "opening_in" = some (.ref a.f_opening_in)
  F_stretches_of : Fun K "stretches_of" "stretches_of" s_stretches_of a.f_stretches_of a.d_stretches_of
  b_stretches_of : Binds K a.d_stretches_of ["wall", "course"] []
  m_stretches_of : mg "stretches_of" = some (.ref a.f_stretches_of)
  F_panels_of : Fun K "panels_of" "panels_of" s_panels_of a.f_panels_of a.d_panels_of
  b_panels_of : Binds K a.d_panels_of ["wall"] []
  m_panels_of : mg "panels_of" = some (.ref a.f_panels_of)
  F_courses_with : Fun K "courses_with" "courses_with" s_courses_with a.f_courses_with a.d_courses_with
  b_courses_with : Binds K a.d_courses_with ["stretch", "rows"] []
  m_courses_with : mg "courses_with" = some (.ref a.f_courses_with)
  F_panel_at : Fun K "panel_at" "panel_at" s_panel_at a.f_panel_at a.d_panel_at
  b_panel_at : Binds K a.d_panel_at ["wall", "place", "course"] []
  m_panel_at : mg "panel_at" = some (.ref a.f_panel_at)
  F_where : Fun K "where" "where" s_where a.f_where a.d_where
  b_where : Binds K a.d_where ["x", "y", "t"] []
  m_where : mg "where" = some (.ref a.f_where)
  F_wall_of : Fun K "wall_of" "wall_of" s_wall_of a.f_wall_of a.d_wall_of
  b_wall_of : Binds K a.d_wall_of ["t"] []
  m_wall_of : mg "wall_of" = some (.ref a.f_wall_of)
  F_refuse_long : Fun K "refuse_long" "refuse_long" s_refuse_long a.f_refuse_long a.d_refuse_long
  b_refuse_long : Binds K a.d_refuse_long ["rows"] []
  m_refuse_long : mg "refuse_long" = some (.ref a.f_refuse_long)
  F_refused : Fun K "refused" "refused" s_refused a.f_refused a.d_refused
  b_refused : Binds K a.d_refused ["refusal"] []
  m_refused : mg "refused" = some (.ref a.f_refused)
  F_answer : Fun K "answer" "answer" s_answer a.f_answer a.d_answer
  b_answer : Binds K a.d_answer ["number", "row", "signs"] []
  m_answer : mg "answer" = some (.ref a.f_answer)
  c_OTHER_LINE : mg "OTHER_LINE" = some (.int 1 a.t_OTHER_LINE)
  c_OUT_OF_BOUNDS : mg "OUT_OF_BOUNDS" = some (.int 2 a.t_OUT_OF_BOUNDS)
  c_OUT_OF_ORDER : mg "OUT_OF_ORDER" = some (.int 3 a.t_OUT_OF_ORDER)
  c_PLACE_IN_COMMON : mg "PLACE_IN_COMMON" = some (.int 4 a.t_PLACE_IN_COMMON)
  c_TOO_MANY : mg "TOO_MANY" = some (.int 5 a.t_TOO_MANY)
  c_LINE_FEED : mg "LINE_FEED" = some (.int 10 a.t_LINE_FEED)
  c_BLANK : mg "BLANK" = some (.int 32 a.t_BLANK)
  c_NOUGHT : mg "NOUGHT" = some (.int 48 a.t_NOUGHT)
  c_NINE : mg "NINE" = some (.int 57 a.t_NINE)
  c_FIRST_LETTER : mg "FIRST_LETTER" = some (.int 97 a.t_FIRST_LETTER)
  c_LAST_LETTER : mg "LAST_LETTER" = some (.int 122 a.t_LAST_LETTER)
  c_MOST_DIGITS : mg "MOST_DIGITS" = some (.int 5 a.t_MOST_DIGITS)
  c_MOST_NAME_LETTERS : mg "MOST_NAME_LETTERS" = some (.int 15 a.t_MOST_NAME_LETTERS)
  c_HEAD_WORDS : mg "HEAD_WORDS" = some (.ref a.p_HEAD_WORDS)
  q_HEAD_WORDS : ∀ H : Hp, SqT K H a.p_HEAD_WORDS [.str "wall", .str "long", .str "high", .str "left", .str "right", .str "reveal"]
  c_OPENING_WORD : mg "OPENING_WORD" = some (.str "open" a.t_OPENING_WORD)
  c_END_WORDS : mg "END_WORDS" = some (.ref a.p_END_WORDS)
  q_END_WORDS : ∀ H : Hp, SqT K H a.p_END_WORDS [.str "free", .str "side", .str "end"]
  c_MOST_LENGTH : mg "MOST_LENGTH" = some (.int 32 a.t_MOST_LENGTH)
  c_MOST_HEIGHT : mg "MOST_HEIGHT" = some (.int 8 a.t_MOST_HEIGHT)
  c_MOST_OPENINGS : mg "MOST_OPENINGS" = some (.int 8 a.t_MOST_OPENINGS)
  c_MOST_BYTES : mg "MOST_BYTES" = some (.int 4096 a.t_MOST_BYTES)
  z_all : mg "all" = none
  z_any : mg "any" = none
  z_enumerate : mg "enumerate" = none
  z_len : mg "len" = none
  z_ord : mg "ord" = none
  z_range : mg "range" = none
theorem txt_mk {K : PySem.W.Frag} {h : Heap} {mg : Str → Option Value} {fa : Addr} {c_Refusal f_Refusal___init__ c_TooLong f_TooLong___init__ c_TextFault f_TextFault___init__ c_Outside f_Outside___init__ c_NotThere f_NotThere___init__ c_LineFault f_LineFault___init__ c_Opening f_Opening___init__ f_Opening_lies_within f_Opening_stands_behind f_Opening_meets f_Opening_covers c_Wall f_Wall___init__ f_Wall_is_open c_Panel f_Panel___init__ f_Panel_has c_WallReader f_WallReader___init__ f_WallReader_has_head f_WallReader_take f_WallReader_take_rest f_bytes_of f_split_at f_read_lines f_fields_behind f_field_behind f_number_in f_number_from_to f_name_in f_read_wall f_head_value f_end_in f_opening_in f_stretches_of f_panels_of f_courses_with f_panel_at f_where f_wall_of f_refuse_long f_refused f_answer p_HEAD_WORDS p_END_WORDS : Addr} {t_OTHER_LINE t_OUT_OF_BOUNDS t_OUT_OF_ORDER t_PLACE_IN_COMMON t_TOO_MANY t_LINE_FEED t_BLANK t_NOUGHT t_NINE t_FIRST_LETTER t_LAST_LETTER t_MOST_DIGITS t_MOST_NAME_LETTERS t_OPENING_WORD t_MOST_LENGTH t_MOST_HEIGHT t_MOST_OPENINGS t_MOST_BYTES : Tok} {oc_bytes_of kV_bytes_of dc_bytes_of pm_bytes_of cd_bytes_of ct_bytes_of oc_split_at kV_split_at dc_split_at pm_split_at cd_split_at ct_split_at oc_read_lines kV_read_lines dc_read_lines pm_read_lines cd_read_lines ct_read_lines oc_fields_behind kV_fields_behind dc_fields_behind pm_fields_behind cd_fields_behind ct_fields_behind oc_field_behind kV_field_behind dc_field_behind pm_field_behind cd_field_behind ct_field_behind oc_number_in kV_number_in dc_number_in pm_number_in cd_number_in ct_number_in oc_number_from_to kV_number_from_to dc_number_from_to pm_number_from_to cd_number_from_to ct_number_from_to oc_name_in kV_name_in dc_name_in pm_name_in cd_name_in ct_name_in oc_read_wall kV_read_wall dc_read_wall pm_read_wall cd_read_wall ct_read_wall oc_head_value kV_head_value dc_head_value pm_head_value cd_head_value ct_head_value oc_end_in kV_end_in dc_end_in pm_end_in cd_end_in ct_end_in oc_opening_in kV_opening_in dc_opening_in pm_opening_in cd_opening_in ct_opening_in oc_stretches_of kV_stretches_of dc_stretches_of pm_stretches_of cd_stretches_of ct_stretches_of oc_panels_of kV_panels_of dc_panels_of pm_panels_of cd_panels_of ct_panels_of oc_courses_with kV_courses_with dc_courses_with pm_courses_with cd_courses_with ct_courses_with oc_panel_at kV_panel_at dc_panel_at pm_panel_at cd_panel_at ct_panel_at oc_where kV_where dc_where pm_where cd_where ct_where oc_wall_of kV_wall_of dc_wall_of pm_wall_of cd_wall_of ct_wall_of oc_refuse_long kV_refuse_long dc_refuse_long pm_refuse_long cd_refuse_long ct_refuse_long oc_refused kV_refused dc_refused pm_refused cd_refused ct_refused oc_answer kV_answer dc_answer pm_answer cd_answer ct_answer oc_Refusal___init__ kV_Refusal___init__ dc_Refusal___init__ pm_Refusal___init__ cd_Refusal___init__ ct_Refusal___init__ oc_TooLong___init__ kV_TooLong___init__ dc_TooLong___init__ pm_TooLong___init__ cd_TooLong___init__ ct_TooLong___init__ oc_TextFault___init__ kV_TextFault___init__ dc_TextFault___init__ pm_TextFault___init__ cd_TextFault___init__ ct_TextFault___init__ oc_Outside___init__ kV_Outside___init__ dc_Outside___init__ pm_Outside___init__ cd_Outside___init__ ct_Outside___init__ oc_NotThere___init__ kV_NotThere___init__ dc_NotThere___init__ pm_NotThere___init__ cd_NotThere___init__ ct_NotThere___init__ oc_LineFault___init__ kV_LineFault___init__ dc_LineFault___init__ pm_LineFault___init__ cd_LineFault___init__ ct_LineFault___init__ oc_Opening___init__ kV_Opening___init__ dc_Opening___init__ pm_Opening___init__ cd_Opening___init__ ct_Opening___init__ oc_Opening_lies_within kV_Opening_lies_within dc_Opening_lies_within pm_Opening_lies_within cd_Opening_lies_within ct_Opening_lies_within oc_Opening_stands_behind kV_Opening_stands_behind dc_Opening_stands_behind pm_Opening_stands_behind cd_Opening_stands_behind ct_Opening_stands_behind oc_Opening_meets kV_Opening_meets dc_Opening_meets pm_Opening_meets cd_Opening_meets ct_Opening_meets oc_Opening_covers kV_Opening_covers dc_Opening_covers pm_Opening_covers cd_Opening_covers ct_Opening_covers oc_Wall___init__ kV_Wall___init__ dc_Wall___init__ pm_Wall___init__ cd_Wall___init__ ct_Wall___init__ oc_Wall_is_open kV_Wall_is_open dc_Wall_is_open pm_Wall_is_open cd_Wall_is_open ct_Wall_is_open oc_Panel___init__ kV_Panel___init__ dc_Panel___init__ pm_Panel___init__ cd_Panel___init__ ct_Panel___init__ oc_Panel_has kV_Panel_has dc_Panel_has pm_Panel_has cd_Panel_has ct_Panel_has oc_WallReader___init__ kV_WallReader___init__ dc_WallReader___init__ pm_WallReader___init__ cd_WallReader___init__ ct_WallReader___init__ oc_WallReader_has_head kV_WallReader_has_head dc_WallReader_has_head pm_WallReader_has_head cd_WallReader_has_head ct_WallReader_has_head oc_WallReader_take kV_WallReader_take dc_WallReader_take pm_WallReader_take cd_WallReader_take ct_WallReader_take oc_WallReader_take_rest kV_WallReader_take_rest dc_WallReader_take_rest pm_WallReader_take_rest cd_WallReader_take_rest ct_WallReader_take_rest : Value} {od_bytes_of an_bytes_of od_split_at an_split_at od_read_lines an_read_lines od_fields_behind an_fields_behind od_field_behind an_field_behind od_number_in an_number_in od_number_from_to an_number_from_to od_name_in an_name_in od_read_wall an_read_wall od_head_value an_head_value od_end_in an_end_in od_opening_in an_opening_in od_stretches_of an_stretches_of od_panels_of an_panels_of od_courses_with an_courses_with od_panel_at an_panel_at od_where an_where od_wall_of an_wall_of od_refuse_long an_refuse_long od_refused an_refused od_answer an_answer od_Refusal___init__ an_Refusal___init__ od_TooLong___init__ an_TooLong___init__ od_TextFault___init__ an_TextFault___init__ od_Outside___init__ an_Outside___init__ od_NotThere___init__ an_NotThere___init__ od_LineFault___init__ an_LineFault___init__ od_Opening___init__ an_Opening___init__ od_Opening_lies_within an_Opening_lies_within od_Opening_stands_behind an_Opening_stands_behind od_Opening_meets an_Opening_meets od_Opening_covers an_Opening_covers od_Wall___init__ an_Wall___init__ od_Wall_is_open an_Wall_is_open od_Panel___init__ an_Panel___init__ od_Panel_has an_Panel_has od_WallReader___init__ an_WallReader___init__ od_WallReader_has_head an_WallReader_has_head od_WallReader_take an_WallReader_take od_WallReader_take_rest an_WallReader_take_rest : Option Addr} {sl_bytes_of sl_split_at sl_read_lines sl_fields_behind sl_field_behind sl_number_in sl_number_from_to sl_name_in sl_read_wall sl_head_value sl_end_in sl_opening_in sl_stretches_of sl_panels_of sl_courses_with sl_panel_at sl_where sl_wall_of sl_refuse_long sl_refused sl_answer sl_Refusal___init__ sl_TooLong___init__ sl_TextFault___init__ sl_Outside___init__ sl_NotThere___init__ sl_LineFault___init__ sl_Opening___init__ sl_Opening_lies_within sl_Opening_stands_behind sl_Opening_meets sl_Opening_covers sl_Wall___init__ sl_Wall_is_open sl_Panel___init__ sl_Panel_has sl_WallReader___init__ sl_WallReader_has_head sl_WallReader_take sl_WallReader_take_rest : Array (Option Value)} {u0_HEAD_WORDS u1_HEAD_WORDS u2_HEAD_WORDS u3_HEAD_WORDS u4_HEAD_WORDS u5_HEAD_WORDS u0_END_WORDS u1_END_WORDS u2_END_WORDS : Tok} {do_HEAD_WORDS do_END_WORDS : Option Addr} {no_HEAD_WORDS no_END_WORDS : Nat} {so_HEAD_WORDS so_END_WORDS : Array (Option Value)} (KX : K.In h) (G : h.Ns mainGlobals mg) (hfa : mg "where" = some (.ref fa))
    (a_Refusal : PySem.W.nsIn K mainGlobals "Refusal" = some (some (.ref c_Refusal)))
    (h_Refusal___init__ : PySem.W.findIn K (.ref c_Refusal) "__init__" = some (some (.ref f_Refusal___init__)))
    (i_Refusal___init__ : PySem.W.isFn K (.ref f_Refusal___init__) = true)
    (l_Refusal___init__ : K.lookup f_Refusal___init__ = some ⟨oc_Refusal___init__, od_Refusal___init__, .func (PySem.W.fnOf "__init__" "Refusal.__init__" (defArgs s_Refusal___init__) (defBody s_Refusal___init__) (defScope s_Refusal___init__) .none kV_Refusal___init__ dc_Refusal___init__ pm_Refusal___init__ an_Refusal___init__ cd_Refusal___init__ ct_Refusal___init__), sl_Refusal___init__⟩)
    (c_Refusal___init__ : PySem.W.codeIn K cd_Refusal___init__ "Refusal.__init__" = true)
    (k_Refusal___init__ : PySem.W.keepIn K (.ref f_Refusal___init__) = true)
    (po_Refusal : exOver K c_Refusal = true)
    (hd_Refusal : PySem.W.hasDictIn K c_Refusal = true)
    (sa_Refusal : PySem.W.findIn K (.ref c_Refusal) "__setattr__" = some (some (.builtin "object.__setattr__")))
    (ga_Refusal : PySem.W.findIn K (.ref c_Refusal) "__getattribute__" = some (some (.builtin "BaseException.__getattribute__")))
    (gh_Refusal : PySem.W.findIn K (.ref c_Refusal) "__getattr__" = some none)
    (mk_Refusal : exMakesIn K c_Refusal = true)
    (kc_Refusal : PySem.W.keepIn K (.ref c_Refusal) = true)
    (eb_Refusal : PySem.W.mroIn K c_Refusal (.type "BaseException") = some true)
    (et_Refusal : PySem.W.typeIn K (.ref c_Refusal) = some (.type "type"))
    (n_Refusal_number : PySem.W.findIn K (.ref c_Refusal) "number" = some none)
    (n_Refusal_told : PySem.W.findIn K (.ref c_Refusal) "told" = some none)
    (a_TooLong : PySem.W.nsIn K mainGlobals "TooLong" = some (some (.ref c_TooLong)))
    (h_TooLong___init__ : PySem.W.findIn K (.ref c_TooLong) "__init__" = some (some (.ref f_TooLong___init__)))
    (i_TooLong___init__ : PySem.W.isFn K (.ref f_TooLong___init__) = true)
    (l_TooLong___init__ : K.lookup f_TooLong___init__ = some ⟨oc_TooLong___init__, od_TooLong___init__, .func (PySem.W.fnOf "__init__" "TooLong.__init__" (defArgs s_TooLong___init__) (defBody s_TooLong___init__) (defScope s_TooLong___init__) .none kV_TooLong___init__ dc_TooLong___init__ pm_TooLong___init__ an_TooLong___init__ cd_TooLong___init__ ct_TooLong___init__), sl_TooLong___init__⟩)
    (c_TooLong___init__ : PySem.W.codeIn K cd_TooLong___init__ "TooLong.__init__" = true)
    (k_TooLong___init__ : PySem.W.keepIn K (.ref f_TooLong___init__) = true)
    (po_TooLong : exOver K c_TooLong = true)
    (hd_TooLong : PySem.W.hasDictIn K c_TooLong = true)
    (sa_TooLong : PySem.W.findIn K (.ref c_TooLong) "__setattr__" = some (some (.builtin "object.__setattr__")))
    (ga_TooLong : PySem.W.findIn K (.ref c_TooLong) "__getattribute__" = some (some (.builtin "BaseException.__getattribute__")))
    (gh_TooLong : PySem.W.findIn K (.ref c_TooLong) "__getattr__" = some none)
    (mk_TooLong : exMakesIn K c_TooLong = true)
    (kc_TooLong : PySem.W.keepIn K (.ref c_TooLong) = true)
    (eb_TooLong : PySem.W.mroIn K c_TooLong (.type "BaseException") = some true)
    (et_TooLong : PySem.W.typeIn K (.ref c_TooLong) = some (.type "type"))
    (n_TooLong_number : PySem.W.findIn K (.ref c_TooLong) "number" = some none)
    (n_TooLong_told : PySem.W.findIn K (.ref c_TooLong) "told" = some none)
    (a_TextFault : PySem.W.nsIn K mainGlobals "TextFault" = some (some (.ref c_TextFault)))
    (h_TextFault___init__ : PySem.W.findIn K (.ref c_TextFault) "__init__" = some (some (.ref f_TextFault___init__)))
    (i_TextFault___init__ : PySem.W.isFn K (.ref f_TextFault___init__) = true)
    (l_TextFault___init__ : K.lookup f_TextFault___init__ = some ⟨oc_TextFault___init__, od_TextFault___init__, .func (PySem.W.fnOf "__init__" "TextFault.__init__" (defArgs s_TextFault___init__) (defBody s_TextFault___init__) (defScope s_TextFault___init__) .none kV_TextFault___init__ dc_TextFault___init__ pm_TextFault___init__ an_TextFault___init__ cd_TextFault___init__ ct_TextFault___init__), sl_TextFault___init__⟩)
    (c_TextFault___init__ : PySem.W.codeIn K cd_TextFault___init__ "TextFault.__init__" = true)
    (k_TextFault___init__ : PySem.W.keepIn K (.ref f_TextFault___init__) = true)
    (po_TextFault : exOver K c_TextFault = true)
    (hd_TextFault : PySem.W.hasDictIn K c_TextFault = true)
    (sa_TextFault : PySem.W.findIn K (.ref c_TextFault) "__setattr__" = some (some (.builtin "object.__setattr__")))
    (ga_TextFault : PySem.W.findIn K (.ref c_TextFault) "__getattribute__" = some (some (.builtin "BaseException.__getattribute__")))
    (gh_TextFault : PySem.W.findIn K (.ref c_TextFault) "__getattr__" = some none)
    (mk_TextFault : exMakesIn K c_TextFault = true)
    (kc_TextFault : PySem.W.keepIn K (.ref c_TextFault) = true)
    (eb_TextFault : PySem.W.mroIn K c_TextFault (.type "BaseException") = some true)
    (et_TextFault : PySem.W.typeIn K (.ref c_TextFault) = some (.type "type"))
    (n_TextFault_kind : PySem.W.findIn K (.ref c_TextFault) "kind" = some none)
    (n_TextFault_line : PySem.W.findIn K (.ref c_TextFault) "line" = some none)
    (n_TextFault_number : PySem.W.findIn K (.ref c_TextFault) "number" = some none)
    (n_TextFault_told : PySem.W.findIn K (.ref c_TextFault) "told" = some none)
    (a_Outside : PySem.W.nsIn K mainGlobals "Outside" = some (some (.ref c_Outside)))
    (h_Outside___init__ : PySem.W.findIn K (.ref c_Outside) "__init__" = some (some (.ref f_Outside___init__)))
    (i_Outside___init__ : PySem.W.isFn K (.ref f_Outside___init__) = true)
    (l_Outside___init__ : K.lookup f_Outside___init__ = some ⟨oc_Outside___init__, od_Outside___init__, .func (PySem.W.fnOf "__init__" "Outside.__init__" (defArgs s_Outside___init__) (defBody s_Outside___init__) (defScope s_Outside___init__) .none kV_Outside___init__ dc_Outside___init__ pm_Outside___init__ an_Outside___init__ cd_Outside___init__ ct_Outside___init__), sl_Outside___init__⟩)
    (c_Outside___init__ : PySem.W.codeIn K cd_Outside___init__ "Outside.__init__" = true)
    (k_Outside___init__ : PySem.W.keepIn K (.ref f_Outside___init__) = true)
    (po_Outside : exOver K c_Outside = true)
    (hd_Outside : PySem.W.hasDictIn K c_Outside = true)
    (sa_Outside : PySem.W.findIn K (.ref c_Outside) "__setattr__" = some (some (.builtin "object.__setattr__")))
    (ga_Outside : PySem.W.findIn K (.ref c_Outside) "__getattribute__" = some (some (.builtin "BaseException.__getattribute__")))
    (gh_Outside : PySem.W.findIn K (.ref c_Outside) "__getattr__" = some none)
    (mk_Outside : exMakesIn K c_Outside = true)
    (kc_Outside : PySem.W.keepIn K (.ref c_Outside) = true)
    (eb_Outside : PySem.W.mroIn K c_Outside (.type "BaseException") = some true)
    (et_Outside : PySem.W.typeIn K (.ref c_Outside) = some (.type "type"))
    (n_Outside_number : PySem.W.findIn K (.ref c_Outside) "number" = some none)
    (n_Outside_told : PySem.W.findIn K (.ref c_Outside) "told" = some none)
    (a_NotThere : PySem.W.nsIn K mainGlobals "NotThere" = some (some (.ref c_NotThere)))
    (h_NotThere___init__ : PySem.W.findIn K (.ref c_NotThere) "__init__" = some (some (.ref f_NotThere___init__)))
    (i_NotThere___init__ : PySem.W.isFn K (.ref f_NotThere___init__) = true)
    (l_NotThere___init__ : K.lookup f_NotThere___init__ = some ⟨oc_NotThere___init__, od_NotThere___init__, .func (PySem.W.fnOf "__init__" "NotThere.__init__" (defArgs s_NotThere___init__) (defBody s_NotThere___init__) (defScope s_NotThere___init__) .none kV_NotThere___init__ dc_NotThere___init__ pm_NotThere___init__ an_NotThere___init__ cd_NotThere___init__ ct_NotThere___init__), sl_NotThere___init__⟩)
    (c_NotThere___init__ : PySem.W.codeIn K cd_NotThere___init__ "NotThere.__init__" = true)
    (k_NotThere___init__ : PySem.W.keepIn K (.ref f_NotThere___init__) = true)
    (po_NotThere : exOver K c_NotThere = true)
    (hd_NotThere : PySem.W.hasDictIn K c_NotThere = true)
    (sa_NotThere : PySem.W.findIn K (.ref c_NotThere) "__setattr__" = some (some (.builtin "object.__setattr__")))
    (ga_NotThere : PySem.W.findIn K (.ref c_NotThere) "__getattribute__" = some (some (.builtin "BaseException.__getattribute__")))
    (gh_NotThere : PySem.W.findIn K (.ref c_NotThere) "__getattr__" = some none)
    (mk_NotThere : exMakesIn K c_NotThere = true)
    (kc_NotThere : PySem.W.keepIn K (.ref c_NotThere) = true)
    (eb_NotThere : PySem.W.mroIn K c_NotThere (.type "BaseException") = some true)
    (et_NotThere : PySem.W.typeIn K (.ref c_NotThere) = some (.type "type"))
    (n_NotThere_number : PySem.W.findIn K (.ref c_NotThere) "number" = some none)
    (n_NotThere_told : PySem.W.findIn K (.ref c_NotThere) "told" = some none)
    (a_LineFault : PySem.W.nsIn K mainGlobals "LineFault" = some (some (.ref c_LineFault)))
    (h_LineFault___init__ : PySem.W.findIn K (.ref c_LineFault) "__init__" = some (some (.ref f_LineFault___init__)))
    (i_LineFault___init__ : PySem.W.isFn K (.ref f_LineFault___init__) = true)
    (l_LineFault___init__ : K.lookup f_LineFault___init__ = some ⟨oc_LineFault___init__, od_LineFault___init__, .func (PySem.W.fnOf "__init__" "LineFault.__init__" (defArgs s_LineFault___init__) (defBody s_LineFault___init__) (defScope s_LineFault___init__) .none kV_LineFault___init__ dc_LineFault___init__ pm_LineFault___init__ an_LineFault___init__ cd_LineFault___init__ ct_LineFault___init__), sl_LineFault___init__⟩)
    (c_LineFault___init__ : PySem.W.codeIn K cd_LineFault___init__ "LineFault.__init__" = true)
    (k_LineFault___init__ : PySem.W.keepIn K (.ref f_LineFault___init__) = true)
    (po_LineFault : exOver K c_LineFault = true)
    (hd_LineFault : PySem.W.hasDictIn K c_LineFault = true)
    (sa_LineFault : PySem.W.findIn K (.ref c_LineFault) "__setattr__" = some (some (.builtin "object.__setattr__")))
    (ga_LineFault : PySem.W.findIn K (.ref c_LineFault) "__getattribute__" = some (some (.builtin "BaseException.__getattribute__")))
    (gh_LineFault : PySem.W.findIn K (.ref c_LineFault) "__getattr__" = some none)
    (mk_LineFault : exMakesIn K c_LineFault = true)
    (kc_LineFault : PySem.W.keepIn K (.ref c_LineFault) = true)
    (eb_LineFault : PySem.W.mroIn K c_LineFault (.type "BaseException") = some true)
    (et_LineFault : PySem.W.typeIn K (.ref c_LineFault) = some (.type "type"))
    (n_LineFault_kind : PySem.W.findIn K (.ref c_LineFault) "kind" = some none)
    (a_Opening : PySem.W.nsIn K mainGlobals "Opening" = some (some (.ref c_Opening)))
    (h_Opening___init__ : PySem.W.findIn K (.ref c_Opening) "__init__" = some (some (.ref f_Opening___init__)))
    (i_Opening___init__ : PySem.W.isFn K (.ref f_Opening___init__) = true)
    (l_Opening___init__ : K.lookup f_Opening___init__ = some ⟨oc_Opening___init__, od_Opening___init__, .func (PySem.W.fnOf "__init__" "Opening.__init__" (defArgs s_Opening___init__) (defBody s_Opening___init__) (defScope s_Opening___init__) .none kV_Opening___init__ dc_Opening___init__ pm_Opening___init__ an_Opening___init__ cd_Opening___init__ ct_Opening___init__), sl_Opening___init__⟩)
    (c_Opening___init__ : PySem.W.codeIn K cd_Opening___init__ "Opening.__init__" = true)
    (k_Opening___init__ : PySem.W.keepIn K (.ref f_Opening___init__) = true)
    (h_Opening_lies_within : PySem.W.findIn K (.ref c_Opening) "lies_within" = some (some (.ref f_Opening_lies_within)))
    (i_Opening_lies_within : PySem.W.isFn K (.ref f_Opening_lies_within) = true)
    (l_Opening_lies_within : K.lookup f_Opening_lies_within = some ⟨oc_Opening_lies_within, od_Opening_lies_within, .func (PySem.W.fnOf "lies_within" "Opening.lies_within" (defArgs s_Opening_lies_within) (defBody s_Opening_lies_within) (defScope s_Opening_lies_within) .none kV_Opening_lies_within dc_Opening_lies_within pm_Opening_lies_within an_Opening_lies_within cd_Opening_lies_within ct_Opening_lies_within), sl_Opening_lies_within⟩)
    (c_Opening_lies_within : PySem.W.codeIn K cd_Opening_lies_within "Opening.lies_within" = true)
    (k_Opening_lies_within : PySem.W.keepIn K (.ref f_Opening_lies_within) = true)
    (h_Opening_stands_behind : PySem.W.findIn K (.ref c_Opening) "stands_behind" = some (some (.ref f_Opening_stands_behind)))
    (i_Opening_stands_behind : PySem.W.isFn K (.ref f_Opening_stands_behind) = true)
    (l_Opening_stands_behind : K.lookup f_Opening_stands_behind = some ⟨oc_Opening_stands_behind, od_Opening_stands_behind, .func (PySem.W.fnOf "stands_behind" "Opening.stands_behind" (defArgs s_Opening_stands_behind) (defBody s_Opening_stands_behind) (defScope s_Opening_stands_behind) .none kV_Opening_stands_behind dc_Opening_stands_behind pm_Opening_stands_behind an_Opening_stands_behind cd_Opening_stands_behind ct_Opening_stands_behind), sl_Opening_stands_behind⟩)
    (c_Opening_stands_behind : PySem.W.codeIn K cd_Opening_stands_behind "Opening.stands_behind" = true)
    (k_Opening_stands_behind : PySem.W.keepIn K (.ref f_Opening_stands_behind) = true)
    (h_Opening_meets : PySem.W.findIn K (.ref c_Opening) "meets" = some (some (.ref f_Opening_meets)))
    (i_Opening_meets : PySem.W.isFn K (.ref f_Opening_meets) = true)
    (l_Opening_meets : K.lookup f_Opening_meets = some ⟨oc_Opening_meets, od_Opening_meets, .func (PySem.W.fnOf "meets" "Opening.meets" (defArgs s_Opening_meets) (defBody s_Opening_meets) (defScope s_Opening_meets) .none kV_Opening_meets dc_Opening_meets pm_Opening_meets an_Opening_meets cd_Opening_meets ct_Opening_meets), sl_Opening_meets⟩)
    (c_Opening_meets : PySem.W.codeIn K cd_Opening_meets "Opening.meets" = true)
    (k_Opening_meets : PySem.W.keepIn K (.ref f_Opening_meets) = true)
    (h_Opening_covers : PySem.W.findIn K (.ref c_Opening) "covers" = some (some (.ref f_Opening_covers)))
    (i_Opening_covers : PySem.W.isFn K (.ref f_Opening_covers) = true)
    (l_Opening_covers : K.lookup f_Opening_covers = some ⟨oc_Opening_covers, od_Opening_covers, .func (PySem.W.fnOf "covers" "Opening.covers" (defArgs s_Opening_covers) (defBody s_Opening_covers) (defScope s_Opening_covers) .none kV_Opening_covers dc_Opening_covers pm_Opening_covers an_Opening_covers cd_Opening_covers ct_Opening_covers), sl_Opening_covers⟩)
    (c_Opening_covers : PySem.W.codeIn K cd_Opening_covers "Opening.covers" = true)
    (k_Opening_covers : PySem.W.keepIn K (.ref f_Opening_covers) = true)
    (pg_Opening : PySem.W.plainGet K c_Opening Str.empty = true)
    (hd_Opening : PySem.W.hasDictIn K c_Opening = true)
    (po_Opening : PySem.W.plainOver K c_Opening = true)
    (sa_Opening : PySem.W.findIn K (.ref c_Opening) "__setattr__" = some (some (.builtin "object.__setattr__")))
    (mk_Opening : PySem.W.makesIn K c_Opening = true)
    (kc_Opening : PySem.W.keepIn K (.ref c_Opening) = true)
    (n_Opening_high : PySem.W.findIn K (.ref c_Opening) "high" = some none)
    (n_Opening_wide : PySem.W.findIn K (.ref c_Opening) "wide" = some none)
    (n_Opening_x : PySem.W.findIn K (.ref c_Opening) "x" = some none)
    (n_Opening_y : PySem.W.findIn K (.ref c_Opening) "y" = some none)
    (a_Wall : PySem.W.nsIn K mainGlobals "Wall" = some (some (.ref c_Wall)))
    (h_Wall___init__ : PySem.W.findIn K (.ref c_Wall) "__init__" = some (some (.ref f_Wall___init__)))
    (i_Wall___init__ : PySem.W.isFn K (.ref f_Wall___init__) = true)
    (l_Wall___init__ : K.lookup f_Wall___init__ = some ⟨oc_Wall___init__, od_Wall___init__, .func (PySem.W.fnOf "__init__" "Wall.__init__" (defArgs s_Wall___init__) (defBody s_Wall___init__) (defScope s_Wall___init__) .none kV_Wall___init__ dc_Wall___init__ pm_Wall___init__ an_Wall___init__ cd_Wall___init__ ct_Wall___init__), sl_Wall___init__⟩)
    (c_Wall___init__ : PySem.W.codeIn K cd_Wall___init__ "Wall.__init__" = true)
    (k_Wall___init__ : PySem.W.keepIn K (.ref f_Wall___init__) = true)
    (h_Wall_is_open : PySem.W.findIn K (.ref c_Wall) "is_open" = some (some (.ref f_Wall_is_open)))
    (i_Wall_is_open : PySem.W.isFn K (.ref f_Wall_is_open) = true)
    (l_Wall_is_open : K.lookup f_Wall_is_open = some ⟨oc_Wall_is_open, od_Wall_is_open, .func (PySem.W.fnOf "is_open" "Wall.is_open" (defArgs s_Wall_is_open) (defBody s_Wall_is_open) (defScope s_Wall_is_open) .none kV_Wall_is_open dc_Wall_is_open pm_Wall_is_open an_Wall_is_open cd_Wall_is_open ct_Wall_is_open), sl_Wall_is_open⟩)
    (c_Wall_is_open : PySem.W.codeIn K cd_Wall_is_open "Wall.is_open" = true)
    (k_Wall_is_open : PySem.W.keepIn K (.ref f_Wall_is_open) = true)
    (pg_Wall : PySem.W.plainGet K c_Wall Str.empty = true)
    (hd_Wall : PySem.W.hasDictIn K c_Wall = true)
    (po_Wall : PySem.W.plainOver K c_Wall = true)
    (sa_Wall : PySem.W.findIn K (.ref c_Wall) "__setattr__" = some (some (.builtin "object.__setattr__")))
    (mk_Wall : PySem.W.makesIn K c_Wall = true)
    (kc_Wall : PySem.W.keepIn K (.ref c_Wall) = true)
    (n_Wall_height : PySem.W.findIn K (.ref c_Wall) "height" = some none)
    (n_Wall_left : PySem.W.findIn K (.ref c_Wall) "left" = some none)
    (n_Wall_length : PySem.W.findIn K (.ref c_Wall) "length" = some none)
    (n_Wall_name : PySem.W.findIn K (.ref c_Wall) "name" = some none)
    (n_Wall_openings : PySem.W.findIn K (.ref c_Wall) "openings" = some none)
    (n_Wall_reveal : PySem.W.findIn K (.ref c_Wall) "reveal" = some none)
    (n_Wall_right : PySem.W.findIn K (.ref c_Wall) "right" = some none)
    (a_Panel : PySem.W.nsIn K mainGlobals "Panel" = some (some (.ref c_Panel)))
    (h_Panel___init__ : PySem.W.findIn K (.ref c_Panel) "__init__" = some (some (.ref f_Panel___init__)))
    (i_Panel___init__ : PySem.W.isFn K (.ref f_Panel___init__) = true)
    (l_Panel___init__ : K.lookup f_Panel___init__ = some ⟨oc_Panel___init__, od_Panel___init__, .func (PySem.W.fnOf "__init__" "Panel.__init__" (defArgs s_Panel___init__) (defBody s_Panel___init__) (defScope s_Panel___init__) .none kV_Panel___init__ dc_Panel___init__ pm_Panel___init__ an_Panel___init__ cd_Panel___init__ ct_Panel___init__), sl_Panel___init__⟩)
    (c_Panel___init__ : PySem.W.codeIn K cd_Panel___init__ "Panel.__init__" = true)
    (k_Panel___init__ : PySem.W.keepIn K (.ref f_Panel___init__) = true)
    (h_Panel_has : PySem.W.findIn K (.ref c_Panel) "has" = some (some (.ref f_Panel_has)))
    (i_Panel_has : PySem.W.isFn K (.ref f_Panel_has) = true)
    (l_Panel_has : K.lookup f_Panel_has = some ⟨oc_Panel_has, od_Panel_has, .func (PySem.W.fnOf "has" "Panel.has" (defArgs s_Panel_has) (defBody s_Panel_has) (defScope s_Panel_has) .none kV_Panel_has dc_Panel_has pm_Panel_has an_Panel_has cd_Panel_has ct_Panel_has), sl_Panel_has⟩)
    (c_Panel_has : PySem.W.codeIn K cd_Panel_has "Panel.has" = true)
    (k_Panel_has : PySem.W.keepIn K (.ref f_Panel_has) = true)
    (pg_Panel : PySem.W.plainGet K c_Panel Str.empty = true)
    (hd_Panel : PySem.W.hasDictIn K c_Panel = true)
    (po_Panel : PySem.W.plainOver K c_Panel = true)
    (sa_Panel : PySem.W.findIn K (.ref c_Panel) "__setattr__" = some (some (.builtin "object.__setattr__")))
    (mk_Panel : PySem.W.makesIn K c_Panel = true)
    (kc_Panel : PySem.W.keepIn K (.ref c_Panel) = true)
    (n_Panel_course : PySem.W.findIn K (.ref c_Panel) "course" = some none)
    (n_Panel_courses : PySem.W.findIn K (.ref c_Panel) "courses" = some none)
    (n_Panel_length : PySem.W.findIn K (.ref c_Panel) "length" = some none)
    (n_Panel_place : PySem.W.findIn K (.ref c_Panel) "place" = some none)
    (a_WallReader : PySem.W.nsIn K mainGlobals "WallReader" = some (some (.ref c_WallReader)))
    (h_WallReader___init__ : PySem.W.findIn K (.ref c_WallReader) "__init__" = some (some (.ref f_WallReader___init__)))
    (i_WallReader___init__ : PySem.W.isFn K (.ref f_WallReader___init__) = true)
    (l_WallReader___init__ : K.lookup f_WallReader___init__ = some ⟨oc_WallReader___init__, od_WallReader___init__, .func (PySem.W.fnOf "__init__" "WallReader.__init__" (defArgs s_WallReader___init__) (defBody s_WallReader___init__) (defScope s_WallReader___init__) .none kV_WallReader___init__ dc_WallReader___init__ pm_WallReader___init__ an_WallReader___init__ cd_WallReader___init__ ct_WallReader___init__), sl_WallReader___init__⟩)
    (c_WallReader___init__ : PySem.W.codeIn K cd_WallReader___init__ "WallReader.__init__" = true)
    (k_WallReader___init__ : PySem.W.keepIn K (.ref f_WallReader___init__) = true)
    (h_WallReader_has_head : PySem.W.findIn K (.ref c_WallReader) "has_head" = some (some (.ref f_WallReader_has_head)))
    (i_WallReader_has_head : PySem.W.isFn K (.ref f_WallReader_has_head) = true)
    (l_WallReader_has_head : K.lookup f_WallReader_has_head = some ⟨oc_WallReader_has_head, od_WallReader_has_head, .func (PySem.W.fnOf "has_head" "WallReader.has_head" (defArgs s_WallReader_has_head) (defBody s_WallReader_has_head) (defScope s_WallReader_has_head) .none kV_WallReader_has_head dc_WallReader_has_head pm_WallReader_has_head an_WallReader_has_head cd_WallReader_has_head ct_WallReader_has_head), sl_WallReader_has_head⟩)
    (c_WallReader_has_head : PySem.W.codeIn K cd_WallReader_has_head "WallReader.has_head" = true)
    (k_WallReader_has_head : PySem.W.keepIn K (.ref f_WallReader_has_head) = true)
    (h_WallReader_take : PySem.W.findIn K (.ref c_WallReader) "take" = some (some (.ref f_WallReader_take)))
    (i_WallReader_take : PySem.W.isFn K (.ref f_WallReader_take) = true)
    (l_WallReader_take : K.lookup f_WallReader_take = some ⟨oc_WallReader_take, od_WallReader_take, .func (PySem.W.fnOf "take" "WallReader.take" (defArgs s_WallReader_take) (defBody s_WallReader_take) (defScope s_WallReader_take) .none kV_WallReader_take dc_WallReader_take pm_WallReader_take an_WallReader_take cd_WallReader_take ct_WallReader_take), sl_WallReader_take⟩)
    (c_WallReader_take : PySem.W.codeIn K cd_WallReader_take "WallReader.take" = true)
    (k_WallReader_take : PySem.W.keepIn K (.ref f_WallReader_take) = true)
    (h_WallReader_take_rest : PySem.W.findIn K (.ref c_WallReader) "take_rest" = some (some (.ref f_WallReader_take_rest)))
    (i_WallReader_take_rest : PySem.W.isFn K (.ref f_WallReader_take_rest) = true)
    (l_WallReader_take_rest : K.lookup f_WallReader_take_rest = some ⟨oc_WallReader_take_rest, od_WallReader_take_rest, .func (PySem.W.fnOf "take_rest" "WallReader.take_rest" (defArgs s_WallReader_take_rest) (defBody s_WallReader_take_rest) (defScope s_WallReader_take_rest) .none kV_WallReader_take_rest dc_WallReader_take_rest pm_WallReader_take_rest an_WallReader_take_rest cd_WallReader_take_rest ct_WallReader_take_rest), sl_WallReader_take_rest⟩)
    (c_WallReader_take_rest : PySem.W.codeIn K cd_WallReader_take_rest "WallReader.take_rest" = true)
    (k_WallReader_take_rest : PySem.W.keepIn K (.ref f_WallReader_take_rest) = true)
    (pg_WallReader : PySem.W.plainGet K c_WallReader Str.empty = true)
    (hd_WallReader : PySem.W.hasDictIn K c_WallReader = true)
    (po_WallReader : PySem.W.plainOver K c_WallReader = true)
    (sa_WallReader : PySem.W.findIn K (.ref c_WallReader) "__setattr__" = some (some (.builtin "object.__setattr__")))
    (mk_WallReader : PySem.W.makesIn K c_WallReader = true)
    (kc_WallReader : PySem.W.keepIn K (.ref c_WallReader) = true)
    (n_WallReader_head : PySem.W.findIn K (.ref c_WallReader) "head" = some none)
    (n_WallReader_lines : PySem.W.findIn K (.ref c_WallReader) "lines" = some none)
    (n_WallReader_openings : PySem.W.findIn K (.ref c_WallReader) "openings" = some none)
    (ca_Refusal___init__ : PySem.W.specialIn K (.ref c_Refusal) "__getattribute__" = some (some (.builtin "type.__getattribute__")))
    (cr_Refusal___init__ : PySem.W.readsIn K c_Refusal (.type "type") = true)
    (cf_Refusal___init__ : PySem.W.findCls K (.ref c_Refusal) (.type "type") "__init__" = some (.val (.ref f_Refusal___init__)))
    (x_Refusal_Refusal : PySem.W.exmOne K (.ref c_Refusal) (.ref c_Refusal) = some true)
    (x_TooLong_Refusal : PySem.W.exmOne K (.ref c_TooLong) (.ref c_Refusal) = some true)
    (x_TextFault_Refusal : PySem.W.exmOne K (.ref c_TextFault) (.ref c_Refusal) = some true)
    (x_Outside_Refusal : PySem.W.exmOne K (.ref c_Outside) (.ref c_Refusal) = some true)
    (x_NotThere_Refusal : PySem.W.exmOne K (.ref c_NotThere) (.ref c_Refusal) = some true)
    (x_LineFault_Refusal : PySem.W.exmOne K (.ref c_LineFault) (.ref c_Refusal) = some false)
    (x_Refusal_LineFault : PySem.W.exmOne K (.ref c_Refusal) (.ref c_LineFault) = some false)
    (x_TooLong_LineFault : PySem.W.exmOne K (.ref c_TooLong) (.ref c_LineFault) = some false)
    (x_TextFault_LineFault : PySem.W.exmOne K (.ref c_TextFault) (.ref c_LineFault) = some false)
    (x_Outside_LineFault : PySem.W.exmOne K (.ref c_Outside) (.ref c_LineFault) = some false)
    (x_NotThere_LineFault : PySem.W.exmOne K (.ref c_NotThere) (.ref c_LineFault) = some false)
    (x_LineFault_LineFault : PySem.W.exmOne K (.ref c_LineFault) (.ref c_LineFault) = some true)
    (h_bytes_of : PySem.W.nsIn K mainGlobals "bytes_of" = some (some (.ref f_bytes_of)))
    (l_bytes_of : K.lookup f_bytes_of = some ⟨oc_bytes_of, od_bytes_of, .func (PySem.W.fnOf "bytes_of" "bytes_of" (defArgs s_bytes_of) (defBody s_bytes_of) (defScope s_bytes_of) .none kV_bytes_of dc_bytes_of pm_bytes_of an_bytes_of cd_bytes_of ct_bytes_of), sl_bytes_of⟩)
    (c_bytes_of : PySem.W.codeIn K cd_bytes_of "bytes_of" = true)
    (k_bytes_of : PySem.W.keepIn K (.ref f_bytes_of) = true)
    (h_split_at : PySem.W.nsIn K mainGlobals "split_at" = some (some (.ref f_split_at)))
    (l_split_at : K.lookup f_split_at = some ⟨oc_split_at, od_split_at, .func (PySem.W.fnOf "split_at" "split_at" (defArgs s_split_at) (defBody s_split_at) (defScope s_split_at) .none kV_split_at dc_split_at pm_split_at an_split_at cd_split_at ct_split_at), sl_split_at⟩)
    (c_split_at : PySem.W.codeIn K cd_split_at "split_at" = true)
    (k_split_at : PySem.W.keepIn K (.ref f_split_at) = true)
    (h_read_lines : PySem.W.nsIn K mainGlobals "read_lines" = some (some (.ref f_read_lines)))
    (l_read_lines : K.lookup f_read_lines = some ⟨oc_read_lines, od_read_lines, .func (PySem.W.fnOf "read_lines" "read_lines" (defArgs s_read_lines) (defBody s_read_lines) (defScope s_read_lines) .none kV_read_lines dc_read_lines pm_read_lines an_read_lines cd_read_lines ct_read_lines), sl_read_lines⟩)
    (c_read_lines : PySem.W.codeIn K cd_read_lines "read_lines" = true)
    (k_read_lines : PySem.W.keepIn K (.ref f_read_lines) = true)
    (h_fields_behind : PySem.W.nsIn K mainGlobals "fields_behind" = some (some (.ref f_fields_behind)))
    (l_fields_behind : K.lookup f_fields_behind = some ⟨oc_fields_behind, od_fields_behind, .func (PySem.W.fnOf "fields_behind" "fields_behind" (defArgs s_fields_behind) (defBody s_fields_behind) (defScope s_fields_behind) .none kV_fields_behind dc_fields_behind pm_fields_behind an_fields_behind cd_fields_behind ct_fields_behind), sl_fields_behind⟩)
    (c_fields_behind : PySem.W.codeIn K cd_fields_behind "fields_behind" = true)
    (k_fields_behind : PySem.W.keepIn K (.ref f_fields_behind) = true)
    (h_field_behind : PySem.W.nsIn K mainGlobals "field_behind" = some (some (.ref f_field_behind)))
    (l_field_behind : K.lookup f_field_behind = some ⟨oc_field_behind, od_field_behind, .func (PySem.W.fnOf "field_behind" "field_behind" (defArgs s_field_behind) (defBody s_field_behind) (defScope s_field_behind) .none kV_field_behind dc_field_behind pm_field_behind an_field_behind cd_field_behind ct_field_behind), sl_field_behind⟩)
    (c_field_behind : PySem.W.codeIn K cd_field_behind "field_behind" = true)
    (k_field_behind : PySem.W.keepIn K (.ref f_field_behind) = true)
    (h_number_in : PySem.W.nsIn K mainGlobals "number_in" = some (some (.ref f_number_in)))
    (l_number_in : K.lookup f_number_in = some ⟨oc_number_in, od_number_in, .func (PySem.W.fnOf "number_in" "number_in" (defArgs s_number_in) (defBody s_number_in) (defScope s_number_in) .none kV_number_in dc_number_in pm_number_in an_number_in cd_number_in ct_number_in), sl_number_in⟩)
    (c_number_in : PySem.W.codeIn K cd_number_in "number_in" = true)
    (k_number_in : PySem.W.keepIn K (.ref f_number_in) = true)
    (h_number_from_to : PySem.W.nsIn K mainGlobals "number_from_to" = some (some (.ref f_number_from_to)))
    (l_number_from_to : K.lookup f_number_from_to = some ⟨oc_number_from_to, od_number_from_to, .func (PySem.W.fnOf "number_from_to" "number_from_to" (defArgs s_number_from_to) (defBody s_number_from_to) (defScope s_number_from_to) .none kV_number_from_to dc_number_from_to pm_number_from_to an_number_from_to cd_number_from_to ct_number_from_to), sl_number_from_to⟩)
    (c_number_from_to : PySem.W.codeIn K cd_number_from_to "number_from_to" = true)
    (k_number_from_to : PySem.W.keepIn K (.ref f_number_from_to) = true)
    (h_name_in : PySem.W.nsIn K mainGlobals "name_in" = some (some (.ref f_name_in)))
    (l_name_in : K.lookup f_name_in = some ⟨oc_name_in, od_name_in, .func (PySem.W.fnOf "name_in" "name_in" (defArgs s_name_in) (defBody s_name_in) (defScope s_name_in) .none kV_name_in dc_name_in pm_name_in an_name_in cd_name_in ct_name_in), sl_name_in⟩)
    (c_name_in : PySem.W.codeIn K cd_name_in "name_in" = true)
    (k_name_in : PySem.W.keepIn K (.ref f_name_in) = true)
    (h_read_wall : PySem.W.nsIn K mainGlobals "read_wall" = some (some (.ref f_read_wall)))
    (l_read_wall : K.lookup f_read_wall = some ⟨oc_read_wall, od_read_wall, .func (PySem.W.fnOf "read_wall" "read_wall" (defArgs s_read_wall) (defBody s_read_wall) (defScope s_read_wall) .none kV_read_wall dc_read_wall pm_read_wall an_read_wall cd_read_wall ct_read_wall), sl_read_wall⟩)
    (c_read_wall : PySem.W.codeIn K cd_read_wall "read_wall" = true)
    (k_read_wall : PySem.W.keepIn K (.ref f_read_wall) = true)
    (h_head_value : PySem.W.nsIn K mainGlobals "head_value" = some (some (.ref f_head_value)))
    (l_head_value : K.lookup f_head_value = some ⟨oc_head_value, od_head_value, .func (PySem.W.fnOf "head_value" "head_value" (defArgs s_head_value) (defBody s_head_value) (defScope s_head_value) .none kV_head_value dc_head_value pm_head_value an_head_value cd_head_value ct_head_value), sl_head_value⟩)
    (c_head_value : PySem.W.codeIn K cd_head_value "head_value" = true)
    (k_head_value : PySem.W.keepIn K (.ref f_head_value) = true)
    (h_end_in : PySem.W.nsIn K mainGlobals "end_in" = some (some (.ref f_end_in)))
    (l_end_in : K.lookup f_end_in = some ⟨oc_end_in, od_end_in, .func (PySem.W.fnOf "end_in" "end_in" (defArgs s_end_in) (defBody s_end_in) (defScope s_end_in) .none kV_end_in dc_end_in pm_end_in an_end_in cd_end_in ct_end_in), sl_end_in⟩)
    (c_end_in : PySem.W.codeIn K cd_end_in "end_in" = true)
    (k_end_in : PySem.W.keepIn K (.ref f_end_in) = true)
    (h_opening_in : PySem.W.nsIn K mainGlobals "opening_in" = some (some (.ref f_opening_in)))
    (l_opening_in : K.lookup f_opening_in = some ⟨oc_opening_in, od_opening_in, .func (PySem.W.fnOf "opening_in" "opening_in" (defArgs s_opening_in) (defBody s_opening_in) (defScope s_opening_in) .none kV_opening_in dc_opening_in pm_opening_in an_opening_in cd_opening_in ct_opening_in), sl_opening_in⟩)
    (c_opening_in : PySem.W.codeIn K cd_opening_in "opening_in" = true)
    (k_opening_in : PySem.W.keepIn K (.ref f_opening_in) = true)
    (h_stretches_of : PySem.W.nsIn K mainGlobals "stretches_of" = some (some (.ref f_stretches_of)))
    (l_stretches_of : K.lookup f_stretches_of = some ⟨oc_stretches_of, od_stretches_of, .func (PySem.W.fnOf "stretches_of" "stretches_of" (defArgs s_stretches_of) (defBody s_stretches_of) (defScope s_stretches_of) .none kV_stretches_of dc_stretches_of pm_stretches_of an_stretches_of cd_stretches_of ct_stretches_of), sl_stretches_of⟩)
    (c_stretches_of : PySem.W.codeIn K cd_stretches_of "stretches_of" = true)
    (k_stretches_of : PySem.W.keepIn K (.ref f_stretches_of) = true)
    (h_panels_of : PySem.W.nsIn K mainGlobals "panels_of" = some (some (.ref f_panels_of)))
    (l_panels_of : K.lookup f_panels_of = some ⟨oc_panels_of, od_panels_of, .func (PySem.W.fnOf "panels_of" "panels_of" (defArgs s_panels_of) (defBody s_panels_of) (defScope s_panels_of) .none kV_panels_of dc_panels_of pm_panels_of an_panels_of cd_panels_of ct_panels_of), sl_panels_of⟩)
    (c_panels_of : PySem.W.codeIn K cd_panels_of "panels_of" = true)
    (k_panels_of : PySem.W.keepIn K (.ref f_panels_of) = true)
    (h_courses_with : PySem.W.nsIn K mainGlobals "courses_with" = some (some (.ref f_courses_with)))
    (l_courses_with : K.lookup f_courses_with = some ⟨oc_courses_with, od_courses_with, .func (PySem.W.fnOf "courses_with" "courses_with" (defArgs s_courses_with) (defBody s_courses_with) (defScope s_courses_with) .none kV_courses_with dc_courses_with pm_courses_with an_courses_with cd_courses_with ct_courses_with), sl_courses_with⟩)
    (c_courses_with : PySem.W.codeIn K cd_courses_with "courses_with" = true)
    (k_courses_with : PySem.W.keepIn K (.ref f_courses_with) = true)
    (h_panel_at : PySem.W.nsIn K mainGlobals "panel_at" = some (some (.ref f_panel_at)))
    (l_panel_at : K.lookup f_panel_at = some ⟨oc_panel_at, od_panel_at, .func (PySem.W.fnOf "panel_at" "panel_at" (defArgs s_panel_at) (defBody s_panel_at) (defScope s_panel_at) .none kV_panel_at dc_panel_at pm_panel_at an_panel_at cd_panel_at ct_panel_at), sl_panel_at⟩)
    (c_panel_at : PySem.W.codeIn K cd_panel_at "panel_at" = true)
    (k_panel_at : PySem.W.keepIn K (.ref f_panel_at) = true)
    (h_where : PySem.W.nsIn K mainGlobals "where" = some (some (.ref f_where)))
    (l_where : K.lookup f_where = some ⟨oc_where, od_where, .func (PySem.W.fnOf "where" "where" (defArgs s_where) (defBody s_where) (defScope s_where) .none kV_where dc_where pm_where an_where cd_where ct_where), sl_where⟩)
    (c_where : PySem.W.codeIn K cd_where "where" = true)
    (k_where : PySem.W.keepIn K (.ref f_where) = true)
    (h_wall_of : PySem.W.nsIn K mainGlobals "wall_of" = some (some (.ref f_wall_of)))
    (l_wall_of : K.lookup f_wall_of = some ⟨oc_wall_of, od_wall_of, .func (PySem.W.fnOf "wall_of" "wall_of" (defArgs s_wall_of) (defBody s_wall_of) (defScope s_wall_of) .none kV_wall_of dc_wall_of pm_wall_of an_wall_of cd_wall_of ct_wall_of), sl_wall_of⟩)
    (c_wall_of : PySem.W.codeIn K cd_wall_of "wall_of" = true)
    (k_wall_of : PySem.W.keepIn K (.ref f_wall_of) = true)
    (h_refuse_long : PySem.W.nsIn K mainGlobals "refuse_long" = some (some (.ref f_refuse_long)))
    (l_refuse_long : K.lookup f_refuse_long = some ⟨oc_refuse_long, od_refuse_long, .func (PySem.W.fnOf "refuse_long" "refuse_long" (defArgs s_refuse_long) (defBody s_refuse_long) (defScope s_refuse_long) .none kV_refuse_long dc_refuse_long pm_refuse_long an_refuse_long cd_refuse_long ct_refuse_long), sl_refuse_long⟩)
    (c_refuse_long : PySem.W.codeIn K cd_refuse_long "refuse_long" = true)
    (k_refuse_long : PySem.W.keepIn K (.ref f_refuse_long) = true)
    (h_refused : PySem.W.nsIn K mainGlobals "refused" = some (some (.ref f_refused)))
    (l_refused : K.lookup f_refused = some ⟨oc_refused, od_refused, .func (PySem.W.fnOf "refused" "refused" (defArgs s_refused) (defBody s_refused) (defScope s_refused) .none kV_refused dc_refused pm_refused an_refused cd_refused ct_refused), sl_refused⟩)
    (c_refused : PySem.W.codeIn K cd_refused "refused" = true)
    (k_refused : PySem.W.keepIn K (.ref f_refused) = true)
    (h_answer : PySem.W.nsIn K mainGlobals "answer" = some (some (.ref f_answer)))
    (l_answer : K.lookup f_answer = some ⟨oc_answer, od_answer, .func (PySem.W.fnOf "answer" "answer" (defArgs s_answer) (defBody s_answer) (defScope s_answer) .none kV_answer dc_answer pm_answer an_answer cd_answer ct_answer), sl_answer⟩)
    (c_answer : PySem.W.codeIn K cd_answer "answer" = true)
    (k_answer : PySem.W.keepIn K (.ref f_answer) = true)
    (g_OTHER_LINE : PySem.W.nsIn K mainGlobals "OTHER_LINE" = some (some (.int 1 t_OTHER_LINE)))
    (g_OUT_OF_BOUNDS : PySem.W.nsIn K mainGlobals "OUT_OF_BOUNDS" = some (some (.int 2 t_OUT_OF_BOUNDS)))
    (g_OUT_OF_ORDER : PySem.W.nsIn K mainGlobals "OUT_OF_ORDER" = some (some (.int 3 t_OUT_OF_ORDER)))
    (g_PLACE_IN_COMMON : PySem.W.nsIn K mainGlobals "PLACE_IN_COMMON" = some (some (.int 4 t_PLACE_IN_COMMON)))
    (g_TOO_MANY : PySem.W.nsIn K mainGlobals "TOO_MANY" = some (some (.int 5 t_TOO_MANY)))
    (g_LINE_FEED : PySem.W.nsIn K mainGlobals "LINE_FEED" = some (some (.int 10 t_LINE_FEED)))
    (g_BLANK : PySem.W.nsIn K mainGlobals "BLANK" = some (some (.int 32 t_BLANK)))
    (g_NOUGHT : PySem.W.nsIn K mainGlobals "NOUGHT" = some (some (.int 48 t_NOUGHT)))
    (g_NINE : PySem.W.nsIn K mainGlobals "NINE" = some (some (.int 57 t_NINE)))
    (g_FIRST_LETTER : PySem.W.nsIn K mainGlobals "FIRST_LETTER" = some (some (.int 97 t_FIRST_LETTER)))
    (g_LAST_LETTER : PySem.W.nsIn K mainGlobals "LAST_LETTER" = some (some (.int 122 t_LAST_LETTER)))
    (g_MOST_DIGITS : PySem.W.nsIn K mainGlobals "MOST_DIGITS" = some (some (.int 5 t_MOST_DIGITS)))
    (g_MOST_NAME_LETTERS : PySem.W.nsIn K mainGlobals "MOST_NAME_LETTERS" = some (some (.int 15 t_MOST_NAME_LETTERS)))
    (g_HEAD_WORDS : PySem.W.nsIn K mainGlobals "HEAD_WORDS" = some (some (.ref p_HEAD_WORDS)))
    (o_HEAD_WORDS : K.lookup p_HEAD_WORDS = some ⟨.type "tuple", do_HEAD_WORDS, .seq #[.str "wall" u0_HEAD_WORDS, .str "long" u1_HEAD_WORDS, .str "high" u2_HEAD_WORDS, .str "left" u3_HEAD_WORDS, .str "right" u4_HEAD_WORDS, .str "reveal" u5_HEAD_WORDS] no_HEAD_WORDS, so_HEAD_WORDS⟩)
    (g_OPENING_WORD : PySem.W.nsIn K mainGlobals "OPENING_WORD" = some (some (.str "open" t_OPENING_WORD)))
    (g_END_WORDS : PySem.W.nsIn K mainGlobals "END_WORDS" = some (some (.ref p_END_WORDS)))
    (o_END_WORDS : K.lookup p_END_WORDS = some ⟨.type "tuple", do_END_WORDS, .seq #[.str "free" u0_END_WORDS, .str "side" u1_END_WORDS, .str "end" u2_END_WORDS] no_END_WORDS, so_END_WORDS⟩)
    (g_MOST_LENGTH : PySem.W.nsIn K mainGlobals "MOST_LENGTH" = some (some (.int 32 t_MOST_LENGTH)))
    (g_MOST_HEIGHT : PySem.W.nsIn K mainGlobals "MOST_HEIGHT" = some (some (.int 8 t_MOST_HEIGHT)))
    (g_MOST_OPENINGS : PySem.W.nsIn K mainGlobals "MOST_OPENINGS" = some (some (.int 8 t_MOST_OPENINGS)))
    (g_MOST_BYTES : PySem.W.nsIn K mainGlobals "MOST_BYTES" = some (some (.int 4096 t_MOST_BYTES)))
    (z_all : PySem.W.nsIn K mainGlobals "all" = some none)
    (z_any : PySem.W.nsIn K mainGlobals "any" = some none)
    (z_enumerate : PySem.W.nsIn K mainGlobals "enumerate" = some none)
    (z_len : PySem.W.nsIn K mainGlobals "len" = some none)
    (z_ord : PySem.W.nsIn K mainGlobals "ord" = some none)
    (z_range : PySem.W.nsIn K mainGlobals "range" = some none) :
    ∃ a : Ad, fa = a.f_where ∧ Txt K mg a ∧ ∀ (s : Shared) (us : List Value), us.length = (["x", "y", "t"] : List Str).length → BindsTo s a.d_where ⟨us, []⟩ ((["x", "y", "t"] : List Str).zip us) :=
  ⟨⟨c_Refusal,
    f_Refusal___init__,
    PySem.W.fnOf "__init__" "Refusal.__init__" (defArgs s_Refusal___init__) (defBody s_Refusal___init__) (defScope s_Refusal___init__) .none kV_Refusal___init__ dc_Refusal___init__ pm_Refusal___init__ an_Refusal___init__ cd_Refusal___init__ ct_Refusal___init__,
    c_TooLong,
    f_TooLong___init__,
    PySem.W.fnOf "__init__" "TooLong.__init__" (defArgs s_TooLong___init__) (defBody s_TooLong___init__) (defScope s_TooLong___init__) .none kV_TooLong___init__ dc_TooLong___init__ pm_TooLong___init__ an_TooLong___init__ cd_TooLong___init__ ct_TooLong___init__,
    c_TextFault,
    f_TextFault___init__,
    PySem.W.fnOf "__init__" "TextFault.__init__" (defArgs s_TextFault___init__) (defBody s_TextFault___init__) (defScope s_TextFault___init__) .none kV_TextFault___init__ dc_TextFault___init__ pm_TextFault___init__ an_TextFault___init__ cd_TextFault___init__ ct_TextFault___init__,
    c_Outside,
    f_Outside___init__,
    PySem.W.fnOf "__init__" "Outside.__init__" (defArgs s_Outside___init__) (defBody s_Outside___init__) (defScope s_Outside___init__) .none kV_Outside___init__ dc_Outside___init__ pm_Outside___init__ an_Outside___init__ cd_Outside___init__ ct_Outside___init__,
    c_NotThere,
    f_NotThere___init__,
    PySem.W.fnOf "__init__" "NotThere.__init__" (defArgs s_NotThere___init__) (defBody s_NotThere___init__) (defScope s_NotThere___init__) .none kV_NotThere___init__ dc_NotThere___init__ pm_NotThere___init__ an_NotThere___init__ cd_NotThere___init__ ct_NotThere___init__,
    c_LineFault,
    f_LineFault___init__,
    PySem.W.fnOf "__init__" "LineFault.__init__" (defArgs s_LineFault___init__) (defBody s_LineFault___init__) (defScope s_LineFault___init__) .none kV_LineFault___init__ dc_LineFault___init__ pm_LineFault___init__ an_LineFault___init__ cd_LineFault___init__ ct_LineFault___init__,
    c_Opening,
    f_Opening___init__,
    PySem.W.fnOf "__init__" "Opening.__init__" (defArgs s_Opening___init__) (defBody s_Opening___init__) (defScope s_Opening___init__) .none kV_Opening___init__ dc_Opening___init__ pm_Opening___init__ an_Opening___init__ cd_Opening___init__ ct_Opening___init__,
    f_Opening_lies_within,
    PySem.W.fnOf "lies_within" "Opening.lies_within" (defArgs s_Opening_lies_within) (defBody s_Opening_lies_within) (defScope s_Opening_lies_within) .none kV_Opening_lies_within dc_Opening_lies_within pm_Opening_lies_within an_Opening_lies_within cd_Opening_lies_within ct_Opening_lies_within,
    f_Opening_stands_behind,
    PySem.W.fnOf "stands_behind" "Opening.stands_behind" (defArgs s_Opening_stands_behind) (defBody s_Opening_stands_behind) (defScope s_Opening_stands_behind) .none kV_Opening_stands_behind dc_Opening_stands_behind pm_Opening_stands_behind an_Opening_stands_behind cd_Opening_stands_behind ct_Opening_stands_behind,
    f_Opening_meets,
    PySem.W.fnOf "meets" "Opening.meets" (defArgs s_Opening_meets) (defBody s_Opening_meets) (defScope s_Opening_meets) .none kV_Opening_meets dc_Opening_meets pm_Opening_meets an_Opening_meets cd_Opening_meets ct_Opening_meets,
    f_Opening_covers,
    PySem.W.fnOf "covers" "Opening.covers" (defArgs s_Opening_covers) (defBody s_Opening_covers) (defScope s_Opening_covers) .none kV_Opening_covers dc_Opening_covers pm_Opening_covers an_Opening_covers cd_Opening_covers ct_Opening_covers,
    c_Wall,
    f_Wall___init__,
    PySem.W.fnOf "__init__" "Wall.__init__" (defArgs s_Wall___init__) (defBody s_Wall___init__) (defScope s_Wall___init__) .none kV_Wall___init__ dc_Wall___init__ pm_Wall___init__ an_Wall___init__ cd_Wall___init__ ct_Wall___init__,
    f_Wall_is_open,
    PySem.W.fnOf "is_open" "Wall.is_open" (defArgs s_Wall_is_open) (defBody s_Wall_is_open) (defScope s_Wall_is_open) .none kV_Wall_is_open dc_Wall_is_open pm_Wall_is_open an_Wall_is_open cd_Wall_is_open ct_Wall_is_open,
    c_Panel,
    f_Panel___init__,
    PySem.W.fnOf "__init__" "Panel.__init__" (defArgs s_Panel___init__) (defBody s_Panel___init__) (defScope s_Panel___init__) .none kV_Panel___init__ dc_Panel___init__ pm_Panel___init__ an_Panel___init__ cd_Panel___init__ ct_Panel___init__,
    f_Panel_has,
    PySem.W.fnOf "has" "Panel.has" (defArgs s_Panel_has) (defBody s_Panel_has) (defScope s_Panel_has) .none kV_Panel_has dc_Panel_has pm_Panel_has an_Panel_has cd_Panel_has ct_Panel_has,
    c_WallReader,
    f_WallReader___init__,
    PySem.W.fnOf "__init__" "WallReader.__init__" (defArgs s_WallReader___init__) (defBody s_WallReader___init__) (defScope s_WallReader___init__) .none kV_WallReader___init__ dc_WallReader___init__ pm_WallReader___init__ an_WallReader___init__ cd_WallReader___init__ ct_WallReader___init__,
    f_WallReader_has_head,
    PySem.W.fnOf "has_head" "WallReader.has_head" (defArgs s_WallReader_has_head) (defBody s_WallReader_has_head) (defScope s_WallReader_has_head) .none kV_WallReader_has_head dc_WallReader_has_head pm_WallReader_has_head an_WallReader_has_head cd_WallReader_has_head ct_WallReader_has_head,
    f_WallReader_take,
    PySem.W.fnOf "take" "WallReader.take" (defArgs s_WallReader_take) (defBody s_WallReader_take) (defScope s_WallReader_take) .none kV_WallReader_take dc_WallReader_take pm_WallReader_take an_WallReader_take cd_WallReader_take ct_WallReader_take,
    f_WallReader_take_rest,
    PySem.W.fnOf "take_rest" "WallReader.take_rest" (defArgs s_WallReader_take_rest) (defBody s_WallReader_take_rest) (defScope s_WallReader_take_rest) .none kV_WallReader_take_rest dc_WallReader_take_rest pm_WallReader_take_rest an_WallReader_take_rest cd_WallReader_take_rest ct_WallReader_take_rest,
    f_bytes_of,
    PySem.W.fnOf "bytes_of" "bytes_of" (defArgs s_bytes_of) (defBody s_bytes_of) (defScope s_bytes_of) .none kV_bytes_of dc_bytes_of pm_bytes_of an_bytes_of cd_bytes_of ct_bytes_of,
    f_split_at,
    PySem.W.fnOf "split_at" "split_at" (defArgs s_split_at) (defBody s_split_at) (defScope s_split_at) .none kV_split_at dc_split_at pm_split_at an_split_at cd_split_at ct_split_at,
    f_read_lines,
    PySem.W.fnOf "read_lines" "read_lines" (defArgs s_read_lines) (defBody s_read_lines) (defScope s_read_lines) .none kV_read_lines dc_read_lines pm_read_lines an_read_lines cd_read_lines ct_read_lines,
    f_fields_behind,
    PySem.W.fnOf "fields_behind" "fields_behind" (defArgs s_fields_behind) (defBody s_fields_behind) (defScope s_fields_behind) .none kV_fields_behind dc_fields_behind pm_fields_behind an_fields_behind cd_fields_behind ct_fields_behind,
    f_field_behind,
    PySem.W.fnOf "field_behind" "field_behind" (defArgs s_field_behind) (defBody s_field_behind) (defScope s_field_behind) .none kV_field_behind dc_field_behind pm_field_behind an_field_behind cd_field_behind ct_field_behind,
    f_number_in,
    PySem.W.fnOf "number_in" "number_in" (defArgs s_number_in) (defBody s_number_in) (defScope s_number_in) .none kV_number_in dc_number_in pm_number_in an_number_in cd_number_in ct_number_in,
    f_number_from_to,
    PySem.W.fnOf "number_from_to" "number_from_to" (defArgs s_number_from_to) (defBody s_number_from_to) (defScope s_number_from_to) .none kV_number_from_to dc_number_from_to pm_number_from_to an_number_from_to cd_number_from_to ct_number_from_to,
    f_name_in,
    PySem.W.fnOf "name_in" "name_in" (defArgs s_name_in) (defBody s_name_in) (defScope s_name_in) .none kV_name_in dc_name_in pm_name_in an_name_in cd_name_in ct_name_in,
    f_read_wall,
    PySem.W.fnOf "read_wall" "read_wall" (defArgs s_read_wall) (defBody s_read_wall) (defScope s_read_wall) .none kV_read_wall dc_read_wall pm_read_wall an_read_wall cd_read_wall ct_read_wall,
    f_head_value,
    PySem.W.fnOf "head_value" "head_value" (defArgs s_head_value) (defBody s_head_value) (defScope s_head_value) .none kV_head_value dc_head_value pm_head_value an_head_value cd_head_value ct_head_value,
    f_end_in,
    PySem.W.fnOf "end_in" "end_in" (defArgs s_end_in) (defBody s_end_in) (defScope s_end_in) .none kV_end_in dc_end_in pm_end_in an_end_in cd_end_in ct_end_in,
    f_opening_in,
    PySem.W.fnOf "opening_in" "opening_in" (defArgs s_opening_in) (defBody s_opening_in) (defScope s_opening_in) .none kV_opening_in dc_opening_in pm_opening_in an_opening_in cd_opening_in ct_opening_in,
    f_stretches_of,
    PySem.W.fnOf "stretches_of" "stretches_of" (defArgs s_stretches_of) (defBody s_stretches_of) (defScope s_stretches_of) .none kV_stretches_of dc_stretches_of pm_stretches_of an_stretches_of cd_stretches_of ct_stretches_of,
    f_panels_of,
    PySem.W.fnOf "panels_of" "panels_of" (defArgs s_panels_of) (defBody s_panels_of) (defScope s_panels_of) .none kV_panels_of dc_panels_of pm_panels_of an_panels_of cd_panels_of ct_panels_of,
    f_courses_with,
    PySem.W.fnOf "courses_with" "courses_with" (defArgs s_courses_with) (defBody s_courses_with) (defScope s_courses_with) .none kV_courses_with dc_courses_with pm_courses_with an_courses_with cd_courses_with ct_courses_with,
    f_panel_at,
    PySem.W.fnOf "panel_at" "panel_at" (defArgs s_panel_at) (defBody s_panel_at) (defScope s_panel_at) .none kV_panel_at dc_panel_at pm_panel_at an_panel_at cd_panel_at ct_panel_at,
    f_where,
    PySem.W.fnOf "where" "where" (defArgs s_where) (defBody s_where) (defScope s_where) .none kV_where dc_where pm_where an_where cd_where ct_where,
    f_wall_of,
    PySem.W.fnOf "wall_of" "wall_of" (defArgs s_wall_of) (defBody s_wall_of) (defScope s_wall_of) .none kV_wall_of dc_wall_of pm_wall_of an_wall_of cd_wall_of ct_wall_of,
    f_refuse_long,
    PySem.W.fnOf "refuse_long" "refuse_long" (defArgs s_refuse_long) (defBody s_refuse_long) (defScope s_refuse_long) .none kV_refuse_long dc_refuse_long pm_refuse_long an_refuse_long cd_refuse_long ct_refuse_long,
    f_refused,
    PySem.W.fnOf "refused" "refused" (defArgs s_refused) (defBody s_refused) (defScope s_refused) .none kV_refused dc_refused pm_refused an_refused cd_refused ct_refused,
    f_answer,
    PySem.W.fnOf "answer" "answer" (defArgs s_answer) (defBody s_answer) (defScope s_answer) .none kV_answer dc_answer pm_answer an_answer cd_answer ct_answer,
    t_OTHER_LINE,
    t_OUT_OF_BOUNDS,
    t_OUT_OF_ORDER,
    t_PLACE_IN_COMMON,
    t_TOO_MANY,
    t_LINE_FEED,
    t_BLANK,
    t_NOUGHT,
    t_NINE,
    t_FIRST_LETTER,
    t_LAST_LETTER,
    t_MOST_DIGITS,
    t_MOST_NAME_LETTERS,
    p_HEAD_WORDS,
    t_OPENING_WORD,
    p_END_WORDS,
    t_MOST_LENGTH,
    t_MOST_HEIGHT,
    t_MOST_OPENINGS,
    t_MOST_BYTES⟩, Value.ref.inj (Option.some.inj (hfa.symm.trans (PySem.W.mg_of KX G h_where))), ⟨PySem.W.mg_of KX G a_Refusal,
    fun_mk (st := s_Refusal___init__) l_Refusal___init__ c_Refusal___init__ k_Refusal___init__,
    (fun_mk (st := s_Refusal___init__) l_Refusal___init__ c_Refusal___init__ k_Refusal___init__).binds (ps := ["self", "number", "told"]) fun _ _ _ _ _ _ us hl => match us, hl with | [_, _, _], _ => rfl,
    ⟨po_Refusal, hd_Refusal, sa_Refusal, ga_Refusal, gh_Refusal⟩,
    ⟨mk_Refusal, h_Refusal___init__, i_Refusal___init__, kc_Refusal⟩,
    ⟨eb_Refusal, et_Refusal⟩,
    n_Refusal_number,
    n_Refusal_told,
    PySem.W.mg_of KX G a_TooLong,
    fun_mk (st := s_TooLong___init__) l_TooLong___init__ c_TooLong___init__ k_TooLong___init__,
    (fun_mk (st := s_TooLong___init__) l_TooLong___init__ c_TooLong___init__ k_TooLong___init__).binds (ps := ["self"]) fun _ _ _ _ _ _ us hl => match us, hl with | [_], _ => rfl,
    ⟨po_TooLong, hd_TooLong, sa_TooLong, ga_TooLong, gh_TooLong⟩,
    ⟨mk_TooLong, h_TooLong___init__, i_TooLong___init__, kc_TooLong⟩,
    ⟨eb_TooLong, et_TooLong⟩,
    n_TooLong_number,
    n_TooLong_told,
    PySem.W.mg_of KX G a_TextFault,
    fun_mk (st := s_TextFault___init__) l_TextFault___init__ c_TextFault___init__ k_TextFault___init__,
    (fun_mk (st := s_TextFault___init__) l_TextFault___init__ c_TextFault___init__ k_TextFault___init__).binds (ps := ["self", "line", "kind"]) fun _ _ _ _ _ _ us hl => match us, hl with | [_, _, _], _ => rfl,
    ⟨po_TextFault, hd_TextFault, sa_TextFault, ga_TextFault, gh_TextFault⟩,
    ⟨mk_TextFault, h_TextFault___init__, i_TextFault___init__, kc_TextFault⟩,
    ⟨eb_TextFault, et_TextFault⟩,
    n_TextFault_kind,
    n_TextFault_line,
    n_TextFault_number,
    n_TextFault_told,
    PySem.W.mg_of KX G a_Outside,
    fun_mk (st := s_Outside___init__) l_Outside___init__ c_Outside___init__ k_Outside___init__,
    (fun_mk (st := s_Outside___init__) l_Outside___init__ c_Outside___init__ k_Outside___init__).binds (ps := ["self"]) fun _ _ _ _ _ _ us hl => match us, hl with | [_], _ => rfl,
    ⟨po_Outside, hd_Outside, sa_Outside, ga_Outside, gh_Outside⟩,
    ⟨mk_Outside, h_Outside___init__, i_Outside___init__, kc_Outside⟩,
    ⟨eb_Outside, et_Outside⟩,
    n_Outside_number,
    n_Outside_told,
    PySem.W.mg_of KX G a_NotThere,
    fun_mk (st := s_NotThere___init__) l_NotThere___init__ c_NotThere___init__ k_NotThere___init__,
    (fun_mk (st := s_NotThere___init__) l_NotThere___init__ c_NotThere___init__ k_NotThere___init__).binds (ps := ["self"]) fun _ _ _ _ _ _ us hl => match us, hl with | [_], _ => rfl,
    ⟨po_NotThere, hd_NotThere, sa_NotThere, ga_NotThere, gh_NotThere⟩,
    ⟨mk_NotThere, h_NotThere___init__, i_NotThere___init__, kc_NotThere⟩,
    ⟨eb_NotThere, et_NotThere⟩,
    n_NotThere_number,
    n_NotThere_told,
    PySem.W.mg_of KX G a_LineFault,
    fun_mk (st := s_LineFault___init__) l_LineFault___init__ c_LineFault___init__ k_LineFault___init__,
    (fun_mk (st := s_LineFault___init__) l_LineFault___init__ c_LineFault___init__ k_LineFault___init__).binds (ps := ["self", "kind"]) fun _ _ _ _ _ _ us hl => match us, hl with | [_, _], _ => rfl,
    ⟨po_LineFault, hd_LineFault, sa_LineFault, ga_LineFault, gh_LineFault⟩,
    ⟨mk_LineFault, h_LineFault___init__, i_LineFault___init__, kc_LineFault⟩,
    ⟨eb_LineFault, et_LineFault⟩,
    n_LineFault_kind,
    PySem.W.mg_of KX G a_Opening,
    fun_mk (st := s_Opening___init__) l_Opening___init__ c_Opening___init__ k_Opening___init__,
    (fun_mk (st := s_Opening___init__) l_Opening___init__ c_Opening___init__ k_Opening___init__).binds (ps := ["self", "numbers"]) fun _ _ _ _ _ _ us hl => match us, hl with | [_, _], _ => rfl,
    fun_mk (st := s_Opening_lies_within) l_Opening_lies_within c_Opening_lies_within k_Opening_lies_within,
    (fun_mk (st := s_Opening_lies_within) l_Opening_lies_within c_Opening_lies_within k_Opening_lies_within).binds (ps := ["self", "length", "height"]) fun _ _ _ _ _ _ us hl => match us, hl with | [_, _, _], _ => rfl,
    ⟨h_Opening_lies_within, i_Opening_lies_within, k_Opening_lies_within⟩,
    fun_mk (st := s_Opening_stands_behind) l_Opening_stands_behind c_Opening_stands_behind k_Opening_stands_behind,
    (fun_mk (st := s_Opening_stands_behind) l_Opening_stands_behind c_Opening_stands_behind k_Opening_stands_behind).binds (ps := ["self", "other"]) fun _ _ _ _ _ _ us hl => match us, hl with | [_, _], _ => rfl,
    ⟨h_Opening_stands_behind, i_Opening_stands_behind, k_Opening_stands_behind⟩,
    fun_mk (st := s_Opening_meets) l_Opening_meets c_Opening_meets k_Opening_meets,
    (fun_mk (st := s_Opening_meets) l_Opening_meets c_Opening_meets k_Opening_meets).binds (ps := ["self", "other"]) fun _ _ _ _ _ _ us hl => match us, hl with | [_, _], _ => rfl,
    ⟨h_Opening_meets, i_Opening_meets, k_Opening_meets⟩,
    fun_mk (st := s_Opening_covers) l_Opening_covers c_Opening_covers k_Opening_covers,
    (fun_mk (st := s_Opening_covers) l_Opening_covers c_Opening_covers k_Opening_covers).binds (ps := ["self", "place", "course"]) fun _ _ _ _ _ _ us hl => match us, hl with | [_, _, _], _ => rfl,
    ⟨h_Opening_covers, i_Opening_covers, k_Opening_covers⟩,
    ⟨pg_Opening, hd_Opening, po_Opening, sa_Opening⟩,
    ⟨mk_Opening, h_Opening___init__, i_Opening___init__, kc_Opening⟩,
    n_Opening_high,
    n_Opening_wide,
    n_Opening_x,
    n_Opening_y,
    PySem.W.mg_of KX G a_Wall,
    fun_mk (st := s_Wall___init__) l_Wall___init__ c_Wall___init__ k_Wall___init__,
    (fun_mk (st := s_Wall___init__) l_Wall___init__ c_Wall___init__ k_Wall___init__).binds (ps := ["self", "head", "openings"]) fun _ _ _ _ _ _ us hl => match us, hl with | [_, _, _], _ => rfl,
    fun_mk (st := s_Wall_is_open) l_Wall_is_open c_Wall_is_open k_Wall_is_open,
    (fun_mk (st := s_Wall_is_open) l_Wall_is_open c_Wall_is_open k_Wall_is_open).binds (ps := ["self", "place", "course"]) fun _ _ _ _ _ _ us hl => match us, hl with | [_, _, _], _ => rfl,
    ⟨h_Wall_is_open, i_Wall_is_open, k_Wall_is_open⟩,
    ⟨pg_Wall, hd_Wall, po_Wall, sa_Wall⟩,
    ⟨mk_Wall, h_Wall___init__, i_Wall___init__, kc_Wall⟩,
    n_Wall_height,
    n_Wall_left,
    n_Wall_length,
    n_Wall_name,
    n_Wall_openings,
    n_Wall_reveal,
    n_Wall_right,
    PySem.W.mg_of KX G a_Panel,
    fun_mk (st := s_Panel___init__) l_Panel___init__ c_Panel___init__ k_Panel___init__,
    (fun_mk (st := s_Panel___init__) l_Panel___init__ c_Panel___init__ k_Panel___init__).binds (ps := ["self", "place", "course", "length", "courses"]) fun _ _ _ _ _ _ us hl => match us, hl with | [_, _, _, _, _], _ => rfl,
    fun_mk (st := s_Panel_has) l_Panel_has c_Panel_has k_Panel_has,
    (fun_mk (st := s_Panel_has) l_Panel_has c_Panel_has k_Panel_has).binds (ps := ["self", "place", "course"]) fun _ _ _ _ _ _ us hl => match us, hl with | [_, _, _], _ => rfl,
    ⟨h_Panel_has, i_Panel_has, k_Panel_has⟩,
    ⟨pg_Panel, hd_Panel, po_Panel, sa_Panel⟩,
    ⟨mk_Panel, h_Panel___init__, i_Panel___init__, kc_Panel⟩,
    n_Panel_course,
    n_Panel_courses,
    n_Panel_length,
    n_Panel_place,
    PySem.W.mg_of KX G a_WallReader,
    fun_mk (st := s_WallReader___init__) l_WallReader___init__ c_WallReader___init__ k_WallReader___init__,
    (fun_mk (st := s_WallReader___init__) l_WallReader___init__ c_WallReader___init__ k_WallReader___init__).binds (ps := ["self"]) fun _ _ _ _ _ _ us hl => match us, hl with | [_], _ => rfl,
    fun_mk (st := s_WallReader_has_head) l_WallReader_has_head c_WallReader_has_head k_WallReader_has_head,
    (fun_mk (st := s_WallReader_has_head) l_WallReader_has_head c_WallReader_has_head k_WallReader_has_head).binds (ps := ["self"]) fun _ _ _ _ _ _ us hl => match us, hl with | [_], _ => rfl,
    ⟨h_WallReader_has_head, i_WallReader_has_head, k_WallReader_has_head⟩,
    fun_mk (st := s_WallReader_take) l_WallReader_take c_WallReader_take k_WallReader_take,
    (fun_mk (st := s_WallReader_take) l_WallReader_take c_WallReader_take k_WallReader_take).binds (ps := ["self", "line"]) fun _ _ _ _ _ _ us hl => match us, hl with | [_, _], _ => rfl,
    ⟨h_WallReader_take, i_WallReader_take, k_WallReader_take⟩,
    fun_mk (st := s_WallReader_take_rest) l_WallReader_take_rest c_WallReader_take_rest k_WallReader_take_rest,
    (fun_mk (st := s_WallReader_take_rest) l_WallReader_take_rest c_WallReader_take_rest k_WallReader_take_rest).binds (ps := ["self", "rest"]) fun _ _ _ _ _ _ us hl => match us, hl with | [_, _], _ => rfl,
    ⟨h_WallReader_take_rest, i_WallReader_take_rest, k_WallReader_take_rest⟩,
    ⟨pg_WallReader, hd_WallReader, po_WallReader, sa_WallReader⟩,
    ⟨mk_WallReader, h_WallReader___init__, i_WallReader___init__, kc_WallReader⟩,
    n_WallReader_head,
    n_WallReader_lines,
    n_WallReader_openings,
    ⟨ca_Refusal___init__, cr_Refusal___init__, cf_Refusal___init__, k_Refusal___init__⟩,
    x_Refusal_Refusal,
    x_TooLong_Refusal,
    x_TextFault_Refusal,
    x_Outside_Refusal,
    x_NotThere_Refusal,
    x_LineFault_Refusal,
    x_Refusal_LineFault,
    x_TooLong_LineFault,
    x_TextFault_LineFault,
    x_Outside_LineFault,
    x_NotThere_LineFault,
    x_LineFault_LineFault,
    fun_mk (st := s_bytes_of) l_bytes_of c_bytes_of k_bytes_of,
    (fun_mk (st := s_bytes_of) l_bytes_of c_bytes_of k_bytes_of).binds (ps := ["word"]) fun _ _ _ _ _ _ us hl => match us, hl with | [_], _ => rfl,
    PySem.W.mg_of KX G h_bytes_of,
    fun_mk (st := s_split_at) l_split_at c_split_at k_split_at,
    (fun_mk (st := s_split_at) l_split_at c_split_at k_split_at).binds (ps := ["row", "sign"]) fun _ _ _ _ _ _ us hl => match us, hl with | [_, _], _ => rfl,
    PySem.W.mg_of KX G h_split_at,
    fun_mk (st := s_read_lines) l_read_lines c_read_lines k_read_lines,
    (fun_mk (st := s_read_lines) l_read_lines c_read_lines k_read_lines).binds (ps := ["text", "reader"]) fun _ _ _ _ _ _ us hl => match us, hl with | [_, _], _ => rfl,
    PySem.W.mg_of KX G h_read_lines,
    fun_mk (st := s_fields_behind) l_fields_behind c_fields_behind k_fields_behind,
    (fun_mk (st := s_fields_behind) l_fields_behind c_fields_behind k_fields_behind).binds (ps := ["word", "line"]) fun _ _ _ _ _ _ us hl => match us, hl with | [_, _], _ => rfl,
    PySem.W.mg_of KX G h_fields_behind,
    fun_mk (st := s_field_behind) l_field_behind c_field_behind k_field_behind,
    (fun_mk (st := s_field_behind) l_field_behind c_field_behind k_field_behind).binds (ps := ["word", "line"]) fun _ _ _ _ _ _ us hl => match us, hl with | [_, _], _ => rfl,
    PySem.W.mg_of KX G h_field_behind,
    fun_mk (st := s_number_in) l_number_in c_number_in k_number_in,
    (fun_mk (st := s_number_in) l_number_in c_number_in k_number_in).binds (ps := ["field"]) fun _ _ _ _ _ _ us hl => match us, hl with | [_], _ => rfl,
    PySem.W.mg_of KX G h_number_in,
    fun_mk (st := s_number_from_to) l_number_from_to c_number_from_to k_number_from_to,
    (fun_mk (st := s_number_from_to) l_number_from_to c_number_from_to k_number_from_to).binds (ps := ["field", "least", "most"]) fun _ _ _ _ _ _ us hl => match us, hl with | [_, _, _], _ => rfl,
    PySem.W.mg_of KX G h_number_from_to,
    fun_mk (st := s_name_in) l_name_in c_name_in k_name_in,
    (fun_mk (st := s_name_in) l_name_in c_name_in k_name_in).binds (ps := ["field"]) fun _ _ _ _ _ _ us hl => match us, hl with | [_], _ => rfl,
    PySem.W.mg_of KX G h_name_in,
    fun_mk (st := s_read_wall) l_read_wall c_read_wall k_read_wall,
    (fun_mk (st := s_read_wall) l_read_wall c_read_wall k_read_wall).binds (ps := ["text"]) fun _ _ _ _ _ _ us hl => match us, hl with | [_], _ => rfl,
    PySem.W.mg_of KX G h_read_wall,
    fun_mk (st := s_head_value) l_head_value c_head_value k_head_value,
    (fun_mk (st := s_head_value) l_head_value c_head_value k_head_value).binds (ps := ["number", "line"]) fun _ _ _ _ _ _ us hl => match us, hl with | [_, _], _ => rfl,
    PySem.W.mg_of KX G h_head_value,
    fun_mk (st := s_end_in) l_end_in c_end_in k_end_in,
    (fun_mk (st := s_end_in) l_end_in c_end_in k_end_in).binds (ps := ["field"]) fun _ _ _ _ _ _ us hl => match us, hl with | [_], _ => rfl,
    PySem.W.mg_of KX G h_end_in,
    fun_mk (st := s_opening_in) l_opening_in c_opening_in k_opening_in,
    (fun_mk (st := s_opening_in) l_opening_in c_opening_in k_opening_in).binds (ps := ["line", "length", "height", "before"]) fun _ _ _ _ _ _ us hl => match us, hl with | [_, _, _, _], _ => rfl,
    PySem.W.mg_of KX G h_opening_in,
    fun_mk (st := s_stretches_of) l_stretches_of c_stretches_of k_stretches_of,
    (fun_mk (st := s_stretches_of) l_stretches_of c_stretches_of k_stretches_of).binds (ps := ["wall", "course"]) fun _ _ _ _ _ _ us hl => match us, hl with | [_, _], _ => rfl,
    PySem.W.mg_of KX G h_stretches_of,
    fun_mk (st := s_panels_of) l_panels_of c_panels_of k_panels_of,
    (fun_mk (st := s_panels_of) l_panels_of c_panels_of k_panels_of).binds (ps := ["wall"]) fun _ _ _ _ _ _ us hl => match us, hl with | [_], _ => rfl,
    PySem.W.mg_of KX G h_panels_of,
    fun_mk (st := s_courses_with) l_courses_with c_courses_with k_courses_with,
    (fun_mk (st := s_courses_with) l_courses_with c_courses_with k_courses_with).binds (ps := ["stretch", "rows"]) fun _ _ _ _ _ _ us hl => match us, hl with | [_, _], _ => rfl,
    PySem.W.mg_of KX G h_courses_with,
    fun_mk (st := s_panel_at) l_panel_at c_panel_at k_panel_at,
    (fun_mk (st := s_panel_at) l_panel_at c_panel_at k_panel_at).binds (ps := ["wall", "place", "course"]) fun _ _ _ _ _ _ us hl => match us, hl with | [_, _, _], _ => rfl,
    PySem.W.mg_of KX G h_panel_at,
    fun_mk (st := s_where) l_where c_where k_where,
    (fun_mk (st := s_where) l_where c_where k_where).binds (ps := ["x", "y", "t"]) fun _ _ _ _ _ _ us hl => match us, hl with | [_, _, _], _ => rfl,
    PySem.W.mg_of KX G h_where,
    fun_mk (st := s_wall_of) l_wall_of c_wall_of k_wall_of,
    (fun_mk (st := s_wall_of) l_wall_of c_wall_of k_wall_of).binds (ps := ["t"]) fun _ _ _ _ _ _ us hl => match us, hl with | [_], _ => rfl,
    PySem.W.mg_of KX G h_wall_of,
    fun_mk (st := s_refuse_long) l_refuse_long c_refuse_long k_refuse_long,
    (fun_mk (st := s_refuse_long) l_refuse_long c_refuse_long k_refuse_long).binds (ps := ["rows"]) fun _ _ _ _ _ _ us hl => match us, hl with | [_], _ => rfl,
    PySem.W.mg_of KX G h_refuse_long,
    fun_mk (st := s_refused) l_refused c_refused k_refused,
    (fun_mk (st := s_refused) l_refused c_refused k_refused).binds (ps := ["refusal"]) fun _ _ _ _ _ _ us hl => match us, hl with | [_], _ => rfl,
    PySem.W.mg_of KX G h_refused,
    fun_mk (st := s_answer) l_answer c_answer k_answer,
    (fun_mk (st := s_answer) l_answer c_answer k_answer).binds (ps := ["number", "row", "signs"]) fun _ _ _ _ _ _ us hl => match us, hl with | [_, _, _], _ => rfl,
    PySem.W.mg_of KX G h_answer,
    PySem.W.mg_of KX G g_OTHER_LINE,
    PySem.W.mg_of KX G g_OUT_OF_BOUNDS,
    PySem.W.mg_of KX G g_OUT_OF_ORDER,
    PySem.W.mg_of KX G g_PLACE_IN_COMMON,
    PySem.W.mg_of KX G g_TOO_MANY,
    PySem.W.mg_of KX G g_LINE_FEED,
    PySem.W.mg_of KX G g_BLANK,
    PySem.W.mg_of KX G g_NOUGHT,
    PySem.W.mg_of KX G g_NINE,
    PySem.W.mg_of KX G g_FIRST_LETTER,
    PySem.W.mg_of KX G g_LAST_LETTER,
    PySem.W.mg_of KX G g_MOST_DIGITS,
    PySem.W.mg_of KX G g_MOST_NAME_LETTERS,
    PySem.W.mg_of KX G g_HEAD_WORDS,
    fun H => .inr ⟨_, _, _, o_HEAD_WORDS, rfl, rfl, by show 6 ≤ sizeLine; decide, .cons ⟨_, rfl⟩ (.cons ⟨_, rfl⟩ (.cons ⟨_, rfl⟩ (.cons ⟨_, rfl⟩ (.cons ⟨_, rfl⟩ (.cons ⟨_, rfl⟩ (.nil))))))⟩,
    PySem.W.mg_of KX G g_OPENING_WORD,
    PySem.W.mg_of KX G g_END_WORDS,
    fun H => .inr ⟨_, _, _, o_END_WORDS, rfl, rfl, by show 3 ≤ sizeLine; decide, .cons ⟨_, rfl⟩ (.cons ⟨_, rfl⟩ (.cons ⟨_, rfl⟩ (.nil)))⟩,
    PySem.W.mg_of KX G g_MOST_LENGTH,
    PySem.W.mg_of KX G g_MOST_HEIGHT,
    PySem.W.mg_of KX G g_MOST_OPENINGS,
    PySem.W.mg_of KX G g_MOST_BYTES,
    PySem.W.mg_none_of KX G z_all,
    PySem.W.mg_none_of KX G z_any,
    PySem.W.mg_none_of KX G z_enumerate,
    PySem.W.mg_none_of KX G z_len,
    PySem.W.mg_none_of KX G z_ord,
    PySem.W.mg_none_of KX G z_range⟩, fun s us hu => match us, hu with | [_, _, _], _ => .of_eq rfl⟩
/-! ### what stands in the heap -/
def iB (b : Bd.Bytes) : List V := b.map fun c => V.int ((c.toNat : Nat) : Int)
/-- all that was tracked, but errors' records, is as it was -/
def SameM (H H' : Hp) : Prop := ∀ b o, H b = some o → (∀ φ, o ≠ .ext φ) → H' b = some o
theorem _root_.L2.Same.thenM {H H1 H2 : Hp} (a : Same H H1) (b : SameM H1 H2) : SameM H H2 := fun c o h n => b c o (a c o h) n
theorem _root_.L2.Same.new {H H' : Hp} {p : Addr} {o : HO} (s : Same H H') (h : H' p = Option.none) : Same H (upd H' p o) := fun b u e => by
  rw [upd_ne (ne_of_none (s b u e) h)]
  exact s b u e
theorem _root_.L2.Same.set {H H' : Hp} {p : Addr} {o : HO} (s : Same H H') (h : H p = Option.none) : Same H (upd H' p o) := fun b u e => by
  rw [upd_ne (ne_of_none e h)]
  exact s b u e
/-- rows of bytes at these places -/
abbrev Rows (H : Hp) : List Addr → List Bd.Bytes → Prop := Paired fun a b => H a = some (.lst (iB b))
theorem Rows.same {H H' : Hp} {as : List Addr} {bs : List Bd.Bytes} (s : Same H H') (r : Rows H as bs) : Rows H' as bs := Paired.mapP r fun _ _ h => s _ _ h
theorem Rows.get {H : Hp} : ∀ {as : List Addr} {bs : List Bd.Bytes} {i : Nat} {b : Bd.Bytes}, Rows H as bs → bs[i]? = some b → ∃ a, as[i]? = some a ∧ H a = some (.lst (iB b))
  | _, _, _, _, .nil, h => by simp at h
  | _, _, 0, _, .cons h t, e => by
    have e' := Option.some.inj e
    subst e'
    exact ⟨_, rfl, h⟩
  | _, _, i + 1, b, .cons h t, e => by
    obtain ⟨a, h1, h2⟩ := Rows.get (i := i) (b := b) t e
    exact ⟨a, h1, h2⟩
theorem Rows.upd {H : Hp} {z : Addr} {o : HO} : ∀ {as : List Addr} {bs : List Bd.Bytes}, Rows H as bs → z ∉ as → Rows (upd H z o) as bs
  | _, _, .nil, _ => .nil
  | _, _, .cons h t, n => .cons (by rw [upd_ne (fun q => n (by simp [q]))]; exact h) (Rows.upd t fun q => n (by simp [q]))
/-- an error of this kind is taken -/
def Fails (C : Addr) (E : XK) (H : Hp) (k : Nat) : Prop := ∀ (d : Addr) (H' : Hp), SameM H H' → H' d = some (.xd [("kind", .int (k : Int))]) → E (C, true) (some d) H'
theorem Fails.same {C : Addr} {E : XK} {H H1 : Hp} {k : Nat} (f : Fails C E H k) (s : Same H H1) : Fails C E H1 k := fun d H' m e => f d H' (s.thenM m) e
/-! ### errors -/
/-- self.f = v of an error that has no attribute yet -/
def spErr1 (C : Addr) (f : Str) : Sp := fun vs H Q _ => ∃ (p : Addr) (v : V) (fr : Bool) (tb : Value), vs = [.ref p, v] ∧ H p = some (xO C fr none tb p) ∧
  ∀ (d : Addr) (H' : Hp), H d = none → d ≠ p → H' p = some (xO C fr (some d) tb p) → H' d = some (.xd [(f, v)]) → (∀ b, b ≠ p → b ≠ d → H' b = H b) → Q .non H'
section
variable {P : Program} {w : World} {K : PySem.W.Frag} {mg : Str → Option Value} {base : Heap} {a : Ad} {cm : Bool}
theorem ok_LineFault___init__ (T : Txt K mg a) : FnOk P w K mg base (CXo P w) cm 1 a.f_LineFault___init__ a.d_LineFault___init__ ["self", "kind"] (spErr1 a.c_LineFault "kind") := by
  refine fun_ok T.F_LineFault___init__ sc_LineFault___init__ (fun vs H Q E h => ?_) (fun cdv A outer s H vs Q E hr h => ?_)
  · obtain ⟨p, v, fr, tb, rfl, _⟩ := h
    rfl
  · obtain ⟨p, v, fr, tb, rfl, hp, k⟩ := h
    refine ⟨_, (pss_one (ps_fldX (pv 0) (pv 1) rfl)), ?_⟩
    exact ⟨_, rfl, _, rfl, p, _, fr, none, tb, rfl, hp, T.D_LineFault, T.n_LineFault_kind, .inl ⟨rfl, k⟩⟩
/-- Refusal's, for an error of any class under it -/
def spRef (K : PySem.W.Frag) : Sp := fun vs H Q _ => ∃ (p C : Addr) (v u : V) (fr : Bool) (tb : Value), vs = [.ref p, v, u] ∧ XCls K C ∧ NoAttr K C "number" ∧ NoAttr K C "told" ∧ H p = some (xO C fr none tb p) ∧
  ∀ (d : Addr) (H' : Hp), H d = none → d ≠ p → H' p = some (xO C fr (some d) tb p) → H' d = some (.xd [("number", v), ("told", u)]) → (∀ b, b ≠ p → b ≠ d → H' b = H b) → Q .non H'
theorem ok_Refusal___init__ (T : Txt K mg a) : FnOk P w K mg base (CXo P w) cm 1 a.f_Refusal___init__ a.d_Refusal___init__ ["self", "number", "told"] (spRef K) := by
  refine fun_ok T.F_Refusal___init__ sc_Refusal___init__ (fun vs H Q E h => ?_) (fun cdv A outer s H vs Q E hr h => ?_)
  · obtain ⟨p, C, v, u, fr, tb, rfl, _⟩ := h
    rfl
  · obtain ⟨p, C, v, u, fr, tb, rfl, xc, na, nb, hp, k⟩ := h
    refine ⟨_, (pss_cons (ps_fldX (pv 0) (pv 1) rfl)
      (pss_one (ps_fldX (pv 0) (pv 2) rfl))), ?_⟩
    refine ⟨_, rfl, _, rfl, p, C, fr, none, tb, rfl, hp, xc, na, .inl ⟨rfl, fun d H1 nd dp e1 e2 kp => ?_⟩⟩
    refine ⟨_, rfl, _, rfl, p, C, fr, some d, tb, rfl, e1, xc, nb, .inr ⟨d, _, rfl, e2, (by show 1 < 1000; decide), ?_⟩⟩
    refine k d _ nd dp (by rw [upd_ne (Ne.symm dp)]; exact e1) ?_ fun b hb hd => by rw [upd_ne hd]; exact kp b hb hd
    rw [upd_same]
    rfl
/-- an error of a number, with nothing told -/
def rfF (n : Int) (q : Addr) : List (Str × V) := [("number", .int n), ("told", .ref q)]
def spErr0 (C : Addr) (n : Int) : Sp := fun vs H Q _ => ∃ (p : Addr) (fr : Bool) (tb : Value), vs = [.ref p] ∧ H p = some (xO C fr none tb p) ∧
  ∀ (d q : Addr) (H' : Hp), H d = none → H q = none → d ≠ p → H' p = some (xO C fr (some d) tb p) → H' d = some (.xd (rfF n q)) → H' q = some (.lst []) → (∀ b, b ≠ p → b ≠ d → b ≠ q → H' b = H b) → Q .non H'
theorem ok_TooLong___init__ (T : Txt K mg a) : FnOk P w K mg base (CXo P w) cm 2 a.f_TooLong___init__ a.d_TooLong___init__ ["self"] (spErr0 a.c_TooLong (-1)) := by
  have G_Refusal___init__ : FnOk P w K mg base (CXo P w) cm 1 a.f_Refusal___init__ a.d_Refusal___init__ ["self", "number", "told"] (spRef K) := ok_Refusal___init__ T
  refine fun_ok T.F_TooLong___init__ sc_TooLong___init__ (fun vs H Q E h => ?_) (fun cdv A outer s H vs Q E hr h => ?_)
  · obtain ⟨p, fr, tb, rfl, _⟩ := h
    rfl
  · obtain ⟨p, fr, tb, rfl, hp, k⟩ := h
    refine ⟨_, (pss_one (ps_expr (pe_ccall G_Refusal___init__ (hr.mono (by decide)) rfl T.m_Refusal T.A_Refusal___init__ T.b_Refusal___init__ takes_cx.passes (pa_cons (pv 0) (pa_cons (pe_un un_neg pe_int) (pa_cons (pe_lst pa_nil) pa_nil)))))), ?_⟩
    refine ⟨_, rfl, _, rfl, Nat.zero_le _, fun q nq => ?_⟩
    have pq : p ≠ q := ne_of_none hp nq
    refine ⟨p, _, _, _, fr, tb, rfl, T.D_TooLong, T.n_TooLong_number, T.n_TooLong_told, by rw [upd_ne pq]; exact hp, fun d H1 nd dp e1 e2 kp => ?_⟩
    have dq : d ≠ q := fun e => by rw [e, upd_same] at nd; cases nd
    refine k d q H1 (by rw [upd_ne dq] at nd; exact nd) nq dp e1 e2 (by rw [kp q (Ne.symm pq) (Ne.symm dq)]; exact upd_same) fun b h1 h2 h3 => by rw [kp b h1 h2, upd_ne h3]
def wfF (q : Addr) (i k : V) : List (Str × V) := [("number", .int (-6)), ("told", .ref q), ("line", i), ("kind", k)]
def spTextFault (C : Addr) : Sp := fun vs H Q _ => ∃ (p : Addr) (i k : V) (fr : Bool) (tb : Value), vs = [.ref p, i, k] ∧ H p = some (xO C fr none tb p) ∧
  ∀ (d q : Addr) (H' : Hp), H d = none → H q = none → d ≠ p → H' p = some (xO C fr (some d) tb p) → H' d = some (.xd (wfF q i k)) → H' q = some (.lst []) → (∀ b, b ≠ p → b ≠ d → b ≠ q → H' b = H b) → Q .non H'
theorem ok_TextFault___init__ (T : Txt K mg a) : FnOk P w K mg base (CXo P w) cm 2 a.f_TextFault___init__ a.d_TextFault___init__ ["self", "line", "kind"] (spTextFault a.c_TextFault) := by
  have G_Refusal___init__ : FnOk P w K mg base (CXo P w) cm 1 a.f_Refusal___init__ a.d_Refusal___init__ ["self", "number", "told"] (spRef K) := ok_Refusal___init__ T
  refine fun_ok T.F_TextFault___init__ sc_TextFault___init__ (fun vs H Q E h => ?_) (fun cdv A outer s H vs Q E hr h => ?_)
  · obtain ⟨p, i, k, fr, tb, rfl, _⟩ := h
    rfl
  · obtain ⟨p, i, kk, fr, tb, rfl, hp, k⟩ := h
    refine ⟨_, (pss_cons (ps_expr (pe_ccall G_Refusal___init__ (hr.mono (by decide)) rfl T.m_Refusal T.A_Refusal___init__ T.b_Refusal___init__ takes_cx.passes (pa_cons (pv 0) (pa_cons (pe_un un_neg pe_int) (pa_cons (pe_lst pa_nil) pa_nil)))))
      (pss_cons (ps_fldX (pv 0) (pv 1) rfl)
      (pss_one (ps_fldX (pv 0) (pv 2) rfl)))), ?_⟩
    refine ⟨_, rfl, _, rfl, Nat.zero_le _, fun q nq => ?_⟩
    have pq : p ≠ q := ne_of_none hp nq
    refine ⟨p, _, _, _, fr, tb, rfl, T.D_TextFault, T.n_TextFault_number, T.n_TextFault_told, by rw [upd_ne pq]; exact hp, fun d H1 nd dp e1 e2 kp => ?_⟩
    have dq : d ≠ q := fun e => by rw [e, upd_same] at nd; cases nd
    refine ⟨_, rfl, _, rfl, p, _, fr, some d, tb, rfl, e1, T.D_TextFault, T.n_TextFault_line, .inr ⟨d, _, rfl, e2, (by show 2 < 1000; decide), ?_⟩⟩
    have e3 : upd H1 d (.xd (putF "line" i [("number", .int (-6)), ("told", .ref q)])) p = some (xO a.c_TextFault fr (some d) tb p) := by
      rw [upd_ne (Ne.symm dp)]
      exact e1
    refine ⟨_, rfl, _, rfl, p, _, fr, some d, tb, rfl, e3, T.D_TextFault, T.n_TextFault_kind, .inr ⟨d, _, rfl, upd_same, (by show 3 < 1000; decide), ?_⟩⟩
    rw [upd_upd]
    refine k d q _ (by rw [upd_ne dq] at nd; exact nd) nq dp (by rw [upd_ne (Ne.symm dp)]; exact e1) ?_ (by rw [upd_ne (Ne.symm dq), kp q (Ne.symm pq) (Ne.symm dq)]; exact upd_same) fun b hb hd hq => by rw [upd_ne hd, kp b hb hd, upd_ne hq]
    rw [upd_same]
    rfl
/-- raise LineFault(k) -/
theorem raise_line (T : Txt K mg a) {E : XK} {H : Hp} {k : Nat} {D : Ends} {σ : L2.St} (h : Fails a.c_LineFault E H k) :
    tRaise K (fun _ => E) (tMakeX a.c_LineFault (spErr1 a.c_LineFault "kind") (fun _ => E) (tCons (tC (.int (k : Int))) tNil)) D σ H := by
  refine ⟨(by show 1 ≤ 1000; decide), fun x hx => ⟨x, _, true, .none, rfl, upd_same, fun d H' nd dx e1 e2 kp => ⟨rfl, x, _, some d, rfl, e1, T.E_LineFault, ?_⟩⟩⟩
  refine h d _ (fun b o e n => ?_) (mask_of e2 fun φ q => nomatch q)
  have bx : b ≠ x := ne_of_none e hx
  have nd' : H d = none := by
    rw [upd_ne dx] at nd
    exact nd
  refine mask_of ?_ n
  rw [kp b bx (ne_of_none e nd'), upd_ne bx]
  exact e
/-- an error of this class and number, with nothing told, is taken -/
def FailsN (C : Addr) (n : Int) (E : XK) (H : Hp) : Prop := ∀ (d q : Addr) (H' : Hp), SameM H H' → H' d = some (.xd (rfF n q)) → H' q = some (.lst []) → E (C, true) (some d) H'
theorem FailsN.same {C : Addr} {n : Int} {E : XK} {H H1 : Hp} (f : FailsN C n E H) (s : Same H H1) : FailsN C n E H1 := fun d q H' m e e2 => f d q H' (s.thenM m) e e2
/-- raise C() -/
theorem raise_none {C : Addr} {n : Int} (hE : ErrC K C) {E : XK} {H : Hp} {D : Ends} {σ : L2.St} (h : FailsN C n E H) :
    tRaise K (fun _ => E) (tMakeX C (spErr0 C n) (fun _ => E) tNil) D σ H := by
  refine ⟨(by show 0 ≤ 1000; decide), fun x hx => ⟨x, true, .none, rfl, upd_same, fun d q H' nd nq dx e1 e2 e3 kp => ⟨rfl, x, _, some d, rfl, e1, hE, ?_⟩⟩⟩
  refine h d q _ (fun b o e n => ?_) (mask_of e2 fun φ q => nomatch q) (mask_of e3 fun φ q => nomatch q)
  have bx : b ≠ x := ne_of_none e hx
  have nd' : H d = none := by
    rw [upd_ne dx] at nd
    exact nd
  have qx : q ≠ x := fun e => by
    rw [e, upd_same] at nq
    cases nq
  have nq' : H q = none := by
    rw [upd_ne qx] at nq
    exact nq
  refine mask_of ?_ n
  rw [kp b bx (ne_of_none e nd') (ne_of_none e nq'), upd_ne bx]
  exact e
end
end Wb
end
section
set_option Elab.async false
set_option linter.all false
set_option maxRecDepth 100000
set_option maxHeartbeats 4000000
namespace Wb
open PySem PySem.Spec PyProof.Rows L2 Wm
open PySem.W (Codec)
/-! ### forms of loops -/
section
variable {K : PySem.W.Frag} {a : Addr} {xs : List V} {g : TG} {tb : TS} {D : Ends} {σ : L2.St} {H : Hp}
theorem szl : 1000000 ≤ sizeLine := by decide
/-- for i, x in enumerate(list) -/
theorem for_enum (Pv : Nat → L2.St → Hp → Prop) (h0 : Pv 0 σ H) (hl : ∀ i σ H, i ≤ xs.length → Pv i σ H → SqL K H a xs)
    (hs : ∀ i x σ H T, xs[i]? = some x → Pv i σ H → H T = none → g (.ref T) σ (upd H T (.tup [.int (i : Nat), x])) fun σ2 H2 => tb { D with nx := Pv (i + 1), ct := Pv (i + 1), bk := D.nx } σ2 H2) (hd : ∀ σ H, Pv xs.length σ H → D.nx σ H) :
    ∃ W : Nat → Nat → L2.St → Hp → Prop, (∃ m, W 0 m σ H) ∧ ∀ i m σ H, W i m σ H →
      ((Ite K a).stop i H ∧ D.nx σ H) ∨ ((Ite K a).go i H ∧ ∃ N : L2.St → Hp → Prop, (∀ σ' H', N σ' H' → ∃ m', m' < m ∧ W (i + 1) m' σ' H') ∧ ∀ x H', (Ite K a).yld i H x H' → g x σ H' fun σ2 H2 => tb { D with nx := N, ct := N, bk := D.nx } σ2 H2) := by
  refine ⟨fun i m σ H => m = xs.length - i ∧ i ≤ xs.length ∧ Pv i σ H, ⟨xs.length, by simp, Nat.zero_le _, h0⟩, ?_⟩
  rintro i m σ H ⟨rfl, hi, p⟩
  have q := hl i σ H hi p
  by_cases hlt : i < xs.length
  · refine .inr ⟨⟨xs, xs[i], q, by simp [hlt]⟩, Pv (i + 1), fun σ' H' p' => ⟨xs.length - (i + 1), by omega, rfl, hlt, p'⟩, fun x H' y => ?_⟩
    obtain ⟨t, z, rfl, ht, rfl, y⟩ := y
    exact hs i z σ H t (y xs q) p ht
  · have e : i = xs.length := by omega
    subst e
    exact .inl ⟨⟨xs, q, Nat.le_refl _⟩, hd σ H p⟩
/-- for i, x in enumerate(tuple) -/
theorem for_enumT (Pv : Nat → L2.St → Hp → Prop) (h0 : Pv 0 σ H) (hl : ∀ i σ H, i ≤ xs.length → Pv i σ H → SqT K H a xs)
    (hs : ∀ i x σ H T, xs[i]? = some x → Pv i σ H → H T = none → g (.ref T) σ (upd H T (.tup [.int (i : Nat), x])) fun σ2 H2 => tb { D with nx := Pv (i + 1), ct := Pv (i + 1), bk := D.nx } σ2 H2) (hd : ∀ σ H, Pv xs.length σ H → D.nx σ H) :
    ∃ W : Nat → Nat → L2.St → Hp → Prop, (∃ m, W 0 m σ H) ∧ ∀ i m σ H, W i m σ H →
      ((IteT K a).stop i H ∧ D.nx σ H) ∨ ((IteT K a).go i H ∧ ∃ N : L2.St → Hp → Prop, (∀ σ' H', N σ' H' → ∃ m', m' < m ∧ W (i + 1) m' σ' H') ∧ ∀ x H', (IteT K a).yld i H x H' → g x σ H' fun σ2 H2 => tb { D with nx := N, ct := N, bk := D.nx } σ2 H2) := by
  refine ⟨fun i m σ H => m = xs.length - i ∧ i ≤ xs.length ∧ Pv i σ H, ⟨xs.length, by simp, Nat.zero_le _, h0⟩, ?_⟩
  rintro i m σ H ⟨rfl, hi, p⟩
  have q := hl i σ H hi p
  by_cases hlt : i < xs.length
  · refine .inr ⟨⟨xs, xs[i], q, by simp [hlt]⟩, Pv (i + 1), fun σ' H' p' => ⟨xs.length - (i + 1), by omega, rfl, hlt, p'⟩, fun x H' y => ?_⟩
    obtain ⟨t, z, rfl, ht, rfl, y⟩ := y
    exact hs i z σ H t (y xs q) p ht
  · have e : i = xs.length := by omega
    subst e
    exact .inl ⟨⟨xs, q, Nat.le_refl _⟩, hd σ H p⟩
end
section
variable {g : TG} {te : TE} {vs : List Nat} {σ : L2.St} {H1 : Hp} {Dl : Addr} {Qd : Hp → Prop}
theorem take_snoc {α : Type} : ∀ {l : List α} {i : Nat} {x : α}, l[i]? = some x → l.take (i + 1) = l.take i ++ [x]
  | [], i, x, h => by simp at h
  | a :: l, 0, x, h => by
    have e : a = x := Option.some.inj h
    subst e
    rfl
  | a :: l, i + 1, x, h => by
    have ih := take_snoc (l := l) (i := i) (x := x) h
    show a :: l.take (i + 1) = a :: l.take i ++ [x]
    rw [ih]
    rfl
/-- [f(x) for x in list], f without a trace -/
theorem lc_map {K : PySem.W.Frag} {a : Addr} {xs : List V} (f : V → V) (hq : SqL K H1 a xs) (hl : xs.length < 1000000) (hn : H1 Dl = none)
    (he : ∀ x ∈ xs, ∀ (H' : Hp) (R : VK), R (f x) H' → g x (wipe σ vs) H' fun σ2 H2 => wipe σ2 vs = wipe σ vs ∧ H2 = H' ∧ te σ2 H' R)
    (hg : ∀ x H' (R R' : L2.St → Hp → Prop), (∀ σ2 H2, R σ2 H2 → R' σ2 H2) → g x (wipe σ vs) H' R → g x (wipe σ vs) H' R')
    (hd : Qd (upd H1 Dl (.lst (xs.map f)))) :
    ∃ W : Nat → Nat → Hp → Prop, (∃ m, W 0 m (upd H1 Dl (.lst []))) ∧ ∀ i m H, W i m H →
      ((Itl K a).stop i H ∧ Qd H) ∨ ((Itl K a).go i H ∧ ∃ Nx : Hp → Prop, (∀ H', Nx H' → ∃ m', m' < m ∧ W (i + 1) m' H') ∧ ∀ x H', (Itl K a).yld i H x H' → g x (wipe σ vs) H' fun σ2 H2 => wipe σ2 vs = wipe σ vs ∧ tYes σ2 H2 fun b H3 =>
        if b = true then te σ2 H3 fun y H4 => ∃ acc, H4 Dl = some (.lst acc) ∧ acc.length < sizeLine ∧ Nx (upd H4 Dl (.lst (acc ++ [y]))) else Nx H3) := by
  refine lc_list (xs := xs) (fun i H => H = upd H1 Dl (.lst ((xs.take i).map f))) rfl (fun i H hi e => ?_) (fun i x H hx e => ?_) fun H e => ?_
  · rw [e]
    exact Same.seq (fun b o z => by rw [upd_ne (ne_of_none z hn)]; exact z) hq
  · subst e
    refine hg x _ _ _ ?_ (he x (List.mem_of_getElem? hx) (upd H1 Dl (.lst ((xs.take i).map f))) (fun y H4 => ∃ acc, H4 Dl = some (.lst acc) ∧ acc.length < sizeLine ∧ upd H4 Dl (.lst (acc ++ [y])) = upd H1 Dl (.lst ((xs.take (i + 1)).map f)))
      ⟨_, upd_same, by rw [List.length_map, List.length_take]; exact Nat.lt_of_le_of_lt (Nat.min_le_right _ _) (Nat.lt_of_lt_of_le hl szl), by rw [upd_upd, take_snoc hx, List.map_append]; rfl⟩)
    rintro σ2 H2 ⟨w1, rfl, q⟩
    exact ⟨w1, q⟩
  · rw [e, List.take_length]
    exact hd
/-- [f(c) for c in text] -/
theorem lc_strMap {z : Str} (f : Nat → V) (hl : z.cps.toList.length < 1000000) (hn : H1 Dl = none)
    (he : ∀ (c : Nat) (H' : Hp) (R : VK), R (f c) H' → g (.str ⟨#[c]⟩) (wipe σ vs) H' fun σ2 H2 => wipe σ2 vs = wipe σ vs ∧ H2 = H' ∧ te σ2 H' R)
    (hg : ∀ x H' (R R' : L2.St → Hp → Prop), (∀ σ2 H2, R σ2 H2 → R' σ2 H2) → g x (wipe σ vs) H' R → g x (wipe σ vs) H' R')
    (hd : Qd (upd H1 Dl (.lst (z.cps.toList.map f)))) :
    ∃ W : Nat → Nat → Hp → Prop, (∃ m, W 0 m (upd H1 Dl (.lst []))) ∧ ∀ i m H, W i m H →
      ((Its z).stop i H ∧ Qd H) ∨ ((Its z).go i H ∧ ∃ Nx : Hp → Prop, (∀ H', Nx H' → ∃ m', m' < m ∧ W (i + 1) m' H') ∧ ∀ x H', (Its z).yld i H x H' → g x (wipe σ vs) H' fun σ2 H2 => wipe σ2 vs = wipe σ vs ∧ tYes σ2 H2 fun b H3 =>
        if b = true then te σ2 H3 fun y H4 => ∃ acc, H4 Dl = some (.lst acc) ∧ acc.length < sizeLine ∧ Nx (upd H4 Dl (.lst (acc ++ [y]))) else Nx H3) := by
  have hz : z.cps.toList.length = z.cps.size := Array.length_toList
  refine ⟨fun i m H => m = z.cps.size - i ∧ i ≤ z.cps.size ∧ H = upd H1 Dl (.lst ((z.cps.toList.take i).map f)), ⟨z.cps.size, by simp, Nat.zero_le _, rfl⟩, ?_⟩
  rintro i m H ⟨rfl, hi, rfl⟩
  by_cases hlt : i < z.cps.size
  · refine .inr ⟨hlt, fun H' => H' = upd H1 Dl (.lst ((z.cps.toList.take (i + 1)).map f)), fun H' p' => ⟨z.cps.size - (i + 1), by omega, rfl, hlt, p'⟩, fun x H' y => ?_⟩
    obtain ⟨rfl, c, hc, rfl⟩ := y
    have hx : z.cps.toList[i]? = some c := by simpa using hc
    refine hg _ _ _ _ ?_ (he c _ (fun y H4 => ∃ acc, H4 Dl = some (.lst acc) ∧ acc.length < sizeLine ∧ upd H4 Dl (.lst (acc ++ [y])) = upd H1 Dl (.lst ((z.cps.toList.take (i + 1)).map f)))
      ⟨_, upd_same, by rw [List.length_map, List.length_take]; exact Nat.lt_of_le_of_lt (Nat.min_le_right _ _) (Nat.lt_of_lt_of_le hl szl), by rw [upd_upd, take_snoc hx, List.map_append]; rfl⟩)
    rintro σ2 H2 ⟨w1, rfl, q⟩
    exact ⟨w1, q⟩
  · have e : i = z.cps.size := by omega
    subst e
    refine .inl ⟨Nat.le_refl _, ?_⟩
    rw [← hz, List.take_length]
    exact hd
end
/-! ### small defs -/
def spAnswer : Sp := fun vs H Q _ => ∃ (n : Int) (r s : Addr) (rs ss : List Int), vs = [.int n, .ref r, .ref s] ∧ H r = some (.lst (rs.map V.int)) ∧ H s = some (.lst (ss.map V.int)) ∧ rs.length ≤ 100000 ∧ ss.length ≤ 100000 ∧
  ∀ (H' : Hp) (p : Addr), Same H H' → H' p = some (.lst ((n :: (rs.length : Int) :: (rs ++ (ss.length : Int) :: ss)).map V.int)) → Q (.ref p) H'
/-- a text's codes in a new list -/
def spBytesOf : Sp := fun vs H Q _ => ∃ z : Str, vs = [.str z] ∧ z.cps.toList.length < 1000 ∧ ∀ (H' : Hp) (p : Addr), Same H H' → H p = none → H' p = some (.lst (z.cps.toList.map fun n => V.int ((n : Nat) : Int))) → Q (.ref p) H'
/-- a row parted at a sign, in new lists -/
def spSplit (K : PySem.W.Frag) : Sp := fun vs H Q _ => ∃ (l : Addr) (b : Bd.Bytes) (c : UInt8), vs = [.ref l, .int ((c.toNat : Nat) : Int)] ∧ SqL K H l (iB b) ∧ b.length ≤ 10000 ∧
  ∀ (H' : Hp) (p : Addr) (as : List Addr), Same H H' → H p = none → (∀ x ∈ as, H x = none) → H' p = some (.lst (as.map V.ref)) → Rows H' as (splitB c b) → Q (.ref p) H'
section
variable {P : Program} {w : World} {K : PySem.W.Frag} {mg : Str → Option Value} {base : Heap} {a : Ad} {cm : Bool}
theorem ok_answer (T : Txt K mg a) : FnOk P w K mg base (CXo P w) cm 1 a.f_answer a.d_answer ["number", "row", "signs"] spAnswer := by
  refine fun_ok T.F_answer sc_answer (fun vs H Q E h => ?_) (fun cdv A outer s0 H vs Q E hr h => ?_)
  · obtain ⟨n, r, s, rs, ss, rfl, _⟩ := h
    rfl
  · obtain ⟨n, r, s, rs, ss, rfl, h1, h2, l1, l2, k⟩ := h
    refine ⟨_, (pss_one (ps_ret (pe_op op_cat (pe_op op_cat (pe_op op_cat (pe_lst (pa_cons (pv 0) (pa_cons (pe_callB call_len_seq rfl T.z_len bt_len (pa_cons (pv 1) pa_nil)) pa_nil))) (pv 1)) (pe_lst (pa_cons (pe_callB call_len_seq rfl T.z_len bt_len (pa_cons (pv 2) pa_nil)) pa_nil))) (pv 2)))), ?_⟩
    have zl := szl
    refine ⟨_, rfl, _, rfl, r, _, rfl, .inl (SqL.of h1), (by show 2 ≤ sizeLine; decide), fun p1 n1 => ?_⟩
    have s1 : Same H (upd H p1 (.lst [.int n, .int ((rs.map V.int).length : Nat)])) := (Same.refl _).new n1
    refine ⟨_, rfl, p1, r, _, _, rfl, rfl, upd_same, s1 _ _ h1, (by simp; omega), fun p2 n2 => ?_⟩
    have s2 := s1.new (o := .lst ([.int n, .int ((rs.map V.int).length : Nat)] ++ rs.map V.int)) n2
    refine ⟨_, rfl, s, _, rfl, .inl (SqL.of (s2 _ _ h2)), (by show 1 ≤ sizeLine; decide), fun p3 n3 => ?_⟩
    have s3 := s2.new (o := .lst [.int ((ss.map V.int).length : Nat)]) n3
    refine ⟨p2, p3, _, _, rfl, rfl, (by rw [upd_ne (ne_of_none upd_same n3)]; exact upd_same), upd_same, (by simp; omega), fun p4 n4 => ?_⟩
    have s4 := s3.new (o := .lst ([.int n, .int ((rs.map V.int).length : Nat)] ++ rs.map V.int ++ [.int ((ss.map V.int).length : Nat)])) n4
    refine ⟨_, rfl, p4, s, _, _, rfl, rfl, upd_same, s4 _ _ h2, (by simp; omega), fun p5 n5 => ?_⟩
    refine k _ p5 (s4.new n5) ?_
    rw [upd_same]
    simp
theorem ok_bytes_of (T : Txt K mg a) : FnOk P w K mg base (CXo P w) true 1 a.f_bytes_of a.d_bytes_of ["word"] spBytesOf := by
  refine fun_ok T.F_bytes_of sc_bytes_of (fun vs H Q E h => ?_) (fun cdv A outer s0 H vs Q E hr h => ?_)
  · obtain ⟨z, rfl, _⟩ := h
    rfl
  · obtain ⟨z, rfl, hl, k⟩ := h
    refine ⟨_, (pss_one (ps_ret (pe_lc (own := [("sign", 1)]) rfl sc_bytes_of.nd (pi_str (pv 0)) (by show BlkOk ["word", "sign"] (defScope s_bytes_of) _ [("sign", 1)]; exact ⟨rfl, by decide +kernel, by decide +kernel, by decide +kernel, by decide +kernel⟩) (fun s H C cl fp => (pg_name (i := 1) sc_bytes_of.nd rfl (by first | exact Or.inl rfl | exact Or.inr rfl))) (fun s H C cl fp => pts_nil) (fun s H C cl fp => (pe_callB call_ord rfl T.z_ord bt_ord (pa_cons (pv 1) pa_nil)))))), ?_⟩
    refine ⟨_, rfl, z, rfl, fun Dl hD => ?_⟩
    refine lc_strMap (fun n => V.int ((n : Nat) : Int)) (by omega) hD (fun c H' R q => ?_) (fun x H' R R' m q => m _ _ q) ?_
    · exact ⟨rfl, rfl, _, rfl, _, rfl, rfl, q⟩
    · exact k _ Dl ((Same.refl _).new hD) hD upd_same
/-- what an error stands for: its number, what it tells -/
def spRefused (K : PySem.W.Frag) : Sp := fun vs H Q _ => ∃ (ea C d q : Addr) (fr : Bool) (tb : Value) (F : List (Str × V)) (n : Int) (ns : List Int), vs = [.ref ea] ∧ H ea = some (xO C fr (some d) tb ea) ∧ H d = some (.xd F) ∧ XCls K C ∧ NoAttr K C "number" ∧ NoAttr K C "told" ∧
  F.lookup ("number" : Str) = some (.int n) ∧ F.lookup ("told" : Str) = some (.ref q) ∧ H q = some (.lst (ns.map V.int)) ∧ ns.length ≤ 1000 ∧
  ∀ (H' : Hp) (p : Addr), Same H H' → H' p = some (.lst ((n :: (ns.length : Int) :: (ns ++ [0])).map V.int)) → Q (.ref p) H'
theorem ok_refused (T : Txt K mg a) : FnOk P w K mg base (CXo P w) cm 2 a.f_refused a.d_refused ["refusal"] (spRefused K) := by
  have G_answer : FnOk P w K mg base (CXo P w) cm 1 a.f_answer a.d_answer ["number", "row", "signs"] spAnswer := ok_answer T
  refine fun_ok T.F_refused sc_refused (fun vs H Q E h => ?_) (fun cdv A outer s0 H vs Q E hr h => ?_)
  · obtain ⟨ea, C, d, q, fr, tb, F, n, ns, rfl, _⟩ := h
    rfl
  · obtain ⟨ea, C, d, q, fr, tb, F, n, ns, rfl, l1, ed, xc, na, nb, f1, f2, hq, hl, k⟩ := h
    refine ⟨_, (pss_one (ps_ret (pe_call G_answer (hr.mono (by decide)) rfl T.m_answer T.F_answer.kp T.b_answer .nil takes_cx.passes (pa_cons (pe_fldXK (K := K) rfl (pv 0) rfl) (pa_cons (pe_fldXK (K := K) rfl (pv 0) rfl) (pa_cons (pe_lst pa_nil) pa_nil)))))), ?_⟩
    refine ⟨_, rfl, ea, C, fr, d, tb, F, _, rfl, l1, ed, xc, na, f1, _, rfl, ea, C, fr, d, tb, F, _, rfl, l1, ed, xc, nb, f2, Nat.zero_le _, fun s ns' => ?_⟩
    refine ⟨n, q, s, ns, [], rfl, by rw [upd_ne (ne_of_none hq ns')]; exact hq, upd_same, by omega, by decide, fun H' p s1 e => k H' p (fun b o z => s1 b o (((Same.refl H).new ns') b o z)) e⟩
end
end Wb
end
section
set_option Elab.async false
set_option linter.all false
set_option maxRecDepth 100000
set_option maxHeartbeats 4000000
namespace Wb
open PySem PySem.Spec PyProof.Rows L2 Wm
open PySem.W (Codec)
/-! ### parts of lists -/
theorem iB_get {b : Bd.Bytes} {i : Nat} {x : V} (h : (iB b)[i]? = some x) : ∃ c, b[i]? = some c ∧ x = .int ((c.toNat : Nat) : Int) := by
  unfold iB at h
  rw [List.getElem?_map] at h
  cases e : b[i]? with
  | none => rw [e] at h; cases h
  | some c =>
    rw [e] at h
    exact ⟨c, rfl, (Option.some.inj h).symm⟩
theorem iB_len (b : Bd.Bytes) : (iB b).length = b.length := List.length_map _
theorem iB_snoc (b : Bd.Bytes) (c : UInt8) : iB (b ++ [c]) = iB b ++ [.int ((c.toNat : Nat) : Int)] := by
  unfold iB
  rw [List.map_append]
  rfl
theorem toNat_inj {c d : UInt8} : V.int ((c.toNat : Nat) : Int) = V.int ((d.toNat : Nat) : Int) ↔ c = d := by
  constructor
  · intro h
    have h1 : ((c.toNat : Nat) : Int) = ((d.toNat : Nat) : Int) := V.int.inj h
    exact UInt8.toNat_inj.mp (by omega)
  · intro h
    rw [h]
theorem fl_len (c : UInt8) (t : Bd.Bytes) : (fl c t).1.length ≤ t.length ∧ (fl c t).2.length ≤ t.length := by
  suffices h : ∀ (t : Bd.Bytes) (p : List Bd.Bytes × Bd.Bytes), (t.foldl (stp c) p).1.length ≤ p.1.length + t.length ∧ (t.foldl (stp c) p).2.length ≤ p.2.length + t.length by
    have z := h t ([], [])
    simpa [fl] using z
  intro t
  induction t with
  | nil => intro p; exact ⟨Nat.le_refl _, Nat.le_refl _⟩
  | cons x t ih =>
    intro p
    rw [List.foldl_cons]
    have z := ih (stp c p x)
    have e : (stp c p x).1.length ≤ p.1.length + 1 ∧ (stp c p x).2.length ≤ p.2.length + 1 := by
      unfold stp
      by_cases q : x = c
      · rw [if_pos q]
        simp
      · rw [if_neg q]
        simp
    simp only [List.length_cons]
    omega
theorem cut_tail {x : V} {l : List V} : cutV (x :: l) (some 1) none = l := by
  unfold cutV
  show ((x :: l).drop (min 1 (l.length + 1))).take (l.length + 1 - min 1 (l.length + 1)) = l
  rw [show min 1 (l.length + 1) = 1 by omega]
  show l.take (l.length + 1 - 1) = l
  rw [Nat.add_sub_cancel, List.take_length]
theorem cut_init {x : V} {l : List V} : cutV (l ++ [x]) none (some (-1)) = l := by
  unfold cutV
  show ((l ++ [x]).drop 0).take (((-1 : Int) + ((l ++ [x]).length : Int)).toNat - 0) = l
  rw [List.drop_zero, show ((-1 : Int) + ((l ++ [x]).length : Int)).toNat - 0 = l.length by simp; omega, List.take_left']
  rfl
/-- data of ints, compared -/
def dI (ns : List Int) : PyData := .list (ns.map PyData.int)
theorem dp_ints {K : PySem.W.Frag} {H : Hp} : ∀ ns : List Int, DpAll K H (ns.map V.int) (ns.map PyData.int)
  | [] => .nil
  | n :: r => .cons (.int n) (dp_ints r)
theorem dp_dI {K : PySem.W.Frag} {H : Hp} {p : Addr} {ns : List Int} (h : SqL K H p (ns.map V.int)) : Dp K H (.ref p) (dI ns) := .lst h (dp_ints ns)
theorem eqvAll_ints : ∀ ns ms : List Int, PyData.eqvAll (ns.map PyData.int) (ms.map PyData.int) = decide (ns = ms)
  | [], [] => rfl
  | [], _ :: _ => rfl
  | _ :: _, [] => rfl
  | n :: r, m :: q => by
    have ih := eqvAll_ints r q
    show (PyData.eqv (.int n) (.int m) && PyData.eqvAll (r.map PyData.int) (q.map PyData.int)) = _
    rw [ih, Bool.eq_iff_iff]
    simp [PyData.eqv]
theorem eqv_dI (ns ms : List Int) : PyData.eqv (dI ns) (dI ms) = decide (ns = ms) := eqvAll_ints ns ms
theorem canLay_ints : ∀ ns : List Int, PyData.canLayAll0 (ns.map PyData.int) = true
  | [] => by simp [PyData.canLayAll0]
  | n :: r => by simp [PyData.canLayAll0, PyData.canLay0, canLay_ints r]
theorem depth_ints : ∀ ns : List Int, PyData.depthAll (ns.map PyData.int) ≤ 1
  | [] => by simp [PyData.depthAll]
  | n :: r => by
    have ih := depth_ints r
    simp [PyData.depthAll, PyData.depth]
    omega
theorem shaped_dI (ns : List Int) : SeqAt.shaped (dI ns) = true := by
  have h1 := canLay_ints ns
  have h2 := depth_ints ns
  have e1 : PyData.canLay0 (.list (ns.map PyData.int)) = PyData.canLayAll0 (ns.map PyData.int) := by simp [PyData.canLay0]
  have e2 : PyData.depth (.list (ns.map PyData.int)) = PyData.depthAll (ns.map PyData.int) + 1 := by simp [PyData.depth]
  unfold SeqAt.shaped dI
  rw [e1, h1, e2, Bool.true_and]
  exact decide_eq_true (by omega)
def jB (b : Bd.Bytes) : List Int := b.map fun c => ((c.toNat : Nat) : Int)
theorem iB_jB (b : Bd.Bytes) : iB b = (jB b).map V.int := by
  unfold iB jB
  rw [List.map_map]
  rfl
theorem jB_inj {a b : Bd.Bytes} : jB a = jB b ↔ a = b := by
  constructor
  · intro h
    unfold jB at h
    refine List.map_inj_right (fun x y e => ?_) |>.mp h
    exact UInt8.toNat_inj.mp (by omega)
  · intro h
    rw [h]
theorem dp_iB {K : PySem.W.Frag} {H : Hp} {p : Addr} {b : Bd.Bytes} (h : SqL K H p (iB b)) : Dp K H (.ref p) (dI (jB b)) := dp_dI (by rw [← iB_jB]; exact h)
/-- bytes compared -/
theorem eqv_jB (a b : Bd.Bytes) : PyData.eqv (dI (jB a)) (dI (jB b)) = decide (a = b) := by
  rw [eqv_dI]
  exact decide_eq_decide.mpr jB_inj
/-! ### readings in short -/
/-- an expression that is worth v and changes nothing -/
def PureV (te : TE) (σ : L2.St) (H : Hp) (v : V) : Prop := ∀ R : VK, R v H → te σ H R
theorem rd_chain {σ : L2.St} {H : Hp} {ta tb tc : TE} {i j k : Int} {Q : VK} (ha : PureV ta σ H (.int i)) (hb : PureV tb σ H (.int j)) (hc : PureV tc σ H (.int k)) (h : Q (.bl (decide (i ≤ j) && decide (j ≤ k))) H) :
    tChain (rI0 fun i j => .bl (decide (i ≤ j))) (rI0 fun i j => .bl (decide (i ≤ j))) ta tb tc σ H Q := by
  refine ha _ (hb _ ⟨_, _, rfl, rfl, _, rfl, ?_⟩)
  by_cases q : i ≤ j
  · rw [decide_eq_true q] at h ⊢
    exact iteT (hc _ ⟨_, _, rfl, rfl, by simpa using h⟩)
  · rw [decide_eq_false q] at h ⊢
    exact iteF (by simpa using h)
theorem rd_chainT {σ : L2.St} {H : Hp} {ta tb tc : TE} {i j k : Int} {Q : Bool → Hp → Prop} (ha : PureV ta σ H (.int i)) (hb : PureV tb σ H (.int j)) (hc : PureV tc σ H (.int k)) (h : Q (decide (i ≤ j) && decide (j ≤ k)) H) :
    tTest (tChain (rI0 fun i j => .bl (decide (i ≤ j))) (rI0 fun i j => .bl (decide (i ≤ j))) ta tb tc) σ H Q := rd_chain ha hb hc ⟨_, rfl, h⟩
/-- a test that is worth b and changes nothing -/
def PureT (tt : TT) (σ : L2.St) (H : Hp) (b : Bool) : Prop := ∀ R : Bool → Hp → Prop, R b H → tt σ H R
theorem rd_and {σ : L2.St} {H : Hp} {ta tb : TT} {x y : Bool} {Q : Bool → Hp → Prop} (ha : PureT ta σ H x) (hb : x = true → PureT tb σ H y) (h : Q (x && y) H) : tAnd ta tb σ H Q := by
  refine ha _ ?_
  cases x with
  | true => exact iteT (hb rfl _ h)
  | false => exact iteF h
theorem rd_or {σ : L2.St} {H : Hp} {ta tb : TT} {x y : Bool} {Q : Bool → Hp → Prop} (ha : PureT ta σ H x) (hb : x = false → PureT tb σ H y) (h : Q (x || y) H) : tOr ta tb σ H Q := by
  refine ha _ ?_
  cases x with
  | true => exact iteT h
  | false => exact iteF (hb rfl _ h)
theorem rd_andV {σ : L2.St} {H : Hp} {ta tb : TE} {x y : Bool} {Q : VK} (ha : PureV ta σ H (.bl x)) (hb : x = true → PureV tb σ H (.bl y)) (h : Q (.bl (x && y)) H) : tAndV ta tb σ H Q := by
  refine ha _ ⟨x, rfl, ?_⟩
  cases x with
  | true => exact iteT (hb rfl _ h)
  | false => exact iteF h
theorem rd_orV {σ : L2.St} {H : Hp} {ta tb : TE} {x y : Bool} {Q : VK} (ha : PureV ta σ H (.bl x)) (hb : x = false → PureV tb σ H (.bl y)) (h : Q (.bl (x || y)) H) : tOrV ta tb σ H Q := by
  refine ha _ ⟨x, rfl, ?_⟩
  cases x with
  | true => exact iteT h
  | false => exact iteF (hb rfl _ h)
theorem split_len (c : UInt8) (t : Bd.Bytes) : (splitB c t).length ≤ t.length + 1 ∧ ∀ x ∈ splitB c t, x.length ≤ t.length := by
  suffices h : ∀ t : Bd.Bytes, (splitB c t).length ≤ t.length + 1 ∧ ∀ x ∈ splitB c t, x.length ≤ t.length by exact h t
  intro t
  induction t with
  | nil => exact ⟨Nat.le_refl _, fun x hx => by rw [List.mem_singleton.mp hx]; exact Nat.le_refl _⟩
  | cons d r ih =>
    obtain ⟨y, l, e⟩ := splitB_cons c r
    rw [e] at ih
    unfold splitB
    rw [e]
    by_cases h : d = c
    · rw [if_pos h]
      refine ⟨by simpa using ih.1, fun x hx => ?_⟩
      rcases List.mem_cons.mp hx with z | z
      · rw [z]
        exact Nat.zero_le _
      · have := ih.2 x z
        rw [List.length_cons]
        omega
    · rw [if_neg h]
      refine ⟨by have := ih.1; simp at this ⊢; omega, fun x hx => ?_⟩
      rcases List.mem_cons.mp hx with z | z
      · rw [z]
        have := ih.2 y (by simp)
        simp
        omega
      · have := ih.2 x (by simp [z])
        rw [List.length_cons]
        omega
theorem fields_len {wd line : Bd.Bytes} {r : List Bd.Bytes} (h : fieldsB wd line = some r) : r.length ≤ line.length ∧ ∀ x ∈ r, x.length ≤ line.length := by
  have z := split_len 32 line
  unfold fieldsB at h
  obtain ⟨y, l, e⟩ := splitB_cons 32 line
  rw [e] at h z
  dsimp only at h
  by_cases q : y = wd
  · rw [if_pos q] at h
    have h' := Option.some.inj h
    subst h'
    refine ⟨by have := z.1; simp at this; omega, fun x hx => z.2 x (by simp [hx])⟩
  · rw [if_neg q] at h
    cases h
section
variable {P : Program} {w : World} {K : PySem.W.Frag} {mg : Str → Option Value} {base : Heap} {a : Ad}
theorem ok_split_at (T : Txt K mg a) : FnOk P w K mg base (CXo P w) true 1 a.f_split_at a.d_split_at ["row", "sign"] (spSplit K) := by
  refine fun_ok T.F_split_at sc_split_at (fun vs H Q E h => ?_) (fun cdv A outer s0 H vs Q E hr h => ?_)
  · obtain ⟨l, b, c, rfl, _⟩ := h
    rfl
  · obtain ⟨l, b, c, rfl, hS, hl, k⟩ := h
    have zl := szl
    refine ⟨_, (pss_cons (ps_set (i := 2) sc_split_at.nd rfl (by first | exact Or.inl rfl | exact Or.inr rfl) (pe_lst (pa_cons (pe_lst pa_nil) pa_nil)))
      (pss_cons (ps_for takes_cx.po rfl (pi_list (pv 0)) (pg_name (i := 3) sc_split_at.nd rfl (by first | exact Or.inl rfl | exact Or.inr rfl)) (pss_one (ps_if (pt_cmpR op_eq (pv 3) (pv 1) (nomark _)) (pss_one (ps_expr (pe_bm PySem.F.plainAttrs_list PySem.F.slot_list_append PySem.F.type_list_append mt_append (pv 2) (pa_cons (pe_lst pa_nil) pa_nil)))) (pss_one (ps_expr (pe_bm PySem.F.plainAttrs_list PySem.F.slot_list_append PySem.F.type_list_append mt_append (pe_ix ix_list (pv 2) (pe_un un_neg pe_int) (fun _ _ => rfl)) (pa_cons (pv 3) pa_nil)))))))
      (pss_one (ps_ret (pv 2))))), ?_⟩
    refine ⟨Nat.zero_le _, fun z nz => ⟨(by show 1 ≤ sizeLine; decide), fun p np => ?_⟩⟩
    have zp : z ≠ p := ne_of_none (upd_same (H := H) (a := z) (o := .lst [])) np
    have np' : H p = Option.none := by
      rw [upd_ne (Ne.symm zp)] at np
      exact np
    have s0' : Same H (upd (upd H z (.lst [])) p (.lst [.ref z])) := ((Same.refl _).new nz).new np
    refine ⟨_, rfl, l, rfl, ⟨_, s0'.seq hS⟩, for_list (K := K) (a := l) (xs := iB b) (fun i σ H' => ∃ (v : Option V) (as : List Addr) (z : Addr), σ = [some (.ref l), some (.int ((c.toNat : Nat) : Int)), some (.ref p), v] ∧ Same H H' ∧
        H' p = some (.lst ((as ++ [z]).map V.ref)) ∧ Rows H' as (fl c (b.take i)).1 ∧ H' z = some (.lst (iB (fl c (b.take i)).2)) ∧ z ∉ as ∧ p ≠ z ∧ p ∉ as ∧ (∀ x ∈ as ++ [z], H x = none))
      ⟨none, [], z, rfl, s0', upd_same, .nil, by rw [upd_ne zp]; exact upd_same, by simp, Ne.symm zp, by simp, by simpa using nz⟩ (fun i σ H' _ ⟨_, _, _, _, s5, _⟩ => s5.seq hS) ?_ ?_⟩
    · rintro i y σ H' hi ⟨v, as, z, rfl, s5, hp, hrow, hz, nza, npz, npa, fr⟩
      obtain ⟨d, hd, rfl⟩ := iB_get hi
      have lt : i < b.length := (List.getElem?_eq_some_iff.mp hd).1
      have len1 := fl_len c (b.take i)
      have lr := Paired.length hrow
      rw [List.length_take] at len1
      have et : fl c (b.take (i + 1)) = stp c (fl c (b.take i)) d := by rw [take_snoc hd, fl_snoc]
      refine ⟨_, rfl, _, rfl, rfl, _, rfl, ite2 (fun q => ?_) (fun q => ?_)⟩
      · -- a new part
        have q' : d = c := toNat_inj.mp (of_decide_eq_true q)
        have et2 : fl c (b.take (i + 1)) = ((fl c (b.take i)).1 ++ [(fl c (b.take i)).2], []) := by rw [et]; exact if_pos q'
        refine ⟨_, rfl, .inl ⟨rfl, _, SqL.of hp⟩, Nat.zero_le _, fun z' nz' => ?_⟩
        have hp' : upd H' z' (.lst []) p = some (.lst ((as ++ [z]).map V.ref)) := by
          rw [upd_ne (ne_of_none hp nz')]
          exact hp
        refine ⟨p, _, _, rfl, rfl, hp', (by simp; omega), ?_⟩
        have z'p : z' ≠ p := Ne.symm (ne_of_none hp nz')
        have z'z : z ≠ z' := ne_of_none hz nz'
        have nH : H z' = Option.none := s5.free nz'
        have z'as : z' ∉ as := fun m => by
          have ⟨i2, hi2, e2⟩ := List.getElem_of_mem m
          have hb : (fl c (b.take i)).1[i2]? = some ((fl c (b.take i)).1[i2]'(by omega)) := List.getElem?_eq_getElem _
          obtain ⟨a2, ha2, h2⟩ := Rows.get hrow hb
          have e3 : a2 = z' := by
            rw [List.getElem?_eq_getElem hi2, e2] at ha2
            exact (Option.some.inj ha2).symm
          rw [e3, nz'] at h2
          cases h2
        refine ⟨_, as ++ [z], z', rfl, (s5.new nz').set np', ?_, ?_, ?_, ?_, Ne.symm z'p, ?_, ?_⟩
        · rw [upd_same, List.map_append (f := V.ref) (l₁ := as ++ [z])]
          rfl
        · rw [et2]
          have r1 : Rows (upd (upd H' z' (.lst [])) p (.lst ((as ++ [z]).map V.ref ++ [.ref z']))) as (fl c (b.take i)).1 := Rows.upd (Rows.upd hrow z'as) npa
          refine Paired.snoc r1 ?_
          rw [upd_ne (Ne.symm npz), upd_ne z'z]
          exact hz
        · rw [et2, upd_ne z'p]
          exact upd_same
        · simp only [List.mem_append, List.mem_singleton, not_or]
          exact ⟨z'as, Ne.symm z'z⟩
        · simp only [List.mem_append, List.mem_singleton, not_or]
          exact ⟨npa, npz⟩
        · intro x hx
          rcases List.mem_append.mp hx with m | m
          · exact fr x m
          · rw [List.mem_singleton.mp m]
            exact nH
      · -- one more byte
        have q' : ¬ d = c := fun e => q (decide_eq_true (toNat_inj.mpr e))
        have et2 : fl c (b.take (i + 1)) = ((fl c (b.take i)).1, (fl c (b.take i)).2 ++ [d]) := by rw [et]; exact if_neg q'
        refine ⟨_, rfl, _, rfl, p, _, _, .ref z, rfl, rfl, SqL.of hp, (by rw [List.map_append]; exact atI_last _ _), .inl ⟨rfl, _, SqL.of hz⟩, _, rfl, z, _, _, rfl, rfl, hz, (by rw [iB_len]; omega), ?_⟩
        refine ⟨_, as, z, rfl, s5.set (fr z (by simp)), ?_, ?_, ?_, nza, npz, npa, fr⟩
        · rw [upd_ne npz]
          exact hp
        · rw [et2]
          exact Rows.upd hrow nza
        · rw [et2, upd_same]
          show some (HO.lst (iB (fl c (b.take i)).2 ++ [.int ((d.toNat : Nat) : Int)])) = some (HO.lst (iB ((fl c (b.take i)).2 ++ [d])))
          rw [iB_snoc]
    · rintro σ H' ⟨v, as, z, rfl, s5, hp, hrow, hz, nza, npz, npa, fr⟩
      rw [iB_len, List.take_length] at hrow hz
      refine ⟨_, rfl, ?_⟩
      refine k H' p (as ++ [z]) s5 np' fr hp ?_
      rw [← parts_fl]
      exact Paired.snoc hrow hz
/-- the fields behind a line's first word -/
def spFields (K : PySem.W.Frag) (C : Addr) : Sp := fun vs H Q E => ∃ (z : Str) (l : Addr) (wd line : Bd.Bytes), vs = [.str z, .ref l] ∧ z.cps.toList = wd.map (·.toNat) ∧ wd.length < 1000 ∧ SqL K H l (iB line) ∧ line.length ≤ 10000 ∧
  match fieldsB wd line with
  | none => Fails C E H 1
  | some r => ∀ (H' : Hp) (p : Addr) (as : List Addr), Same H H' → H p = none → (∀ x ∈ as, H x = none) → H' p = some (.lst (as.map V.ref)) → Rows H' as r → Q (.ref p) H'
theorem ok_fields_behind (T : Txt K mg a) : FnOk P w K mg base (CXo P w) true 3 a.f_fields_behind a.d_fields_behind ["word", "line"] (spFields K a.c_LineFault) := by
  have G_split_at : FnOk P w K mg base (CXo P w) true 1 a.f_split_at a.d_split_at ["row", "sign"] (spSplit K) := ok_split_at T
  have G_bytes_of : FnOk P w K mg base (CXo P w) true 1 a.f_bytes_of a.d_bytes_of ["word"] spBytesOf := ok_bytes_of T
  have G_LineFault___init__ : FnOk P w K mg base (CXo P w) true 1 a.f_LineFault___init__ a.d_LineFault___init__ ["self", "kind"] (spErr1 a.c_LineFault "kind") := ok_LineFault___init__ T
  refine fun_ok T.F_fields_behind sc_fields_behind (fun vs H Q E h => ?_) (fun cdv A outer s0 H vs Q E hr h => ?_)
  · obtain ⟨z, l, wd, line, rfl, _⟩ := h
    rfl
  · obtain ⟨z, l, wd, line, rfl, hw, hwl, hS, hl, k⟩ := h
    refine ⟨_, (pss_cons (ps_set (i := 2) sc_fields_behind.nd rfl (by first | exact Or.inl rfl | exact Or.inr rfl) (pe_call G_split_at (hr.mono (by decide)) rfl T.m_split_at T.F_split_at.kp T.b_split_at .nil takes_cx.passes (pa_cons (pv 1) (pa_cons (pe_glob (v := .int 32) rfl T.c_BLANK ⟨_, rfl⟩) pa_nil))))
      (pss_cons (ps_if (pt_cmpR (op_neD hr.units) (pe_ix ix_list (pv 2) pe_int (fun _ _ => rfl)) (pe_call G_bytes_of (hr.mono (by decide)) rfl T.m_bytes_of T.F_bytes_of.kp T.b_bytes_of .nil takes_cx.passes (pa_cons (pv 0) pa_nil)) (nomark _)) (pss_one (ps_raise takes_cx rfl (pe_makeX T.X_LineFault G_LineFault___init__ (hr.mono (by decide)) rfl T.m_LineFault T.b_LineFault___init__ takes_cx (pa_cons (pe_glob (v := .int 1) rfl T.c_OTHER_LINE ⟨_, rfl⟩) pa_nil)))) pss_nil)
      (pss_one (ps_ret (pe_slice sl_list (pv 2) (po_some pe_int) po_none))))), ?_⟩
    refine ⟨_, rfl, l, line, 32, rfl, hS, hl, fun H1 p as s1 np fr hp rows => ?_⟩
    obtain ⟨x, r, ex⟩ := splitB_cons 32 line
    rw [ex] at rows
    unfold fieldsB at k
    rw [ex] at k
    dsimp only at k
    cases rows with
    | cons hx rr =>
      rename_i x0 as'
      refine ⟨_, rfl, p, _, _, _, rfl, rfl, SqL.of hp, atI_nat (j := 0) rfl, _, rfl, z, rfl, (by rw [hw, List.length_map]; exact hwl), fun H2 p2 s2 n2 e2 => ?_⟩
      have ez : (z.cps.toList.map fun n => V.int ((n : Nat) : Int)) = iB wd := by
        rw [hw, List.map_map]
        rfl
      rw [ez] at e2
      refine ⟨_, _, dp_iB (SqL.of (s2 _ _ hx)), dp_iB (SqL.of e2), shaped_dI _, shaped_dI _, _, rfl, ?_⟩
      rw [eqv_jB]
      by_cases q : x = wd
      · rw [if_pos q] at k
        rw [decide_eq_true q]
        refine iteF ?_
        refine ⟨_, rfl, 1, rfl, p, _, rfl, SqL.of (s2 _ _ hp), fun p3 n3 => ?_⟩
        have s3 := ((s1.trans s2).new (o := .lst (cutV (V.ref x0 :: as'.map V.ref) (some 1) none)) n3)
        refine k _ p3 as' s3 ((s1.trans s2).free n3) (fun y hy => fr y (by simp [hy])) ?_ ?_
        · rw [upd_same, List.map_cons, cut_tail]
        · exact Rows.same (fun b o e => by rw [upd_ne (ne_of_none (s2 _ _ e) n3)]; exact s2 _ _ e) rr
      · rw [if_neg q] at k
        rw [decide_eq_false q]
        refine iteT ?_
        exact raise_line T (k.same (s1.trans s2))
/-- the one field behind a line's first word -/
def spField (K : PySem.W.Frag) (C : Addr) : Sp := fun vs H Q E => ∃ (z : Str) (l : Addr) (wd line : Bd.Bytes), vs = [.str z, .ref l] ∧ z.cps.toList = wd.map (·.toNat) ∧ wd.length < 1000 ∧ SqL K H l (iB line) ∧ line.length ≤ 10000 ∧
  match oneB wd line with
  | none => Fails C E H 1
  | some x => ∀ (H' : Hp) (p : Addr), Same H H' → H p = none → H' p = some (.lst (iB x)) → x.length ≤ 10000 → Q (.ref p) H'
theorem ok_field_behind (T : Txt K mg a) : FnOk P w K mg base (CXo P w) true 4 a.f_field_behind a.d_field_behind ["word", "line"] (spField K a.c_LineFault) := by
  have G_fields_behind : FnOk P w K mg base (CXo P w) true 3 a.f_fields_behind a.d_fields_behind ["word", "line"] (spFields K a.c_LineFault) := ok_fields_behind T
  have G_LineFault___init__ : FnOk P w K mg base (CXo P w) true 1 a.f_LineFault___init__ a.d_LineFault___init__ ["self", "kind"] (spErr1 a.c_LineFault "kind") := ok_LineFault___init__ T
  refine fun_ok T.F_field_behind sc_field_behind (fun vs H Q E h => ?_) (fun cdv A outer s0 H vs Q E hr h => ?_)
  · obtain ⟨z, l, wd, line, rfl, _⟩ := h
    rfl
  · obtain ⟨z, l, wd, line, rfl, hw, hwl, hS, hl, k⟩ := h
    refine ⟨_, (pss_cons (ps_set (i := 2) sc_field_behind.nd rfl (by first | exact Or.inl rfl | exact Or.inr rfl) (pe_call G_fields_behind (hr.mono (by decide)) rfl T.m_fields_behind T.F_fields_behind.kp T.b_fields_behind .nil takes_cx.passes (pa_cons (pv 0) (pa_cons (pv 1) pa_nil))))
      (pss_cons (ps_if (pt_cmpR op_ne (pe_callB call_len_seq rfl T.z_len bt_len (pa_cons (pv 2) pa_nil)) pe_int (nomark _)) (pss_one (ps_raise takes_cx rfl (pe_makeX T.X_LineFault G_LineFault___init__ (hr.mono (by decide)) rfl T.m_LineFault T.b_LineFault___init__ takes_cx (pa_cons (pe_glob (v := .int 1) rfl T.c_OTHER_LINE ⟨_, rfl⟩) pa_nil)))) pss_nil)
      (pss_one (ps_ret (pe_ix ix_list (pv 2) pe_int (fun _ _ => rfl)))))), ?_⟩
    refine ⟨_, rfl, _, rfl, z, l, wd, line, rfl, hw, hwl, hS, hl, ?_⟩
    unfold oneB at k
    cases hf : fieldsB wd line with
    | none =>
      rw [hf] at k
      exact k
    | some r =>
      rw [hf] at k
      have fln := fields_len hf
      intro H1 p fs s1 np fr hp rows
      have fll : fs.length = r.length := Paired.length rows
      refine ⟨_, rfl, p, _, rfl, .inl (SqL.of hp), rfl, _, rfl, ?_⟩
      by_cases h1 : r.length = 1
      rotate_left
      · rw [show (!decide (V.int (((fs.map V.ref).length : Nat) : Int) = V.int 1)) = true by
          rw [decide_eq_false]
          · rfl
          · intro z
            have z' := V.int.inj z
            rw [List.length_map] at z'
            omega]
        refine iteT (raise_line T ?_)
        match r, h1, k with
        | [], _, k => exact k.same s1
        | [_], h1, _ => exact absurd rfl h1
        | _ :: _ :: _, _, k => exact k.same s1
      rw [show (!decide (V.int (((fs.map V.ref).length : Nat) : Int) = V.int 1)) = false by
        rw [decide_eq_true]
        · rfl
        · rw [List.length_map, fll, h1]
          rfl]
      refine iteF ?_
      obtain ⟨x, rfl⟩ : ∃ x, r = [x] := by
        match r, h1 with
        | [x], _ => exact ⟨x, rfl⟩
      have hxl := fln.2 x (by simp)
      cases rows with
      | cons hx rr =>
        cases rr
        rename_i f
        exact ⟨_, rfl, p, _, _, _, rfl, rfl, SqL.of hp, atI_nat (j := 0) rfl, k H1 f s1 (fr f (by simp)) hx (by omega)⟩
end
end Wb
end
section
set_option Elab.async false
set_option linter.all false
set_option maxRecDepth 100000
set_option maxHeartbeats 4000000
namespace Wb
open PySem PySem.Spec PyProof.Rows L2 Wm
open PySem.W (Codec)
/-! ### fields read -/
/-- a number, or an error of kind 1 -/
def spNumber (K : PySem.W.Frag) (C : Addr) : Sp := fun vs H Q E => ∃ (l : Addr) (x : Bd.Bytes), vs = [.ref l] ∧ SqL K H l (iB x) ∧ x.length ≤ 10000 ∧
  match Bd.readNumber x with
  | none => Fails C E H 1
  | some n => ∀ H' : Hp, Same H H' → Q (.int ((n : Nat) : Int)) H'
def spName (K : PySem.W.Frag) (C : Addr) : Sp := fun vs H Q E => ∃ (l : Addr) (x : Bd.Bytes), vs = [.ref l] ∧ SqL K H l (iB x) ∧ x.length ≤ 10000 ∧
  match nameB x with
  | .error k => Fails C E H k
  | .ok _ => ∀ H' : Hp, Same H H' → Q (.ref l) H'
def spRange (K : PySem.W.Frag) (C : Addr) : Sp := fun vs H Q E => ∃ (l : Addr) (x : Bd.Bytes) (least most : Nat), vs = [.ref l, .int ((least : Nat) : Int), .int ((most : Nat) : Int)] ∧ SqL K H l (iB x) ∧ x.length ≤ 10000 ∧
  match rangeB x least most with
  | .error k => Fails C E H k
  | .ok n => ∀ H' : Hp, Same H H' → Q (.int ((n : Nat) : Int)) H'
def spEnd (K : PySem.W.Frag) (C : Addr) : Sp := fun vs H Q E => ∃ (l : Addr) (x : Bd.Bytes), vs = [.ref l] ∧ SqL K H l (iB x) ∧ x.length ≤ 10000 ∧
  match endB x with
  | none => Fails C E H 1
  | some n => ∀ H' : Hp, Same H H' → Q (.int ((n : Nat) : Int)) H'
/-- in bounds, by value -/
def inB (lo hi : Int) : V → V
  | .int n => .bl (decide (lo ≤ n) && decide (n ≤ hi))
  | _ => .bl false
theorem map_inB (lo hi : Int) (x : Bd.Bytes) : (iB x).map (inB lo hi) = (x.map fun c => decide (lo ≤ ((c.toNat : Nat) : Int)) && decide (((c.toNat : Nat) : Int) ≤ hi)).map V.bl := by
  unfold iB
  rw [List.map_map, List.map_map]
  rfl
theorem all_digit (x : Bd.Bytes) : ((x.map fun c => decide ((48 : Int) ≤ ((c.toNat : Nat) : Int)) && decide (((c.toNat : Nat) : Int) ≤ 57)).all id) = x.all Bd.isDigit := by
  rw [List.all_map]
  refine congrArg (fun f => x.all f) (funext fun c => ?_)
  unfold Bd.isDigit
  show (decide ((48 : Int) ≤ ((c.toNat : Nat) : Int)) && decide (((c.toNat : Nat) : Int) ≤ 57)) = _
  rw [Bool.eq_iff_iff]
  simp only [Bool.and_eq_true, decide_eq_true_eq]
  omega
theorem all_small (x : Bd.Bytes) : ((x.map fun c => decide ((97 : Int) ≤ ((c.toNat : Nat) : Int)) && decide (((c.toNat : Nat) : Int) ≤ 122)).all id) = x.all Bd.isSmall := by
  rw [List.all_map]
  refine congrArg (fun f => x.all f) (funext fun c => ?_)
  unfold Bd.isSmall
  show (decide ((97 : Int) ≤ ((c.toNat : Nat) : Int)) && decide (((c.toNat : Nat) : Int) ≤ 122)) = _
  rw [Bool.eq_iff_iff]
  simp only [Bool.and_eq_true, decide_eq_true_eq]
  omega
theorem iB_ints {x : Bd.Bytes} {v : V} (h : v ∈ iB x) : ∃ n : Int, v = .int n := by
  unfold iB at h
  obtain ⟨c, _, rfl⟩ := List.mem_map.mp h
  exact ⟨_, rfl⟩
section
variable {P : Program} {w : World} {K : PySem.W.Frag} {mg : Str → Option Value} {base : Heap} {a : Ad}
theorem ok_number_in (T : Txt K mg a) : FnOk P w K mg base (CXo P w) true 3 a.f_number_in a.d_number_in ["field"] (spNumber K a.c_LineFault) := by
  have G_LineFault___init__ : FnOk P w K mg base (CXo P w) true 1 a.f_LineFault___init__ a.d_LineFault___init__ ["self", "kind"] (spErr1 a.c_LineFault "kind") := ok_LineFault___init__ T
  refine fun_ok T.F_number_in sc_number_in (fun vs H Q E h => ?_) (fun cdv A outer s0 H vs Q E hr h => ?_)
  · obtain ⟨l, x, rfl, _⟩ := h
    rfl
  · obtain ⟨l, x, rfl, hS, hl, k⟩ := h
    rw [readNumber_eq] at k
    have bad : okNum x = false → Fails a.c_LineFault E H 1 := fun z => by
      rw [if_neg (by rw [z]; decide)] at k
      exact k
    refine ⟨_, (pss_cons (ps_if (pt_not (pt_chain op_le op_le pe_int (pe_callB call_len_seq rfl T.z_len bt_len (pa_cons (pv 0) pa_nil)) (pe_glob (v := .int 5) rfl T.c_MOST_DIGITS ⟨_, rfl⟩))) (pss_one (ps_raise takes_cx rfl (pe_makeX T.X_LineFault G_LineFault___init__ (hr.mono (by decide)) rfl T.m_LineFault T.b_LineFault___init__ takes_cx (pa_cons (pe_glob (v := .int 1) rfl T.c_OTHER_LINE ⟨_, rfl⟩) pa_nil)))) pss_nil)
      (pss_cons (ps_if (pt_not (pt_val (pe_callB (cr_all rfl) rfl T.z_all bt_all (pa_cons (pe_lc (own := [("byte", 1)]) rfl sc_number_in.nd (pi_list (pv 0)) (by show BlkOk ["field", "byte", "number"] (defScope s_number_in) _ [("byte", 1)]; exact ⟨rfl, by decide +kernel, by decide +kernel, by decide +kernel, by decide +kernel⟩) (fun s H C cl fp => (pg_name (i := 1) sc_number_in.nd rfl (by first | exact Or.inl rfl | exact Or.inr rfl))) (fun s H C cl fp => pts_nil) (fun s H C cl fp => (pe_chain op_le op_le (pe_glob (v := .int 48) rfl T.c_NOUGHT ⟨_, rfl⟩) (pv 1) (pe_glob (v := .int 57) rfl T.c_NINE ⟨_, rfl⟩)))) pa_nil)))) (pss_one (ps_raise takes_cx rfl (pe_makeX T.X_LineFault G_LineFault___init__ (hr.mono (by decide)) rfl T.m_LineFault T.b_LineFault___init__ takes_cx (pa_cons (pe_glob (v := .int 1) rfl T.c_OTHER_LINE ⟨_, rfl⟩) pa_nil)))) pss_nil)
      (pss_cons (ps_if (PW.pt (pw_and (pt_cmpR op_eq (pe_ix ix_list (pv 0) pe_int (fun _ _ => rfl)) (pe_glob (v := .int 48) rfl T.c_NOUGHT ⟨_, rfl⟩) (nomark _)) (pw_and1 (pt_cmpR op_gt (pe_callB call_len_seq rfl T.z_len bt_len (pa_cons (pv 0) pa_nil)) pe_int (nomark _))))) (pss_one (ps_raise takes_cx rfl (pe_makeX T.X_LineFault G_LineFault___init__ (hr.mono (by decide)) rfl T.m_LineFault T.b_LineFault___init__ takes_cx (pa_cons (pe_glob (v := .int 1) rfl T.c_OTHER_LINE ⟨_, rfl⟩) pa_nil)))) pss_nil)
      (pss_cons (ps_set (i := 2) sc_number_in.nd rfl (by first | exact Or.inl rfl | exact Or.inr rfl) pe_int)
      (pss_cons (ps_for takes_cx.po rfl (pi_list (pv 0)) (pg_name (i := 1) sc_number_in.nd rfl (by first | exact Or.inl rfl | exact Or.inr rfl)) (pss_one (ps_set (i := 2) sc_number_in.nd rfl (by first | exact Or.inl rfl | exact Or.inr rfl) (pe_op op_sub (pe_op op_add (pe_op op_mul (pv 2) pe_int) (pv 1)) (pe_glob (v := .int 48) rfl T.c_NOUGHT ⟨_, rfl⟩)))))
      (pss_one (ps_ret (pv 2)))))))), ?_⟩
    -- its length
    refine rd_chainT (i := 1) (j := (x.length : Nat)) (k := 5) (fun R r => r) (fun R r => ⟨_, rfl, l, _, rfl, .inl hS, by rw [iB_len]; exact r⟩) (fun R r => r) ?_
    by_cases h1 : 1 ≤ x.length ∧ x.length ≤ 5
    rotate_left
    · rw [show (decide ((1 : Int) ≤ ((x.length : Nat) : Int)) && decide (((x.length : Nat) : Int) ≤ 5)) = false by
        rw [Bool.eq_false_iff]
        intro z
        simp only [Bool.and_eq_true, decide_eq_true_eq] at z
        omega]
      refine iteT (raise_line T (bad ?_))
      rw [Bool.eq_false_iff]
      intro z
      unfold okNum at z
      simp only [Bool.and_eq_true, decide_eq_true_eq] at z
      omega
    rw [show (decide ((1 : Int) ≤ ((x.length : Nat) : Int)) && decide (((x.length : Nat) : Int) ≤ 5)) = true by
      simp only [Bool.and_eq_true, decide_eq_true_eq]
      omega]
    refine iteF ?_
    -- its digits
    refine ⟨_, rfl, l, rfl, ⟨_, hS⟩, fun Dl hD => lc_map (inB 48 57) hS (by rw [iB_len]; omega) hD (fun v hv H' R q => ?_) (fun x H' R R' m q => m _ _ q) ?_⟩
    · obtain ⟨n, rfl⟩ := iB_ints hv
      exact ⟨rfl, rfl, rd_chain (fun R r => r) (fun R r => ⟨_, rfl, r⟩) (fun R r => r) q⟩
    rw [map_inB]
    refine ⟨Dl, _, rfl, SqL.of upd_same, _, rfl, ?_⟩
    rw [all_digit]
    have s1 : Same H (upd H Dl (.lst ((x.map fun c => decide ((48 : Int) ≤ ((c.toNat : Nat) : Int)) && decide (((c.toNat : Nat) : Int) ≤ 57)).map V.bl))) := (Same.refl _).new hD
    cases h2 : x.all Bd.isDigit with
    | false =>
      refine iteT (raise_line T ((bad ?_).same s1))
      unfold okNum
      rw [h2]
      simp
    | true =>
      refine iteF ?_
      have hS1 := s1.seq hS
      generalize upd H Dl (.lst ((x.map fun c => decide ((48 : Int) ≤ ((c.toNat : Nat) : Int)) && decide (((c.toNat : Nat) : Int) ≤ 57)).map V.bl)) = H1 at s1 hS1
      -- no nought in front
      obtain ⟨c0, xr, rfl⟩ : ∃ c0 xr, x = c0 :: xr := by
        cases x with
        | nil => simp at h1
        | cons c0 xr => exact ⟨c0, xr, rfl⟩
      dsimp only [tNext, tSeq, tIfS]
      refine rd_and (x := decide (V.int ((c0.toNat : Nat) : Int) = V.int 48)) (y := decide ((1 : Int) < (((c0 :: xr).length : Nat) : Int))) (fun R r => ⟨_, rfl, l, _, _, _, rfl, rfl, hS1, atI_nat (j := 0) rfl, rfl, _, rfl, r⟩)
        (fun _ R r => ⟨_, rfl, l, _, rfl, .inl hS1, _, _, rfl, rfl, _, rfl, by rw [iB_len]; exact r⟩) ?_
      have nn : (decide (V.int ((c0.toNat : Nat) : Int) = V.int 48) && decide ((1 : Int) < (((c0 :: xr).length : Nat) : Int))) = nought (c0 :: xr) := by
        unfold nought
        rw [Bool.eq_iff_iff]
        simp only [List.headD_cons, Bool.and_eq_true, beq_iff_eq, decide_eq_true_eq]
        have z : V.int ((c0.toNat : Nat) : Int) = V.int 48 ↔ c0 = 48 := toNat_inj (c := c0) (d := 48)
        rw [z]
        refine and_congr Iff.rfl ?_
        omega
      rw [nn]
      cases hn : nought (c0 :: xr) with
      | true => exact iteT (raise_line T ((bad (by unfold okNum; rw [hn]; simp)).same s1))
      | false =>
        refine iteF ?_
        rw [if_pos (by
          unfold okNum
          rw [h2, hn]
          simp only [Bool.and_eq_true, decide_eq_true_eq, Bool.not_false, Bool.and_true]
          omega)] at k
        -- its value
        generalize hx : c0 :: xr = x at *
        refine ⟨_, rfl, l, rfl, ⟨_, hS1⟩, for_list (K := K) (a := l) (xs := iB x) (fun i σ H' => ∃ v : Option V, σ = [some (.ref l), v, some (.int ((Bd.valueOf (x.take i) : Nat) : Int))] ∧ H' = H1)
          ⟨none, rfl, rfl⟩ (fun i σ H' _ ⟨_, _, e⟩ => by rw [e]; exact hS1) ?_ ?_⟩
        · rintro i y σ H' hi ⟨v, rfl, rfl⟩
          obtain ⟨d, hd, rfl⟩ := iB_get hi
          have dd : Bd.isDigit d = true := (List.all_eq_true.mp h2) d (List.mem_of_getElem? hd)
          unfold Bd.isDigit at dd
          simp only [Bool.and_eq_true, decide_eq_true_eq] at dd
          have vl : Bd.valueOf (x.take i) < 100000 := valueOf_lt _ (by rw [List.length_take]; omega) (List.all_eq_true.mpr fun c hc => (List.all_eq_true.mp h2) c (List.mem_of_mem_take hc))
          refine ⟨_, rfl, _, _, rfl, rfl, .inl ⟨by omega, by omega⟩, _, rfl, _, _, rfl, rfl, _, _, rfl, rfl, ?_⟩
          refine ⟨some (V.int ((d.toNat : Nat) : Int)), ?_, rfl⟩
          rw [take_snoc hd, valueOf_snoc]
          show [some (V.ref l), some (V.int ((d.toNat : Nat) : Int)), some (V.int (((Bd.valueOf (x.take i) : Nat) : Int) * 10 + ((d.toNat : Nat) : Int) - 48))] = _
          rw [show ((Bd.valueOf (x.take i) : Nat) : Int) * 10 + ((d.toNat : Nat) : Int) - 48 = ((10 * Bd.valueOf (x.take i) + (d.toNat - 48) : Nat) : Int) by omega]
        · rintro σ H' ⟨v, rfl, rfl⟩
          rw [iB_len, List.take_length]
          exact ⟨_, rfl, k _ s1⟩
theorem ok_name_in (T : Txt K mg a) : FnOk P w K mg base (CXo P w) true 3 a.f_name_in a.d_name_in ["field"] (spName K a.c_LineFault) := by
  have G_LineFault___init__ : FnOk P w K mg base (CXo P w) true 1 a.f_LineFault___init__ a.d_LineFault___init__ ["self", "kind"] (spErr1 a.c_LineFault "kind") := ok_LineFault___init__ T
  refine fun_ok T.F_name_in sc_name_in (fun vs H Q E h => ?_) (fun cdv A outer s0 H vs Q E hr h => ?_)
  · obtain ⟨l, x, rfl, _⟩ := h
    rfl
  · obtain ⟨l, x, rfl, hS, hl, k⟩ := h
    unfold nameB at k
    refine ⟨_, (pss_cons (ps_if (PW.pt (pw_or (pt_cmpR (op_eqD hr.units) (pv 0) (pe_lst pa_nil) (nomark _)) (pw_or1 (pt_not (pt_val (pe_callB (cr_all rfl) rfl T.z_all bt_all (pa_cons (pe_lc (own := [("byte", 1)]) rfl sc_name_in.nd (pi_list (pv 0)) (by show BlkOk ["field", "byte"] (defScope s_name_in) _ [("byte", 1)]; exact ⟨rfl, by decide +kernel, by decide +kernel, by decide +kernel, by decide +kernel⟩) (fun s H C cl fp => (pg_name (i := 1) sc_name_in.nd rfl (by first | exact Or.inl rfl | exact Or.inr rfl))) (fun s H C cl fp => pts_nil) (fun s H C cl fp => (pe_chain op_le op_le (pe_glob (v := .int 97) rfl T.c_FIRST_LETTER ⟨_, rfl⟩) (pv 1) (pe_glob (v := .int 122) rfl T.c_LAST_LETTER ⟨_, rfl⟩)))) pa_nil))))))) (pss_one (ps_raise takes_cx rfl (pe_makeX T.X_LineFault G_LineFault___init__ (hr.mono (by decide)) rfl T.m_LineFault T.b_LineFault___init__ takes_cx (pa_cons (pe_glob (v := .int 1) rfl T.c_OTHER_LINE ⟨_, rfl⟩) pa_nil)))) pss_nil)
      (pss_cons (ps_if (pt_cmpR op_gt (pe_callB call_len_seq rfl T.z_len bt_len (pa_cons (pv 0) pa_nil)) (pe_glob (v := .int 15) rfl T.c_MOST_NAME_LETTERS ⟨_, rfl⟩) (nomark _)) (pss_one (ps_raise takes_cx rfl (pe_makeX T.X_LineFault G_LineFault___init__ (hr.mono (by decide)) rfl T.m_LineFault T.b_LineFault___init__ takes_cx (pa_cons (pe_glob (v := .int 2) rfl T.c_OUT_OF_BOUNDS ⟨_, rfl⟩) pa_nil)))) pss_nil)
      (pss_one (ps_ret (pv 0))))), ?_⟩
    -- field == []
    refine ⟨_, rfl, Nat.zero_le _, fun p1 n1 => ?_⟩
    have s1 : Same H (upd H p1 (.lst [])) := (Same.refl _).new n1
    have hS1 := s1.seq hS
    have e1 : SqL K (upd H p1 (.lst [])) p1 (iB []) := SqL.of upd_same
    generalize upd H p1 (.lst []) = H1 at s1 hS1 e1
    refine ⟨_, _, dp_iB hS1, dp_iB e1, shaped_dI _, shaped_dI _, _, rfl, ?_⟩
    rw [eqv_jB]
    by_cases h0 : x = []
    · rw [decide_eq_true h0]
      rw [if_pos (.inl h0)] at k
      exact iteT (iteT (raise_line T (k.same s1)))
    · rw [decide_eq_false h0]
      refine iteF ?_
      refine ⟨_, rfl, l, rfl, ⟨_, hS1⟩, fun Dl hD => lc_map (inB 97 122) hS1 (by rw [iB_len]; omega) hD (fun v hv H' R q => ?_) (fun x H' R R' m q => m _ _ q) ?_⟩
      · obtain ⟨n, rfl⟩ := iB_ints hv
        exact ⟨rfl, rfl, rd_chain (fun R r => r) (fun R r => ⟨_, rfl, r⟩) (fun R r => r) q⟩
      rw [map_inB]
      refine ⟨Dl, _, rfl, SqL.of upd_same, _, rfl, ?_⟩
      rw [all_small]
      have s2 : Same H (upd H1 Dl (.lst ((x.map fun c => decide ((97 : Int) ≤ ((c.toNat : Nat) : Int)) && decide (((c.toNat : Nat) : Int) ≤ 122)).map V.bl))) := s1.new hD
      have hS2 := s2.seq hS
      generalize upd H1 Dl (.lst ((x.map fun c => decide ((97 : Int) ≤ ((c.toNat : Nat) : Int)) && decide (((c.toNat : Nat) : Int) ≤ 122)).map V.bl)) = H2 at s2 hS2
      cases h2 : x.all Bd.isSmall with
      | false =>
        rw [if_pos (.inr h2)] at k
        exact iteT (raise_line T (k.same s2))
      | true =>
        rw [if_neg (by rintro (z | z); exact h0 z; rw [h2] at z; cases z)] at k
        refine iteF ?_
        refine ⟨_, rfl, l, _, rfl, .inl hS2, _, _, rfl, rfl, _, rfl, ?_⟩
        rw [iB_len]
        by_cases h3 : 15 < x.length
        · rw [if_pos h3] at k
          rw [decide_eq_true (show (15 : Int) < ((x.length : Nat) : Int) by omega)]
          exact iteT (raise_line T (k.same s2))
        · rw [if_neg h3] at k
          rw [decide_eq_false (show ¬ (15 : Int) < ((x.length : Nat) : Int) by omega)]
          exact iteF ⟨_, rfl, k _ s2⟩
theorem ok_number_from_to (T : Txt K mg a) : FnOk P w K mg base (CXo P w) true 4 a.f_number_from_to a.d_number_from_to ["field", "least", "most"] (spRange K a.c_LineFault) := by
  have G_LineFault___init__ : FnOk P w K mg base (CXo P w) true 1 a.f_LineFault___init__ a.d_LineFault___init__ ["self", "kind"] (spErr1 a.c_LineFault "kind") := ok_LineFault___init__ T
  have G_number_in : FnOk P w K mg base (CXo P w) true 3 a.f_number_in a.d_number_in ["field"] (spNumber K a.c_LineFault) := ok_number_in T
  refine fun_ok T.F_number_from_to sc_number_from_to (fun vs H Q E h => ?_) (fun cdv A outer s0 H vs Q E hr h => ?_)
  · obtain ⟨l, x, m0, m, rfl, _⟩ := h
    rfl
  · obtain ⟨l, x, m0, m, rfl, hS, hl, k⟩ := h
    unfold rangeB at k
    refine ⟨_, (pss_cons (ps_set (i := 3) sc_number_from_to.nd rfl (by first | exact Or.inl rfl | exact Or.inr rfl) (pe_call G_number_in (hr.mono (by decide)) rfl T.m_number_in T.F_number_in.kp T.b_number_in .nil takes_cx.passes (pa_cons (pv 0) pa_nil)))
      (pss_cons (ps_if (pt_not (pt_chain op_le op_le (pv 1) (pv 3) (pv 2))) (pss_one (ps_raise takes_cx rfl (pe_makeX T.X_LineFault G_LineFault___init__ (hr.mono (by decide)) rfl T.m_LineFault T.b_LineFault___init__ takes_cx (pa_cons (pe_glob (v := .int 2) rfl T.c_OUT_OF_BOUNDS ⟨_, rfl⟩) pa_nil)))) pss_nil)
      (pss_one (ps_ret (pv 3))))), ?_⟩
    refine ⟨_, rfl, l, x, rfl, hS, hl, ?_⟩
    cases hn : Bd.readNumber x with
    | none =>
      rw [hn] at k
      exact k
    | some n =>
      rw [hn] at k
      dsimp only at k ⊢
      intro H1 s1
      refine rd_chainT (i := (m0 : Nat)) (j := (n : Nat)) (k := (m : Nat)) (fun R r => ⟨_, rfl, r⟩) (fun R r => ⟨_, rfl, r⟩) (fun R r => ⟨_, rfl, r⟩) ?_
      by_cases q : n < m0 ∨ m < n
      · rw [if_pos q] at k
        rw [show (decide (((m0 : Nat) : Int) ≤ ((n : Nat) : Int)) && decide (((n : Nat) : Int) ≤ ((m : Nat) : Int))) = false by
          rw [Bool.eq_false_iff]
          intro z
          simp only [Bool.and_eq_true, decide_eq_true_eq] at z
          omega]
        exact iteT (raise_line T (k.same s1))
      · rw [if_neg q] at k
        rw [show (decide (((m0 : Nat) : Int) ≤ ((n : Nat) : Int)) && decide (((n : Nat) : Int) ≤ ((m : Nat) : Int))) = true by
          simp only [Bool.and_eq_true, decide_eq_true_eq]
          omega]
        exact iteF ⟨_, rfl, k _ s1⟩
/-- the words of ends -/
def endWd (i : Nat) : Bd.Bytes := ([Bd.ascii "free", Bd.ascii "side", Bd.ascii "end"] : List Bd.Bytes).getD i []
theorem ok_end_in (T : Txt K mg a) : FnOk P w K mg base (CXo P w) true 3 a.f_end_in a.d_end_in ["field"] (spEnd K a.c_LineFault) := by
  have G_LineFault___init__ : FnOk P w K mg base (CXo P w) true 1 a.f_LineFault___init__ a.d_LineFault___init__ ["self", "kind"] (spErr1 a.c_LineFault "kind") := ok_LineFault___init__ T
  have G_bytes_of : FnOk P w K mg base (CXo P w) true 1 a.f_bytes_of a.d_bytes_of ["word"] spBytesOf := ok_bytes_of T
  refine fun_ok T.F_end_in sc_end_in (fun vs H Q E h => ?_) (fun cdv A outer s0 H vs Q E hr h => ?_)
  · obtain ⟨l, x, rfl, _⟩ := h
    rfl
  · obtain ⟨l, x, rfl, hS, hl, k⟩ := h
    refine ⟨_, (pss_cons (ps_for takes_cx.po rfl (pi_enumT rfl T.z_enumerate (pa_cons (pe_glob (v := .ref a.p_END_WORDS) rfl T.c_END_WORDS rfl) pa_nil)) (pg_tup rfl (pgs_cons (pg_name (i := 1) sc_end_in.nd rfl (by first | exact Or.inl rfl | exact Or.inr rfl)) (pgs_cons (pg_name (i := 2) sc_end_in.nd rfl (by first | exact Or.inl rfl | exact Or.inr rfl)) pgs_nil))) (pss_one (ps_if (pt_cmpR (op_eqD hr.units) (pv 0) (pe_call G_bytes_of (hr.mono (by decide)) rfl T.m_bytes_of T.F_bytes_of.kp T.b_bytes_of .nil takes_cx.passes (pa_cons (pv 2) pa_nil)) (nomark _)) (pss_one (ps_ret (pv 1))) pss_nil)))
      (pss_one (ps_raise takes_cx rfl (pe_makeX T.X_LineFault G_LineFault___init__ (hr.mono (by decide)) rfl T.m_LineFault T.b_LineFault___init__ takes_cx (pa_cons (pe_glob (v := .int 1) rfl T.c_OTHER_LINE ⟨_, rfl⟩) pa_nil))))), ?_⟩
    refine ⟨a.p_END_WORDS, _, rfl, T.q_END_WORDS _, for_enumT (K := K) (a := a.p_END_WORDS) (xs := [.str "free", .str "side", .str "end"])
      (fun i σ H' => ∃ u v : Option V, σ = [some (.ref l), u, v] ∧ Same H H' ∧ ∀ j < i, ¬ x = endWd j) ⟨none, none, rfl, (Same.refl _), fun j hj => absurd hj (by omega)⟩ (fun i σ H' _ _ => T.q_END_WORDS _) ?_ ?_⟩
    · rintro i y σ H' t hi ⟨u, v, rfl, s1, ne⟩ ht
      obtain ⟨z, rfl, hz, hi3⟩ : ∃ z : Str, y = .str z ∧ z.cps.toList = (endWd i).map (·.toNat) ∧ i < 3 := by
        match i, hi with
        | 0, hi => exact ⟨_, (Option.some.inj hi).symm, by decide, by decide⟩
        | 1, hi => exact ⟨_, (Option.some.inj hi).symm, by decide, by decide⟩
        | 2, hi => exact ⟨_, (Option.some.inj hi).symm, by decide, by decide⟩
        | i + 3, hi => simp at hi
      have wl : (endWd i).length < 1000 := by
        match i, hi3 with
        | 0, _ => decide
        | 1, _ => decide
        | 2, _ => decide
      have s2 := s1.new (o := .tup [.int (i : Nat), .str z]) ht
      refine ⟨t, _, rfl, .inl (.inl upd_same), rfl, _, _, rfl, _, _, rfl, rfl, ?_⟩
      refine ⟨_, rfl, _, rfl, z, rfl, (by rw [hz, List.length_map]; exact wl), fun H2 p2 s3 n2 e2 => ?_⟩
      have ez : (z.cps.toList.map fun n => V.int ((n : Nat) : Int)) = iB (endWd i) := by
        rw [hz, List.map_map]
        rfl
      rw [ez] at e2
      refine ⟨_, _, dp_iB ((s2.trans s3).seq hS), dp_iB (SqL.of e2), shaped_dI _, shaped_dI _, _, rfl, ?_⟩
      rw [eqv_jB]
      by_cases q : x = endWd i
      · rw [decide_eq_true q]
        refine iteT ⟨_, rfl, ?_⟩
        have ek : endB x = some i := by
          match i, hi3, q, ne with
          | 0, _, q, _ => rw [q]; rfl
          | 1, _, q, _ => rw [q]; rfl
          | 2, _, q, _ => rw [q]; rfl
        rw [ek] at k
        exact k _ (s2.trans s3)
      · rw [decide_eq_false q]
        refine iteF ⟨_, _, rfl, s2.trans s3, fun j hj => ?_⟩
        by_cases e : j = i
        · rw [e]
          exact q
        · exact ne j (by omega)
    · rintro σ H' ⟨u, v, rfl, s1, ne⟩
      have ek : endB x = none := by
        unfold endB
        have n0 : ¬ x = Bd.ascii "free" := ne 0 (by decide)
        have n1 : ¬ x = Bd.ascii "side" := ne 1 (by decide)
        have n2 : ¬ x = Bd.ascii "end" := ne 2 (by decide)
        rw [if_neg n0, if_neg n1, if_neg n2]
      rw [ek] at k
      dsimp only [tNext, tSeq]
      exact raise_line T (k.same s1)
end
end Wb
end
section
set_option Elab.async false
set_option linter.all false
set_option maxRecDepth 100000
set_option maxHeartbeats 4000000
namespace Wb
open PySem PySem.Spec PyProof.Rows L2 Wm
open PySem.W (Codec)
/-! ### openings -/
def opF (o : Bd.Opening) : List (Str × V) := [("x", .int ((o.x : Nat) : Int)), ("y", .int ((o.y : Nat) : Int)), ("wide", .int ((o.w : Nat) : Int)), ("high", .int ((o.h : Nat) : Int))]
/-- an opening stands at p -/
def OpAt (C : Addr) (H : Hp) (p : Addr) (o : Bd.Opening) : Prop := ∃ dx, H p = some (.ins C dx (opF o))
theorem OpAt.same {C : Addr} {H H' : Hp} {p : Addr} {o : Bd.Opening} (s : Same H H') (h : OpAt C H p o) : OpAt C H' p o := let ⟨dx, e⟩ := h; ⟨dx, s _ _ e⟩
abbrev Ops (C : Addr) (H : Hp) : List Addr → List Bd.Opening → Prop := Paired (OpAt C H)
theorem Ops.same {C : Addr} {H H' : Hp} {as : List Addr} {os : List Bd.Opening} (s : Same H H') (r : Ops C H as os) : Ops C H' as os := Paired.mapP r fun _ _ h => h.same s
theorem Paired.get {α β : Type} {F : α → β → Prop} : ∀ {as : List α} {bs : List β} {i : Nat} {x : α}, Paired F as bs → as[i]? = some x → ∃ b, bs[i]? = some b ∧ F x b
  | _, _, _, _, .nil, h => by simp at h
  | _, _, 0, _, .cons h t, e => by
    have e' := Option.some.inj e
    subst e'
    exact ⟨_, rfl, h⟩
  | _, _, i + 1, x, .cons h t, e => Paired.get (i := i) (x := x) t e
def spOpInit (C : Addr) : Sp := fun vs H Q _ => ∃ (p dx l : Addr) (n0 n1 n2 n3 : Nat), vs = [.ref p, .ref l] ∧ H p = some (.ins C dx []) ∧ H l = some (.lst (([n0, n1, n2, n3] : List Nat).map fun n => V.int ((n : Nat) : Int))) ∧
  ∀ H' : Hp, H' p = some (.ins C dx (opF ⟨n0, n1, n2, n3⟩)) → (∀ b, b ≠ p → H' b = H b) → Q .non H'
def spWithin (C : Addr) : Sp := fun vs H Q _ => ∃ (p : Addr) (o : Bd.Opening) (l n : Nat), vs = [.ref p, .int ((l : Nat) : Int), .int ((n : Nat) : Int)] ∧ OpAt C H p o ∧ Q (.bl (o.within l n)) H
def spBehind (C : Addr) : Sp := fun vs H Q _ => ∃ (p q : Addr) (o u : Bd.Opening), vs = [.ref p, .ref q] ∧ OpAt C H p o ∧ OpAt C H q u ∧ ∀ H' : Hp, Same H H' → Q (.bl (u.before o)) H'
def spMeets (C : Addr) : Sp := fun vs H Q _ => ∃ (p q : Addr) (o u : Bd.Opening), vs = [.ref p, .ref q] ∧ OpAt C H p o ∧ OpAt C H q u ∧ Q (.bl (u.meets o)) H
section
variable {P : Program} {w : World} {K : PySem.W.Frag} {mg : Str → Option Value} {base : Heap} {a : Ad}
theorem ok_Opening___init__ (T : Txt K mg a) : FnOk P w K mg base (CXo P w) true 1 a.f_Opening___init__ a.d_Opening___init__ ["self", "numbers"] (spOpInit a.c_Opening) := by
  refine fun_ok T.F_Opening___init__ sc_Opening___init__ (fun vs H Q E h => ?_) (fun cdv A outer s0 H vs Q E hr h => ?_)
  · obtain ⟨p, dx, l, n0, n1, n2, n3, rfl, _⟩ := h
    rfl
  · obtain ⟨p, dx, l, n0, n1, n2, n3, rfl, hp, hl, k⟩ := h
    have lp : l ≠ p := ne_of hl hp (by intro z; cases z)
    refine ⟨_, (pss_cons (ps_fld (pv 0) (pe_ix ix_list (pv 1) pe_int (fun _ _ => rfl)) rfl)
      (pss_cons (ps_fld (pv 0) (pe_ix ix_list (pv 1) pe_int (fun _ _ => rfl)) rfl)
      (pss_cons (ps_fld (pv 0) (pe_ix ix_list (pv 1) pe_int (fun _ _ => rfl)) rfl)
      (pss_one (ps_fld (pv 0) (pe_ix ix_list (pv 1) pe_int (fun _ _ => rfl)) rfl))))), ?_⟩
    refine ⟨_, rfl, l, _, _, _, rfl, rfl, SqL.of hl, atI_nat (j := 0) rfl, _, rfl, p, _, dx, _, rfl, hp, T.C_Opening, T.n_Opening_x, (by show 0 < 1000; decide), ?_⟩
    refine ⟨_, rfl, l, _, _, _, rfl, rfl, SqL.of (by rw [upd_ne lp]; exact hl), atI_nat (j := 1) rfl, _, rfl, p, _, dx, _, rfl, upd_same, T.C_Opening, T.n_Opening_y, (by show 1 < 1000; decide), ?_⟩
    rw [upd_upd]
    refine ⟨_, rfl, l, _, _, _, rfl, rfl, SqL.of (by rw [upd_ne lp]; exact hl), atI_nat (j := 2) rfl, _, rfl, p, _, dx, _, rfl, upd_same, T.C_Opening, T.n_Opening_wide, (by show 2 < 1000; decide), ?_⟩
    rw [upd_upd]
    refine ⟨_, rfl, l, _, _, _, rfl, rfl, SqL.of (by rw [upd_ne lp]; exact hl), atI_nat (j := 3) rfl, _, rfl, p, _, dx, _, rfl, upd_same, T.C_Opening, T.n_Opening_high, (by show 3 < 1000; decide), ?_⟩
    rw [upd_upd]
    exact k _ upd_same fun b hb => upd_ne hb
theorem rd_fld {σ : L2.St} {H : Hp} {i : Nat} {p C dx : Addr} {fs : List (Str × V)} {f : Str} {v : V} (hs : σ[i]? = some (some (.ref p))) (hp : H p = some (.ins C dx fs)) (c : Cls K C) (n : NoAttr K C f) (l : fs.lookup f = some v) : PureV (tFld K (tVar i) f) σ H v :=
  fun R r => ⟨_, hs, p, C, dx, fs, v, rfl, hp, c, n, l, r⟩
theorem rd_add {σ : L2.St} {H : Hp} {ta tb : TE} {i j : Int} (ha : PureV ta σ H (.int i)) (hb : PureV tb σ H (.int j)) : PureV (tOp (rI0 fun i j => .int (i + j)) ta tb) σ H (.int (i + j)) := fun R r => ha _ (hb _ ⟨_, _, rfl, rfl, r⟩)
theorem rd_le {σ : L2.St} {H : Hp} {ta tb : TE} {i j : Int} (ha : PureV ta σ H (.int i)) (hb : PureV tb σ H (.int j)) : PureV (tOp (rI0 fun i j => .bl (decide (i ≤ j))) ta tb) σ H (.bl (decide (i ≤ j))) := fun R r => ha _ (hb _ ⟨_, _, rfl, rfl, r⟩)
theorem rd_gt {σ : L2.St} {H : Hp} {ta tb : TE} {i j : Int} (ha : PureV ta σ H (.int i)) (hb : PureV tb σ H (.int j)) : PureV (tOp (rI0 fun i j => .bl (decide (j < i))) ta tb) σ H (.bl (decide (j < i))) := fun R r => ha _ (hb _ ⟨_, _, rfl, rfl, r⟩)
theorem pv_andV {σ : L2.St} {H : Hp} {ta tb : TE} {x y : Bool} (ha : PureV ta σ H (.bl x)) (hb : PureV tb σ H (.bl y)) : PureV (tAndV ta tb) σ H (.bl (x && y)) := fun _ r => rd_andV ha (fun _ => hb) r
theorem pv_orV {σ : L2.St} {H : Hp} {ta tb : TE} {x y : Bool} (ha : PureV ta σ H (.bl x)) (hb : PureV tb σ H (.bl y)) : PureV (tOrV ta tb) σ H (.bl (x || y)) := fun _ r => rd_orV ha (fun _ => hb) r
theorem pv_var {σ : L2.St} {H : Hp} {i : Nat} {v : V} (hs : σ[i]? = some (some v)) : PureV (tVar i) σ H v := fun R r => ⟨v, hs, r⟩
theorem pv_c {σ : L2.St} {H : Hp} {v : V} : PureV (tC v) σ H v := fun R r => r
theorem ok_Opening_lies_within (T : Txt K mg a) : FnOk P w K mg base (CXo P w) true 1 a.f_Opening_lies_within a.d_Opening_lies_within ["self", "length", "height"] (spWithin a.c_Opening) := by
  refine fun_ok T.F_Opening_lies_within sc_Opening_lies_within (fun vs H Q E h => ?_) (fun cdv A outer s0 H vs Q E hr h => ?_)
  · obtain ⟨p, o, l, n, rfl, _⟩ := h
    rfl
  · obtain ⟨p, o, l, n, rfl, ⟨dx, hp⟩, k⟩ := h
    refine ⟨_, (pss_one (ps_ret (pe_and (pe_cmpR op_gt (pe_fld (pv 0) rfl) pe_int (nomark _)) (pe_and (pe_cmpR op_gt (pe_fld (pv 0) rfl) pe_int (nomark _)) (pe_and (pe_cmpR op_le (pe_op op_add (pe_fld (pv 0) rfl) (pe_fld (pv 0) rfl)) (pv 1) (nomark _)) (pe_one (pe_cmpR op_le (pe_op op_add (pe_fld (pv 0) rfl) (pe_fld (pv 0) rfl)) (pv 2) (nomark _)))))))), ?_⟩
    have fx : PureV (tFld K (tVar 0) "x") (start ["self", "length", "height"] [.ref p, .int ((l : Nat) : Int), .int ((n : Nat) : Int)]) H (.int ((o.x : Nat) : Int)) := rd_fld rfl hp T.C_Opening T.n_Opening_x rfl
    have fy : PureV (tFld K (tVar 0) "y") (start ["self", "length", "height"] [.ref p, .int ((l : Nat) : Int), .int ((n : Nat) : Int)]) H (.int ((o.y : Nat) : Int)) := rd_fld rfl hp T.C_Opening T.n_Opening_y rfl
    have fw : PureV (tFld K (tVar 0) "wide") (start ["self", "length", "height"] [.ref p, .int ((l : Nat) : Int), .int ((n : Nat) : Int)]) H (.int ((o.w : Nat) : Int)) := rd_fld rfl hp T.C_Opening T.n_Opening_wide rfl
    have fh : PureV (tFld K (tVar 0) "high") (start ["self", "length", "height"] [.ref p, .int ((l : Nat) : Int), .int ((n : Nat) : Int)]) H (.int ((o.h : Nat) : Int)) := rd_fld rfl hp T.C_Opening T.n_Opening_high rfl
    refine pv_andV (rd_gt fw pv_c) (pv_andV (rd_gt fh pv_c) (pv_andV (rd_le (rd_add fx fw) (pv_var rfl)) (rd_le (rd_add fy fh) (pv_var rfl)))) _ ?_
    have e : (decide ((0 : Int) < ((o.w : Nat) : Int)) && (decide ((0 : Int) < ((o.h : Nat) : Int)) && (decide (((o.x : Nat) : Int) + ((o.w : Nat) : Int) ≤ ((l : Nat) : Int)) && decide (((o.y : Nat) : Int) + ((o.h : Nat) : Int) ≤ ((n : Nat) : Int))))) = o.within l n := by
      unfold Bd.Opening.within
      rw [Bool.eq_iff_iff]
      simp only [Bool.and_eq_true, decide_eq_true_eq]
      omega
    rw [e]
    exact k
theorem ok_Opening_stands_behind (T : Txt K mg a) : FnOk P w K mg base (CXo P w) true 1 a.f_Opening_stands_behind a.d_Opening_stands_behind ["self", "other"] (spBehind a.c_Opening) := by
  refine fun_ok T.F_Opening_stands_behind sc_Opening_stands_behind (fun vs H Q E h => ?_) (fun cdv A outer s0 H vs Q E hr h => ?_)
  · obtain ⟨p, q, o, u, rfl, _⟩ := h
    rfl
  · obtain ⟨p, q, o, u, rfl, ⟨dx, hp⟩, ⟨dy, hq⟩, k⟩ := h
    refine ⟨_, (pss_one (ps_ret (pe_cmpR (op_gtT hr.units0) (pe_tup (pa_cons (pe_fld (pv 0) rfl) (pa_cons (pe_fld (pv 0) rfl) pa_nil))) (pe_tup (pa_cons (pe_fld (pv 1) rfl) (pa_cons (pe_fld (pv 1) rfl) pa_nil))) (nomark _)))), ?_⟩
    refine ⟨_, rfl, p, _, dx, _, _, rfl, hp, T.C_Opening, T.n_Opening_y, rfl, _, rfl, p, _, dx, _, _, rfl, hp, T.C_Opening, T.n_Opening_x, rfl, (by show 2 ≤ sizeLine; decide), fun t1 n1 => ?_⟩
    have s1 : Same H (upd H t1 (.tup [.int ((o.y : Nat) : Int), .int ((o.x : Nat) : Int)])) := (Same.refl _).new n1
    have hq1 := s1 _ _ hq
    refine ⟨_, rfl, q, _, dy, _, _, rfl, hq1, T.C_Opening, T.n_Opening_y, rfl, _, rfl, q, _, dy, _, _, rfl, hq1, T.C_Opening, T.n_Opening_x, rfl, (by show 2 ≤ sizeLine; decide), fun t2 n2 => ?_⟩
    have s2 := s1.new (o := .tup [.int ((u.y : Nat) : Int), .int ((u.x : Nat) : Int)]) n2
    refine ⟨t1, t2, [((o.y : Nat) : Int), ((o.x : Nat) : Int)], [((u.y : Nat) : Int), ((u.x : Nat) : Int)], rfl, rfl, .inl (.inl (by rw [upd_ne (ne_of_none upd_same n2)]; exact upd_same)), .inl (.inl upd_same), ?_⟩
    have e : HT.lexGt [((o.y : Nat) : Int), ((o.x : Nat) : Int)] [((u.y : Nat) : Int), ((u.x : Nat) : Int)] = u.before o := by
      unfold Bd.Opening.before
      rw [HT.lexGt_cons, HT.lexGt_cons, HT.lexGt_nil_nil, Bool.eq_iff_iff]
      by_cases e1 : ((o.y : Nat) : Int) = ((u.y : Nat) : Int)
      · rw [if_pos e1]
        by_cases e2 : ((o.x : Nat) : Int) = ((u.x : Nat) : Int)
        · rw [if_pos e2]
          simp only [Bool.or_eq_true, Bool.and_eq_true, decide_eq_true_eq, beq_iff_eq]
          constructor
          · intro z
            cases z
          · omega
        · rw [if_neg e2]
          simp only [Bool.or_eq_true, Bool.and_eq_true, decide_eq_true_eq, beq_iff_eq]
          omega
      · rw [if_neg e1]
        simp only [Bool.or_eq_true, Bool.and_eq_true, decide_eq_true_eq, beq_iff_eq]
        omega
    rw [e]
    exact k _ s2
theorem ok_Opening_meets (T : Txt K mg a) : FnOk P w K mg base (CXo P w) true 1 a.f_Opening_meets a.d_Opening_meets ["self", "other"] (spMeets a.c_Opening) := by
  refine fun_ok T.F_Opening_meets sc_Opening_meets (fun vs H Q E h => ?_) (fun cdv A outer s0 H vs Q E hr h => ?_)
  · obtain ⟨p, q, o, u, rfl, _⟩ := h
    rfl
  · obtain ⟨p, q, o, u, rfl, ⟨dx, hp⟩, ⟨dy, hq⟩, k⟩ := h
    refine ⟨_, (pss_cons (ps_set (i := 2) sc_Opening_meets.nd rfl (by first | exact Or.inl rfl | exact Or.inr rfl) (pe_or (pe_cmpR op_le (pe_op op_add (pe_fld (pv 0) rfl) (pe_fld (pv 0) rfl)) (pe_fld (pv 1) rfl) (nomark _)) (pe_one (pe_cmpR op_le (pe_op op_add (pe_fld (pv 1) rfl) (pe_fld (pv 1) rfl)) (pe_fld (pv 0) rfl) (nomark _)))))
      (pss_cons (ps_set (i := 3) sc_Opening_meets.nd rfl (by first | exact Or.inl rfl | exact Or.inr rfl) (pe_or (pe_cmpR op_le (pe_op op_add (pe_fld (pv 0) rfl) (pe_fld (pv 0) rfl)) (pe_fld (pv 1) rfl) (nomark _)) (pe_one (pe_cmpR op_le (pe_op op_add (pe_fld (pv 1) rfl) (pe_fld (pv 1) rfl)) (pe_fld (pv 0) rfl) (nomark _)))))
      (pss_one (ps_ret (pe_and (pe_not (pv 2)) (pe_one (pe_not (pv 3)))))))), ?_⟩
    have fld : ∀ (σ : L2.St) (v v' : Option V), σ = [some (.ref p), some (.ref q), v, v'] → PureV (tFld K (tVar 0) "x") σ H (.int ((o.x : Nat) : Int)) ∧ PureV (tFld K (tVar 0) "y") σ H (.int ((o.y : Nat) : Int)) ∧ PureV (tFld K (tVar 0) "wide") σ H (.int ((o.w : Nat) : Int)) ∧ PureV (tFld K (tVar 0) "high") σ H (.int ((o.h : Nat) : Int)) ∧
        PureV (tFld K (tVar 1) "x") σ H (.int ((u.x : Nat) : Int)) ∧ PureV (tFld K (tVar 1) "y") σ H (.int ((u.y : Nat) : Int)) ∧ PureV (tFld K (tVar 1) "wide") σ H (.int ((u.w : Nat) : Int)) ∧ PureV (tFld K (tVar 1) "high") σ H (.int ((u.h : Nat) : Int)) := by
      rintro σ v v' rfl
      exact ⟨rd_fld rfl hp T.C_Opening T.n_Opening_x rfl, rd_fld rfl hp T.C_Opening T.n_Opening_y rfl, rd_fld rfl hp T.C_Opening T.n_Opening_wide rfl, rd_fld rfl hp T.C_Opening T.n_Opening_high rfl,
        rd_fld rfl hq T.C_Opening T.n_Opening_x rfl, rd_fld rfl hq T.C_Opening T.n_Opening_y rfl, rd_fld rfl hq T.C_Opening T.n_Opening_wide rfl, rd_fld rfl hq T.C_Opening T.n_Opening_high rfl⟩
    obtain ⟨f1, f2, f3, f4, g1, g2, g3, g4⟩ := fld [some (.ref p), some (.ref q), none, none] none none rfl
    refine pv_orV (rd_le (rd_add f1 f3) g1) (rd_le (rd_add g1 g3) f1) _ ?_
    generalize hb1 : (decide (((o.x : Nat) : Int) + ((o.w : Nat) : Int) ≤ ((u.x : Nat) : Int)) || decide (((u.x : Nat) : Int) + ((u.w : Nat) : Int) ≤ ((o.x : Nat) : Int))) = b1
    obtain ⟨_, f2, _, f4, _, g2, _, g4⟩ := fld [some (.ref p), some (.ref q), some (.bl b1), none] _ none rfl
    refine pv_orV (rd_le (rd_add f2 f4) g2) (rd_le (rd_add g2 g4) f2) _ ?_
    generalize hb2 : (decide (((o.y : Nat) : Int) + ((o.h : Nat) : Int) ≤ ((u.y : Nat) : Int)) || decide (((u.y : Nat) : Int) + ((u.h : Nat) : Int) ≤ ((o.y : Nat) : Int))) = b2
    dsimp only [gName, tRet]
    refine pv_andV (x := !b1) (y := !b2) (fun R r => ⟨_, rfl, _, rfl, r⟩) (fun R r => ⟨_, rfl, _, rfl, r⟩) _ ?_
    have e : (!b1 && !b2) = u.meets o := by
      rw [← hb1, ← hb2]
      unfold Bd.Opening.meets
      rw [Bool.eq_iff_iff]
      simp only [Bool.and_eq_true, Bool.not_eq_true', Bool.or_eq_false_iff, decide_eq_true_eq, decide_eq_false_iff_not]
      omega
    rw [e]
    exact k
end
end Wb
end
section
set_option Elab.async false
set_option linter.all false
set_option maxRecDepth 100000
set_option maxHeartbeats 4000000
namespace Wb
open PySem PySem.Spec PyProof.Rows L2 Wm
open PySem.W (Codec)
/-! ### a line's opening -/
def spOpening (K : PySem.W.Frag) (C CL : Addr) : Sp := fun vs H Q E => ∃ (l bl : Addr) (line : Bd.Bytes) (long high : Nat) (as : List Addr) (os : List Bd.Opening), vs = [.ref l, .int ((long : Nat) : Int), .int ((high : Nat) : Int), .ref bl] ∧ SqL K H l (iB line) ∧ line.length ≤ 10000 ∧
  H bl = some (.lst (as.map V.ref)) ∧ Ops C H as os ∧ os.length ≤ 8 ∧
  match openB line long high os with
  | .error k => Fails CL E H k
  | .ok o => ∀ (H' : Hp) (p : Addr), Same H H' → H p = none → OpAt C H' p o → Q (.ref p) H'
theorem mapM_none : ∀ {r : List Bd.Bytes} {i : Nat} {x : Bd.Bytes}, r[i]? = some x → Bd.readNumber x = none → r.mapM Bd.readNumber = none
  | [], i, x, h, _ => by simp at h
  | y :: r, 0, x, h, e => by
    have h' : y = x := Option.some.inj h
    subst h'
    rw [List.mapM_cons, e]
    rfl
  | y :: r, i + 1, x, h, e => by
    have ih := mapM_none (r := r) (i := i) h e
    rw [List.mapM_cons, ih]
    cases Bd.readNumber y <;> rfl
theorem mapM_snoc : ∀ {r : List Bd.Bytes} {x : Bd.Bytes} {ns : List Nat} {n : Nat}, r.mapM Bd.readNumber = some ns → Bd.readNumber x = some n → (r ++ [x]).mapM Bd.readNumber = some (ns ++ [n])
  | [], x, ns, n, h, e => by
    have h' : [] = ns := Option.some.inj h
    subst h'
    show [x].mapM Bd.readNumber = _
    rw [List.mapM_cons, e]
    rfl
  | y :: r, x, ns, n, h, e => by
    rw [List.mapM_cons] at h
    cases hy : Bd.readNumber y with
    | none => rw [hy] at h; cases h
    | some m =>
      cases hr : r.mapM Bd.readNumber with
      | none => rw [hy, hr] at h; cases h
      | some l =>
        rw [hy, hr] at h
        have h' : m :: l = ns := Option.some.inj h
        subst h'
        show (y :: (r ++ [x])).mapM Bd.readNumber = _
        rw [List.mapM_cons, hy, mapM_snoc hr e]
        rfl
/-- a and b, the heap growing -/
theorem rd_andS {σ : L2.St} {H : Hp} {ta tb : TT} {x y : Bool} {Q : Bool → Hp → Prop} (S : Hp → Prop) (ha : ∀ R : Bool → Hp → Prop, (∀ H1, S H1 → R x H1) → ta σ H R) (hb : x = true → ∀ H1, S H1 → ∀ R : Bool → Hp → Prop, (∀ H2, S H2 → R y H2) → tb σ H1 R)
    (h : ∀ H2, S H2 → Q (x && y) H2) : tAnd ta tb σ H Q := by
  refine ha _ fun H1 s1 => ?_
  cases x with
  | true => exact iteT (hb rfl H1 s1 _ h)
  | false => exact iteF (h H1 s1)
theorem Paired.last {α β : Type} {F : α → β → Prop} {as : List α} {bs : List β} (r : Paired F as bs) (h : bs ≠ []) : ∃ as' x bs' y, as = as' ++ [x] ∧ bs = bs' ++ [y] ∧ F x y := by
  induction r with
  | nil => exact absurd rfl h
  | cons f t ih =>
    rename_i x y l1 l2
    cases t with
    | nil => exact ⟨[], x, [], y, rfl, rfl, f⟩
    | cons g t =>
      obtain ⟨as', x', bs', y', e1, e2, q⟩ := ih (by simp)
      exact ⟨x :: as', x', y :: bs', y', by rw [e1]; rfl, by rw [e2]; rfl, q⟩
def iN (ns : List Nat) : List V := ns.map fun n => V.int ((n : Nat) : Int)
section
variable {P : Program} {w : World} {K : PySem.W.Frag} {mg : Str → Option Value} {base : Heap} {a : Ad}
theorem ok_opening_in (T : Txt K mg a) : FnOk P w K mg base (CXo P w) true 5 a.f_opening_in a.d_opening_in ["line", "length", "height", "before"] (spOpening K a.c_Opening a.c_LineFault) := by
  have G_LineFault___init__ : FnOk P w K mg base (CXo P w) true 1 a.f_LineFault___init__ a.d_LineFault___init__ ["self", "kind"] (spErr1 a.c_LineFault "kind") := ok_LineFault___init__ T
  have G_number_in : FnOk P w K mg base (CXo P w) true 3 a.f_number_in a.d_number_in ["field"] (spNumber K a.c_LineFault) := ok_number_in T
  have G_fields_behind : FnOk P w K mg base (CXo P w) true 3 a.f_fields_behind a.d_fields_behind ["word", "line"] (spFields K a.c_LineFault) := ok_fields_behind T
  have G_Opening___init__ : FnOk P w K mg base (CXo P w) true 1 a.f_Opening___init__ a.d_Opening___init__ ["self", "numbers"] (spOpInit a.c_Opening) := ok_Opening___init__ T
  have G_Opening_lies_within : FnOk P w K mg base (CXo P w) true 1 a.f_Opening_lies_within a.d_Opening_lies_within ["self", "length", "height"] (spWithin a.c_Opening) := ok_Opening_lies_within T
  have G_Opening_stands_behind : FnOk P w K mg base (CXo P w) true 1 a.f_Opening_stands_behind a.d_Opening_stands_behind ["self", "other"] (spBehind a.c_Opening) := ok_Opening_stands_behind T
  have G_Opening_meets : FnOk P w K mg base (CXo P w) true 1 a.f_Opening_meets a.d_Opening_meets ["self", "other"] (spMeets a.c_Opening) := ok_Opening_meets T
  refine fun_ok T.F_opening_in sc_opening_in (fun vs H Q E h => ?_) (fun cdv A outer s0 H vs Q E hr h => ?_)
  · obtain ⟨l, bl, line, long, high, as, os, rfl, _⟩ := h
    rfl
  · obtain ⟨l, bl, line, long, high, as, os, rfl, hS, hl, hb, ho, hol, k⟩ := h
    have zl := szl
    unfold openB at k
    refine ⟨_, (pss_cons (ps_setLcX (i := 4) takes_cx rfl rfl (own := [("field", 5)]) rfl sc_opening_in.nd rfl rfl rfl (pi_list (pe_call G_fields_behind (hr.mono (by decide)) rfl T.m_fields_behind T.F_fields_behind.kp T.b_fields_behind .nil takes_cx.passes (pa_cons (pe_glob (v := .str "open") rfl T.c_OPENING_WORD ⟨_, rfl⟩) (pa_cons (pv 0) pa_nil)))) (by show BlkOk ["line", "length", "height", "before", "numbers", "field", "opening", "other"] (defScope s_opening_in) _ [("field", 5)]; exact ⟨rfl, by decide +kernel, by decide +kernel, by decide +kernel, by decide +kernel⟩) (fun s H C cl fp xe tk => (pg_name (i := 5) sc_opening_in.nd rfl (by first | exact Or.inl rfl | exact Or.inr rfl))) (fun s H C cl fp xe tk => pts_nil) (fun s H C cl fp xe tk => (pe_call G_number_in (hr.mono (by decide)) rfl T.m_number_in T.F_number_in.kp T.b_number_in .nil tk.passes (pa_cons (pv 5) pa_nil))))
      (pss_cons (ps_if (pt_cmpR op_ne (pe_callB call_len_seq rfl T.z_len bt_len (pa_cons (pv 4) pa_nil)) pe_int (nomark _)) (pss_one (ps_raise takes_cx rfl (pe_makeX T.X_LineFault G_LineFault___init__ (hr.mono (by decide)) rfl T.m_LineFault T.b_LineFault___init__ takes_cx (pa_cons (pe_glob (v := .int 1) rfl T.c_OTHER_LINE ⟨_, rfl⟩) pa_nil)))) pss_nil)
      (pss_cons (ps_set (i := 6) sc_opening_in.nd rfl (by first | exact Or.inl rfl | exact Or.inr rfl) (pe_make T.K_Opening G_Opening___init__ (hr.mono (by decide)) rfl T.m_Opening T.b_Opening___init__ .nil takes_cx.passes (pa_cons (pv 4) pa_nil)))
      (pss_cons (ps_if (pt_not (pt_val (pe_meth (pv 6) T.C_Opening T.M_Opening_lies_within G_Opening_lies_within (hr.mono (by decide)) T.b_Opening_lies_within .nil takes_cx.passes (pa_cons (pv 1) (pa_cons (pv 2) pa_nil))))) (pss_one (ps_raise takes_cx rfl (pe_makeX T.X_LineFault G_LineFault___init__ (hr.mono (by decide)) rfl T.m_LineFault T.b_LineFault___init__ takes_cx (pa_cons (pe_glob (v := .int 2) rfl T.c_OUT_OF_BOUNDS ⟨_, rfl⟩) pa_nil)))) pss_nil)
      (pss_cons (ps_if (PW.pt (pw_and (pt_cmpR (op_neE hr.units0) (pv 3) (pe_lst pa_nil) (nomark _)) (pw_and1 (pt_not (pt_val (pe_meth (pv 6) T.C_Opening T.M_Opening_stands_behind G_Opening_stands_behind (hr.mono (by decide)) T.b_Opening_stands_behind .nil takes_cx.passes (pa_cons (pe_ix ix_list (pv 3) (pe_un un_neg pe_int) (fun _ _ => rfl)) pa_nil))))))) (pss_one (ps_raise takes_cx rfl (pe_makeX T.X_LineFault G_LineFault___init__ (hr.mono (by decide)) rfl T.m_LineFault T.b_LineFault___init__ takes_cx (pa_cons (pe_glob (v := .int 3) rfl T.c_OUT_OF_ORDER ⟨_, rfl⟩) pa_nil)))) pss_nil)
      (pss_cons (ps_if (pt_val (pe_callB (cr_any rfl) rfl T.z_any bt_any (pa_cons (pe_lcX takes_cx rfl rfl (own := [("other", 7)]) rfl sc_opening_in.nd (pi_list (pv 3)) (by show BlkOk ["line", "length", "height", "before", "numbers", "field", "opening", "other"] (defScope s_opening_in) _ [("other", 7)]; exact ⟨rfl, by decide +kernel, by decide +kernel, by decide +kernel, by decide +kernel⟩) (fun s H C cl fp xe tk => (pg_name (i := 7) sc_opening_in.nd rfl (by first | exact Or.inl rfl | exact Or.inr rfl))) (fun s H C cl fp xe tk => pts_nil) (fun s H C cl fp xe tk => (pe_meth (pv 6) T.C_Opening T.M_Opening_meets G_Opening_meets (hr.mono (by decide)) T.b_Opening_meets .nil tk.passes (pa_cons (pv 7) pa_nil)))) pa_nil))) (pss_one (ps_raise takes_cx rfl (pe_makeX T.X_LineFault G_LineFault___init__ (hr.mono (by decide)) rfl T.m_LineFault T.b_LineFault___init__ takes_cx (pa_cons (pe_glob (v := .int 4) rfl T.c_PLACE_IN_COMMON ⟨_, rfl⟩) pa_nil)))) pss_nil)
      (pss_cons (ps_if (pt_cmpR op_eq (pe_callB call_len_seq rfl T.z_len bt_len (pa_cons (pv 3) pa_nil)) (pe_glob (v := .int 8) rfl T.c_MOST_OPENINGS ⟨_, rfl⟩) (nomark _)) (pss_one (ps_raise takes_cx rfl (pe_makeX T.X_LineFault G_LineFault___init__ (hr.mono (by decide)) rfl T.m_LineFault T.b_LineFault___init__ takes_cx (pa_cons (pe_glob (v := .int 5) rfl T.c_TOO_MANY ⟨_, rfl⟩) pa_nil)))) pss_nil)
      (pss_one (ps_ret (pv 6)))))))))), ?_⟩
    -- numbers = [..]
    refine ⟨_, rfl, "open", l, Bd.ascii "open", line, rfl, (by decide), (by decide), hS, hl, ?_⟩
    cases hf : fieldsB (Bd.ascii "open") line with
    | none =>
      rw [hf] at k
      exact k
    | some r =>
      rw [hf, Option.bind_some] at k
      dsimp only
      have fln := fields_len hf
      intro H1 p fs s1 np fr hp rows
      have fll : fs.length = r.length := Paired.length rows
      refine ⟨p, rfl, ⟨_, SqL.of hp⟩, fun Dl hD => ?_⟩
      refine lc_list (K := K) (a := p) (xs := fs.map V.ref) (fun i H' => ∃ ns, (r.take i).mapM Bd.readNumber = some ns ∧ Same H1 H' ∧ H' Dl = some (.lst (iN ns)))
        ⟨[], rfl, (Same.refl _).new hD, upd_same⟩ (fun i H' _ ⟨_, _, s2, _⟩ => s2.seq (SqL.of hp)) ?_ ?_
      · rintro i y H' hi ⟨ns, hns, s2, hDl⟩
        rw [List.getElem?_map] at hi
        obtain ⟨f, hfi, rfl⟩ : ∃ f, fs[i]? = some f ∧ y = .ref f := by
          cases e : fs[i]? with
          | none => rw [e] at hi; cases hi
          | some f => rw [e] at hi; exact ⟨f, rfl, (Option.some.inj hi).symm⟩
        obtain ⟨x, hx, hfx⟩ := Paired.get rows hfi
        refine ⟨rfl, ?_⟩
        have hxl := fln.2 x (List.mem_of_getElem? hx)
        refine ⟨_, rfl, f, x, rfl, SqL.of (s2 _ _ hfx), (by omega), ?_⟩
        cases hn : Bd.readNumber x with
        | none =>
          rw [mapM_none hx hn] at k
          exact k.same (s1.trans s2)
        | some n =>
          intro H2 s3
          have nsl : ns.length ≤ i := by
            have z := mapM_len hns
            rw [List.length_take] at z
            omega
          have il : i < r.length := (List.getElem?_eq_some_iff.mp hx).1
          refine ⟨_, s3 _ _ hDl, (by unfold iN; rw [List.length_map]; omega), ns ++ [n], ?_, ?_, ?_⟩
          · rw [take_snoc hx]
            exact mapM_snoc hns hn
          · exact (s2.trans s3).set hD
          · rw [upd_same]
            unfold iN
            rw [List.map_append]
            rfl
      · rintro H2 ⟨ns, hns, s2, hDl⟩
        rw [List.length_map, fll, List.take_length] at hns
        rw [hns] at k
        have s12 := s1.trans s2
        -- four
        refine ⟨_, rfl, Dl, _, rfl, .inl (SqL.of hDl), rfl, _, rfl, ?_⟩
        by_cases h4 : ns.length = 4
        rotate_left
        · rw [show (!decide (V.int (((iN ns).length : Nat) : Int) = V.int 4)) = true by
            rw [decide_eq_false]
            · rfl
            · intro z
              have z' := V.int.inj z
              unfold iN at z'
              rw [List.length_map] at z'
              omega]
          refine iteT (raise_line T ?_)
          match ns, h4, k with
          | [], _, k => exact k.same s12
          | [_], _, k => exact k.same s12
          | [_, _], _, k => exact k.same s12
          | [_, _, _], _, k => exact k.same s12
          | [_, _, _, _], h4, _ => exact absurd rfl h4
          | _ :: _ :: _ :: _ :: _ :: _, _, k => exact k.same s12
        rw [show (!decide (V.int (((iN ns).length : Nat) : Int) = V.int 4)) = false by
          rw [decide_eq_true]
          · rfl
          · unfold iN
            rw [List.length_map, h4]
            rfl]
        refine iteF ?_
        obtain ⟨n0, n1, n2, n3, rfl⟩ : ∃ n0 n1 n2 n3, ns = [n0, n1, n2, n3] := by
          match ns, h4 with
          | [n0, n1, n2, n3], _ => exact ⟨_, _, _, _, rfl⟩
        dsimp only at k
        -- opening = Opening(numbers)
        refine ⟨_, rfl, fun x dx nx ndx dxx => ⟨x, dx, Dl, n0, n1, n2, n3, rfl, upd_same, ?_, fun H3 e3 kp => ⟨rfl, ?_⟩⟩⟩
        · have q1 : Dl ≠ x := ne_of_none hDl nx
          have q2 : Dl ≠ dx := ne_of_none hDl ndx
          rw [upd_ne q1, upd_ne q2]
          exact hDl
        have s3 : Same H2 H3 := fun b o e => by
          have q1 : b ≠ x := ne_of_none e nx
          have q2 : b ≠ dx := ne_of_none e ndx
          rw [kp b q1, upd_ne q1, upd_ne q2]
          exact e
        have s03 := s12.trans s3
        have hx : OpAt a.c_Opening H3 x ⟨n0, n1, n2, n3⟩ := ⟨dx, e3⟩
        have nxH : H x = Option.none := s12.free nx
        have hb3 := s03 _ _ hb
        have ho3 := Ops.same s03 ho
        generalize hoo : (⟨n0, n1, n2, n3⟩ : Bd.Opening) = o at *
        -- not opening.lies_within(length, height)
        refine ⟨_, rfl, x, dx, _, rfl, e3, rfl, _, rfl, _, rfl, x, o, long, high, rfl, hx, _, rfl, ?_⟩
        cases hw : o.within long high with
        | false =>
          rw [if_pos hw] at k
          exact iteT (raise_line T (k.same s03))
        | true =>
          rw [if_neg (by rw [hw]; decide)] at k
          refine iteF ?_
          -- before != [] and not opening.stands_behind(before[-1])
          have nem : (!(as.map V.ref).isEmpty) = !os.isEmpty := by
            have z := Paired.length ho
            cases as <;> cases os <;> first | rfl | (simp at z)
          dsimp only [tNext, tSeq, tIfS]
          refine rd_andS (x := !os.isEmpty) (y := os.getLast?.any fun (p : Bd.Opening) => !p.before o) (fun H' => Same H3 H') (fun R r => ?_) (fun hne H4 s4 R r => ?_) fun H5 s5 => ?_
          · refine ⟨_, rfl, Nat.zero_le _, fun p4 n4 => ⟨bl, p4, _, rfl, rfl, SqL.of (by rw [upd_ne (ne_of_none hb3 n4)]; exact hb3), SqL.of upd_same, _, rfl, ?_⟩⟩
            rw [nem]
            exact r _ ((Same.refl _).new n4)
          · have one : os ≠ [] := fun z => by rw [z] at hne; cases hne
            obtain ⟨as', al, os', ol, ea, eo, hal⟩ := Paired.last ho one
            obtain ⟨dal, hal'⟩ := id (hal.same (s03.trans s4))
            refine ⟨_, rfl, x, dx, _, rfl, s4 _ _ e3, rfl, _, rfl, _, rfl, bl, _, _, .ref al, rfl, rfl, SqL.of (s4 _ _ hb3), (by rw [ea, List.map_append]; exact atI_last _ _), x, al, o, ol, rfl, hx.same s4, ⟨dal, hal'⟩, fun H5 s5 => ⟨_, rfl, ?_⟩⟩
            have e : (os.getLast?.any fun (p : Bd.Opening) => !p.before o) = !ol.before o := by
              rw [eo]
              simp
            rw [e] at r
            exact r _ (s4.trans s5)
          have s05 := s03.trans s5
          have ee : (!os.isEmpty && os.getLast?.any fun (p : Bd.Opening) => !p.before o) = os.getLast?.any fun (p : Bd.Opening) => !p.before o := by
            cases os <;> rfl
          rw [ee]
          cases hbf : (os.getLast?.any fun (p : Bd.Opening) => !p.before o) with
          | true =>
            rw [if_pos hbf] at k
            exact iteT (raise_line T (k.same s05))
          | false =>
            rw [if_neg (by rw [hbf]; decide)] at k
            refine iteF ?_
            -- any([opening.meets(other) for other in before])
            refine ⟨_, rfl, bl, rfl, ⟨_, SqL.of (s5 _ _ hb3)⟩, fun D2 hD2 => ?_⟩
            have s6 : ∀ ys, Same H5 (upd H5 D2 (.lst ys)) := fun ys => (Same.refl _).new hD2
            refine lc_list (K := K) (a := bl) (xs := as.map V.ref) (fun i H' => H' = upd H5 D2 (.lst ((os.take i).map fun u => V.bl (u.meets o)))) rfl (fun i H' _ e => by rw [e]; exact SqL.of (s6 _ _ _ (s5 _ _ hb3))) ?_ ?_
            · rintro i y H' hi rfl
              rw [List.getElem?_map] at hi
              obtain ⟨f, hfi, rfl⟩ : ∃ f, as[i]? = some f ∧ y = .ref f := by
                cases e : as[i]? with
                | none => rw [e] at hi; cases hi
                | some f => rw [e] at hi; exact ⟨f, rfl, (Option.some.inj hi).symm⟩
              obtain ⟨u, hu, hfu⟩ := Paired.get ho hfi
              have sa := s05.trans (s6 ((os.take i).map fun u => V.bl (u.meets o)))
              refine ⟨rfl, _, rfl, x, dx, _, rfl, s6 _ _ _ (s5 _ _ e3), rfl, _, rfl, x, f, o, u, rfl, (hx.same s5).same (s6 _), hfu.same sa, ?_⟩
              refine ⟨_, upd_same, (by rw [List.length_map, List.length_take]; omega), ?_⟩
              rw [upd_upd, take_snoc hu, List.map_append]
              rfl
            · rintro H6 rfl
              rw [List.length_map, Paired.length ho, List.take_length]
              refine ⟨D2, os.map fun u => u.meets o, rfl, SqL.of (by rw [upd_same, List.map_map]; rfl), _, rfl, ?_⟩
              have em : ((os.map fun u => u.meets o).any id) = os.any fun (p : Bd.Opening) => p.meets o := by
                rw [List.any_map]
                rfl
              rw [em]
              have s06 := s05.trans (s6 (os.map fun u => V.bl (u.meets o)))
              have hx6 := (hx.same s5).same (s6 (os.map fun u => V.bl (u.meets o)))
              cases hme : (os.any fun (p : Bd.Opening) => p.meets o) with
              | true =>
                rw [if_pos hme] at k
                exact iteT (raise_line T (k.same s06))
              | false =>
                rw [if_neg (by rw [hme]; decide)] at k
                refine iteF ?_
                -- len(before) == MOST_OPENINGS
                refine ⟨_, rfl, bl, _, rfl, .inl (SqL.of (s06 _ _ hb)), rfl, _, rfl, ?_⟩
                have lo := Paired.length ho
                by_cases h8 : 8 ≤ os.length
                · rw [if_pos h8] at k
                  rw [decide_eq_true (show V.int (((as.map V.ref).length : Nat) : Int) = V.int 8 by rw [List.length_map, lo, show os.length = 8 by omega]; rfl)]
                  exact iteT (raise_line T (k.same s06))
                · rw [if_neg h8] at k
                  rw [decide_eq_false (show ¬ V.int (((as.map V.ref).length : Nat) : Int) = V.int 8 from fun z => by
                    have z' := V.int.inj z
                    rw [List.length_map] at z'
                    omega)]
                  exact iteF ⟨_, rfl, k _ x s06 nxH hx6⟩
end
end Wb
end
section
set_option Elab.async false
set_option linter.all false
set_option maxRecDepth 100000
set_option maxHeartbeats 4000000
namespace Wb
open PySem PySem.Spec PyProof.Rows L2 Wm
open PySem.W (Codec)
/-! ### a wall's lines -/
/-- what a head's line tells, as a value -/
def HvIs (H : Hp) (v : V) : HV → Prop
  | .nm b => ∃ p, v = .ref p ∧ H p = some (.lst (iB b))
  | .num n => v = .int ((n : Nat) : Int)
theorem HvIs.same {H H' : Hp} {v : V} {x : HV} (s : Same H H') (h : HvIs H v x) : HvIs H' v x := by
  cases x with
  | nm b => obtain ⟨p, e, q⟩ := h; exact ⟨p, e, s _ _ q⟩
  | num n => exact h
/-- a name's row lies at none of these places -/
def HvOff (v : V) (l : List Addr) : Prop := ∀ p, v = .ref p → p ∉ l
def spHead (K : PySem.W.Frag) (CL : Addr) : Sp := fun vs H Q E => ∃ (i : Nat) (l : Addr) (line : Bd.Bytes), vs = [.int ((i : Nat) : Int), .ref l] ∧ i < 6 ∧ SqL K H l (iB line) ∧ line.length ≤ 10000 ∧
  match headB i line with
  | .error k => Fails CL E H k
  | .ok x => ∀ (H' : Hp) (v : V), Same H H' → HvIs H' v x → (∀ p, v = .ref p → H p = none) → Q v H'
def headStr (i : Nat) : Str := (["wall", "long", "high", "left", "right", "reveal"] : List Str).getD i ""
theorem headB_one (i : Nat) (line : Bd.Bytes) : headB i line = match oneB (Bd.ascii (HEAD i)) line with
    | none => .error 1
    | some x => fieldB i x := by
  unfold headB oneB
  match fieldsB (Bd.ascii (HEAD i)) line with
  | none => rfl
  | some [] => rfl
  | some [_] => rfl
  | some (_ :: _ :: _) => rfl
section
variable {P : Program} {w : World} {K : PySem.W.Frag} {mg : Str → Option Value} {base : Heap} {a : Ad}
theorem ok_head_value (T : Txt K mg a) : FnOk P w K mg base (CXo P w) true 5 a.f_head_value a.d_head_value ["number", "line"] (spHead K a.c_LineFault) := by
  have G_field_behind : FnOk P w K mg base (CXo P w) true 4 a.f_field_behind a.d_field_behind ["word", "line"] (spField K a.c_LineFault) := ok_field_behind T
  have G_name_in : FnOk P w K mg base (CXo P w) true 3 a.f_name_in a.d_name_in ["field"] (spName K a.c_LineFault) := ok_name_in T
  have G_number_from_to : FnOk P w K mg base (CXo P w) true 4 a.f_number_from_to a.d_number_from_to ["field", "least", "most"] (spRange K a.c_LineFault) := ok_number_from_to T
  have G_end_in : FnOk P w K mg base (CXo P w) true 3 a.f_end_in a.d_end_in ["field"] (spEnd K a.c_LineFault) := ok_end_in T
  refine fun_ok T.F_head_value sc_head_value (fun vs H Q E h => ?_) (fun cdv A outer s0 H vs Q E hr h => ?_)
  · obtain ⟨i, l, line, rfl, _⟩ := h
    rfl
  · obtain ⟨i, l, line, rfl, hi, hS, hl, k⟩ := h
    refine ⟨_, (pss_cons (ps_set (i := 2) sc_head_value.nd rfl (by first | exact Or.inl rfl | exact Or.inr rfl) (pe_call G_field_behind (hr.mono (by decide)) rfl T.m_field_behind T.F_field_behind.kp T.b_field_behind .nil takes_cx.passes (pa_cons (pe_ix ix_tup (pe_glob (v := .ref a.p_HEAD_WORDS) rfl T.c_HEAD_WORDS rfl) (pv 0) (fun _ _ => rfl)) (pa_cons (pv 1) pa_nil))))
      (pss_cons (ps_if (pt_cmpR op_eq (pv 0) pe_int (nomark _)) (pss_one (ps_ret (pe_call G_name_in (hr.mono (by decide)) rfl T.m_name_in T.F_name_in.kp T.b_name_in .nil takes_cx.passes (pa_cons (pv 2) pa_nil)))) pss_nil)
      (pss_cons (ps_if (pt_cmpR op_eq (pv 0) pe_int (nomark _)) (pss_one (ps_ret (pe_call G_number_from_to (hr.mono (by decide)) rfl T.m_number_from_to T.F_number_from_to.kp T.b_number_from_to .nil takes_cx.passes (pa_cons (pv 2) (pa_cons pe_int (pa_cons (pe_glob (v := .int 32) rfl T.c_MOST_LENGTH ⟨_, rfl⟩) pa_nil)))))) pss_nil)
      (pss_cons (ps_if (pt_cmpR op_eq (pv 0) pe_int (nomark _)) (pss_one (ps_ret (pe_call G_number_from_to (hr.mono (by decide)) rfl T.m_number_from_to T.F_number_from_to.kp T.b_number_from_to .nil takes_cx.passes (pa_cons (pv 2) (pa_cons pe_int (pa_cons (pe_glob (v := .int 8) rfl T.c_MOST_HEIGHT ⟨_, rfl⟩) pa_nil)))))) pss_nil)
      (pss_one (ps_ret (pe_call G_end_in (hr.mono (by decide)) rfl T.m_end_in T.F_end_in.kp T.b_end_in .nil takes_cx.passes (pa_cons (pv 2) pa_nil)))))))), ?_⟩
    have hw : (headStr i).cps.toList = (Bd.ascii (HEAD i)).map (·.toNat) ∧ (Bd.ascii (HEAD i)).length < 1000 ∧ ([V.str "wall", .str "long", .str "high", .str "left", .str "right", .str "reveal"] : List V)[i]? = some (.str (headStr i)) := by
      match i, hi with
      | 0, _ => exact ⟨by decide, by decide, rfl⟩
      | 1, _ => exact ⟨by decide, by decide, rfl⟩
      | 2, _ => exact ⟨by decide, by decide, rfl⟩
      | 3, _ => exact ⟨by decide, by decide, rfl⟩
      | 4, _ => exact ⟨by decide, by decide, rfl⟩
      | 5, _ => exact ⟨by decide, by decide, rfl⟩
      | n + 6, h => omega
    refine ⟨_, rfl, a.p_HEAD_WORDS, _, _, _, rfl, rfl, T.q_HEAD_WORDS _, atI_nat hw.2.2, _, rfl, headStr i, l, Bd.ascii (HEAD i), line, rfl, hw.1, hw.2.1, hS, hl, ?_⟩
    rw [headB_one] at k
    cases hf : oneB (Bd.ascii (HEAD i)) line with
    | none =>
      rw [hf] at k
      exact k
    | some x =>
      rw [hf] at k
      intro H1 f s1 fH hx hxl
      dsimp only at k
      unfold fieldB at k
      refine ⟨_, rfl, rfl, _, rfl, ?_⟩
      by_cases i0 : i = 0
      · subst i0
        rw [if_pos rfl] at k
        refine iteT ⟨_, rfl, f, x, rfl, SqL.of hx, hxl, ?_⟩
        cases hn : nameB x with
        | error e =>
          rw [hn] at k
          exact k.same s1
        | ok b =>
          rw [hn] at k
          intro H2 s2
          have eb : b = x := by
            unfold nameB at hn
            by_cases q1 : x = [] ∨ x.all Bd.isSmall = false
            · rw [if_pos q1] at hn
              cases hn
            · rw [if_neg q1] at hn
              by_cases q2 : 15 < x.length
              · rw [if_pos q2] at hn
                cases hn
              · rw [if_neg q2] at hn
                exact (Except.ok.inj hn).symm
          subst eb
          exact k H2 (.ref f) (s1.trans s2) ⟨f, rfl, s2 _ _ hx⟩ (fun q e => by cases e; exact fH)
      · rw [if_neg i0] at k
        rw [decide_eq_false (show ¬ V.int ((i : Nat) : Int) = V.int 0 from fun z => i0 (by have := V.int.inj z; omega))]
        refine iteF ⟨_, rfl, rfl, _, rfl, ?_⟩
        by_cases i1 : i = 1
        · subst i1
          rw [if_pos rfl] at k
          refine iteT ⟨_, rfl, f, x, 1, 32, rfl, SqL.of hx, hxl, ?_⟩
          cases hn : sizeB x 32 with
          | error e =>
            rw [hn] at k
            rw [show rangeB x 1 32 = .error e from hn]
            exact k.same s1
          | ok n =>
            rw [hn] at k
            rw [show rangeB x 1 32 = .ok n from hn]
            exact fun H2 s2 => k H2 _ (s1.trans s2) rfl (fun q e => nomatch e)
        · rw [if_neg i1] at k
          rw [decide_eq_false (show ¬ V.int ((i : Nat) : Int) = V.int 1 from fun z => i1 (by have := V.int.inj z; omega))]
          refine iteF ⟨_, rfl, rfl, _, rfl, ?_⟩
          by_cases i2 : i = 2
          · subst i2
            rw [if_pos rfl] at k
            refine iteT ⟨_, rfl, f, x, 1, 8, rfl, SqL.of hx, hxl, ?_⟩
            cases hn : sizeB x 8 with
            | error e =>
              rw [hn] at k
              rw [show rangeB x 1 8 = .error e from hn]
              exact k.same s1
            | ok n =>
              rw [hn] at k
              rw [show rangeB x 1 8 = .ok n from hn]
              exact fun H2 s2 => k H2 _ (s1.trans s2) rfl (fun q e => nomatch e)
          · rw [if_neg i2] at k
            rw [decide_eq_false (show ¬ V.int ((i : Nat) : Int) = V.int 2 from fun z => i2 (by have := V.int.inj z; omega))]
            refine iteF ⟨_, rfl, f, x, rfl, SqL.of hx, hxl, ?_⟩
            cases hn : endB x with
            | none =>
              rw [hn] at k
              exact k.same s1
            | some n =>
              rw [hn] at k
              exact fun H2 s2 => k H2 _ (s1.trans s2) rfl (fun q e => nomatch e)
end
end Wb
end
section
set_option Elab.async false
set_option linter.all false
set_option maxRecDepth 100000
set_option maxHeartbeats 4000000
namespace Wb
open PySem PySem.Spec PyProof.Rows L2 Wm
open PySem.W (Codec)
/-! ### a wall read -/
theorem Paired.getR {α β : Type} {F : α → β → Prop} : ∀ {as : List α} {bs : List β} {i : Nat} {y : β}, Paired F as bs → bs[i]? = some y → ∃ x, as[i]? = some x ∧ F x y
  | _, _, _, _, .nil, h => by simp at h
  | _, _, 0, _, .cons h t, e => by
    have e' := Option.some.inj e
    subst e'
    exact ⟨_, rfl, h⟩
  | _, _, i + 1, x, .cons h t, e => Paired.getR (i := i) t e
/-- a head's values are of their kinds -/
def Kinds (h : List HV) : Prop := ∀ (n : Nat) (x : HV), h[n]? = some x → if n = 0 then ∃ b, x = .nm b else ∃ m, x = .num m
theorem Kinds.snoc {h : List HV} {x : HV} {line : Bd.Bytes} (k : Kinds h) (e : headB h.length line = .ok x) : Kinds (h ++ [x]) := by
  intro n y hy
  by_cases hn : n < h.length
  · rw [List.getElem?_append_left hn] at hy
    exact k n y hy
  · have en : n = h.length := by
      have z := (List.getElem?_eq_some_iff.mp hy).1
      simp at z
      omega
    subst en
    rw [List.getElem?_append_right (Nat.le_refl _), Nat.sub_self] at hy
    obtain rfl : x = y := Option.some.inj hy
    unfold headB at e
    generalize fieldsB (Bd.ascii (HEAD h.length)) line = r at e
    match r, e with
    | none, e => cases e
    | some [], e => cases e
    | some (_ :: _ :: _), e => cases e
    | some [z], e =>
      dsimp only at e
      unfold fieldB at e
      by_cases h0 : h.length = 0
      · rw [if_pos h0] at e ⊢
        cases q : nameB z with
        | error k => rw [q] at e; cases e
        | ok b => rw [q] at e; exact ⟨b, (Except.ok.inj e).symm⟩
      · rw [if_neg h0] at e ⊢
        by_cases h1 : h.length = 1
        · rw [if_pos h1] at e
          cases q : sizeB z 32 with
          | error k => rw [q] at e; cases e
          | ok b => rw [q] at e; exact ⟨b, (Except.ok.inj e).symm⟩
        · rw [if_neg h1] at e
          by_cases h2 : h.length = 2
          · rw [if_pos h2] at e
            cases q : sizeB z 8 with
            | error k => rw [q] at e; cases e
            | ok b => rw [q] at e; exact ⟨b, (Except.ok.inj e).symm⟩
          · rw [if_neg h2] at e
            cases q : endB z with
            | none => rw [q] at e; cases e
            | some b => rw [q] at e; exact ⟨b, (Except.ok.inj e).symm⟩
theorem Kinds.num {h : List HV} (k : Kinds h) {n : Nat} (hn : n < h.length) (h0 : n ≠ 0) : ∃ m, h[n]? = some (.num m) ∧ Wm.numAt h n = m := by
  have e : h[n]? = some h[n] := List.getElem?_eq_getElem hn
  have z := k n _ e
  rw [if_neg h0] at z
  obtain ⟨m, z⟩ := z
  rw [z] at e
  exact ⟨m, e, by unfold Wm.numAt; rw [e]⟩
theorem takeB_len {h h' : List HV} {os os' : List Bd.Opening} {line : Bd.Bytes} (e : takeB h os line = .ok (h', os')) (kd : Kinds h) (h6 : h.length ≤ 6) (o8 : os.length ≤ 8) : h'.length ≤ 6 ∧ os'.length ≤ 8 ∧ Kinds h' := by
  unfold takeB at e
  by_cases q : h.length < 6
  · rw [if_pos q] at e
    cases hb : headB h.length line with
    | error k => rw [hb] at e; cases e
    | ok v =>
      rw [hb] at e
      have e' : (h ++ [v], os) = (h', os') := Except.ok.inj e
      obtain ⟨rfl, rfl⟩ := Prod.mk.inj e'
      exact ⟨by simp; omega, o8, kd.snoc hb⟩
  · rw [if_neg q] at e
    cases hb : openB line (Wm.numAt h 1) (Wm.numAt h 2) os with
    | error k => rw [hb] at e; cases e
    | ok p =>
      rw [hb] at e
      have e' : (h, os ++ [p]) = (h', os') := Except.ok.inj e
      obtain ⟨rfl, rfl⟩ := Prod.mk.inj e'
      refine ⟨h6, ?_, kd⟩
      have lt : ¬ 8 ≤ os.length := fun z => by
        unfold openB at hb
        generalize ((fieldsB (Bd.ascii "open") line).bind fun r => r.mapM Bd.readNumber) = r at hb
        match r, hb with
        | none, hb => cases hb
        | some [], hb => cases hb
        | some [_], hb => cases hb
        | some [_, _], hb => cases hb
        | some [_, _, _], hb => cases hb
        | some (_ :: _ :: _ :: _ :: _ :: _), hb => cases hb
        | some [x0, x1, x2, x3], hb =>
          dsimp only at hb
          by_cases q1 : Bd.Opening.within ⟨x0, x1, x2, x3⟩ (Wm.numAt h 1) (Wm.numAt h 2) = false
          · rw [if_pos q1] at hb; cases hb
          · rw [if_neg q1] at hb
            by_cases q2 : (os.getLast?.any fun (p : Bd.Opening) => !p.before ⟨x0, x1, x2, x3⟩) = true
            · rw [if_pos q2] at hb; cases hb
            · rw [if_neg q2] at hb
              by_cases q3 : (os.any fun (p : Bd.Opening) => p.meets ⟨x0, x1, x2, x3⟩) = true
              · rw [if_pos q3] at hb; cases hb
              · rw [if_neg q3, if_pos z] at hb; cases hb
      simp
      omega
/-- a or b, the heap growing -/
theorem rd_orS {σ : L2.St} {H : Hp} {ta tb : TT} {x y : Bool} {Q : Bool → Hp → Prop} (S : Hp → Prop) (ha : ∀ R : Bool → Hp → Prop, (∀ H1, S H1 → R x H1) → ta σ H R) (hb : x = false → ∀ H1, S H1 → ∀ R : Bool → Hp → Prop, (∀ H2, S H2 → R y H2) → tb σ H1 R)
    (h : ∀ H2, S H2 → Q (x || y) H2) : tOr ta tb σ H Q := by
  refine ha _ fun H1 s1 => ?_
  cases x with
  | true => exact iteT (h H1 s1)
  | false => exact iteF (hb rfl H1 s1 _ h)
/-! ### a wall's reader -/
def wrF (pl ph po : Addr) : List (Str × V) := [("lines", .ref pl), ("head", .ref ph), ("openings", .ref po)]
/-- a wall's reader stands at r, its lists at pl, ph, po -/
structure WRd (Z : List Addr) (CR CO : Addr) (H : Hp) (r dx pl ph po : Addr) (hvs : List V) (as las : List Addr) (s : WS) : Prop where
  ob : H r = some (.ins CR dx (wrF pl ph po))
  hd : H ph = some (.lst hvs)
  hv : Paired (HvIs H) hvs s.1
  off : ∀ v ∈ hvs, HvOff v Z
  op : H po = some (.lst (as.map V.ref))
  os : Ops CO H as s.2.1
  ln : H pl = some (.lst (las.map V.ref))
  rows : Rows H las s.2.2
  lo : ∀ x ∈ las, x ∉ Z
  z1 : pl ∈ Z
  z2 : ph ∈ Z
  z3 : po ∈ Z
  n1 : pl ≠ ph
  n2 : pl ≠ po
  n3 : ph ≠ po
  h6 : s.1.length ≤ 6
  o8 : s.2.1.length ≤ 8
  l14 : s.2.2.length = s.1.length + s.2.1.length
  kd : Kinds s.1
/-- a wall's reader; its names and lines lie at none of the places Z -/
def WRz (Z : List Addr) (CR CO : Addr) (H : Hp) (X : List Addr) (r : Addr) (s : WS) : Prop := ∃ (dx pl ph po : Addr) (hvs : List V) (as las : List Addr), X = [pl, ph, po] ∧ WRd Z CR CO H r dx pl ph po hvs as las s
def WR (CR CO : Addr) (H : Hp) (X : List Addr) (r : Addr) (s : WS) : Prop := WRz X CR CO H X r s
theorem WRd.keep {Z : List Addr} {CR CO : Addr} {H H' : Hp} {r dx pl ph po : Addr} {hvs : List V} {as las : List Addr} {s : WS} (U : WRd Z CR CO H r dx pl ph po hvs as las s) (k : Same H H') : WRd Z CR CO H' r dx pl ph po hvs as las s :=
  ⟨k _ _ U.ob, k _ _ U.hd, Paired.mapP U.hv fun _ _ h => h.same k, U.off, k _ _ U.op, Ops.same k U.os, k _ _ U.ln, Rows.same k U.rows, U.lo, U.z1, U.z2, U.z3, U.n1, U.n2, U.n3, U.h6, U.o8, U.l14, U.kd⟩
theorem hvs_upd {H : Hp} {p : Addr} {o : HO} {X : List Addr} (hp : p ∈ X) : ∀ {l1 : List V} {l2 : List HV}, Paired (HvIs H) l1 l2 → (∀ v ∈ l1, HvOff v X) → Paired (HvIs (upd H p o)) l1 l2
  | _, _, .nil, _ => .nil
  | _, _, .cons (b := z) f t, off => .cons (match z, f with
      | .nm b, ⟨q, e, f⟩ => ⟨q, e, by rw [upd_ne (fun z => off _ (by simp) q e (by rw [z]; exact hp))]; exact f⟩
      | .num n, f => f) (hvs_upd hp t fun v hv => off v (by simp [hv]))
theorem ops_upd {CO : Addr} {H : Hp} {p : Addr} {xs ys : List V} (hp : H p = some (.lst xs)) : ∀ {as : List Addr} {os : List Bd.Opening}, Ops CO H as os → Ops CO (upd H p (.lst ys)) as os :=
  fun r => Paired.mapP r fun q o ⟨dq, e⟩ => ⟨dq, by rw [upd_ne (ne_of e hp (by intro z; cases z))]; exact e⟩
/-- a reader takes a line -/
def spTakeG {S : Type} (Rd : Hp → List Addr → Addr → S → Prop) (step : S → Bd.Bytes → Except Nat S) (CL : Addr) : Sp := fun vs H Q E => ∃ (r l : Addr) (X : List Addr) (s : S) (line : Bd.Bytes), vs = [.ref r, .ref l] ∧ Rd H X r s ∧ H l = some (.lst (iB line)) ∧ l ∉ X ∧ line.length ≤ 10000 ∧
  match step s line with
  | .error k => Fails CL E H k
  | .ok s' => ∀ (H' : Hp) (X' : List Addr), (∀ b o, H b = some o → b ∉ X → H' b = some o) → Rd H' X' r s' → (∀ x ∈ X', x ∈ X ∨ H x = none) → Q .non H'
/-- a reader takes what stands behind the last line -/
def spRestG {S : Type} (Rd : Hp → List Addr → Addr → S → Prop) (fin : S → Bd.Bytes → Option Nat) (CL : Addr) : Sp := fun vs H Q E => ∃ (r l : Addr) (X : List Addr) (s : S) (line : Bd.Bytes), vs = [.ref r, .ref l] ∧ Rd H X r s ∧ H l = some (.lst (iB line)) ∧ line.length ≤ 10000 ∧
  match fin s line with
  | some k => Fails CL E H k
  | none => ∀ H' : Hp, Same H H' → Q .non H'
/-- a wall's reader takes a line, other places being kept off -/
def spTakeZ (CR CO CL : Addr) : Sp := fun vs H Q E => ∃ (r l : Addr) (Z X : List Addr) (s : WS) (line : Bd.Bytes), vs = [.ref r, .ref l] ∧ WRz Z CR CO H X r s ∧ (∀ z ∈ Z, H z ≠ none) ∧ H l = some (.lst (iB line)) ∧ l ∉ Z ∧ line.length ≤ 10000 ∧
  match stepW s line with
  | .error k => Fails CL E H k
  | .ok s' => ∀ H' : Hp, (∀ b o, H b = some o → b ∉ X → H' b = some o) → WRz Z CR CO H' X r s' → Q .non H'
def spHasHead (CR CO : Addr) : Sp := fun vs H Q _ => ∃ (r : Addr) (Z X : List Addr) (s : WS), vs = [.ref r] ∧ WRz Z CR CO H X r s ∧ Q (.bl (decide (s.1.length = 6))) H
def spWRInit (CR CO : Addr) : Sp := fun vs H Q _ => ∃ (r dx : Addr), vs = [.ref r] ∧ H r = some (.ins CR dx []) ∧
  ∀ (H' : Hp) (X : List Addr), (∀ b o, H b = some o → b ≠ r → H' b = some o) → WR CR CO H' X r ([], [], []) → (∀ x ∈ X, H x = none) → Q .non H'
def wlF (v0 v1 v2 v3 v4 v5 v6 : V) : List (Str × V) := [("name", v0), ("length", v1), ("height", v2), ("left", v3), ("right", v4), ("reveal", v5), ("openings", v6)]
def spWallInit (C : Addr) : Sp := fun vs H Q _ => ∃ (p dx hd op : Addr) (v0 v1 v2 v3 v4 v5 : V), vs = [.ref p, .ref hd, .ref op] ∧ H p = some (.ins C dx []) ∧ H hd = some (.lst [v0, v1, v2, v3, v4, v5]) ∧
  ∀ H' : Hp, H' p = some (.ins C dx (wlF v0 v1 v2 v3 v4 v5 (.ref op))) → (∀ b, b ≠ p → H' b = H b) → Q .non H'
/-- a wall stands at p -/
def WallAt (CW CO : Addr) (H : Hp) (p : Addr) (h : List HV) (os : List Bd.Opening) : Prop := ∃ (dx op : Addr) (v0 v1 v2 v3 v4 v5 : V) (as : List Addr), H p = some (.ins CW dx (wlF v0 v1 v2 v3 v4 v5 (.ref op))) ∧ Paired (HvIs H) [v0, v1, v2, v3, v4, v5] h ∧ H op = some (.lst (as.map V.ref)) ∧ Ops CO H as os
section
variable {P : Program} {w : World} {K : PySem.W.Frag} {mg : Str → Option Value} {base : Heap} {a : Ad}
theorem ok_WallReader___init__ (T : Txt K mg a) : FnOk P w K mg base (CXo P w) true 1 a.f_WallReader___init__ a.d_WallReader___init__ ["self"] (spWRInit a.c_WallReader a.c_Opening) := by
  refine fun_ok T.F_WallReader___init__ sc_WallReader___init__ (fun vs H Q E h => ?_) (fun cdv A outer s0 H vs Q E hr h => ?_)
  · obtain ⟨r, dx, rfl, _⟩ := h
    rfl
  · obtain ⟨r, dx, rfl, hp, k⟩ := h
    refine ⟨_, (pss_cons (ps_fld (pv 0) (pe_lst pa_nil) rfl)
      (pss_cons (ps_fld (pv 0) (pe_lst pa_nil) rfl)
      (pss_one (ps_fld (pv 0) (pe_lst pa_nil) rfl)))), ?_⟩
    refine ⟨Nat.zero_le _, fun pl npl => ⟨_, rfl, r, _, dx, _, rfl, by rw [upd_ne (ne_of_none hp npl)]; exact hp, T.C_WallReader, T.n_WallReader_lines, (by show 0 < 1000; decide), ?_⟩⟩
    have rl : r ≠ pl := ne_of_none hp npl
    refine ⟨Nat.zero_le _, fun ph nph => ⟨_, rfl, r, _, dx, _, rfl, by rw [upd_ne (ne_of_none upd_same nph)]; exact upd_same, T.C_WallReader, T.n_WallReader_head, (by show 1 < 1000; decide), ?_⟩⟩
    have rh : r ≠ ph := ne_of_none upd_same nph
    have lh : pl ≠ ph := fun e => by
      rw [upd_ne (Ne.symm rh), ← e, upd_same] at nph
      cases nph
    refine ⟨Nat.zero_le _, fun po npo => ⟨_, rfl, r, _, dx, _, rfl, by rw [upd_ne (ne_of_none upd_same npo)]; exact upd_same, T.C_WallReader, T.n_WallReader_openings, (by show 2 < 1000; decide), ?_⟩⟩
    have ro : r ≠ po := ne_of_none upd_same npo
    rw [upd_ne (Ne.symm ro)] at npo
    have ho : ph ≠ po := fun e => by
      rw [← e, upd_same] at npo
      cases npo
    rw [upd_ne (Ne.symm ho), upd_ne (Ne.symm ro)] at npo
    have lo : pl ≠ po := fun e => by
      rw [← e, upd_same] at npo
      cases npo
    rw [upd_ne (Ne.symm lo)] at npo
    rw [upd_ne (Ne.symm rh), upd_ne (Ne.symm lh)] at nph
    refine k _ [pl, ph, po] (fun b o e br => ?_) ⟨dx, pl, ph, po, [], [], [], rfl, ?_, ?_, .nil, (by simp), ?_, .nil, ?_, .nil, (by simp), (by simp), (by simp), (by simp), lh, lo, ho, by decide, by decide, rfl, fun n x e => by simp at e⟩ ?_
    · rw [upd_ne br, upd_ne (ne_of_none e npo), upd_ne br, upd_ne (ne_of_none e nph), upd_ne br, upd_ne (ne_of_none e npl)]
      exact e
    · rw [upd_same]
      rfl
    · rw [upd_ne (Ne.symm rh), upd_ne ho, upd_ne (Ne.symm rh), upd_same]
    · rw [upd_ne (Ne.symm ro), upd_same]
      rfl
    · rw [upd_ne (Ne.symm rl), upd_ne lo, upd_ne (Ne.symm rl), upd_ne lh, upd_ne (Ne.symm rl), upd_same]
      rfl
    · intro x hx
      simp only [List.mem_cons, List.mem_nil_iff, or_false] at hx
      rcases hx with rfl | rfl | rfl
      · exact npl
      · exact nph
      · exact npo
theorem ok_WallReader_has_head (T : Txt K mg a) : FnOk P w K mg base (CXo P w) true 1 a.f_WallReader_has_head a.d_WallReader_has_head ["self"] (spHasHead a.c_WallReader a.c_Opening) := by
  refine fun_ok T.F_WallReader_has_head sc_WallReader_has_head (fun vs H Q E h => ?_) (fun cdv A outer s0 H vs Q E hr h => ?_)
  · obtain ⟨r, Z, X, s, rfl, _⟩ := h
    rfl
  · obtain ⟨r, Z, X, s, rfl, ⟨dx, pl, ph, po, hvs, as, las, rfl, U⟩, k⟩ := h
    refine ⟨_, (pss_one (ps_ret (pe_cmpR op_eq (pe_callB call_len_seq rfl T.z_len bt_len (pa_cons (pe_fld (pv 0) rfl) pa_nil)) (pe_callB call_len_seq rfl T.z_len bt_len (pa_cons (pe_glob (v := .ref a.p_HEAD_WORDS) rfl T.c_HEAD_WORDS rfl) pa_nil)) (nomark _)))), ?_⟩
    refine ⟨_, rfl, r, _, dx, _, _, rfl, U.ob, T.C_WallReader, T.n_WallReader_head, rfl, ph, _, rfl, .inl (SqL.of U.hd), a.p_HEAD_WORDS, _, rfl, .inr (T.q_HEAD_WORDS _), rfl, ?_⟩
    have len : hvs.length = s.1.length := Paired.length U.hv
    have e : decide (V.int ((hvs.length : Nat) : Int) = V.int ((([V.str "wall", .str "long", .str "high", .str "left", .str "right", .str "reveal"] : List V).length : Nat) : Int)) = decide (s.1.length = 6) := by
      rw [len]
      refine decide_eq_decide.mpr ⟨fun q => ?_, fun q => by rw [q]; rfl⟩
      have q' : ((s.1.length : Nat) : Int) = 6 := V.int.inj q
      omega
    rw [e]
    exact k
theorem ok_WallReader_takeZ (T : Txt K mg a) : FnOk P w K mg base (CXo P w) true 6 a.f_WallReader_take a.d_WallReader_take ["self", "line"] (spTakeZ a.c_WallReader a.c_Opening a.c_LineFault) := by
  have G_WallReader_has_head : FnOk P w K mg base (CXo P w) true 1 a.f_WallReader_has_head a.d_WallReader_has_head ["self"] (spHasHead a.c_WallReader a.c_Opening) := ok_WallReader_has_head T
  have G_head_value : FnOk P w K mg base (CXo P w) true 5 a.f_head_value a.d_head_value ["number", "line"] (spHead K a.c_LineFault) := ok_head_value T
  have G_opening_in : FnOk P w K mg base (CXo P w) true 5 a.f_opening_in a.d_opening_in ["line", "length", "height", "before"] (spOpening K a.c_Opening a.c_LineFault) := ok_opening_in T
  refine fun_ok T.F_WallReader_take sc_WallReader_take (fun vs H Q E h => ?_) (fun cdv A outer s0 H vs Q E hr h => ?_)
  · obtain ⟨r, l, Z, X, s, line, rfl, _⟩ := h
    rfl
  · obtain ⟨r, l, Z, X, ⟨h, os, ls⟩, line, rfl, ⟨dx, pl, ph, po, hvs, as, las, rfl, U⟩, hZ, hL, nl, hl, k⟩ := h
    have zl := szl
    have len : hvs.length = h.length := Paired.length U.hv
    have leno : as.length = os.length := Paired.length U.os
    have lenl : las.length = ls.length := Paired.length U.rows
    have h6 : h.length ≤ 6 := U.h6
    have o8 : os.length ≤ 8 := U.o8
    have l14 : ls.length = h.length + os.length := U.l14
    have kd : Kinds h := U.kd
    refine ⟨_, (pss_cons (ps_if (pt_val (pe_meth0 (pv 0) T.C_WallReader T.M_WallReader_has_head G_WallReader_has_head (hr.mono (by decide)) T.b_WallReader_has_head .nil takes_cx.passes)) (pss_one (ps_expr (pe_bm PySem.F.plainAttrs_list PySem.F.slot_list_append PySem.F.type_list_append mt_append (pe_fld (pv 0) rfl) (pa_cons (pe_call G_opening_in (hr.mono (by decide)) rfl T.m_opening_in T.F_opening_in.kp T.b_opening_in .nil takes_cx.passes (pa_cons (pv 1) (pa_cons (pe_ix ix_list (pe_fld (pv 0) rfl) pe_int (fun _ _ => rfl)) (pa_cons (pe_ix ix_list (pe_fld (pv 0) rfl) pe_int (fun _ _ => rfl)) (pa_cons (pe_fld (pv 0) rfl) pa_nil))))) pa_nil)))) (pss_one (ps_expr (pe_bm PySem.F.plainAttrs_list PySem.F.slot_list_append PySem.F.type_list_append mt_append (pe_fld (pv 0) rfl) (pa_cons (pe_call G_head_value (hr.mono (by decide)) rfl T.m_head_value T.F_head_value.kp T.b_head_value .nil takes_cx.passes (pa_cons (pe_callB call_len_seq rfl T.z_len bt_len (pa_cons (pe_fld (pv 0) rfl) pa_nil)) (pa_cons (pv 1) pa_nil))) pa_nil)))))
      (pss_one (ps_expr (pe_bm PySem.F.plainAttrs_list PySem.F.slot_list_append PySem.F.type_list_append mt_append (pe_fld (pv 0) rfl) (pa_cons (pv 1) pa_nil))))), ?_⟩
    refine ⟨_, rfl, r, dx, _, rfl, U.ob, rfl, r, Z, _, _, rfl, ⟨dx, pl, ph, po, hvs, as, las, rfl, U⟩, _, rfl, ?_⟩
    unfold stepW takeB at k
    dsimp only at k ⊢
    by_cases hlt : h.length < 6
    · rw [if_pos hlt] at k
      rw [decide_eq_false (show ¬ h.length = 6 by omega)]
      refine iteF ⟨_, rfl, r, _, dx, _, _, rfl, U.ob, T.C_WallReader, T.n_WallReader_head, rfl, .inl ⟨rfl, _, SqL.of U.hd⟩, _, rfl, r, _, dx, _, _, rfl, U.ob, T.C_WallReader, T.n_WallReader_head, rfl, ph, _, rfl, .inl (SqL.of U.hd), _, rfl, h.length, l, line, (by rw [len]; rfl), hlt, SqL.of hL, hl, ?_⟩
      cases hb : headB h.length line with
      | error e =>
        rw [hb] at k
        exact k
      | ok x =>
        rw [hb] at k
        intro H1 v s1 hv fresh
        have U1 := U.keep s1
        refine ⟨ph, hvs, v, rfl, rfl, U1.hd, (by omega), ?_⟩
        have hvne : HvOff v Z := fun p e m => hZ p m (fresh p e)
        have nr : r ≠ ph := ne_of U1.ob U1.hd (by intro z; cases z)
        have e2 : upd H1 ph (.lst (hvs ++ [v])) pl = some (.lst (las.map V.ref)) := by rw [upd_ne U.n1]; exact U1.ln
        have ob2 : upd H1 ph (.lst (hvs ++ [v])) r = some (.ins a.c_WallReader dx (wrF pl ph po)) := by rw [upd_ne nr]; exact U1.ob
        refine ⟨_, rfl, r, _, dx, _, _, rfl, ob2, T.C_WallReader, T.n_WallReader_lines, rfl, .inl ⟨rfl, _, SqL.of e2⟩, _, rfl, pl, _, _, rfl, rfl, e2, (by rw [List.length_map]; omega), ?_⟩
        have nrl : r ≠ pl := ne_of U1.ob U1.ln (by intro z; cases z)
        have hv2 : HvIs (upd (upd H1 ph (.lst (hvs ++ [v]))) pl (.lst (las.map V.ref ++ [.ref l]))) v x := by
          cases x with
          | nm b =>
            obtain ⟨p, e, q⟩ := hv
            refine ⟨p, e, ?_⟩
            have m := hvne p e
            rw [upd_ne (fun z => m (by rw [z]; exact U.z1)), upd_ne (fun z => m (by rw [z]; exact U.z2))]
            exact q
          | num n => exact hv
        refine k _ (fun b o e n => ?_) ⟨dx, pl, ph, po, hvs ++ [v], as, las ++ [l], rfl, ?_, ?_, ?_, ?_, ?_, ?_, ?_, ?_, ?_, U.z1, U.z2, U.z3, U.n1, U.n2, U.n3, ?_, o8, ?_, kd.snoc hb⟩
        · simp only [List.mem_cons, List.mem_nil_iff, or_false, not_or] at n
          rw [upd_ne n.1, upd_ne n.2.1]
          exact s1 b o e
        · rw [upd_ne nrl, upd_ne nr]
          exact U1.ob
        · rw [upd_ne (Ne.symm U.n1)]
          exact upd_same
        · exact Paired.snoc (hvs_upd (X := Z) U.z1 (hvs_upd (X := Z) U.z2 U1.hv U.off) U.off) hv2
        · intro y hy
          rcases List.mem_append.mp hy with m | m
          · exact U.off y m
          · rw [List.mem_singleton.mp m]
            exact hvne
        · rw [upd_ne (Ne.symm U.n2), upd_ne (Ne.symm U.n3)]
          exact U1.op
        · exact ops_upd e2 (ops_upd U1.hd U1.os)
        · rw [upd_same, List.map_append]
          rfl
        · refine Paired.snoc (Rows.upd (Rows.upd U1.rows fun m => U.lo _ m U.z2) fun m => U.lo _ m U.z1) ?_
          rw [upd_ne (fun z => nl (by rw [z]; exact U.z1)), upd_ne (fun z => nl (by rw [z]; exact U.z2))]
          exact s1 _ _ hL
        · intro y hy
          rcases List.mem_append.mp hy with m | m
          · exact U.lo y m
          · rw [List.mem_singleton.mp m]
            exact nl
        · simp
          omega
        · simp
          omega
    · rw [if_neg hlt] at k
      have e6 : h.length = 6 := by omega
      rw [decide_eq_true e6]
      obtain ⟨m1, q1, e1⟩ := kd.num (n := 1) (by omega) (by decide)
      obtain ⟨m2, q2, e2''⟩ := kd.num (n := 2) (by omega) (by decide)
      rw [e1, e2''] at k
      obtain ⟨v1, g1, r1⟩ := Paired.getR U.hv q1
      obtain ⟨v2, g2, r2⟩ := Paired.getR U.hv q2
      obtain rfl : v1 = .int ((m1 : Nat) : Int) := r1
      obtain rfl : v2 = .int ((m2 : Nat) : Int) := r2
      refine iteT ⟨_, rfl, r, _, dx, _, _, rfl, U.ob, T.C_WallReader, T.n_WallReader_openings, rfl, .inl ⟨rfl, _, SqL.of U.op⟩, _, rfl, _, rfl, r, _, dx, _, _, rfl, U.ob, T.C_WallReader, T.n_WallReader_head, rfl, ph, _, _, _, rfl, rfl, SqL.of U.hd, atI_nat (j := 1) g1, _, rfl, r, _, dx, _, _, rfl, U.ob, T.C_WallReader, T.n_WallReader_head, rfl, ph, _, _, _, rfl, rfl, SqL.of U.hd, atI_nat (j := 2) g2, _, rfl, r, _, dx, _, _, rfl, U.ob, T.C_WallReader, T.n_WallReader_openings, rfl, l, po, line, m1, m2, as, os, rfl, SqL.of hL, hl, U.op, U.os, o8, ?_⟩
      cases hb : openB line m1 m2 os with
      | error e =>
        rw [hb] at k
        exact k
      | ok o =>
        rw [hb] at k
        intro H1 p s1 np hp
        have U1 := U.keep s1
        refine ⟨po, _, _, rfl, rfl, U1.op, (by rw [List.length_map]; omega), ?_⟩
        have nr : r ≠ po := ne_of U1.ob U1.op (by intro z; cases z)
        have e2 : upd H1 po (.lst (as.map V.ref ++ [.ref p])) pl = some (.lst (las.map V.ref)) := by rw [upd_ne U.n2]; exact U1.ln
        have ob2 : upd H1 po (.lst (as.map V.ref ++ [.ref p])) r = some (.ins a.c_WallReader dx (wrF pl ph po)) := by rw [upd_ne nr]; exact U1.ob
        refine ⟨_, rfl, r, _, dx, _, _, rfl, ob2, T.C_WallReader, T.n_WallReader_lines, rfl, .inl ⟨rfl, _, SqL.of e2⟩, _, rfl, pl, _, _, rfl, rfl, e2, (by rw [List.length_map]; omega), ?_⟩
        have nrl : r ≠ pl := ne_of U1.ob U1.ln (by intro z; cases z)
        have e9 : os.length < 8 := by
          have z := (takeB_len (h := h) (os := os) (h' := h) (os' := os ++ [o]) (line := line) (by unfold takeB; rw [if_neg hlt, e1, e2'', hb]) kd h6 o8).2.1
          simp at z
          omega
        refine k _ (fun b o e n => ?_) ⟨dx, pl, ph, po, hvs, as ++ [p], las ++ [l], rfl, ?_, ?_, ?_, U.off, ?_, ?_, ?_, ?_, ?_, U.z1, U.z2, U.z3, U.n1, U.n2, U.n3, h6, ?_, ?_, kd⟩
        · simp only [List.mem_cons, List.mem_nil_iff, or_false, not_or] at n
          rw [upd_ne n.1, upd_ne n.2.2]
          exact s1 b o e
        · rw [upd_ne nrl, upd_ne nr]
          exact U1.ob
        · rw [upd_ne (Ne.symm U.n1), upd_ne U.n3]
          exact U1.hd
        · exact hvs_upd (X := Z) U.z1 (hvs_upd (X := Z) U.z3 U1.hv U.off) U.off
        · rw [upd_ne (Ne.symm U.n2), upd_same, List.map_append]
          rfl
        · have up : ∀ (q : Addr) (z : Bd.Opening), OpAt a.c_Opening H1 q z → OpAt a.c_Opening (upd (upd H1 po (.lst (as.map V.ref ++ [.ref p]))) pl (.lst (las.map V.ref ++ [.ref l]))) q z := fun q z ⟨dq, e⟩ => ⟨dq, by rw [upd_ne (ne_of e U1.ln (by intro z; cases z)), upd_ne (ne_of e U1.op (by intro z; cases z))]; exact e⟩
          exact Paired.snoc (Paired.mapP U1.os fun q o h => up q o h) (up _ _ hp)
        · rw [upd_same, List.map_append]
          rfl
        · refine Paired.snoc (Rows.upd (Rows.upd U1.rows fun m => U.lo _ m U.z3) fun m => U.lo _ m U.z1) ?_
          rw [upd_ne (fun z => nl (by rw [z]; exact U.z1)), upd_ne (fun z => nl (by rw [z]; exact U.z3))]
          exact s1 _ _ hL
        · intro y hy
          rcases List.mem_append.mp hy with m | m
          · exact U.lo y m
          · rw [List.mem_singleton.mp m]
            exact nl
        · simp
          omega
        · simp
          omega
theorem WRz.has {Z : List Addr} {CR CO : Addr} {H : Hp} {X : List Addr} {r : Addr} {s : WS} (h : WRz Z CR CO H X r s) : ∀ x ∈ X, ∃ xs, H x = some (.lst xs) := by
  obtain ⟨dx, pl, ph, po, hvs, as, las, rfl, U⟩ := h
  intro x hx
  simp only [List.mem_cons, List.mem_nil_iff, or_false] at hx
  rcases hx with rfl | rfl | rfl
  · exact ⟨_, U.ln⟩
  · exact ⟨_, U.hd⟩
  · exact ⟨_, U.op⟩
theorem WR.has {CR CO : Addr} {H : Hp} {X : List Addr} {r : Addr} {s : WS} (h : WR CR CO H X r s) : ∀ x ∈ X, H x ≠ none := fun x hx e => by
  obtain ⟨xs, e2⟩ := WRz.has h x hx
  rw [e2] at e
  cases e
theorem ok_WallReader_take (T : Txt K mg a) : FnOk P w K mg base (CXo P w) true 6 a.f_WallReader_take a.d_WallReader_take ["self", "line"] (spTakeG (WR a.c_WallReader a.c_Opening) stepW a.c_LineFault) := by
  refine (ok_WallReader_takeZ T).imp fun vs H Q E h => ?_
  obtain ⟨r, l, X, s, line, rfl, W, hL, nl, hl, k⟩ := h
  refine ⟨r, l, X, X, s, line, rfl, W, W.has, hL, nl, hl, ?_⟩
  cases hs : stepW s line with
  | error e =>
    rw [hs] at k
    exact k
  | ok s' =>
    rw [hs] at k
    exact fun H' f W' => k H' X f W' fun x hx => .inl hx
theorem ok_WallReader_take_rest (T : Txt K mg a) : FnOk P w K mg base (CXo P w) true 3 a.f_WallReader_take_rest a.d_WallReader_take_rest ["self", "rest"] (spRestG (WR a.c_WallReader a.c_Opening) finW a.c_LineFault) := by
  have G_WallReader_has_head : FnOk P w K mg base (CXo P w) true 1 a.f_WallReader_has_head a.d_WallReader_has_head ["self"] (spHasHead a.c_WallReader a.c_Opening) := ok_WallReader_has_head T
  have G_LineFault___init__ : FnOk P w K mg base (CXo P w) true 1 a.f_LineFault___init__ a.d_LineFault___init__ ["self", "kind"] (spErr1 a.c_LineFault "kind") := ok_LineFault___init__ T
  refine fun_ok T.F_WallReader_take_rest sc_WallReader_take_rest (fun vs H Q E h => ?_) (fun cdv A outer s0 H vs Q E hr h => ?_)
  · obtain ⟨r, l, X, s, line, rfl, _⟩ := h
    rfl
  · obtain ⟨r, l, X, ⟨h, os, ls⟩, line, rfl, ⟨dx, pl, ph, po, hvs, as, las, rfl, U⟩, hL, hl, k⟩ := h
    refine ⟨_, (pss_one (ps_if (PW.pt (pw_or (pt_cmpR (op_neD hr.units) (pv 1) (pe_lst pa_nil) (nomark _)) (pw_or1 (pt_not (pt_val (pe_meth0 (pv 0) T.C_WallReader T.M_WallReader_has_head G_WallReader_has_head (hr.mono (by decide)) T.b_WallReader_has_head .nil takes_cx.passes)))))) (pss_one (ps_raise takes_cx rfl (pe_makeX T.X_LineFault G_LineFault___init__ (hr.mono (by decide)) rfl T.m_LineFault T.b_LineFault___init__ takes_cx (pa_cons (pe_glob (v := .int 1) rfl T.c_OTHER_LINE ⟨_, rfl⟩) pa_nil)))) pss_nil)), ?_⟩
    have h6 : h.length ≤ 6 := U.h6
    unfold finW at k
    dsimp only [tNext, tSeq, tIfS] at k ⊢
    refine rd_orS (x := !decide (line = [])) (y := !decide (h.length = 6)) (fun H6 => Same H H6) (fun R r' => ?_) (fun _ H6 s6 R r' => ?_) fun H6 s6 => ?_
    · refine ⟨_, rfl, Nat.zero_le _, fun p1 n1 => ?_⟩
      have s1 : Same H (upd H p1 (.lst [])) := (Same.refl _).new n1
      refine ⟨_, _, dp_iB (SqL.of (s1 _ _ hL)), dp_iB (b := []) (SqL.of upd_same), shaped_dI _, shaped_dI _, _, rfl, ?_⟩
      rw [eqv_jB]
      exact r' _ s1
    · exact ⟨_, rfl, r, dx, _, rfl, s6 _ _ U.ob, rfl, r, _, _, _, rfl, ⟨dx, pl, ph, po, hvs, as, las, rfl, U.keep s6⟩, _, rfl, r' _ s6⟩
    · by_cases q : h.length < 6 ∨ line ≠ []
      · rw [if_pos q] at k
        rw [show (!decide (line = []) || !decide (h.length = 6)) = true by
          rw [Bool.or_eq_true, Bool.not_eq_true', Bool.not_eq_true', decide_eq_false_iff_not, decide_eq_false_iff_not]
          rcases q with q | q
          · exact .inr (by omega)
          · exact .inl q]
        exact iteT (raise_line T (k.same s6))
      · rw [if_neg q] at k
        rw [show (!decide (line = []) || !decide (h.length = 6)) = false by
          rw [Bool.eq_false_iff]
          intro z
          rw [Bool.or_eq_true, Bool.not_eq_true', Bool.not_eq_true', decide_eq_false_iff_not, decide_eq_false_iff_not] at z
          exact q (z.elim .inr fun z => .inl (by omega))]
        exact iteF (k _ s6)
theorem ok_Wall___init__ (T : Txt K mg a) : FnOk P w K mg base (CXo P w) true 1 a.f_Wall___init__ a.d_Wall___init__ ["self", "head", "openings"] (spWallInit a.c_Wall) := by
  refine fun_ok T.F_Wall___init__ sc_Wall___init__ (fun vs H Q E h => ?_) (fun cdv A outer s0 H vs Q E hr h => ?_)
  · obtain ⟨p, dx, hd, op, v0, v1, v2, v3, v4, v5, rfl, _⟩ := h
    rfl
  · obtain ⟨p, dx, l, op, v0, v1, v2, v3, v4, v5, rfl, hp, hl, k⟩ := h
    have lp : l ≠ p := ne_of hl hp (by intro z; cases z)
    refine ⟨_, (pss_cons (ps_fld (pv 0) (pe_ix ix_list (pv 1) pe_int (fun _ _ => rfl)) rfl)
      (pss_cons (ps_fld (pv 0) (pe_ix ix_list (pv 1) pe_int (fun _ _ => rfl)) rfl)
      (pss_cons (ps_fld (pv 0) (pe_ix ix_list (pv 1) pe_int (fun _ _ => rfl)) rfl)
      (pss_cons (ps_fld (pv 0) (pe_ix ix_list (pv 1) pe_int (fun _ _ => rfl)) rfl)
      (pss_cons (ps_fld (pv 0) (pe_ix ix_list (pv 1) pe_int (fun _ _ => rfl)) rfl)
      (pss_cons (ps_fld (pv 0) (pe_ix ix_list (pv 1) pe_int (fun _ _ => rfl)) rfl)
      (pss_one (ps_fld (pv 0) (pv 2) rfl)))))))), ?_⟩
    refine ⟨_, rfl, l, _, _, _, rfl, rfl, SqL.of hl, atI_nat (j := 0) rfl, _, rfl, p, _, dx, _, rfl, hp, T.C_Wall, T.n_Wall_name, (by show 0 < 1000; decide), ?_⟩
    refine ⟨_, rfl, l, _, _, _, rfl, rfl, SqL.of (by rw [upd_ne lp]; exact hl), atI_nat (j := 1) rfl, _, rfl, p, _, dx, _, rfl, upd_same, T.C_Wall, T.n_Wall_length, (by show 1 < 1000; decide), ?_⟩
    rw [upd_upd]
    refine ⟨_, rfl, l, _, _, _, rfl, rfl, SqL.of (by rw [upd_ne lp]; exact hl), atI_nat (j := 2) rfl, _, rfl, p, _, dx, _, rfl, upd_same, T.C_Wall, T.n_Wall_height, (by show 2 < 1000; decide), ?_⟩
    rw [upd_upd]
    refine ⟨_, rfl, l, _, _, _, rfl, rfl, SqL.of (by rw [upd_ne lp]; exact hl), atI_nat (j := 3) rfl, _, rfl, p, _, dx, _, rfl, upd_same, T.C_Wall, T.n_Wall_left, (by show 3 < 1000; decide), ?_⟩
    rw [upd_upd]
    refine ⟨_, rfl, l, _, _, _, rfl, rfl, SqL.of (by rw [upd_ne lp]; exact hl), atI_nat (j := 4) rfl, _, rfl, p, _, dx, _, rfl, upd_same, T.C_Wall, T.n_Wall_right, (by show 4 < 1000; decide), ?_⟩
    rw [upd_upd]
    refine ⟨_, rfl, l, _, _, _, rfl, rfl, SqL.of (by rw [upd_ne lp]; exact hl), atI_nat (j := 5) rfl, _, rfl, p, _, dx, _, rfl, upd_same, T.C_Wall, T.n_Wall_reveal, (by show 5 < 1000; decide), ?_⟩
    rw [upd_upd]
    refine ⟨_, rfl, _, rfl, p, _, dx, _, rfl, upd_same, T.C_Wall, T.n_Wall_openings, (by show 6 < 1000; decide), ?_⟩
    rw [upd_upd]
    exact k _ upd_same fun b hb => upd_ne hb
end
end Wb
end
section
set_option Elab.async false
set_option linter.all false
set_option maxRecDepth 100000
set_option maxHeartbeats 4000000
namespace Wb
open PySem PySem.Spec PyProof.Rows L2 Wm
open PySem.W (Codec)
/-! ### lines read by a reader -/
/-- an error that tells line i, kind k is taken; what lies at the places X may have changed -/
def FailsX (C : Addr) (E : XK) (H : Hp) (X : List Addr) (i k : Nat) : Prop := ∀ (fr : Bool) (d q : Addr) (H' : Hp), (∀ b o, H b = some o → b ∉ X → (∀ φ, o ≠ .ext φ) → H' b = some o) → H' d = some (.xd (wfF q (.int ((i : Nat) : Int)) (.int ((k : Nat) : Int)))) → H' q = some (.lst []) → E (C, fr) (some d) H'
def FailsW (C : Addr) (E : XK) (H : Hp) (i k : Nat) : Prop := ∀ (fr : Bool) (d q : Addr) (H' : Hp), SameM H H' → H' d = some (.xd (wfF q (.int ((i : Nat) : Int)) (.int ((k : Nat) : Int)))) → H' q = some (.lst []) → E (C, fr) (some d) H'
theorem FailsW.same {C : Addr} {E : XK} {H H1 : Hp} {i k : Nat} (f : FailsW C E H i k) (s : Same H H1) : FailsW C E H1 i k := fun fr d q H' m e e2 => f fr d q H' (s.thenM m) e e2
def spLines {S : Type} (K : PySem.W.Frag) (Rd : Hp → List Addr → Addr → S → Prop) (step : S → Bd.Bytes → Except Nat S) (fin : S → Bd.Bytes → Option Nat) (CF : Addr) : Sp := fun vs H Q E => ∃ (l r : Addr) (X : List Addr) (s0 : S) (t : Bd.Bytes), vs = [.ref l, .ref r] ∧ SqL K H l (iB t) ∧ t.length ≤ 6000 ∧ Rd H X r s0 ∧ (∀ x ∈ X, H x ≠ none) ∧
  match readS step fin s0 (fl 10 t) with
  | .error e => FailsX CF E H X e.1 e.2
  | .ok s => ∀ (H' : Hp) (X' : List Addr), (∀ b o, H b = some o → b ∉ X → H' b = some o) → Rd H' X' r s → (∀ x ∈ X', x ∈ X ∨ H x = none) → Q .non H'
/-- len, with the fragment by its name -/
theorem call_len_seqK {X : Cx} {K : PySem.W.Frag} (hK : X.K = K) : CallR X (.builtin "len") (fun xs H Q => ∃ p ys, xs = [V.ref p] ∧ (SqL K H p ys ∨ SqT K H p ys) ∧ Q (V.int ((ys.length : Nat) : Int)) H) := by
  subst hK
  exact call_len_seq
theorem ix_listK {X : Cx} {K : PySem.W.Frag} (hK : X.K = K) : IxR X (rIxL K) := by
  subst hK
  exact ix_list
/-- all but the last -/
theorem Rows.init {H : Hp} : ∀ {A1 : List Addr} {B1 : List Bd.Bytes} {a1 : Addr} {b1 : Bd.Bytes}, A1.length = B1.length → Rows H (A1 ++ [a1]) (B1 ++ [b1]) → Rows H A1 B1
  | [], [], _, _, _, _ => .nil
  | [], _ :: _, _, _, h, _ => by simp at h
  | _ :: _, [], _, _, h, _ => by simp at h
  | _ :: _, _ :: _, _, _, h, .cons f t => .cons f (Rows.init (by simpa using h) t)
section
variable {P : Program} {w : World} {K : PySem.W.Frag} {mg : Str → Option Value} {base : Heap} {a : Ad}
theorem ok_read_lines {S : Type} {Rd : Hp → List Addr → Addr → S → Prop} {step : S → Bd.Bytes → Except Nat S} {fin : S → Bd.Bytes → Option Nat} {C ft fr : Addr} {dt dr : FuncData} {kt kr : Nat} (T : Txt K mg a) (hC : Cls K C)
    (hM_take : Meth K C "take" ft) (hM_take_rest : Meth K C "take_rest" fr) (hb_take : Binds K dt ["self", "line"] []) (hb_take_rest : Binds K dr ["self", "rest"] [])
    (G1 : FnOk P w K mg base (CXo P w) true kt ft dt ["self", "line"] (spTakeG Rd step a.c_LineFault)) (G2 : FnOk P w K mg base (CXo P w) true kr fr dr ["self", "rest"] (spRestG Rd fin a.c_LineFault)) (hkt : kt ≤ 12) (hkr : kr ≤ 12)
    (obj : ∀ H X r s, Rd H X r s → ∃ dx fs, H r = some (.ins C dx fs) ∧ fs.lookup ("take" : Str) = none ∧ fs.lookup ("take_rest" : Str) = none) (keep : ∀ H H' X r s, Rd H X r s → Same H H' → Rd H' X r s) :
    FnOk P w K mg base (CXo P w) true 13 a.f_read_lines a.d_read_lines ["text", "reader"] (spLines K Rd step fin a.c_TextFault) := by
  have G_split_at : FnOk P w K mg base (CXo P w) true 1 a.f_split_at a.d_split_at ["row", "sign"] (spSplit K) := ok_split_at T
  have G_take : FnOk P w K mg base (CXo P w) true 12 ft dt ["self", "line"] (spTakeG Rd step a.c_LineFault) := G1.mono hkt
  have G_take_rest : FnOk P w K mg base (CXo P w) true 12 fr dr ["self", "rest"] (spRestG Rd fin a.c_LineFault) := G2.mono hkr
  have G_TextFault___init__ : ∀ {cm : Bool}, FnOk P w K mg base (CXo P w) cm 2 a.f_TextFault___init__ a.d_TextFault___init__ ["self", "line", "kind"] (spTextFault a.c_TextFault) := ok_TextFault___init__ T
  refine fun_ok T.F_read_lines sc_read_lines (fun vs H Q E h => ?_) (fun cdv A outer s0 H vs Q E hr h => ?_)
  · obtain ⟨l, r, X, s, t, rfl, _⟩ := h
    rfl
  · obtain ⟨l, r, X, s0, t, rfl, hS, hl, R0, hX, k⟩ := h
    have zl := szl
    obtain ⟨wt2, hwt2⟩ : ∃ wt2 : WX, wt2 = fun σ c dx m => ∃ (d : Addr) (i kk : Nat), c = (a.c_LineFault, true) ∧ dx = some d ∧ m d = some (.xd [("kind", .int ((kk : Nat) : Int))]) ∧ σ.length = 6 ∧ σ[3]? = some (some (.int ((i : Nat) : Int))) ∧ readS step fin s0 (fl 10 t) = .error (i, kk) ∧ (∀ b o, H b = some o → b ∉ X → (∀ φ, o ≠ .ext φ) → m b = some o) := ⟨_, rfl⟩
    obtain ⟨wt1, hwt1⟩ : ∃ wt1 : WX, wt1 = fun σ c dx m => ∃ (d p : Addr) (xs : List V) (kk : Nat), c = (a.c_LineFault, true) ∧ dx = some d ∧ m d = some (.xd [("kind", .int ((kk : Nat) : Int))]) ∧ σ.length = 6 ∧ σ[2]? = some (some (.ref p)) ∧ m p = some (.lst xs) ∧ readS step fin s0 (fl 10 t) = .error (xs.length - 1, kk) ∧ 1 ≤ xs.length ∧ (∀ b o, H b = some o → b ∉ X → (∀ φ, o ≠ .ext φ) → m b = some o) := ⟨_, rfl⟩
    refine ⟨_, (pss_cons (ps_set (i := 2) sc_read_lines.nd rfl (by first | exact Or.inl rfl | exact Or.inr rfl) (pe_call G_split_at (hr.mono (by decide)) rfl T.m_split_at T.F_split_at.kp T.b_split_at .nil takes_cx.passes (pa_cons (pv 0) (pa_cons (pe_glob (v := .int 10) rfl T.c_LINE_FEED ⟨_, rfl⟩) pa_nil))))
      (pss_cons (ps_for takes_cx.po rfl (pi_enum rfl T.z_enumerate (pa_cons (pe_slice sl_list (pv 2) po_none (po_some (pe_un un_neg pe_int))) pa_nil)) (pg_tup rfl (pgs_cons (pg_name (i := 3) sc_read_lines.nd rfl (by first | exact Or.inl rfl | exact Or.inr rfl)) (pgs_cons (pg_name (i := 4) sc_read_lines.nd rfl (by first | exact Or.inl rfl | exact Or.inr rfl)) pgs_nil))) (pss_one (ps_try (Wt := wt2) rfl rfl (fun pn xe tk2 => (pss_one (ps_expr (pe_meth (pv 1) hC hM_take G_take (hr.mono (by decide)) hb_take .nil tk2.passes (pa_cons (pv 4) pa_nil))))) (ph_as (i := 5) takes_cx rfl rfl sc_read_lines.nd rfl rfl rfl T.m_LineFault (fun ea pn xe th20 => (pss_one (ps_raiseFK (K := K) rfl th20 rfl (pe_makeX T.X_TextFault G_TextFault___init__ ((hr.mark).mono (by decide)) rfl T.m_TextFault T.b_TextFault___init__ th20 (pa_cons (pv 3) (pa_cons (pe_fldXK (K := K) rfl (pv 5) rfl) pa_nil))) (pv 5)))) (ph_nil takes_cx)))))
      (pss_one (ps_try (Wt := wt1) rfl rfl (fun pn xe tk1 => (pss_one (ps_expr (pe_meth (pv 1) hC hM_take_rest G_take_rest (hr.mono (by decide)) hb_take_rest .nil tk1.passes (pa_cons (pe_ix (ix_listK (K := K) rfl) (pv 2) (pe_un un_neg pe_int) (fun _ _ => rfl)) pa_nil))))) (ph_as (i := 5) takes_cx rfl rfl sc_read_lines.nd rfl rfl rfl T.m_LineFault (fun ea pn xe th10 => (pss_one (ps_raiseFK (K := K) rfl th10 rfl (pe_makeX T.X_TextFault G_TextFault___init__ ((hr.mark).mono (by decide)) rfl T.m_TextFault T.b_TextFault___init__ th10 (pa_cons (pe_op op_sub (pe_callB (call_len_seqK (K := K) rfl) rfl T.z_len bt_len (pa_cons (pv 2) pa_nil)) pe_int) (pa_cons (pe_fldXK (K := K) rfl (pv 5) rfl) pa_nil))) (pv 5)))) (ph_nil takes_cx)))))), ?_⟩
    -- parts
    refine ⟨_, rfl, l, t, 10, rfl, hS, (by omega), fun H1 p as s1 np fr hp rows => ?_⟩
    have epar := parts_fl 10 t
    rw [← epar] at rows
    unfold parts at rows
    have tln := fl_len 10 t
    generalize hz : fl 10 t = z at *
    obtain ⟨lines, rest⟩ := z
    dsimp only at rows k hwt1 hwt2 tln
    obtain ⟨ri, x, li, y, eas, eli, hx⟩ := Paired.last rows (by simp)
    obtain ⟨e1, e2⟩ := List.append_inj' eli rfl
    obtain rfl : rest = y := by simpa using e2
    subst e1 eas
    have rows' : Rows H1 ri lines := Rows.init (by have q := Paired.length rows; simpa using q) rows
    have lri : ri.length = lines.length := Paired.length rows'
    have R1 := keep _ _ _ _ _ R0 s1
    have hX1 : ∀ b, H b = none → b ∉ X := fun b e m => hX b m e
    -- parts[:-1]
    refine ⟨_, rfl, _, rfl, _, rfl, p, _, rfl, SqL.of hp, fun sl nsl => ?_⟩
    rw [List.map_append, List.map_cons, List.map_nil, cut_init]
    have s2 : Same H1 (upd H1 sl (.lst (ri.map V.ref))) := (Same.refl _).new nsl
    have hsl : upd H1 sl (.lst (ri.map V.ref)) sl = some (.lst (ri.map V.ref)) := upd_same
    have nslX : sl ∉ X := hX1 sl (s1.free nsl)
    generalize upd H1 sl (.lst (ri.map V.ref)) = H2 at s2 hsl
    have R2 := keep _ _ _ _ _ R1 s2
    have npX : p ∉ X := hX1 p np
    -- the rows stay
    have stays : ∀ {H' : Hp}, (∀ b o, H2 b = some o → b ∉ X → H' b = some o) → ∀ b o, H b = some o → b ∉ X → H' b = some o := fun f b o e n => f b o (s2 b o (s1 b o e)) n
    have rowX : ∀ q ∈ ri ++ [x], q ∉ X := fun q hq => hX1 q (fr q hq)
    have fail : ∀ {H6 : Hp} {ea d Tb : Addr} {i kk : Nat}, H6 ea = some (xO a.c_LineFault true (some d) (.ref Tb) ea) → (∀ b o, H b = some o → b ∉ X → (∀ φ, o ≠ .ext φ) → mask H6 b = some o) → readS step fin s0 (lines, rest) = .error (i, kk) →
        ∀ xn, H6 xn = none → ∀ (d' q' : Addr) (H7 : Hp), upd H6 xn (xO a.c_TextFault true none .none xn) d' = none → upd H6 xn (xO a.c_TextFault true none .none xn) q' = none → d' ≠ xn → H7 d' = some (.xd (wfF q' (.int ((i : Nat) : Int)) (.int ((kk : Nat) : Int)))) → H7 q' = some (.lst []) →
          (∀ b, b ≠ xn → b ≠ d' → b ≠ q' → H7 b = upd H6 xn (xO a.c_TextFault true none .none xn) b) → E (a.c_TextFault, false) (some d') (mask H7) ∧ H7 ea = H6 ea ∧ ea ≠ xn := by
      intro H6 ea d Tb i kk l1 sm er xn hxn d' q' H7 nd nq dxn e2 e3 kp
      rw [er] at k
      have q1 : ea ≠ xn := ne_of_none l1 hxn
      have off : ∀ {c : Addr} {o : HO}, H6 c = some o → c ≠ d' ∧ c ≠ q' := fun {c} {o} e => by
        have cx : c ≠ xn := ne_of_none e hxn
        constructor
        · intro z
          rw [← z, upd_ne cx, e] at nd
          cases nd
        · intro z
          rw [← z, upd_ne cx, e] at nq
          cases nq
      refine ⟨k false d' q' _ (fun b o e n m => ?_) (mask_of e2 fun φ q => nomatch q) (mask_of e3 fun φ q => nomatch q), ?_, q1⟩
      · have e6 := mask_some (sm b o e n m)
        have q1 : b ≠ xn := ne_of_none e6 hxn
        refine mask_of ?_ m
        rw [kp b q1 (off e6).1 (off e6).2, upd_ne q1]
        exact e6
      · rw [kp ea q1 (off l1).1 (off l1).2, upd_ne q1]
    refine ⟨sl, _, rfl, SqL.of hsl, for_enum (K := K) (a := sl) (xs := ri.map V.ref) (fun i σ H' => ∃ (v3 v4 v5 : Option V) (X' : List Addr) (s : S), σ = [some (.ref l), some (.ref r), some (.ref p), v3, v4, v5] ∧
        Rd H' X' r s ∧ (∀ x ∈ X', x ∈ X ∨ H2 x = none) ∧ (∀ b o, H2 b = some o → b ∉ X → H' b = some o) ∧ runS step (lines.drop i) i s = runS step lines 0 s0)
      ⟨none, none, none, X, s0, rfl, R2, fun x hx => .inl hx, fun b o e _ => e, rfl⟩
      (fun i σ H' _ ⟨_, _, _, _, _, _, _, _, f, _⟩ => SqL.of (f _ _ hsl nslX)) ?_ ?_⟩
    · rintro i y σ H' tp hi ⟨v3, v4, v5, X', s, rfl, R3, hX', f, run⟩ ntp
      rw [List.getElem?_map] at hi
      obtain ⟨q, hq, rfl⟩ : ∃ q, ri[i]? = some q ∧ y = .ref q := by
        cases e : ri[i]? with
        | none => rw [e] at hi; cases hi
        | some q => rw [e] at hi; exact ⟨q, rfl, (Option.some.inj hi).symm⟩
      obtain ⟨line, hline, hql⟩ := Paired.get rows' hq
      have lll : line.length ≤ 10000 := by
        have m := (split_len 10 t).2 line (by rw [← epar]; exact List.mem_append_left _ (List.mem_of_getElem? hline))
        omega
      have il : i < lines.length := (List.getElem?_eq_some_iff.mp hline).1
      have ed : lines.drop i = line :: lines.drop (i + 1) := by
        rw [List.drop_eq_getElem_cons il]
        congr 1
        rw [List.getElem?_eq_getElem il] at hline
        exact Option.some.inj hline
      rw [ed, runS] at run
      refine ⟨tp, _, rfl, .inl (.inl upd_same), rfl, _, _, rfl, _, _, rfl, rfl, ?_⟩
      have tpne : Same H' (upd H' tp (.tup [.int ((i : Nat) : Int), .ref q])) := (Same.refl _).new ntp
      have R5 := keep _ _ _ _ _ R3 tpne
      have f5 : ∀ b o, H2 b = some o → b ∉ X → upd H' tp (.tup [.int ((i : Nat) : Int), .ref q]) b = some o := fun b o e n => tpne _ _ (f b o e n)
      have qX : q ∉ X := rowX q (List.mem_append_left _ (List.mem_of_getElem? hq))
      have hq2 := s2 _ _ hql
      have hq5 := f5 _ _ hq2 qX
      have qX' : q ∉ X' := fun m => (hX' q m).elim qX fun e => by
        rw [hq2] at e
        cases e
      have fresh : ∀ z, upd H' tp (.tup [.int ((i : Nat) : Int), .ref q]) z = none → z ∈ X ∨ H2 z = none := fun z e => by
        by_cases m : z ∈ X
        · exact .inl m
        · refine .inr ?_
          cases e2 : H2 z with
          | none => rfl
          | some o =>
            rw [f5 z o e2 m] at e
            cases e
      generalize upd H' tp (.tup [.int ((i : Nat) : Int), .ref q]) = H5 at R5 f5 hq5 fresh
      obtain ⟨dx, fs, ob, lk, _⟩ := obj _ _ _ _ R5
      refine ⟨⟨_, rfl, r, dx, fs, rfl, ob, lk, _, rfl, r, q, X', s, line, rfl, R5, hq5, qX', lll, ?_⟩, ?_⟩
      · cases ht : step s line with
        | error e =>
          rw [ht] at run
          intro d H6 sm ek
          rw [hwt2]
          refine ⟨d, i, e, rfl, rfl, ek, rfl, rfl, ?_, fun b o e n m => sm b o (stays f5 b o e n) m⟩
          unfold readS
          dsimp only
          rw [← run]
        | ok s' =>
          rw [ht] at run
          intro H6 X6 f6 R6 hX6
          exact ⟨_, _, _, X6, s', rfl, R6, fun z hz => (hX6 z hz).elim (hX' z) (fresh z), fun b o e n => f6 b o (f5 b o e n) fun m => (hX' b m).elim n (fun z => by rw [e] at z; cases z), run⟩
      · intro ea C' fr' dx' σ' H6 live wt
        rw [hwt2] at wt
        obtain ⟨d, i', kk, ec, rfl, ed', ls, s3', tot', sm⟩ := wt
        obtain ⟨rfl, rfl⟩ := Prod.mk.inj ec
        have ed2 := mask_some ed'
        obtain ⟨Tb, hT, l1, l2⟩ := live
        refine ⟨true, T.x_LineFault_LineFault, ?_⟩
        rw [if_pos rfl]
        have g3 : (σ'.set 5 (some (.ref ea)))[3]? = some (some (.int ((i' : Nat) : Int))) := by
          rw [List.getElem?_set_ne (by decide)]
          exact s3'
        have g5 : (σ'.set 5 (some (.ref ea)))[5]? = some (some (.ref ea)) := List.getElem?_set_self (by omega)
        refine ⟨_, g3, _, g5, ea, _, true, d, .ref Tb, _, _, rfl, l1, ed2, T.D_LineFault, T.n_LineFault_kind, rfl, (by show 2 ≤ 1000; decide), fun xn hxn => ?_⟩
        refine ⟨xn, _, _, true, .none, rfl, upd_same, fun d' q' H7 nd nq dxn e1 e2 e3 kp => ?_⟩
        obtain ⟨w1, w2, w3⟩ := fail l1 sm tot' xn hxn d' q' H7 nd nq dxn e2 e3 kp
        exact ⟨rfl, _, g5, xn, _, some d', a.c_LineFault, some d, .ref Tb, rfl, rfl, Ne.symm w3, e1, w2.trans l1, T.E_TextFault, T.E_LineFault, w1⟩
    · rintro σ H' ⟨v3, v4, v5, X', s, rfl, R3, hX', f, run⟩
      rw [List.length_map, lri, List.drop_length, runS] at run
      have rd : readS step fin s0 (lines, rest) = match fin s rest with
          | some k => .error (lines.length, k)
          | none => .ok s := by
        unfold readS
        dsimp only
        rw [← run] <;> rfl
      have hp' := f _ _ (s2 _ _ hp) npX
      have hx' := f _ _ (s2 _ _ hx) (rowX x (by simp))
      have rll : rest.length ≤ 10000 := by
        have m := (split_len 10 t).2 rest (by rw [← epar]; exact List.mem_append_right _ (List.mem_singleton.mpr rfl))
        omega
      obtain ⟨dx, fs, ob, _, lk⟩ := obj _ _ _ _ R3
      refine ⟨⟨_, rfl, r, dx, fs, rfl, ob, lk, _, rfl, _, rfl, p, _, _, .ref x, rfl, rfl, SqL.of hp', (by rw [List.map_append]; exact atI_last _ _), r, x, X', s, rest, rfl, R3, hx', rll, ?_⟩, ?_⟩
      · cases ht : fin s rest with
        | some e =>
          rw [ht] at rd
          intro d H6 sm ek
          rw [hwt1]
          refine ⟨d, p, _, e, rfl, rfl, ek, rfl, rfl, sm _ _ hp' (fun φ q => nomatch q), ?_, by simp, fun b o e n m => sm b o (stays f b o e n) m⟩
          rw [rd, List.length_map, List.length_append, lri]
          rfl
        | none =>
          rw [ht] at rd
          rw [rd] at k
          intro H6 s6
          refine k H6 X' (fun b o e n => s6 b o (stays f b o e n)) (keep _ _ _ _ _ R3 s6) fun z hz => (hX' z hz).imp_right fun e => s1.free (s2.free e)
      · intro ea C' fr' dx' σ' H6 live wt
        rw [hwt1] at wt
        obtain ⟨d, p', xs, kk, ec, rfl, ed', ls, s2', hp6, tot', x1, sm⟩ := wt
        obtain ⟨rfl, rfl⟩ := Prod.mk.inj ec
        have ed2 := mask_some ed'
        have hp7 := mask_some hp6
        obtain ⟨Tb, hT, l1, l2⟩ := live
        refine ⟨true, T.x_LineFault_LineFault, ?_⟩
        rw [if_pos rfl]
        have g2 : (σ'.set 5 (some (.ref ea)))[2]? = some (some (.ref p')) := by
          rw [List.getElem?_set_ne (by decide)]
          exact s2'
        have g5 : (σ'.set 5 (some (.ref ea)))[5]? = some (some (.ref ea)) := List.getElem?_set_self (by omega)
        refine ⟨_, g2, p', xs, rfl, .inl (SqL.of hp7), _, _, rfl, rfl, _, g5, ea, _, true, d, .ref Tb, _, _, rfl, l1, ed2, T.D_LineFault, T.n_LineFault_kind, rfl, (by show 2 ≤ 1000; decide), fun xn hxn => ?_⟩
        have ex : V.int ((xs.length - 1 : Nat) : Int) = (fun i j => V.int (i - j)) ((xs.length : Nat) : Int) 1 := congrArg V.int (show ((xs.length - 1 : Nat) : Int) = ((xs.length : Nat) : Int) - 1 by omega)
        refine ⟨xn, .int ((xs.length - 1 : Nat) : Int), _, true, .none, (by rw [ex]), upd_same, fun d' q' H7 nd nq dxn e1 e2 e3 kp => ?_⟩
        obtain ⟨w1, w2, w3⟩ := fail l1 sm tot' xn hxn d' q' H7 nd nq dxn e2 e3 kp
        exact ⟨rfl, _, g5, xn, _, some d', a.c_LineFault, some d, .ref Tb, rfl, rfl, Ne.symm w3, e1, w2.trans l1, T.E_TextFault, T.E_LineFault, w1⟩
end
/-! ### a wall read -/
def spRead (K : PySem.W.Frag) (CW CO CF : Addr) : Sp := fun vs H Q E => ∃ (l : Addr) (t : Bd.Bytes), vs = [.ref l] ∧ SqL K H l (iB t) ∧ t.length ≤ 6000 ∧
  match readB (fl 10 t) with
  | .error e => FailsW CF E H e.1 e.2
  | .ok x => ∀ (H' : Hp) (p : Addr), Same H H' → WallAt CW CO H' p x.1 x.2 → Q (.ref p) H'
theorem WR.obj {CR CO : Addr} (H : Hp) (X : List Addr) (r : Addr) (s : WS) (h : WR CR CO H X r s) : ∃ dx fs, H r = some (.ins CR dx fs) ∧ fs.lookup ("take" : Str) = none ∧ fs.lookup ("take_rest" : Str) = none := by
  obtain ⟨dx, pl, ph, po, hvs, as, las, rfl, U⟩ := h
  exact ⟨dx, _, U.ob, rfl, rfl⟩
theorem WR.keep {CR CO : Addr} (H H' : Hp) (X : List Addr) (r : Addr) (s : WS) (h : WR CR CO H X r s) (k : Same H H') : WR CR CO H' X r s := by
  obtain ⟨dx, pl, ph, po, hvs, as, las, rfl, U⟩ := h
  exact ⟨dx, pl, ph, po, hvs, as, las, rfl, U.keep k⟩
section
variable {P : Program} {w : World} {K : PySem.W.Frag} {mg : Str → Option Value} {base : Heap} {a : Ad}
theorem ok_read_wall (T : Txt K mg a) : FnOk P w K mg base (CXo P w) true 14 a.f_read_wall a.d_read_wall ["text"] (spRead K a.c_Wall a.c_Opening a.c_TextFault) := by
  have G_read_lines : FnOk P w K mg base (CXo P w) true 13 a.f_read_lines a.d_read_lines ["text", "reader"] (spLines K (WR a.c_WallReader a.c_Opening) stepW finW a.c_TextFault) :=
    ok_read_lines T T.C_WallReader T.M_WallReader_take T.M_WallReader_take_rest T.b_WallReader_take T.b_WallReader_take_rest (ok_WallReader_take T) (ok_WallReader_take_rest T) (by decide) (by decide) WR.obj WR.keep
  have G_WallReader___init__ : FnOk P w K mg base (CXo P w) true 1 a.f_WallReader___init__ a.d_WallReader___init__ ["self"] (spWRInit a.c_WallReader a.c_Opening) := ok_WallReader___init__ T
  have G_Wall___init__ : FnOk P w K mg base (CXo P w) true 1 a.f_Wall___init__ a.d_Wall___init__ ["self", "head", "openings"] (spWallInit a.c_Wall) := ok_Wall___init__ T
  refine fun_ok T.F_read_wall sc_read_wall (fun vs H Q E h => ?_) (fun cdv A outer s0 H vs Q E hr h => ?_)
  · obtain ⟨l, t, rfl, _⟩ := h
    rfl
  · obtain ⟨l, t, rfl, hS, hl, k⟩ := h
    refine ⟨_, (pss_cons (ps_set (i := 1) sc_read_wall.nd rfl (by first | exact Or.inl rfl | exact Or.inr rfl) (pe_make0 T.K_WallReader G_WallReader___init__ (hr.mono (by decide)) rfl T.m_WallReader T.b_WallReader___init__ .nil takes_cx.passes))
      (pss_cons (ps_expr (pe_call G_read_lines (hr.mono (by decide)) rfl T.m_read_lines T.F_read_lines.kp T.b_read_lines .nil takes_cx.passes (pa_cons (pv 0) (pa_cons (pv 1) pa_nil))))
      (pss_one (ps_ret (pe_make T.K_Wall G_Wall___init__ (hr.mono (by decide)) rfl T.m_Wall T.b_Wall___init__ .nil takes_cx.passes (pa_cons (pe_fld (pv 1) rfl) (pa_cons (pe_fld (pv 1) rfl) pa_nil))))))), ?_⟩
    refine fun r dx nr ndx ndr => ⟨r, dx, rfl, upd_same, fun H1 X f1 W0 fr => ⟨rfl, ?_⟩⟩
    have s1 : Same H H1 := fun b o e => f1 b o (by rw [upd_ne (ne_of_none e nr), upd_ne (ne_of_none e ndx)]; exact e) (ne_of_none e nr)
    have nX : ∀ x ∈ X, H x = none := fun x hx => by
      have e := fr x hx
      by_cases q : x = r
      · rw [q]; exact nr
      · rw [upd_ne q] at e
        by_cases q2 : x = dx
        · rw [q2]; exact ndx
        · rw [upd_ne q2] at e
          exact e
    have offX : ∀ {b : Addr} {o : HO}, H b = some o → b ∉ X := fun e m => by
      rw [nX _ m] at e
      cases e
    refine ⟨_, rfl, _, rfl, l, r, X, _, t, rfl, s1.seq hS, hl, W0, W0.has, ?_⟩
    rw [readS_W]
    cases hb : readB (fl 10 t) with
    | error e =>
      rw [hb] at k
      exact fun fr d q H' m e1 e2 => k fr d q H' (fun b o e n => m b o (s1 b o e) (offX e) n) e1 e2
    | ok x =>
      rw [hb] at k
      intro H2 X2 f2 W2 hX2
      have s2 : Same H H2 := fun b o e => f2 b o (s1 b o e) (offX e)
      obtain ⟨dx2, pl, ph, po, hvs, as, las, rfl, U⟩ := W2
      have e6 : x.1.length = 6 := by
        have z : x.1.length ≤ 6 := U.h6
        unfold readB at hb
        cases hr : runB (fl 10 t).1 0 [] [] with
        | error k => rw [hr] at hb; cases hb
        | ok y =>
          rw [hr] at hb
          dsimp only at hb
          by_cases q : y.1.length < 6 ∨ (fl 10 t).2 ≠ []
          · rw [if_pos q] at hb
            cases hb
          · rw [if_neg q] at hb
            obtain rfl := Except.ok.inj hb
            omega
      have lenh : hvs.length = x.1.length := Paired.length U.hv
      obtain ⟨v0, v1, v2, v3, v4, v5, rfl⟩ : ∃ v0 v1 v2 v3 v4 v5, hvs = [v0, v1, v2, v3, v4, v5] := by
        match hvs, lenh.trans e6 with
        | [v0, v1, v2, v3, v4, v5], _ => exact ⟨_, _, _, _, _, _, rfl⟩
      refine ⟨_, rfl, r, _, dx2, _, _, rfl, U.ob, T.C_WallReader, T.n_WallReader_head, rfl, _, rfl, r, _, dx2, _, _, rfl, U.ob, T.C_WallReader, T.n_WallReader_openings, rfl, fun xw dw nx ndw dxx => ⟨xw, dw, ph, po, v0, v1, v2, v3, v4, v5, rfl, upd_same, ?_, fun H7 e7 kp => ⟨rfl, ?_⟩⟩⟩
      · rw [upd_ne (ne_of_none U.hd nx), upd_ne (ne_of_none U.hd ndw)]
        exact U.hd
      have s7 : Same H2 H7 := fun b o e => by
        have q1 : b ≠ xw := ne_of_none e nx
        have q2 : b ≠ dw := ne_of_none e ndw
        rw [kp b q1, upd_ne q1, upd_ne q2]
        exact e
      have U7 := U.keep s7
      exact k H7 xw (s2.trans s7) ⟨dw, po, v0, v1, v2, v3, v4, v5, as, e7, U7.hv, U7.op, U7.os⟩
end
end Wb
end
section
set_option Elab.async false
set_option linter.all false
set_option maxRecDepth 100000
set_option maxHeartbeats 4000000
namespace Wb
open PySem PySem.Spec PyProof.Rows L2 Wm
open PySem.W (Codec)
/-! ### the calls' common parts -/
/-- an error that except Refusal takes, with its number and what it tells -/
structure RefOk (K : PySem.W.Frag) (CR C : Addr) : Prop where
  x : PySem.W.exmOne K (.ref C) (.ref CR) = some true
  D : XCls K C
  nn : NoAttr K C "number"
  nt : NoAttr K C "told"
/-- what an error that leaves a call's try must be -/
def RefWt (K : PySem.W.Frag) (CR : Addr) (N : Nat) (due : List Int) : WX := fun σ c dx m => σ.length = N ∧ ∃ (d q : Addr) (F : List (Str × V)) (n : Int) (ns : List Int), dx = some d ∧ RefOk K CR c.1 ∧ m d = some (.xd F) ∧ F.lookup ("number" : Str) = some (.int n) ∧ F.lookup ("told" : Str) = some (.ref q) ∧ m q = some (.lst (ns.map V.int)) ∧ ns.length ≤ 1000 ∧ due = n :: (ns.length : Int) :: (ns ++ [0])
theorem RefWt.none {K : PySem.W.Frag} {CR C d q : Addr} {N : Nat} {due : List Int} {σ : L2.St} {m : Hp} {n : Int} {fr : Bool} (hσ : σ.length = N) (ro : RefOk K CR C) (e : m d = some (.xd (rfF n q))) (e2 : m q = some (.lst [])) (h : due = [n, 0, 0]) : RefWt K CR N due σ (C, fr) (some d) m :=
  ⟨hσ, d, q, _, n, [], rfl, ro, e, rfl, rfl, e2, by decide, h⟩
theorem RefWt.text {K : PySem.W.Frag} {CR C d q : Addr} {N : Nat} {due : List Int} {σ : L2.St} {m : Hp} {i k : V} {fr : Bool} (hσ : σ.length = N) (ro : RefOk K CR C) (e : m d = some (.xd (wfF q i k))) (e2 : m q = some (.lst [])) (h : due = [-6, 0, 0]) : RefWt K CR N due σ (C, fr) (some d) m :=
  ⟨hσ, d, q, _, -6, [], rfl, ro, e, rfl, rfl, e2, by decide, h⟩
def long (b : Bd.Bytes) : Bool := decide (4096 < b.length)
def spRefuse (K : PySem.W.Frag) (CT : Addr) : Sp := fun vs H Q E => ∃ (l : Addr) (as : List Addr) (bs : List Bd.Bytes), vs = [.ref l] ∧ H l = some (.lst (as.map V.ref)) ∧ Paired (fun x b => SqL K H x (iB b)) as bs ∧
  if bs.any long = true then FailsN CT (-1) E H else Q .non H
section
variable {P : Program} {w : World} {K : PySem.W.Frag} {mg : Str → Option Value} {base : Heap} {a : Ad}
theorem ok_refuse_long (T : Txt K mg a) : FnOk P w K mg base (CXo P w) true 4 a.f_refuse_long a.d_refuse_long ["rows"] (spRefuse K a.c_TooLong) := by
  have G_TooLong___init__ : FnOk P w K mg base (CXo P w) true 2 a.f_TooLong___init__ a.d_TooLong___init__ ["self"] (spErr0 a.c_TooLong (-1)) := ok_TooLong___init__ T
  refine fun_ok T.F_refuse_long sc_refuse_long (fun vs H Q E h => ?_) (fun cdv A outer s0 H vs Q E hr h => ?_)
  · obtain ⟨l, as, bs, rfl, _⟩ := h
    rfl
  · obtain ⟨l, as, bs, rfl, hl, pr, k⟩ := h
    refine ⟨_, (pss_one (ps_for takes_cx.po rfl (pi_list (pv 0)) (pg_name (i := 1) sc_refuse_long.nd rfl (by first | exact Or.inl rfl | exact Or.inr rfl)) (pss_one (ps_if (pt_cmpR op_gt (pe_callB call_len_seq rfl T.z_len bt_len (pa_cons (pv 1) pa_nil)) (pe_glob (v := .int 4096) rfl T.c_MOST_BYTES ⟨_, rfl⟩) (nomark _)) (pss_one (ps_raise takes_cx rfl (pe_makeX0 T.X_TooLong G_TooLong___init__ (hr.mono (by decide)) rfl T.m_TooLong T.b_TooLong___init__ takes_cx))) pss_nil)))), ?_⟩
    have lab : as.length = bs.length := Paired.length pr
    refine ⟨_, rfl, l, rfl, ⟨_, SqL.of hl⟩, for_list (K := K) (a := l) (xs := as.map V.ref) (fun i σ H' => ∃ v : Option V, σ = [some (.ref l), v] ∧ H' = H ∧ (bs.take i).any long = false)
      ⟨none, rfl, rfl, rfl⟩ (fun i σ H' _ ⟨_, _, e, _⟩ => by rw [e]; exact SqL.of hl) ?_ ?_⟩
    · rintro i y σ H' hi ⟨v, rfl, rfl, no⟩
      rw [List.getElem?_map] at hi
      obtain ⟨q, hq, rfl⟩ : ∃ q, as[i]? = some q ∧ y = .ref q := by
        cases e : as[i]? with
        | none => rw [e] at hi; cases hi
        | some q => rw [e] at hi; exact ⟨q, rfl, (Option.some.inj hi).symm⟩
      obtain ⟨b, hb, sq⟩ := Paired.get pr hq
      refine ⟨_, rfl, q, _, rfl, .inl sq, _, _, rfl, rfl, _, rfl, ?_⟩
      rw [iB_len]
      by_cases z : 4096 < b.length
      · rw [decide_eq_true (show (4096 : Int) < ((b.length : Nat) : Int) by omega)]
        rw [if_pos (List.any_eq_true.mpr ⟨b, List.mem_of_getElem? hb, decide_eq_true z⟩)] at k
        exact iteT (raise_none T.E_TooLong k)
      · rw [decide_eq_false (show ¬ (4096 : Int) < ((b.length : Nat) : Int) by omega)]
        refine iteF ⟨_, rfl, rfl, ?_⟩
        rw [take_snoc hb, List.any_append, no]
        show (decide (4096 < b.length) || false) = false
        rw [decide_eq_false z]
        rfl
    · rintro σ H' ⟨v, rfl, rfl, no⟩
      rw [List.length_map, lab, List.take_length] at no
      rw [if_neg (by rw [no]; decide)] at k
      exact k
def spWallOf (K : PySem.W.Frag) (CW CO CF CT : Addr) : Sp := fun vs H Q E => ∃ (l : Addr) (t : Bd.Bytes), vs = [.ref l] ∧ SqL K H l (iB t) ∧ t.length ≤ 6000 ∧
  if 4096 < t.length then FailsN CT (-1) E H else match readB (fl 10 t) with
  | .error e => FailsW CF E H e.1 e.2
  | .ok x => ∀ (H' : Hp) (p : Addr), Same H H' → WallAt CW CO H' p x.1 x.2 → Q (.ref p) H'
theorem ok_wall_of (T : Txt K mg a) : FnOk P w K mg base (CXo P w) true 15 a.f_wall_of a.d_wall_of ["t"] (spWallOf K a.c_Wall a.c_Opening a.c_TextFault a.c_TooLong) := by
  have G_read_wall : FnOk P w K mg base (CXo P w) true 14 a.f_read_wall a.d_read_wall ["text"] (spRead K a.c_Wall a.c_Opening a.c_TextFault) := ok_read_wall T
  have G_refuse_long : FnOk P w K mg base (CXo P w) true 4 a.f_refuse_long a.d_refuse_long ["rows"] (spRefuse K a.c_TooLong) := ok_refuse_long T
  refine fun_ok T.F_wall_of sc_wall_of (fun vs H Q E h => ?_) (fun cdv A outer s0 H vs Q E hr h => ?_)
  · obtain ⟨l, t, rfl, _⟩ := h
    rfl
  · obtain ⟨l, t, rfl, hS, hl, k⟩ := h
    refine ⟨_, (pss_cons (ps_expr (pe_call G_refuse_long (hr.mono (by decide)) rfl T.m_refuse_long T.F_refuse_long.kp T.b_refuse_long .nil takes_cx.passes (pa_cons (pe_lst (pa_cons (pv 0) pa_nil)) pa_nil)))
      (pss_one (ps_ret (pe_call G_read_wall (hr.mono (by decide)) rfl T.m_read_wall T.F_read_wall.kp T.b_read_wall .nil takes_cx.passes (pa_cons (pv 0) pa_nil))))), ?_⟩
    refine ⟨_, rfl, (by show 1 ≤ sizeLine; decide), fun p1 n1 => ?_⟩
    have s1 : Same H (upd H p1 (.lst [.ref l])) := (Same.refl _).new n1
    refine ⟨p1, [l], [t], rfl, upd_same, .cons (s1.seq hS) .nil, ?_⟩
    show if ((decide (4096 < t.length) || false) = true) then _ else _
    by_cases q : 4096 < t.length
    · rw [if_pos q] at k
      rw [if_pos (by rw [decide_eq_true q]; rfl)]
      exact k.same s1
    · rw [if_neg q] at k
      rw [if_neg (by rw [decide_eq_false q]; decide)]
      refine ⟨_, rfl, l, t, rfl, s1.seq hS, hl, ?_⟩
      cases hb : readB (fl 10 t) with
      | error e =>
        rw [hb] at k
        exact k.same s1
      | ok x =>
        rw [hb] at k
        exact fun H' p s => k H' p (s1.trans s)
end
end Wb
end
section
set_option Elab.async false
set_option linter.all false
set_option maxRecDepth 100000
set_option maxHeartbeats 4000000
namespace Wb
open PySem PySem.Spec PyProof.Rows L2 Wm
open PySem.W (Codec)
/-! ### places of a wall -/
theorem pv_chainLt {σ : L2.St} {H : Hp} {ta tb tc : TE} {i j k : Int} (ha : PureV ta σ H (.int i)) (hb : PureV tb σ H (.int j)) (hc : PureV tc σ H (.int k)) :
    PureV (tChain (rI0 fun i j => .bl (decide (i ≤ j))) (rI0 fun i j => .bl (decide (i < j))) ta tb tc) σ H (.bl (decide (i ≤ j) && decide (j < k))) := fun R h => by
  refine ha _ (hb _ ⟨_, _, rfl, rfl, _, rfl, ?_⟩)
  by_cases q : i ≤ j
  · rw [decide_eq_true q] at h ⊢
    exact iteT (hc _ ⟨_, _, rfl, rfl, by simpa using h⟩)
  · rw [decide_eq_false q] at h ⊢
    exact iteF (by simpa using h)
/-- each value of a head comes of a line -/
def Good (h : List HV) : Prop := ∀ (n : Nat) (x : HV), h[n]? = some x → ∃ line, headB n line = .ok x
theorem take_good {h h' : List HV} {o o' : List Bd.Opening} {line : Bd.Bytes} (g : Good h) (e : takeB h o line = .ok (h', o')) : Good h' := by
  unfold takeB at e
  by_cases q : h.length < 6
  · rw [if_pos q] at e
    cases hb : headB h.length line with
    | error k => rw [hb] at e; cases e
    | ok v =>
      rw [hb] at e
      obtain ⟨rfl, rfl⟩ := Prod.mk.inj (Except.ok.inj e)
      intro n x hx
      by_cases hn : n < h.length
      · rw [List.getElem?_append_left hn] at hx
        exact g n x hx
      · have z := (List.getElem?_eq_some_iff.mp hx).1
        simp at z
        obtain rfl : n = h.length := by omega
        rw [List.getElem?_append_right (Nat.le_refl _), Nat.sub_self] at hx
        obtain rfl : v = x := Option.some.inj hx
        exact ⟨line, hb⟩
  · rw [if_neg q] at e
    cases hb : openB line (Wm.numAt h 1) (Wm.numAt h 2) o with
    | error k => rw [hb] at e; cases e
    | ok v =>
      rw [hb] at e
      obtain ⟨rfl, rfl⟩ := Prod.mk.inj (Except.ok.inj e)
      exact g
theorem run_good : ∀ {lines : List Bd.Bytes} {i : Nat} {h : List HV} {o : List Bd.Opening} {x : List HV × List Bd.Opening}, runB lines i h o = .ok x → Good h → Good x.1
  | [], i, h, o, x, e, g => by
    obtain rfl := Except.ok.inj e
    exact g
  | l :: r, i, h, o, x, e, g => by
    rw [runB] at e
    cases ht : takeB h o l with
    | error k => rw [ht] at e; cases e
    | ok z =>
      rw [ht] at e
      exact run_good (x := x) e (take_good (h' := z.1) (o' := z.2) g ht)
theorem read_good {z : List Bd.Bytes × Bd.Bytes} {x : List HV × List Bd.Opening} (e : readB z = .ok x) : Good x.1 := by
  unfold readB at e
  cases hr : runB z.1 0 [] [] with
  | error k => rw [hr] at e; cases e
  | ok y =>
    rw [hr] at e
    dsimp only at e
    by_cases q : y.1.length < 6 ∨ z.2 ≠ []
    · rw [if_pos q] at e
      cases e
    · rw [if_neg q] at e
      obtain rfl := Except.ok.inj e
      exact run_good hr fun n x h => by simp at h
theorem head_num {n : Nat} {line : Bd.Bytes} {x : HV} (h0 : n ≠ 0) (e : headB n line = .ok x) : ∃ m, x = .num m ∧ (n = 1 → m ≤ 32) ∧ (n = 2 → m ≤ 8) := by
  unfold headB at e
  generalize fieldsB (Bd.ascii (HEAD n)) line = r at e
  match r, e with
  | none, e => cases e
  | some [], e => cases e
  | some (_ :: _ :: _), e => cases e
  | some [z], e =>
    dsimp only at e
    unfold fieldB at e
    rw [if_neg h0] at e
    have sz : ∀ {most b : Nat}, sizeB z most = .ok b → b ≤ most := fun {most b} q => by
      unfold sizeB at q
      cases hn : Bd.readNumber z with
      | none => rw [hn] at q; cases q
      | some k =>
        rw [hn] at q
        dsimp only at q
        by_cases w : k < 1 ∨ most < k
        · rw [if_pos w] at q; cases q
        · rw [if_neg w] at q
          obtain rfl := Except.ok.inj q
          omega
    by_cases h1 : n = 1
    · rw [if_pos h1] at e
      cases q : sizeB z 32 with
      | error k => rw [q] at e; cases e
      | ok b => rw [q] at e; exact ⟨b, (Except.ok.inj e).symm, fun _ => sz q, fun w => by omega⟩
    · rw [if_neg h1] at e
      by_cases h2 : n = 2
      · rw [if_pos h2] at e
        cases q : sizeB z 8 with
        | error k => rw [q] at e; cases e
        | ok b => rw [q] at e; exact ⟨b, (Except.ok.inj e).symm, fun w => by omega, fun _ => sz q⟩
      · rw [if_neg h2] at e
        cases q : endB z with
        | none => rw [q] at e; cases e
        | some b => rw [q] at e; exact ⟨b, (Except.ok.inj e).symm, fun w => by omega, fun w => by omega⟩
/-- a wall stands at p, with its numbers -/
structure WallIs (CW CO : Addr) (H : Hp) (p : Addr) (dx op : Addr) (v0 : V) (as : List Addr) (w : Bd.Wall) : Prop where
  at_ : H p = some (.ins CW dx (wlF v0 (.int ((w.long : Nat) : Int)) (.int ((w.high : Nat) : Int)) (.int ((w.left : Nat) : Int)) (.int ((w.right : Nat) : Int)) (.int ((w.reveal : Nat) : Int)) (.ref op)))
  op : H op = some (.lst (as.map V.ref))
  os : Ops CO H as w.opens
  l32 : w.long ≤ 32
  h8 : w.high ≤ 8
  o8 : w.opens.length ≤ 1000
theorem WallIs.same {CW CO : Addr} {H H' : Hp} {p dx op : Addr} {v0 : V} {as : List Addr} {w : Bd.Wall} (s : Same H H') (W : WallIs CW CO H p dx op v0 as w) : WallIs CW CO H' p dx op v0 as w := ⟨s _ _ W.at_, s _ _ W.op, Ops.same s W.os, W.l32, W.h8, W.o8⟩
theorem WallAt.is {CW CO : Addr} {H : Hp} {p : Addr} {h : List HV} {os : List Bd.Opening} (W : WallAt CW CO H p h os) (g : Good h) (o8 : os.length ≤ 1000) : ∃ dx op v0 as, WallIs CW CO H p dx op v0 as (wallB h os) := by
  obtain ⟨dx, op, v0, v1, v2, v3, v4, v5, as, e, hv, ho, hos⟩ := W
  cases hv with
  | cons a0 t0 => cases t0 with
    | cons a1 t1 => cases t1 with
      | cons a2 t2 => cases t2 with
        | cons a3 t3 => cases t3 with
          | cons a4 t4 => cases t4 with
            | cons a5 t5 =>
              cases t5
              obtain ⟨l1, e1⟩ := g 1 _ rfl
              obtain ⟨m1, rfl, b1, _⟩ := head_num (by decide) e1
              obtain ⟨l2, e2⟩ := g 2 _ rfl
              obtain ⟨m2, rfl, _, b2⟩ := head_num (by decide) e2
              obtain ⟨l3, e3⟩ := g 3 _ rfl
              obtain ⟨m3, rfl, _, _⟩ := head_num (by decide) e3
              obtain ⟨l4, e4⟩ := g 4 _ rfl
              obtain ⟨m4, rfl, _, _⟩ := head_num (by decide) e4
              obtain ⟨l5, e5⟩ := g 5 _ rfl
              obtain ⟨m5, rfl, _, _⟩ := head_num (by decide) e5
              obtain rfl : v1 = .int ((m1 : Nat) : Int) := a1
              obtain rfl : v2 = .int ((m2 : Nat) : Int) := a2
              obtain rfl : v3 = .int ((m3 : Nat) : Int) := a3
              obtain rfl : v4 = .int ((m4 : Nat) : Int) := a4
              obtain rfl : v5 = .int ((m5 : Nat) : Int) := a5
              exact ⟨dx, op, v0, as, e, ho, hos, b1 rfl, b2 rfl, o8⟩
def spCovers (C : Addr) : Sp := fun vs H Q _ => ∃ (p : Addr) (o : Bd.Opening) (x y : Nat), vs = [.ref p, .int ((x : Nat) : Int), .int ((y : Nat) : Int)] ∧ OpAt C H p o ∧ Q (.bl (o.has x y)) H
def spIsOpen (CW CO : Addr) : Sp := fun vs H Q _ => ∃ (p dx op : Addr) (v0 : V) (as : List Addr) (w : Bd.Wall) (x y : Nat), vs = [.ref p, .int ((x : Nat) : Int), .int ((y : Nat) : Int)] ∧ WallIs CW CO H p dx op v0 as w ∧ ∀ H' : Hp, Same H H' → Q (.bl (w.isOpen x y)) H'
/-- the stretches of a course in new tuples, in a new list -/
def spStretches (CW CO : Addr) : Sp := fun vs H Q _ => ∃ (p dx op : Addr) (v0 : V) (as : List Addr) (w : Bd.Wall) (y : Nat), vs = [.ref p, .int ((y : Nat) : Int)] ∧ WallIs CW CO H p dx op v0 as w ∧
  ∀ (H' : Hp) (q : Addr) (ts : List Addr), Same H H' → H q = none → H' q = some (.lst (ts.map V.ref)) → Tups H' ts ((w.stretches y).map pI) → Q (.ref q) H'
theorem Tups.same {H H' : Hp} {as : List Addr} {l : List (List Int)} (s : Same H H') (r : Tups H as l) : Tups H' as l := Paired.mapP r fun _ _ h => s _ _ h
/-- tuples stay where a list is changed -/
theorem Tups.upd {H : Hp} {z : Addr} {xs ys : List V} {as : List Addr} {l : List (List Int)} (r : Tups H as l) (h : H z = some (.lst xs)) : Tups (upd H z (.lst ys)) as l := Paired.mapP r fun a ms e => by
  rw [upd_ne (ne_of e h (by intro q; cases q))]
  exact e
section
variable {P : Program} {w : World} {K : PySem.W.Frag} {mg : Str → Option Value} {base : Heap} {a : Ad}
theorem ok_Opening_covers (T : Txt K mg a) : FnOk P w K mg base (CXo P w) true 1 a.f_Opening_covers a.d_Opening_covers ["self", "place", "course"] (spCovers a.c_Opening) := by
  refine fun_ok T.F_Opening_covers sc_Opening_covers (fun vs H Q E h => ?_) (fun cdv A outer s0 H vs Q E hr h => ?_)
  · obtain ⟨p, o, x, y, rfl, _⟩ := h
    rfl
  · obtain ⟨p, o, x, y, rfl, ⟨dx, hp⟩, k⟩ := h
    refine ⟨_, (pss_one (ps_ret (pe_and (pe_chain op_le op_lt (pe_fld (pv 0) rfl) (pv 1) (pe_op op_add (pe_fld (pv 0) rfl) (pe_fld (pv 0) rfl))) (pe_one (pe_chain op_le op_lt (pe_fld (pv 0) rfl) (pv 2) (pe_op op_add (pe_fld (pv 0) rfl) (pe_fld (pv 0) rfl))))))), ?_⟩
    have fld : ∀ (σ : L2.St) , σ = [some (.ref p), some (.int ((x : Nat) : Int)), some (.int ((y : Nat) : Int))] → PureV (tFld K (tVar 0) "x") σ H (.int ((o.x : Nat) : Int)) ∧ PureV (tFld K (tVar 0) "y") σ H (.int ((o.y : Nat) : Int)) ∧ PureV (tFld K (tVar 0) "wide") σ H (.int ((o.w : Nat) : Int)) ∧ PureV (tFld K (tVar 0) "high") σ H (.int ((o.h : Nat) : Int)) := by
      rintro σ rfl
      exact ⟨rd_fld rfl hp T.C_Opening T.n_Opening_x rfl, rd_fld rfl hp T.C_Opening T.n_Opening_y rfl, rd_fld rfl hp T.C_Opening T.n_Opening_wide rfl, rd_fld rfl hp T.C_Opening T.n_Opening_high rfl⟩
    obtain ⟨f1, f2, f3, f4⟩ := fld [some (.ref p), some (.int ((x : Nat) : Int)), some (.int ((y : Nat) : Int))] rfl
    refine pv_andV (pv_chainLt f1 (pv_var rfl) (rd_add f1 f3)) (pv_chainLt f2 (pv_var rfl) (rd_add f2 f4)) _ ?_
    have e : ((decide (((o.x : Nat) : Int) ≤ ((x : Nat) : Int)) && decide (((x : Nat) : Int) < ((o.x : Nat) : Int) + ((o.w : Nat) : Int))) && (decide (((o.y : Nat) : Int) ≤ ((y : Nat) : Int)) && decide (((y : Nat) : Int) < ((o.y : Nat) : Int) + ((o.h : Nat) : Int)))) = o.has x y := by
      unfold Bd.Opening.has
      rw [Bool.eq_iff_iff]
      simp only [Bool.and_eq_true, decide_eq_true_eq]
      omega
    rw [e]
    exact k
theorem ok_Wall_is_open (T : Txt K mg a) : FnOk P w K mg base (CXo P w) true 2 a.f_Wall_is_open a.d_Wall_is_open ["self", "place", "course"] (spIsOpen a.c_Wall a.c_Opening) := by
  have G_Opening_covers : FnOk P w K mg base (CXo P w) true 1 a.f_Opening_covers a.d_Opening_covers ["self", "place", "course"] (spCovers a.c_Opening) := ok_Opening_covers T
  refine fun_ok T.F_Wall_is_open sc_Wall_is_open (fun vs H Q E h => ?_) (fun cdv A outer s0 H vs Q E hr h => ?_)
  · obtain ⟨p, dx, op, v0, as, wl, x, y, rfl, _⟩ := h
    rfl
  · obtain ⟨p, dx, op, v0, as, wl, x, y, rfl, W, k⟩ := h
    have zl := szl
    refine ⟨_, (pss_one (ps_ret (pe_callB (cr_any rfl) rfl T.z_any bt_any (pa_cons (pe_lc (own := [("opening", 3)]) rfl sc_Wall_is_open.nd (pi_list (pe_fld (pv 0) rfl)) (by show BlkOk ["self", "place", "course", "opening"] (defScope s_Wall_is_open) _ [("opening", 3)]; exact ⟨rfl, by decide +kernel, by decide +kernel, by decide +kernel, by decide +kernel⟩) (fun s H C cl fp => (pg_name (i := 3) sc_Wall_is_open.nd rfl (by first | exact Or.inl rfl | exact Or.inr rfl))) (fun s H C cl fp => pts_nil) (fun s H C cl fp => (pe_meth (pv 3) T.C_Opening T.M_Opening_covers G_Opening_covers (hr.mono (by decide)) T.b_Opening_covers .nil passF (pa_cons (pv 1) (pa_cons (pv 2) pa_nil))))) pa_nil)))), ?_⟩
    refine ⟨_, rfl, p, _, dx, _, _, rfl, W.at_, T.C_Wall, T.n_Wall_openings, rfl, op, rfl, ⟨_, SqL.of W.op⟩, fun D2 hD2 => ?_⟩
    have s6 : ∀ ys, Same H (upd H D2 (.lst ys)) := fun ys => (Same.refl _).new hD2
    refine lc_list (K := K) (a := op) (xs := as.map V.ref) (fun i H' => H' = upd H D2 (.lst ((wl.opens.take i).map fun u => V.bl (u.has x y)))) rfl (fun i H' _ e => by rw [e]; exact SqL.of (s6 _ _ _ W.op)) ?_ ?_
    · rintro i v H' hi rfl
      rw [List.getElem?_map] at hi
      obtain ⟨f, hfi, rfl⟩ : ∃ f, as[i]? = some f ∧ v = .ref f := by
        cases e : as[i]? with
        | none => rw [e] at hi; cases hi
        | some f => rw [e] at hi; exact ⟨f, rfl, (Option.some.inj hi).symm⟩
      obtain ⟨u, hu, df, hf⟩ := Paired.get W.os hfi
      have hf' := s6 ((wl.opens.take i).map fun u => V.bl (u.has x y)) _ _ hf
      refine ⟨rfl, _, rfl, f, df, _, rfl, hf', rfl, _, rfl, _, rfl, f, u, x, y, rfl, ⟨df, hf'⟩, ?_⟩
      have lo := W.o8
      refine ⟨_, upd_same, (by rw [List.length_map, List.length_take]; omega), ?_⟩
      rw [upd_upd, take_snoc hu, List.map_append]
      rfl
    · rintro H6 rfl
      rw [List.length_map, Paired.length W.os, List.take_length]
      refine ⟨D2, wl.opens.map fun u => u.has x y, rfl, SqL.of (by rw [upd_same, List.map_map]; rfl), ?_⟩
      rw [← isOpen_any]
      exact k _ (s6 _)
theorem ok_stretches_of (T : Txt K mg a) : FnOk P w K mg base (CXo P w) true 3 a.f_stretches_of a.d_stretches_of ["wall", "course"] (spStretches a.c_Wall a.c_Opening) := by
  have G_Wall_is_open : FnOk P w K mg base (CXo P w) true 2 a.f_Wall_is_open a.d_Wall_is_open ["self", "place", "course"] (spIsOpen a.c_Wall a.c_Opening) := ok_Wall_is_open T
  refine fun_ok T.F_stretches_of sc_stretches_of (fun vs H Q E h => ?_) (fun cdv A outer s0 H vs Q E hr h => ?_)
  · obtain ⟨p, dx, op, v0, as, wl, y, rfl, _⟩ := h
    rfl
  · obtain ⟨p, dx, op, v0, as, wl, y, rfl, W, k⟩ := h
    have zl := szl
    have l32 := W.l32
    refine ⟨_, (pss_cons (ps_set (i := 2) sc_stretches_of.nd rfl (by first | exact Or.inl rfl | exact Or.inr rfl) (pe_lst pa_nil))
      (pss_cons (ps_set (i := 3) sc_stretches_of.nd rfl (by first | exact Or.inl rfl | exact Or.inr rfl) pe_int)
      (pss_cons (ps_for takes_cx.po rfl (pi_range1 rfl T.z_range (pa_cons (pe_op op_add (pe_fld (pv 0) rfl) pe_int) pa_nil)) (pg_name (i := 4) sc_stretches_of.nd rfl (by first | exact Or.inl rfl | exact Or.inr rfl)) (pss_one (ps_if (PW.pt (pw_or (pt_cmpR op_eq (pv 4) (pe_fld (pv 0) rfl) (nomark _)) (pw_or1 (pt_val (pe_meth (pv 0) T.C_Wall T.M_Wall_is_open G_Wall_is_open (hr.mono (by decide)) T.b_Wall_is_open .nil takes_cx.passes (pa_cons (pv 4) (pa_cons (pv 1) pa_nil))))))) (pss_cons (ps_if (pt_cmpR op_gt (pv 4) (pv 3) (nomark _)) (pss_one (ps_expr (pe_bm PySem.F.plainAttrs_list PySem.F.slot_list_append PySem.F.type_list_append mt_append (pv 2) (pa_cons (pe_tup (pa_cons (pv 3) (pa_cons (pe_op op_sub (pv 4) (pv 3)) pa_nil))) pa_nil)))) pss_nil)
      (pss_one (ps_set (i := 3) sc_stretches_of.nd rfl (by first | exact Or.inl rfl | exact Or.inr rfl) (pe_op op_add (pv 4) pe_int)))) pss_nil)))
      (pss_one (ps_ret (pv 2)))))), ?_⟩
    refine ⟨Nat.zero_le _, fun q nq => ?_⟩
    have s1 : Same H (upd H q (.lst [])) := (Same.refl _).new nq
    have hq1 : upd H q (.lst []) q = some (.lst []) := upd_same
    generalize upd H q (.lst []) = H1 at s1 hq1
    have W1 := W.same s1
    refine ⟨_, rfl, p, _, dx, _, _, rfl, W1.at_, T.C_Wall, T.n_Wall_length, rfl, _, _, rfl, rfl, _, rfl, by omega, by omega, ?_⟩
    have en : (((wl.long : Nat) : Int) + 1).toNat = wl.long + 1 := by omega
    rw [en]
    refine for_range (lo := 0) (n := wl.long + 1) (fun i σ H' => ∃ (v : Option V) (f : Nat) (ts : List Addr) (acc : List (Nat × Nat)), σ = [some (.ref p), some (.int ((y : Nat) : Int)), some (.ref q), some (.int ((f : Nat) : Int)), v] ∧ Same H H' ∧ H' q = some (.lst (ts.map V.ref)) ∧ Tups H' ts (acc.map pI) ∧ f ≤ i ∧ acc.length ≤ i ∧
        (if i ≤ wl.long then acc ++ Bd.stretchesFrom wl y (wl.long - i) i (sOf f i) = wl.stretches y else acc = wl.stretches y))
      ⟨none, 0, [], [], rfl, s1, hq1, .nil, Nat.le_refl _, Nat.le_refl _, by rw [if_pos (Nat.zero_le _)]; rfl⟩ ?_ ?_
    · rintro i σ H' hi ⟨v, f, ts, acc, rfl, s2, hq2, tt, fi, al, inv⟩
      rw [if_pos (by omega)] at inv
      have W2 := W.same s2
      have lts := Paired.length tt
      rw [List.length_map] at lts
      -- place == wall.length or wall.is_open(place, course)
      dsimp only [gName]
      have ei : (0 : Int) + ((i : Nat) : Int) = ((i : Nat) : Int) := Int.zero_add _
      rw [ei]
      dsimp only [tNext, tSeq, tIfS]
      refine rd_orS (x := decide (i = wl.long)) (y := wl.isOpen i y) (fun H5 => Same H' H5) (fun R r => ?_) (fun _ H5 s5 R r => ?_) fun H5 s5 => ?_
      · refine ⟨_, rfl, _, rfl, p, _, dx, _, _, rfl, W2.at_, T.C_Wall, T.n_Wall_length, rfl, rfl, _, rfl, ?_⟩
        have e : decide (V.int ((i : Nat) : Int) = V.int ((wl.long : Nat) : Int)) = decide (i = wl.long) := decide_eq_decide.mpr ⟨fun z => by have := V.int.inj z; omega, fun z => by rw [z]⟩
        rw [e]
        exact r _ (Same.refl _)
      · have W5 := W2.same s5
        exact ⟨_, rfl, p, dx, _, rfl, W5.at_, rfl, _, rfl, _, rfl, p, dx, op, v0, as, wl, i, y, rfl, W5, fun H6 s6 => ⟨_, rfl, r _ (s5.trans s6)⟩⟩
      · have s25 := s2.trans s5
        have hq5 := s5 _ _ hq2
        have t5 := Tups.same s5 tt
        by_cases c : i = wl.long ∨ wl.isOpen i y = true
        · rw [show (decide (i = wl.long) || wl.isOpen i y) = true by rw [Bool.or_eq_true, decide_eq_true_eq]; exact c]
          refine iteT ?_
          -- what the specification tells here
          have spec : acc ++ (if f < i then [(f, i - f)] else []) ++ (if i + 1 ≤ wl.long then Bd.stretchesFrom wl y (wl.long - (i + 1)) (i + 1) (sOf (i + 1) (i + 1)) else []) = wl.stretches y := by
            by_cases hl : i < wl.long
            · have ho : wl.isOpen i y = true := by
                rcases c with z | z
                · omega
                · exact z
              rw [show wl.long - i = (wl.long - (i + 1)) + 1 by omega, str_open ho] at inv
              rw [if_pos (show i + 1 ≤ wl.long by omega), List.append_assoc]
              exact inv
            · rw [if_neg (show ¬ i + 1 ≤ wl.long by omega), List.append_nil]
              rw [show wl.long - i = 0 by omega, str_end] at inv
              exact inv
          refine ⟨_, rfl, _, rfl, _, _, rfl, rfl, _, rfl, ?_⟩
          by_cases hf : f < i
          · rw [decide_eq_true (show ((f : Nat) : Int) < ((i : Nat) : Int) by omega)]
            rw [if_pos hf] at spec
            refine iteT ⟨_, rfl, .inl ⟨rfl, _, SqL.of hq5⟩, _, rfl, _, rfl, _, rfl, _, _, rfl, rfl, (by show 2 ≤ sizeLine; decide), fun t nt => ?_⟩
            refine ⟨q, _, _, rfl, rfl, (by rw [upd_ne (ne_of_none hq5 nt)]; exact hq5), (by rw [List.length_map]; omega), ?_⟩
            refine ⟨_, rfl, _, _, rfl, rfl, ?_⟩
            have eif : ((i : Nat) : Int) - ((f : Nat) : Int) = ((i - f : Nat) : Int) := by omega
            refine ⟨some (.int ((i : Nat) : Int)), i + 1, ts ++ [t], acc ++ [(f, i - f)], ?_, (s25.new nt).set nq, ?_, ?_, Nat.le_refl _, by simp; omega, ?_⟩
            · show [some (V.ref p), some (V.int ((y : Nat) : Int)), some (V.ref q), some (V.int (((i : Nat) : Int) + 1)), some (V.int ((i : Nat) : Int))] = _
              rw [show ((i : Nat) : Int) + 1 = ((i + 1 : Nat) : Int) by omega]
            · rw [upd_same, List.map_append (f := V.ref)]
              rfl
            · rw [List.map_append (f := pI)]
              have t6 : Tups (upd H5 t (.tup [.int ((f : Nat) : Int), .int (((i : Nat) : Int) - ((f : Nat) : Int))])) ts (acc.map pI) := Tups.same ((Same.refl _).new nt) t5
              have hq6 : upd H5 t (.tup [.int ((f : Nat) : Int), .int (((i : Nat) : Int) - ((f : Nat) : Int))]) q = some (.lst (ts.map V.ref)) := by rw [upd_ne (ne_of_none hq5 nt)]; exact hq5
              refine Paired.snoc (Tups.upd t6 hq6) ?_
              rw [upd_ne (Ne.symm (ne_of_none hq5 nt)), upd_same]
              show some (HO.tup [V.int ((f : Nat) : Int), V.int (((i : Nat) : Int) - ((f : Nat) : Int))]) = _
              rw [eif]
              rfl
            · by_cases hl : i + 1 ≤ wl.long
              · rw [if_pos hl] at spec ⊢
                exact spec
              · rw [if_neg hl] at spec ⊢
                rw [List.append_nil] at spec
                exact spec
          · rw [decide_eq_false (show ¬ ((f : Nat) : Int) < ((i : Nat) : Int) by omega)]
            rw [if_neg hf, List.append_nil] at spec
            refine iteF ⟨_, rfl, _, _, rfl, rfl, ?_⟩
            refine ⟨some (.int ((i : Nat) : Int)), i + 1, ts, acc, ?_, s25, hq5, t5, Nat.le_refl _, by omega, ?_⟩
            · show [some (V.ref p), some (V.int ((y : Nat) : Int)), some (V.ref q), some (V.int (((i : Nat) : Int) + 1)), some (V.int ((i : Nat) : Int))] = _
              rw [show ((i : Nat) : Int) + 1 = ((i + 1 : Nat) : Int) by omega]
            · by_cases hl : i + 1 ≤ wl.long
              · rw [if_pos hl] at spec ⊢
                exact spec
              · rw [if_neg hl] at spec ⊢
                rw [List.append_nil] at spec
                exact spec
        · rw [show (decide (i = wl.long) || wl.isOpen i y) = false by
            rw [Bool.eq_false_iff]
            intro z
            rw [Bool.or_eq_true, decide_eq_true_eq] at z
            exact c z]
          have ho : wl.isOpen i y = false := by
            cases z : wl.isOpen i y with
            | false => rfl
            | true => exact absurd (.inr z) c
          refine iteF ⟨some (.int ((i : Nat) : Int)), f, ts, acc, rfl, s25, hq5, t5, by omega, by omega, ?_⟩
          have hl : i + 1 ≤ wl.long := by
            have : i ≠ wl.long := fun z => c (.inl z)
            omega
          rw [if_pos hl]
          rw [show wl.long - i = (wl.long - (i + 1)) + 1 by omega, str_shut fi ho] at inv
          exact inv
    · rintro σ H' ⟨v, f, ts, acc, rfl, s2, hq2, tt, fi, al, inv⟩
      rw [if_neg (by omega)] at inv
      rw [inv] at tt
      exact ⟨_, rfl, k H' q ts s2 nq hq2 tt⟩
end
end Wb
end
section
set_option Elab.async false
set_option linter.all false
set_option maxRecDepth 100000
set_option maxHeartbeats 4000000
namespace Wb
open PySem PySem.Spec PyProof.Rows L2 Wm
open PySem.W (Codec)
/-! ### panels -/
/-- rows of stretches at these places -/
def RowsT (H : Hp) : List Addr → List (List (Nat × Nat)) → Prop := Paired fun r l => ∃ ts : List Addr, H r = some (.lst (ts.map V.ref)) ∧ Tups H ts (l.map pI)
theorem RowsT.same {H H' : Hp} {rs : List Addr} {l : List (List (Nat × Nat))} (s : Same H H') (r : RowsT H rs l) : RowsT H' rs l := Paired.mapP r fun _ _ ⟨ts, h, t⟩ => ⟨ts, s _ _ h, Tups.same s t⟩
theorem RowsT.drop {H : Hp} : ∀ {rs : List Addr} {l : List (List (Nat × Nat))} (n : Nat), RowsT H rs l → RowsT H (rs.drop n) (l.drop n)
  | _, _, 0, r => r
  | _, _, _ + 1, .nil => .nil
  | _, _, n + 1, .cons _ t => RowsT.drop n t
theorem RowsT.upd {H : Hp} {z : Addr} {xs ys : List V} (hz : H z = some (.lst xs)) : ∀ {rs : List Addr} {l : List (List (Nat × Nat))}, RowsT H rs l → z ∉ rs → RowsT (upd H z (.lst ys)) rs l
  | _, _, .nil, _ => .nil
  | _, _, .cons ⟨ts, h1, h2⟩ t, n => .cons ⟨ts, by rw [upd_ne (fun q => n (by simp [q]))]; exact h1, Tups.upd h2 hz⟩ (RowsT.upd hz t fun q => n (by simp [q]))
/-- so many rows from the first on have the stretch -/
def spCourses (K : PySem.W.Frag) : Sp := fun vs H Q _ => ∃ (s r : Addr) (st : Nat × Nat) (rs : List Addr) (l : List (List (Nat × Nat))), vs = [.ref s, .ref r] ∧ H s = some (.tup ((pI st).map V.int)) ∧ H r = some (.lst (rs.map V.ref)) ∧ RowsT H rs l ∧ Q (.int (((l.takeWhile fun x => x.contains st).length : Nat) : Int)) H
def pnF (p : Bd.Part) : List (Str × V) := [("place", .int ((p.x : Nat) : Int)), ("course", .int ((p.y : Nat) : Int)), ("length", .int ((p.long : Nat) : Int)), ("courses", .int ((p.high : Nat) : Int))]
/-- a panel stands at q -/
def PnAt (C : Addr) (H : Hp) (q : Addr) (p : Bd.Part) : Prop := ∃ dx, H q = some (.ins C dx (pnF p))
theorem PnAt.same {C : Addr} {H H' : Hp} {q : Addr} {p : Bd.Part} (s : Same H H') (h : PnAt C H q p) : PnAt C H' q p := let ⟨dx, e⟩ := h; ⟨dx, s _ _ e⟩
abbrev Pns (C : Addr) (H : Hp) : List Addr → List Bd.Part → Prop := Paired (PnAt C H)
theorem Pns.same {C : Addr} {H H' : Hp} {as : List Addr} {l : List Bd.Part} (s : Same H H') (r : Pns C H as l) : Pns C H' as l := Paired.mapP r fun _ _ h => h.same s
theorem Pns.upd {C : Addr} {H : Hp} {z : Addr} {xs ys : List V} (hz : H z = some (.lst xs)) {as : List Addr} {l : List Bd.Part} (r : Pns C H as l) : Pns C (L2.upd H z (.lst ys)) as l :=
  Paired.mapP r fun q o ⟨dq, e⟩ => ⟨dq, by rw [upd_ne (ne_of e hz (by intro z; cases z))]; exact e⟩
def spPanInit (C : Addr) : Sp := fun vs H Q _ => ∃ (p dx : Addr) (v0 v1 v2 v3 : V), vs = [.ref p, v0, v1, v2, v3] ∧ H p = some (.ins C dx []) ∧
  ∀ H' : Hp, H' p = some (.ins C dx [("place", v0), ("course", v1), ("length", v2), ("courses", v3)]) → (∀ b, b ≠ p → H' b = H b) → Q .non H'
def spPanels (CP CW CO : Addr) : Sp := fun vs H Q _ => ∃ (p dx op : Addr) (v0 : V) (as : List Addr) (w : Bd.Wall), vs = [.ref p] ∧ WallIs CW CO H p dx op v0 as w ∧
  ∀ (H' : Hp) (q : Addr) (ts : List Addr), Same H H' → H q = none → H' q = some (.lst (ts.map V.ref)) → Pns CP H' ts w.parts → Q (.ref q) H'
theorem cut_from {l : List V} {n : Nat} (h : n ≤ l.length) : cutV l (some ((n : Nat) : Int)) none = l.drop n := by
  unfold cutV
  have e : HT.sIx l.length 0 (some ((n : Nat) : Int)) = n := by
    show (if ((n : Nat) : Int) < 0 then (((n : Nat) : Int) + ((l.length : Nat) : Int)).toNat else min ((n : Nat) : Int).toNat l.length) = n
    rw [if_neg (by omega)]
    simp
    omega
  rw [e]
  show (l.drop n).take (l.length - n) = _
  rw [show l.length - n = (l.drop n).length by rw [List.length_drop], List.take_length]
section
variable {P : Program} {w : World} {K : PySem.W.Frag} {mg : Str → Option Value} {base : Heap} {a : Ad}
theorem ok_courses_with (T : Txt K mg a) : FnOk P w K mg base (CXo P w) true 1 a.f_courses_with a.d_courses_with ["stretch", "rows"] (spCourses K) := by
  refine fun_ok T.F_courses_with sc_courses_with (fun vs H Q E h => ?_) (fun cdv A outer s0 H vs Q E hr h => ?_)
  · obtain ⟨s, r, st, rs, l, rfl, _⟩ := h
    rfl
  · obtain ⟨s, r, st, rs, l, rfl, hs, hr', rows, k⟩ := h
    refine ⟨_, (pss_cons (ps_set (i := 2) sc_courses_with.nd rfl (by first | exact Or.inl rfl | exact Or.inr rfl) pe_int)
      (pss_cons (ps_while takes_cx.po (PW.pt (pw_and (pt_cmpR op_lt (pv 2) (pe_callB call_len_seq rfl T.z_len bt_len (pa_cons (pv 1) pa_nil)) (nomark _)) (pw_and1 (pt_cmpR (op_in_seqT hr.units) (pv 0) (pe_ix ix_list (pv 1) (pv 2) (fun _ _ => rfl)) rfl)))) (pss_one (ps_aug (i := 2) sc_courses_with.nd rfl (by first | exact Or.inl rfl | exact Or.inr rfl) pe_int ip_add)))
      (pss_one (ps_ret (pv 2))))), ?_⟩
    have lrs : rs.length = l.length := Paired.length rows
    refine while_by (fun σ H' => ∃ n : Nat, σ = [some (.ref s), some (.ref r), some (.int ((n : Nat) : Int))] ∧ H' = H ∧ n ≤ l.length ∧ ∀ j y, j < n → l[j]? = some y → y.contains st = true) (fun σ _ => match σ with
      | [_, _, some (.int n)] => l.length - n.toNat
      | _ => 0) ⟨0, rfl, rfl, Nat.zero_le _, fun j y h => absurd h (by omega)⟩ ?_ ?_
    · rintro σ H' ⟨n, rfl, rfl, hn, all⟩
      by_cases hlt : n < l.length
      · have hl : l[n]? = some l[n] := List.getElem?_eq_getElem hlt
        obtain ⟨q, hq, ts, hts, tt⟩ := Paired.getR rows hl
        refine rd_and (x := true) (y := l[n].contains st) (fun R z => ⟨_, rfl, _, rfl, r, _, rfl, .inl (SqL.of hr'), _, _, rfl, rfl, _, rfl, ?_⟩) (fun _ R z => ⟨_, rfl, _, rfl, _, rfl, r, _, _, .ref q, rfl, rfl, SqL.of hr', atI_nat (by rw [List.getElem?_map, hq]; rfl), s, q, pI st, ts, _, rfl, rfl, hs, SqL.of hts, tt, _, rfl, ?_⟩) ?_
        · rw [decide_eq_true (show ((n : Nat) : Int) < (((rs.map V.ref).length : Nat) : Int) by rw [List.length_map, lrs]; omega)]
          exact z
        · rw [if_neg (by decide), contains_pI]
          exact z
        · rw [Bool.true_and]
          cases hc : l[n].contains st with
          | true =>
            refine iteT ⟨_, rfl, _, _, rfl, rfl, ?_⟩
            refine ⟨⟨n + 1, ?_, rfl, hlt, fun j y hj hy => ?_⟩, ?_⟩
            · show [some (V.ref s), some (V.ref r), some (V.int (((n : Nat) : Int) + 1))] = _
              rw [show ((n : Nat) : Int) + 1 = ((n + 1 : Nat) : Int) by omega]
            · by_cases e : j = n
              · subst e
                rw [hl] at hy
                obtain rfl := Option.some.inj hy
                exact hc
              · exact all j y (by omega) hy
            · show l.length - (((n : Nat) : Int) + 1).toNat < l.length - ((n : Nat) : Int).toNat
              omega
          | false =>
            refine iteF ⟨_, rfl, ?_⟩
            have e := tw_step (p := fun x => x.contains st) hl all
            rw [if_neg (by rw [hc]; decide)] at e
            rw [e] at k
            exact k
      · have e : n = l.length := by omega
        subst e
        refine rd_and (x := false) (y := false) (fun R z => ⟨_, rfl, _, rfl, r, _, rfl, .inl (SqL.of hr'), _, _, rfl, rfl, _, rfl, ?_⟩) (fun z => nomatch z) ?_
        · rw [decide_eq_false (show ¬ ((l.length : Nat) : Int) < (((rs.map V.ref).length : Nat) : Int) by rw [List.length_map, lrs]; omega)]
          exact z
        · refine iteF ⟨_, rfl, ?_⟩
          rw [tw_all all] at k
          exact k
    · intro σ H' R R' m h
      obtain ⟨v, e, u, e2, p1, ys, e3, hq, i, j, e4, e5, c, e6, z⟩ := h
      refine ⟨v, e, u, e2, p1, ys, e3, hq, i, j, e4, e5, c, e6, ?_⟩
      cases c with
      | false => exact m _ _ z
      | true =>
        obtain ⟨v1, q1, v2, q2, v3, q3, p2, xs, i2, v4, q4, q5, q6, q7, s2, p3, ns, as3, nss, q8, q9, q10, q11, q12, c2, q13, z⟩ := z
        exact ⟨v1, q1, v2, q2, v3, q3, p2, xs, i2, v4, q4, q5, q6, q7, s2, p3, ns, as3, nss, q8, q9, q10, q11, q12, c2, q13, m _ _ z⟩
theorem ok_Panel___init__ (T : Txt K mg a) : FnOk P w K mg base (CXo P w) true 1 a.f_Panel___init__ a.d_Panel___init__ ["self", "place", "course", "length", "courses"] (spPanInit a.c_Panel) := by
  refine fun_ok T.F_Panel___init__ sc_Panel___init__ (fun vs H Q E h => ?_) (fun cdv A outer s0 H vs Q E hr h => ?_)
  · obtain ⟨p, dx, v0, v1, v2, v3, rfl, _⟩ := h
    rfl
  · obtain ⟨p, dx, v0, v1, v2, v3, rfl, hp, k⟩ := h
    refine ⟨_, (pss_cons (ps_fld (pv 0) (pv 1) rfl)
      (pss_cons (ps_fld (pv 0) (pv 2) rfl)
      (pss_cons (ps_fld (pv 0) (pv 3) rfl)
      (pss_one (ps_fld (pv 0) (pv 4) rfl))))), ?_⟩
    refine ⟨_, rfl, _, rfl, p, _, dx, _, rfl, hp, T.C_Panel, T.n_Panel_place, (by show 0 < 1000; decide), ?_⟩
    refine ⟨_, rfl, _, rfl, p, _, dx, _, rfl, upd_same, T.C_Panel, T.n_Panel_course, (by show 1 < 1000; decide), ?_⟩
    rw [upd_upd]
    refine ⟨_, rfl, _, rfl, p, _, dx, _, rfl, upd_same, T.C_Panel, T.n_Panel_length, (by show 2 < 1000; decide), ?_⟩
    rw [upd_upd]
    refine ⟨_, rfl, _, rfl, p, _, dx, _, rfl, upd_same, T.C_Panel, T.n_Panel_courses, (by show 3 < 1000; decide), ?_⟩
    rw [upd_upd]
    exact k _ upd_same fun b hb => upd_ne hb
theorem ok_panels_of (T : Txt K mg a) : FnOk P w K mg base (CXo P w) true 4 a.f_panels_of a.d_panels_of ["wall"] (spPanels a.c_Panel a.c_Wall a.c_Opening) := by
  have G_Panel___init__ : FnOk P w K mg base (CXo P w) true 1 a.f_Panel___init__ a.d_Panel___init__ ["self", "place", "course", "length", "courses"] (spPanInit a.c_Panel) := ok_Panel___init__ T
  have G_stretches_of : FnOk P w K mg base (CXo P w) true 3 a.f_stretches_of a.d_stretches_of ["wall", "course"] (spStretches a.c_Wall a.c_Opening) := ok_stretches_of T
  have G_courses_with : FnOk P w K mg base (CXo P w) true 1 a.f_courses_with a.d_courses_with ["stretch", "rows"] (spCourses K) := ok_courses_with T
  refine fun_ok T.F_panels_of sc_panels_of (fun vs H Q E h => ?_) (fun cdv A outer s0 H vs Q E hr h => ?_)
  · obtain ⟨p, dx, op, v0, as, wl, rfl, _⟩ := h
    rfl
  · obtain ⟨p, dx, op, v0, as, wl, rfl, W, k⟩ := h
    have zl := szl
    have h8 := W.h8
    have l32 := W.l32
    refine ⟨_, (pss_cons (ps_setLcX (i := 1) takes_cx rfl rfl (own := [("course", 2)]) rfl sc_panels_of.nd rfl rfl rfl (pi_range1 rfl T.z_range (pa_cons (pe_fld (pv 0) rfl) pa_nil)) (by show BlkOk ["wall", "rows", "course", "panels", "row", "stretch"] (defScope s_panels_of) _ [("course", 2)]; exact ⟨rfl, by decide +kernel, by decide +kernel, by decide +kernel, by decide +kernel⟩) (fun s H C cl fp xe tk => (pg_name (i := 2) sc_panels_of.nd rfl (by first | exact Or.inl rfl | exact Or.inr rfl))) (fun s H C cl fp xe tk => pts_nil) (fun s H C cl fp xe tk => (pe_call G_stretches_of (hr.mono (by decide)) rfl T.m_stretches_of T.F_stretches_of.kp T.b_stretches_of .nil tk.passes (pa_cons (pv 0) (pa_cons (pv 2) pa_nil)))))
      (pss_cons (ps_set (i := 3) sc_panels_of.nd rfl (by first | exact Or.inl rfl | exact Or.inr rfl) (pe_lst pa_nil))
      (pss_cons (ps_for takes_cx.po rfl (pi_enum rfl T.z_enumerate (pa_cons (pv 1) pa_nil)) (pg_tup rfl (pgs_cons (pg_name (i := 2) sc_panels_of.nd rfl (by first | exact Or.inl rfl | exact Or.inr rfl)) (pgs_cons (pg_name (i := 4) sc_panels_of.nd rfl (by first | exact Or.inl rfl | exact Or.inr rfl)) pgs_nil))) (pss_one (ps_for takes_cx.po rfl (pi_list (pv 4)) (pg_name (i := 5) sc_panels_of.nd rfl (by first | exact Or.inl rfl | exact Or.inr rfl)) (pss_one (ps_if (PW.pt (pw_or (pt_cmpR op_eq (pv 2) pe_int (nomark _)) (pw_or1 (pt_cmpR (op_notIn_seqT hr.units) (pv 5) (pe_ix ix_list (pv 1) (pe_op op_sub (pv 2) pe_int) (fun _ _ => rfl)) rfl)))) (pss_one (ps_expr (pe_bm PySem.F.plainAttrs_list PySem.F.slot_list_append PySem.F.type_list_append mt_append (pv 3) (pa_cons (pe_make T.K_Panel G_Panel___init__ (hr.mono (by decide)) rfl T.m_Panel T.b_Panel___init__ .nil takes_cx.passes (pa_cons (pe_ix ix_tup (pv 5) pe_int (fun _ _ => rfl)) (pa_cons (pv 2) (pa_cons (pe_ix ix_tup (pv 5) pe_int (fun _ _ => rfl)) (pa_cons (pe_call G_courses_with (hr.mono (by decide)) rfl T.m_courses_with T.F_courses_with.kp T.b_courses_with .nil takes_cx.passes (pa_cons (pv 5) (pa_cons (pe_slice sl_list (pv 1) (po_some (pv 2)) po_none) pa_nil))) pa_nil))))) pa_nil)))) pss_nil)))))
      (pss_one (ps_ret (pv 3)))))), ?_⟩
    -- rows
    refine ⟨_, rfl, p, _, dx, _, _, rfl, W.at_, T.C_Wall, T.n_Wall_height, rfl, _, rfl, by omega, by omega, fun rl nrl => ?_⟩
    rw [show (((wl.high : Nat) : Int)).toNat = wl.high by omega]
    refine lc_range (lo := 0) (n := wl.high) (fun i H' => ∃ rs : List Addr, Same H H' ∧ H' rl = some (.lst (rs.map V.ref)) ∧ RowsT H' rs ((List.range i).map wl.stretches) ∧ rl ∉ rs) ⟨[], (Same.refl _).new nrl, upd_same, .nil, by simp⟩ ?_ ?_
    · rintro i H' hi ⟨rs, s1, hrl, rows, nr⟩
      rw [show (0 : Int) + ((i : Nat) : Int) = ((i : Nat) : Int) from Int.zero_add _]
      refine ⟨rfl, _, rfl, _, rfl, p, dx, op, v0, as, wl, i, rfl, W.same s1, fun H2 q ts s2 nq hq tt => ?_⟩
      have lrs := Paired.length rows
      rw [List.length_map, List.length_range] at lrs
      have qrl : rl ≠ q := ne_of_none hrl nq
      refine ⟨_, s2 _ _ hrl, (by rw [List.length_map]; omega), rs ++ [q], (s1.trans s2).set nrl, ?_, ?_, ?_⟩
      · rw [upd_same, List.map_append]
        rfl
      · rw [range_snoc, List.map_append]
        exact Paired.snoc (RowsT.upd (s2 _ _ hrl) (RowsT.same s2 rows) nr) ⟨ts, by rw [upd_ne (Ne.symm qrl)]; exact hq, Tups.upd tt (s2 _ _ hrl)⟩
      · simp only [List.mem_append, List.mem_singleton, not_or]
        exact ⟨nr, qrl⟩
    · rintro H2 ⟨rs, s2, hrl, rows, nr⟩
      have rows : RowsT H2 rs (rowsW wl) := rows
      have lrs := Paired.length rows
      have lrw : (rowsW wl).length = wl.high := by unfold rowsW; rw [List.length_map, List.length_range]
      -- panels
      refine ⟨Nat.zero_le _, fun pl npl => ?_⟩
      have s3 : Same H2 (upd H2 pl (.lst [])) := (Same.refl _).new npl
      have hpl : upd H2 pl (.lst []) pl = some (.lst []) := upd_same
      generalize upd H2 pl (.lst []) = H3 at s3 hpl
      refine ⟨_, rfl, rl, _, rfl, SqL.of (s3 _ _ hrl), for_enum (K := K) (a := rl) (xs := rs.map V.ref) (fun c σ H' => ∃ (v2 v4 v5 : Option V) (ts : List Addr), σ = [some (.ref p), some (.ref rl), v2, some (.ref pl), v4, v5] ∧ Same H2 H' ∧ H' pl = some (.lst (ts.map V.ref)) ∧ Pns a.c_Panel H' ts (partsTo wl c))
        ⟨none, none, none, [], rfl, s3, hpl, .nil⟩ (fun c σ H' _ ⟨_, _, _, _, _, s4, _⟩ => SqL.of (s4 _ _ hrl)) ?_ ?_⟩
      · rintro c v σ H' tp hi ⟨v2, v4, v5, ts, rfl, s4, hpl4, tt⟩ ntp
        rw [List.getElem?_map] at hi
        obtain ⟨r, hr2, rfl⟩ : ∃ r, rs[c]? = some r ∧ v = .ref r := by
          cases e : rs[c]? with
          | none => rw [e] at hi; cases hi
          | some r => rw [e] at hi; exact ⟨r, rfl, (Option.some.inj hi).symm⟩
        have cl : c < wl.high := by
          have := (List.getElem?_eq_some_iff.mp hr2).1
          omega
        obtain ⟨l, hl, us, hus, tus⟩ := Paired.get rows hr2
        obtain rfl : wl.stretches c = l := by
          rw [rowsW_get cl] at hl
          exact Option.some.inj hl
        refine ⟨tp, _, rfl, .inl (.inl upd_same), rfl, _, _, rfl, _, _, rfl, rfl, ?_⟩
        have s5 : Same H2 (upd H' tp (.tup [.int ((c : Nat) : Int), .ref r])) := s4.new ntp
        have hpl5 : upd H' tp (.tup [.int ((c : Nat) : Int), .ref r]) pl = some (.lst (ts.map V.ref)) := by rw [upd_ne (ne_of_none hpl4 ntp)]; exact hpl4
        have tt5 : Pns a.c_Panel (upd H' tp (.tup [.int ((c : Nat) : Int), .ref r])) ts (partsTo wl c) := Pns.same ((Same.refl _).new ntp) tt
        generalize upd H' tp (.tup [.int ((c : Nat) : Int), .ref r]) = H5 at s5 hpl5 tt5
        have lus := Paired.length tus
        rw [List.length_map] at lus
        refine ⟨_, rfl, r, rfl, ⟨_, SqL.of (s5 _ _ hus)⟩, for_list (K := K) (a := r) (xs := us.map V.ref) (fun j σ H' => ∃ (v5 : Option V) (ts : List Addr), σ = [some (.ref p), some (.ref rl), some (.int ((c : Nat) : Int)), some (.ref pl), some (.ref r), v5] ∧ Same H2 H' ∧ H' pl = some (.lst (ts.map V.ref)) ∧ Pns a.c_Panel H' ts (partsTo wl c ++ partsIn wl c ((wl.stretches c).take j)))
          ⟨_, ts, rfl, s5, hpl5, by simpa [partsIn] using tt5⟩ (fun j σ H' _ ⟨_, _, _, s6, _⟩ => SqL.of (s6 _ _ hus)) ?_ ?_⟩
        · rintro j v σ H6 hj ⟨v5, ts, rfl, s6, hpl6, tt6⟩
          rw [List.getElem?_map] at hj
          obtain ⟨u, hu, rfl⟩ : ∃ u, us[j]? = some u ∧ v = .ref u := by
            cases e : us[j]? with
            | none => rw [e] at hj; cases hj
            | some u => rw [e] at hj; exact ⟨u, rfl, (Option.some.inj hj).symm⟩
          obtain ⟨si, hsi, hu6⟩ := Paired.get tus hu
          rw [List.getElem?_map] at hsi
          obtain ⟨st, hst, rfl⟩ : ∃ st, (wl.stretches c)[j]? = some st ∧ si = pI st := by
            cases e : (wl.stretches c)[j]? with
            | none => rw [e] at hsi; cases hsi
            | some st => rw [e] at hsi; exact ⟨st, rfl, (Option.some.inj hsi).symm⟩
          have hs6 := s6 _ _ hu6
          have hrl6 := s6 _ _ hrl
          have rows6 := RowsT.same s6 rows
          have plen : ts.length ≤ 500 := by
            have z := Paired.length tt6
            rw [List.length_append] at z
            have z1 := partsTo_len wl c
            have z2 := partsIn_len wl c ((wl.stretches c).take j)
            have z3 := stretches_len wl c
            rw [List.length_take] at z2
            have z4 : c * (wl.long + 1) ≤ 8 * 33 := Nat.mul_le_mul (by omega) (by omega)
            omega
          dsimp only [gName, tNext, tSeq, tIfS]
          refine rd_or (x := decide (c = 0)) (y := !(wl.stretches (c - 1)).contains st) (fun R z => ⟨_, rfl, rfl, _, rfl, ?_⟩) (fun hc R z => ?_) ?_
          · have e : decide (V.int ((c : Nat) : Int) = V.int 0) = decide (c = 0) := decide_eq_decide.mpr ⟨fun q => by have := V.int.inj q; omega, fun q => by rw [q]; rfl⟩
            rw [e]
            exact z
          · have c0 : c ≠ 0 := of_decide_eq_false hc
            obtain ⟨r1, hr1, t1, ht1, tt1⟩ := Paired.getR rows6 (rowsW_get (w := wl) (y := c - 1) (by omega))
            refine ⟨_, rfl, _, rfl, _, rfl, _, _, rfl, rfl, rl, _, _, .ref r1, rfl, rfl, SqL.of hrl6, at_of (j := c - 1) (by omega) (by rw [List.getElem?_map, hr1]; rfl), u, r1, pI st, t1, _, rfl, rfl, hs6, SqL.of ht1, tt1, _, rfl, ?_⟩
            rw [if_pos rfl, contains_pI]
            exact z
          · have ec : (decide (c = 0) || !(wl.stretches (c - 1)).contains st) = !(decide (0 < c) && (wl.stretches (c - 1)).contains st) := by
              by_cases q : c = 0
              · subst q
                simp
              · rw [decide_eq_false q, decide_eq_true (show 0 < c by omega)]
                simp
            rw [ec]
            have snoc := partsIn_snoc wl c ((wl.stretches c).take j) st
            rw [← take_snoc hst] at snoc
            cases hb : (decide (0 < c) && (wl.stretches (c - 1)).contains st) with
            | true =>
              rw [if_pos hb, List.append_nil] at snoc
              refine iteF ⟨_, ts, rfl, s6, hpl6, ?_⟩
              rw [snoc]
              exact tt6
            | false =>
              rw [if_neg (by rw [hb]; decide)] at snoc
              refine iteT ⟨_, rfl, .inl ⟨rfl, _, SqL.of hpl6⟩, _, rfl, u, _, _, _, rfl, rfl, .inl (.inl hs6), atI_nat (j := 0) rfl, _, rfl, _, rfl, u, _, _, _, rfl, rfl, .inl (.inl hs6), atI_nat (j := 1) rfl, _, rfl, _, rfl, _, rfl, _, rfl, rl, _, rfl, SqL.of hrl6, fun sl nsl => ?_⟩
              rw [cut_from (by rw [List.length_map]; omega), ← List.map_drop]
              have s7 : Same H6 (upd H6 sl (.lst ((rs.drop c).map V.ref))) := (Same.refl _).new nsl
              have hsl7 : upd H6 sl (.lst ((rs.drop c).map V.ref)) sl = some (.lst ((rs.drop c).map V.ref)) := upd_same
              generalize upd H6 sl (.lst ((rs.drop c).map V.ref)) = H7 at s7 hsl7
              refine ⟨u, sl, st, rs.drop c, (rowsW wl).drop c, rfl, s7 _ _ hs6, hsl7, RowsT.drop c (RowsT.same s7 rows6), fun t dt nt ndt ndd => ⟨t, dt, _, _, _, _, rfl, upd_same, fun H8 e8 kp => ⟨rfl, ?_⟩⟩⟩
              rw [run_eq wl st c (by omega)] at e8
              have s8 : Same H7 H8 := fun b o e => by
                have q1 : b ≠ t := ne_of_none e nt
                have q2 : b ≠ dt := ne_of_none e ndt
                rw [kp b q1, upd_ne q1, upd_ne q2]
                exact e
              have hpl8 := s8 _ _ (s7 _ _ hpl6)
              refine ⟨pl, _, _, rfl, rfl, hpl8, (by rw [List.length_map]; omega), ?_⟩
              refine ⟨_, ts ++ [t], rfl, ((s6.trans s7).trans s8).set npl, ?_, ?_⟩
              · rw [upd_same, List.map_append]
                rfl
              · rw [snoc, ← List.append_assoc]
                refine Paired.snoc (Pns.upd hpl8 (Pns.same s8 (Pns.same s7 tt6))) ⟨dt, ?_⟩
                rw [upd_ne (ne_of e8 hpl8 (by intro z; cases z)), e8]
                rfl
        · rintro σ H6 ⟨v5, ts, rfl, s6, hpl6, tt6⟩
          rw [List.length_map, lus, List.take_length, ← partsTo_succ] at tt6
          exact ⟨_, _, _, ts, rfl, s6, hpl6, tt6⟩
      · rintro σ H' ⟨v2, v4, v5, ts, rfl, s4, hpl4, tt⟩
        rw [List.length_map, lrs, lrw] at tt
        exact ⟨_, rfl, k H' pl ts (s2.trans s4) (s2.free npl) hpl4 tt⟩
end
end Wb
end
section
set_option Elab.async false
set_option linter.all false
set_option maxRecDepth 100000
set_option maxHeartbeats 4000000
namespace Wb
open PySem PySem.Spec PyProof.Rows L2 Wm
open PySem.W (Codec)
/-! ### the panel at a place -/
def spHas (C : Addr) : Sp := fun vs H Q _ => ∃ (q : Addr) (p : Bd.Part) (x y : Nat), vs = [.ref q, .int ((x : Nat) : Int), .int ((y : Nat) : Int)] ∧ PnAt C H q p ∧ Q (.bl (p.has x y)) H
def spPanelAt (CW CO CX CN : Addr) : Sp := fun vs H Q E => ∃ (p dx op : Addr) (v0 : V) (as : List Addr) (w : Bd.Wall) (x y : Nat), vs = [.ref p, .int ((x : Nat) : Int), .int ((y : Nat) : Int)] ∧ WallIs CW CO H p dx op v0 as w ∧
  if w.long ≤ x ∨ w.high ≤ y then FailsN CX (-1) E H else match w.parts.findIdx? fun (p : Bd.Part) => p.has x y with
  | none => FailsN CN (-3) E H
  | some n => ∀ H' : Hp, Same H H' → Q (.int ((n : Nat) : Int)) H'
section
variable {P : Program} {w : World} {K : PySem.W.Frag} {mg : Str → Option Value} {base : Heap} {a : Ad}
theorem ok_Outside___init__ (T : Txt K mg a) : FnOk P w K mg base (CXo P w) true 2 a.f_Outside___init__ a.d_Outside___init__ ["self"] (spErr0 a.c_Outside (-1)) := by
  have G_Refusal___init__ : FnOk P w K mg base (CXo P w) true 1 a.f_Refusal___init__ a.d_Refusal___init__ ["self", "number", "told"] (spRef K) := ok_Refusal___init__ T
  refine fun_ok T.F_Outside___init__ sc_Outside___init__ (fun vs H Q E h => ?_) (fun cdv A outer s H vs Q E hr h => ?_)
  · obtain ⟨p, fr, tb, rfl, _⟩ := h
    rfl
  · obtain ⟨p, fr, tb, rfl, hp, k⟩ := h
    refine ⟨_, (pss_one (ps_expr (pe_ccall G_Refusal___init__ (hr.mono (by decide)) rfl T.m_Refusal T.A_Refusal___init__ T.b_Refusal___init__ takes_cx.passes (pa_cons (pv 0) (pa_cons (pe_un un_neg pe_int) (pa_cons (pe_lst pa_nil) pa_nil)))))), ?_⟩
    refine ⟨_, rfl, _, rfl, Nat.zero_le _, fun q nq => ?_⟩
    have pq : p ≠ q := ne_of_none hp nq
    refine ⟨p, _, _, _, fr, tb, rfl, T.D_Outside, T.n_Outside_number, T.n_Outside_told, by rw [upd_ne pq]; exact hp, fun d H1 nd dp e1 e2 kp => ?_⟩
    have dq : d ≠ q := fun e => by rw [e, upd_same] at nd; cases nd
    refine k d q H1 (by rw [upd_ne dq] at nd; exact nd) nq dp e1 e2 (by rw [kp q (Ne.symm pq) (Ne.symm dq)]; exact upd_same) fun b h1 h2 h3 => by rw [kp b h1 h2, upd_ne h3]
theorem ok_NotThere___init__ (T : Txt K mg a) : FnOk P w K mg base (CXo P w) true 2 a.f_NotThere___init__ a.d_NotThere___init__ ["self"] (spErr0 a.c_NotThere (-3)) := by
  have G_Refusal___init__ : FnOk P w K mg base (CXo P w) true 1 a.f_Refusal___init__ a.d_Refusal___init__ ["self", "number", "told"] (spRef K) := ok_Refusal___init__ T
  refine fun_ok T.F_NotThere___init__ sc_NotThere___init__ (fun vs H Q E h => ?_) (fun cdv A outer s H vs Q E hr h => ?_)
  · obtain ⟨p, fr, tb, rfl, _⟩ := h
    rfl
  · obtain ⟨p, fr, tb, rfl, hp, k⟩ := h
    refine ⟨_, (pss_one (ps_expr (pe_ccall G_Refusal___init__ (hr.mono (by decide)) rfl T.m_Refusal T.A_Refusal___init__ T.b_Refusal___init__ takes_cx.passes (pa_cons (pv 0) (pa_cons (pe_un un_neg pe_int) (pa_cons (pe_lst pa_nil) pa_nil)))))), ?_⟩
    refine ⟨_, rfl, _, rfl, Nat.zero_le _, fun q nq => ?_⟩
    have pq : p ≠ q := ne_of_none hp nq
    refine ⟨p, _, _, _, fr, tb, rfl, T.D_NotThere, T.n_NotThere_number, T.n_NotThere_told, by rw [upd_ne pq]; exact hp, fun d H1 nd dp e1 e2 kp => ?_⟩
    have dq : d ≠ q := fun e => by rw [e, upd_same] at nd; cases nd
    refine k d q H1 (by rw [upd_ne dq] at nd; exact nd) nq dp e1 e2 (by rw [kp q (Ne.symm pq) (Ne.symm dq)]; exact upd_same) fun b h1 h2 h3 => by rw [kp b h1 h2, upd_ne h3]
theorem ok_Panel_has (T : Txt K mg a) : FnOk P w K mg base (CXo P w) true 1 a.f_Panel_has a.d_Panel_has ["self", "place", "course"] (spHas a.c_Panel) := by
  refine fun_ok T.F_Panel_has sc_Panel_has (fun vs H Q E h => ?_) (fun cdv A outer s0 H vs Q E hr h => ?_)
  · obtain ⟨q, p, x, y, rfl, _⟩ := h
    rfl
  · obtain ⟨q, p, x, y, rfl, ⟨dx, hp⟩, k⟩ := h
    refine ⟨_, (pss_cons (ps_set (i := 3) sc_Panel_has.nd rfl (by first | exact Or.inl rfl | exact Or.inr rfl) (pe_chain op_le op_lt (pe_fld (pv 0) rfl) (pv 1) (pe_op op_add (pe_fld (pv 0) rfl) (pe_fld (pv 0) rfl))))
      (pss_one (ps_ret (pe_and (pv 3) (pe_one (pe_chain op_le op_lt (pe_fld (pv 0) rfl) (pv 2) (pe_op op_add (pe_fld (pv 0) rfl) (pe_fld (pv 0) rfl)))))))), ?_⟩
    have fld : ∀ {σ : L2.St}, σ[0]? = some (some (.ref q)) → PureV (tFld K (tVar 0) "place") σ H (.int ((p.x : Nat) : Int)) ∧ PureV (tFld K (tVar 0) "course") σ H (.int ((p.y : Nat) : Int)) ∧ PureV (tFld K (tVar 0) "length") σ H (.int ((p.long : Nat) : Int)) ∧ PureV (tFld K (tVar 0) "courses") σ H (.int ((p.high : Nat) : Int)) := fun h =>
      ⟨rd_fld h hp T.C_Panel T.n_Panel_place rfl, rd_fld h hp T.C_Panel T.n_Panel_course rfl, rd_fld h hp T.C_Panel T.n_Panel_length rfl, rd_fld h hp T.C_Panel T.n_Panel_courses rfl⟩
    obtain ⟨f1, f2, f3, f4⟩ := fld (σ := [some (.ref q), some (.int ((x : Nat) : Int)), some (.int ((y : Nat) : Int)), none]) rfl
    refine pv_chainLt f1 (pv_var rfl) (rd_add f1 f3) _ ?_
    obtain ⟨f1, f2, f3, f4⟩ := fld (σ := [some (.ref q), some (.int ((x : Nat) : Int)), some (.int ((y : Nat) : Int)), some (.bl (decide (((p.x : Nat) : Int) ≤ ((x : Nat) : Int)) && decide (((x : Nat) : Int) < ((p.x : Nat) : Int) + ((p.long : Nat) : Int))))]) rfl
    refine pv_andV (pv_var rfl) (pv_chainLt f2 (pv_var rfl) (rd_add f2 f4)) _ ?_
    have e : ((decide (((p.x : Nat) : Int) ≤ ((x : Nat) : Int)) && decide (((x : Nat) : Int) < ((p.x : Nat) : Int) + ((p.long : Nat) : Int))) && (decide (((p.y : Nat) : Int) ≤ ((y : Nat) : Int)) && decide (((y : Nat) : Int) < ((p.y : Nat) : Int) + ((p.high : Nat) : Int)))) = p.has x y := by
      unfold Bd.Part.has
      rw [Bool.eq_iff_iff]
      simp only [Bool.and_eq_true, decide_eq_true_eq]
      omega
    rw [e]
    exact k
theorem ok_panel_at (T : Txt K mg a) : FnOk P w K mg base (CXo P w) true 5 a.f_panel_at a.d_panel_at ["wall", "place", "course"] (spPanelAt a.c_Wall a.c_Opening a.c_Outside a.c_NotThere) := by
  have G_Outside___init__ : FnOk P w K mg base (CXo P w) true 2 a.f_Outside___init__ a.d_Outside___init__ ["self"] (spErr0 a.c_Outside (-1)) := ok_Outside___init__ T
  have G_NotThere___init__ : FnOk P w K mg base (CXo P w) true 2 a.f_NotThere___init__ a.d_NotThere___init__ ["self"] (spErr0 a.c_NotThere (-3)) := ok_NotThere___init__ T
  have G_Panel_has : FnOk P w K mg base (CXo P w) true 1 a.f_Panel_has a.d_Panel_has ["self", "place", "course"] (spHas a.c_Panel) := ok_Panel_has T
  have G_panels_of : FnOk P w K mg base (CXo P w) true 4 a.f_panels_of a.d_panels_of ["wall"] (spPanels a.c_Panel a.c_Wall a.c_Opening) := ok_panels_of T
  refine fun_ok T.F_panel_at sc_panel_at (fun vs H Q E h => ?_) (fun cdv A outer s0 H vs Q E hr h => ?_)
  · obtain ⟨p, dx, op, v0, as, wl, x, y, rfl, _⟩ := h
    rfl
  · obtain ⟨p, dx, op, v0, as, wl, x, y, rfl, W, k⟩ := h
    refine ⟨_, (pss_cons (ps_if (PW.pt (pw_or (pt_cmpR op_ge (pv 1) (pe_fld (pv 0) rfl) (nomark _)) (pw_or1 (pt_cmpR op_ge (pv 2) (pe_fld (pv 0) rfl) (nomark _))))) (pss_one (ps_raise takes_cx rfl (pe_makeX0 T.X_Outside G_Outside___init__ (hr.mono (by decide)) rfl T.m_Outside T.b_Outside___init__ takes_cx))) pss_nil)
      (pss_cons (ps_for takes_cx.po rfl (pi_enum rfl T.z_enumerate (pa_cons (pe_call G_panels_of (hr.mono (by decide)) rfl T.m_panels_of T.F_panels_of.kp T.b_panels_of .nil takes_cx.passes (pa_cons (pv 0) pa_nil)) pa_nil)) (pg_tup rfl (pgs_cons (pg_name (i := 3) sc_panel_at.nd rfl (by first | exact Or.inl rfl | exact Or.inr rfl)) (pgs_cons (pg_name (i := 4) sc_panel_at.nd rfl (by first | exact Or.inl rfl | exact Or.inr rfl)) pgs_nil))) (pss_one (ps_if (pt_val (pe_meth (pv 4) T.C_Panel T.M_Panel_has G_Panel_has (hr.mono (by decide)) T.b_Panel_has .nil takes_cx.passes (pa_cons (pv 1) (pa_cons (pv 2) pa_nil)))) (pss_one (ps_ret (pv 3))) pss_nil)))
      (pss_one (ps_raise takes_cx rfl (pe_makeX0 T.X_NotThere G_NotThere___init__ (hr.mono (by decide)) rfl T.m_NotThere T.b_NotThere___init__ takes_cx))))), ?_⟩
    dsimp only [tNext, tSeq, tIfS]
    refine rd_or (x := decide (wl.long ≤ x)) (y := decide (wl.high ≤ y)) (fun R r => ⟨_, rfl, _, rfl, p, _, dx, _, _, rfl, W.at_, T.C_Wall, T.n_Wall_length, rfl, _, _, rfl, rfl, _, rfl, ?_⟩) (fun _ R r => ⟨_, rfl, _, rfl, p, _, dx, _, _, rfl, W.at_, T.C_Wall, T.n_Wall_height, rfl, _, _, rfl, rfl, _, rfl, ?_⟩) ?_
    · rw [show decide (((wl.long : Nat) : Int) ≤ ((x : Nat) : Int)) = decide (wl.long ≤ x) from decide_eq_decide.mpr (by omega)]
      exact r
    · rw [show decide (((wl.high : Nat) : Int) ≤ ((y : Nat) : Int)) = decide (wl.high ≤ y) from decide_eq_decide.mpr (by omega)]
      exact r
    by_cases q : wl.long ≤ x ∨ wl.high ≤ y
    · rw [if_pos q] at k
      rw [show (decide (wl.long ≤ x) || decide (wl.high ≤ y)) = true by rw [Bool.or_eq_true, decide_eq_true_eq, decide_eq_true_eq]; exact q]
      exact iteT (raise_none T.E_Outside k)
    · rw [if_neg q] at k
      rw [show (decide (wl.long ≤ x) || decide (wl.high ≤ y)) = false by
        rw [Bool.eq_false_iff]
        intro z
        rw [Bool.or_eq_true, decide_eq_true_eq, decide_eq_true_eq] at z
        exact q z]
      refine iteF ⟨_, rfl, p, dx, op, v0, as, wl, rfl, W, fun H1 ql ts s1 nq hq tt => ?_⟩
      have lts := Paired.length tt
      refine ⟨ql, _, rfl, SqL.of hq, for_enum (K := K) (a := ql) (xs := ts.map V.ref) (fun i σ H' => ∃ v3 v4 : Option V, σ = [some (.ref p), some (.int ((x : Nat) : Int)), some (.int ((y : Nat) : Int)), v3, v4] ∧ Same H1 H' ∧ ∀ j pt, j < i → wl.parts[j]? = some pt → pt.has x y = false)
        ⟨none, none, rfl, Same.refl _, fun j pt h => absurd h (by omega)⟩ (fun i σ H' _ ⟨_, _, _, s2, _⟩ => SqL.of (s2 _ _ hq)) ?_ ?_⟩
      · rintro i v σ H' tp hi ⟨v3, v4, rfl, s2, no⟩ ntp
        rw [List.getElem?_map] at hi
        obtain ⟨u, hu, rfl⟩ : ∃ u, ts[i]? = some u ∧ v = .ref u := by
          cases e : ts[i]? with
          | none => rw [e] at hi; cases hi
          | some u => rw [e] at hi; exact ⟨u, rfl, (Option.some.inj hi).symm⟩
        obtain ⟨pt, hpt, hu1⟩ := Paired.get tt hu
        have s3 : Same H1 (upd H' tp (.tup [.int ((i : Nat) : Int), .ref u])) := s2.new ntp
        have hu3 := hu1.same s3
        refine ⟨tp, _, rfl, .inl (.inl upd_same), rfl, _, _, rfl, _, _, rfl, rfl, ?_⟩
        generalize upd H' tp (.tup [.int ((i : Nat) : Int), .ref u]) = H3 at s3 hu3
        obtain ⟨du, hu4⟩ := id hu3
        refine ⟨_, rfl, u, du, _, rfl, hu4, rfl, _, rfl, _, rfl, u, pt, x, y, rfl, hu3, _, rfl, ?_⟩
        cases hh : pt.has x y with
        | true =>
          refine iteT ⟨_, rfl, ?_⟩
          have ef : (wl.parts.findIdx? fun (p : Bd.Part) => p.has x y) = some i := by
            rw [List.findIdx?_eq_some_iff_getElem]
            have il := (List.getElem?_eq_some_iff.mp hpt).1
            refine ⟨il, ?_, fun j hj => ?_⟩
            · have z := (List.getElem?_eq_some_iff.mp hpt).2
              rw [z]
              exact hh
            · have z := no j (wl.parts[j]'(by omega)) hj (List.getElem?_eq_getElem _)
              rw [z]
              decide
          rw [ef] at k
          exact k _ (s1.trans s3)
        | false =>
          refine iteF ⟨_, _, rfl, s3, fun j pt' hj hpt' => ?_⟩
          by_cases e : j = i
          · subst e
            rw [hpt] at hpt'
            obtain rfl := Option.some.inj hpt'
            exact hh
          · exact no j pt' (by omega) hpt'
      · rintro σ H' ⟨v3, v4, rfl, s2, no⟩
        rw [List.length_map, lts] at no
        have ef : (wl.parts.findIdx? fun (p : Bd.Part) => p.has x y) = none := by
          rw [List.findIdx?_eq_none_iff]
          intro pt hm
          obtain ⟨j, hj, e⟩ := List.getElem_of_mem hm
          exact no j pt hj (by rw [List.getElem?_eq_getElem hj, e])
        rw [ef] at k
        dsimp only [tNext, tSeq]
        exact raise_none T.E_NotThere (k.same (s1.trans s2))
end
end Wb
end
section
set_option Elab.async false
set_option linter.all false
set_option maxRecDepth 100000
set_option maxHeartbeats 4000000
namespace Wb
open PySem PySem.Spec PyProof.Rows L2 Wm
open PySem.W (Codec)
theorem text_iB (ns : List Int) (hb : ∀ x ∈ ns, 0 ≤ x ∧ x ≤ 255) : ns.map V.int = iB (SiteNeutral.text ns) ∧ (SiteNeutral.text ns).length = ns.length := by
  refine ⟨?_, List.length_map _⟩
  unfold iB SiteNeutral.text
  rw [List.map_map]
  refine List.map_congr_left fun x hx => ?_
  obtain ⟨h0, h1⟩ := hb x hx
  show V.int x = V.int (((UInt8.ofNat x.toNat).toNat : Nat) : Int)
  rw [UInt8.toNat_ofNat', Nat.mod_eq_of_lt (by omega), Int.toNat_of_nonneg h0]
theorem run_len : ∀ {lines : List Bd.Bytes} {i : Nat} {h : List HV} {o : List Bd.Opening} {x : List HV × List Bd.Opening}, runB lines i h o = .ok x → Kinds h → h.length ≤ 6 → o.length ≤ 8 → x.2.length ≤ 8
  | [], i, h, o, x, e, _, _, o8 => by
    obtain rfl := Except.ok.inj e
    exact o8
  | l :: r, i, h, o, x, e, kd, h6, o8 => by
    rw [runB] at e
    cases ht : takeB h o l with
    | error k => rw [ht] at e; cases e
    | ok z =>
      rw [ht] at e
      obtain ⟨q1, q2, q3⟩ := takeB_len (h' := z.1) (os' := z.2) ht kd h6 o8
      exact run_len (x := x) e q3 q1 q2
theorem read_len {z : List Bd.Bytes × Bd.Bytes} {x : List HV × List Bd.Opening} (e : readB z = .ok x) : x.2.length ≤ 8 := by
  unfold readB at e
  cases hr : runB z.1 0 [] [] with
  | error k => rw [hr] at e; cases e
  | ok y =>
    rw [hr] at e
    dsimp only at e
    by_cases q : y.1.length < 6 ∨ z.2 ≠ []
    · rw [if_pos q] at e
      cases e
    · rw [if_neg q] at e
      obtain rfl := Except.ok.inj e
      exact run_len hr (fun n x h => by simp at h) (by decide) (by decide)
/-- what is due -/
def dueWhere (i j : Nat) (t : Bd.Bytes) : List Int := if 4096 < t.length then [-1, 0, 0] else match readB (fl 10 t) with
  | .error _ => [-6, 0, 0]
  | .ok x => if (wallB x.1 x.2).long ≤ i ∨ (wallB x.1 x.2).high ≤ j then [-1, 0, 0] else match (wallB x.1 x.2).parts.findIdx? fun (p : Bd.Part) => p.has i j with
    | some n => [((n : Nat) : Int), 0, 0]
    | none => [-3, 0, 0]
def spWhere (K : PySem.W.Frag) : Sp := fun vs H Q _ => ∃ (i j : Nat) (l : Addr) (t : Bd.Bytes), vs = [.int ((i : Nat) : Int), .int ((j : Nat) : Int), .ref l] ∧ SqL K H l (iB t) ∧ t.length ≤ 6000 ∧ ∀ (H' : Hp) (p : Addr), H' p = some (.lst ((dueWhere i j t).map V.int)) → Q (.ref p) H'
section
variable {P : Program} {w : World} {K : PySem.W.Frag} {mg : Str → Option Value} {base : Heap} {a : Ad}
theorem ok_where (T : Txt K mg a) : FnOk P w K mg base (CXo P w) true 17 a.f_where a.d_where ["x", "y", "t"] (spWhere K) := by
  have G_wall_of : FnOk P w K mg base (CXo P w) true 15 a.f_wall_of a.d_wall_of ["t"] (spWallOf K a.c_Wall a.c_Opening a.c_TextFault a.c_TooLong) := ok_wall_of T
  have G_panel_at : FnOk P w K mg base (CXo P w) true 5 a.f_panel_at a.d_panel_at ["wall", "place", "course"] (spPanelAt a.c_Wall a.c_Opening a.c_Outside a.c_NotThere) := ok_panel_at T
  have G_answer : ∀ {cm : Bool}, FnOk P w K mg base (CXo P w) cm 1 a.f_answer a.d_answer ["number", "row", "signs"] spAnswer := ok_answer T
  have G_refused : ∀ {cm : Bool}, FnOk P w K mg base (CXo P w) cm 2 a.f_refused a.d_refused ["refusal"] (spRefused K) := ok_refused T
  refine fun_ok T.F_where sc_where (fun vs H Q E h => ?_) (fun cdv A outer s0 H vs Q E hr h => ?_)
  · obtain ⟨i, j, l, t, rfl, _⟩ := h
    rfl
  · obtain ⟨i, j, l, t, rfl, hS, hl, k⟩ := h
    have zl := szl
    have roT : RefOk K a.c_Refusal a.c_TooLong := ⟨T.x_TooLong_Refusal, T.D_TooLong, T.n_TooLong_number, T.n_TooLong_told⟩
    have roF : RefOk K a.c_Refusal a.c_TextFault := ⟨T.x_TextFault_Refusal, T.D_TextFault, T.n_TextFault_number, T.n_TextFault_told⟩
    have roO : RefOk K a.c_Refusal a.c_Outside := ⟨T.x_Outside_Refusal, T.D_Outside, T.n_Outside_number, T.n_Outside_told⟩
    have roN : RefOk K a.c_Refusal a.c_NotThere := ⟨T.x_NotThere_Refusal, T.D_NotThere, T.n_NotThere_number, T.n_NotThere_told⟩
    obtain ⟨wt1, hwt1⟩ : ∃ wt1 : WX, wt1 = RefWt K a.c_Refusal 5 (dueWhere i j t) := ⟨_, rfl⟩
    refine ⟨_, (pss_cons (ps_try (Wt := wt1) rfl rfl (fun pn xe tk1 => (pss_one (ps_set (i := 3) sc_where.nd rfl (by first | exact Or.inl rfl | exact Or.inr rfl) (pe_call G_panel_at (hr.mono (by decide)) rfl T.m_panel_at T.F_panel_at.kp T.b_panel_at .nil tk1.passes (pa_cons (pe_call G_wall_of (hr.mono (by decide)) rfl T.m_wall_of T.F_wall_of.kp T.b_wall_of .nil tk1.passes (pa_cons (pv 2) pa_nil)) (pa_cons (pv 0) (pa_cons (pv 1) pa_nil))))))) (ph_as (i := 4) takes_cx rfl rfl sc_where.nd rfl rfl rfl T.m_Refusal (fun ea pn xe th10 => (pss_one (ps_ret (pe_call G_refused ((hr.mark).mono (by decide)) rfl T.m_refused T.F_refused.kp T.b_refused .nil th10.passes (pa_cons (pv 4) pa_nil))))) (ph_nil takes_cx)))
      (pss_one (ps_ret (pe_call G_answer (hr.mono (by decide)) rfl T.m_answer T.F_answer.kp T.b_answer .nil takes_cx.passes (pa_cons (pv 3) (pa_cons (pe_lst pa_nil) (pa_cons (pe_lst pa_nil) pa_nil))))))), ?_⟩
    refine ⟨⟨_, rfl, l, t, rfl, hS, hl, ?_⟩, ?_⟩
    · by_cases q : 4096 < t.length
      · rw [if_pos q]
        intro d q' H' sm e e2
        rw [hwt1]
        exact RefWt.none rfl roT e e2 (if_pos q)
      · rw [if_neg q]
        have dw : dueWhere i j t = match readB (fl 10 t) with
          | .error _ => [-6, 0, 0]
          | .ok x => if (wallB x.1 x.2).long ≤ i ∨ (wallB x.1 x.2).high ≤ j then [-1, 0, 0] else match (wallB x.1 x.2).parts.findIdx? fun (p : Bd.Part) => p.has i j with
            | some n => [((n : Nat) : Int), 0, 0]
            | none => [-3, 0, 0] := if_neg q
        cases hr' : readB (fl 10 t) with
        | error e =>
          rw [hr'] at dw
          intro fr d q' H' sm ee e2
          rw [hwt1]
          exact RefWt.text rfl roF ee e2 dw
        | ok x =>
          rw [hr'] at dw
          intro H1 p s1 WA
          have r8 := read_len hr'
          obtain ⟨dx, op, v0, as, W⟩ := WA.is (read_good hr') (by omega)
          dsimp only at dw
          generalize wallB x.1 x.2 = wl at W dw
          refine ⟨_, rfl, _, rfl, p, dx, op, v0, as, wl, i, j, rfl, W, ?_⟩
          by_cases q2 : wl.long ≤ i ∨ wl.high ≤ j
          · rw [if_pos q2] at dw ⊢
            intro d q' H' sm e e2
            rw [hwt1]
            exact RefWt.none rfl roO e e2 dw
          · rw [if_neg q2] at dw ⊢
            cases hf : wl.parts.findIdx? fun (p : Bd.Part) => p.has i j with
            | none =>
              rw [hf] at dw
              intro d q' H' sm e e2
              rw [hwt1]
              exact RefWt.none rfl roN e e2 dw
            | some n =>
              rw [hf] at dw
              intro H2 s2
              refine ⟨_, rfl, Nat.zero_le _, fun r nr => ⟨Nat.zero_le _, fun s ns => ⟨_, r, s, [], [], rfl, ?_, upd_same, by decide, by decide, fun H' q _ e => k H' q ?_⟩⟩⟩
              · rw [upd_ne (ne_of_none upd_same ns)]
                exact upd_same
              · rw [e, dw]
                rfl
    · intro ea C fr dx σ' H6 live wt
      rw [hwt1] at wt
      obtain ⟨Tb, hT, l1, l2⟩ := live
      obtain ⟨ls, d, q, F, n, ns, rfl, ro, ed, f1, f2, hq, hl', dw⟩ := wt
      refine ⟨true, ro.x, ?_⟩
      rw [if_pos rfl]
      have g : (σ'.set 4 (some (.ref ea)))[4]? = some (some (.ref ea)) := List.getElem?_set_self (by omega)
      exact ⟨_, g, ea, C, d, q, fr, .ref Tb, F, n, ns, rfl, l1, mask_some ed, ro.D, ro.nn, ro.nt, f1, f2, mask_some hq, hl', fun H' p _ e => k H' p (by rw [e, dw])⟩
end
/-! ### the specification's answer -/
theorem due_eq (i j : Int) (t : List Int) : PyWqbnhd.where_ i j t = dueWhere i.toNat j.toNat (SiteNeutral.text t) := by
  show SiteNeutral.f [[4, i, j], t] = _
  unfold SiteNeutral.f
  show (let a := BdSiteCalls.answer (.where_ (SiteNeutral.nat i) (SiteNeutral.nat j) (SiteNeutral.text t)); a.ret :: (a.nums.length : Int) :: (a.nums ++ (a.bytes.length : Int) :: a.bytes.map fun (b : UInt8) => (b.toNat : Int))) = _
  generalize SiteNeutral.text t = t
  unfold dueWhere
  have e : BdSiteCalls.answer (.where_ (SiteNeutral.nat i) (SiteNeutral.nat j) t) = if BdSiteCalls.TEXT < t.length then BdSiteCalls.BAD else (match Bd.judgeWall t with
    | .error _ => BdSiteCalls.FORM
    | .ok w => if w.long ≤ i.toNat ∨ w.high ≤ j.toNat then BdSiteCalls.BAD else match w.parts.findIdx? fun (p : Bd.Part) => p.has i.toNat j.toNat with
      | some n => BdSiteCalls.says (n : Nat)
      | none => BdSiteCalls.NONE) := rfl
  rw [e]
  by_cases q : 4096 < t.length
  · rw [if_pos q, if_pos (show BdSiteCalls.TEXT < t.length from q)]
    rfl
  · rw [if_neg q, if_neg (show ¬ BdSiteCalls.TEXT < t.length from q), judge_eq]
    cases readB (fl 10 t) with
    | error f => rfl
    | ok x =>
      dsimp only
      by_cases q2 : (wallB x.1 x.2).long ≤ i.toNat ∨ (wallB x.1 x.2).high ≤ j.toNat
      · rw [if_pos q2, if_pos q2]
        rfl
      · rw [if_neg q2, if_neg q2]
        cases (wallB x.1 x.2).parts.findIdx? fun (p : Bd.Part) => p.has i.toNat j.toNat with
        | none => rfl
        | some n => rfl
theorem fin_of {P : Program} {w : World} {K : PySem.W.Frag} {mg : Str → Option Value} {h : Heap} {fa : Addr} (KX : K.In h) (z : ∃ a : Ad, fa = a.f_where ∧ Txt K mg a ∧ ∀ (s : Shared) (us : List Value), us.length = (["x", "y", "t"] : List Str).length → BindsTo s a.d_where ⟨us, []⟩ ((["x", "y", "t"] : List Str).zip us)) :
    ∃ fd : FuncData, (∀ (s : Shared) (us : List Value), us.length = (["x", "y", "t"] : List Str).length → BindsTo s fd ⟨us, []⟩ ((["x", "y", "t"] : List Str).zip us)) ∧ ∀ base : Heap, K.In base → base.Ns mainGlobals mg → FnOk P w K mg base (CXo P w) true 17 fa fd ["x", "y", "t"] (spWhere K) := by
  obtain ⟨a, rfl, T, b⟩ := z
  exact ⟨a.d_where, b, fun base _ _ => ok_where T⟩
end Wb
namespace PySem.W.Fast
def tw18362127779383987448 := ()
def tw2836468131585410055 := ()
def tw641887356208402344 := ()
def tw5881522860106571649 := ()
def tw16849294083271306901 := ()
def tw7260352283812737036 := ()
def tw4905460586329644585 := ()
def tw15883257355288676576 := ()
def tw11509418646360472659 := ()
def tw8062391295159413236 := ()
def tw2382459120229365792 := ()
def tw1439820912583307547 := ()
def tw833631637577647593 := ()
def tw1095893140431874949 := ()
def tw2812120907703470791 := ()
def tw5424336844096021995 := ()
def tw4819744942393036594 := ()
def tw16779256697858758009 := ()
def tw7422708884437216168 := ()
def tw15933704722032856502 := ()
def tw10167721767569400919 := ()
def tw3190605598576835889 := ()
def tw17175484625885714674 := ()
def tw18365709036162063185 := ()
def tw6283378921135480033 := ()
def tw5112615536368478976 := ()
def tw1202540529127563557 := ()
def tw11681430186737602628 := ()
def tw10307973559423922086 := ()
def tw7834660072495151677 := ()
def tw9532994460462221908 := ()
def tw718458207012063600 := ()
def tw2768338837604595552 := ()
def tw17804427636373381935 := ()
def tw12409453917586163765 := ()
def tw10318153105101014748 := ()
def tw3658932786947368655 := ()
def tw17476572475211744997 := ()
def tw5274063418699668933 := ()
def tw15202442233544214510 := ()
def tw12140921768646525031 := ()
def tw18437224136055459176 := ()
def tw13600317709226518478 := ()
def tw17809770455527039615 := ()
def tw343204679390476561 := ()
def tw15080774544210938513 := ()
def tw18198929027389752559 := ()
def tw6335313349859995442 := ()
def tw6308423663666561850 := ()
def tw12738638779968045536 := ()
def tw3321800782061460649 := ()
def tw12852381193797933414 := ()
def tw301125838105477097 := ()
def tw9676941505089504458 := ()
def tw7682687568588297091 := ()
def tw18084548817553167689 := ()
def tw5847608893324941050 := ()
def tw907940144574719604 := ()
def tw12809552099352251288 := ()
def tw14381836111122221348 := ()
def tw5821746824670804026 := ()
def tw12285182332029422452 := ()
def tw13768989167690727322 := ()
def tw13663673207175479764 := ()
def tw11937484605628052528 := ()
def tw1681549203055162609 := ()
def tw8586279771073157391 := ()
def tw1763018071263809812 := ()
def tw4145464051419571964 := ()
def tw9004616732408963922 := ()
def tw13565221461587752197 := ()
def tw7505714070698689020 := ()
def tw1084612340829839298 := ()
def tw15040703422776081253 := ()
def tw14321817245071399812 := ()
def tw5936066498171103971 := ()
def tw794088783431545893 := ()
def tw8000538357937751038 := ()
def tw3178791203016430903 := ()
def tw17012669400191285691 := ()
def tw13069267088186088245 := ()
def tw11307197420409946362 := ()
def tw12002086429421492823 := ()
def tw16970887365840572833 := ()
def tw13945106232576935047 := ()
def tw8273150312657356307 := ()
def tw14257302877274913896 := ()
def tw16756102766586628343 := ()
def tw8654692996416823751 := ()
def tw7919381497221951865 := ()
def tw16571277361507092746 := ()
def tw10938057137994523948 := ()
def tw401816022321307505 := ()
def tw2182828416174917457 := ()
def tw12349007216455800926 := ()
def tw13624140943353520006 := ()
def tw11482713495643407901 := ()
def tw15312763425030647122 := ()
def tw2720304607223858957 := ()
def tw4774009950108902386 := ()
def tw1386470865350631338 := ()
def tw18117104986317806664 := ()
def tw14298785908468898675 := ()
def tw9905882807814653572 := ()
def tw17285298246452508399 := ()
def tw16615219686570685502 := ()
def tw4703505909760030615 := ()
def tw16347363584465103014 := ()
def tw9565206501970669356 := ()
def tw9660245689354959803 := ()
def tw4498490080589277346 := ()
def tw17428611655100249974 := ()
def tw14063139076511752559 := ()
def tw7456389451319092122 := ()
def tw4525042320362870097 := ()
def tw2069657019573118560 := ()
def tw11387022056136038699 := ()
def tw18240088007085998716 := ()
def tw16575973636451072203 := ()
def tw3052491614420740630 := ()
end PySem.W.Fast
open PySem PySem.W PyProof.Rows L2 Wb
set_option maxRecDepth 100000 in
set_option maxHeartbeats 0 in
theorem PySem.Challenge.cw_wallbonds_s04_where_holds : PySem.Challenge.rw_wallbonds_s04_where.Holds := by
  w_on; k_headS; (case hw => exact ⟨[.int 0, .int 0, .list []], by decide +kernel, by decide +kernel⟩)
  k_fillS
  refine L2.walk_specX (r := PySem.Challenge.rw_wallbonds_s04_where) (cm := true) (k := 17) (ps := ["x", "y", "t"]) (sp := spWhere) (by decide +kernel) rfl rfl ⟨fun _ => rfl, by decide, by decide⟩ (fun w h Y => PySem.W.kIn_of Y) ?F ?S
  case F =>
    intro w mg fa h Y KX G hmg
    refine fin_of KX ?_
    refine' txt_mk KX G hmg ?a_Refusal ?h_Refusal___init__ ?i_Refusal___init__ ?l_Refusal___init__ ?c_Refusal___init__ ?k_Refusal___init__ ?po_Refusal ?hd_Refusal ?sa_Refusal ?ga_Refusal ?gh_Refusal ?mk_Refusal ?kc_Refusal ?eb_Refusal ?et_Refusal ?n_Refusal_number ?n_Refusal_told ?a_TooLong ?h_TooLong___init__ ?i_TooLong___init__ ?l_TooLong___init__ ?c_TooLong___init__ ?k_TooLong___init__ ?po_TooLong ?hd_TooLong ?sa_TooLong ?ga_TooLong ?gh_TooLong ?mk_TooLong ?kc_TooLong ?eb_TooLong ?et_TooLong ?n_TooLong_number ?n_TooLong_told ?a_TextFault ?h_TextFault___init__ ?i_TextFault___init__ ?l_TextFault___init__ ?c_TextFault___init__ ?k_TextFault___init__ ?po_TextFault ?hd_TextFault ?sa_TextFault ?ga_TextFault ?gh_TextFault ?mk_TextFault ?kc_TextFault ?eb_TextFault ?et_TextFault ?n_TextFault_kind ?n_TextFault_line ?n_TextFault_number ?n_TextFault_told ?a_Outside ?h_Outside___init__ ?i_Outside___init__ ?l_Outside___init__ ?c_Outside___init__ ?k_Outside___init__ ?po_Outside ?hd_Outside ?sa_Outside ?ga_Outside ?gh_Outside ?mk_Outside ?kc_Outside ?eb_Outside ?et_Outside ?n_Outside_number ?n_Outside_told ?a_NotThere ?h_NotThere___init__ ?i_NotThere___init__ ?l_NotThere___init__ ?c_NotThere___init__ ?k_NotThere___init__ ?po_NotThere ?hd_NotThere ?sa_NotThere ?ga_NotThere ?gh_NotThere ?mk_NotThere ?kc_NotThere ?eb_NotThere ?et_NotThere ?n_NotThere_number ?n_NotThere_told ?a_LineFault ?h_LineFault___init__ ?i_LineFault___init__ ?l_LineFault___init__ ?c_LineFault___init__ ?k_LineFault___init__ ?po_LineFault ?hd_LineFault ?sa_LineFault ?ga_LineFault ?gh_LineFault ?mk_LineFault ?kc_LineFault ?eb_LineFault ?et_LineFault ?n_LineFault_kind ?a_Opening ?h_Opening___init__ ?i_Opening___init__ ?l_Opening___init__ ?c_Opening___init__ ?k_Opening___init__ ?h_Opening_lies_within ?i_Opening_lies_within ?l_Opening_lies_within ?c_Opening_lies_within ?k_Opening_lies_within ?h_Opening_stands_behind ?i_Opening_stands_behind ?l_Opening_stands_behind ?c_Opening_stands_behind ?k_Opening_stands_behind ?h_Opening_meets ?i_Opening_meets ?l_Opening_meets ?c_Opening_meets ?k_Opening_meets ?h_Opening_covers ?i_Opening_covers ?l_Opening_covers ?c_Opening_covers ?k_Opening_covers ?pg_Opening ?hd_Opening ?po_Opening ?sa_Opening ?mk_Opening ?kc_Opening ?n_Opening_high ?n_Opening_wide ?n_Opening_x ?n_Opening_y ?a_Wall ?h_Wall___init__ ?i_Wall___init__ ?l_Wall___init__ ?c_Wall___init__ ?k_Wall___init__ ?h_Wall_is_open ?i_Wall_is_open ?l_Wall_is_open ?c_Wall_is_open ?k_Wall_is_open ?pg_Wall ?hd_Wall ?po_Wall ?sa_Wall ?mk_Wall ?kc_Wall ?n_Wall_height ?n_Wall_left ?n_Wall_length ?n_Wall_name ?n_Wall_openings ?n_Wall_reveal ?n_Wall_right ?a_Panel ?h_Panel___init__ ?i_Panel___init__ ?l_Panel___init__ ?c_Panel___init__ ?k_Panel___init__ ?h_Panel_has ?i_Panel_has ?l_Panel_has ?c_Panel_has ?k_Panel_has ?pg_Panel ?hd_Panel ?po_Panel ?sa_Panel ?mk_Panel ?kc_Panel ?n_Panel_course ?n_Panel_courses ?n_Panel_length ?n_Panel_place ?a_WallReader ?h_WallReader___init__ ?i_WallReader___init__ ?l_WallReader___init__ ?c_WallReader___init__ ?k_WallReader___init__ ?h_WallReader_has_head ?i_WallReader_has_head ?l_WallReader_has_head ?c_WallReader_has_head ?k_WallReader_has_head ?h_WallReader_take ?i_WallReader_take ?l_WallReader_take ?c_WallReader_take ?k_WallReader_take ?h_WallReader_take_rest ?i_WallReader_take_rest ?l_WallReader_take_rest ?c_WallReader_take_rest ?k_WallReader_take_rest ?pg_WallReader ?hd_WallReader ?po_WallReader ?sa_WallReader ?mk_WallReader ?kc_WallReader ?n_WallReader_head ?n_WallReader_lines ?n_WallReader_openings ?ca_Refusal___init__ ?cr_Refusal___init__ ?cf_Refusal___init__ ?x_Refusal_Refusal ?x_TooLong_Refusal ?x_TextFault_Refusal ?x_Outside_Refusal ?x_NotThere_Refusal ?x_LineFault_Refusal ?x_Refusal_LineFault ?x_TooLong_LineFault ?x_TextFault_LineFault ?x_Outside_LineFault ?x_NotThere_LineFault ?x_LineFault_LineFault ?h_bytes_of ?l_bytes_of ?c_bytes_of ?k_bytes_of ?h_split_at ?l_split_at ?c_split_at ?k_split_at ?h_read_lines ?l_read_lines ?c_read_lines ?k_read_lines ?h_fields_behind ?l_fields_behind ?c_fields_behind ?k_fields_behind ?h_field_behind ?l_field_behind ?c_field_behind ?k_field_behind ?h_number_in ?l_number_in ?c_number_in ?k_number_in ?h_number_from_to ?l_number_from_to ?c_number_from_to ?k_number_from_to ?h_name_in ?l_name_in ?c_name_in ?k_name_in ?h_read_wall ?l_read_wall ?c_read_wall ?k_read_wall ?h_head_value ?l_head_value ?c_head_value ?k_head_value ?h_end_in ?l_end_in ?c_end_in ?k_end_in ?h_opening_in ?l_opening_in ?c_opening_in ?k_opening_in ?h_stretches_of ?l_stretches_of ?c_stretches_of ?k_stretches_of ?h_panels_of ?l_panels_of ?c_panels_of ?k_panels_of ?h_courses_with ?l_courses_with ?c_courses_with ?k_courses_with ?h_panel_at ?l_panel_at ?c_panel_at ?k_panel_at ?h_where ?l_where ?c_where ?k_where ?h_wall_of ?l_wall_of ?c_wall_of ?k_wall_of ?h_refuse_long ?l_refuse_long ?c_refuse_long ?k_refuse_long ?h_refused ?l_refused ?c_refused ?k_refused ?h_answer ?l_answer ?c_answer ?k_answer ?g_OTHER_LINE ?g_OUT_OF_BOUNDS ?g_OUT_OF_ORDER ?g_PLACE_IN_COMMON ?g_TOO_MANY ?g_LINE_FEED ?g_BLANK ?g_NOUGHT ?g_NINE ?g_FIRST_LETTER ?g_LAST_LETTER ?g_MOST_DIGITS ?g_MOST_NAME_LETTERS ?g_HEAD_WORDS ?o_HEAD_WORDS ?g_OPENING_WORD ?g_END_WORDS ?o_END_WORDS ?g_MOST_LENGTH ?g_MOST_HEIGHT ?g_MOST_OPENINGS ?g_MOST_BYTES ?z_all ?z_any ?z_enumerate ?z_len ?z_ord ?z_range
    (case a_Refusal => k_is)
    (case h_Refusal___init__ => k_is)
    (case i_Refusal___init__ => k_is)
    (case l_Refusal___init__ => k_is)
    (case c_Refusal___init__ => k_is)
    (case k_Refusal___init__ => k_is)
    (case po_Refusal => kernel_rfl)
    (case hd_Refusal => k_is)
    (case sa_Refusal => k_is)
    (case ga_Refusal => k_is)
    (case gh_Refusal => k_is)
    (case mk_Refusal => kernel_rfl)
    (case kc_Refusal => k_is)
    (case eb_Refusal => k_is)
    (case et_Refusal => k_is)
    (case n_Refusal_number => k_is)
    (case n_Refusal_told => k_is)
    (case a_TooLong => k_is)
    (case h_TooLong___init__ => k_is)
    (case i_TooLong___init__ => k_is)
    (case l_TooLong___init__ => k_is)
    (case c_TooLong___init__ => k_is)
    (case k_TooLong___init__ => k_is)
    (case po_TooLong => kernel_rfl)
    (case hd_TooLong => k_is)
    (case sa_TooLong => k_is)
    (case ga_TooLong => k_is)
    (case gh_TooLong => k_is)
    (case mk_TooLong => kernel_rfl)
    (case kc_TooLong => k_is)
    (case eb_TooLong => k_is)
    (case et_TooLong => k_is)
    (case n_TooLong_number => k_is)
    (case n_TooLong_told => k_is)
    (case a_TextFault => k_is)
    (case h_TextFault___init__ => k_is)
    (case i_TextFault___init__ => k_is)
    (case l_TextFault___init__ => k_is)
    (case c_TextFault___init__ => k_is)
    (case k_TextFault___init__ => k_is)
    (case po_TextFault => kernel_rfl)
    (case hd_TextFault => k_is)
    (case sa_TextFault => k_is)
    (case ga_TextFault => k_is)
    (case gh_TextFault => k_is)
    (case mk_TextFault => kernel_rfl)
    (case kc_TextFault => k_is)
    (case eb_TextFault => k_is)
    (case et_TextFault => k_is)
    (case n_TextFault_kind => k_is)
    (case n_TextFault_line => k_is)
    (case n_TextFault_number => k_is)
    (case n_TextFault_told => k_is)
    (case a_Outside => k_is)
    (case h_Outside___init__ => k_is)
    (case i_Outside___init__ => k_is)
    (case l_Outside___init__ => k_is)
    (case c_Outside___init__ => k_is)
    (case k_Outside___init__ => k_is)
    (case po_Outside => kernel_rfl)
    (case hd_Outside => k_is)
    (case sa_Outside => k_is)
    (case ga_Outside => k_is)
    (case gh_Outside => k_is)
    (case mk_Outside => kernel_rfl)
    (case kc_Outside => k_is)
    (case eb_Outside => k_is)
    (case et_Outside => k_is)
    (case n_Outside_number => k_is)
    (case n_Outside_told => k_is)
    (case a_NotThere => k_is)
    (case h_NotThere___init__ => k_is)
    (case i_NotThere___init__ => k_is)
    (case l_NotThere___init__ => k_is)
    (case c_NotThere___init__ => k_is)
    (case k_NotThere___init__ => k_is)
    (case po_NotThere => kernel_rfl)
    (case hd_NotThere => k_is)
    (case sa_NotThere => k_is)
    (case ga_NotThere => k_is)
    (case gh_NotThere => k_is)
    (case mk_NotThere => kernel_rfl)
    (case kc_NotThere => k_is)
    (case eb_NotThere => k_is)
    (case et_NotThere => k_is)
    (case n_NotThere_number => k_is)
    (case n_NotThere_told => k_is)
    (case a_LineFault => k_is)
    (case h_LineFault___init__ => k_is)
    (case i_LineFault___init__ => k_is)
    (case l_LineFault___init__ => k_is)
    (case c_LineFault___init__ => k_is)
    (case k_LineFault___init__ => k_is)
    (case po_LineFault => kernel_rfl)
    (case hd_LineFault => k_is)
    (case sa_LineFault => k_is)
    (case ga_LineFault => k_is)
    (case gh_LineFault => k_is)
    (case mk_LineFault => kernel_rfl)
    (case kc_LineFault => k_is)
    (case eb_LineFault => k_is)
    (case et_LineFault => k_is)
    (case n_LineFault_kind => k_is)
    (case a_Opening => k_is)
    (case h_Opening___init__ => k_is)
    (case i_Opening___init__ => k_is)
    (case l_Opening___init__ => k_is)
    (case c_Opening___init__ => k_is)
    (case k_Opening___init__ => k_is)
    (case h_Opening_lies_within => k_is)
    (case i_Opening_lies_within => k_is)
    (case l_Opening_lies_within => k_is)
    (case c_Opening_lies_within => k_is)
    (case k_Opening_lies_within => k_is)
    (case h_Opening_stands_behind => k_is)
    (case i_Opening_stands_behind => k_is)
    (case l_Opening_stands_behind => k_is)
    (case c_Opening_stands_behind => k_is)
    (case k_Opening_stands_behind => k_is)
    (case h_Opening_meets => k_is)
    (case i_Opening_meets => k_is)
    (case l_Opening_meets => k_is)
    (case c_Opening_meets => k_is)
    (case k_Opening_meets => k_is)
    (case h_Opening_covers => k_is)
    (case i_Opening_covers => k_is)
    (case l_Opening_covers => k_is)
    (case c_Opening_covers => k_is)
    (case k_Opening_covers => k_is)
    (case pg_Opening => k_is)
    (case hd_Opening => k_is)
    (case po_Opening => k_is)
    (case sa_Opening => k_is)
    (case mk_Opening => k_is)
    (case kc_Opening => k_is)
    (case n_Opening_high => k_is)
    (case n_Opening_wide => k_is)
    (case n_Opening_x => k_is)
    (case n_Opening_y => k_is)
    (case a_Wall => k_is)
    (case h_Wall___init__ => k_is)
    (case i_Wall___init__ => k_is)
    (case l_Wall___init__ => k_is)
    (case c_Wall___init__ => k_is)
    (case k_Wall___init__ => k_is)
    (case h_Wall_is_open => k_is)
    (case i_Wall_is_open => k_is)
    (case l_Wall_is_open => k_is)
    (case c_Wall_is_open => k_is)
    (case k_Wall_is_open => k_is)
    (case pg_Wall => k_is)
    (case hd_Wall => k_is)
    (case po_Wall => k_is)
    (case sa_Wall => k_is)
    (case mk_Wall => k_is)
    (case kc_Wall => k_is)
    (case n_Wall_height => k_is)
    (case n_Wall_left => k_is)
    (case n_Wall_length => k_is)
    (case n_Wall_name => k_is)
    (case n_Wall_openings => k_is)
    (case n_Wall_reveal => k_is)
    (case n_Wall_right => k_is)
    (case a_Panel => k_is)
    (case h_Panel___init__ => k_is)
    (case i_Panel___init__ => k_is)
    (case l_Panel___init__ => k_is)
    (case c_Panel___init__ => k_is)
    (case k_Panel___init__ => k_is)
    (case h_Panel_has => k_is)
    (case i_Panel_has => k_is)
    (case l_Panel_has => k_is)
    (case c_Panel_has => k_is)
    (case k_Panel_has => k_is)
    (case pg_Panel => k_is)
    (case hd_Panel => k_is)
    (case po_Panel => k_is)
    (case sa_Panel => k_is)
    (case mk_Panel => k_is)
    (case kc_Panel => k_is)
    (case n_Panel_course => k_is)
    (case n_Panel_courses => k_is)
    (case n_Panel_length => k_is)
    (case n_Panel_place => k_is)
    (case a_WallReader => k_is)
    (case h_WallReader___init__ => k_is)
    (case i_WallReader___init__ => k_is)
    (case l_WallReader___init__ => k_is)
    (case c_WallReader___init__ => k_is)
    (case k_WallReader___init__ => k_is)
    (case h_WallReader_has_head => k_is)
    (case i_WallReader_has_head => k_is)
    (case l_WallReader_has_head => k_is)
    (case c_WallReader_has_head => k_is)
    (case k_WallReader_has_head => k_is)
    (case h_WallReader_take => k_is)
    (case i_WallReader_take => k_is)
    (case l_WallReader_take => k_is)
    (case c_WallReader_take => k_is)
    (case k_WallReader_take => k_is)
    (case h_WallReader_take_rest => k_is)
    (case i_WallReader_take_rest => k_is)
    (case l_WallReader_take_rest => k_is)
    (case c_WallReader_take_rest => k_is)
    (case k_WallReader_take_rest => k_is)
    (case pg_WallReader => k_is)
    (case hd_WallReader => k_is)
    (case po_WallReader => k_is)
    (case sa_WallReader => k_is)
    (case mk_WallReader => k_is)
    (case kc_WallReader => k_is)
    (case n_WallReader_head => k_is)
    (case n_WallReader_lines => k_is)
    (case n_WallReader_openings => k_is)
    (case ca_Refusal___init__ => k_is)
    (case cr_Refusal___init__ => k_is)
    (case cf_Refusal___init__ => k_is)
    (case x_Refusal_Refusal => kernel_rfl)
    (case x_TooLong_Refusal => kernel_rfl)
    (case x_TextFault_Refusal => kernel_rfl)
    (case x_Outside_Refusal => kernel_rfl)
    (case x_NotThere_Refusal => kernel_rfl)
    (case x_LineFault_Refusal => kernel_rfl)
    (case x_Refusal_LineFault => kernel_rfl)
    (case x_TooLong_LineFault => kernel_rfl)
    (case x_TextFault_LineFault => kernel_rfl)
    (case x_Outside_LineFault => kernel_rfl)
    (case x_NotThere_LineFault => kernel_rfl)
    (case x_LineFault_LineFault => kernel_rfl)
    (case h_bytes_of => k_is)
    (case l_bytes_of => k_is)
    (case c_bytes_of => k_is)
    (case k_bytes_of => k_is)
    (case h_split_at => k_is)
    (case l_split_at => k_is)
    (case c_split_at => k_is)
    (case k_split_at => k_is)
    (case h_read_lines => k_is)
    (case l_read_lines => k_is)
    (case c_read_lines => k_is)
    (case k_read_lines => k_is)
    (case h_fields_behind => k_is)
    (case l_fields_behind => k_is)
    (case c_fields_behind => k_is)
    (case k_fields_behind => k_is)
    (case h_field_behind => k_is)
    (case l_field_behind => k_is)
    (case c_field_behind => k_is)
    (case k_field_behind => k_is)
    (case h_number_in => k_is)
    (case l_number_in => k_is)
    (case c_number_in => k_is)
    (case k_number_in => k_is)
    (case h_number_from_to => k_is)
    (case l_number_from_to => k_is)
    (case c_number_from_to => k_is)
    (case k_number_from_to => k_is)
    (case h_name_in => k_is)
    (case l_name_in => k_is)
    (case c_name_in => k_is)
    (case k_name_in => k_is)
    (case h_read_wall => k_is)
    (case l_read_wall => k_is)
    (case c_read_wall => k_is)
    (case k_read_wall => k_is)
    (case h_head_value => k_is)
    (case l_head_value => k_is)
    (case c_head_value => k_is)
    (case k_head_value => k_is)
    (case h_end_in => k_is)
    (case l_end_in => k_is)
    (case c_end_in => k_is)
    (case k_end_in => k_is)
    (case h_opening_in => k_is)
    (case l_opening_in => k_is)
    (case c_opening_in => k_is)
    (case k_opening_in => k_is)
    (case h_stretches_of => k_is)
    (case l_stretches_of => k_is)
    (case c_stretches_of => k_is)
    (case k_stretches_of => k_is)
    (case h_panels_of => k_is)
    (case l_panels_of => k_is)
    (case c_panels_of => k_is)
    (case k_panels_of => k_is)
    (case h_courses_with => k_is)
    (case l_courses_with => k_is)
    (case c_courses_with => k_is)
    (case k_courses_with => k_is)
    (case h_panel_at => k_is)
    (case l_panel_at => k_is)
    (case c_panel_at => k_is)
    (case k_panel_at => k_is)
    (case h_where => k_is)
    (case l_where => k_is)
    (case c_where => k_is)
    (case k_where => k_is)
    (case h_wall_of => k_is)
    (case l_wall_of => k_is)
    (case c_wall_of => k_is)
    (case k_wall_of => k_is)
    (case h_refuse_long => k_is)
    (case l_refuse_long => k_is)
    (case c_refuse_long => k_is)
    (case k_refuse_long => k_is)
    (case h_refused => k_is)
    (case l_refused => k_is)
    (case c_refused => k_is)
    (case k_refused => k_is)
    (case h_answer => k_is)
    (case l_answer => k_is)
    (case c_answer => k_is)
    (case k_answer => k_is)
    (case g_OTHER_LINE => k_is)
    (case g_OUT_OF_BOUNDS => k_is)
    (case g_OUT_OF_ORDER => k_is)
    (case g_PLACE_IN_COMMON => k_is)
    (case g_TOO_MANY => k_is)
    (case g_LINE_FEED => k_is)
    (case g_BLANK => k_is)
    (case g_NOUGHT => k_is)
    (case g_NINE => k_is)
    (case g_FIRST_LETTER => k_is)
    (case g_LAST_LETTER => k_is)
    (case g_MOST_DIGITS => k_is)
    (case g_MOST_NAME_LETTERS => k_is)
    (case g_HEAD_WORDS => k_is)
    (case o_HEAD_WORDS => k_is)
    (case g_OPENING_WORD => k_is)
    (case g_END_WORDS => k_is)
    (case o_END_WORDS => k_is)
    (case g_MOST_LENGTH => k_is)
    (case g_MOST_HEIGHT => k_is)
    (case g_MOST_OPENINGS => k_is)
    (case g_MOST_BYTES => k_is)
    (case z_all => k_is)
    (case z_any => k_is)
    (case z_enumerate => k_is)
    (case z_len => k_is)
    (case z_ord => k_is)
    (case z_range => k_is)
  case S =>
    intro K H xs a hO hwi hask hx
    cases hx with
    | cons h0 hx1 =>
      cases hx1 with
      | cons h1 hx2 =>
        cases hx2 with
        | cons h2 hx3 =>
          cases hx3
          cases h0
          cases h1
          cases h2 with
          | lst hs2 ha2 =>
            have e2 := L2.ints_dw a.2.2.1 _ ha2
            subst e2
            have q : (Codec.inInt 0 9223372036854775807 a.1 && (Codec.inInt 0 9223372036854775807 a.2.1 && ((Codec.inLen 0 6000 a.2.2.1 && a.2.2.1.all (Codec.inInt 0 255)) && true))) = true := hwi
            simp only [Bool.and_eq_true] at q
            have hb0 := Codec.inInt_iff.mp q.1
            have v0 : a.1 = ((a.1.toNat : Nat) : Int) := (Int.toNat_of_nonneg hb0.1).symm
            have hb1 := Codec.inInt_iff.mp q.2.1
            have v1 : a.2.1 = ((a.2.1.toNat : Nat) : Int) := (Int.toNat_of_nonneg hb1.1).symm
            have hb2 : ∀ x ∈ a.2.2.1, 0 ≤ x ∧ x ≤ 255 := fun x hx => Codec.inInt_iff.mp (List.all_eq_true.mp q.2.2.1.2 x hx)
            obtain ⟨d2, l2⟩ := text_iB a.2.2.1 hb2
            rw [d2] at hs2
            have m2 : (SiteNeutral.text a.2.2.1).length ≤ 6000 := by rw [l2]; exact (Codec.inNat_iff.mp q.2.2.1.1).2
            refine ⟨a.1.toNat, a.2.1.toNat, _, SiteNeutral.text a.2.2.1, by rw [← v0, ← v1], hs2, m2, fun H' p hp => ?_⟩
            show Dw _ H' (.ref p) (.list ((PyWqbnhd.where_ a.1 a.2.1 a.2.2.1).map WData.int))
            rw [due_eq a.1 a.2.1 a.2.2.1]
            exact .lst (L2.SqL.of hp) (L2.dw_ints _)
#print axioms PySem.Challenge.cw_wallbonds_s04_where_holds
end
