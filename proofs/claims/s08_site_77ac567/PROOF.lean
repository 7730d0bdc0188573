import PyProof.Rows.All
import Wide.All
import OpenK.AllK
import Wide.FinOn
import PyProof.EqAt
import PyProof.EqKinds
import PyProof.TupleCall
import KE.BitLaws
import Open.SpecLaws
import KE.OsHead
import KE.OsGo
import KE.KTryMore
import KE.KLooksOwn
import PyProof.RulesAs
import PyProof.RulesDel
import PyProof.ExcBaseAll.Exception
import PyProof.InstStoreFacts
import PyProof.ExcArgs
import PyProof.ExcAttrAll.Exception
import PyProof.Draws
import PyProof.NeKinds
import PySem.Challenge.RW_wallbonds_s08_site
section
set_option Elab.async false
set_option linter.all false
set_option maxRecDepth 100000
namespace L2
open PySem PySem.Spec PyProof.Rows
abbrev Key := Sum Int Str
def zEk : Key → Value → Bool
  | .inl k, v => Value.isInt k v
  | .inr x, v => Value.isStrOf x v
def zF2 (w : World) : Key → Int
  | .inl k => hashInt k
  | .inr x => hashStr w x
theorem zbe : ∀ {k : Key} {v : Value}, zEk k v = true → (∃ i t, k = Sum.inl i ∧ v = Value.int i t) ∨ (∃ x t, k = Sum.inr x ∧ v = Value.str x t)
  | .inl i, v, h => by
    obtain ⟨t, e⟩ := Value.isInt_shape (k := i) (v := v) h
    exact .inl ⟨i, t, rfl, e⟩
  | .inr x, v, h => by
    obtain ⟨t, e⟩ := Value.isStrOf_shape (x := x) (v := v) h
    exact .inr ⟨x, t, rfl, e⟩
theorem zEY (a b : Int) : decide ((Sum.inl a : Key) = Sum.inl b) = (a == b) := by
  by_cases e : a = b
  · subst e; simp
  · have h : ¬ (Sum.inl a : Key) = Sum.inl b := fun q => e (Sum.inl.inj q)
    rw [decide_eq_false h]
    exact (beq_eq_false_iff_ne.mpr e).symm
theorem zEA (a b : Str) : decide ((Sum.inr a : Key) = Sum.inr b) = decide (a = b) := by
  by_cases e : a = b
  · subst e; simp
  · have h : ¬ (Sum.inr a : Key) = Sum.inr b := fun q => e (Sum.inr.inj q)
    rw [decide_eq_false h, decide_eq_false e]
theorem zEJ (a : Int) (b : Str) : decide ((Sum.inl a : Key) = Sum.inr b) = false := decide_eq_false (fun q => nomatch q)
theorem zEG (a : Str) (b : Int) : decide ((Sum.inr a : Key) = Sum.inl b) = false := decide_eq_false (fun q => nomatch q)
def zA7 (prog : Program) (w : World) : PySem.KeyKind prog w Key where
  is := zEk
  hash := zF2 w
  inj := fun v a b ha hb => by
    rcases zbe ha with ⟨i, t, rfl, rfl⟩ | ⟨x, t, rfl, rfl⟩
    · rcases zbe hb with ⟨j, u, rfl, e⟩ | ⟨y, u, rfl, e⟩
      · injection e with e1 _; rw [e1]
      · exact nomatch e
    · rcases zbe hb with ⟨j, u, rfl, e⟩ | ⟨y, u, rfl, e⟩
      · exact nomatch e
      · injection e with e1 _; rw [e1]
  byValue := fun k v h => by
    rcases zbe h with ⟨i, t, rfl, rfl⟩ | ⟨x, t, rfl, rfl⟩ <;> rfl
  pyHash := fun hv h => by
    rcases zbe hv with ⟨i, t, rfl, rfl⟩ | ⟨x, t, rfl, rfl⟩
    · exact wpAny_pyHash_int h
    · exact wpAny_pyHash_str h
  eqBool := fun hu hv h => by
    rcases zbe hu with ⟨i, t, rfl, rfl⟩ | ⟨x, t, rfl, rfl⟩
    · rcases zbe hv with ⟨j, u, rfl, rfl⟩ | ⟨y, u, rfl, rfl⟩
      · rw [zEY] at h; exact wpAny_eqBool_int h
      · rw [zEJ] at h; exact SeqAt.EqAt.int_str i t y u _ _ _ _ h
    · rcases zbe hv with ⟨j, u, rfl, rfl⟩ | ⟨y, u, rfl, rfl⟩
      · rw [zEG] at h; exact SeqAt.EqAt.str_int x t j u _ _ _ _ h
      · rw [zEA] at h; exact wpAny_eqBool_str h
  «strs» := fun k x t v h => by
    rcases zbe h with ⟨i, u, rfl, e⟩ | ⟨y, u, rfl, e⟩
    · exact nomatch e
    · injection e with e1 _
      subst e1
      cases v <;> rfl
end L2
namespace L2
open PySem PySem.Spec PyProof.Rows
inductive V where
  | non | bl (b : Bool) | int (i : Int) | str (x : Str) | byt (b : Array UInt8) | flt (b : UInt64) | ref (a : Addr) | ty (n : String)
  deriving DecidableEq
def RelV : V → Value → Prop
  | .non, u => u = Value.none
  | .bl b, u => u = Value.bool b
  | .int i, u => ∃ t, u = Value.int i t
  | .str x, u => ∃ t, u = Value.str x t
  | .byt b, u => ∃ t, u = Value.bytes b t
  | .flt b, u => ∃ t, u = Value.float b t
  | .ref a, u => u = Value.ref a
  | .ty n, u => u = Value.type n
abbrev Vals : List V → List Value → Prop := Paired RelV
theorem Vals.length {xs : List V} {us : List Value} (r : Vals xs us) : xs.length = us.length := Paired.length r
theorem Vals.get : ∀ {xs : List V} {us : List Value} {i : Nat} {x : V}, Vals xs us → xs[i]? = some x → ∃ u, us[i]? = some u ∧ RelV x u
  | _, _, _, _, .nil, e => by simp at e
  | _, _, 0, _, .cons r _, e => by simp at e; subst e; exact ⟨_, rfl, r⟩
  | _, _, i + 1, x, .cons _ t, e => by
    obtain ⟨u, h1, h2⟩ := Vals.get (i := i) (x := x) t (by simpa using e)
    exact ⟨u, by simpa using h1, h2⟩
theorem Vals.append : ∀ {xs ys : List V} {us ws : List Value}, Vals xs us → Vals ys ws → Vals (xs ++ ys) (us ++ ws)
  | _, _, _, _, .nil, s => s
  | _, _, _, _, .cons r t, s => .cons r (Vals.append t s)
theorem Vals.take : ∀ {xs : List V} {us : List Value} (n : Nat), Vals xs us → Vals (xs.take n) (us.take n)
  | _, _, 0, _ => .nil
  | _, _, _ + 1, .nil => .nil
  | _, _, n + 1, .cons r t => .cons r (Vals.take n t)
theorem Vals.drop : ∀ {xs : List V} {us : List Value} (n : Nat), Vals xs us → Vals (xs.drop n) (us.drop n)
  | _, _, 0, r => r
  | _, _, _ + 1, .nil => .nil
  | _, _, n + 1, .cons _ t => Vals.drop n t
def RelO : Option V → Option Value → Prop
  | some v, some u => RelV v u
  | none, none => True
  | _, _ => False
def KV {κ : Type} : List (κ × V) → List (κ × Value) → Prop := Paired fun (p : κ × V) (q : κ × Value) => p.1 = q.1 ∧ RelV p.2 q.2
def kV : Key → V
  | .inl i => .int i
  | .inr x => .str x
inductive HO where
  | lst (xs : List V)
  | tup (xs : List V)
  | dK (kvs : List (Key × V)) | dT (kvs : List (List Key × V))
  | set (S : Int → Bool) (n : Nat)
  | ins (C dx : Addr) (fs : List (Str × V))
  | own (x : Addr)
  | xd (fs : List (Str × V))
  | met (f x : Addr)
  | rng (lo hi : Int)
  | frz (o : Obj) (u : HO)
  | tbl (ps : Array Value)
  | ext (φ : Heap → Prop)
abbrev Hp := Addr → Option HO
def upd (H : Hp) (a : Addr) (o : HO) : Hp := fun b => if b = a then some o else H b
theorem zc {H : Hp} {a : Addr} {o : HO} : upd H a o a = some o := by unfold upd; rw [if_pos rfl]
theorem ze {H : Hp} {a b : Addr} {o : HO} (h : b ≠ a) : upd H a o b = H b := by unfold upd; rw [if_neg h]
theorem zap {H : Hp} {a : Addr} {o u : HO} : upd (upd H a o) a u = upd H a u := by
  funext b; unfold upd; split <;> rfl
theorem zi3 {H : Hp} {a b : Addr} {o u : HO} (h : H a = some o) (h' : H b = some u) (d : o ≠ u) : a ≠ b := by
  intro e; subst e; rw [h] at h'; exact d (Option.some.inj h')
theorem zi {H : Hp} {a b : Addr} {o : HO} (h : H a = some o) (h' : H b = none) : a ≠ b := by
  intro e; subst e; rw [h] at h'; cases h'
section
variable (P : Program) (w : World)
def ObjOk (H : Hp) (h : Heap) (a : Addr) : HO → Prop
  | .lst xs => xs.length ≤ sizeLine ∧ ∃ (its : List Value) (n : Nat), Vals xs its ∧ h.get? a = some { cls := .type "list", data := .seq its.toArray n }
  | .tup xs => xs.length ≤ sizeLine ∧ ∃ its : List Value, Vals xs its ∧ IsTup h a its.toArray
  | .dK kvs => kvs.length ≤ sizeLine ∧ (a == sysModules) = false ∧ ∃ vs, KV kvs vs ∧ h.DictOf (zA7 P w) a vs
  | .dT kvs => kvs.length ≤ sizeLine ∧ (a == sysModules) = false ∧ ∃ xs : List (List Key × Addr × Value),
      Paired (fun (p : List Key × V) (q : List Key × Addr × Value) => p.1 = q.1 ∧ H q.2.1 = some (.tup (p.1.map kV)) ∧ RelV p.2 q.2.2) kvs xs ∧
      ∃ o es ep, h.get? a = some o ∧ o.ExactDict ∧ o.data = .dict es ep ∧ es.toList = xs.map (entryOfKey (tupleKind (zA7 P w))) ∧ (xs.map (·.1)).Nodup
  | .set S n => h.SetOf (intKind P w) a S n
  | .ins C dx fs => H dx = some (.own a) ∧ fs.length ≤ 1000 ∧ dx ≠ a ∧ h.get? a = some (PySem.W.instObj C dx) ∧
      ∃ mA, h.Ns1 dx mA ∧ (∀ f, RelO (fs.lookup f) (mA f)) ∧ PySem.Within mA (fs.map (·.1))
  | .own _ => ∃ o, h.get? a = some o
  | .xd fs => ∃ mA, h.Ns1 a mA ∧ (∀ f, RelO (fs.lookup f) (mA f)) ∧ fs.length ≤ 1000 ∧ PySem.Within mA (fs.map (·.1))
  | .rng lo hi => ∃ t u v, h.get? a = some { cls := .type "range", data := .fields #[.int lo t, .int hi u, .int 1 v] }
  | .frz o u => h.get? a = some o ∧ ObjOk H h a u
  | .tbl ps => h.get? a = some { cls := .none, data := .fields ps }
  | .met f x => h.get? a = some (PySem.W.methodObj (.ref f) (.ref x))
  | .ext φ => φ h ∧ (∃ o, h.get? a = some o) ∧ ∀ h1 h2 : Heap, φ h1 → (∀ o, h1.get? a = some o → h2.get? a = some o) → φ h2
def HOk (H : Hp) (h : Heap) : Prop := ∀ a o, H a = some o → ObjOk P w H h a o
end
section
variable {P : Program} {w : World} {H H' : Hp} {h h' : Heap} {a : Addr} {o : HO}
theorem ObjOk.lt (x : ObjOk P w H h a o) : a < h.objs.size := by
  cases o with
  | lst xs => obtain ⟨_, _, _, _, e⟩ := x; exact Heap.lt_size e
  | tup xs => obtain ⟨_, _, _, p⟩ := x; exact p.lt
  | dK kvs => obtain ⟨_, _, _, _, o, _, _, e, _⟩ := x; exact Heap.lt_size e
  | dT kvs => obtain ⟨_, _, _, _, o, _, _, e, _⟩ := x; exact Heap.lt_size e
  | set S n => obtain ⟨o, _, _, _, e, _⟩ := x; exact Heap.lt_size e
  | ins C dx fs => obtain ⟨_, _, _, e, _⟩ := x; exact Heap.lt_size e
  | own y => obtain ⟨_, e⟩ := x; exact Heap.lt_size e
  | xd fs => obtain ⟨_, ⟨_, _, _, e, _⟩, _⟩ := x; exact Heap.lt_size e
  | rng lo hi => obtain ⟨_, _, _, e⟩ := x; exact Heap.lt_size e
  | frz ob u => obtain ⟨e, _⟩ := x; exact Heap.lt_size e
  | tbl ps => exact Heap.lt_size (show h.get? a = some _ from x)
  | met f y => exact Heap.lt_size (show h.get? a = some _ from x)
  | ext φ => obtain ⟨_, ⟨_, e⟩, _⟩ := x; exact Heap.lt_size e
theorem Paired.mapP {α β : Type} {F G : α → β → Prop} : ∀ {l₁ : List α} {l₂ : List β}, Paired F l₁ l₂ → (∀ a b, F a b → G a b) → Paired G l₁ l₂
  | _, _, .nil, _ => .nil
  | _, _, .cons r t, f => .cons (f _ _ r) (Paired.mapP t f)
theorem ObjOk.stay (x : ObjOk P w H h a o) (k : ∀ b u, (b = a ∨ H b = some (.own a)) → h.get? b = some u → h'.get? b = some u)
    (ho : ∀ b, H b = some (.own a) → H' b = some (.own a)) (ht : ∀ b xs, H b = some (.tup xs) → H' b = some (.tup xs)) : ObjOk P w H' h' a o := by
  induction o with
  | lst xs => obtain ⟨z, its, n, r, e⟩ := x; exact ⟨z, its, n, r, k _ _ (.inl rfl) e⟩
  | tup xs => obtain ⟨z, its, r, ob, e, c⟩ := x; exact ⟨z, its, r, ob, k _ _ (.inl rfl) e, c⟩
  | dK kvs => obtain ⟨z, y, vs, r, ob, es, ep, e, c⟩ := x; exact ⟨z, y, vs, r, ob, es, ep, k _ _ (.inl rfl) e, c⟩
  | dT kvs =>
    obtain ⟨z, y, xs, r, ob, es, ep, e, c⟩ := x
    exact ⟨z, y, xs, Paired.mapP r fun p q z => ⟨z.1, ht _ _ z.2.1, z.2.2⟩, ob, es, ep, k _ _ (.inl rfl) e, c⟩
  | set S n => obtain ⟨ob, es, ep, t, e, c⟩ := x; exact ⟨ob, es, ep, t, k _ _ (.inl rfl) e, c⟩
  | ins C dx fs =>
    obtain ⟨d, z, ne, e, mA, ⟨od, es, ep, e2, c⟩, r⟩ := x
    exact ⟨ho _ d, z, ne, k _ _ (.inl rfl) e, mA, ⟨od, es, ep, k _ _ (.inr d) e2, c⟩, r⟩
  | own y => obtain ⟨ob, e⟩ := x; exact ⟨ob, k _ _ (.inl rfl) e⟩
  | xd fs => obtain ⟨mA, ⟨od, es, ep, e, c⟩, r⟩ := x; exact ⟨mA, ⟨od, es, ep, k _ _ (.inl rfl) e, c⟩, r⟩
  | rng lo hi => obtain ⟨t, u, v, e⟩ := x; exact ⟨t, u, v, k _ _ (.inl rfl) e⟩
  | frz ob u ih => obtain ⟨e, q⟩ := x; exact ⟨k _ _ (.inl rfl) e, ih q⟩
  | tbl ps =>
    have e : h.get? a = some { cls := .none, data := .fields ps } := x
    show h'.get? a = some { cls := .none, data := .fields ps }
    exact k a _ (.inl rfl) e
  | met f y =>
    have e : h.get? a = some (PySem.W.methodObj (.ref f) (.ref y)) := x
    show h'.get? a = some (PySem.W.methodObj (.ref f) (.ref y))
    exact k a _ (.inl rfl) e
  | ext φ => obtain ⟨p, ⟨o, e⟩, st⟩ := x; exact ⟨st _ _ p fun o q => k _ _ (.inl rfl) q, ⟨o, k _ _ (.inl rfl) e⟩, st⟩
theorem HOk.lt (x : HOk P w H h) (e : H a = some o) : a < h.objs.size := (x a o e).lt
theorem HOk.fresh (x : HOk P w H h) (e : h.objs.size ≤ a) : H a = none := by
  cases q : H a with
  | none => rfl
  | some u => exact absurd (Nat.lt_of_lt_of_le (x.lt q) e) (Nat.lt_irrefl _)
theorem HOk.kept (x : HOk P w H h) (k : ∀ b u, h.get? b = some u → h'.get? b = some u) : HOk P w H h' := fun a o e =>
  (x a o e).stay (fun b u _ q => k b u q) (fun _ q => q) fun _ _ q => q
theorem HOk.laid (x : HOk P w H h) (k : ∀ b u, h.get? b = some u → h'.get? b = some u) (hp : h.objs.size ≤ a) (new : ObjOk P w (upd H a o) h' a o) : HOk P w (upd H a o) h' := fun b u e => by
  have hn := x.fresh hp
  by_cases hb : b = a
  · subst hb; rw [zc] at e; cases e; exact new
  · rw [ze hb] at e
    exact (x b u e).stay (fun c v _ q => k c v q) (fun c q => by rw [ze (zi q hn)]; exact q) fun c xs q => by rw [ze (zi q hn)]; exact q
end
def Rd (H : Hp) (a : Addr) (u : HO) : Prop := H a = some u ∨ ∃ o, H a = some (.frz o u)
theorem Rd.ok {P : Program} {w : World} {H : Hp} {h : Heap} {a : Addr} {u : HO} (r : Rd H a u) (x : HOk P w H h) : ObjOk P w H h a u := by
  rcases r with r | ⟨o, r⟩
  · exact x a u r
  · obtain ⟨_, q⟩ := x a _ r
    exact q
def Mut : Option HO → Prop
  | some (.lst _) => True
  | some (.dK _) => True
  | some (.dT _) => True
  | some (.set _ _) => True
  | some (.ins _ _ _) => True
  | some (.ext _) => True
  | some (.xd _) => True
  | _ => False
section
variable {P : Program} {w : World} {H : Hp} {h h' : Heap} {x e : Addr} {o' : HO}
theorem HOk.write (ok : HOk P w H h) (mu : Mut (H x)) (he : e = x ∨ H e = some (.own x)) (k : ∀ b u, b ≠ e → h.get? b = some u → h'.get? b = some u) (heo : ∃ u, h'.get? e = some u)
    (new : ObjOk P w (upd H x o') h' x o') : HOk P w (upd H x o') h' := fun b u q => by
  have nown : ∀ c y, H c = some (.own y) → c ≠ x := fun c y r z => by subst z; rw [r] at mu; exact mu
  have ntup : ∀ c xs, H c = some (.tup xs) → c ≠ x := fun c xs r z => by subst z; rw [r] at mu; exact mu
  by_cases hb : b = x
  · subst hb; rw [zc] at q; cases q; exact new
  · rw [ze hb] at q
    by_cases hbe : b = e
    · have q' : H b = some (.own x) := by
        rcases he with z | z
        · exact absurd (hbe.trans z) hb
        · rw [hbe]; exact z
      rw [q] at q'; cases q'
      obtain ⟨v, hv⟩ := heo
      exact ⟨v, by rw [hbe]; exact hv⟩
    · refine (ok b u q).stay (fun c v hc r => k c v ?_ r) (fun c r => by rw [ze (nown c b r)]; exact r) fun c xs r => by rw [ze (ntup c xs r)]; exact r
      rcases hc with rfl | hc
      · exact hbe
      · rintro rfl
        rcases he with z | z
        · exact nown c b hc z
        · rw [hc] at z; cases z; exact hb rfl
end
structure Un (fs ex : List Addr) (H H' : Hp) (h h' : Heap) : Prop where
  keep : ∀ b o, h.get? b = some o → H b = none → b ∉ fs → b ∉ ex → h'.get? b = some o
  slot : ∀ b o, h.get? b = some o → H b = none → b ∈ fs → b ∉ ex → ∃ sl, h'.get? b = some { o with slots := sl }
  free : ∀ b o, h.get? b = some o → H b = none → b ∉ ex → H' b = none
  there : ∀ b o, h.get? b = some o → b ∉ ex → ∃ o', h'.get? b = some o'
  tups : ∀ b xs, H b = some (.tup xs) → H' b = some (.tup xs)
  frzs : ∀ b o u, H b = some (.frz o u) → H' b = some (.frz o u)
  tbls : ∀ b ps, H b = some (.tbl ps) → ∃ more, H' b = some (.tbl (ps ++ more))
section
variable {fs fs' ex ex' : List Addr} {H H1 H2 : Hp} {h h1 h2 h' : Heap} {a x e : Addr} {o : HO}
theorem Un.any (u : Un fs ex H H1 h h1) {b : Addr} {ob : Obj} (q : h.get? b = some ob) (n : H b = none) (hx : b ∉ ex) : ∃ sl, h1.get? b = some { ob with slots := sl } := by
  by_cases hb : b ∈ fs
  · exact u.slot b ob q n hb hx
  · exact ⟨ob.slots, u.keep b ob q n hb hx⟩
theorem Un.kept (k : ∀ b u, h.get? b = some u → h'.get? b = some u) : Un fs ex H H h h' :=
  ⟨fun b ob q _ _ _ => k b ob q, fun b ob q _ _ _ => ⟨ob.slots, k b ob q⟩, fun _ _ _ n _ => n, fun b ob q _ => ⟨ob, k b ob q⟩, fun _ _ q => q, fun _ _ _ q => q, fun _ ps q => ⟨#[], by rw [q]; simp⟩⟩
theorem Un.refl : Un fs ex H H h h := Un.kept fun _ _ q => q
theorem Un.laid (k : ∀ b u, h.get? b = some u → h'.get? b = some u) (hp : h.objs.size ≤ a) (hn : H a = none) : Un fs ex H (upd H a o) h h' where
  keep := fun b u q _ _ _ => k b u q
  slot := fun b u q _ _ _ => ⟨u.slots, k b u q⟩
  free := fun b u q n _ => by rw [ze (Nat.ne_of_lt (Nat.lt_of_lt_of_le (Heap.lt_size q) hp))]; exact n
  there := fun b u q _ => ⟨u, k b u q⟩
  tups := fun b xs q => by rw [ze (zi q hn)]; exact q
  frzs := fun b u xs q => by rw [ze (zi q hn)]; exact q
  tbls := fun b ps q => ⟨#[], by rw [ze (zi q hn), q]; simp⟩
theorem Un.write (mu : Mut (H x)) (he : e = x ∨ H e = some (.own x)) (k : ∀ b u, b ≠ e → h.get? b = some u → h'.get? b = some u) (heo : ∃ u, h'.get? e = some u) : Un fs ex H (upd H x o) h h' := by
  have hx : ∀ b, H b = none → b ≠ x := fun b n z => by subst z; rw [n] at mu; exact mu
  have hb : ∀ b, H b = none → b ≠ e := fun b n z => by
    subst z
    rcases he with r | r
    · exact hx b n r
    · rw [n] at r; cases r
  have hm : ∀ b u, H b = some u → ¬ Mut (some u) → b ≠ x := fun b u q nm z => by subst z; rw [q] at mu; exact nm mu
  refine ⟨fun b u q n _ _ => k b u (hb b n) q, fun b u q n _ _ => ⟨u.slots, k b u (hb b n) q⟩, fun b u q n _ => by rw [ze (hx b n)]; exact n, fun b u q _ => ?_,
    fun b xs q => by rw [ze (hm b _ q fun z => z)]; exact q, fun b u xs q => by rw [ze (hm b _ q fun z => z)]; exact q, fun b ps q => ⟨#[], by rw [ze (hm b _ q fun z => z), q]; simp⟩⟩
  by_cases hbe : b = e
  · subst hbe; exact heo
  · exact ⟨u, k b u hbe q⟩
end
def trk (h : Heap) (H : Hp) : List Addr := (List.range h.objs.size).filter fun a => (H a).isSome
def zxL (h : Heap) (H : Hp) : Heap := PySem.W.hideAll h (trk h H)
theorem zBM (h : Heap) (H : Hp) : (zxL h H).objs.size = h.objs.size := PySem.W.hideAll_size _ _
theorem zCE {h : Heap} {H : Hp} {b : Addr} {o : Obj} (e : h.get? b = some o) (n : H b = none) : (zxL h H).get? b = some o :=
  PySem.W.hideAll_get _ e fun hm => by
    have q : (H b).isSome = true := (List.mem_filter.mp hm).2
    rw [n] at q; simp at q
theorem zDP {h : Heap} {H : Hp} {b : Addr} {o : Obj} (e : (zxL h H).get? b = some o) : h.get? b = some o ∧ H b = none := by
  have e' : h.get? b = some o := PySem.W.of_hideAll (trk h H) e
  refine ⟨e', ?_⟩
  cases q : H b with
  | none => rfl
  | some x =>
    have hm : b ∈ trk h H := List.mem_filter.mpr ⟨List.mem_range.mpr (Heap.lt_size e'), by simp [q]⟩
    have z : (zxL h H).get? b = none := PySem.W.hideAll_none (trk h H) hm
    rw [z] at e; cases e
def zEe (g h : Heap) (L : Addr) : List (Addr × Obj) := (List.range h.objs.size).filterMap fun a => if a = L ∨ (g.get? a).isSome = true then none else (h.get? a).map fun o => (a, o)
def rest (g h : Heap) (L d : Addr) : List (Addr × Obj) := (zEe g h L).filter fun p => decide (p.1 ≠ d)
end L2
namespace L2
open PySem PySem.Spec PyProof.Rows
structure Mod (K : PySem.W.Frag) (mg : Str → Option Value) (base : Heap) : Prop where
  kin : K.In base
  glob : base.Ns mainGlobals mg
  blt : ∃ mb, base.Ns builtinsNs mb ∧ ∀ x : Str, x ≠ "__name__" → mb x = bootBuiltins x
  nolimit : base.NoLimit
structure Cx where
  prog : Program
  w : World
  K : PySem.W.Frag
  mg : Str → Option Value
  base : Heap
  A : Around
  N : List Str
  s_0 : Shared
  H_0 : Hp
  env : Env
  outer : List Env
  stack : List Env
  ex : List Addr
  fn : Str → Bool
  calm : Bool
  pn : List (Addr × Obj)
  xe : Value → Shared → Prop
def frs (l : List Env) : List Addr := l.filterMap (·.frame)
abbrev Cx.fs (X : Cx) : List Addr := frs X.outer
def Vis (sc : Scope) (x : Str) : Prop := sc.names.lookup x = some .local ∨ sc.names.lookup x = some .cell ∨ sc.names.lookup x = some .free
def Loc (sc : Scope) (x : Str) : Prop := sc.names.lookup x = some .local ∨ sc.names.lookup x = some .cell
def zFV (env : Env) (h : Heap) (m : Str → Option Value) (x : Str) (u : Value) : Prop :=
  (env.kindOf x = some .local ∧ m x = some u) ∨ ((env.kindOf x = some .cell ∨ env.kindOf x = some .free) ∧ ∃ c, env.cells.lookup x = some c ∧ h.IsCell c (some u))
structure Cx.Ok (X : Cx) : Prop where
  mod : Mod X.K X.mg X.base
  kind : X.env.scope.kind = .function
  glob : X.env.globals = mainGlobals
  blt : X.env.builtins = builtinsNs
  above : X.s_0.heap.objs.size ≤ X.env.locals
  inj : ∀ x y c, X.env.cells.lookup x = some c → X.env.cells.lookup y = some c → x = y
  has : ∀ x, (X.env.kindOf x = some .cell ∨ X.env.kindOf x = some .free) → ∃ c, X.env.cells.lookup x = some c
  cab : ∀ x c, X.fn x = true → X.env.cells.lookup x = some c → X.s_0.heap.objs.size ≤ c
  hd : X.calm = true → X.A.handled = none
  frames : X.A.frames = some X.stack
  stk : X.stack = X.outer ∨ (X.stack = X.env :: X.outer ∧ X.env.frame = some X.env.locals)
  exf : ∀ b ∈ X.ex, b ≠ X.env.locals ∧ ∀ x c, X.env.cells.lookup x = some c → c ≠ b
  bs : ∀ b o, X.base.get? b = some o → X.s_0.heap.get? b = some o ∧ X.H_0 b = none
  bsz : X.base.objs.size ≤ X.s_0.heap.objs.size
  noex : ∀ b o, X.base.get? b = some o → b ∉ X.ex
  exfs : ∀ b ∈ X.ex, b ∉ X.fs
  funs : X.s_0.heap.FunFrames X.base X.outer
  frf : ∀ b ∈ X.fs, X.H_0 b = none
structure Inv (X : Cx) (pins : List (Addr × Obj)) (σ : List (Option V)) (H : Hp) (s : Shared) : Prop where
  ok : X.Ok
  os : s.os = X.s_0.os
  bare : AllBare s.gens
  base : Un X.fs X.ex X.H_0 H X.s_0.heap s.heap
  loc : ∃ m, s.heap.Ns X.env.locals m ∧ ∀ (i : Nat) (x : Str) (v : V), X.N[i]? = some x → σ[i]? = some (some v) → Vis X.env.scope x → ∃ u, RelV v u ∧ zFV X.env s.heap m x u
  cell : ∀ x c, X.env.cells.lookup x = some c → ∃ v, s.heap.IsCell c v
  free : H X.env.locals = none
  freeC : ∀ x c, X.env.cells.lookup x = some c → H c = none
  pin : ∀ p ∈ X.pn ++ pins, s.heap.get? p.1 = some p.2 ∧ H p.1 = none ∧ p.1 ≠ X.env.locals ∧ p.1 ∉ X.fs ∧ ∀ v, p.2.data ≠ .cell v
  hok : HOk X.prog X.w H s.heap
  len : σ.length = X.N.length
section
variable {X : Cx} {pins : List (Addr × Obj)} {σ : List (Option V)} {H H' : Hp} {s : Shared} {h' : Heap}
theorem Cx.Ok.nofr (ok : X.Ok) {b : Addr} {o : Obj} (e : X.base.get? b = some o) : b ∉ X.fs := fun hb => by
  have := (ok.funs.mem hb).1
  rw [e] at this; cases this
theorem Inv.bs (I : Inv X pins σ H s) : ∀ b o, X.base.get? b = some o → s.heap.get? b = some o ∧ H b = none := fun b o e =>
  ⟨I.base.keep b o (I.ok.bs b o e).1 (I.ok.bs b o e).2 (I.ok.nofr e) (I.ok.noex b o e), I.base.free b o (I.ok.bs b o e).1 (I.ok.bs b o e).2 (I.ok.noex b o e)⟩
theorem Inv.bk (I : Inv X pins σ H s) : ∀ b o, X.base.get? b = some o → s.heap.get? b = some o := fun b o e => (I.bs b o e).1
theorem Inv.mod (I : Inv X pins σ H s) : Mod X.K X.mg X.base := I.ok.mod
theorem Inv.kIn (I : Inv X pins σ H s) : X.K.In s.heap := I.ok.mod.kin.keeps I.bk
theorem Inv.lt (I : Inv X pins σ H s) : X.env.locals < s.heap.objs.size := let ⟨_, hn, _⟩ := I.loc; hn.lt
theorem Inv.sz (I : Inv X pins σ H s) : X.s_0.heap.objs.size ≤ s.heap.objs.size := Nat.le_trans I.ok.above (Nat.le_of_lt I.lt)
theorem Inv.nofs (I : Inv X pins σ H s) {a : Addr} (h : s.heap.objs.size ≤ a) : a ∉ X.fs := fun hb => by
  obtain ⟨_, o, ho, _⟩ := I.ok.funs.mem hb
  exact absurd (Nat.lt_of_lt_of_le (Heap.lt_size ho) (Nat.le_trans I.sz h)) (Nat.lt_irrefl _)
theorem Inv.cne (I : Inv X pins σ H s) : ∀ x c, X.env.cells.lookup x = some c → c ≠ X.env.locals := fun x c e z => by
  obtain ⟨v, o, ho, hd⟩ := I.cell x c e
  obtain ⟨m, ⟨o', es, ep, ho', hd', _⟩, _⟩ := I.loc
  rw [z, ho'] at ho; cases ho; rw [hd'] at hd; cases hd
theorem Inv.funs (I : Inv X pins σ H s) : s.heap.FunFrames X.base X.outer := by
  have all : ∀ (l : List Env), (∀ b ∈ frs l, b ∈ X.fs) → X.s_0.heap.FunFrames X.base l → s.heap.FunFrames X.base l := by
    intro l
    induction l with
    | nil => intro _ _; trivial
    | cons env r ih =>
      intro hs hl
      obtain ⟨hk, ⟨L, o, hf, hn, ho, hd⟩, hr⟩ := hl
      have hL : L ∈ X.fs := hs L (by unfold frs; rw [List.filterMap_cons, hf]; exact List.mem_cons_self)
      obtain ⟨sl, e⟩ := I.base.slot L o ho (I.ok.frf L hL) hL fun z => I.ok.exfs L z hL
      exact ⟨hk, ⟨L, _, hf, hn, e, hd⟩, ih (fun b hb => hs b (by unfold frs; rw [List.filterMap_cons, hf]; exact List.mem_cons_of_mem _ hb)) hr⟩
  exact all X.outer (fun _ hb => hb) I.ok.funs
theorem Inv.stack (I : Inv X pins σ H s) : s.heap.FunFrames X.base X.stack := by
  rcases I.ok.stk with e | ⟨e, hf⟩
  · rw [e]; exact I.funs
  · rw [e]
    obtain ⟨m, hn, _⟩ := I.loc
    refine .cons (by rw [I.ok.kind]; decide) hf hn ?_ I.funs
    exact Heap.get?_none_of_le (Nat.le_trans I.ok.bsz I.ok.above)
theorem Inv.stkSub (I : Inv X pins σ H s) : ∀ b ∈ frs X.stack, b ∈ X.env.locals :: X.fs := fun b hb => by
  rcases I.ok.stk with e | ⟨e, hf⟩
  · rw [e] at hb; exact List.mem_cons_of_mem _ hb
  · rw [e] at hb
    unfold frs at hb
    rw [List.filterMap_cons, hf] at hb
    exact hb
theorem Inv.stkFree (I : Inv X pins σ H s) : ∀ b ∈ frs X.stack, H b = none := fun b hb => by
  rcases List.mem_cons.mp (I.stkSub b hb) with e | hb
  · rw [e]; exact I.free
  · obtain ⟨_, o, ho, _⟩ := I.ok.funs.mem hb
    exact I.base.free b o ho (I.ok.frf b hb) fun z => I.ok.exfs b z hb
theorem Inv.step {g' : Array GenState} {t' : Nat} {d' : Drawn} {ch : List Addr} (I : Inv X pins σ H s)
    (hch : ∀ b ∈ ch, (b ∈ X.ex ∨ X.s_0.heap.objs.size ≤ b) ∧ b ≠ X.env.locals ∧ (∀ x c, X.env.cells.lookup x = some c → c ≠ b) ∧ ∀ p ∈ X.pn ++ pins, p.1 ≠ b)
    (keep : ∀ b o, b ≠ X.env.locals → b ∉ X.fs → b ∉ ch → s.heap.get? b = some o → H b = none → h'.get? b = some o)
    (slot : ∀ b o, b ≠ X.env.locals → b ∈ X.fs → b ∉ ch → s.heap.get? b = some o → H b = none → ∃ sl, h'.get? b = some { o with slots := sl }) (free : ∀ b o, b ∉ ch → s.heap.get? b = some o → H b = none → H' b = none)
    (there : ∀ b o, b ∉ ch → s.heap.get? b = some o → ∃ o', h'.get? b = some o')
    (tups : ∀ b xs, H b = some (.tup xs) → H' b = some (.tup xs)) (frzs : ∀ b o u, H b = some (.frz o u) → H' b = some (.frz o u)) (tbls : ∀ b ps, H b = some (.tbl ps) → ∃ more, H' b = some (.tbl (ps ++ more)))
    (ns : ∀ m, s.heap.Ns X.env.locals m → h'.Ns X.env.locals m) (hok : HOk X.prog X.w H' h') (hg : AllBare g') :
    Inv X pins σ H' { s with heap := h', gens := g', drawn := d', toks := t' } := by
  have neL : ∀ b o, X.s_0.heap.get? b = some o → b ≠ X.env.locals := fun b o e => Nat.ne_of_lt (Nat.lt_of_lt_of_le (Heap.lt_size e) I.ok.above)
  have neC : ∀ b o, X.s_0.heap.get? b = some o → b ∉ X.ex → b ∉ ch := fun b o e hx hb => by
    rcases (hch b hb).1 with z | z
    · exact hx z
    · exact absurd (Nat.lt_of_lt_of_le (Heap.lt_size e) z) (Nat.lt_irrefl _)
  have cellK : ∀ x c, X.env.cells.lookup x = some c → ∀ v, s.heap.IsCell c v → h'.IsCell c v := fun x c e v ⟨o, ho, hd⟩ => by
    have nch : c ∉ ch := fun z => (hch c z).2.2.1 x c e rfl
    by_cases hc : c ∈ X.fs
    · obtain ⟨sl, q⟩ := slot c o (I.cne x c e) hc nch ho (I.freeC x c e)
      exact ⟨_, q, hd⟩
    · exact ⟨o, keep c o (I.cne x c e) hc nch ho (I.freeC x c e), hd⟩
  refine ⟨I.ok, I.os, hg, ⟨fun b o e n hb hx => ?_, fun b o e n hb hx => ?_, fun b o e n hx => ?_, fun b o e hx => ?_, fun b xs e => tups b xs (I.base.tups b xs e), fun b o xs e => frzs b o xs (I.base.frzs b o xs e), fun b ps e => ?_⟩, ?_, fun x c e => ?_, ?_, fun x c e => ?_, fun p hp => ?_, hok, I.len⟩
  · exact keep b o (neL b o e) hb (neC b o e hx) (I.base.keep b o e n hb hx) (I.base.free b o e n hx)
  · obtain ⟨sl, e1⟩ := I.base.slot b o e n hb hx
    obtain ⟨sl', e2⟩ := slot b _ (neL b o e) hb (neC b o e hx) e1 (I.base.free b o e n hx)
    exact ⟨sl', e2⟩
  · obtain ⟨o', e1⟩ := I.base.there b o e hx
    exact free b o' (neC b o e hx) e1 (I.base.free b o e n hx)
  · obtain ⟨o', e1⟩ := I.base.there b o e hx
    exact there b o' (neC b o e hx) e1
  · obtain ⟨m1, e1⟩ := I.base.tbls b ps e
    obtain ⟨m2, e2⟩ := tbls b _ e1
    exact ⟨m1 ++ m2, by rw [e2, Array.append_assoc]⟩
  · obtain ⟨m, hn, hl⟩ := I.loc
    refine ⟨m, ns m hn, fun i x v e1 e2 e3 => ?_⟩
    obtain ⟨u, r, l⟩ := hl i x v e1 e2 e3
    refine ⟨u, r, ?_⟩
    rcases l with l | ⟨k, c, e, z⟩
    · exact .inl l
    · exact .inr ⟨k, c, e, cellK x c e _ z⟩
  · obtain ⟨v, z⟩ := I.cell x c e
    exact ⟨v, cellK x c e v z⟩
  · obtain ⟨m, ⟨o, _, _, ho, _⟩, _⟩ := I.loc
    exact free _ o (fun z => (hch _ z).2.1 rfl) ho I.free
  · obtain ⟨v, o, ho, hd⟩ := I.cell x c e
    exact free c o (fun z => (hch c z).2.2.1 x c e rfl) ho (I.freeC x c e)
  · obtain ⟨e, n, ne, nf, d⟩ := I.pin p hp
    have nch : p.1 ∉ ch := fun z => (hch p.1 z).2.2.2 p hp rfl
    exact ⟨keep p.1 p.2 ne nf nch e n, free p.1 p.2 nch e n, ne, nf, d⟩
theorem Inv.un {t' : Nat} (I : Inv X pins σ H s) (u : Un X.fs [] H H' s.heap h') (hok : HOk X.prog X.w H' h') : Inv X pins σ H' { s with heap := h', toks := t' } := by
  obtain ⟨m, ⟨o, es, ep, ho, r⟩, _⟩ := id I.loc
  obtain ⟨sl, hL⟩ := u.any ho I.free (by simp)
  exact I.step (g' := s.gens) (d' := s.drawn) (ch := []) (fun _ z => nomatch z) (fun b o _ hb _ e n => u.keep b o e n hb (by simp)) (fun b o _ hb _ e n => u.slot b o e n hb (by simp)) (fun b o _ e n => u.free b o e n (by simp)) (fun b o _ e => u.there b o e (by simp)) u.tups u.frzs u.tbls (fun m' hm => by
    obtain ⟨o', es', ep', ho', r'⟩ := hm
    rw [ho] at ho'; cases ho'
    exact ⟨_, es', ep', hL, r'⟩) hok I.bare
theorem Inv.call {g' : Array GenState} {t' : Nat} {d' : Drawn} {ch : List Addr} (I : Inv X pins σ H s) (u : Un (frs X.stack) ch H H' s.heap h') (hok : HOk X.prog X.w H' h') (hg : AllBare g')
    (hch : ∀ b ∈ ch, (b ∈ X.ex ∨ X.s_0.heap.objs.size ≤ b) ∧ b ≠ X.env.locals ∧ (∀ x c, X.env.cells.lookup x = some c → c ≠ b) ∧ ∀ p ∈ X.pn ++ pins, p.1 ≠ b) :
    Inv X pins σ H' { s with heap := h', gens := g', drawn := d', toks := t' } := by
  obtain ⟨m, ⟨o, es, ep, ho, r⟩, _⟩ := id I.loc
  obtain ⟨sl, hL⟩ := u.any ho I.free fun z => (hch _ z).2.1 rfl
  exact I.step (ch := ch) hch (fun b o hL hb hc e n => u.keep b o e n (fun z => (List.mem_cons.mp (I.stkSub b z)).elim hL hb) hc) (fun b o _ _ hc e n => u.any e n hc) (fun b o hc e n => u.free b o e n hc) (fun b o hc e => u.there b o e hc) u.tups u.frzs u.tbls (fun m' hm => by
    obtain ⟨o', es', ep', ho', r'⟩ := hm
    rw [ho] at ho'; cases ho'
    exact ⟨_, es', ep', hL, r'⟩) hok hg
theorem Inv.turned {t' : Nat} {it : Addr} (I : Inv X pins σ H s) (k : ∀ b o, b ≠ it → s.heap.get? b = some o → h'.get? b = some o) (hn : H it = none) (hL : it ≠ X.env.locals)
    (h1 : it ∈ X.ex ∨ X.s_0.heap.objs.size ≤ it) (h2 : ∀ x c, X.env.cells.lookup x = some c → c ≠ it) (h3 : ∀ p ∈ X.pn ++ pins, p.1 ≠ it) : Inv X pins σ H { s with heap := h', toks := t' } := by
  have nit : ∀ b u, H b = some u → b ≠ it := fun b u e z => by rw [z, hn] at e; cases e
  refine I.step (g' := s.gens) (d' := s.drawn) (ch := [it]) (fun b hb => ?_) (fun b o _ _ hc e _ => k b o (fun z => hc (by simp [z])) e) (fun b o _ _ hc e _ => ⟨o.slots, k b o (fun z => hc (by simp [z])) e⟩) (fun _ _ _ _ n => n)
    (fun b o hc e => ⟨o, k b o (fun z => hc (by simp [z])) e⟩) (fun _ _ e => e) (fun _ _ _ e => e) (fun b ps e => ⟨#[], by rw [e]; simp⟩) (fun m hm => ?_) (fun b u e => ?_) I.bare
  · have e : b = it := by simpa using hb
    subst e
    exact ⟨h1, hL, h2, h3⟩
  · obtain ⟨o, es, ep, ho, r⟩ := hm
    exact ⟨o, es, ep, k _ o (Ne.symm hL) ho, r⟩
  · refine (I.hok b u e).stay (fun c v hc q => k c v ?_ q) (fun _ q => q) fun _ _ q => q
    rcases hc with z | z
    · rw [z]; exact nit b u e
    · exact nit c _ z
theorem Inv.tok (I : Inv X pins σ H s) (t : Nat) : Inv X pins σ H { s with toks := t } := I.un (h' := s.heap) (t' := t) Un.refl I.hok
theorem Inv.kept {t' : Nat} (I : Inv X pins σ H s) (k : ∀ b u, s.heap.get? b = some u → h'.get? b = some u) : Inv X pins σ H { s with heap := h', toks := t' } := I.un (Un.kept k) (I.hok.kept k)
theorem Inv.laid {a : Addr} {o : HO} {t' : Nat} (I : Inv X pins σ H s) (k : ∀ b u, s.heap.get? b = some u → h'.get? b = some u) (hp : s.heap.objs.size ≤ a) (new : ObjOk X.prog X.w (upd H a o) h' a o) :
    Inv X pins σ (upd H a o) { s with heap := h', toks := t' } := I.un (Un.laid k hp (I.hok.fresh hp)) (I.hok.laid k hp new)
theorem Inv.write {x e : Addr} {o : HO} {t' : Nat} (I : Inv X pins σ H s) (mu : Mut (H x)) (he : e = x ∨ H e = some (.own x)) (k : ∀ b u, b ≠ e → s.heap.get? b = some u → h'.get? b = some u) (heo : ∃ u, h'.get? e = some u)
    (new : ObjOk X.prog X.w (upd H x o) h' x o) : Inv X pins σ (upd H x o) { s with heap := h', toks := t' } := I.un (Un.write mu he k heo) (I.hok.write mu he k heo new)
theorem Inv.weak {σ' : List (Option V)} (I : Inv X pins σ H s) (hl : σ'.length = σ.length) (w : ∀ (i : Nat) v, σ'[i]? = some (some v) → σ[i]? = some (some v)) : Inv X pins σ' H s :=
  ⟨I.ok, I.os, I.bare, I.base, let ⟨m, hn, hl'⟩ := I.loc; ⟨m, hn, fun i x v e1 e2 e3 => hl' i x v e1 (w i v e2) e3⟩, I.cell, I.free, I.freeC, I.pin, I.hok, hl.trans I.len⟩
theorem Inv.pins_of {pins' : List (Addr × Obj)} (I : Inv X pins σ H s) (h : ∀ p ∈ pins', s.heap.get? p.1 = some p.2 ∧ H p.1 = none ∧ p.1 ≠ X.env.locals ∧ p.1 ∉ X.fs ∧ ∀ v, p.2.data ≠ .cell v) : Inv X pins' σ H s :=
  ⟨I.ok, I.os, I.bare, I.base, I.loc, I.cell, I.free, I.freeC, fun p hp => (List.mem_append.mp hp).elim (fun z => I.pin p (List.mem_append_left _ z)) (h p), I.hok, I.len⟩
theorem zrj {N : List Str} (hN : N.Nodup) {i j : Nat} {x : Str} (a : N[i]? = some x) (b : N[j]? = some x) : i = j := by
  obtain ⟨h1, e1⟩ := List.getElem?_eq_some_iff.mp a
  obtain ⟨h2, e2⟩ := List.getElem?_eq_some_iff.mp b
  exact (List.getElem_inj hN).mp (e1.trans e2.symm)
theorem zwR {M : Model} {A : Around} {E : Value → Shared → Prop} {i : Nat} {x : Str} {v : V} {u : Value} {Q : Unit → Shared → Prop} (I : Inv X pins σ H s) (hN : X.N.Nodup) (hi : X.N[i]? = some x) (hx : Loc X.env.scope x) (r : RelV v u)
    (h : ∀ s', Inv X pins (σ.set i (some v)) H s' → (∃ a, Heap.SameBut a s.heap s'.heap ∧ (a = X.env.locals ∨ X.env.cells.lookup x = some a)) → Q () s') (hf : X.fn x = true ∨ X.env.scope.names.lookup x = some .local := by first | exact .inl rfl | exact .inr rfl | assumption) : wpAny M A (storeName X.env x u) Q E s := by
  obtain ⟨m, hn, hl⟩ := id I.loc
  have hcls : (X.env.scope.kind == .class || (X.env.scope.kind == .module && X.env.locals != X.env.globals)) = false := by rw [I.ok.kind]; rfl
  have hiσ : i < σ.length := by rw [I.len]; exact (List.getElem?_eq_some_iff.mp hi).1
  have cne := I.cne
  have tracked : ∀ {a : Addr} {h' : Heap}, (∃ o, s.heap.get? a = some o ∧ H a = none) → Heap.SameBut a s.heap h' → HOk X.prog X.w H h' := fun {a h'} ha hs b ob e => by
    obtain ⟨_, _, hfree⟩ := ha
    refine (I.hok b ob e).stay (fun c w' hc q => (hs.2 c ?_).trans q) (fun _ q => q) fun _ _ q => q
    rintro rfl
    rcases hc with rfl | hc
    · rw [hfree] at e; cases e
    · rw [hfree] at hc; cases hc
  rcases hx with hk | hk
  · refine wpAny_storeName_local hk hn (fun h' hn' hs => ?_) hcls
    obtain ⟨oL, _, _, hoL, _⟩ := id hn
    refine h _ ⟨I.ok, I.os, I.bare, ⟨fun b o e n hb hx => ?_, fun b o e n hb hx => ?_, I.base.free, fun b o e hx => ?_, I.base.tups, I.base.frzs, I.base.tbls⟩, ⟨_, hn', fun j y v' e1 e2 e3 => ?_⟩, fun y c e => ?_, I.free, I.freeC, fun p hp => ?_, tracked ⟨oL, hoL, I.free⟩ hs, by simpa using I.len⟩ ⟨_, hs, .inl rfl⟩
    · exact (hs.2 b (Nat.ne_of_lt (Nat.lt_of_lt_of_le (Heap.lt_size e) I.ok.above))).trans (I.base.keep b o e n hb hx)
    · obtain ⟨sl, e1⟩ := I.base.slot b o e n hb hx
      exact ⟨sl, (hs.2 b (Nat.ne_of_lt (Nat.lt_of_lt_of_le (Heap.lt_size e) I.ok.above))).trans e1⟩
    · obtain ⟨o', e1⟩ := I.base.there b o e hx
      exact ⟨o', (hs.2 b (Nat.ne_of_lt (Nat.lt_of_lt_of_le (Heap.lt_size e) I.ok.above))).trans e1⟩
    · by_cases hj : j = i
      · subst hj
        rw [hi] at e1; cases e1
        rw [List.getElem?_set_self hiσ] at e2
        cases e2
        exact ⟨u, r, .inl ⟨hk, by simp⟩⟩
      · rw [List.getElem?_set_ne (Ne.symm hj)] at e2
        obtain ⟨u', r', q⟩ := hl j y v' e1 e2 e3
        refine ⟨u', r', ?_⟩
        rcases q with ⟨k, e⟩ | ⟨k, c, e, z⟩
        · refine .inl ⟨k, ?_⟩
          have : y ≠ x := fun e => hj (zrj hN e1 (e ▸ hi))
          simp [this, e]
        · exact .inr ⟨k, c, e, z.sameBut hs (cne y c e)⟩
    · obtain ⟨w', z⟩ := I.cell y c e
      exact ⟨w', z.sameBut hs (cne y c e)⟩
    · obtain ⟨e, n, ne, nf, d⟩ := I.pin p hp
      exact ⟨(hs.2 p.1 ne).trans e, n, ne, nf, d⟩
  · have hfn : X.fn x = true := by
      rcases hf with z | z
      · exact z
      · rw [z] at hk; cases hk
    obtain ⟨c, hc⟩ := I.ok.has x (.inl hk)
    obtain ⟨w', z⟩ := I.cell x c hc
    refine wpAny_storeName_cell I.ok.kind hk hc z (fun h' hc' hs => ?_)
    obtain ⟨oc, hoc, hocd⟩ := id z
    refine h { s with heap := h' } ⟨I.ok, I.os, I.bare, ⟨fun b o e n hb hx => ?_, fun b o e n hb hx => ?_, I.base.free, fun b o e hx => ?_, I.base.tups, I.base.frzs, I.base.tbls⟩, ⟨m, hn.sameBut hs (Ne.symm (cne x c hc)), fun j y v' e1 e2 e3 => ?_⟩, fun y c' e => ?_, I.free, I.freeC, fun p hp => ?_, tracked ⟨oc, hoc, I.freeC x c hc⟩ hs, by simpa using I.len⟩ ⟨c, hs, .inr hc⟩
    · exact (hs.2 b (Nat.ne_of_lt (Nat.lt_of_lt_of_le (Heap.lt_size e) (I.ok.cab x c hfn hc)))).trans (I.base.keep b o e n hb hx)
    · obtain ⟨sl, e1⟩ := I.base.slot b o e n hb hx
      exact ⟨sl, (hs.2 b (Nat.ne_of_lt (Nat.lt_of_lt_of_le (Heap.lt_size e) (I.ok.cab x c hfn hc)))).trans e1⟩
    · obtain ⟨o', e1⟩ := I.base.there b o e hx
      exact ⟨o', (hs.2 b (Nat.ne_of_lt (Nat.lt_of_lt_of_le (Heap.lt_size e) (I.ok.cab x c hfn hc)))).trans e1⟩
    · by_cases hj : j = i
      · subst hj
        rw [hi] at e1; cases e1
        rw [List.getElem?_set_self hiσ] at e2
        cases e2
        exact ⟨u, r, .inr ⟨.inl hk, c, hc, hc'⟩⟩
      · rw [List.getElem?_set_ne (Ne.symm hj)] at e2
        obtain ⟨u', r', q⟩ := hl j y v' e1 e2 e3
        refine ⟨u', r', ?_⟩
        rcases q with q | ⟨k, c', e, z'⟩
        · exact .inl q
        · refine .inr ⟨k, c', e, z'.sameBut hs ?_⟩
          rintro rfl
          exact hj (zrj hN e1 (I.ok.inj _ _ _ e hc ▸ hi))
    · by_cases hcc : c' = c
      · subst hcc; exact ⟨_, hc'⟩
      · obtain ⟨w2, z2⟩ := I.cell y c' e
        exact ⟨w2, z2.sameBut hs hcc⟩
    · obtain ⟨e, n, ne, nf, d⟩ := I.pin p hp
      refine ⟨(hs.2 p.1 ?_).trans e, n, ne, nf, d⟩
      intro q
      rw [q, hoc] at e
      have q' : oc = p.2 := Option.some.inj e
      exact d w' (by rw [← q']; exact hocd)
theorem zqV {M : Model} {A : Around} {E : Value → Shared → Prop} {i : Nat} {x : Str} {v : V} {u : Value} {Q : Unit → Shared → Prop} (I : Inv X pins σ H s) (hN : X.N.Nodup) (hi : X.N[i]? = some x) (hx : Loc X.env.scope x) (r : RelV v u)
    (h : ∀ s', Inv X pins (σ.set i (some v)) H s' → Q () s') (hf : X.fn x = true ∨ X.env.scope.names.lookup x = some .local := by first | exact .inl rfl | exact .inr rfl | assumption) : wpAny M A (storeName X.env x u) Q E s :=
  zwR I hN hi hx r (fun s' I' _ => h s' I') hf
theorem Inv.call' {s' : Shared} {ch : List Addr} (I : Inv X pins σ H s) (ho : s'.os = s.os) (u : Un (frs X.stack) ch H H' s.heap s'.heap) (hok : HOk X.prog X.w H' s'.heap) (hg : AllBare s'.gens)
    (hch : ∀ b ∈ ch, (b ∈ X.ex ∨ X.s_0.heap.objs.size ≤ b) ∧ b ≠ X.env.locals ∧ (∀ x c, X.env.cells.lookup x = some c → c ≠ b) ∧ ∀ p ∈ X.pn ++ pins, p.1 ≠ b) : Inv X pins σ H' s' := by
  obtain ⟨h', g', d', t', o'⟩ := s'
  have e : o' = s.os := ho
  subst e
  exact I.call (g' := g') (t' := t') (d' := d') u hok hg hch
end
abbrev XK := Addr × Bool → Option Addr → Hp → Prop
abbrev St := List (Option V)
abbrev VK := V → Hp → Prop
abbrev TE := St → Hp → VK → Prop
abbrev TT := St → Hp → (Bool → Hp → Prop) → Prop
abbrev TA := St → Hp → (List V → Hp → Prop) → Prop
structure ztW where
  nx : St → Hp → Prop
  rt : VK
  bk : St → Hp → Prop := fun _ _ => False
  ct : St → Hp → Prop := fun _ _ => False
abbrev TS := ztW → St → Hp → Prop
def EP (X : Cx) (pins : List (Addr × Obj)) (σ : St) (Q : VK) (u : Value) (s' : Shared) : Prop := ∃ v H', Inv X pins σ H' s' ∧ RelV v u ∧ Q v H'
def TP (X : Cx) (pins : List (Addr × Obj)) (σ : St) (Q : Bool → Hp → Prop) (b : Bool) (s' : Shared) : Prop := ∃ H', Inv X pins σ H' s' ∧ Q b H'
def AP (X : Cx) (pins : List (Addr × Obj)) (σ : St) (Q : List V → Hp → Prop) (us : List Value) (s' : Shared) : Prop := ∃ vs H', Inv X pins σ H' s' ∧ Vals vs us ∧ Q vs H'
def SP (X : Cx) (pins : List (Addr × Obj)) (D : ztW) (f : Flow) (s' : Shared) : Prop :=
  match f with
  | .next => ∃ σ' H', Inv X pins σ' H' s' ∧ D.nx σ' H'
  | .brk => ∃ σ' H', Inv X pins σ' H' s' ∧ D.bk σ' H'
  | .cont => ∃ σ' H', Inv X pins σ' H' s' ∧ D.ct σ' H'
  | .ret u => ∃ v σ' H', Inv X pins σ' H' s' ∧ RelV v u ∧ D.rt v H'
def PE (X : Cx) (e : Expr) (t : TE) : Prop :=
  ∀ (pins : List (Addr × Obj)) (s : Shared) (σ : St) (H : Hp) (Q : VK), Inv X pins σ H s → t σ H Q → wpAny (model X.prog X.w) X.A (eval e X.env) (EP X pins σ Q) X.xe s
def PT (X : Cx) (e : Expr) (t : TT) : Prop :=
  ∀ (pins : List (Addr × Obj)) (s : Shared) (σ : St) (H : Hp) (Q : Bool → Hp → Prop), Inv X pins σ H s → t σ H Q → wpAny (model X.prog X.w) X.A (isTrue e X.env (eval e X.env)) (TP X pins σ Q) X.xe s
def PW (X : Cx) (e : Expr) (t : TT) : Prop :=
  ∀ (whole : Sem Value) (pins : List (Addr × Obj)) (s : Shared) (σ : St) (H : Hp) (Q : Bool → Hp → Prop), Inv X pins σ H s → t σ H Q → wpAny (model X.prog X.w) X.A (isTrue e X.env whole) (TP X pins σ Q) X.xe s
theorem PW.pt {X : Cx} {e : Expr} {t : TT} (h : PW X e t) : PT X e t := h _
def PA (X : Cx) (es : List Expr) (t : TA) : Prop :=
  ∀ (pos : Pos) (pins : List (Addr × Obj)) (s : Shared) (σ : St) (H : Hp) (Q : List V → Hp → Prop), Inv X pins σ H s → t σ H Q → wpAny (model X.prog X.w) X.A (spliced (backTo pos (starEach es X.env))) (AP X pins σ Q) X.xe s
def PS (X : Cx) (st : Stmt) (t : TS) : Prop :=
  ∀ (pins : List (Addr × Obj)) (s : Shared) (σ : St) (H : Hp) (D : ztW), Inv X pins σ H s → t D σ H → wpAny (model X.prog X.w) X.A (exec st X.env) (SP X pins D) X.xe s
def PSs (X : Cx) (st : List Stmt) (t : TS) : Prop :=
  ∀ (pins : List (Addr × Obj)) (s : Shared) (σ : St) (H : Hp) (D : ztW), Inv X pins σ H s → t D σ H → wpAny (model X.prog X.w) X.A (execs st X.env) (SP X pins D) X.xe s
theorem thn {α : Type} {t : Sem α} {Q Q' : α → Shared → Prop} {M : Model} {A : Around} {E : Value → Shared → Prop} {s : Shared} (h : wpAny M A t Q E s) (hQ : ∀ a s, Q a s → Q' a s) : wpAny M A t Q' E s := wpAny_mono h hQ fun _ _ x => x
end L2
namespace L2
open PySem PySem.Spec PyProof.Rows
section
variable {X : Cx}
def zjG (i : Nat) : TE := fun σ H Q => ∃ v, σ[i]? = some (some v) ∧ Q v H
def tC (v : V) : TE := fun _ H Q => Q v H
theorem zE2 {i : Nat} {x : Str} {pos : Pos} (hN : X.N[i]? = some x) (hv : Vis X.env.scope x) (hd : (x == ("__debug__" : Str)) = false := by decide) (hcd : (x == ("__classdict__" : Str)) = false := by decide) : PE X (.Name x pos) (zjG i) := by
  intro pins s σ H Q I h
  obtain ⟨v, e, h⟩ := h
  obtain ⟨m, hn, hl⟩ := I.loc
  obtain ⟨u, r, l⟩ := hl i x v hN e hv
  have fin : EP X pins σ Q u s := ⟨v, H, I, r, h⟩
  rcases l with ⟨hk, hm⟩ | ⟨hk, c, hc, hcell⟩
  · exact wpAny_Name (wpAny_loadName_local I.ok.kind hk hn hm fin) hd
  · rcases hk with hk | hk
    · exact wpAny_Name (wpAny_loadName_cell I.ok.kind hk hc hcell fin) hd
    · exact wpAny_Name (wpAny_loadName_free I.ok.kind hk hc hcell fin hcd) hd
theorem zD {i j pos} : PE X (.Constant (.int i) j pos) (tC (.int i)) := fun _ _ _ H _ I h => wpAny_Constant_int ⟨.int i, H, I.tok _, ⟨_, rfl⟩, h⟩
theorem zDl {b j pos} : PE X (.Constant (.bool b) j pos) (tC (.bl b)) := fun _ _ _ H _ I h => Constant_bool ⟨.bl b, H, I, rfl, h⟩
def Gl (X : Cx) (x : Str) : Prop := X.env.kindOf x = some .globalImplicit
theorem ziX {E : Value → Shared → Prop} {pins : List (Addr × Obj)} {s : Shared} {σ : St} {H : Hp} {x : Str} {u : Value} {pos : Pos} {Q : Value → Shared → Prop} (I : Inv X pins σ H s) (hg : Gl X x) (hm : X.mg x = some u) (h : Q u s)
    (hd : (x == ("__debug__" : Str)) = false := by decide) : wpAny (model X.prog X.w) X.A (eval (.Name x pos) X.env) Q E s :=
  Calls.Name_function_global I.ok.kind hg (Calls.loadGlobal_global (by rw [I.ok.glob]; exact I.mod.glob.keeps I.bk) hm h) hd
theorem zyz {E : Value → Shared → Prop} {pins : List (Addr × Obj)} {s : Shared} {σ : St} {H : Hp} {x : Str} {u : Value} {pos : Pos} {Q : Value → Shared → Prop} (I : Inv X pins σ H s) (hg : Gl X x) (hm : X.mg x = none) (hv : bootBuiltins x = some u) (h : Q u s)
    (hn : x ≠ "__name__" := by decide) (hd : (x == ("__debug__" : Str)) = false := by decide) : wpAny (model X.prog X.w) X.A (eval (.Name x pos) X.env) Q E s := by
  obtain ⟨mb, h1, h2⟩ := I.mod.blt
  exact Calls.Name_function_global I.ok.kind hg (Calls.loadGlobal_builtin (by rw [I.ok.glob]; exact I.mod.glob.keeps I.bk) hm (by rw [I.ok.blt]; exact h1.keeps I.bk) ((h2 x hn).trans hv) h) hd
theorem zz {x : Str} {v : V} {u : Value} {pos : Pos} (hg : Gl X x) (hm : X.mg x = some u) (r : RelV v u) (hd : (x == ("__debug__" : Str)) = false := by decide) : PE X (.Name x pos) (tC v) :=
  fun _ _ _ H _ I h => ziX I hg hm ⟨v, H, I, r, h⟩ hd
def t2I (ta tb : TE) (k : Int → Int → Hp → Prop) : St → Hp → Prop := fun σ H => ta σ H fun x H1 => tb σ H1 fun y H2 => ∃ i j, x = .int i ∧ y = .int j ∧ k i j H2
def zG7 (ta tb : TE) : TE := fun σ H Q => t2I ta tb (fun i j H2 => Q (.int (i + j)) H2) σ H
def zHg (ta tb : TE) : TE := fun σ H Q => t2I ta tb (fun i j H2 => Q (.int (i - j)) H2) σ H
def zHa (ta tb : TE) : TE := fun σ H Q => t2I ta tb (fun i j H2 => (-(2 ^ 64) < i ∧ i < 2 ^ 64) ∧ Q (.int (i * j)) H2) σ H
variable {a b : Expr} {ta tb : TE} {pos : Pos}
def PC (X : Cx) (op : CmpOp) (a b : Expr) (t : TE) : Prop :=
  ∀ (pins : List (Addr × Obj)) (s : Shared) (σ : St) (H : Hp) (Q : VK), Inv X pins σ H s → t σ H Q →
    wpAny (model X.prog X.w) X.A (eval a X.env) (fun v s₁ => wpAny (model X.prog X.w) X.A (eval b X.env) (fun u s₂ => wpAny (model X.prog X.w) X.A (compareOp op v u) (EP X pins σ Q) X.xe s₂) X.xe s₁) X.xe s
def zB3 (p : Int → Int → Bool) (ta tb : TE) : TE := fun σ H Q => t2I ta tb (fun i j H2 => Q (.bl (p i j)) H2) σ H
abbrev tLt : TE → TE → TE := zB3 fun i j => decide (i < j)
abbrev tLe : TE → TE → TE := zB3 fun i j => decide (i ≤ j)
abbrev tGt : TE → TE → TE := zB3 fun i j => decide (j < i)
abbrev tGe : TE → TE → TE := zB3 fun i j => decide (j ≤ i)
abbrev zHb : TE → TE → TE := zB3 fun i j => decide (i = j)
abbrev zHe : TE → TE → TE := zB3 fun i j => !decide (i = j)
def zHc (ta : TE) : TE := fun σ H Q => ta σ H fun x H1 => Q (.bl (decide (x = .non))) H1
def zGQ (ta : TE) : TE := fun σ H Q => ta σ H fun x H1 => Q (.bl (!decide (x = .non))) H1
def tB (t : TE) : TT := fun σ H Q => t σ H fun x H1 => ∃ c, x = .bl c ∧ Q c H1
theorem zf8 {e : Expr} {t : TE} (h : PE X e t) (he : ∀ whole, isTrue e X.env whole = (do let v ← whole; standAt e.pos; holding [v] (truthy v)) := by intro _; rfl) : PT X e (tB t) := by
  intro pins s σ H Q I hw
  refine isTrue_plain (thn (h pins s σ H _ I hw) fun v s1 ⟨x, H1, I1, r1, q1⟩ => ?_) (he _)
  obtain ⟨d, rfl, q⟩ := q1
  cases r1
  exact wpAny_truthy_bool ⟨H1, I1, q⟩
variable {tA tB' : TT} {rest : List Expr}
def zFb (t u : TT) : TT := fun σ H Q => t σ H fun c H1 => if c = true then u σ H1 Q else Q false H1
def tOr (t u : TT) : TT := fun σ H Q => t σ H fun c H1 => if c = true then Q true H1 else u σ H1 Q
def zGv (t : TT) : TT := fun σ H Q => t σ H fun c H1 => Q (!c) H1
theorem ztQ (ha : PT X a tA) : PW X (.BoolOp .And [a] pos) tA := by
  intro wh pins s σ H Q I h
  refine isTrue_and (thn (ha pins s σ H Q I h) fun c s1 e => ?_)
  cases c with
  | true => exact isTrue_and_nil e
  | false => exact e
theorem zrV (ha : PT X a tA) : PW X (.BoolOp .Or [a] pos) tA := by
  intro wh pins s σ H Q I h
  refine isTrue_or (thn (ha pins s σ H Q I h) fun c s1 e => ?_)
  cases c with
  | false => exact isTrue_or_nil e
  | true => exact e
theorem zym (ha : PT X a tA) (hb : PW X (.BoolOp .And (b :: rest) pos) tB') : PW X (.BoolOp .And (a :: b :: rest) pos) (zFb tA tB') := by
  intro wh pins s σ H Q I h
  refine isTrue_and (thn (ha pins s σ H _ I h) fun c s1 ⟨H1, I1, q1⟩ => ?_)
  cases c with
  | true => exact hb wh pins s1 σ H1 Q I1 q1
  | false => exact ⟨H1, I1, q1⟩
theorem zwE (ha : PT X a tA) (hb : PW X (.BoolOp .Or (b :: rest) pos) tB') : PW X (.BoolOp .Or (a :: b :: rest) pos) (tOr tA tB') := by
  intro wh pins s σ H Q I h
  refine isTrue_or (thn (ha pins s σ H _ I h) fun c s1 ⟨H1, I1, q1⟩ => ?_)
  cases c with
  | true => exact ⟨H1, I1, q1⟩
  | false => exact hb wh pins s1 σ H1 Q I1 q1
theorem zqe (ha : PT X a tA) : PT X (.UnaryOp .Not a pos) (zGv tA) := by
  intro pins s σ H Q I h
  exact isTrue_not (ha pins s σ H (fun c H1 => Q (!c) H1) I h)
def zCD (ta tb : TE) : TE := fun σ H Q => ta σ H fun x H1 => ∃ c, x = .bl c ∧ if c = true then tb σ H1 Q else Q (.bl false) H1
def zEQ (ta tb : TE) : TE := fun σ H Q => ta σ H fun x H1 => ∃ c, x = .bl c ∧ if c = true then Q (.bl true) H1 else tb σ H1 Q
def zFg (ta : TE) : TE := fun σ H Q => ta σ H fun x H1 => ∃ c, x = .bl c ∧ Q (.bl (!c)) H1
theorem zpc {op} {t : TE} (h : PE X a t) : PE X (.BoolOp op [a] pos) t := fun pins s σ H Q I hw => BoolOp_one (h pins s σ H Q I hw)
theorem ztV (ha : PE X a ta) (hb : PE X (.BoolOp .And (b :: rest) pos) tb) : PE X (.BoolOp .And (a :: b :: rest) pos) (zCD ta tb) := by
  intro pins s σ H Q I h
  refine BoolOp_and (thn (ha pins s σ H _ I h) fun v s1 ⟨x, H1, I1, r1, q1⟩ => ?_)
  obtain ⟨c, rfl, q1⟩ := q1
  cases r1
  refine wpAny_truthy_bool ?_
  cases c with
  | true => exact hb pins s1 σ H1 Q I1 q1
  | false => exact ⟨.bl false, H1, I1, rfl, q1⟩
theorem zBD (ha : PE X a ta) (hb : PE X (.BoolOp .Or (b :: rest) pos) tb) : PE X (.BoolOp .Or (a :: b :: rest) pos) (zEQ ta tb) := by
  intro pins s σ H Q I h
  refine BoolOp_or (thn (ha pins s σ H _ I h) fun v s1 ⟨x, H1, I1, r1, q1⟩ => ?_)
  obtain ⟨c, rfl, q1⟩ := q1
  cases r1
  refine wpAny_truthy_bool ?_
  cases c with
  | false => exact hb pins s1 σ H1 Q I1 q1
  | true => exact ⟨.bl true, H1, I1, rfl, q1⟩
theorem zAu (ha : PE X a ta) : PE X (.UnaryOp .Not a pos) (zFg ta) := by
  intro pins s σ H Q I h
  refine UnaryOp_ (thn (ha pins s σ H _ I h) fun v s1 ⟨x, H1, I1, r1, q1⟩ => ?_)
  obtain ⟨c, rfl, q1⟩ := q1
  cases r1
  exact not_of (wpAny_truthy_bool ⟨.bl (!c), H1, I1, rfl, q1⟩)
def tIf (t : TT) (ta tb : TE) : TE := fun σ H Q => t σ H fun c H1 => if c = true then ta σ H1 Q else tb σ H1 Q
theorem zzx {c : Expr} (hc : PT X c tA) (ha : PE X a ta) (hb : PE X b tb) : PE X (.IfExp c a b pos) (tIf tA ta tb) := by
  intro pins s σ H Q I h
  refine wpAny_IfExp (thn (hc pins s σ H _ I h) fun d s1 ⟨H1, I1, q1⟩ => ?_)
  cases d with
  | true => exact ha pins s1 σ H1 Q I1 q1
  | false => exact hb pins s1 σ H1 Q I1 q1
end
end L2
namespace L2
open PySem PySem.Spec PyProof.Rows
def SqL (K : PySem.W.Frag) (H : Hp) (a : Addr) (xs : List V) : Prop :=
  Rd H a (.lst xs) ∨
    ∃ (o : Obj) (its : Array Value) (n : Nat), K.lookup a = some o ∧ o.cls = .type "list" ∧ o.dict = none ∧ o.data = .seq its n ∧ its.size ≤ sizeLine ∧ Vals xs its.toList
def SqT (K : PySem.W.Frag) (H : Hp) (a : Addr) (xs : List V) : Prop :=
  Rd H a (.tup xs) ∨
    ∃ (o : Obj) (its : Array Value) (n : Nat), K.lookup a = some o ∧ o.cls = .type "tuple" ∧ o.data = .seq its n ∧ its.size ≤ sizeLine ∧ Vals xs its.toList
def zGn : Value → Option V
  | .none => some .non
  | .bool b => some (.bl b)
  | .int i _ => some (.int i)
  | .str x _ => some (.str x)
  | .bytes b _ => some (.byt b)
  | .float b _ => some (.flt b)
  | .ref a => some (.ref a)
  | .type n => some (.ty n)
  | _ => none
theorem RelV.abs {x : V} {u : Value} (r : RelV x u) : zGn u = some x := by
  cases x with
  | non => cases r; rfl
  | bl _ => cases r; rfl
  | int _ => obtain ⟨t, rfl⟩ := r; rfl
  | str _ => obtain ⟨t, rfl⟩ := r; rfl
  | byt _ => obtain ⟨t, rfl⟩ := r; rfl
  | flt _ => obtain ⟨t, rfl⟩ := r; rfl
  | ref _ => cases r; rfl
  | ty _ => cases r; rfl
theorem RelV.inj {x y : V} {u : Value} (r : RelV x u) (q : RelV y u) : x = y := Option.some.inj (r.abs.symm.trans q.abs)
theorem Vals.inj : ∀ {xs ys : List V} {us : List Value}, Vals xs us → Vals ys us → xs = ys
  | _, _, _, .nil, .nil => rfl
  | _, _, _, .cons r t, .cons r' t' => by rw [r.inj r', Vals.inj t t']
section
variable {X : Cx} {pins : List (Addr × Obj)} {σ : St} {H : Hp} {s : Shared} {a : Addr} {xs ys : List V}
theorem SqL.of {K : PySem.W.Frag} (h : H a = some (.lst xs)) : SqL K H a xs := .inl (.inl h)
theorem Inv.list (I : Inv X pins σ H s) (h : SqL X.K H a xs) : ∃ its : List Value, Vals xs its ∧ PlainL s.heap a its.toArray ∧ xs.length ≤ sizeLine := by
  rcases h with h | ⟨o, its, n, hk, hc, hd, hs, hz, r⟩
  · obtain ⟨z, its, n, r, e⟩ := h.ok I.hok
    exact ⟨its, r, ⟨_, n, e, rfl, rfl, rfl⟩, z⟩
  · refine ⟨its.toList, r, ⟨o, n, I.kIn a o hk, hc, hd, by simpa using hs⟩, ?_⟩
    have e := r.length
    simp only [Array.length_toList] at e
    omega
theorem Inv.tuple (I : Inv X pins σ H s) (h : SqT X.K H a xs) : ∃ its : List Value, Vals xs its ∧ IsTup s.heap a its.toArray ∧ xs.length ≤ sizeLine := by
  rcases h with h | ⟨o, its, n, hk, hc, hs, hz, r⟩
  · obtain ⟨z, its, r, p⟩ := h.ok I.hok
    exact ⟨its, r, p, z⟩
  · refine ⟨its.toList, r, ⟨o, I.kIn a o hk, hc, n, by simpa using hs⟩, ?_⟩
    have e := r.length
    simp only [Array.length_toList] at e
    omega
theorem Inv.list_inj (I : Inv X pins σ H s) (h : SqL X.K H a xs) (h' : SqL X.K H a ys) : xs = ys := by
  obtain ⟨its, r, ⟨o, n, e, _, _, d⟩, _⟩ := I.list h
  obtain ⟨its', r', ⟨o', n', e', _, _, d'⟩, _⟩ := I.list h'
  rw [e] at e'; cases e'
  rw [d] at d'
  injection d' with d1 _
  have : its = its' := by simpa using congrArg Array.toList d1
  subst this
  exact r.inj r'
theorem Inv.tuple_inj (I : Inv X pins σ H s) (h : SqT X.K H a xs) (h' : SqT X.K H a ys) : xs = ys := by
  obtain ⟨its, r, ⟨o, e, _, n, d⟩, _⟩ := I.tuple h
  obtain ⟨its', r', ⟨o', e', _, n', d'⟩, _⟩ := I.tuple h'
  rw [e] at e'; cases e'
  rw [d] at d'
  injection d' with d1 _
  have : its = its' := by simpa using congrArg Array.toList d1
  subst this
  exact r.inj r'
end
abbrev Cx.wish (X : Cx) (E : Value → Shared → Prop) : Cx := { X with xe := E }
abbrev Cx.nox (X : Cx) : Cx := X.wish fun _ _ => False
theorem Cx.Ok.wish {X : Cx} (ok : X.Ok) (E : Value → Shared → Prop) : (X.wish E).Ok :=
  ⟨ok.mod, ok.kind, ok.glob, ok.blt, ok.above, ok.inj, ok.has, ok.cab, ok.hd, ok.frames, ok.stk, ok.exf, ok.bs, ok.bsz, ok.noex, ok.exfs, ok.funs, ok.frf⟩
theorem Cx.Ok.unwish {X : Cx} {E : Value → Shared → Prop} (ok : (X.wish E).Ok) : X.Ok :=
  ⟨ok.mod, ok.kind, ok.glob, ok.blt, ok.above, ok.inj, ok.has, ok.cab, ok.hd, ok.frames, ok.stk, ok.exf, ok.bs, ok.bsz, ok.noex, ok.exfs, ok.funs, ok.frf⟩
section
variable {X : Cx} {pins : List (Addr × Obj)} {σ : St} {H : Hp} {s : Shared} {E : Value → Shared → Prop}
theorem Inv.wish (I : Inv X pins σ H s) (E : Value → Shared → Prop) : Inv (X.wish E) pins σ H s := ⟨I.ok.wish E, I.os, I.bare, I.base, I.loc, I.cell, I.free, I.freeC, I.pin, I.hok, I.len⟩
theorem Inv.unwish (I : Inv (X.wish E) pins σ H s) : Inv X pins σ H s := ⟨I.ok.unwish, I.os, I.bare, I.base, I.loc, I.cell, I.free, I.freeC, I.pin, I.hok, I.len⟩
end
section
variable {X : Cx} {st : Stmt} {rest : List Stmt} {t u : TS} {e : Expr} {te : TE} {pos : Pos}
def zmp : TS := fun D σ H => D.nx σ H
def ztB (t u : TS) : TS := fun D σ H => t { D with nx := u D } σ H
theorem yD : PSs X [] zmp := fun _ _ σ H _ I h => wpAny_execs_nil ⟨σ, H, I, h⟩
theorem zo (h1 : PS X st t) (h2 : PSs X rest u) : PSs X (st :: rest) (ztB t u) := by
  intro pins s σ H D I h
  refine wpAny_execs_cons (thn (h1 pins s σ H { D with nx := u D } I h) fun f s1 q => ?_)
  cases f with
  | next =>
    obtain ⟨σ', H', I', q⟩ := q
    exact h2 pins s1 σ' H' D I' q
  | ret v => exact q
  | brk => exact q
  | cont => exact q
theorem zj (h1 : PS X st t) : PSs X [st] t := by
  intro pins s σ H D I h
  refine wpAny_execs_cons (thn (h1 pins s σ H D I h) fun f s1 q => ?_)
  cases f with
  | next => exact wpAny_execs_nil q
  | ret v => exact q
  | brk => exact q
  | cont => exact q
def zGm : TS := fun D σ H => D.bk σ H
def zGL : TS := fun D σ H => D.ct σ H
theorem Inv.quiet {pins : List (Addr × Obj)} {σ : St} {H : Hp} {s : Shared} (I : Inv X pins σ H s) : interactive X.env = false := by simp [interactive, I.ok.kind]
def zFs (te : TE) : TS := fun D σ H => te σ H fun _ H1 => D.nx σ H1
theorem ZT (he : PE X e te) (hs : swapsWith e none pos.line X.env = pure false := by rfl) : PS X (.Expr e pos) (zFs te) := by
  intro pins s σ H D I h
  exact wpAny_Expr_any (thn (he pins s σ H _ I h) fun v s1 ⟨x, H1, I1, r1, q1⟩ => ⟨σ, H1, I1, q1⟩) I.quiet hs
def zE5 (te : TE) : TS := fun D σ H => te σ H D.rt
theorem yx (he : PE X e te) : PS X (.Return (some e) pos) (zE5 te) := by
  intro pins s σ H D I h
  exact wpAny_Return_some (thn (he pins s σ H _ I h) fun v s1 ⟨x, H1, I1, r1, q1⟩ => ⟨x, σ, H1, I1, r1, q1⟩)
def zGO : TS := fun D _ H => D.rt .non H
def zwb (c : TT) (t u : TS) : TS := fun D σ H => c σ H fun b H1 => if b = true then t D σ H1 else u D σ H1
theorem ZD {c : Expr} {a b : List Stmt} {tc : TT} (hc : PT X c tc) (ha : PSs X a t) (hb : PSs X b u) : PS X (.If c a b pos) (zwb tc t u) := by
  intro pins s σ H D I h
  refine wpAny_If (thn (hc pins s σ H _ I h) fun d s1 ⟨H1, I1, q1⟩ => ?_)
  cases d with
  | true => exact ha pins s1 σ H1 D I1 q1
  | false => exact hb pins s1 σ H1 D I1 q1
def zGB : TS := fun _ _ _ => False
end
abbrev TG := V → St → Hp → (St → Hp → Prop) → Prop
abbrev TGs := List V → St → Hp → (St → Hp → Prop) → Prop
def PG (X : Cx) (target : Expr) (t : TG) : Prop :=
  ∀ (pins : List (Addr × Obj)) (s : Shared) (σ : St) (H : Hp) (v : V) (u : Value) (Q : St → Hp → Prop), Inv X pins σ H s → RelV v u → t v σ H Q →
    wpAny (model X.prog X.w) X.A (assign target X.env u) (fun _ s' => ∃ σ' H', Inv X pins σ' H' s' ∧ Q σ' H') X.xe s
def PGs (X : Cx) (ts : List Expr) (t : TGs) : Prop :=
  ∀ (pins : List (Addr × Obj)) (s : Shared) (σ : St) (H : Hp) (vs : List V) (us : List Value) (Q : St → Hp → Prop), Inv X pins σ H s → Vals vs us → t vs σ H Q →
    wpAny (model X.prog X.w) X.A (assignInOrder ((assignEach ts X.env).map (·.2)) us) (fun _ s' => ∃ σ' H', Inv X pins σ' H' s' ∧ Q σ' H') X.xe s
abbrev zEV := V → V → V → Hp → (Hp → Prop) → Prop
def zHl (X : Cx) (t : zEV) : Prop :=
  ∀ (pins : List (Addr × Obj)) (s : Shared) (σ : St) (H : Hp) (o i v : V) (ov iv u : Value) (Q : Hp → Prop), Inv X pins σ H s → RelV o ov → RelV i iv → RelV v u → t o i v H Q →
    wpAny (model X.prog X.w) X.A (setItem ov iv u) (fun _ s' => ∃ H', Inv X pins σ H' s' ∧ Q H') X.xe s
abbrev TIp := V → V → Hp → VK → Prop
def PIp (X : Cx) (op : Operator) (t : TIp) : Prop :=
  ∀ (pins : List (Addr × Obj)) (s : Shared) (σ : St) (H : Hp) (x y : V) (v u : Value) (Q : VK), Inv X pins σ H s → RelV x v → RelV y u → t x y H Q →
    wpAny (model X.prog X.w) X.A (inplaceOp op v u) (EP X pins σ Q) X.xe s
section
variable {X : Cx} {pos : Pos}
def zrF (i : Nat) : TG := fun v σ H Q => Q (σ.set i (some v)) H
theorem ZF {i : Nat} {x : Str} (hN : X.N.Nodup) (hi : X.N[i]? = some x) (hx : Loc X.env.scope x) (hf : X.fn x = true ∨ X.env.scope.names.lookup x = some .local := by first | exact .inl rfl | exact .inr rfl | assumption) : PG X (.Name x pos) (zrF i) := by
  intro pins s σ H v u Q I r h
  exact wpAny_assign_Name (zqV I hN hi hx r (fun s' I' => ⟨_, H, I', h⟩) hf)
def zGq : TGs := fun vs σ H Q => vs = [] ∧ Q σ H
def zFB (t : TG) (u : TGs) : TGs := fun vs σ H Q => ∃ v r, vs = v :: r ∧ t v σ H fun σ' H' => u r σ' H' Q
theorem zBk : PGs X [] zGq := by
  intro pins s σ H vs us Q I r h
  obtain ⟨e, h⟩ := h
  subst e
  cases r
  exact assignInOrder_nil ⟨σ, H, I, h⟩
theorem zqA {e : Expr} {es : List Expr} {t : TG} {u : TGs} (h1 : PG X e t) (h2 : PGs X es u)
    (hs : (assignEach (e :: es) X.env).map (·.2) = assign e X.env :: (assignEach es X.env).map (·.2) := by rfl) : PGs X (e :: es) (zFB t u) := by
  intro pins s σ H vs us Q I r h
  obtain ⟨v, vr, e1, h⟩ := h
  subst e1
  cases r with
  | cons r rr =>
    rw [hs]
    refine assignInOrder_cons (thn (h1 pins s σ H _ _ _ I r h) fun _ s1 ⟨σ1, H1, I1, q1⟩ => ?_)
    exact h2 pins s1 σ1 H1 _ _ Q I1 rr q1
def zGy (K : PySem.W.Frag) (n : Nat) (t : TGs) : TG := fun v σ H Q => ∃ a xs, v = .ref a ∧ SqT K H a xs ∧ xs.length = n ∧ t xs σ H Q
theorem zCV {es : List Expr} {k : Nat} {t : TGs} {n : Nat} (hc : X.calm = true) (h : PGs X es t)
    (hn : (assignEach es X.env).length = n := by rfl) (hst : (assignEach es X.env).findIdx? (·.1) = none := by rfl) : PG X (.Tuple es k pos) (zGy X.K n t) := by
  intro pins s σ H v u Q I r hw
  obtain ⟨a, xs, e1, hq, hl, hw⟩ := hw
  subst e1
  cases r
  obtain ⟨its, rv, ht, hz⟩ := I.tuple hq
  refine assign_Tuple_tuple (I.ok.hd hc) ht (by simp [hn, ← hl, rv.length]) hst fun h' hx => ?_
  have I1 : Inv X pins σ H { s with heap := h' } := I.kept (t' := s.toks) fun b o e => hx b o (Nat.ne_of_lt (Heap.lt_size e)) e
  exact h pins _ σ H xs _ Q I1 (by simpa using rv) hw
def zHw (to ti : TE) (t : zEV) : TG := fun v σ H Q => to σ H fun o H1 => ti σ H1 fun i H2 => t o i v H2 fun H3 => Q σ H3
def zFu (te : TE) (g : TG) : TS := fun D σ H => te σ H fun x H1 => g x σ H1 D.nx
theorem zai {i : Nat} {x : Str} {e : Expr} {te : TE} {pos' : Pos} (hN : X.N.Nodup) (hi : X.N[i]? = some x) (hx : Loc X.env.scope x) (he : PE X e te) (hs : swapsWith e (some (.Name x pos')) pos.line X.env = pure false := by rfl) (hf : X.fn x = true ∨ X.env.scope.names.lookup x = some .local := by first | exact .inl rfl | exact .inr rfl | assumption) :
    PS X (.Assign [.Name x pos'] e pos) (zFu te (zrF i)) := by
  intro pins s σ H D I h
  refine wpAny_Assign_Name (thn (he pins s σ H _ I h) fun v s1 ⟨y, H1, I1, r1, q1⟩ => ?_) hs
  exact zqV I1 hN hi hx r1 (fun s2 I2 => ⟨_, H1, I2, q1⟩) hf
def zG3 (i j : Nat) (ta : TA) : TS := fun D σ H => ta σ H fun vs H1 => ∃ v w, vs = [v, w] ∧ D.nx ((σ.set i (some v)).set j (some w)) H1
def zHh (i : Nat) (te : TE) (ti : TIp) : TS := fun D σ H => ∃ x, σ[i]? = some (some x) ∧ te σ H fun y H1 => ti x y H1 fun z H2 => D.nx (σ.set i (some z)) H2
def zGU (to ti te : TE) (tget : V → V → Hp → VK → Prop) (tip : TIp) (tset : zEV) : TS := fun D σ H => to σ H fun o H1 => ti σ H1 fun i H2 => tget o i H2 fun x H3 => te σ H3 fun y H4 => tip x y H4 fun z H5 => tset o i z H5 fun H6 => D.nx σ H6
def zHf (X : Cx) (t : V → V → Hp → VK → Prop) : Prop :=
  ∀ (pins : List (Addr × Obj)) (s : Shared) (σ : St) (H : Hp) (o i : V) (ov iv : Value) (Q : VK), Inv X pins σ H s → RelV o ov → RelV i iv → t o i H Q →
    wpAny (model X.prog X.w) X.A (getItem ov iv) (EP X pins σ Q) X.xe s
def ipI (f : Int → Int → Int) : TIp := fun x y H Q => ∃ i j, x = .int i ∧ y = .int j ∧ Q (.int (f i j)) H
end
section
variable {X : Cx} {pos : Pos}
def zGA (c : TT) (tb : TS) : TS := fun D σ H => ∃ W : Nat → St → Hp → Prop, (∃ m, W m σ H) ∧ ∀ m σ H, W m σ H →
  c σ H fun b H1 => if b = true then ∃ N : St → Hp → Prop, (∀ σ' H', N σ' H' → ∃ m', m' < m ∧ W m' σ' H') ∧ tb { D with nx := N, ct := N, bk := D.nx } σ H1 else D.nx σ H1
end
structure It where
  go : Nat → Hp → Prop
  yld : Nat → Hp → V → Hp → Prop
  stop : Nat → Hp → Prop
def zpN (X : Cx) (pins : List (Addr × Obj)) (H : Hp) (b : Addr) : Prop :=
  H b = none ∧ b ≠ X.env.locals ∧ b ∉ X.fs ∧ (b ∈ X.ex ∨ X.s_0.heap.objs.size ≤ b) ∧ (∀ x c, X.env.cells.lookup x = some c → c ≠ b) ∧ ∀ p ∈ X.pn ++ pins, p.1 ≠ b
theorem Inv.fpOk {X : Cx} {pins : List (Addr × Obj)} {σ : St} {H H' : Hp} {s : Shared} {b : Addr} (I : Inv X pins σ H s) (hb : s.heap.objs.size ≤ b) (hn : H' b = none) : zpN X pins H' b := by
  refine ⟨hn, Nat.ne_of_gt (Nat.lt_of_lt_of_le I.lt hb), I.nofs hb, .inr (Nat.le_trans I.sz hb), fun x c e z => ?_, fun p hp z => ?_⟩
  · obtain ⟨v, q⟩ := I.cell x c e
    exact absurd (Nat.lt_of_lt_of_le q.lt (by rw [z]; exact hb)) (Nat.lt_irrefl _)
  · exact absurd (Nat.lt_of_lt_of_le (Heap.lt_size (I.pin p hp).1) (by rw [z]; exact hb)) (Nat.lt_irrefl _)
structure zy4 (P : Program) (w : World) (K : PySem.W.Frag) (tg : Expr) (J : It) (fp : List Addr) (it : Addr) (tn : Nat → Heap → Prop) : Prop where
  mem : it ∈ fp
  obj : ∀ i h, tn i h → ∀ b ∈ fp, ∃ o, h.get? b = some o ∧ ∀ v, o.data ≠ .cell v
  keep : ∀ i h h', tn i h → (∀ b ∈ fp, ∀ o, h.get? b = some o → h'.get? b = some o) → tn i h'
  item : ∀ (X : Cx), X.prog = P → X.w = w → X.K = K → X.calm = true → ∀ (i : Nat) (pins : List (Addr × Obj)) (s : Shared) (σ : St) (H : Hp) (E : Value → Shared → Prop), Inv X pins σ H s → (∀ b ∈ fp, zpN X pins H b) → tn i s.heap → J.go i H →
    wpAny (model P w) X.A (pyNext (.ref it)) (fun r s1 => ∃ u, r = some u ∧
      wpAny (model P w) X.A (letOwnedTupleGo tg (.ref it) u) (fun _ s2 => ∃ x H', Inv X pins σ H' s2 ∧ RelV x u ∧ J.yld i H x H' ∧ tn (i + 1) s2.heap ∧ ∀ b ∈ fp, H' b = none) E s1) E s
  done : ∀ (X : Cx), X.prog = P → X.w = w → X.K = K → X.calm = true → ∀ (i : Nat) (pins : List (Addr × Obj)) (s : Shared) (σ : St) (H : Hp) (E : Value → Shared → Prop), Inv X pins σ H s → (∀ b ∈ fp, zpN X pins H b) → tn i s.heap → J.stop i H →
    wpAny (model P w) X.A (pyNext (.ref it)) (fun r s1 => r = none ∧ Inv X pins σ H s1) E s
  self : ∀ (A : Around) (i : Nat) (s : Shared) (Q : Value → Shared → Prop) (E : Value → Shared → Prop), tn i s.heap → Q (.ref it) s → wpAny (model P w) A (pyIter (.ref it)) Q E s
abbrev TI := St → Hp → (It → Hp → Prop) → Prop
def PIE (X : Cx) (pins : List (Addr × Obj)) (σ : St) (tg : Expr) (R : It → Hp → Prop) (itv : Value) (s2 : Shared) : Prop :=
  ∃ (it : Addr) (fp : List Addr) (tn : Nat → Heap → Prop) (J : It) (H' : Hp), itv = .ref it ∧ Inv X pins σ H' s2 ∧ zy4 X.prog X.w X.K tg J fp it tn ∧ tn 0 s2.heap ∧ (∀ b ∈ fp, zpN X pins H' b) ∧ R J H'
def PI (X : Cx) (tg iter : Expr) (wi : TI) : Prop :=
  ∀ (pins : List (Addr × Obj)) (s : Shared) (σ : St) (H : Hp) (R : It → Hp → Prop), Inv X pins σ H s → wi σ H R →
    wpAny (model X.prog X.w) X.A (eval iter X.env) (fun v s1 => wpAny (model X.prog X.w) X.A (pyIter v) (PIE X pins σ tg R) X.xe s1) X.xe s
theorem zBm {M : Model} {A : Around} {E : Value → Shared → Prop} {s : Shared} {tg : Expr} {it : Addr} {u : Value} {o : Obj} {n : String} {vs : Array Value} {Q : Unit → Shared → Prop} (ho : s.heap.get? it = some o) (hc : o.cls = .type n) (hd : o.data = .fields vs)
    (hn : ["enumerate", "zip", "dict_itemiterator", "dict_reverseitemiterator", "odict_iterator", "itertools.zip_longest", "itertools.pairwise"].contains n = false) (hQ : Q () s) : wpAny M A (letOwnedTupleGo tg (.ref it) u) Q E s := by
  unfold letOwnedTupleGo
  cases tg <;> first
    | exact wpAny_pure hQ
    | (cases u <;> first
        | exact wpAny_pure hQ
        | (refine wpAny_bind (wpAny_load ho ?_)
           rw [hc, hd]
           show wpAny M A (if (["enumerate", "zip", "dict_itemiterator", "dict_reverseitemiterator", "odict_iterator", "itertools.zip_longest", "itertools.pairwise"].contains n && vs[0]? == some (rawInt _)) = true then _ else _) Q E s
           rw [if_neg (by intro h; rw [hn, Bool.false_and] at h; cases h)]
           exact wpAny_pure hQ))
def Itl (K : PySem.W.Frag) (a : Addr) : It :=
  ⟨fun i H => ∃ xs x, SqL K H a xs ∧ xs[i]? = some x, fun i H x H' => H' = H ∧ ∀ xs, SqL K H a xs → xs[i]? = some x, fun i H => ∃ xs, SqL K H a xs ∧ xs.length ≤ i⟩
def Itt (K : PySem.W.Frag) (a : Addr) : It :=
  ⟨fun i H => ∃ xs x, SqT K H a xs ∧ xs[i]? = some x, fun i H x H' => H' = H ∧ ∀ xs, SqT K H a xs → xs[i]? = some x, fun i H => ∃ xs, SqT K H a xs ∧ xs.length ≤ i⟩
def Itr (lo : Int) (n : Nat) : It := ⟨fun i _ => i < n, fun i H x H' => H' = H ∧ x = .int (lo + i), fun i _ => n ≤ i⟩
theorem zCw {P : Program} {w : World} {K : PySem.W.Frag} {tg : Expr} (a it : Addr) : zy4 P w K tg (Itl K a) [it] it (fun i h => h.IsListIter it a i) where
  mem := by simp
  obj := fun i h st b hb => by
    have e : b = it := by simpa using hb
    subst e
    obtain ⟨o, e, c, d⟩ := st
    exact ⟨o, e, fun v z => by rw [d] at z; cases z⟩
  keep := fun i h h' st k => st.at fun o e => k it (by simp) o e
  item := by
    intro X hP hw hK hc i pins s σ H E I hf st hg
    subst hP hw hK
    obtain ⟨xs, x, hq, hx⟩ := hg
    obtain ⟨its, rv, p, hz⟩ := I.list hq
    obtain ⟨u, hu, ru⟩ := rv.get hx
    obtain ⟨f0, f1, f2, f3, f4, f5⟩ := hf it (by simp)
    refine wpAny_pyNext_list_item st p.isList (x := u) (by simpa using hu) fun h' st' sb => ?_
    have I1 : Inv X pins σ H { s with heap := h' } := I.turned (t' := s.toks) (fun b o hb e => (sb.2 b hb).trans e) f0 f1 f3 f4 f5
    obtain ⟨o, e, c, d⟩ := id st'
    exact ⟨u, rfl, zBm (s := { s with heap := h' }) e c d (by decide) ⟨x, H, I1, ru, ⟨rfl, fun ys hy => by rw [I.list_inj hy hq]; exact hx⟩, st', fun b hb => (hf b hb).1⟩⟩
  done := by
    intro X hP hw hK hc i pins s σ H E I hf st hg
    subst hP hw hK
    obtain ⟨xs, hq, hx⟩ := hg
    obtain ⟨its, rv, p, hz⟩ := I.list hq
    obtain ⟨f0, f1, f2, f3, f4, f5⟩ := hf it (by simp)
    have hl := rv.length
    exact wpAny_pyNext_list_end (I.ok.hd hc) st p.isList (by simp; omega) fun h' eb => ⟨rfl, I.turned (t' := s.toks) (fun b o hb e => eb b o hb e) f0 f1 f3 f4 f5⟩
  self := fun _ _ _ _ _ st h => wpAny_pyIter_listiter st h
theorem zz4 {P : Program} {w : World} {K : PySem.W.Frag} {tg : Expr} (a it : Addr) : zy4 P w K tg (Itt K a) [it] it (fun i h => h.IsTupleIter it a i) where
  mem := by simp
  obj := fun i h st b hb => by
    have e : b = it := by simpa using hb
    subst e
    obtain ⟨o, e, c, d⟩ := st
    exact ⟨o, e, fun v z => by rw [d] at z; cases z⟩
  keep := fun i h h' st k => st.at fun o e => k it (by simp) o e
  item := by
    intro X hP hw hK hc i pins s σ H E I hf st hg
    subst hP hw hK
    obtain ⟨xs, x, hq, hx⟩ := hg
    obtain ⟨its, rv, p, hz⟩ := I.tuple hq
    obtain ⟨u, hu, ru⟩ := rv.get hx
    obtain ⟨f0, f1, f2, f3, f4, f5⟩ := hf it (by simp)
    refine wpAny_pyNext_tuple_item st (show s.heap.IsTuple a its.toArray from p) (x := u) (by simpa using hu) fun h' st' sb => ?_
    have I1 : Inv X pins σ H { s with heap := h' } := I.turned (t' := s.toks) (fun b o hb e => (sb.2 b hb).trans e) f0 f1 f3 f4 f5
    obtain ⟨o, e, c, d⟩ := id st'
    exact ⟨u, rfl, zBm (s := { s with heap := h' }) e c d (by decide) ⟨x, H, I1, ru, ⟨rfl, fun ys hy => by rw [I.tuple_inj hy hq]; exact hx⟩, st', fun b hb => (hf b hb).1⟩⟩
  done := by
    intro X hP hw hK hc i pins s σ H E I hf st hg
    subst hP hw hK
    obtain ⟨xs, hq, hx⟩ := hg
    obtain ⟨its, rv, p, hz⟩ := I.tuple hq
    obtain ⟨f0, f1, f2, f3, f4, f5⟩ := hf it (by simp)
    have hl := rv.length
    exact wpAny_pyNext_tuple_end (I.ok.hd hc) st (show s.heap.IsTuple a its.toArray from p) (by simp; omega) fun h' eb => ⟨rfl, I.turned (t' := s.toks) (fun b o hb e => eb b o hb e) f0 f1 f3 f4 f5⟩
  self := fun _ _ _ _ _ st h => wpAny_pyIter_tupleiter st h
theorem zAI {P : Program} {w : World} {K : PySem.W.Frag} {tg : Expr} (it : Addr) (lo : Int) (n : Nat) : zy4 P w K tg (Itr lo n) [it] it (fun i h => IsRangeIter h it (lo + (i : Nat) * 1) ((n : Int) - (i : Nat)) 1) where
  mem := by simp
  obj := fun i h st b hb => by
    have e : b = it := by simpa using hb
    subst e
    exact ⟨_, st, fun v z => by
      have z' : Data.fields _ = Data.cell v := z
      cases z'⟩
  keep := fun i h h' st k => k it (by simp) _ st
  item := by
    intro X hP hw hK hc i pins s σ H E I hf st hg
    subst hP hw hK
    obtain ⟨f0, f1, f2, f3, f4, f5⟩ := hf it (by simp)
    have W := Walks.range (prog := X.prog) (w := X.w) (I.ok.hd hc) it lo 1 n
    refine W.item i s _ _ hg st fun v h' tk hv st' kk => ?_
    obtain ⟨t, rfl⟩ := hv
    have I1 : Inv X pins σ H { s with heap := h', toks := tk } := I.turned (fun b o hb e => kk b o (by simpa using hb) e) f0 f1 f3 f4 f5
    refine ⟨_, rfl, zBm (s := { s with heap := h', toks := tk }) (n := "range_iterator") st' rfl rfl (by decide) ⟨.int (lo + i), H, I1, ⟨t, ?_⟩, ⟨rfl, rfl⟩, st', fun b hb => (hf b hb).1⟩⟩
    rw [Int.mul_one]
  done := by
    intro X hP hw hK hc i pins s σ H E I hf st hg
    subst hP hw hK
    obtain ⟨f0, f1, f2, f3, f4, f5⟩ := hf it (by simp)
    exact wpAny_pyNext_range_end (I.ok.hd hc) st (by have : n ≤ i := hg; omega) fun h' eb => ⟨rfl, I.turned (t' := s.toks) (fun b o hb e => eb b o hb e) f0 f1 f3 f4 f5⟩
  self := fun _ _ _ _ _ st h => wpAny_pyIter_rangeiter st h
end L2
namespace L2
open PySem PySem.Spec PyProof.Rows
section
variable {X : Cx} {tg : Expr}
def zFl (K : PySem.W.Frag) (tl : TE) : TI := fun σ H R => tl σ H fun x H1 => ∃ a, x = .ref a ∧ (∃ xs, SqL K H1 a xs) ∧ R (Itl K a) H1
def zF7 (K : PySem.W.Frag) (tl : TE) : TI := fun σ H R => tl σ H fun x H1 => ∃ a, x = .ref a ∧ (∃ xs, SqT K H1 a xs) ∧ R (Itt K a) H1
theorem zb4 {l : Expr} {tl : TE} (hl : PE X l tl) : PI X tg l (zFl X.K tl) := by
  intro pins s σ H R I h
  refine thn (hl pins s σ H _ I h) fun v s1 ⟨x, H1, I1, r1, q1⟩ => ?_
  obtain ⟨a, e, ⟨xs, hq⟩, q⟩ := q1
  subst e
  cases r1
  obtain ⟨its, rv, p, hz⟩ := I1.list hq
  refine wpAny_pyIter_list p.isList ?_
  refine ⟨s1.heap.objs.size, [s1.heap.objs.size], _, _, H1, rfl, I1.kept (t' := s1.toks) fun b o e => Heap.get?_push_of_some _ e, zCw a _, ⟨_, Heap.get?_push_size _ rfl, rfl, rfl⟩, fun b hb => ?_, q⟩
  have e : b = s1.heap.objs.size := by simpa using hb
  subst e
  exact I1.fpOk (Nat.le_refl _) (I1.hok.fresh (Nat.le_refl _))
theorem zER {l : Expr} {tl : TE} (hl : PE X l tl) : PI X tg l (zF7 X.K tl) := by
  intro pins s σ H R I h
  refine thn (hl pins s σ H _ I h) fun v s1 ⟨x, H1, I1, r1, q1⟩ => ?_
  obtain ⟨a, e, ⟨xs, hq⟩, q⟩ := q1
  subst e
  cases r1
  obtain ⟨its, rv, p, hz⟩ := I1.tuple hq
  refine wpAny_pyIter_tuple (show s1.heap.IsTuple a its.toArray from p) ?_
  refine ⟨s1.heap.objs.size, [s1.heap.objs.size], _, _, H1, rfl, I1.kept (t' := s1.toks) fun b o e => Heap.get?_push_of_some _ e, zz4 a _, ⟨_, Heap.get?_push_size _ rfl, rfl, rfl⟩, fun b hb => ?_, q⟩
  have e : b = s1.heap.objs.size := by simpa using hb
  subst e
  exact I1.fpOk (Nat.le_refl _) (I1.hok.fresh (Nat.le_refl _))
theorem zCX {pins : List (Addr × Obj)} {σ : St} {H : Hp} {s : Shared} {R : It → Hp → Prop} {E : Value → Shared → Prop} {lo hi : Int} {t u v : Tok} {tk : Nat} (I : Inv X pins σ H s) (h1 : -(2 ^ 62) ≤ lo) (h2 : lo < 2 ^ 62) (h3 : -(2 ^ 62) ≤ hi) (h4 : hi < 2 ^ 62)
    (q : R (Itr lo (hi - lo).toNat) H) : wpAny (model X.prog X.w) X.A (pyIter (.ref s.heap.objs.size)) (PIE X pins σ tg R) E { s with heap := s.heap.push { cls := .type "range", data := .fields #[.int lo t, .int hi u, .int 1 v] }, toks := tk } := by
  refine wpAny_pyIter_range (IsRange.new ..) (small_one h1 h2 h3 h4) ?_
  have I1 : Inv X pins σ H { s with heap := s.heap.push { cls := .type "range", data := .fields #[.int lo t, .int hi u, .int 1 v] }, toks := tk } := I.kept fun b o e => Heap.get?_push_of_some _ e
  refine ⟨(s.heap.push { cls := .type "range", data := .fields #[.int lo t, .int hi u, .int 1 v] }).objs.size, [(s.heap.push { cls := .type "range", data := .fields #[.int lo t, .int hi u, .int 1 v] }).objs.size], _, _, H, rfl,
    I1.kept (t' := tk) fun b o e => Heap.get?_push_of_some _ e, zAI _ lo (hi - lo).toNat, ?_, fun b hb => ?_, q⟩
  · have e1 : lo + ((0 : Nat) : Int) * 1 = lo := by simp
    have e2 : (((hi - lo).toNat : Nat) : Int) - ((0 : Nat) : Int) = Builtin.Range.rangeSize lo hi 1 := by rw [rangeSize_one]; split <;> omega
    show IsRangeIter _ _ (lo + ((0 : Nat) : Int) * 1) ((((hi - lo).toNat : Nat) : Int) - ((0 : Nat) : Int)) 1
    rw [e1, e2]
    exact Heap.get?_push_size _ rfl
  · have e : b = (s.heap.push { cls := .type "range", data := .fields #[.int lo t, .int hi u, .int 1 v] }).objs.size := by simpa using hb
    subst e
    exact I1.fpOk (Nat.le_refl _) (I1.hok.fresh (Nat.le_refl _))
def zFq (ta : TA) : TI := fun σ H R => ta σ H fun vs H1 => ∃ j : Int, vs = [.int j] ∧ -(2 ^ 62) ≤ j ∧ j < 2 ^ 62 ∧ R (Itr 0 j.toNat) H1
def zGX (ta : TA) : TI := fun σ H R => ta σ H fun vs H1 => ∃ i j : Int, vs = [.int i, .int j] ∧ (-(2 ^ 62) ≤ i ∧ i < 2 ^ 62 ∧ -(2 ^ 62) ≤ j ∧ j < 2 ^ 62) ∧ R (Itr i (j - i).toNat) H1
theorem zBF {a : Expr} {ta : TA} {p pos : Pos} (hg : Gl X "range") (hm : X.mg "range" = none) (ha : PA X [a] ta) (hs : starEach [a] X.env = [(false, eval a X.env)] := by rfl) : PI X tg (.Call (.Name "range" p) [a] [] pos) (zFq ta) := by
  intro pins s σ H R I h
  refine Call_ (zyz I hg hm boot_range (PyProof.Rows.callWith_type1 (thn (ha pos pins s σ H _ I h) fun us s1 ⟨vs, H1, I1, r1, q1⟩ => ?_) hs rfl))
  obtain ⟨j, e, q1, q2, q⟩ := q1
  subst e
  cases r1 with
  | cons r rr =>
    cases rr
    obtain ⟨t, rfl⟩ := r
    exact call_range_1 (zCX I1 (by omega) (by omega) q1 q2 (by simpa using q))
def zGh (wi : TI) (g : TG) (tb : TS) : TS := fun D σ H => wi σ H fun J H1 => ∃ W : Nat → Nat → St → Hp → Prop, (∃ m, W 0 m σ H1) ∧ ∀ i m σ H, W i m σ H →
  (J.stop i H ∧ D.nx σ H) ∨ (J.go i H ∧ ∃ N : St → Hp → Prop, (∀ σ' H', N σ' H' → ∃ m', m' < m ∧ W (i + 1) m' σ' H') ∧ ∀ x H', J.yld i H x H' → g x σ H' fun σ2 H2 => tb { D with nx := N, ct := N, bk := D.nx } σ2 H2)
def zsb (fp : List Addr) (h : Heap) : List (Addr × Obj) := fp.filterMap fun b => (h.get? b).map fun o => (b, o)
theorem zlj {fp : List Addr} {h : Heap} {b : Addr} {o : Obj} (hb : b ∈ fp) (e : h.get? b = some o) : (b, o) ∈ zsb fp h := List.mem_filterMap.mpr ⟨b, hb, by rw [e]; rfl⟩
theorem zBL {fp : List Addr} {h : Heap} {p : Addr × Obj} (hp : p ∈ zsb fp h) : p.1 ∈ fp ∧ h.get? p.1 = some p.2 := by
  obtain ⟨b, hb, e⟩ := List.mem_filterMap.mp hp
  cases q : h.get? b with
  | none => rw [q] at e; cases e
  | some o =>
    rw [q] at e
    have e' : (b, o) = p := Option.some.inj e
    subst e'
    exact ⟨hb, q⟩
theorem Inv.pinned {pins : List (Addr × Obj)} {σ : St} {H : Hp} {s : Shared} {fp : List Addr} (I : Inv X pins σ H s) (hf : ∀ b ∈ fp, zpN X pins H b) (ho : ∀ b ∈ fp, ∃ o, s.heap.get? b = some o ∧ ∀ v, o.data ≠ .cell v) : Inv X (pins ++ zsb fp s.heap) σ H s :=
  I.pins_of fun p hp => (List.mem_append.mp hp).elim (fun z => I.pin p (List.mem_append_right _ z)) fun z => by
    obtain ⟨hb, e⟩ := zBL z
    obtain ⟨f0, f1, f2, _⟩ := hf p.1 hb
    obtain ⟨o, e', d⟩ := ho p.1 hb
    rw [e] at e'; cases e'
    exact ⟨e, f0, f1, f2, d⟩
theorem Inv.unpinned {pins pl : List (Addr × Obj)} {σ : St} {H : Hp} {s : Shared} (I : Inv X (pins ++ pl) σ H s) : Inv X pins σ H s := I.pins_of fun p hp => I.pin p (List.mem_append_right _ (List.mem_append_left _ hp))
theorem zpI {iter : Expr} {body : List Stmt} {wi : TI} {g : TG} {tb : TS} {pos : Pos} (hp : PassesOwn (model X.prog X.w) X.A X.env X.xe) (hc : X.calm = true) (hi : PI X tg iter wi) (hg : PG X tg g) (hb : PSs X body tb)
    (hs : ∀ x, foldedSetIterable iter X.env x = pure x := by intro _; rfl) : PS X (.For tg iter body [] pos) (zGh wi g tb) := by
  intro pins s σ H D I h
  refine wpAny_For (thn (hi pins s σ H _ I h) fun v s1 h1 => thn h1 fun itv s2 h2 => ?_) hs
  obtain ⟨it, fp, tn, J, H2, e, I2, T, st2, f2, W, ⟨m0, w0⟩, turn⟩ := h2
  subst e
  have stat : ∀ {H' : Hp}, (∀ b ∈ fp, H' b = none) → ∀ b ∈ fp, zpN X pins H' b := fun hn b hb => ⟨hn b hb, (f2 b hb).2⟩
  refine codeAny_forLoop_any (fun n s' => ∃ i σ' H', Inv X pins σ' H' s' ∧ tn i s'.heap ∧ (∀ b ∈ fp, H' b = none) ∧ W i n σ' H') ?_ m0 ⟨0, σ, H2, I2, st2, fun b hb => (f2 b hb).1, w0⟩
  rintro n s3 ⟨i, σ3, H3, I3, st3, fr3, w3⟩
  rcases turn i n σ3 H3 w3 with ⟨stop, qn⟩ | ⟨go, N, hN, step⟩
  · refine wpAny_passesOwn hp (thn (T.done X rfl rfl rfl hc i pins s3 σ3 H3 X.xe I3 (stat fr3) st3 stop) fun r s4 ⟨hr, I4⟩ => ?_)
    subst hr
    exact wpAny_execs_nil ⟨σ3, H3, I4, qn⟩
  · refine wpAny_passesOwn hp (thn (T.item X rfl rfl rfl hc i pins s3 σ3 H3 X.xe I3 (stat fr3) st3 go) fun r s4 ⟨u, hr, h4⟩ => ?_)
    subst hr
    refine wpAny_passesOwn hp (thn h4 fun _ s5 ⟨x, H5, I5, r5, y5, st5, fr5⟩ => ?_)
    have I5' := I5.pinned (stat fr5) (T.obj _ _ st5)
    refine wpAny_passesOwn hp (thn (hg _ s5 σ3 H5 x u _ I5' r5 (step x H5 y5)) fun _ s6 ⟨σ6, H6, I6, q6⟩ => ?_)
    refine wpAny_passesOwn hp (thn (hb _ s6 σ6 H6 _ I6 q6) fun f s7 q7 => ?_)
    have again : ∀ {σ7 : St} {H7 : Hp}, Inv X (pins ++ zsb fp s5.heap) σ7 H7 s7 → N σ7 H7 → ∃ m, m < n ∧ ∃ i σ' H', Inv X pins σ' H' s7 ∧ tn i s7.heap ∧ (∀ b ∈ fp, H' b = none) ∧ W i m σ' H' := fun {σ7 H7} I7 n7 => by
      obtain ⟨m', hm, w7⟩ := hN σ7 H7 n7
      refine ⟨m', hm, i + 1, σ7, H7, I7.unpinned, T.keep _ _ _ st5 fun b hb o e => (I7.pin (b, o) (List.mem_append_right _ (List.mem_append_right _ (zlj hb e)))).1, fun b hb => ?_, w7⟩
      obtain ⟨o, e, d⟩ := T.obj _ _ st5 b hb
      exact (I7.pin (b, o) (List.mem_append_right _ (List.mem_append_right _ (zlj hb e)))).2.1
    cases f with
    | next => obtain ⟨σ7, H7, I7, n7⟩ := q7; exact again I7 n7
    | cont => obtain ⟨σ7, H7, I7, n7⟩ := q7; exact again I7 n7
    | brk => obtain ⟨σ7, H7, I7, q7⟩ := q7; exact ⟨σ7, H7, I7.unpinned, q7⟩
    | ret v => obtain ⟨x7, σ7, H7, I7, r7, q7⟩ := q7; exact ⟨x7, σ7, H7, I7.unpinned, r7, q7⟩
end
theorem zni {K : PySem.W.Frag} {a : Addr} {xs : List V} {g : TG} {tb : TS} {D : ztW} {σ : St} {H : Hp} (Pv : Nat → St → Hp → Prop) (h0 : Pv 0 σ H) (hl : ∀ i σ H, i ≤ xs.length → Pv i σ H → SqL K H a xs)
    (hs : ∀ i x σ H, xs[i]? = some x → Pv i σ H → g x σ H fun σ2 H2 => tb { D with nx := Pv (i + 1), ct := Pv (i + 1), bk := D.nx } σ2 H2) (hd : ∀ σ H, Pv xs.length σ H → D.nx σ H) :
    ∃ W : Nat → Nat → St → Hp → Prop, (∃ m, W 0 m σ H) ∧ ∀ i m σ H, W i m σ H →
      ((Itl K a).stop i H ∧ D.nx σ H) ∨ ((Itl K a).go i H ∧ ∃ N : St → Hp → Prop, (∀ σ' H', N σ' H' → ∃ m', m' < m ∧ W (i + 1) m' σ' H') ∧ ∀ x H', (Itl K a).yld i H x H' → g x σ H' fun σ2 H2 => tb { D with nx := N, ct := N, bk := D.nx } σ2 H2) := by
  refine ⟨fun i m σ H => m = xs.length - i ∧ i ≤ xs.length ∧ Pv i σ H, ⟨xs.length, by simp, Nat.zero_le _, h0⟩, ?_⟩
  rintro i m σ H ⟨rfl, hi, p⟩
  have q := hl i σ H hi p
  by_cases hlt : i < xs.length
  · refine .inr ⟨⟨xs, xs[i], q, by simp [hlt]⟩, Pv (i + 1), fun σ' H' p' => ⟨xs.length - (i + 1), by omega, rfl, hlt, p'⟩, fun x H' y => ?_⟩
    obtain ⟨e, y⟩ := y
    subst e
    exact hs i x σ _ (y xs q) p
  · have e : i = xs.length := by omega
    subst e
    exact .inl ⟨⟨xs, q, Nat.le_refl _⟩, hd σ H p⟩
end L2
namespace L2
open PySem PySem.Spec PyProof.Rows
abbrev R2 := V → V → Hp → VK → Prop
def OpR (X : Cx) (f : Value → Value → Sem Value) (r : R2) : Prop :=
  ∀ (pins : List (Addr × Obj)) (s : Shared) (σ : St) (H : Hp) (x y : V) (v u : Value) (Q : VK), Inv X pins σ H s → RelV x v → RelV y u → r x y H Q →
    wpAny (model X.prog X.w) X.A (f v u) (EP X pins σ Q) X.xe s
def UnR (X : Cx) (f : Value → Sem Value) (r : V → Hp → VK → Prop) : Prop :=
  ∀ (pins : List (Addr × Obj)) (s : Shared) (σ : St) (H : Hp) (x : V) (v : Value) (Q : VK), Inv X pins σ H s → RelV x v → r x H Q →
    wpAny (model X.prog X.w) X.A (f v) (EP X pins σ Q) X.xe s
def zsZ (X : Cx) (f : Value) (r : List V → Hp → VK → Prop) : Prop :=
  ∀ (pins : List (Addr × Obj)) (s : Shared) (σ : St) (H : Hp) (xs : List V) (us : List Value) (Q : VK), Inv X pins σ H s → Vals xs us → r xs H Q →
    wpAny (model X.prog X.w) X.A (call f us) (EP X pins σ Q) X.xe s
def zHd (X : Cx) (r : V → Hp → (Bool → Hp → Prop) → Prop) : Prop :=
  ∀ (pins : List (Addr × Obj)) (s : Shared) (σ : St) (H : Hp) (x : V) (v : Value) (Q : Bool → Hp → Prop), Inv X pins σ H s → RelV x v → r x H Q →
    wpAny (model X.prog X.w) X.A (truthy v) (TP X pins σ Q) X.xe s
def tOp (r : R2) (ta tb : TE) : TE := fun σ H Q => ta σ H fun x H1 => tb σ H1 fun y H2 => r x y H2 Q
def tUn (r : V → Hp → VK → Prop) (ta : TE) : TE := fun σ H Q => ta σ H fun x H1 => r x H1 Q
def rI (C : Int → Int → Prop) (g : Int → Int → V) : R2 := fun x y H Q => ∃ i j, x = .int i ∧ y = .int j ∧ C i j ∧ Q (g i j) H
def rI0 (g : Int → Int → V) : R2 := fun x y H Q => ∃ i j, x = .int i ∧ y = .int j ∧ Q (g i j) H
def rU (g : Int → V) : V → Hp → VK → Prop := fun x H Q => ∃ i, x = .int i ∧ Q (g i) H
section
variable {X : Cx} {a b c : Expr} {ta tb tc : TE} {pos : Pos}
theorem zEF (ha : PE X a ta) (hb : PE X b tb) {pins : List (Addr × Obj)} {s : Shared} {σ : St} {H : Hp} {R : V → V → Hp → Prop} (I : Inv X pins σ H s)
    (h : ta σ H fun x H1 => tb σ H1 fun y H2 => R x y H2) {Q : Value → Shared → Prop} {f : Value → Value → Sem Value}
    (hf : ∀ v u s2 x y H2, Inv X pins σ H2 s2 → RelV x v → RelV y u → R x y H2 → wpAny (model X.prog X.w) X.A (f v u) Q X.xe s2) :
    wpAny (model X.prog X.w) X.A (eval a X.env) (fun v s₁ => wpAny (model X.prog X.w) X.A (eval b X.env) (fun u s₂ => wpAny (model X.prog X.w) X.A (f v u) Q X.xe s₂) X.xe s₁) X.xe s := by
  refine thn (ha pins s σ H _ I h) fun v s1 ⟨x, H1, I1, r1, q1⟩ => ?_
  refine thn (hb pins s1 σ H1 _ I1 q1) fun u s2 ⟨y, H2, I2, r2, q2⟩ => ?_
  exact hf v u s2 x y H2 I2 r1 r2 q2
theorem zgI {op : Operator} {r : R2} (ho : OpR X (binaryOp op) r) (ha : PE X a ta) (hb : PE X b tb) : PE X (.BinOp a op b pos) (tOp r ta tb) := by
  intro pins s σ H Q I h
  exact wpAny_BinOp (zEF ha hb I h fun v u s2 x y H2 I2 rx ry q => ho pins s2 σ H2 x y v u Q I2 rx ry q)
theorem zo2 {op : UnaryOp} {r : V → Hp → VK → Prop} (ho : UnR X (unaryOp op) r) (ha : PE X a ta) : PE X (.UnaryOp op a pos) (tUn r ta) := by
  intro pins s σ H Q I h
  exact UnaryOp_ (thn (ha pins s σ H _ I h) fun v s1 ⟨x, H1, I1, r1, q1⟩ => ho pins s1 σ H1 x v Q I1 r1 q1)
theorem opI {f : Value → Value → Sem Value} {C : Int → Int → Prop} {g : Int → Int → Int}
    (rule : ∀ (i j : Int) (t u : Tok) (s : Shared) (Q : Value → Shared → Prop) (E : Value → Shared → Prop), C i j → Q (.int (g i j) s.toks) { s with toks := s.toks + 1 } → wpAny (model X.prog X.w) X.A (f (.int i t) (.int j u)) Q E s) :
    OpR X f (rI C fun i j => .int (g i j)) := by
  intro pins s σ H x y v u Q I rx ry h
  obtain ⟨i, j, rfl, rfl, hc, q⟩ := h
  obtain ⟨t, rfl⟩ := rx
  obtain ⟨t', rfl⟩ := ry
  exact rule i j t t' s _ _ hc ⟨.int (g i j), H, I.tok _, ⟨_, rfl⟩, q⟩
theorem zFz {f : Value → Value → Sem Value} {g : Int → Int → Int}
    (rule : ∀ (i j : Int) (t u : Tok) (s : Shared) (Q : Value → Shared → Prop) (E : Value → Shared → Prop), Q (.int (g i j) s.toks) { s with toks := s.toks + 1 } → wpAny (model X.prog X.w) X.A (f (.int i t) (.int j u)) Q E s) :
    OpR X f (rI0 fun i j => .int (g i j)) := by
  intro pins s σ H x y v u Q I rx ry h
  obtain ⟨i, j, rfl, rfl, q⟩ := h
  obtain ⟨t, rfl⟩ := rx
  obtain ⟨t', rfl⟩ := ry
  exact rule i j t t' s _ _ ⟨.int (g i j), H, I.tok _, ⟨_, rfl⟩, q⟩
theorem zDY {f : Value → Value → Sem Value} {g : Int → Int → Bool}
    (rule : ∀ (i j : Int) (t u : Tok) (s : Shared) (Q : Value → Shared → Prop) (E : Value → Shared → Prop), Q (.bool (g i j)) s → wpAny (model X.prog X.w) X.A (f (.int i t) (.int j u)) Q E s) :
    OpR X f (rI0 fun i j => .bl (g i j)) := by
  intro pins s σ H x y v u Q I rx ry h
  obtain ⟨i, j, rfl, rfl, q⟩ := h
  obtain ⟨t, rfl⟩ := rx
  obtain ⟨t', rfl⟩ := ry
  exact rule i j t t' s _ _ ⟨.bl (g i j), H, I, rfl, q⟩
def zHu (i j : Int) : Prop := 0 < j ∧ j < 1073741824
def zGZ (i j : Int) : Prop := j ≠ 0 ∧ j.natAbs < 1073741824
def zG5 (i j : Int) : Prop := 0 ≤ j ∧ j ≤ 1000000 ∧ i.natAbs < 2 ^ 64
def CMul (i j : Int) : Prop := (-(2 ^ 64) < i ∧ i < 2 ^ 64) ∨ (-(2 ^ 64) < j ∧ j < 2 ^ 64)
theorem CMul.ok {i j : Int} (h : CMul i j) : IntMulOk i j := by
  rcases h with ⟨h1, h2⟩ | ⟨h1, h2⟩
  · exact .of_left (intBits_le_64 h1 h2)
  · exact .of_right (intBits_le_64 h1 h2)
theorem zlB : OpR X (binaryOp .Add) (rI0 fun i j => .int (i + j)) := zFz fun _ _ _ _ _ _ _ q => add_int q
theorem zxb : OpR X (binaryOp .Sub) (rI0 fun i j => .int (i - j)) := zFz fun _ _ _ _ _ _ _ q => sub_int q
theorem zEP : OpR X (binaryOp .Mult) (rI CMul fun i j => .int (i * j)) := opI fun _ _ _ _ _ _ _ hc q => mul_int q hc.ok
theorem unI {f : Value → Sem Value} {g : Int → Int}
    (rule : ∀ (i : Int) (t : Tok) (s : Shared) (Q : Value → Shared → Prop) (E : Value → Shared → Prop), Q (.int (g i) s.toks) { s with toks := s.toks + 1 } → wpAny (model X.prog X.w) X.A (f (.int i t)) Q E s) :
    UnR X f (rU fun i => .int (g i)) := by
  intro pins s σ H x v Q I rx h
  obtain ⟨i, rfl, q⟩ := h
  obtain ⟨t, rfl⟩ := rx
  exact rule i t s _ _ ⟨.int (g i), H, I.tok _, ⟨_, rfl⟩, q⟩
theorem zjx : UnR X (unaryOp .USub) (rU fun i => .int (-i)) := unI fun _ _ _ _ _ q => neg_int q
end
def zFi : V → V → Bool
  | .non, .non => true | .non, .int _ => true | .int _, .non => true | .non, .bl _ => true | .bl _, .non => true | .non, .str _ => true | .str _, .non => true
  | .int _, .int _ => true | .bl _, .bl _ => true | .str _, .str _ => true | .byt _, .byt _ => true
  | .int _, .str _ => true | .str _, .int _ => true | .bl _, .str _ => true | .str _, .bl _ => true
  | _, _ => false
def rEq : R2 := fun x y H Q => zFi x y = true ∧ Q (.bl (decide (x = y))) H
def rNe : R2 := fun x y H Q => zFi x y = true ∧ Q (.bl (!decide (x = y))) H
theorem zBC {i j : Int} : decide (V.int i = V.int j) = (i == j) := by
  rw [Bool.eq_iff_iff]
  simp
theorem zCM {i j : Bool} : decide (V.bl i = V.bl j) = (i == j) := by
  rw [Bool.eq_iff_iff]
  simp
theorem zBq {i j : Str} : decide (V.str i = V.str j) = (i == j) := by
  rw [Bool.eq_iff_iff]
  simp
theorem zBA {i j : Array UInt8} : decide (V.byt i = V.byt j) = (i.toList == j.toList) := by
  rw [Bool.eq_iff_iff]
  cases i
  cases j
  simp
section
variable {X : Cx} {a b c : Expr} {ta tb tc : TE} {pos : Pos}
theorem Zq {pins : List (Addr × Obj)} {σ : St} {H : Hp} {s : Shared} {Q : VK} {k k' : Bool} (I : Inv X pins σ H s) (q : Q (.bl k) H) (e : k = k') : EP X pins σ Q (.bool k') s := by
  subst e
  exact ⟨.bl k, H, I, rfl, q⟩
theorem zoP : OpR X (compareOp .Eq) rEq := by
  intro pins s σ H x y v u Q I rx ry h
  obtain ⟨hs, q⟩ := h
  cases x with
  | non =>
    cases rx
    cases y with
    | non => cases ry; exact PySem.EqNone.eq_none_none (Zq I q (by simp))
    | bl j => cases ry; exact PySem.EqNone.eq_none_bool (Zq I q (by simp))
    | int j => obtain ⟨t', rfl⟩ := ry; exact PySem.EqNone.eq_none_int (Zq I q (by simp))
    | str j => obtain ⟨t', rfl⟩ := ry; exact PySem.EqNone.eq_none_str (Zq I q (by simp))
    | _ => exact absurd (show false = true from hs) Bool.false_ne_true
  | bl i =>
    cases rx
    cases y with
    | non => cases ry; exact PySem.EqNone.eq_bool_none (Zq I q (by simp))
    | bl j => cases ry; exact eq_bool (Zq I q zCM)
    | str j => obtain ⟨t', rfl⟩ := ry; exact PySem.EqMixed.eq_bool_str (Zq I q (by simp))
    | _ => exact absurd (show false = true from hs) Bool.false_ne_true
  | int i =>
    obtain ⟨t, rfl⟩ := rx
    cases y with
    | non => cases ry; exact PySem.EqNone.eq_int_none (Zq I q (by simp))
    | int j => obtain ⟨t', rfl⟩ := ry; exact eq_int (Zq I q zBC)
    | str j => obtain ⟨t', rfl⟩ := ry; exact PySem.EqMixed.eq_int_str (Zq I q (by simp))
    | _ => exact absurd (show false = true from hs) Bool.false_ne_true
  | str i =>
    obtain ⟨t, rfl⟩ := rx
    cases y with
    | non => cases ry; exact PySem.EqNone.eq_str_none (Zq I q (by simp))
    | bl j => cases ry; exact PySem.EqMixed.eq_str_bool (Zq I q (by simp))
    | int j => obtain ⟨t', rfl⟩ := ry; exact PySem.EqMixed.eq_str_int (Zq I q (by simp))
    | str j => obtain ⟨t', rfl⟩ := ry; exact eq_str (Zq I q zBq)
    | _ => exact absurd (show false = true from hs) Bool.false_ne_true
  | byt i =>
    obtain ⟨t, rfl⟩ := rx
    cases y with
    | byt j => obtain ⟨t', rfl⟩ := ry; exact PySem.W.eq_bytes (Zq I q zBA)
    | _ => exact absurd (show false = true from hs) Bool.false_ne_true
  | _ => cases y <;> exact absurd (show false = true from hs) Bool.false_ne_true
theorem zA6 : OpR X (compareOp .NotEq) rNe := by
  intro pins s σ H x y v u Q I rx ry h
  obtain ⟨hs, q⟩ := h
  cases x with
  | non =>
    cases rx
    cases y with
    | non => cases ry; exact PySem.EqNone.ne_none_none (Zq I q (by simp))
    | bl j => cases ry; exact PySem.EqNone.ne_none_bool (Zq I q (by simp))
    | int j => obtain ⟨t', rfl⟩ := ry; exact PySem.EqNone.ne_none_int (Zq I q (by simp))
    | str j => obtain ⟨t', rfl⟩ := ry; exact PySem.EqNone.ne_none_str (Zq I q (by simp))
    | _ => exact absurd (show false = true from hs) Bool.false_ne_true
  | bl i =>
    cases rx
    cases y with
    | non => cases ry; exact PySem.EqNone.ne_bool_none (Zq I q (by simp))
    | bl j => cases ry; exact ne_bool (Zq I q (congrArg not zCM))
    | str j => obtain ⟨t', rfl⟩ := ry; exact PySem.EqMixed.ne_bool_str (Zq I q (by simp))
    | _ => exact absurd (show false = true from hs) Bool.false_ne_true
  | int i =>
    obtain ⟨t, rfl⟩ := rx
    cases y with
    | non => cases ry; exact PySem.EqNone.ne_int_none (Zq I q (by simp))
    | int j => obtain ⟨t', rfl⟩ := ry; exact ne_int (Zq I q (congrArg not zBC))
    | str j => obtain ⟨t', rfl⟩ := ry; exact PySem.EqMixed.ne_int_str (Zq I q (by simp))
    | _ => exact absurd (show false = true from hs) Bool.false_ne_true
  | str i =>
    obtain ⟨t, rfl⟩ := rx
    cases y with
    | non => cases ry; exact PySem.EqNone.ne_str_none (Zq I q (by simp))
    | bl j => cases ry; exact PySem.EqMixed.ne_str_bool (Zq I q (by simp))
    | int j => obtain ⟨t', rfl⟩ := ry; exact PySem.EqMixed.ne_str_int (Zq I q (by simp))
    | str j => obtain ⟨t', rfl⟩ := ry; exact ne_str (Zq I q (congrArg not zBq))
    | _ => exact absurd (show false = true from hs) Bool.false_ne_true
  | byt i =>
    obtain ⟨t, rfl⟩ := rx
    cases y with
    | byt j => obtain ⟨t', rfl⟩ := ry; exact PySem.W.ne_bytes (Zq I q (congrArg not zBA))
    | _ => exact absurd (show false = true from hs) Bool.false_ne_true
  | _ => cases y <;> exact absurd (show false = true from hs) Bool.false_ne_true
theorem zEs : OpR X (compareOp .Lt) (rI0 fun i j => .bl (decide (i < j))) := zDY fun _ _ _ _ _ _ _ q => lt_int q
theorem zhm : OpR X (compareOp .LtE) (rI0 fun i j => .bl (decide (i ≤ j))) := zDY fun _ _ _ _ _ _ _ q => le_int q
theorem zyS : OpR X (compareOp .Gt) (rI0 fun i j => .bl (decide (j < i))) := zDY fun _ _ _ _ _ _ _ q => gt_int q
theorem zEp : OpR X (compareOp .GtE) (rI0 fun i j => .bl (decide (j ≤ i))) := zDY fun _ _ _ _ _ _ _ q => ge_int q
def zGR : HO → Bool
  | .lst _ => true
  | .ins _ _ _ => true
  | _ => false
theorem yp (b : Expr) {op : CmpOp} (h : op ≠ .In := by decide) (h2 : op ≠ .NotIn := by decide) : behindInMarks op b = false := by
  have e1 : (op == CmpOp.In) = false := by cases op <;> first | rfl | exact absurd rfl h
  have e2 : (op == CmpOp.NotIn) = false := by cases op <;> first | rfl | exact absurd rfl h2
  cases b <;> simp [behindInMarks, e1, e2]
theorem zcK {op : CmpOp} {r : R2} (ho : OpR X (compareOp op) r) (ha : PE X a ta) (hb : PE X b tb) (hm : behindInMarks op b = false) : PE X (.Compare a [op] [b] pos) (tOp r ta tb) := by
  intro pins s σ H Q I h
  exact wpAny_Compare1 (zEF ha hb I h fun v u s2 x y H2 I2 rx ry q => ho pins s2 σ H2 x y v u Q I2 rx ry q) hm
def zBb (t : TE) : TT := fun σ H Q => t σ H fun x H' => ∃ k, x = .bl k ∧ Q k H'
theorem yl {op : CmpOp} {r : R2} (ho : OpR X (compareOp op) r) (ha : PE X a ta) (hb : PE X b tb) (hm : behindInMarks op b = false) : PT X (.Compare a [op] [b] pos) (zBb (tOp r ta tb)) := by
  intro pins s σ H Q I h
  refine wpAny_isTrue_Compare1 (thn (ha pins s σ H _ I h) fun v s1 ⟨x, H1, I1, r1, q1⟩ => thn (hb pins s1 σ H1 _ I1 q1) fun u s2 ⟨y, H2, I2, r2, q2⟩ =>
    thn (ho pins s2 σ H2 x y v u _ I2 r1 r2 q2) fun c s3 ⟨z, H3, I3, r3, k, e, q3⟩ => ?_) hm
  subst e
  cases r3
  exact wpAny_truthy_bool ⟨H3, I3, q3⟩
def zuM (r r' : R2) (ta tb tc : TE) : TE := fun σ H Q => ta σ H fun x H1 => tb σ H1 fun y H2 => r x y H2 fun z H3 => ∃ k, z = .bl k ∧
  (if k = true then tc σ H3 fun w' H4 => r' y w' H4 Q else Q (.bl false) H3)
theorem zqB {op op' : CmpOp} {r r' : R2} (ho : OpR X (compareOp op) r) (ho' : OpR X (compareOp op') r') (ha : PE X a ta) (hb : PE X b tb) (hc : PE X c tc)
    (hm : lastMarks [op, op'] [b, c] = false := by with_unfolding_all rfl) : PE X (.Compare a [op, op'] [b, c] pos) (zuM r r' ta tb tc) := by
  intro pins s σ H Q I h
  refine Compare_chain (thn (ha pins s σ H _ I h) fun v s1 ⟨x, H1, I1, r1, q1⟩ => chain_link (thn (hb pins s1 σ H1 _ I1 q1) fun u s2 ⟨y, H2, I2, r2, q2⟩ =>
    thn (ho pins s2 σ H2 x y v u _ I2 r1 r2 q2) fun d s3 ⟨z, H3, I3, r3, k, e, q3⟩ => ?_)) hm
  subst e
  cases r3
  refine wpAny_truthy_bool ?_
  cases k with
  | false => exact ite_ff ⟨.bl false, H3, I3, rfl, q3⟩
  | true => exact ite_tt (chain_last (thn (hc pins s3 σ H3 _ I3 q3) fun w' s4 ⟨z', H4, I4, r4, q4⟩ => ho' pins s4 σ H4 y z' u w' Q I4 r2 r4 q4))
theorem zzm {op op' : CmpOp} {r r' : R2} (ho : OpR X (compareOp op) r) (ho' : OpR X (compareOp op') r') (ha : PE X a ta) (hb : PE X b tb) (hc : PE X c tc)
    (hm : lastMarks [op, op'] [b, c] = false := by with_unfolding_all rfl) : PT X (.Compare a [op, op'] [b, c] pos) (zBb (zuM r r' ta tb tc)) := by
  intro pins s σ H Q I h
  refine isTrue_chain (thn (ha pins s σ H _ I h) fun v s1 ⟨x, H1, I1, r1, q1⟩ => test_link (thn (hb pins s1 σ H1 _ I1 q1) fun u s2 ⟨y, H2, I2, r2, q2⟩ =>
    thn (ho pins s2 σ H2 x y v u _ I2 r1 r2 q2) fun d s3 ⟨z, H3, I3, r3, k, e, q3⟩ => ?_)) hm
  subst e
  cases r3
  refine wpAny_truthy_bool ?_
  cases k with
  | false =>
    obtain ⟨k', e', q'⟩ := q3
    cases e'
    exact ite_ff ⟨H3, I3, q'⟩
  | true =>
    refine ite_tt (test_last (thn (hc pins s3 σ H3 _ I3 q3) fun w' s4 ⟨z', H4, I4, r4, q4⟩ => thn (ho' pins s4 σ H4 y z' u w' _ I4 r2 r4 q4) fun d' s5 ⟨z2, H5, I5, r5, k2, e2, q5⟩ => ?_))
    subst e2
    cases r5
    exact wpAny_truthy_bool ⟨H5, I5, q5⟩
def zHz (K : PySem.W.Frag) (x : V) (H : Hp) (k : Bool) : Prop :=
  match x with
  | .non => k = false
  | .bl b => k = b
  | .int i => k = (i != 0)
  | .str y => y.length ≤ sizeLine ∧ k = ((y.length : Int) != 0)
  | .byt y => y.size ≤ sizeLine ∧ k = ((y.size : Int) != 0)
  | .ref p => (∃ xs, SqL K H p xs ∧ k = !xs.isEmpty) ∨ (∃ xs, SqT K H p xs ∧ k = !xs.isEmpty) ∨ ∃ kvs, H p = some (.dK kvs) ∧ k = !kvs.isEmpty
  | _ => False
theorem zw8 : (sizeLine : Nat) < 2 ^ 63 := by rw [sizeLine_eq]; decide
def zFy (b : Expr) : Prop := ∀ o i, subscripted b false o i = operate [o, i] (getItem o i)
theorem zDd {x : V} {us : List Value} (r : Vals [x] us) : ∃ u, us = [u] ∧ RelV x u := by
  cases r with
  | cons r1 r2 => cases r2; exact ⟨_, rfl, r1⟩
theorem zDv : zsZ X (.builtin "ord") (fun xs H Q => ∃ x, xs = [.str x] ∧ x.length = 1 ∧ Q (.int (x.cps.getD 0 0 : Nat)) H) := by
  intro pins s σ H xs us Q I r h
  obtain ⟨x, rfl, hz, q⟩ := h
  obtain ⟨u, rfl, t, rfl⟩ := zDd r
  exact ord_of_one hz ⟨.int _, H, I.tok _, ⟨_, rfl⟩, q⟩
def zHp (K : PySem.W.Frag) (x : V) (H : Hp) (n : Nat) : Prop :=
  match x with
  | .str y => y.length ≤ sizeLine ∧ n = y.length
  | .byt y => y.size ≤ sizeLine ∧ n = y.size
  | .ref p => (∃ xs, SqL K H p xs ∧ n = xs.length) ∨ ∃ xs, SqT K H p xs ∧ n = xs.length
  | _ => False
end
end L2
namespace L2
open PySem PySem.Spec PyProof.Rows
structure ObjM (h : Heap) (x dx C : Addr) (mA : Str → Option Value) : Prop where
  obj : h.get? x = some (PySem.W.instObj C dx)
  ns : h.Ns1 dx mA
  ne : dx ≠ x
theorem zsF {h : Heap} {dx : Addr} {mA : Str → Option Value} (n : h.Ns1 dx mA) : ∃ od, h.get? dx = some od ∧ ∀ name, PySem.W.lookIn name od = some (mA name) := by
  obtain ⟨o, es, ep, ho, hd, hk, _, hm⟩ := n
  refine ⟨o, ho, fun name => ?_⟩
  have e := hm name
  unfold nsFind findBy at e
  rw [← Array.find?_toList] at e
  unfold PySem.W.lookIn
  rw [hd]
  dsimp only
  split
  · rename_i y q
    rw [q] at e
    exact congrArg some e
  · rename_i q
    rw [q] at e
    have a : es.toList.any (·.refKey) = false := by
      rw [List.any_eq_false]
      intro y hy
      obtain ⟨z, t, hkey⟩ := hk y (Array.mem_toList_iff.mp hy)
      simp [DictEntry.refKey, hkey]
    have a' : ¬ es.toList.any (·.refKey) = true := by rw [a]; exact Bool.false_ne_true
    rw [if_neg a']
    exact congrArg some e
theorem ObjM.look {h : Heap} {x dx C : Addr} {mA : Str → Option Value} (I : ObjM h x dx C mA) : ∃ od, PySem.W.InstAt h x (PySem.W.instObj C dx) C (some od) ∧ ∀ name, PySem.W.lookIn name od = some (mA name) :=
  let ⟨od, ho, hl⟩ := zsF I.ns
  ⟨od, ⟨I.obj, rfl, rfl, ho⟩, hl⟩
section
variable {prog : Program} {w : World} {A : Around} {E : Value → Shared → Prop} {s : Shared} {K : PySem.W.Frag} {x dx C f : Addr} {mA : Str → Option Value} {name : Str} {v : Value}
theorem zDU {expr : Bool} {Q : Value → Shared → Prop} (X : K.In s.heap) (I : ObjM s.heap x dx C mA) (hg : PySem.W.plainGet K C name = true) (hh : PySem.W.hasDictIn K C = true)
    (ha : PySem.W.findIn K (.ref C) name = some none) (hv : mA name = some v) (hv' : PySem.W.handedIn v = true) (h : Q v { s with toks := s.toks + 1 }) :
    wpAny (model prog w) A (getAttr (.ref x) name expr) Q E s := by
  obtain ⟨od, J, hl⟩ := I.look
  exact PySem.W.get_value X J (PySem.W.plainGet_of hg).1 (PySem.W.findObj_own hh ha rfl (by rw [hl, hv])) hv' h
theorem zCW {pl : Sem Bool} {Q : Value × List Value → Shared → Prop} (X : K.In s.heap) (I : ObjM s.heap x dx C mA) (hg : PySem.W.plainGet K C name = true)
    (hf : PySem.W.findIn K (.ref C) name = some (some (.ref f))) (ht : PySem.W.isFn K (.ref f) = true) (hv : mA name = none) (h : Q (.ref f, [.ref x]) s) :
    wpAny (model prog w) A (getMethod (.ref x) name pl) Q E s := by
  obtain ⟨od, J, hl⟩ := I.look
  exact PySem.W.method_fn X J (PySem.W.plainGet_of hg).1 (PySem.W.plainGet_of hg).2 hf (beq_iff_eq.mp ht) (by show (PySem.W.lookIn name od).map (·.isSome) = some false; rw [hl, hv]; rfl) h
theorem zEb {ns : List Str} {Q : Unit → Shared → Prop} (X : K.In s.heap) (I : ObjM s.heap x dx C mA)
    (hs : PySem.W.findIn K (.ref C) "__setattr__" = some (some (.builtin "object.__setattr__"))) (hp : PySem.W.plainOver K C = true) (ht : PySem.W.takerIn K C name = some none) (hh : PySem.W.hasDictIn K C = true)
    (hw : PySem.Within mA ns) (hsz : ns.length ≤ sizeLine)
    (h : ∀ h', ObjM h' x dx C (fun y => if y = name then some v else mA y) → Heap.SameBut dx s.heap h' → Q () { s with heap := h', toks := s.toks + 2 }) :
    wpAny (model prog w) A (setAttr (.ref x) name v) Q E s := by
  obtain ⟨od, J, hl⟩ := I.look
  refine PySem.W.set_plain X J hs (PySem.W.osa_open (s := { s with toks := s.toks + 1 }) (r := none) X J hp ht fun b => ?_)
  obtain ⟨cd, hc, hd'⟩ := PySem.W.any_some hh
  have hx : s.heap.get? x = some ⟨.ref C, some dx, .plain, #[]⟩ := I.obj
  refine wpAny_bind (wpAny_pure (wpAny_bind (wpAny_bind (wpAny_loadPart hx (wpAny_bind (PySem.W.Looks.here (s := { s with toks := s.toks + 1 }) (PySem.W.looks_clsIn X hc) ?_))))))
  rw [hd']
  refine wpAny_pure (a := some dx) (wpAny_bind (wpAny_pure (wpAny_bind ?_)))
  refine wpAny_nsSet1 (s := { s with toks := s.toks + 1 }) I.ns fun h' hn2 hs2 => ?_
  obtain ⟨oD, esD, epD, hoD, hdD, hcD⟩ := hn2.count (PySem.Within.cons name v hw)
  refine wpAny_bind (wpAny_lookBehind hoD (by rw [hdD]; exact pastItsLine_dict (Nat.le_trans hcD (by rw [List.length_cons]; omega))) ?_)
  exact wpAny_pure (h _ ⟨(hs2.2 _ (Ne.symm I.ne)).trans I.obj, hn2, I.ne⟩ hs2)
theorem zC2 {R : Result → Shared → Prop} {vs : List Value} {kw : List (Str × Value)} (X : K.In s.heap) (hm : PySem.W.makesIn K C = true)
    (hi : PySem.W.findIn K (.ref C) "__init__" = some (some (.ref f))) (hf : PySem.W.typeIn K (.ref f) = some (.type "function"))
    (h : codeAny (model prog w) (A.under (.builtin "type.__call__" ⟨.ref C :: vs, kw⟩)) (.call (.ref f) ⟨.ref (s.heap.objs.size + 1) :: vs, kw⟩) (PySem.W.InitBack (s.heap.objs.size + 1) R)
      { s with heap := (s.heap.push PySem.W.emptyDict).push (PySem.W.instObj C s.heap.objs.size) }) :
    codeAny (model prog w) A (.call (.ref C) ⟨vs, kw⟩) R s := by
  obtain ⟨hh, g, d, t, os⟩ := s
  exact PySem.W.make_core (PySem.W.makes_of X hm) (PySem.W.looks_findIn X hi) (fun self => PySem.W.bind_fn X self hf) (.inl rfl) h
end
def zjN (f : Str) (v : V) : List (Str × V) → List (Str × V)
  | [] => [(f, v)]
  | (g, x) :: r => if g = f then (g, v) :: r else (g, x) :: zjN f v r
theorem zmT (f g : Str) (v : V) : ∀ fs : List (Str × V), (zjN f v fs).lookup g = if g = f then some v else fs.lookup g
  | [] => by
    show List.lookup g [(f, v)] = _
    by_cases h : g = f
    · have hb : (g == f) = true := beq_iff_eq.mpr h
      simp only [List.lookup, hb, if_pos h]
    · have hb : (g == f) = false := beq_eq_false_iff_ne.mpr h
      simp only [List.lookup, hb, if_neg h]
  | (k, x) :: r => by
    have ih := zmT f g v r
    rw [show zjN f v ((k, x) :: r) = (if k = f then (k, v) :: r else (k, x) :: zjN f v r) from rfl]
    by_cases hk : k = f
    · rw [if_pos hk]
      by_cases h : g = k
      · have hb : (g == k) = true := beq_iff_eq.mpr h
        simp only [List.lookup, hb, if_pos (h.trans hk)]
      · have hb : (g == k) = false := beq_eq_false_iff_ne.mpr h
        simp only [List.lookup, hb, if_neg (fun e : g = f => h (e.trans hk.symm))]
    · rw [if_neg hk]
      by_cases h : g = k
      · have hb : (g == k) = true := beq_iff_eq.mpr h
        simp only [List.lookup, hb, if_neg (fun e : g = f => hk (h.symm.trans e))]
      · have hb : (g == k) = false := beq_eq_false_iff_ne.mpr h
        simp only [List.lookup, hb]
        exact ih
theorem zkH (f : Str) (v : V) : ∀ fs : List (Str × V), f ∈ (zjN f v fs).map (·.1) ∧ ∀ g, g ∈ fs.map (·.1) → g ∈ (zjN f v fs).map (·.1)
  | [] => ⟨by simp [zjN], fun g h => by simp at h⟩
  | (k, x) :: r => by
    obtain ⟨i1, i2⟩ := zkH f v r
    rw [show zjN f v ((k, x) :: r) = (if k = f then (k, v) :: r else (k, x) :: zjN f v r) from rfl]
    by_cases hk : k = f
    · rw [if_pos hk]
      subst hk
      exact ⟨by simp, fun g h => by simpa using h⟩
    · rw [if_neg hk]
      refine ⟨?_, fun g h => ?_⟩
      · rw [List.map_cons]
        exact List.mem_cons_of_mem _ i1
      · rw [List.map_cons] at h ⊢
        rcases List.mem_cons.mp h with e | e
        · exact List.mem_cons.mpr (.inl e)
        · exact List.mem_cons_of_mem _ (i2 g e)
theorem zng (f : Str) (v : V) : ∀ fs : List (Str × V), (zjN f v fs).length ≤ fs.length + 1
  | [] => by simp [zjN]
  | (k, x) :: r => by
    have ih := zng f v r
    rw [show zjN f v ((k, x) :: r) = (if k = f then (k, v) :: r else (k, x) :: zjN f v r) from rfl]
    by_cases hk : k = f
    · rw [if_pos hk, List.length_cons, List.length_cons]; omega
    · rw [if_neg hk, List.length_cons, List.length_cons]; omega
theorem RelO.some_of {v : V} {o : Option Value} (r : RelO (some v) o) : ∃ u, o = some u ∧ RelV v u := by
  cases o with
  | none => exact (show False from r).elim
  | some u => exact ⟨u, rfl, r⟩
theorem RelO.none_of {o : Option Value} (r : RelO none o) : o = none := by
  cases o with
  | none => rfl
  | some u => exact (show False from r).elim
theorem zwC {v : V} {u : Value} (r : RelV v u) : PySem.W.handedIn u = true := by
  cases v with
  | non => cases (show u = Value.none from r); rfl
  | bl b => cases (show u = Value.bool b from r); rfl
  | int i => obtain ⟨t, e⟩ := (show ∃ t, u = Value.int i t from r); cases e; rfl
  | str x => obtain ⟨t, e⟩ := (show ∃ t, u = Value.str x t from r); cases e; rfl
  | byt b => obtain ⟨t, e⟩ := (show ∃ t, u = Value.bytes b t from r); cases e; rfl
  | flt b => obtain ⟨t, e⟩ := (show ∃ t, u = Value.float b t from r); cases e; rfl
  | ref a => cases (show u = Value.ref a from r); rfl
  | ty n => cases (show u = Value.type n from r); rfl
section
variable {P : Program} {w : World} {H H' : Hp} {h h' : Heap} {a C dx : Addr} {fs fs' : List (Str × V)}
theorem zyJ (hok : HOk P w H h) (e : H a = some (.ins C dx fs)) : ∃ mA, ObjM h a dx C mA ∧ (∀ f, RelO (fs.lookup f) (mA f)) ∧ PySem.Within mA (fs.map (·.1)) ∧ fs.length ≤ 1000 ∧ H dx = some (.own a) := by
  obtain ⟨d, z, ne, ob, mA, n, r, q⟩ := (show ObjOk P w H h a (.ins C dx fs) from hok a _ e)
  exact ⟨mA, ⟨ob, n, ne⟩, r, q, z, d⟩
end
structure Cls (K : PySem.W.Frag) (C : Addr) : Prop where
  pg : PySem.W.plainGet K C Str.empty = true
  hd : PySem.W.hasDictIn K C = true
  po : PySem.W.plainOver K C = true
  sa : PySem.W.findIn K (.ref C) "__setattr__" = some (some (.builtin "object.__setattr__"))
theorem Cls.get {K : PySem.W.Frag} {C : Addr} (c : Cls K C) (f : Str) : PySem.W.plainGet K C f = true := c.pg
def NoAttr (K : PySem.W.Frag) (C : Addr) (f : Str) : Prop := PySem.W.findIn K (.ref C) f = some none
theorem NoAttr.taker {K : PySem.W.Frag} {C : Addr} {f : Str} (n : NoAttr K C f) : PySem.W.takerIn K C f = some none := by
  unfold PySem.W.takerIn
  rw [show PySem.W.findIn K (.ref C) f = some none from n]
  rfl
structure Con (K : PySem.W.Frag) (C : Addr) (f : Str) (v : V) (u : Value) : Prop where
  at_ : PySem.W.findIn K (.ref C) f = some (some u)
  rel : RelV v u
  get : PySem.W.specialIn K u "__get__" = some none
  cp : PySem.W.copiedNames.contains f = false
structure zmu (K : PySem.W.Frag) (C : Addr) (m : Str) (f : Addr) : Prop where
  at_ : PySem.W.findIn K (.ref C) m = some (some (.ref f))
  fn : PySem.W.isFn K (.ref f) = true
  kp : PySem.W.keepIn K (.ref f) = true
section
variable {X : Cx} {pins : List (Addr × Obj)} {σ : St} {H : Hp} {s : Shared} {a C dx : Addr} {fs : List (Str × V)} {f : Str} {v : V} {A : Around} {E : Value → Shared → Prop}
theorem zAM {b : Bool} {Q : Value → Shared → Prop} (I : Inv X pins σ H s) (e : H a = some (.ins C dx fs)) (c : Cls X.K C) (n : NoAttr X.K C f) (l : fs.lookup f = some v)
    (h : ∀ u s', Inv X pins σ H s' → RelV v u → Q u s') : wpAny (model X.prog X.w) A (getAttr (.ref a) f b) Q E s := by
  obtain ⟨mA, O, r, _, _, _⟩ := zyJ I.hok e
  obtain ⟨u, hu, ru⟩ := RelO.some_of (v := v) (o := mA f) (by rw [← l]; exact r f)
  exact zDU I.kIn O (c.get f) c.hd n hu (zwC ru) (h u _ (I.tok _) ru)
theorem zuc {m : Str} {g : Addr} {pl : Sem Bool} {Q : Value × List Value → Shared → Prop} (I : Inv X pins σ H s) (e : H a = some (.ins C dx fs)) (c : Cls X.K C) (k : zmu X.K C m g) (l : fs.lookup m = none)
    (h : Q (.ref g, [.ref a]) s) : wpAny (model X.prog X.w) A (getMethod (.ref a) m pl) Q E s := by
  obtain ⟨mA, O, r, _, _, _⟩ := zyJ I.hok e
  have hn : mA m = none := RelO.none_of (by rw [← l]; exact r m)
  exact zCW I.kIn O (c.get m) k.at_ k.fn hn h
theorem zAF {y : V} {u : Value} {Q : Unit → Shared → Prop} (I : Inv X pins σ H s) (e : H a = some (.ins C dx fs)) (c : Cls X.K C) (n : NoAttr X.K C f) (hl : fs.length < 1000) (ry : RelV y u)
    (h : ∀ s', Inv X pins σ (upd H a (.ins C dx (zjN f y fs))) s' → Q () s') : wpAny (model X.prog X.w) A (setAttr (.ref a) f u) Q E s := by
  obtain ⟨mA, O, r, wi, _, ho⟩ := zyJ I.hok e
  have hz : (fs.map (·.1)).length ≤ sizeLine := by rw [List.length_map, sizeLine_eq]; omega
  refine zEb I.kIn O c.sa c.po n.taker c.hd wi hz fun h' O' sb => h _ ?_
  have hd : ∃ o, h'.get? dx = some o := let ⟨o, _, _, e', _⟩ := O'.ns; ⟨o, e'⟩
  refine I.write (x := a) (e := dx) (by rw [e]; exact True.intro) (.inr ho) (fun b q hb z => (sb.2 b hb).trans z) hd ?_
  refine ⟨by rw [ze O.ne]; exact ho, ?_, O.ne, O'.obj, _, O'.ns, fun g => ?_, fun g hg => ?_⟩
  · have := zng f y fs; omega
  · show RelO ((zjN f y fs).lookup g) (if g = f then some u else mA g)
    rw [zmT]
    by_cases q : g = f
    · rw [if_pos q, if_pos q]; exact ry
    · rw [if_neg q, if_neg q]; exact r g
  · by_cases q : g = f
    · rw [q]; exact (zkH f y fs).1
    · refine (zkH f y fs).2 g (wi g fun z => hg ?_)
      show (if g = f then some u else mA g) = none
      rw [if_neg q]; exact z
theorem Inv.made (I : Inv X pins σ H s) : Inv X pins σ (upd (upd H s.heap.objs.size (.own (s.heap.objs.size + 1))) (s.heap.objs.size + 1) (.ins C s.heap.objs.size []))
    { s with heap := (s.heap.push PySem.W.emptyDict).push (PySem.W.instObj C s.heap.objs.size) } := by
  have e1 : (s.heap.push PySem.W.emptyDict).get? s.heap.objs.size = some PySem.W.emptyDict := Heap.get?_push_size s.heap rfl
  have e2 : ((s.heap.push PySem.W.emptyDict).push (PySem.W.instObj C s.heap.objs.size)).get? (s.heap.objs.size + 1) = some (PySem.W.instObj C s.heap.objs.size) := by
    have := Heap.get?_push_size (s.heap.push PySem.W.emptyDict) (o := PySem.W.instObj C s.heap.objs.size) rfl
    rwa [Heap.size_push] at this
  have e3 : (s.heap.push PySem.W.emptyDict).Ns s.heap.objs.size (fun _ => none) := ⟨PySem.W.emptyDict, #[], _, e1, rfl, (fun e he => absurd he (by simp)), fun _ => rfl⟩
  have I1 := I.laid (a := s.heap.objs.size) (o := .own (s.heap.objs.size + 1)) (h' := s.heap.push PySem.W.emptyDict) (t' := s.toks) (fun b u q => Heap.get?_push_of_some _ q) (Nat.le_refl _) ⟨_, e1⟩
  refine I1.laid (a := s.heap.objs.size + 1) (o := .ins C s.heap.objs.size []) (t' := s.toks) (fun b u q => Heap.get?_push_of_some _ q) (Nat.le_of_eq (Heap.size_push _ _)) ?_
  have ne : s.heap.objs.size ≠ s.heap.objs.size + 1 := Nat.ne_of_lt (Nat.lt_succ_self _)
  refine ⟨by rw [ze ne, zc], Nat.zero_le _, ne, e2, fun _ => none, (Heap.Ns1.of_empty e3).at fun o q => Heap.get?_push_of_some _ q, fun _ => True.intro, fun y hy => absurd rfl hy⟩
theorem zAY {prog : Program} {w : World} {env : Env} {e : Expr} {f : Str} {pos : Pos} {s : Shared} {Q : Value → Shared → Prop} (hb : attributeBase e f env (eval e env) = eval e env)
    (h : wpAny (model prog w) A (eval e env) (fun o s₁ => wpAny (model prog w) A (getAttr o f true) Q E s₁) E s) : wpAny (model prog w) A (eval (.Attribute e f pos) env) Q E s :=
  Attribute_any_ h (by rw [arm_eval_Attribute, hb])
end
def zkR (K : PySem.W.Frag) (ta : TE) (f : Str) : TE := fun σ H Q => ta σ H fun x H1 => ∃ a C dx fs v, x = .ref a ∧ H1 a = some (.ins C dx fs) ∧ Cls K C ∧ NoAttr K C f ∧ fs.lookup f = some v ∧ Q v H1
def zHy (K : PySem.W.Frag) (ta : TE) (f : Str) : TE := fun σ H Q => ta σ H fun x H1 => ∃ a C dx fs v u, x = .ref a ∧ H1 a = some (.ins C dx fs) ∧ Cls K C ∧ Con K C f v u ∧ fs.lookup f = none ∧ Q v H1
def zF9 (K : PySem.W.Frag) (ta tv : TE) (f : Str) : TS := fun D σ H => tv σ H fun y H1 => ta σ H1 fun x H2 => ∃ a C dx fs, x = .ref a ∧ H2 a = some (.ins C dx fs) ∧ Cls K C ∧ NoAttr K C f ∧ fs.length < 1000 ∧
  D.nx σ (upd H2 a (.ins C dx (zjN f y fs)))
def zHC (X : Cx) (op : Operator) (rd : V → V → Hp → VK → Prop) : Prop :=
  ∀ (pins : List (Addr × Obj)) (s : Shared) (σ : St) (H : Hp) (x y : V) (u v : Value) (Q : VK), Inv X pins σ H s → RelV x u → RelV y v → rd x y H Q → wpAny (model X.prog X.w) X.A (inplaceOp op u v) (EP X pins σ Q) X.xe s
def zFM (K : PySem.W.Frag) (ta tv : TE) (rd : V → V → Hp → VK → Prop) (f : Str) : TS := fun D σ H => ta σ H fun x H1 => ∃ a C dx fs v, x = .ref a ∧ H1 a = some (.ins C dx fs) ∧ Cls K C ∧ NoAttr K C f ∧ fs.lookup f = some v ∧
  tv σ H1 fun y H2 => rd v y H2 fun z H3 => ∃ dx' fs', H3 a = some (.ins C dx' fs') ∧ fs'.length < 1000 ∧ D.nx σ (upd H3 a (.ins C dx' (zjN f z fs')))
section
variable {X : Cx} {o e value : Expr} {f : Str} {pos pos' tpos : Pos} {ta tv : TE}
theorem zw (he : PE X e ta) (hb : attributeBase e f X.env (eval e X.env) = eval e X.env) : PE X (.Attribute e f pos) (zkR X.K ta f) := by
  intro pins s σ H Q I h
  refine zAY hb (thn (he pins s σ H _ I h) fun u s1 ⟨x, H1, I1, rx, a, C, dx, fs, v, ex, ea, c, n, l, q⟩ => ?_)
  subst ex
  obtain rfl : u = Value.ref a := rx
  exact zAM I1 ea c n l fun u' s2 I2 ru => ⟨v, H1, I2, ru, q⟩
theorem zbo (ha : PE X o ta) (hv : PE X value tv) (hs : swapsWith value (some (.Attribute o f pos')) pos.line X.env = pure false) : PS X (.Assign [.Attribute o f pos'] value pos) (zF9 X.K ta tv f) := by
  intro pins s σ H D I h
  refine plainObj_wpAny_Assign_Attribute (thn (hv pins s σ H _ I h) fun u s1 ⟨y, H1, I1, ry, q⟩ => thn (ha pins s1 σ H1 _ I1 q) fun ov s2 ⟨x, H2, I2, rx, a, C, dx, fs, ex, ea, c, n, l, q2⟩ => ?_) hs
  subst ex
  obtain rfl : ov = Value.ref a := rx
  exact zAF I2 ea c n l ry fun s3 I3 => ⟨σ, _, I3, q2⟩
def zHs : V → V → Hp → VK → Prop := fun x y H Q => ∃ i j, x = .int i ∧ y = .int j ∧ Q (.int (i + j)) H
def zHx : V → V → Hp → VK → Prop := fun x y H Q => ∃ i j, x = .int i ∧ y = .int j ∧ Q (.int (i - j)) H
end
section
variable {X : Cx} {pins : List (Addr × Obj)} {σ : St} {H : Hp} {s : Shared} {A : Around} {E : Value → Shared → Prop} {Q : Value → Shared → Prop} {c : Value} {b : Bool}
inductive zuT (K : PySem.W.Frag) (H : Hp) : V → Value → Prop where
  | non : zuT K H .non (.type "NoneType")
  | bl (x : Bool) : zuT K H (.bl x) (.type "bool")
  | int (i : Int) : zuT K H (.int i) (.type "int")
  | str (x : Str) : zuT K H (.str x) (.type "str")
  | flt (x : UInt64) : zuT K H (.flt x) (.type "float")
  | lst {a : Addr} {xs : List V} (e : H a = some (.lst xs)) : zuT K H (.ref a) (.type "list")
  | frz {a : Addr} {o : Obj} {xs : List V} (e : H a = some (.frz o (.lst xs))) : zuT K H (.ref a) (.type "list")
  | tup {a : Addr} {xs : List V} (e : H a = some (.tup xs)) : zuT K H (.ref a) (.type "tuple")
  | dK {a : Addr} {kvs : List (Key × V)} (e : H a = some (.dK kvs)) : zuT K H (.ref a) (.type "dict")
  | dT {a : Addr} {kvs : List (List Key × V)} (e : H a = some (.dT kvs)) : zuT K H (.ref a) (.type "dict")
  | ins {a C dx : Addr} {fs : List (Str × V)} (e : H a = some (.ins C dx fs)) (cl : Cls K C) (ha : PySem.W.findIn K (.ref C) "__class__" = some (some (.builtin "object.__class__")))
      (hn : PySem.W.specialIn K (.builtin "object.__class__") "__get__" = some (some (.builtin "getset_descriptor.__get__"))) (htk : PySem.W.takesIn K (.builtin "object.__class__") = some true)
      (hm : PySem.W.mroIn K C (.type "object") = some true) : zuT K H (.ref a) (.ref C)
end
end L2
namespace L2
open PySem PySem.Spec PyProof.Rows
structure Room (cm : Bool) (k : Nat) (A : Around) : Prop where
  hd : cm = true → A.handled = none
  dp : A.depth + 3 * k + 5 < recursionLimit
  un : A.units + 16 * k + 200 < cLine
theorem Room.mono {cm : Bool} {j k : Nat} {A : Around} (r : Room cm k A) (h : j ≤ k) : Room cm j A := ⟨r.hd, by have := r.dp; omega, by have := r.un; omega⟩
theorem Room.deeper {cm : Bool} {k : Nat} {A : Around} (r : Room cm (k + 1) A) (env : Env) : Room cm k (A.deeper env) :=
  ⟨r.hd, by have := r.dp; show A.depth + 1 + 3 * k + 5 < _; omega, by have := r.un; show A.units + 3 + 16 * k + 200 < _; omega⟩
theorem zAE {A : Around} {C : Addr} {us : List Value} {kw : List (Str × Value)} : (A.under (.builtin "type.__call__" ⟨.ref C :: us, kw⟩)).depth = A.depth + 1 := by
  first | rfl | simp [Around.under, Code.weight, Code.isCreation, Code.isGuard, Code.isCaller, Code.frames, Code.isFrame, guardIds]
theorem zAe {A : Around} {C : Addr} {us : List Value} {kw : List (Str × Value)} : (A.under (.builtin "type.__call__" ⟨.ref C :: us, kw⟩)).units = A.units + 1 := by
  first | rfl | simp [Around.under, Code.cUnits, Code.frames, Code.isFrame]
theorem Room.make {cm : Bool} {k : Nat} {A : Around} (r : Room cm (k + 1) A) (C : Addr) (us : List Value) (kw : List (Str × Value)) : Room cm k (A.under (.builtin "type.__call__" ⟨.ref C :: us, kw⟩)) :=
  ⟨r.hd, by have := r.dp; rw [zAE]; omega, by have := r.un; rw [zAe]; omega⟩
theorem Room.depth {cm : Bool} {k : Nat} {A : Around} (r : Room cm k A) : A.depth < recursionLimit := by have := r.dp; omega
theorem Room.units {cm : Bool} {k : Nat} {A : Around} (r : Room cm k A) : A.units + 64 < cLine := by have := r.un; omega
theorem Room.units0 {cm : Bool} {k : Nat} {A : Around} (r : Room cm k A) : A.units < cLine := by have := r.un; omega
def zAL : TA := fun _ H Q => Q [] H
def zEo (ta : TE) (tr : TA) : TA := fun σ H Q => ta σ H fun x H1 => tr σ H1 fun xs H2 => Q (x :: xs) H2
section
variable {X : Cx} {e : Expr} {es : List Expr} {te : TE} {t : TA} {pos : Pos}
theorem zg : PA X [] zAL := fun _ _ _ _ H Q I h => Calls.spliced_nil ⟨[], H, I, .nil, h⟩
theorem zb (ha : PE X e te) (hr : PA X es t) (hs : starEach (e :: es) X.env = (false, eval e X.env) :: starEach es X.env := by rfl) : PA X (e :: es) (zEo te t) := by
  intro pos pins s σ H Q I h
  rw [hs]
  show wpAny _ _ (spliced ((false, eval e X.env) :: backTo pos (starEach es X.env))) _ _ s
  refine Calls.spliced_cons (thn (ha pins s σ H _ I h) fun u s1 ⟨x, H1, I1, r1, q1⟩ => ?_)
  exact thn (hr pos pins s1 σ H1 _ I1 q1) fun us s2 ⟨xs, H2, I2, r2, q2⟩ => ⟨x :: xs, H2, I2, .cons r1 r2, q2⟩
def zF6 (t : TA) : TE := fun σ H Q => t σ H fun xs H1 => xs.length ≤ sizeLine ∧ ∀ p, H1 p = none → Q (.ref p) (upd H1 p (.tup xs))
def zFh (t : TA) : TE := fun σ H Q => t σ H fun xs H1 => xs.length ≤ sizeLine ∧ ∀ p, H1 p = none → Q (.ref p) (upd H1 p (.lst xs))
theorem zya {x1} (h : PA X es t) : PE X (.Tuple es x1 pos) (zF6 t) := by
  intro pins s σ H Q I hq
  refine wpAny_Tuple_spliced (thn (h pos pins s σ H _ I hq) fun us s1 ⟨xs, H1, I1, r, z, q⟩ => ⟨by rw [← r.length]; exact z, ?_⟩)
  have hf : H1 s1.heap.objs.size = none := I1.hok.fresh (Nat.le_refl _)
  refine ⟨.ref s1.heap.objs.size, upd H1 s1.heap.objs.size (.tup xs), I1.laid (t' := s1.toks) (fun b u e => Heap.get?_push_of_some _ e) (Nat.le_refl _) ?_, rfl, q _ hf⟩
  exact ⟨z, us, r, ⟨_, Heap.get?_push_size _ rfl, rfl, _, rfl⟩⟩
theorem Zd (h : PA X es t) : PE X (.List es pos) (zFh t) := by
  intro pins s σ H Q I hq
  refine wpAny_List_spliced (thn (h pos pins s σ H _ I hq) fun us s1 ⟨xs, H1, I1, r, z, q⟩ => ⟨by rw [← r.length]; exact z, ?_⟩)
  have hf : H1 s1.heap.objs.size = none := I1.hok.fresh (Nat.le_refl _)
  refine ⟨.ref s1.heap.objs.size, upd H1 s1.heap.objs.size (.lst xs), I1.laid (t' := s1.toks) (fun b u e => Heap.get?_push_of_some _ e) (Nat.le_refl _) ?_, rfl, q _ hf⟩
  exact ⟨z, us, 0, r, Heap.get?_push_size _ rfl⟩
end
abbrev Sp := List V → Hp → VK → XK → Prop
abbrev CXT := List Env → Hp → Shared → XK → Value → Shared → Prop
structure Env0 (P : Program) (w : World) (K : PySem.W.Frag) (mg : Str → Option Value) (base : Heap) (A : Around) (outer : List Env) (s : Shared) (H : Hp) : Prop where
  frames : A.frames = some outer
  mod : Mod K mg base
  bs : ∀ b o, base.get? b = some o → s.heap.get? b = some o ∧ H b = none
  bsz : base.objs.size ≤ s.heap.objs.size
  funs : s.heap.FunFrames base outer
  frf : ∀ b ∈ frs outer, H b = none
  hok : HOk P w H s.heap
  bare : AllBare s.gens
def CE (outer : List Env) (P : Program) (w : World) (H : Hp) (s : Shared) (Q : VK) (u : Value) (s' : Shared) : Prop :=
  ∃ v H', s'.os = s.os ∧ AllBare s'.gens ∧ Un (frs outer) [] H H' s.heap s'.heap ∧ HOk P w H' s'.heap ∧ RelV v u ∧ Q v H'
def CR (CX : CXT) (outer : List Env) (P : Program) (w : World) (H : Hp) (s : Shared) (Q : VK) (E : XK) (r : Result) (s' : Shared) : Prop :=
  match r with
  | .ok (.ret u) => CE outer P w H s Q u s'
  | .ok _ => False
  | .error e => CX outer H s E e s'
structure FnOk (P : Program) (w : World) (K : PySem.W.Frag) (mg : Str → Option Value) (base : Heap) (CX : CXT) (cm : Bool) (k : Nat) (f : Addr) (fd : FuncData) (ps : List Str) (sp : Sp) : Prop where
  len : ∀ vs H Q E, sp vs H Q E → vs.length = ps.length
  run : ∀ (A : Around) (outer : List Env) (s : Shared) (H : Hp) (args : Args) (us : List Value) (vs : List V) (Q : VK) (E : XK), Room cm k A → Env0 P w K mg base A outer s H → BindsTo s fd args (ps.zip us) → Vals vs us → sp vs H Q E →
    codeAny (model P w) A (.call (.ref f) args) (CR CX outer P w H s Q E) s
theorem FnOk.mono {cm : Bool} {P : Program} {w : World} {K : PySem.W.Frag} {mg : Str → Option Value} {base : Heap} {CX : CXT} {j k : Nat} {f : Addr} {fd : FuncData} {ps : List Str} {sp : Sp} (F : FnOk P w K mg base CX cm j f fd ps sp) (h : j ≤ k) :
    FnOk P w K mg base CX cm k f fd ps sp := ⟨F.len, fun A outer s H args us vs Q E hr => F.run A outer s H args us vs Q E (hr.mono h)⟩
theorem Env0.make {P : Program} {w : World} {K : PySem.W.Frag} {mg : Str → Option Value} {base : Heap} {A : Around} {outer : List Env} {s : Shared} {H : Hp} (e : Env0 P w K mg base A outer s H) (C : Addr) (us : List Value) (kw : List (Str × Value)) :
    Env0 P w K mg base (A.under (.builtin "type.__call__" ⟨.ref C :: us, kw⟩)) outer s H := ⟨by first | exact e.frames | (simpa [Around.under, Code.envs, Code.isFrame, pushEnvs] using e.frames), e.mod, e.bs, e.bsz, e.funs, e.frf, e.hok, e.bare⟩
section
variable {X : Cx} {pins : List (Addr × Obj)} {σ : St} {H : Hp} {s s' : Shared}
theorem Inv.env0 (I : Inv X pins σ H s) : Env0 X.prog X.w X.K X.mg X.base X.A X.stack s H :=
  ⟨I.ok.frames, I.ok.mod, I.bs, Nat.le_trans I.ok.bsz I.sz, I.stack, I.stkFree, I.hok, I.bare⟩
theorem Inv.after {Q : VK} {u : Value} (I : Inv X pins σ H s) (h : CE X.stack X.prog X.w H s Q u s') : EP X pins σ Q u s' := by
  obtain ⟨v, H', os, bare, un, hok, r, q⟩ := h
  obtain ⟨hh, g, d, t, os'⟩ := s'
  obtain rfl : os' = s.os := os
  exact ⟨v, H', I.call (h' := hh) (g' := g) (d' := d) (t' := t) (ch := []) un hok bare (fun b z => absurd z (by simp)), r, q⟩
end
def zEr (sp : Sp) (dvs : List V) (E : St → XK) (t : TA) : TE := fun σ H Q => t σ H fun vs H1 => sp (vs ++ dvs) H1 Q (E σ)
def zEi (C : Addr) (m : Str) (sp : Sp) (dvs : List V) (E : St → XK) (ta : TE) (t : TA) : TE := fun σ H Q => ta σ H fun x H1 => ∃ a dx fs, x = .ref a ∧ H1 a = some (.ins C dx fs) ∧ fs.lookup m = none ∧
  t σ H1 fun vs H2 => sp (x :: (vs ++ dvs)) H2 Q (E σ)
def zEj (C : Addr) (sp : Sp) (dvs : List V) (E : St → XK) (t : TA) : TE := fun σ H Q => t σ H fun vs H1 => ∀ x dx, H1 x = none → H1 dx = none → dx ≠ x →
  sp (.ref x :: (vs ++ dvs)) (upd (upd H1 dx (.own x)) x (.ins C dx [])) (fun v H2 => v = .non ∧ Q (.ref x) H2) (E σ)
def Binds (K : PySem.W.Frag) (fd : FuncData) (ps : List Str) (ds : List Value) : Prop :=
  ∀ (s : Shared) (us : List Value), K.In s.heap → (us ++ ds).length = ps.length → BindsTo s fd ⟨us, []⟩ (ps.zip (us ++ ds))
theorem Binds.all {K : PySem.W.Frag} {fd : FuncData} {ps : List Str} (h : ∀ us : List Value, us.length = ps.length → bindArgs fd ⟨us, []⟩ = pure (ps.zip us)) : Binds K fd ps [] := fun s us _ hl => by
  rw [List.append_nil] at hl ⊢
  exact .of_eq (h us hl)
def zjr (CX : CXT) (X : Cx) (E : St → XK) : Prop := ∀ (pins : List (Addr × Obj)) (σ : St) (H : Hp) (s : Shared) (e : Value) (s' : Shared), Inv X pins σ H s → CX X.stack H s (E σ) e s' → X.xe e s'
section
variable {X : Cx} {CX : CXT} {k : Nat} {f C : Addr} {fd : FuncData} {ps : List Str} {sp : Sp} {dvs : List V} {ds : List Value} {E : St → XK} {x m : Str} {p pos apos : Pos} {e o : Expr} {es : List Expr} {ta : TE} {t : TA}
theorem zyB {cm : Bool} {pins : List (Addr × Obj)} {σ : St} {H : Hp} {s : Shared} {Q : VK} {us : List Value} {vs : List V} (F : FnOk X.prog X.w X.K X.mg X.base CX cm k f fd ps sp) (hr : Room cm k X.A) (hb : Binds X.K fd ps ds) (hd : Vals dvs ds) (hx : zjr CX X E)
    (I : Inv X pins σ H s) (r : Vals vs us) (h : sp (vs ++ dvs) H Q (E σ)) : wpAny (model X.prog X.w) X.A (call (.ref f) us) (EP X pins σ Q) X.xe s := by
  have r2 : Vals (vs ++ dvs) (us ++ ds) := r.append hd
  have hl : (us ++ ds).length = ps.length := by rw [← r2.length]; exact F.len _ _ _ _ h
  refine wpAny_call (codeAny_mono (F.run X.A X.stack s H ⟨us, []⟩ (us ++ ds) (vs ++ dvs) Q (E σ) hr I.env0 (hb s us I.kIn hl) r2 h) fun r s' hq => ?_)
  cases r with
  | error e => exact hx pins σ H s e s' I hq
  | ok fl =>
    cases fl with
    | ret u => exact I.after hq
    | next => exact False.elim hq
    | brk => exact False.elim hq
    | cont => exact False.elim hq
theorem zX {cm : Bool} (F : FnOk X.prog X.w X.K X.mg X.base CX cm k f fd ps sp) (hr : Room cm k X.A) (hg : Gl X x) (hm : X.mg x = some (.ref f)) (hk : PySem.W.keepIn X.K (.ref f) = true) (hb : Binds X.K fd ps ds) (hd : Vals dvs ds) (hx : zjr CX X E)
    (ha : PA X (e :: es) t) (hdb : (x == ("__debug__" : Str)) = false := by decide) (he : starEach (e :: es) X.env = (false, eval e X.env) :: starEach es X.env := by rfl) (hpl : (backTo pos (starEach es X.env)).any (·.1) = false := by rfl) :
    PE X (.Call (.Name x p) (e :: es) [] pos) (zEr sp dvs E t) := by
  intro pins s σ H Q I h
  refine wpAny_Call_Name_kw (ziX I hg hm ?_ hdb)
  refine PySem.W.callWith_K (h₀ := X.base) I.ok.mod.kin hk (thn (ha pos pins s σ H _ I h) fun us s1 ⟨vs, H1, I1, r, q⟩ => ⟨I1.kIn, ?_⟩) he hpl
  exact zyB F hr hb hd hx I1 r q
theorem zd4 {cm : Bool} {pl : Sem Bool} (he : PE X o ta) (c : Cls X.K C) (hm : zmu X.K C m f) (F : FnOk X.prog X.w X.K X.mg X.base CX cm k f fd ps sp) (hr : Room cm k X.A) (hb : Binds X.K fd ps ds) (hd : Vals dvs ds) (hx : zjr CX X E) (ha : PA X (e :: es) t)
    (hst : starEach (e :: es) X.env = (false, eval e X.env) :: starEach es X.env := by rfl) (hpl : (backTo pos (starEach es X.env)).any (·.1) = false := by rfl)
    (ht : eval (.Call (.Attribute o m apos) (e :: es) [] pos) X.env = (do
      let ov ← eval o X.env
      standAt apos.atName
      let (f, first) ← holding [ov] (getMethod ov m pl)
      callWith pos f first (backTo pos (starEach (e :: es) X.env)) (backToKw pos (keywordEach [] X.env))) := by rfl) :
    PE X (.Call (.Attribute o m apos) (e :: es) [] pos) (zEi C m sp dvs E ta t) := by
  intro pins s σ H Q I h
  refine PySem.W.methodCall_KW (pl := pl) (thn (he pins s σ H _ I h) fun u s1 ⟨x, H1, I1, rx, a, dx, fs, ex, ea, l, q⟩ => ?_) ht
  subst ex
  obtain rfl : u = Value.ref a := rx
  refine zuc I1 ea c hm l ?_
  refine PySem.W.callWith_K (first := [.ref a]) (h₀ := X.base) I.ok.mod.kin hm.kp (thn (ha pos pins s1 σ H1 _ I1 q) fun us s2 ⟨vs, H2, I2, r, q2⟩ => ⟨I2.kIn, ?_⟩) hst hpl
  exact zyB (us := .ref a :: us) (vs := .ref a :: vs) F hr hb hd hx I2 (.cons rfl r) q2
theorem zka {cm : Bool} {pl : Sem Bool} (he : PE X o ta) (c : Cls X.K C) (hm : zmu X.K C m f) (F : FnOk X.prog X.w X.K X.mg X.base CX cm k f fd ps sp) (hr : Room cm k X.A) (hb : Binds X.K fd ps ds) (hd : Vals dvs ds) (hx : zjr CX X E)
    (ht : eval (.Call (.Attribute o m apos) [] [] pos) X.env = (do
      let ov ← eval o X.env
      standAt apos.atName
      let (f, first) ← holding [ov] (getMethod ov m pl)
      callWith pos f first (backTo pos (starEach [] X.env)) (backToKw pos (keywordEach [] X.env))) := by rfl) :
    PE X (.Call (.Attribute o m apos) [] [] pos) (zEi C m sp dvs E ta zAL) := by
  intro pins s σ H Q I h
  refine PySem.W.methodCall_KW (pl := pl) (thn (he pins s σ H _ I h) fun u s1 ⟨x, H1, I1, rx, a, dx, fs, ex, ea, l, q⟩ => ?_) ht
  subst ex
  obtain rfl : u = Value.ref a := rx
  refine zuc I1 ea c hm l ?_
  exact PySem.W.callWith_K0 (first := [.ref a]) I1.kIn hm.kp (zyB (us := [.ref a]) (vs := [.ref a]) F hr hb hd hx I1 (.cons rfl .nil) q)
structure Mk (K : PySem.W.Frag) (C f : Addr) : Prop where
  makes : PySem.W.makesIn K C = true
  init : PySem.W.findIn K (.ref C) "__init__" = some (some (.ref f))
  fn : PySem.W.isFn K (.ref f) = true
  kp : PySem.W.keepIn K (.ref C) = true
theorem zzF {cm : Bool} {pins : List (Addr × Obj)} {σ : St} {H : Hp} {s : Shared} {Q : VK} {us : List Value} {vs : List V} (M : Mk X.K C f) (F : FnOk X.prog X.w X.K X.mg X.base CX cm k f fd ps sp) (hr : Room cm (k + 1) X.A) (hb : Binds X.K fd ps ds) (hd : Vals dvs ds)
    (hx : zjr CX X E) (I : Inv X pins σ H s) (r : Vals vs us)
    (h : ∀ x dx, H x = none → H dx = none → dx ≠ x → sp (.ref x :: (vs ++ dvs)) (upd (upd H dx (.own x)) x (.ins C dx [])) (fun v H2 => v = .non ∧ Q (.ref x) H2) (E σ)) :
    wpAny (model X.prog X.w) X.A (call (.ref C) us) (EP X pins σ Q) X.xe s := by
  have hq := h (s.heap.objs.size + 1) s.heap.objs.size (I.hok.fresh (Nat.le_succ _)) (I.hok.fresh (Nat.le_refl _)) (Nat.ne_of_lt (Nat.lt_succ_self _))
  have I2 := Inv.made (C := C) I
  have r2 : Vals (V.ref (s.heap.objs.size + 1) :: (vs ++ dvs)) (Value.ref (s.heap.objs.size + 1) :: (us ++ ds)) := .cons rfl (r.append hd)
  have hl : (Value.ref (s.heap.objs.size + 1) :: us ++ ds).length = ps.length := by
    have e := r2.length
    rw [F.len _ _ _ _ hq] at e
    exact e.symm
  refine wpAny_call (zC2 (f := f) I.kIn M.makes M.init (beq_iff_eq.mp M.fn) (codeAny_mono (F.run _ X.stack _ _ ⟨Value.ref (s.heap.objs.size + 1) :: us, []⟩ (Value.ref (s.heap.objs.size + 1) :: (us ++ ds)) _ _ (E σ) (hr.make C us [])
    (I2.env0.make C us []) (hb _ (Value.ref (s.heap.objs.size + 1) :: us) I2.kIn hl) r2 hq) fun r s' hq' => ?_))
  cases r with
  | error e => exact hx pins σ _ _ e s' I2 hq'
  | ok fl =>
    cases fl with
    | ret u =>
      obtain ⟨v, H', I3, rv, ev, q3⟩ := I2.after hq'
      subst ev
      exact ⟨rv, ⟨V.ref (s.heap.objs.size + 1), H', I3, rfl, q3⟩⟩
    | next => exact False.elim hq'
    | brk => exact False.elim hq'
    | cont => exact False.elim hq'
theorem ztP {cm : Bool} (M : Mk X.K C f) (F : FnOk X.prog X.w X.K X.mg X.base CX cm k f fd ps sp) (hr : Room cm (k + 1) X.A) (hg : Gl X x) (hm : X.mg x = some (.ref C)) (hb : Binds X.K fd ps ds) (hd : Vals dvs ds) (hx : zjr CX X E)
    (ha : PA X (e :: es) t) (hdb : (x == ("__debug__" : Str)) = false := by decide) (he : starEach (e :: es) X.env = (false, eval e X.env) :: starEach es X.env := by rfl) (hpl : (backTo pos (starEach es X.env)).any (·.1) = false := by rfl) :
    PE X (.Call (.Name x p) (e :: es) [] pos) (zEj C sp dvs E t) := by
  intro pins s σ H Q I h
  refine wpAny_Call_Name_kw (ziX I hg hm ?_ hdb)
  refine PySem.W.callWith_K (h₀ := X.base) I.ok.mod.kin M.kp (thn (ha pos pins s σ H _ I h) fun us s1 ⟨vs, H1, I1, r, q⟩ => ⟨I1.kIn, ?_⟩) he hpl
  exact zzF M F hr hb hd hx I1 r q
theorem zyL {cm : Bool} (M : Mk X.K C f) (F : FnOk X.prog X.w X.K X.mg X.base CX cm k f fd ps sp) (hr : Room cm (k + 1) X.A) (hg : Gl X x) (hm : X.mg x = some (.ref C)) (hb : Binds X.K fd ps ds) (hd : Vals dvs ds) (hx : zjr CX X E)
    (hdb : (x == ("__debug__" : Str)) = false := by decide) : PE X (.Call (.Name x p) [] [] pos) (zEj C sp dvs E zAL) := by
  intro pins s σ H Q I h
  refine wpAny_Call_Name_kw (ziX I hg hm ?_ hdb)
  exact PySem.W.callWith_K0 I.kIn M.kp (zzF (us := []) M F hr hb hd hx I .nil h)
end
def PK (X : Cx) (kws : List Keyword) (t : TA) : Prop :=
  ∀ (pos : Pos) (pins : List (Addr × Obj)) (s : Shared) (σ : St) (H : Hp) (Q : List V → Hp → Prop), Inv X pins σ H s → t σ H Q → wpAny (model X.prog X.w) X.A (evalAll ((backToKw pos (keywordEach kws X.env)).map (·.2))) (AP X pins σ Q) X.xe s
section
variable {X : Cx} {CX : CXT} {k : Nat} {f C : Addr} {fd : FuncData} {ps ks : List Str} {sp : Sp} {E : St → XK} {x m : Str} {p pos apos kpos : Pos} {e o : Expr} {es : List Expr} {kws : List Keyword} {te ta : TE} {t tk : TA} {nm : Option Str}
structure zGu (K : PySem.W.Frag) (fd : FuncData) (ps ks : List Str) (g : List Value → List Value → List Value) (gV : List V → List V → List V) : Prop where
  to : ∀ (s : Shared) (us ws : List Value), K.In s.heap → (g us ws).length = ps.length → BindsTo s fd ⟨us, ks.zip ws⟩ (ps.zip (g us ws))
  rel : ∀ {vs : List V} {us : List Value} {zs : List V} {ws : List Value}, Vals vs us → Vals zs ws → Vals (gV vs zs) (g us ws)
def zGr (sp : Sp) (gV : List V → List V → List V) (E : St → XK) (t tk : TA) : TE := fun σ H Q => t σ H fun vs H1 => tk σ H1 fun zs H2 => sp (gV vs zs) H2 Q (E σ)
variable {g : List Value → List Value → List Value} {gV : List V → List V → List V}
end
structure zC (N P : List Str) (sc : Scope) : Prop where
  kind : sc.kind = .function
  co : sc.isCoroutine = false
  gen : sc.isGenerator = false
  nd : N.Nodup
  pre : N.take P.length = P
  par : ∀ x ∈ P, sc.names.lookup x = some .local ∨ sc.names.lookup x = some .cell
  nofree : ∀ y ∈ sc.names, y.2 ≠ .free
theorem zwQ {kindOf : Str → Option NameKind} {x : Str} : ∀ {binds : List (Str × Value)} {m : Str → Option Value}, (∀ v, (x, v) ∉ binds) → bindL kindOf binds m x = m x
  | [], _, _ => rfl
  | (n, v) :: r, m, h => by
    unfold bindL
    rw [zwQ fun w hw => h w (List.mem_cons_of_mem _ hw)]
    split
    · have : x ≠ n := by rintro rfl; exact h v List.mem_cons_self
      simp [this]
    · rfl
theorem zwq {kindOf : Str → Option NameKind} {x : Str} : ∀ {binds : List (Str × Value)} {m : Str → Option Value}, (∀ v, (x, v) ∉ binds) → bindC kindOf binds m x = m x
  | [], _, _ => rfl
  | (n, v) :: r, m, h => by
    unfold bindC
    rw [zwq fun w hw => h w (List.mem_cons_of_mem _ hw)]
    split
    · rfl
    · have : x ≠ n := by rintro rfl; exact h v List.mem_cons_self
      simp [this]
theorem zws {kindOf : Str → Option NameKind} {x : Str} {v : Value} : ∀ {P : List Str} {vs : List Value} {i : Nat} {m : Str → Option Value}, P.Nodup → P[i]? = some x → vs[i]? = some v → kindOf x = some .local →
    bindL kindOf (P.zip vs) m x = some v
  | [], _, _, _, _, h, _, _ => by simp at h
  | _ :: _, [], _, _, _, _, h, _ => by simp at h
  | p :: P, w :: vs, 0, m, nd, h1, h2, hk => by
    simp at h1 h2; subst h1; subst h2
    show bindL kindOf ((p, w) :: P.zip vs) m p = _
    unfold bindL
    rw [zwQ fun v hv => (List.nodup_cons.mp nd).1 (List.of_mem_zip hv).1, if_pos hk]
    simp
  | p :: P, w :: vs, i + 1, m, nd, h1, h2, hk => by
    show bindL kindOf ((p, w) :: P.zip vs) m x = _
    unfold bindL
    exact zws (i := i) (List.nodup_cons.mp nd).2 (by simpa using h1) (by simpa using h2) hk
theorem zwU {kindOf : Str → Option NameKind} {x : Str} {v : Value} : ∀ {P : List Str} {vs : List Value} {i : Nat} {m : Str → Option Value}, P.Nodup → P[i]? = some x → vs[i]? = some v → kindOf x ≠ some .local →
    bindC kindOf (P.zip vs) m x = some v
  | [], _, _, _, _, h, _, _ => by simp at h
  | _ :: _, [], _, _, _, _, h, _ => by simp at h
  | p :: P, w :: vs, 0, m, nd, h1, h2, hk => by
    simp at h1 h2; subst h1; subst h2
    show bindC kindOf ((p, w) :: P.zip vs) m p = _
    unfold bindC
    rw [zwq fun v hv => (List.nodup_cons.mp nd).1 (List.of_mem_zip hv).1, if_neg hk]
    simp
  | p :: P, w :: vs, i + 1, m, nd, h1, h2, hk => by
    show bindC kindOf ((p, w) :: P.zip vs) m x = _
    unfold bindC
    exact zwU (i := i) (List.nodup_cons.mp nd).2 (by simpa using h1) (by simpa using h2) hk
def start (N : List Str) (vs : List V) : St := vs.map some ++ List.replicate (N.length - vs.length) none
def zyZ (CX : CXT) (cm : Bool) (P : Program) (w : World) (K : PySem.W.Frag) (mg : Str → Option Value) (base : Heap) (N : List Str) (qual : Str) (scope : Scope) (f : Addr) (cd : Value) (A : Around) (outer : List Env) (s : Shared) (H : Hp) (E : XK) : Cx where
  prog := P
  w := w
  K := K
  mg := mg
  base := base
  A := A.deeper (envOfC qual scope s.heap.objs.size f cd)
  N := N
  s_0 := s
  H_0 := H
  env := envOfC qual scope s.heap.objs.size f cd
  outer := outer
  stack := envOfC qual scope s.heap.objs.size f cd :: outer
  ex := []
  calm := cm
  fn := fun _ => true
  pn := []
  xe := fun e s' => wpAny (model P w) (A.deeper (envOfC qual scope s.heap.objs.size f cd)) (leaving (envOfC qual scope s.heap.objs.size f cd) e) (fun _ s'' => CX outer H s E e s'') (fun e' s'' => CX outer H s E e' s'') s'
theorem zzi {sc : Scope} {n : Nat} {x : Str} (h : sc.names.lookup x = some .cell) : ∃ c, (cellsFrom n sc.names []).lookup x = some c := by
  have q := PySem.W.cellsFrom_some sc.names n [] (.inl h)
  exact Option.isSome_iff_exists.mp q
theorem zCj {cm : Bool} {CX : CXT} {P : Program} {w : World} {K : PySem.W.Frag} {mg : Str → Option Value} {base : Heap} {N ps : List Str} {qual : Str} {scope : Scope} {f : Addr} {cd : Value} {A : Around} {outer : List Env} {s s1 : Shared} {H : Hp} {E : XK} {us : List Value} {vs : List V}
    (S : zC N ps scope) (hd : cm = true → A.handled = none) (e0 : Env0 P w K mg base A outer s H) (hl : vs.length = ps.length) (r : Vals vs us)
    (x : InCallC s s.heap.objs.size (bindL (envOfC qual scope s.heap.objs.size f cd).kindOf (ps.zip us) fun _ => none) (cellsFrom (s.heap.objs.size + 1) scope.names []) (bindC (envOfC qual scope s.heap.objs.size f cd).kindOf (ps.zip us) fun _ => none) s1) :
    Inv (zyZ CX cm P w K mg base N qual scope f cd A outer s H E) [] (start N vs) H s1 := by
  have hpl : ps.length ≤ N.length := by have := congrArg List.length S.pre; rw [List.length_take] at this; omega
  obtain ⟨h1, tk, rfl, hk⟩ := x.done
  have noA : ∀ b : Addr, b ∉ (zyZ CX cm P w K mg base N qual scope f cd A outer s H E).ex := fun b z => absurd (show b ∈ ([] : List Addr) from z) (by simp)
  refine ⟨⟨e0.mod, S.kind, rfl, rfl, Nat.le_refl _, fun y z c h1 h2 => ?_, fun y hy => ?_, fun y c _ h => ?_, hd, Around.frames_deeper e0.frames, .inr ⟨rfl, rfl⟩, fun b z => absurd z (noA b), e0.bs, e0.bsz, fun b _ _ => noA b, fun b z => absurd z (noA b), e0.funs, e0.frf⟩,
    rfl, e0.bare, Un.kept hk, ⟨_, x.toInCall.ns, fun i y v h1 h2 h3 => ?_⟩, fun y c h => ⟨_, x.cell y c h⟩, e0.hok.fresh (Nat.le_refl _), fun y c h => ?_, fun p hp => absurd (show p ∈ ([] : List (Addr × Obj)) from hp) (by simp), e0.hok.kept hk, ?_⟩
  · exact name_of_addr x.apart (PySem.mem_of_lookup h1) (PySem.mem_of_lookup h2)
  · have hy : scope.names.lookup y = some .cell ∨ scope.names.lookup y = some .free := hy
    rcases hy with hy | hy
    · exact zzi hy
    · exact absurd rfl (S.nofree _ (PySem.mem_of_lookup hy))
  · exact Nat.le_of_lt (x.above y c (PySem.mem_of_lookup h))
  · have hi : i < vs.length := by
      unfold start at h2
      by_cases hi : i < vs.length
      · exact hi
      · rw [List.getElem?_append_right (by simpa using hi)] at h2
        rw [List.getElem?_replicate] at h2
        split at h2 <;> cases h2
    have ha : vs[i]? = some v := by
      unfold start at h2
      rw [List.getElem?_append_left (by simpa using hi), List.getElem?_map] at h2
      cases e : vs[i]? with
      | none => rw [e] at h2; cases h2
      | some a => rw [e] at h2; cases h2; rfl
    obtain ⟨u, hu, rv⟩ := r.get ha
    have hp : ps[i]? = some y := by
      rw [← S.pre, List.getElem?_take_of_lt (by omega)]; exact h1
    have ndP : ps.Nodup := by rw [← S.pre]; exact S.nd.sublist (List.take_sublist _ _)
    refine ⟨u, rv, ?_⟩
    rcases S.par y (List.mem_of_getElem? hp) with k | k
    · exact .inl ⟨k, zws ndP hp hu k⟩
    · obtain ⟨c, e⟩ := zzi (n := s.heap.objs.size + 1) k
      refine .inr ⟨.inl k, c, e, ?_⟩
      have q := x.cell y c e
      rw [zwU ndP hp hu (by show scope.names.lookup y ≠ _; rw [k]; decide)] at q
      exact q
  · exact e0.hok.fresh (Nat.le_of_lt (x.above y c (PySem.mem_of_lookup h)))
  · unfold start
    show _ = N.length
    rw [List.length_append, List.length_map, List.length_replicate]
    omega
theorem zFH {cm : Bool} {CX : CXT} {P : Program} {w : World} {K : PySem.W.Frag} {mg : Str → Option Value} {base : Heap} {k : Nat} {f : Addr} {name qual : Str} {params : Arguments} {body : List Stmt} {scope : Scope} {dV kV doc pm cdv ct oc : Value} {an od : Option Addr}
    {osl : Array (Option Value)} {N ps : List Str} {sp : Sp} (lk : K.lookup f = some ⟨oc, od, .func (PySem.W.fnOf name qual params body scope dV kV doc pm an cdv ct), osl⟩) (hcd : PySem.W.codeIn K cdv qual = true) (S : zC N ps scope)
    (len : ∀ vs H Q E, sp vs H Q E → vs.length = ps.length)
    (hbody : ∀ (A : Around) (outer : List Env) (s : Shared) (H : Hp) (vs : List V) (Q : VK) (E : XK), Room cm k (A.deeper (envOfC qual scope s.heap.objs.size f cdv)) → sp vs H Q E →
      ∃ t, PSs (zyZ CX cm P w K mg base N qual scope f cdv A outer s H E) body t ∧ t { nx := fun _ H' => Q .non H', rt := Q } (start N vs) H) :
    FnOk P w K mg base CX cm (k + 1) f (PySem.W.fnOf name qual params body scope dV kV doc pm an cdv ct) ps sp := by
  refine ⟨len, fun A outer s H args us vs Q E hr e0 hb r hsp => ?_⟩
  have hl := len _ _ _ _ hsp
  have KX : K.In s.heap := e0.mod.kin.keeps fun b o e => (e0.bs b o e).1
  have lim : s.heap.NoLimit := e0.mod.nolimit.keeps fun b o e => (e0.bs b o e).1
  have hkind : ∀ y ∈ ps.zip us, scope.names.lookup y.1 = some .local ∨ (scope.names.lookup y.1 = some .cell ∧ ((cellsFrom (s.heap.objs.size + 1) scope.names []).lookup y.1).isSome = true) := fun ⟨n, v⟩ hy => by
    rcases S.par n (List.of_mem_zip hy).1 with q | q
    · exact .inl q
    · exact .inr ⟨q, PySem.W.cellsFrom_some _ _ _ (.inl q)⟩
  refine codeAny_call_function hr.depth (KX _ _ lk) rfl S.co S.gen rfl (PySem.W.codeRec_of KX hcd) (hb _ _ _ _ ?_)
  refine wpAny_newFunctionEnv_cells S.kind hkind fun env he s1 x => ?_
  subst he
  refine ⟨lim.keeps x.toInCall.keep, codeAny_func ?_⟩
  obtain ⟨t, ht, hq⟩ := hbody A outer s H vs Q E (hr.deeper _) hsp
  have I : Inv (zyZ CX cm P w K mg base N qual scope f cdv A outer s H E) [] (start N vs) H s1 := zCj S hr.hd e0 hl r x
  refine wpAny_mono (ht [] s1 (start N vs) H _ I hq) (fun fl s' hs => ?_) fun e s' hs => hs
  have fin : ∀ {σ' : St} {H' : Hp} {v : V} {u : Value}, Inv (zyZ CX cm P w K mg base N qual scope f cdv A outer s H E) [] σ' H' s' → RelV v u → Q v H' → CE outer P w H s Q u s' :=
    fun {σ' H' v u} J rv q => ⟨v, H', J.os, J.bare, J.base, J.hok, rv, q⟩
  cases fl with
  | ret u =>
    obtain ⟨v, σ', H', J, rv, q⟩ := hs
    exact fin J rv q
  | next =>
    obtain ⟨σ', H', J, q⟩ := hs
    exact fin (v := V.non) (u := Value.none) J rfl q
  | brk =>
    obtain ⟨_, _, _, q⟩ := hs
    exact False.elim q
  | cont =>
    obtain ⟨_, _, _, q⟩ := hs
    exact False.elim q
end L2
namespace L2
open PySem PySem.Spec PyProof.Rows
section
variable {X : Cx} {x : Str} {p pos : Pos} {e : Expr} {es : List Expr} {t : TA} {id T : String} {r : List V → Hp → VK → Prop}
def tCB (r : List V → Hp → VK → Prop) (t : TA) : TE := fun σ H Q => t σ H fun vs H1 => r vs H1 Q
theorem yL (hc : zsZ X (.builtin id) r) (hg : Gl X x) (hm : X.mg x = none) (hv : bootBuiltins x = some (.builtin id)) (ha : PA X (e :: es) t) (hn : x ≠ "__name__" := by decide) (hdb : (x == ("__debug__" : Str)) = false := by decide)
    (he : starEach (e :: es) X.env = (false, eval e X.env) :: starEach es X.env := by rfl) (hpl : (backTo pos (starEach es X.env)).any (·.1) = false := by rfl) : PE X (.Call (.Name x p) (e :: es) [] pos) (tCB r t) := by
  intro pins s σ H Q I h
  refine wpAny_Call_Name_kw (zyz I hg hm hv ?_ hn hdb)
  exact PyProof.Rows.callWith_builtin1 (thn (ha pos pins s σ H _ I h) fun us s1 ⟨vs, H1, I1, r1, q1⟩ => hc pins s1 σ H1 vs us Q I1 r1 q1) he hpl
end
end L2
namespace HT
open PySem PyProof.Rows
def lexLt : List Int → List Int → Bool
  | [], [] => false
  | [], _ :: _ => true
  | _ :: _, [] => false
  | x :: xs, y :: ys => if x = y then lexLt xs ys else decide (x < y)
theorem zzR (A : Around) (s : Shared) (a : Int) (t : Tok) (c : Int) (u : Tok) : ∃ e, SeqAt.EqAt A s (.int a t) (.int c u) e ∧ (e = true ↔ a = c) :=
  ⟨(a == c), SeqAt.EqAt.int_int a t c u, by simp⟩
section
open PySem.SeqAt
open PySem.AutoSeq1 (wpAny_loadPart')
open PySem.MeetsSeq PySem.MeetsSeq2 PySem.MeetsSeq3
end
section
variable {prog : Program} {w : World} {A : Around} {E : Value → Shared → Prop} {s : Shared}
def sIx (n d : Nat) : Option Int → Nat
  | none => d
  | some v => if v < 0 then (v + (n : Int)).toNat else min v.toNat n
theorem sIx_nat (n d k : Nat) : sIx n d (some (k : Int)) = min k n := by
  show (if (k : Int) < 0 then ((k : Int) + (n : Int)).toNat else min (k : Int).toNat n) = min k n
  rw [if_neg (by omega), Int.toNat_natCast]
end
end HT
namespace L2
open PySem PySem.Spec PyProof.Rows
abbrev TO := St → Hp → (Option Int → Hp → Prop) → Prop
def PO (X : Cx) (e : Option Expr) (t : TO) : Prop :=
  ∀ (pins : List (Addr × Obj)) (s : Shared) (σ : St) (H : Hp) (Q : Option Int → Hp → Prop), Inv X pins σ H s → t σ H Q →
    wpAny (model X.prog X.w) X.A (evalPart e X.env) (fun u s' => ∃ o H', Inv X pins σ H' s' ∧ IsPart u o ∧ Q o H') X.xe s
def zD2 : TO := fun _ H Q => Q none H
def zFr (t : TE) : TO := fun σ H Q => t σ H fun x H1 => ∃ i, x = .int i ∧ Q (some i) H1
theorem zls {ns : List Int} : ∀ {us : List Value}, Vals (ns.map V.int) us → IntsAre us ns := by
  induction ns with
  | nil => intro us r; rw [List.map_nil] at r; cases r; exact .nil
  | cons n ns ih =>
    intro us r
    rw [List.map_cons] at r
    cases r with
    | cons r1 r2 =>
      obtain ⟨t, e⟩ := r1
      subst e
      exact .cons n t (ih r2)
section
variable {X : Cx} {e : Expr} {te : TE} {lo hi : Option Expr} {tl th : TO} {pos p2 : Pos}
theorem zxB : PO X none zD2 := by
  intro pins s σ H Q I h
  rw [evalPart_none]
  exact wpAny_pure ⟨none, H, I, .none, h⟩
theorem zlm (h : PE X e te) : PO X (some e) (zFr te) := by
  intro pins s σ H Q I hw
  rw [evalPart_some]
  refine thn (h pins s σ H _ I hw) fun u s1 ⟨x, H1, I1, r1, q1⟩ => ?_
  obtain ⟨i, rfl, q⟩ := q1
  obtain ⟨t, rfl⟩ := r1
  exact ⟨some i, H1, I1, .int i t, q⟩
def SlR (X : Cx) (r : V → Option Int → Option Int → Hp → VK → Prop) : Prop :=
  ∀ (pins : List (Addr × Obj)) (s : Shared) (σ : St) (H : Hp) (x : V) (v vl vu : Value) (lo hi : Option Int) (sl : Addr) (Q : VK), Inv X pins σ H s → RelV x v → s.heap.IsSliceOf sl vl vu .none → IsPart vl lo → IsPart vu hi → r x lo hi H Q →
    ∃ T id, typeLookup (.type T) "__getitem__" = pure (some (.builtin id)) ∧ s.TypeIs v T ∧ wpAny (model X.prog X.w) X.A (getItem v (.ref sl)) (EP X pins σ Q) X.xe s
def tSl (r : V → Option Int → Option Int → Hp → VK → Prop) (te : TE) (tl th : TO) : TE := fun σ H Q => te σ H fun x H1 => tl σ H1 fun l H2 => th σ H2 fun u H3 => r x l u H3 Q
theorem zm3 {r : V → Option Int → Option Int → Hp → VK → Prop} (hr : SlR X r) (he : PE X e te) (hl : PO X lo tl) (hu : PO X hi th) : PE X (.Subscript e (.Slice lo hi none p2) pos) (tSl r te tl th) := by
  intro pins s σ H Q I h
  refine Subscript_ (thn (he pins s σ H _ I h) fun v s1 ⟨x, H1, I1, r1, q1⟩ => ?_)
  refine wpAny_Slice (thn (hl pins s1 σ H1 _ I1 q1) fun vl s2 ⟨l, H2, I2, pl, q2⟩ => thn (hu pins s2 σ H2 _ I2 q2) fun vu s3 ⟨u, H3, I3, pu, q3⟩ => ?_)
  rw [evalPart_none]
  refine wpAny_pure ?_
  have I4 : Inv X pins σ H3 { s3 with heap := s3.heap.push { cls := .type "slice", data := .fields #[vl, vu, .none] } } := I3.kept (t' := s3.toks) fun b ob q => Heap.get?_push_of_some _ q
  obtain ⟨T, id, hT, ht, hg⟩ := hr pins { s3 with heap := s3.heap.push { cls := .type "slice", data := .fields #[vl, vu, .none] } } σ H3 x v vl vu l u s3.heap.objs.size Q I4 r1 (Heap.IsSliceOf.new ..) pl pu q3
  show wpAny (model X.prog X.w) X.A (subscriptTail e (.Slice lo hi none p2) v (.ref s3.heap.objs.size)) (EP X pins σ Q) X.xe { s3 with heap := s3.heap.push { cls := .type "slice", data := .fields #[vl, vu, .none] } }
  exact tail_any (ops := [.ref s3.heap.objs.size, v]) ht hT hg (by with_unfolding_all rfl)
def zqT (xs : List V) (lo hi : Option Int) : List V := (xs.drop (HT.sIx xs.length 0 lo)).take (HT.sIx xs.length xs.length hi - HT.sIx xs.length 0 lo)
theorem zzv (xs : List V) (lo hi : Option Int) : (zqT xs lo hi).length ≤ xs.length := by
  unfold zqT
  rw [List.length_take, List.length_drop]
  omega
def zHD (K : PySem.W.Frag) : V → Option Int → Option Int → Hp → VK → Prop := fun x lo hi H Q => ∃ a xs, x = .ref a ∧ SqT K H a xs ∧
  ¬ (HT.sIx xs.length 0 lo = 0 ∧ HT.sIx xs.length xs.length hi = xs.length) ∧ ∀ p, H p = none → Q (.ref p) (upd H p (.tup (zqT xs lo hi)))
def zHk (K : PySem.W.Frag) : R2 := fun x y H Q => ∃ a b ns ms, x = .ref a ∧ y = .ref b ∧ SqT K H a (ns.map V.int) ∧ SqT K H b (ms.map V.int) ∧ Q (.bl (HT.lexLt ns ms)) H
def zGP (K : PySem.W.Frag) : R2 := fun x y H Q => ∃ a b xs ys, x = .ref a ∧ y = .ref b ∧ SqT K H a xs ∧ SqT K H b ys ∧ xs ≠ [] ∧ xs.length + ys.length ≤ sizeLine ∧
  (ys = [] → Q (.ref a) H) ∧ (ys ≠ [] → ∀ p, H p = none → Q (.ref p) (upd H p (.tup (xs ++ ys))))
end
end L2
namespace L2
open PySem PySem.Spec PyProof.Rows
def ixN (n : Nat) (i : Int) : Option Nat := if 0 ≤ i then (if i < n then some i.toNat else none) else if -(n : Int) ≤ i then some (i + n).toNat else none
def atI {α : Type} (xs : List α) (i : Int) : Option α := (ixN xs.length i).bind fun j => xs[j]?
theorem zDW {n : Nat} {i : Int} {j : Nat} (h : ixN n i = some j) : seqIndex? i n = some j ∧ j < n ∧ -(n : Int) ≤ i ∧ i < n := by
  unfold ixN at h
  by_cases h0 : 0 ≤ i
  · rw [if_pos h0] at h
    by_cases h1 : i < n
    · rw [if_pos h1] at h
      have e : i.toNat = j := Option.some.inj h
      exact ⟨by rw [seqIndex_of h0 h1, e], by omega, by omega, h1⟩
    · rw [if_neg h1] at h; cases h
  · rw [if_neg h0] at h
    by_cases h1 : -(n : Int) ≤ i
    · rw [if_pos h1] at h
      have e : (i + n).toNat = j := Option.some.inj h
      exact ⟨by rw [seqIndex_neg (by omega) h1, e], by omega, h1, by omega⟩
    · rw [if_neg h1] at h; cases h
theorem zBa {α : Type} {xs : List α} {i : Int} {v : α} (h : atI xs i = some v) : ∃ j, seqIndex? i xs.length = some j ∧ xs[j]? = some v ∧ j < xs.length ∧ -(xs.length : Int) ≤ i ∧ i < xs.length := by
  unfold atI at h
  cases e : ixN xs.length i with
  | none => rw [e] at h; cases h
  | some j =>
    rw [e] at h
    obtain ⟨h1, h2, h3, h4⟩ := zDW e
    exact ⟨j, h1, h, h2, h3, h4⟩
theorem yj {α : Type} {xs : List α} {j : Nat} {v : α} (h : xs[j]? = some v) : atI xs (j : Int) = some v := by
  have hj : j < xs.length := (List.getElem?_eq_some_iff.mp h).1
  have e : ixN xs.length (j : Int) = some j := by
    unfold ixN
    rw [if_pos (by omega), if_pos (by omega)]; simp
  unfold atI; rw [e]; exact h
theorem zif {α : Type} (xs : List α) (v : α) : atI (xs ++ [v]) (-1) = some v := by
  have hl : (xs ++ [v]).length = xs.length + 1 := by simp
  have e : ixN (xs ++ [v]).length (-1) = some xs.length := by
    unfold ixN
    rw [hl, if_neg (by decide), if_pos (by omega)]
    congr 1
    omega
  unfold atI
  rw [e]
  show (xs ++ [v])[xs.length]? = some v
  simp
def zD3 (b : Expr) : Prop := ∀ o i, subscripted b false o i = operate [o, i] (getItem o i)
def IxR (X : Cx) (r : R2) : Prop :=
  ∀ (value slice : Expr) (pins : List (Addr × Obj)) (s : Shared) (σ : St) (H : Hp) (x y : V) (v u : Value) (Q : VK), Inv X pins σ H s → RelV x v → RelV y u → r x y H Q →
    subscripted slice false v u = operate [v, u] (getItem v u) → wpAny (model X.prog X.w) X.A (subscriptTail value slice v u) (EP X pins σ Q) X.xe s
def MtR (X : Cx) (id : String) (r : V → List V → Hp → VK → Prop) : Prop :=
  ∀ (pins : List (Addr × Obj)) (s : Shared) (σ : St) (H : Hp) (x : V) (xs : List V) (v : Value) (us : List Value) (Q : VK), Inv X pins σ H s → RelV x v → Vals xs us → r x xs H Q →
    wpAny (model X.prog X.w) X.A (call (.builtin id) (v :: us)) (EP X pins σ Q) X.xe s
section
variable {X : Cx} {a b : Expr} {ta tb : TE} {pos : Pos}
theorem Zi {r : R2} (hr : IxR X r) (ha : PE X a ta) (hb : PE X b tb) (hs : zD3 b) : PE X (.Subscript a b pos) (tOp r ta tb) := by
  intro pins s σ H Q I h
  exact Subscript_ (zEF ha hb I h fun v u s2 x y H2 I2 rx ry q => hr a b pins s2 σ H2 x y v u Q I2 rx ry q (hs _ _))
def zEU (K : PySem.W.Frag) : R2 := fun x y H Q => ∃ p xs i v, x = .ref p ∧ y = .int i ∧ SqL K H p xs ∧ atI xs i = some v ∧ Q v H
def zFE (K : PySem.W.Frag) : R2 := fun x y H Q => ∃ p xs i v, x = .ref p ∧ y = .int i ∧ SqT K H p xs ∧ atI xs i = some v ∧ Q v H
def zFR : R2 := fun x y H Q => ∃ z i c, x = .str z ∧ y = .int i ∧ z.length ≤ sizeLine ∧ atI z.cps.toList i = some c ∧ Q (.str ⟨#[c]⟩) H
theorem yJ : IxR X (zEU X.K) := by
  intro value slice pins s σ H x y v u Q I rx ry h hs
  obtain ⟨p, xs, i, z, rfl, rfl, hq, he, q⟩ := h
  cases rx
  obtain ⟨t, rfl⟩ := ry
  obtain ⟨its, r, pl, hz⟩ := I.list hq
  obtain ⟨j, h1, h2, h3, h4, h5⟩ := zBa he
  obtain ⟨w, ew, rw'⟩ := r.get h2
  have hl := r.length
  have hn := zw8
  have fin : EP X pins σ Q w s := ⟨z, H, I, rw', q⟩
  by_cases h0 : 0 ≤ i
  · have hj : i.toNat = j := by
      rw [seqIndex_of h0 h5] at h1
      exact Option.some.inj h1
    exact item_listR pl.isList h0 (by omega) (by rw [hj]; simpa using ew) fin hs
  · have hj : (i + (its.toArray.size : Int)).toNat = j := by
      rw [seqIndex_neg (by omega) h4] at h1
      rw [List.size_toArray, ← hl]
      exact Option.some.inj h1
    exact subscriptTail_builtinR (x := w) pl.isList.typeIs slot_list_getitem.lookup
      (wpAny_getItem_list_neg (Q := fun r s' => r = w ∧ EP X pins σ Q r s') pl.isList (by omega) (by rw [List.size_toArray] <;> omega) (by omega) (by rw [hj]; simpa using ew) ⟨rfl, fin⟩) hs
theorem zig : IxR X (zFE X.K) := by
  intro value slice pins s σ H x y v u Q I rx ry h hs
  obtain ⟨p, xs, i, z, rfl, rfl, hq, he, q⟩ := h
  cases rx
  obtain ⟨t, rfl⟩ := ry
  obtain ⟨its, r, pl, hz⟩ := I.tuple hq
  obtain ⟨j, h1, h2, h3, h4, h5⟩ := zBa he
  obtain ⟨w, ew, rw'⟩ := r.get h2
  have hl := r.length
  have hn := zw8
  have fin : EP X pins σ Q w s := ⟨z, H, I, rw', q⟩
  exact subscriptTail_builtinR (x := w) pl.typeIs slot_tuple_getitem.lookup
    (getItem_tuple (j := j) (Q := fun r s' => r = w ∧ EP X pins σ Q r s') pl (by omega) (by omega) (by rw [List.size_toArray, ← hl]; exact h1) (by simpa using ew) ⟨rfl, fin⟩) hs
def rIx (K : PySem.W.Frag) : R2 := fun x y H Q => zEU K x y H Q ∨ zFE K x y H Q ∨ zFR x y H Q
def zGD : V → V → V → Hp → (Hp → Prop) → Prop := fun o i v H Q => ∃ p xs k j, o = .ref p ∧ i = .int k ∧ H p = some (.lst xs) ∧ ixN xs.length k = some j ∧ Q (upd H p (.lst (xs.set j v)))
theorem zyn (lo hi : Option Int) (n : Nat) : (sliceBounds lo hi none n).1 = ((HT.sIx n 0 lo : Nat) : Int) ∧ (sliceBounds lo hi none n).2.1 = ((HT.sIx n n hi : Nat) : Int) ∧ (sliceBounds lo hi none n).2.2 = 1 := by
  refine ⟨?_, ?_, rfl⟩
  · cases lo with
    | none => simp [sliceBounds, HT.sIx]
    | some i =>
      simp only [sliceBounds, HT.sIx, Option.getD_none, show (1 : Int) > 0 by decide, if_true]
      by_cases h : i < 0
      · simp only [h, if_true] <;> omega
      · simp only [h, if_false] <;> omega
  · cases hi with
    | none => simp [sliceBounds, HT.sIx]
    | some i =>
      simp only [sliceBounds, HT.sIx, Option.getD_none, show (1 : Int) > 0 by decide, if_true]
      by_cases h : i < 0
      · simp only [h, if_true] <;> omega
      · simp only [h, if_false] <;> omega
theorem zvH (its : List Value) (lo hi : Option Int) : slicePick its.toArray lo hi none = ((its.drop (HT.sIx its.length 0 lo)).take (HT.sIx its.length its.length hi - HT.sIx its.length 0 lo)).toArray := by
  obtain ⟨h1, h2, h3⟩ := zyn lo hi its.toArray.size
  unfold slicePick
  rw [h1, h2, h3]
  simp only [sliceRange_one, pick_run, List.size_toArray] <;> rfl
def zFU (K : PySem.W.Frag) : V → Option Int → Option Int → Hp → VK → Prop := fun x lo hi H Q => ∃ a xs, x = .ref a ∧ SqL K H a xs ∧ ∀ p, H p = none → Q (.ref p) (upd H p (.lst (zqT xs lo hi)))
theorem zqN : SlR X (zFU X.K) := by
  intro pins s σ H x v vl vu lo hi sl Q I rx hs pl pu h
  obtain ⟨a, xs, rfl, hx, q⟩ := h
  cases rx
  obtain ⟨its, r, ht, hz⟩ := I.list hx
  have hlen := r.length
  refine ⟨"list", _, slot_list_getitem.lookup, ht.isList.typeIs, ?_⟩
  refine wpAny_getItem_list_slice ht.isList hs pl pu .none (by simp) ?_ (by rw [List.size_toArray] <;> omega)
  rw [zvH, ← hlen]
  refine ⟨.ref s.heap.objs.size, _, I.laid (t' := s.toks) (o := .lst (zqT xs lo hi)) (fun b ob q => Heap.get?_push_of_some _ q) (Nat.le_refl _) ?_, rfl, q _ (I.hok.fresh (Nat.le_refl _))⟩
  exact ⟨Nat.le_trans (zzv xs lo hi) hz, _, 0, (r.drop (HT.sIx xs.length 0 lo)).take (HT.sIx xs.length xs.length hi - HT.sIx xs.length 0 lo), Heap.get?_push_size _ rfl⟩
def zBf : V → Bool
  | .non => true
  | .bl _ => true
  | .int _ => true
  | .str _ => true
  | _ => false
def eqV : V → V → Bool
  | .non, .non => true
  | .bl a, .bl b => a == b
  | .bl a, .int b => (if a then 1 else 0) == b
  | .int a, .bl b => a == (if b then 1 else 0)
  | .int a, .int b => a == b
  | .str a, .str b => a == b
  | _, _ => false
def eqU (x : V) (u : Value) : Bool := match u with
  | .none => eqV .non x
  | .bool b => eqV (.bl b) x
  | .int i _ => eqV (.int i) x
  | .str z _ => eqV (.str z) x
  | _ => false
def inV (x : V) (xs : List V) : Bool := xs.any fun y => eqV y x
def rIn (K : PySem.W.Frag) (neg : Bool) : R2 := fun x y H Q => ∃ p xs, y = .ref p ∧ (SqL K H p xs ∨ SqT K H p xs) ∧ zBf x = true ∧ xs.all zBf = true ∧ Q (.bl (if neg then !inV x xs else inV x xs)) H
theorem yz : zsZ X (.builtin "len") (fun xs H Q => ∃ p ys, xs = [.ref p] ∧ (SqL X.K H p ys ∨ SqT X.K H p ys) ∧ Q (.int ys.length) H) := by
  intro pins s σ H xs us Q I r h
  obtain ⟨p, ys, rfl, hq, q⟩ := h
  obtain ⟨u, rfl, rx⟩ := zDd r
  cases rx
  have hn := zw8
  rcases hq with hq | hq
  · obtain ⟨its, r', pl, hz⟩ := I.list hq
    have hlen := r'.length
    exact Calls.call_len_list pl.isList (by simp only [List.size_toArray] <;> omega) ⟨.int ys.length, H, I.tok _, ⟨s.toks + 1, by rw [List.size_toArray, hlen]⟩, q⟩
  · obtain ⟨its, r', pl, hz⟩ := I.tuple hq
    have hlen := r'.length
    exact len_tuple pl (by simp only [List.size_toArray] <;> omega) ⟨.int ys.length, H, I.tok _, ⟨s.toks + 1, by rw [List.size_toArray, hlen]⟩, q⟩
theorem zxy : zsZ X (.builtin "len") (fun xs H Q => ∃ z, xs = [.str z] ∧ z.length ≤ sizeLine ∧ Q (.int z.length) H) := by
  intro pins s σ H xs us Q I r h
  obtain ⟨z, rfl, hz, q⟩ := h
  obtain ⟨u, rfl, t, rfl⟩ := zDd r
  have hn := zw8
  exact len_str (by omega) ⟨.int z.length, H, I.tok _, ⟨_, rfl⟩, q⟩
def tyV (K : PySem.W.Frag) (T : String) (x : V) (H : Hp) : Prop := match x with
  | .str _ => T = "str"
  | .int _ => T = "int"
  | .ref p => (T = "list" ∧ ∃ xs, SqL K H p xs) ∨ (T = "tuple" ∧ ∃ o, K.lookup p = some o ∧ o.cls = .type "tuple" ∧ o.dict = none) ∨
      (T = "dict" ∧ ((∃ kvs, H p = some (.dK kvs)) ∨ ∃ kvs, H p = some (.dT kvs))) ∨ (T = "set" ∧ ∃ S n, H p = some (.set S n))
  | _ => False
theorem zE8 {pins : List (Addr × Obj)} {σ : St} {H : Hp} {s : Shared} {T : String} {x : V} {v : Value} (I : Inv X pins σ H s) (r : RelV x v) (ty : tyV X.K T x H) :
    s.TypeIs v T ∧ ∀ a, v = .ref a → ∃ ob, s.heap.get? a = some ob ∧ ob.dict = none := by
  cases x with
  | str z =>
    obtain ⟨t, rfl⟩ := r
    cases (show T = "str" from ty)
    exact ⟨typeIs_str s z t, fun _ e => nomatch e⟩
  | int i =>
    obtain ⟨t, rfl⟩ := r
    cases (show T = "int" from ty)
    exact ⟨typeIs_int s i t, fun _ e => nomatch e⟩
  | ref p =>
    cases r
    rcases ty with ⟨rfl, xs, hq⟩ | ⟨rfl, o, hk, hc, hd⟩ | ⟨rfl, hk⟩ | ⟨rfl, S, n, hk⟩
    · obtain ⟨its, _, pl, _⟩ := I.list hq
      refine ⟨pl.isList.typeIs, fun a e => ?_⟩
      cases e
      obtain ⟨o, n, e, c, hd, _⟩ := pl
      exact ⟨o, e, hd⟩
    · refine ⟨⟨o, I.kIn p o hk, hc⟩, fun a e => ?_⟩
      cases e
      exact ⟨o, I.kIn _ o hk, hd⟩
    · have z : ∃ o, s.heap.get? p = some o ∧ o.ExactDict := by
        rcases hk with ⟨kvs, hk⟩ | ⟨kvs, hk⟩
        · obtain ⟨_, _, _, _, o, _, _, e, ex, _⟩ := I.hok p _ hk
          exact ⟨o, e, ex⟩
        · obtain ⟨_, _, _, _, o, _, _, e, ex, _⟩ := I.hok p _ hk
          exact ⟨o, e, ex⟩
      obtain ⟨o, e, ex⟩ := z
      refine ⟨⟨o, e, ex.1⟩, fun a e2 => ?_⟩
      cases e2
      exact ⟨o, e, ex.2.1⟩
    · obtain ⟨o, _, _, _, e, ex, _⟩ := I.hok p _ hk
      refine ⟨⟨o, e, ex.1⟩, fun a e2 => ?_⟩
      cases e2
      exact ⟨o, e, ex.2.1⟩
  | _ => exact False.elim ty
def zG1 (K : PySem.W.Frag) (T : String) (r : V → List V → Hp → VK → Prop) (to : TE) : TE := fun σ H Q => to σ H fun x H1 => tyV K T x H1 ∧ r x [] H1 Q
def tBM (K : PySem.W.Frag) (T : String) (r : V → List V → Hp → VK → Prop) (to : TE) (t : TA) : TE := fun σ H Q => to σ H fun x H1 => tyV K T x H1 ∧ t σ H1 fun xs H2 => r x xs H2 Q
variable {o e : Expr} {es : List Expr} {to : TE} {t : TA} {name : Str} {apos cpos : Pos} {T id : String} {r : V → List V → Hp → VK → Prop}
theorem zmb (pa : PlainAttrs T) (slot : Slot T name id) (hty : typeOf (.builtin id) = pure (.type "method_descriptor")) (hm : MtR X id r) (ho : PE X o to) (ha : PA X (e :: es) t)
    (hbase : attributeBase o name X.env (eval o X.env) = eval o X.env := by rfl)
    (hfew : ((backTo cpos (starEach (e :: es) X.env)).all (fun x => !x.1) && (backToKw cpos (keywordEach [] X.env)).all (fun x => x.1.isSome)
      && decide ((e :: es).length + ([] : List Keyword).length + (if ([] : List Keyword).isEmpty then 0 else 1) < 30)) = true := by rfl)
    (hline : (apos.endLine == cpos.line) = true := by rfl) (hs : starEach (e :: es) X.env = (false, eval e X.env) :: starEach es X.env := by rfl) (hplain : (backTo cpos (starEach es X.env)).any (·.1) = false := by rfl) :
    PE X (.Call (.Attribute o name apos) (e :: es) [] cpos) (tBM X.K T r to t) := by
  intro pins s σ H Q I h
  refine wpAny_Call_method_late hbase hfew hline rfl (thn (ho pins s σ H _ I h) fun v s1 ⟨x, H1, I1, r1, ty, q1⟩ => ?_)
  obtain ⟨h1, h2⟩ := zE8 I1 r1 ty
  refine ⟨T, id, pa, slot, hty, h1, h2, ?_⟩
  have hA := ha cpos pins s1 σ H1 _ I1 q1
  rw [hs] at hA ⊢
  refine Calls.callWith_builtin (by show (false || (backTo cpos (starEach es X.env)).any (·.1)) = false; rw [hplain] <;> rfl) (Calls.evalArgs_plain ?_)
  exact thn hA fun us s2 ⟨vs, H2, I2, r2, q2⟩ => hm pins s2 σ H2 x vs v us Q I2 r1 r2 q2
/- xs.append(e), list.index on a module's tuple .. are MtR facts of 06m -/
end
end L2
namespace L2
open PySem PySem.Spec PyProof.Rows
def MtM (X : Cx) (id : String) (r : V → List V → Hp → VK → Prop) : Prop :=
  ∀ (pins : List (Addr × Obj)) (s : Shared) (σ : St) (H : Hp) (x : V) (xs : List V) (v : Value) (us : List Value) (Q : VK), Inv X pins σ H s → RelV x v → Vals xs us → r x xs H Q →
    wpAny (model X.prog X.w) X.A (call (.builtin id) (v :: us)) (EP X pins σ Q) X.xe s
theorem Vals.one : ∀ {x : V} {us : List Value}, Vals [x] us → ∃ u, us = [u] ∧ RelV x u
  | _, _, .cons r .nil => ⟨_, rfl, r⟩
section
variable {X : Cx} {pins : List (Addr × Obj)} {σ : St} {H : Hp} {s : Shared} {l b : Addr} {xs ys zs : List V}
theorem Inv.lset {its its' : List Value} {n : Nat} {f : Array Value → Array Value} {t' : Nat} (I : Inv X pins σ H s) (hH : H l = some (.lst xs))
    (e : s.heap.get? l = some { cls := .type "list", data := .seq its.toArray n }) (hf : f its.toArray = its'.toArray) (hv : Vals ys its') (hz : ys.length ≤ sizeLine) :
    Inv X pins σ (upd H l (.lst ys)) { s with heap := s.heap.update l (Obj.mapSeq f), toks := t' } := by
  have q := PySem.IsL.update e f
  rw [hf] at q
  refine I.write (x := l) (e := l) (by rw [hH]; exact trivial) (.inl rfl) (fun b' u hb hu => (Heap.get?_update_other s.heap (Obj.mapSeq f) (Ne.symm hb)).trans hu) ⟨_, q⟩ ?_
  exact ⟨hz, its', _, hv, q⟩
theorem Inv.lnew {its : List Value} {t' : Nat} (I : Inv X pins σ H s) (hv : Vals ys its) (hz : ys.length ≤ sizeLine) :
    Inv X pins σ (upd H s.heap.objs.size (.lst ys)) { s with heap := s.heap.push { cls := .type "list", data := .seq its.toArray }, toks := t' } :=
  I.laid (fun _ _ q => Heap.get?_push_of_some _ q) (Nat.le_refl _) ⟨hz, its, 0, hv, Heap.get?_push_size _ rfl⟩
theorem Inv.fresh (I : Inv X pins σ H s) : H s.heap.objs.size = none := I.hok.fresh (Nat.le_refl _)
theorem Inv.lstM (I : Inv X pins σ H s) (hH : H l = some (.lst xs)) : xs.length ≤ sizeLine ∧ ∃ (its : List Value) (n : Nat), Vals xs its ∧ xs.length = its.length ∧ s.heap.get? l = some { cls := .type "list", data := .seq its.toArray n } := by
  obtain ⟨z, its, n, r, e⟩ := I.hok l _ hH
  exact ⟨z, its, n, r, r.length, e⟩
theorem zDf {n : Nat} (h : n ≤ sizeLine) : Builtin.List.listTooLong n = false := by
  unfold Builtin.List.listTooLong
  exact decide_eq_false (by omega)
end
section
variable {X : Cx}
def zDS : V → List V → Hp → VK → Prop := fun x vs H Q => ∃ l xs y, x = .ref l ∧ vs = [y] ∧ H l = some (.lst xs) ∧ xs.length < sizeLine ∧ Q .non (upd H l (.lst (xs ++ [y])))
theorem zeD : MtM X "list.append" zDS := by
  intro pins s σ H x vs v us Q I rx rv h
  obtain ⟨l, xs, y, rfl, rfl, hH, hz, q⟩ := h
  cases rx
  obtain ⟨u, rfl, ru⟩ := rv.one
  obtain ⟨z, its, n, r, hl, e⟩ := I.lstM hH
  refine call_meets F.slot_list_append ⟨_, e, rfl⟩ F.entry_list_append (F.args_list_append_2 _ _) (PySem.list_append l its.toArray n u (by rw [List.size_toArray]; omega)) ⟨e, ?_⟩
  refine ⟨.non, _, I.lset (its' := its ++ [u]) hH e (by simp) (r.append (.cons ru .nil)) ?_, rfl, q⟩
  rw [List.length_append, List.length_singleton]
  omega
def zDD : V → List V → Hp → VK → Prop := fun x vs H Q => ∃ l b xs zs, x = .ref l ∧ vs = [.ref b] ∧ H l = some (.lst xs) ∧ H b = some (.lst zs) ∧ xs.length + zs.length ≤ sizeLine ∧ Q .non (upd H l (.lst (xs ++ zs)))
theorem zwS : MtM X "list.extend" zDD := by
  intro pins s σ H x vs v us Q I rx rv h
  obtain ⟨l, b, xs, zs, rfl, rfl, hH, hB, hz, q⟩ := h
  cases rx
  obtain ⟨u, rfl, ru⟩ := rv.one
  cases ru
  obtain ⟨z, its, n, r, hl, e⟩ := I.lstM hH
  obtain ⟨z2, its2, n2, r2, hl2, e2⟩ := I.lstM hB
  have hsz : its.toArray.size + its2.toArray.size ≤ sizeLine := by rw [List.size_toArray, List.size_toArray]; omega
  have hlong : ¬ (!its.toArray.isEmpty && Builtin.List.listTooLong (its.toArray.size + its2.toArray.size)) = true := by
    rw [zDf hsz, Bool.and_false]
    exact Bool.false_ne_true
  refine call_meets F.slot_list_extend ⟨_, e, rfl⟩ F.entry_list_extend (F.args_list_extend_2 _ _)
    (AutoSeq1.list_extend_list_list_0 l its.toArray n b its2.toArray n2 hlong (by rw [List.size_toArray]; omega) (by omega)) ⟨e, e2, ?_⟩
  refine ⟨.non, _, I.lset (its' := its ++ its2) hH e (by simp) (r.append r2) ?_, rfl, q⟩
  rw [List.length_append]
  omega
def zHB : V → List V → Hp → VK → Prop := fun x vs H Q => ∃ l xs y, x = .ref l ∧ vs = [] ∧ H l = some (.lst xs) ∧ xs[xs.length - 1]? = some y ∧ Q y (upd H l (.lst xs.dropLast))
def zGs : V → List V → Hp → VK → Prop := fun x vs H Q => ∃ l xs i k y, x = .ref l ∧ vs = [.int i] ∧ H l = some (.lst xs) ∧ -(2 ^ 63) ≤ i ∧ i < 2 ^ 63 ∧ seqIndex? i xs.length = some k ∧ xs[k]? = some y ∧ Q y (upd H l (.lst (xs.eraseIdx k)))
def zFJ : V → List V → Hp → VK → Prop := fun x vs H Q => ∃ l xs, x = .ref l ∧ vs = [] ∧ H l = some (.lst xs) ∧ Q .non (upd H l (.lst xs.reverse))
def zFQ : V → List V → Hp → VK → Prop := fun x vs H Q => ∃ l xs, x = .ref l ∧ vs = [] ∧ H l = some (.lst xs) ∧ Q .non (upd H l (.lst []))
def zF3 : R2 := fun x y H Q => ∃ l b xs zs, x = .ref l ∧ y = .ref b ∧ H l = some (.lst xs) ∧ H b = some (.lst zs) ∧ xs.length + zs.length ≤ sizeLine ∧ ∀ p, H p = none → Q (.ref p) (upd H p (.lst (xs ++ zs)))
theorem zAm : OpR X (binaryOp .Add) zF3 := by
  intro pins s σ H x y v u Q I rx ry h
  obtain ⟨l, b, xs, zs, rfl, rfl, hH, hB, hz, q⟩ := h
  cases rx
  cases ry
  obtain ⟨z, its, n, r, hl, e⟩ := I.lstM hH
  obtain ⟨z2, its2, n2, r2, hl2, e2⟩ := I.lstM hB
  refine PySem.P.add_list e e2 ?_ (by rw [List.size_toArray, List.size_toArray]; omega)
  have ea : its.toArray ++ its2.toArray = (its ++ its2).toArray := by simp
  rw [ea]
  exact ⟨.ref _, _, I.lnew (t' := s.toks) (r.append r2) (by rw [List.length_append]; omega), rfl, q _ I.fresh⟩
def zHr : R2 := fun x y H Q => ∃ l k xs, x = .ref l ∧ y = .int k ∧ H l = some (.lst xs) ∧ -(2 ^ 63) ≤ k ∧ k < 2 ^ 63 ∧ xs.length * k.toNat ≤ sizeLine ∧
  ∀ p, H p = none → Q (.ref p) (upd H p (.lst (List.replicate k.toNat xs).flatten))
end
section
variable {prog : Program} {w : World} {A : Around} {E : Value → Shared → Prop} {s : Shared}
end
section
variable {X : Cx}
end
end L2
namespace L2
open PySem PySem.Spec PyProof.Rows
theorem Vals.ints : ∀ {ns : List Int} {us : List Value}, Vals (ns.map V.int) us → IntsAre us ns
  | [], us, h => by
    rw [List.map_nil] at h
    cases h
    exact IntsAre.nil
  | n :: ns, us, h => by
    rw [List.map_cons] at h
    cases h with
    | cons r t =>
      obtain ⟨k, rfl⟩ := r
      exact IntsAre.cons n k (Vals.ints t)
theorem zrr : ∀ {us : List Value} {ns : List Int}, IntsAre us ns → Vals (ns.map V.int) us
  | _, _, .nil => by rw [List.map_nil]; exact Paired.nil
  | _, _, .cons n t h => by rw [List.map_cons]; exact Paired.cons (show RelV (V.int n) (Value.int n t) from ⟨t, rfl⟩) (zrr h)
theorem Vals.bls : ∀ {bs : List Bool} {us : List Value}, Vals (bs.map V.bl) us → us = bs.map Value.bool
  | [], us, h => by
    rw [List.map_nil] at h
    cases h
    rfl
  | b :: bs, us, h => by
    rw [List.map_cons] at h
    cases h with
    | cons r t =>
      cases r
      rw [Vals.bls t, List.map_cons]
theorem Vals.ref1 {a : Addr} {us : List Value} (r : Vals [V.ref a] us) : us = [Value.ref a] := by
  cases r with
  | cons r t =>
    cases t
    cases r
    rfl
section
variable {prog : Program} {w : World} {A : Around} {E : Value → Shared → Prop} {s : Shared} {l : Addr} {its : List Value} {ns : List Int} {Q : Value → Shared → Prop}
end
section
variable {X : Cx}
def zG2 (K : PySem.W.Frag) : List V → Hp → VK → Prop := fun vs H Q => ∃ (a : Addr) (ns : List Int), vs = [V.ref a] ∧ SqL K H a (ns.map V.int) ∧ Q (.int ns.sum) H
def zHm (K : PySem.W.Frag) : List V → Hp → VK → Prop := fun vs H Q => ∃ (a : Addr) (ns : List Int), vs = [V.ref a] ∧ SqL K H a (ns.map V.int) ∧ 0 < ns.length ∧ ∀ m, m ∈ ns → (∀ y, y ∈ ns → y ≤ m) → Q (.int m) H
def zG9 (K : PySem.W.Frag) : List V → Hp → VK → Prop := fun vs H Q => ∃ (a : Addr) (ns : List Int), vs = [V.ref a] ∧ SqL K H a (ns.map V.int) ∧ 0 < ns.length ∧ ∀ m, m ∈ ns → (∀ y, y ∈ ns → m ≤ y) → Q (.int m) H
def zDQ (K : PySem.W.Frag) : List V → Hp → VK → Prop := fun vs H Q => ∃ (a : Addr) (ns : List Int), vs = [V.ref a] ∧ SqL K H a (ns.map V.int) ∧ ns.length < 64 ∧
  ∀ (ns' : List Int) (p : Addr), ns'.Perm ns → ns'.Pairwise (· ≤ ·) → H p = none → Q (.ref p) (upd H p (.lst (ns'.map V.int)))
def zFD (K : PySem.W.Frag) : List V → Hp → VK → Prop := fun vs H Q => ∃ (a : Addr) (xs : List Str), vs = [V.ref a] ∧ SqL K H a (xs.map V.str) ∧ xs.length < 64 ∧
  ∀ (ys : List Str) (p : Addr), ys.Perm xs → sortedS ys = true → H p = none → Q (.ref p) (upd H p (.lst (ys.map V.str)))
theorem zEc {n : Nat} (h : n < 64) : n ≤ sizeLine := by rw [sizeLine_eq]; omega
theorem zBY : zsZ X (.builtin "sorted") (zDQ X.K) := by
  intro pins s σ H vs us Q I r h
  obtain ⟨a, ns, rfl, hs, h64, q⟩ := h
  obtain ⟨its, rv, hl, _⟩ := I.list hs
  rw [Vals.ref1 r]
  have hi := rv.ints
  refine PyProof.Rows.sorted_ints hl.isList hi (by rw [hi.length]; exact h64) fun out ns' h1 h2 h3 => ?_
  obtain ⟨ep, he'⟩ := PyProof.Rows.sortedAll_at s.heap its out
  have hlen : (ns'.map V.int).length ≤ sizeLine := by rw [List.length_map, h2.length_eq]; exact zEc h64
  exact ⟨.ref _, upd H (s.heap.objs.size + 1) (.lst (ns'.map V.int)), I.laid (t' := s.toks) (fun _ _ => PyProof.Rows.sortedAll_old) (Nat.le_succ _) ⟨hlen, out.toList, ep, zrr h1, he'⟩, rfl, q ns' _ h2 h3 (I.hok.fresh (Nat.le_succ _))⟩
def zGN : V → List V → Hp → VK → Prop := fun x xs H Q => ∃ (a : Addr) (ns : List Int), x = V.ref a ∧ xs = [] ∧ H a = some (.lst (ns.map V.int)) ∧ ns.length < 64 ∧
  ∀ ns' : List Int, ns'.Perm ns → ns'.Pairwise (· ≤ ·) → Q .non (upd H a (.lst (ns'.map V.int)))
end
section
variable {X : Cx}
def zGa (K : PySem.W.Frag) : V → List V → Hp → VK → Prop := fun x xs H Q => ∃ (a : Addr) (ys : List V) (y : V) (j : Nat) (z : V), x = V.ref a ∧ xs = [y] ∧ SqL K H a ys ∧ zBf y = true ∧ ys.all zBf = true ∧ ys[j]? = some z ∧ eqV z y = true ∧
  (∀ (m : Nat) (z' : V), m < j → ys[m]? = some z' → eqV z' y = false) ∧ Q (.int (j : Nat)) H
end
section
variable {X : Cx}
end
theorem zyY {prog : Program} {w : World} {A : Around} {E : Value → Shared → Prop} {s : Shared} {l : Addr} {items : Array Value} {Q : Value → Shared → Prop} (hl : s.heap.IsList l items)
    (h : ∀ s₂ : Shared, s₂ = { s with heap := s.heap.push { cls := .type "list_iterator", data := .fields #[.ref l, .int 0 0] } } →
      (s₂.heap.IsListIter s.heap.objs.size l 0 ∧ s₂.heap.IsList l items) → l ≠ s.heap.objs.size → Q (.ref s.heap.objs.size) s₂) : wpAny (model prog w) A (pyIter (.ref l)) Q E s := by
  have hlt : l < s.heap.objs.size := by obtain ⟨_, e, _⟩ := hl; exact Heap.lt_size e
  exact wpAny_pyIter_list hl (h _ rfl ⟨⟨_, Heap.get?_push_size _ rfl, rfl, rfl⟩, hl.push _⟩ (Nat.ne_of_lt hlt))
theorem zs3 {prog : Program} {w : World} {A : Around} {bs : List Bool} {its : List Value} (e : its = bs.map Value.bool) :
    TruthOf prog w A (fun i v => its.toArray[i]? = some v) (fun i => bs.getD i false) := fun i v s Q E hv hq => by
  have hv' : its[i]? = some v := by simpa using hv
  rw [e, List.getElem?_map] at hv'
  obtain ⟨b, hb, rfl⟩ := Option.map_eq_some_iff.mp hv'
  have hg : bs.getD i false = b := by rw [List.getD_eq_getElem?_getD, hb] <;> rfl
  have hq' : Q (bs.getD i false) s := hq
  rw [hg] at hq'
  exact wpAny_truthy_bool hq'
theorem zwW : ∀ bs : List Bool, (List.range bs.length).any (fun i => bs.getD i false) = bs.any id
  | [] => rfl
  | b :: bs => by
    rw [List.length_cons, List.range_succ_eq_map, List.any_cons, List.any_map, List.any_cons, ← zwW bs]
    all_goals rfl
theorem zwA : ∀ bs : List Bool, (List.range bs.length).all (fun i => bs.getD i false) = bs.all id
  | [] => rfl
  | b :: bs => by
    rw [List.length_cons, List.range_succ_eq_map, List.all_cons, List.all_map, List.all_cons, ← zwA bs]
    all_goals rfl
section
variable {X : Cx}
def zFP (K : PySem.W.Frag) : List V → Hp → VK → Prop := fun vs H Q => ∃ (a : Addr) (bs : List Bool), vs = [V.ref a] ∧ SqL K H a (bs.map V.bl) ∧ Q (.bl (bs.any id)) H
def zGl (K : PySem.W.Frag) : List V → Hp → VK → Prop := fun vs H Q => ∃ (a : Addr) (bs : List Bool), vs = [V.ref a] ∧ SqL K H a (bs.map V.bl) ∧ Q (.bl (bs.all id)) H
theorem zAr (hc : X.calm = true) : zsZ X (.builtin "any") (zFP X.K) := by
  intro pins s σ H vs us Q I r h
  obtain ⟨a, bs, rfl, hs, q⟩ := h
  obtain ⟨its, rv, hl, _⟩ := I.list hs
  rw [Vals.ref1 r]
  have hb := rv.bls
  refine call_any_walk (zyY hl.isList fun s₂ e2 st hne => ?_)
  subst e2
  refine ⟨_, _, _, _, _, _, _, rfl, Walks.list (A := X.A.in1) (I.ok.hd hc) _ a hne its.toArray, st, zs3 hb, fun h' tk hk => ?_⟩
  refine ⟨.bl _, H, I.kept fun b o eo => hk b o (fun hmem => ?_) (Heap.get?_push_of_some _ eo), ?_, q⟩
  · rcases List.mem_cons.mp hmem with e1 | hmem
    · exact absurd (e1 ▸ Heap.lt_size eo) (Nat.lt_irrefl _)
    · cases hmem
  · show Value.bool _ = Value.bool _
    rw [← zwW, hb, List.size_toArray, List.length_map]
theorem zAN (hc : X.calm = true) : zsZ X (.builtin "all") (zGl X.K) := by
  intro pins s σ H vs us Q I r h
  obtain ⟨a, bs, rfl, hs, q⟩ := h
  obtain ⟨its, rv, hl, _⟩ := I.list hs
  rw [Vals.ref1 r]
  have hb := rv.bls
  refine call_all_walk (zyY hl.isList fun s₂ e2 st hne => ?_)
  subst e2
  refine ⟨_, _, _, _, _, _, _, rfl, Walks.list (A := X.A.in1) (I.ok.hd hc) _ a hne its.toArray, st, zs3 hb, fun h' tk hk => ?_⟩
  refine ⟨.bl _, H, I.kept fun b o eo => hk b o (fun hmem => ?_) (Heap.get?_push_of_some _ eo), ?_, q⟩
  · rcases List.mem_cons.mp hmem with e1 | hmem
    · exact absurd (e1 ▸ Heap.lt_size eo) (Nat.lt_irrefl _)
    · cases hmem
  · show Value.bool _ = Value.bool _
    rw [← zwA, hb, List.size_toArray, List.length_map]
end
mutual
inductive Dp (K : PySem.W.Frag) (H : Hp) : V → PyData → Prop
  | non : Dp K H .non .none
  | bl (b : Bool) : Dp K H (.bl b) (.bool b)
  | int (i : Int) : Dp K H (.int i) (.int i)
  | str (x : Str) : Dp K H (.str x) (.str x)
  | lst {a : Addr} {xs : List V} {ds : List PyData} : SqL K H a xs → zs9 K H xs ds → Dp K H (.ref a) (.list ds)
  | tup {a : Addr} {xs : List V} {ds : List PyData} : SqT K H a xs → zs9 K H xs ds → Dp K H (.ref a) (.tuple ds)
inductive zs9 (K : PySem.W.Frag) (H : Hp) : List V → List PyData → Prop
  | nil : zs9 K H [] []
  | cons {v : V} {vs : List V} {d : PyData} {ds : List PyData} : Dp K H v d → zs9 K H vs ds → zs9 K H (v :: vs) (d :: ds)
end
section
variable {X : Cx} {pins : List (Addr × Obj)} {σ : St} {H : Hp} {s : Shared}
mutual
theorem Dp.reads (I : Inv X pins σ H s) : ∀ (d : PyData) (v : V) (u : Value), Dp X.K H v d → RelV v u → ∃ as, Reads s.heap u d as
  | .none, _, _, h, r => by
    cases h
    cases r
    exact ⟨_, Reads.none⟩
  | .bool b, _, _, h, r => by
    cases h
    cases r
    exact ⟨_, Reads.bool b⟩
  | .int i, _, _, h, r => by
    cases h
    obtain ⟨t, rfl⟩ := r
    exact ⟨_, Reads.int i t⟩
  | .str x, _, _, h, r => by
    cases h
    obtain ⟨t, rfl⟩ := r
    exact ⟨_, Reads.str x t⟩
  | .list ds, _, _, h, r => by
    cases h with
    | lst hs ha =>
      cases r
      obtain ⟨its, rv, ⟨o, n, ho, hc, _, hd⟩, _⟩ := I.list hs
      obtain ⟨as, hr⟩ := Dp.readsAll I ds _ its ha rv
      exact ⟨_, Reads.list ho hc hd hr⟩
  | .tuple ds, _, _, h, r => by
    cases h with
    | tup hs ha =>
      cases r
      obtain ⟨its, rv, ⟨o, ho, hc, n, hd⟩, _⟩ := I.tuple hs
      obtain ⟨as, hr⟩ := Dp.readsAll I ds _ its ha rv
      exact ⟨_, Reads.tuple ho hc hd hr⟩
  | .dict _, _, _, h, _ => by cases h
theorem Dp.readsAll (I : Inv X pins σ H s) : ∀ (ds : List PyData) (vs : List V) (us : List Value), zs9 X.K H vs ds → Vals vs us → ∃ as, ReadsAll s.heap us ds as
  | [], _, _, h, r => by
    cases h
    cases r
    exact ⟨_, ReadsAll.nil⟩
  | d :: ds, _, _, h, r => by
    cases h with
    | cons h1 h2 =>
      cases r with
      | cons r1 r2 =>
        obtain ⟨as, q1⟩ := Dp.reads I d _ _ h1 r1
        obtain ⟨bs, q2⟩ := Dp.readsAll I ds _ _ h2 r2
        exact ⟨_, ReadsAll.cons q1 q2⟩
end
end
section
variable {X : Cx}
def zGt (K : PySem.W.Frag) : R2 := fun x y H Q => ∃ d e, Dp K H x d ∧ Dp K H y e ∧ SeqAt.shaped d = true ∧ SeqAt.shaped e = true ∧ Q (.bl (PyData.eqv d e)) H
def zFj (K : PySem.W.Frag) : R2 := fun x y H Q => ∃ d e, Dp K H x d ∧ Dp K H y e ∧ SeqAt.shaped d = true ∧ SeqAt.shaped e = true ∧ Q (.bl (!PyData.eqv d e)) H
theorem zAQ (hu : X.A.units + 64 < cLine) : OpR X (compareOp .Eq) (zGt X.K) := by
  intro pins s σ H x y v u Q I rx ry h
  obtain ⟨d, e, hd, he, sd, se, q⟩ := h
  obtain ⟨as, r1⟩ := Dp.reads I d x v hd rx
  obtain ⟨bs, r2⟩ := Dp.reads I e y u he ry
  exact SeqAt.compareEq_shaped r1 r2 sd se hu ⟨.bl _, H, I, rfl, q⟩
theorem zvn (hu : X.A.units + 64 < cLine) : OpR X (compareOp .NotEq) (zFj X.K) := by
  intro pins s σ H x y v u Q I rx ry h
  obtain ⟨d, e, hd, he, sd, se, q⟩ := h
  obtain ⟨as, r1⟩ := Dp.reads I d x v hd rx
  obtain ⟨bs, r2⟩ := Dp.reads I e y u he ry
  exact SeqAt.compareNe_shaped r1 r2 sd se hu ⟨.bl _, H, I, rfl, q⟩
end
end L2
namespace L2
open PySem PySem.Spec PyProof.Rows
abbrev zDk (h : Heap) (c : Addr) (v : Option Value) : Prop := h.IsCell c v
def zGx (scope sc : Scope) : Scope :=
  { scope with names := scope.names.map fun (n, k) => if (k == .free && sc.kind == .function && sc.names.lookup n == some .cell) then (n, .cell) else (n, k) }
def yN (cells : List (Str × Addr)) : List (Str × NameKind) → List (Str × Addr) → List (Str × Addr)
  | [], acc => acc
  | (n, k) :: r, acc => if k == .free then yN cells r ((n, (cells.lookup n).getD 0) :: acc) else yN cells r acc
theorem zqP (env : Env) (f : Str × NameKind → List (Str × Addr) → Sem (ForInStep (List (Str × Addr))))
    (hf : ∀ n k c, f (n, k) c = if k == .free then (do let a ← cellOf env n; pure (.yield ((n, a) :: c))) else pure (.yield c)) :
    ∀ (names : List (Str × NameKind)) (acc : List (Str × Addr)), (∀ y ∈ names, y.2 = .free → ∃ c, env.cells.lookup y.1 = some c) → forIn names acc f = pure (yN env.cells names acc)
  | [], acc, _ => by rw [List.forIn_nil]; rfl
  | (n, k) :: r, acc, h => by
    rw [List.forIn_cons, hf]
    have ih := fun acc => zqP env f hf r acc fun y hy => h y (List.mem_cons_of_mem _ hy)
    unfold yN
    by_cases hk : (k == NameKind.free) = true
    · rw [if_pos hk, if_pos hk]
      obtain ⟨c, hc⟩ := h (n, k) List.mem_cons_self (by simpa using hk)
      have e : cellOf env n = pure c := by unfold cellOf; rw [hc]
      rw [e]
      have e2 : (env.cells.lookup n).getD 0 = c := by rw [hc]; rfl
      rw [e2]
      exact ih _
    · rw [if_neg hk, if_neg hk]
      exact ih _
theorem zut {scope : Scope} {env : Env} (h : ∀ y ∈ scope.names, y.2 = .free → ∃ c, env.cells.lookup y.1 = some c) : closureFor scope env = pure (yN env.cells scope.names []) := by
  simp only [closureFor]
  rw [zqP env _ (fun n k c => rfl) scope.names [] h]
  rfl
theorem zpe {α : Type} : ∀ {l : List (Str × α)} {n : Str} {c : α}, (n, c) ∈ l → ∃ c', l.lookup n = some c'
  | (k, v) :: r, n, c, h => by
    rw [List.lookup_cons]
    cases hb : n == k with
    | true => exact ⟨_, rfl⟩
    | false =>
      rcases List.mem_cons.mp h with e | h
      · cases e; simp at hb
      · exact zpe h
theorem ziS {cells : List (Str × Addr)} : ∀ {names : List (Str × NameKind)} {acc : List (Str × Addr)} {n : Str} {c : Addr}, (n, c) ∈ yN cells names acc → (n, c) ∈ acc ∨ ((n, .free) ∈ names ∧ c = (cells.lookup n).getD 0)
  | [], _, _, _, h => .inl h
  | (m, k) :: r, acc, n, c, h => by
    unfold yN at h
    split at h
    · rename_i hk
      have hk : k = .free := by simpa using hk
      rcases ziS h with h | ⟨h1, h2⟩
      · rcases List.mem_cons.mp h with e | h
        · cases e; exact .inr ⟨hk ▸ List.mem_cons_self, rfl⟩
        · exact .inl h
      · exact .inr ⟨List.mem_cons_of_mem _ h1, h2⟩
    · rcases ziS h with h | ⟨h1, h2⟩
      · exact .inl h
      · exact .inr ⟨List.mem_cons_of_mem _ h1, h2⟩
theorem znx {cells : List (Str × Addr)} : ∀ {names : List (Str × NameKind)} {acc : List (Str × Addr)} {p : Str × Addr}, p ∈ acc → p ∈ yN cells names acc
  | [], _, _, h => h
  | (m, k) :: r, acc, p, h => by
    unfold yN
    split
    · exact znx (List.mem_cons_of_mem _ h)
    · exact znx h
theorem znN {cells : List (Str × Addr)} : ∀ {names : List (Str × NameKind)} {acc : List (Str × Addr)} {n : Str}, (n, .free) ∈ names → (n, (cells.lookup n).getD 0) ∈ yN cells names acc
  | (m, k) :: r, acc, n, h => by
    unfold yN
    rcases List.mem_cons.mp h with e | h
    · cases e
      exact znx List.mem_cons_self
    · split
      · exact znN h
      · exact znN h
theorem zkJ : ∀ {names : List (Str × NameKind)} {h : Heap} {acc : List (Str × Addr)} {x : Str} {c : Addr}, (x, c) ∈ cellsFrom h.objs.size names acc →
    (x, c) ∈ acc ∨ ((x, .cell) ∈ names ∧ h.objs.size ≤ c ∧ zDk (pushCells h names) c none)
  | [], _, _, _, _, h => .inl h
  | (n, k) :: r, h, acc, x, c, hm => by
    unfold cellsFrom at hm
    unfold pushCells
    split at hm
    · rename_i hk
      rw [if_pos hk]
      have hk : k = .cell := by simpa using hk
      rw [← Heap.size_push h { cls := .type "cell", data := .cell none }] at hm
      rcases zkJ hm with hm | ⟨h1, h2, h3⟩
      · rcases List.mem_cons.mp hm with e | hm
        · cases e
          exact .inr ⟨hk ▸ List.mem_cons_self, Nat.le_refl _, _, pushCells_keeps r _ _ _ (Heap.get?_push_size _ rfl), rfl⟩
        · exact .inl hm
      · rw [Heap.size_push] at h2
        exact .inr ⟨List.mem_cons_of_mem _ h1, Nat.le_of_succ_le h2, h3⟩
    · rename_i hk
      rw [if_neg hk]
      rcases zkJ hm with hm | ⟨h1, h2, h3⟩
      · exact .inl hm
      · exact .inr ⟨List.mem_cons_of_mem _ h1, h2, h3⟩
theorem zn5 : ∀ {names : List (Str × NameKind)} {n : Nat} {acc : List (Str × Addr)} {p : Str × Addr}, p ∈ acc → p ∈ cellsFrom n names acc
  | [], _, _, _, h => h
  | (m, k) :: r, n, acc, p, h => by
    unfold cellsFrom
    split
    · exact zn5 (List.mem_cons_of_mem _ h)
    · exact zn5 h
theorem zr2 : ∀ {names : List (Str × NameKind)} {n : Nat} {acc : List (Str × Addr)} {x : Str}, (x, .cell) ∈ names → ∃ c, (x, c) ∈ cellsFrom n names acc
  | (m, k) :: r, n, acc, x, h => by
    unfold cellsFrom
    rcases List.mem_cons.mp h with e | h
    · cases e
      exact ⟨n, zn5 List.mem_cons_self⟩
    · split
      · exact zr2 h
      · exact zr2 h
theorem zrO : ∀ {names : List (Str × NameKind)} {h : Heap} {acc : List (Str × Addr)} {x y : Str} {c : Addr}, (∀ p ∈ acc, p.2 < h.objs.size) → (∀ x y c, (x, c) ∈ acc → (y, c) ∈ acc → x = y) →
    (x, c) ∈ cellsFrom h.objs.size names acc → (y, c) ∈ cellsFrom h.objs.size names acc → x = y
  | [], _, _, _, _, _, _, hi, h1, h2 => hi _ _ _ h1 h2
  | (n, k) :: r, h, acc, x, y, c, hl, hi, h1, h2 => by
    unfold cellsFrom at h1 h2
    split at h1
    · rename_i hk
      rw [if_pos hk] at h2
      rw [← Heap.size_push h { cls := .type "cell", data := .cell none }] at h1 h2
      refine zrO (h := h.push _) (fun p hp => ?_) (fun x y c a b => ?_) h1 h2
      · rw [Heap.size_push]
        rcases List.mem_cons.mp hp with rfl | hp
        · exact Nat.lt_succ_self _
        · exact Nat.lt_succ_of_lt (hl p hp)
      · rcases List.mem_cons.mp a with e | a <;> rcases List.mem_cons.mp b with e' | b
        · cases e; cases e'; rfl
        · cases e; exact absurd (hl _ b) (Nat.lt_irrefl _)
        · cases e'; exact absurd (hl _ a) (Nat.lt_irrefl _)
        · exact hi _ _ _ a b
    · rename_i hk
      rw [if_neg hk] at h2
      exact zrO hl hi h1 h2
theorem zs2 {M : Model} {A : Around} {E : Value → Shared → Prop} {s : Shared} {scope : Scope} {globals : Addr} {closure : List (Str × Addr)} {qual : Str} {func : Option Addr} {code : Value} {around : Env} {builtins : Addr} {Q : Env → Shared → Prop}
    (h : Q (newEnv scope s.heap.objs.size globals (cellsFrom (s.heap.objs.size + 1) scope.names closure) qual func code (some around) builtins)
      { s with heap := pushCells (s.heap.push { cls := .type "dict", data := .dict #[] }) scope.names }) :
    wpAny M A (newFunctionEnv scope globals closure [] qual func code (some around) builtins) Q E s := by
  simp only [newFunctionEnv, Option.isSome_some, if_true]
  refine wpAny_bind (wpAny_alloc ?_)
  refine wpAny_bind (wpAny_layCells _ (fun n k c => rfl) scope.names closure _ _ ?_)
  rw [show ({ s with heap := s.heap.push { cls := .type "dict", data := .dict #[] } } : Shared).heap.objs.size = s.heap.objs.size + 1 from Heap.size_push ..]
  rw [List.forIn_nil]
  exact wpAny_bind (wpAny_pure (wpAny_pure h))
theorem znV {sc : Scope} : ∀ {names : List (Str × NameKind)} {x : Str} {k : NameKind},
    (names.map fun (n, k) => if (k == NameKind.free && sc.kind == .function && sc.names.lookup n == some .cell) then (n, NameKind.cell) else (n, k)).lookup x = some k →
    ∃ k', names.lookup x = some k' ∧ (k = k' ∨ (k' = .free ∧ k = .cell))
  | [], _, _, h => by simp at h
  | (n, k₀) :: r, x, k, h => by
    have ih := @znV sc r x k
    have h' : List.lookup x ((if (k₀ == NameKind.free && sc.kind == .function && sc.names.lookup n == some .cell) = true then (n, NameKind.cell) else (n, k₀)) :: (r.map _)) = some k := h
    cases hx : x == n with
    | true =>
      simp only [List.lookup_cons, hx]
      by_cases hc : (k₀ == NameKind.free && sc.kind == .function && sc.names.lookup n == some .cell) = true
      · rw [if_pos hc] at h'
        simp only [List.lookup_cons, hx] at h'
        cases h'
        simp only [Bool.and_eq_true, beq_iff_eq] at hc
        exact ⟨k₀, rfl, .inr ⟨hc.1.1, rfl⟩⟩
      · rw [if_neg hc] at h'
        simp only [List.lookup_cons, hx] at h'
        cases h'
        exact ⟨_, rfl, .inl rfl⟩
    | false =>
      simp only [List.lookup_cons, hx]
      by_cases hc : (k₀ == NameKind.free && sc.kind == .function && sc.names.lookup n == some .cell) = true
      · rw [if_pos hc] at h'
        simp only [List.lookup_cons, hx] at h'
        exact ih h'
      · rw [if_neg hc] at h'
        simp only [List.lookup_cons, hx] at h'
        exact ih h'
structure ze5 (N : List Str) (sc scope : Scope) (own : List (Str × Nat)) : Prop where
  kind : scope.kind = .function
  uniq : ∀ y ∈ scope.names, scope.names.lookup y.1 = some y.2
  ix : ∀ p ∈ own, N[p.2]? = some p.1
  free : ∀ y ∈ scope.names, y.2 = .free → sc.names.lookup y.1 = some .cell ∨ sc.names.lookup y.1 = some .free
  own : ∀ y ∈ scope.names, y.2 = .local ∨ y.2 = .cell → y.1 ∈ own.map (·.1) ∨ y.1 ∉ N
def ZK (σ : St) : List Nat → St
  | [] => σ
  | v :: vs => (ZK σ vs).set v none
theorem zi5 (σ : St) : ∀ vs : List Nat, (ZK σ vs).length = σ.length
  | [] => rfl
  | v :: vs => by unfold ZK; rw [List.length_set, zi5 σ vs]
theorem zod {σ : St} {i : Nat} {x : V} : ∀ {vs : List Nat}, (ZK σ vs)[i]? = some (some x) → σ[i]? = some (some x) ∧ i ∉ vs
  | [], h => ⟨h, by simp⟩
  | v :: vs, h => by
    unfold ZK at h
    by_cases hi : v = i
    · subst hi
      by_cases hv : v < (ZK σ vs).length
      · rw [List.getElem?_set_self hv] at h; cases h
      · rw [List.getElem?_eq_none (by simpa using hv)] at h; cases h
    · rw [List.getElem?_set_ne hi] at h
      obtain ⟨h1, h2⟩ := zod h
      exact ⟨h1, by simp only [List.mem_cons, not_or]; exact ⟨fun e => hi e.symm, h2⟩⟩
abbrev Cx.blk (X : Cx) (s : Shared) (H : Hp) (scope : Scope) (cenv : Env) (fp : List Addr) : Cx := { X with s_0 := s, H_0 := H, env := cenv, outer := X.stack, ex := fp, fn := fun x => scope.names.lookup x == some .cell, pn := [], xe := fun _ _ => False }
section
variable {X : Cx} {pins : List (Addr × Obj)} {σ : St} {H : Hp} {s : Shared}
theorem zsO {scope : Scope} {own : List (Str × Nat)} {fp : List Addr} (I : Inv X pins σ H s) (ok : ze5 X.N X.env.scope scope own) (hN : X.N.Nodup) (hfp : ∀ b ∈ fp, zpN X pins H b ∧ b < s.heap.objs.size) :
    Inv (X.blk s H scope (compEnvC scope (cellsFrom (s.heap.objs.size + 1) scope.names (yN X.env.cells scope.names [])) s.heap.objs.size X.env) fp) [] (ZK σ (own.map (·.2))) H { s with heap := pushCells (s.heap.push { cls := .type "dict", data := .dict #[] }) scope.names } := by
  have hfree : ∀ y ∈ scope.names, y.2 = .free → ∃ c, X.env.cells.lookup y.1 = some c := fun y hy e => by
    rcases ok.free y hy e with k | k
    · exact I.ok.has _ (.inl k)
    · exact I.ok.has _ (.inr k)
  generalize hcenv : compEnvC scope (cellsFrom (s.heap.objs.size + 1) scope.names (yN X.env.cells scope.names [])) s.heap.objs.size X.env = cenv
  have kp : ∀ b o, s.heap.get? b = some o → (pushCells (s.heap.push { cls := .type "dict", data := .dict #[] }) scope.names).get? b = some o := fun b o e => pushCells_keeps _ _ _ _ (Heap.get?_push_of_some _ e)
  have hL : cenv.locals = s.heap.objs.size := by rw [← hcenv]; rfl
  have hcl : cenv.cells = cellsFrom (s.heap.objs.size + 1) scope.names (yN X.env.cells scope.names []) := by rw [← hcenv]; rfl
  have hsc : cenv.scope = zGx scope X.env.scope := by rw [← hcenv]; rfl
  rw [← Heap.size_push s.heap { cls := .type "dict", data := .dict #[] }] at hcl
  have cm : ∀ {y c}, (y, c) ∈ yN X.env.cells scope.names [] → X.env.cells.lookup y = some c ∧ c < s.heap.objs.size := fun {y c} hm => by
    rcases ziS hm with hm | ⟨h1, rfl⟩
    · cases hm
    · obtain ⟨c, hc⟩ := hfree _ h1 rfl
      rw [hc]
      obtain ⟨w, z⟩ := I.cell _ _ hc
      exact ⟨rfl, z.lt⟩
  have mem : ∀ {y c}, cenv.cells.lookup y = some c → (X.env.cells.lookup y = some c ∧ c < s.heap.objs.size) ∨ (s.heap.objs.size + 1 ≤ c ∧ zDk (pushCells (s.heap.push { cls := .type "dict", data := .dict #[] }) scope.names) c none) := fun {y c} e => by
    rw [hcl] at e
    rcases zkJ (PySem.mem_of_lookup e) with hm | ⟨_, h2, h3⟩
    · exact .inl (cm hm)
    · rw [Heap.size_push] at h2; exact .inr ⟨h2, h3⟩
  have look : ∀ {y}, scope.names.lookup y = some .free → ∃ c, cenv.cells.lookup y = some c ∧ X.env.cells.lookup y = some c := fun {y} hl => by
    have hy : (y, NameKind.free) ∈ scope.names := PySem.mem_of_lookup hl
    obtain ⟨c', e'⟩ := zpe (zn5 (names := scope.names) (n := (s.heap.push { cls := .type "dict", data := .dict #[] }).objs.size) (znN (cells := X.env.cells) (acc := []) hy))
    rw [← hcl] at e'
    refine ⟨c', e', ?_⟩
    rw [hcl] at e'
    rcases zkJ (PySem.mem_of_lookup e') with hm | ⟨h1, _, _⟩
    · exact (cm hm).1
    · have := ok.uniq _ h1
      rw [hl] at this; cases this
  have okB : (X.blk s H scope cenv fp).Ok := by
    refine ⟨I.ok.mod, by show cenv.scope.kind = _; rw [hsc]; exact ok.kind, by show cenv.globals = _; rw [← hcenv]; exact I.ok.glob, by show cenv.builtins = _; rw [← hcenv]; exact I.ok.blt, by show s.heap.objs.size ≤ cenv.locals; rw [hL]; exact Nat.le_refl _,
      fun y z c e1 e2 => ?_, fun y hy => ?_, fun y c z e => ?_, I.ok.hd, I.ok.frames, .inl rfl, fun b hb => ⟨?_, fun y c e z => ?_⟩, I.bs, Nat.le_trans I.ok.bsz I.sz, fun b o e hb => ?_, fun b hb z => ?_, I.stack, I.stkFree⟩
    · have e1 : cenv.cells.lookup y = some c := e1
      have e2 : cenv.cells.lookup z = some c := e2
      rw [hcl] at e1 e2
      refine zrO (fun p hp => ?_) (fun y z c a b => I.ok.inj y z c (cm a).1 (cm b).1) (PySem.mem_of_lookup e1) (PySem.mem_of_lookup e2)
      rw [Heap.size_push]
      exact Nat.lt_succ_of_lt (cm (y := p.1) (c := p.2) hp).2
    · show ∃ c, cenv.cells.lookup y = some c
      have key : ∀ k, cenv.kindOf y = some k → (k = .cell ∨ k = .free) → ∃ c, cenv.cells.lookup y = some c := fun k hk hk' => by
        unfold Env.kindOf at hk
        rw [hsc] at hk
        obtain ⟨k', e, r⟩ := znV hk
        have : k' = .cell ∨ k' = .free := by
          rcases r with rfl | ⟨rfl, _⟩
          · exact hk'
          · exact .inr rfl
        rcases this with rfl | rfl
        · obtain ⟨c, hm⟩ := zr2 (n := (s.heap.push { cls := .type "dict", data := .dict #[] }).objs.size) (acc := yN X.env.cells scope.names []) (PySem.mem_of_lookup e)
          obtain ⟨c', e'⟩ := zpe hm
          exact ⟨c', by rw [hcl]; exact e'⟩
        · obtain ⟨c, h1, _⟩ := look e
          exact ⟨c, h1⟩
      rcases hy with hy | hy
      · exact key _ hy (.inl rfl)
      · exact key _ hy (.inr rfl)
    · have z : (scope.names.lookup y == some NameKind.cell) = true := z
      have z : scope.names.lookup y = some .cell := by simpa using z
      have e : cenv.cells.lookup y = some c := e
      rw [hcl] at e
      rcases zkJ (PySem.mem_of_lookup e) with hm | ⟨_, h2, _⟩
      · rcases ziS hm with hm | ⟨h1, _⟩
        · cases hm
        · have q := ok.uniq _ h1
          rw [z] at q; cases q
      · rw [Heap.size_push] at h2
        exact Nat.le_of_succ_le h2
    · show b ≠ cenv.locals
      rw [hL]; exact Nat.ne_of_lt (hfp b hb).2
    · have e : cenv.cells.lookup y = some c := e
      rcases mem e with ⟨h1, _⟩ | ⟨h1, _⟩
      · exact (hfp b hb).1.2.2.2.2.1 y c h1 z
      · have h2 : s.heap.objs.size + 1 ≤ b := by rw [← z]; exact h1
        exact absurd (Nat.lt_of_lt_of_le (hfp b hb).2 (Nat.le_of_succ_le h2)) (Nat.lt_irrefl _)
    · rcases (hfp b hb).1.2.2.2.1 with z | z
      · exact I.ok.noex b o e z
      · exact absurd (Nat.lt_of_lt_of_le (Heap.lt_size e) (Nat.le_trans I.ok.bsz z)) (Nat.lt_irrefl _)
    · rcases List.mem_cons.mp (I.stkSub b z) with z | z
      · exact (hfp b hb).1.2.1 z
      · exact (hfp b hb).1.2.2.1 z
  refine ⟨okB, rfl, I.bare, Un.kept kp, ⟨fun _ => none, ?_, fun i y av e1 e2 e3 => ?_⟩, fun y c e => ?_, ?_, fun y c e => ?_, fun p hp => ?_, I.hok.kept kp, by rw [zi5]; exact I.len⟩
  · show Heap.Ns _ cenv.locals _
    rw [hL]
    exact Heap.Ns.keeps (Heap.Ns.new ..) fun b o e => pushCells_keeps _ _ _ _ e
  · obtain ⟨e2, hne⟩ := zod e2
    have hfr : scope.names.lookup y = some .free ∧ (cenv.kindOf y = some .cell ∨ cenv.kindOf y = some .free) := by
      have key : ∀ k, cenv.scope.names.lookup y = some k → k = .local ∨ k = .cell ∨ k = .free → scope.names.lookup y = some .free ∧ (cenv.kindOf y = some .cell ∨ cenv.kindOf y = some .free) := fun k hk hk' => by
        have hk0 := hk
        rw [hsc] at hk
        obtain ⟨k', e, r⟩ := znV hk
        have no : ¬ (k' = .local ∨ k' = .cell) := fun hh => by
          rcases ok.own _ (PySem.mem_of_lookup e) hh with e' | e'
          · obtain ⟨p, hp, hpy⟩ := List.mem_map.mp e'
            have e3 := ok.ix p hp
            have : p.1 = y := hpy
            rw [this] at e3
            exact hne (List.mem_map.mpr ⟨p, hp, zrj hN e3 e1⟩)
          · exact e' (List.mem_of_getElem? e1)
        rcases r with rfl | ⟨rfl, rfl⟩
        · rcases hk' with rfl | rfl | rfl
          · exact absurd (.inl rfl) no
          · exact absurd (.inr rfl) no
          · exact ⟨e, .inr hk0⟩
        · exact ⟨e, .inl hk0⟩
      have e3 : Vis cenv.scope y := e3
      rcases e3 with e3 | e3 | e3
      · exact key _ e3 (.inl rfl)
      · exact key _ e3 (.inr (.inl rfl))
      · exact key _ e3 (.inr (.inr rfl))
    obtain ⟨m, hn, hl⟩ := I.loc
    have hvis : Vis X.env.scope y := (ok.free _ (PySem.mem_of_lookup hfr.1) rfl).elim (fun k => .inr (.inl k)) (fun k => .inr (.inr k))
    obtain ⟨w, r, q⟩ := hl i y av e1 e2 hvis
    refine ⟨w, r, .inr ⟨hfr.2, ?_⟩⟩
    obtain ⟨c, h1, h2⟩ := look hfr.1
    rcases q with ⟨k, _⟩ | ⟨_, c', e', z⟩
    · have k : X.env.scope.names.lookup y = some .local := k
      rcases ok.free _ (PySem.mem_of_lookup hfr.1) rfl with k' | k' <;> rw [show X.env.scope.names.lookup y = _ from k'] at k <;> cases k
    · rw [h2] at e'; cases e'
      exact ⟨c, h1, z.keeps kp⟩
  · have e : cenv.cells.lookup y = some c := e
    rcases mem e with ⟨h1, _⟩ | ⟨_, z⟩
    · obtain ⟨w, z⟩ := I.cell y c h1
      exact ⟨w, z.keeps kp⟩
    · exact ⟨_, z⟩
  · show H cenv.locals = none
    rw [hL]; exact I.hok.fresh (Nat.le_refl _)
  · have e : cenv.cells.lookup y = some c := e
    rcases mem e with ⟨h1, _⟩ | ⟨h1, _⟩
    · exact I.freeC y c h1
    · exact I.hok.fresh (Nat.le_of_succ_le h1)
  · exact absurd (show p ∈ ([] : List (Addr × Obj)) ++ [] from hp) (by simp)
theorem zDB {E : Value → Shared → Prop} {D : Addr} {xs : List V} {y : V} {v : Value} {Q : Value → Shared → Prop} (I : Inv X pins σ H s) (hD : H D = some (.lst xs)) (hz : xs.length < sizeLine) (r : RelV y v)
    (h : ∀ s', Inv X pins σ (upd H D (.lst (xs ++ [y]))) s' → Q .none s') : wpAny (model X.prog X.w) X.A (call (.builtin "list.append") [.ref D, v]) Q E s := by
  obtain ⟨hz', its, n, ri, e⟩ := I.hok D _ hD
  have hl := ri.length
  refine append_at (hsz := by rw [List.size_toArray]; omega) e fun h' sb ho' => ?_
  refine h { s with heap := h' } (I.write (t' := s.toks) (by rw [hD]; trivial) (.inl rfl) (fun b u hb q => (sb.2 b hb).trans q) ⟨_, ho'⟩ ⟨by rw [List.length_append]; exact hz, its ++ [v], n + 1, ri.append (.cons r .nil), ?_⟩)
  rw [ho']
  simp
def PTs (X : Cx) (ifs : List Expr) (t : TT) : Prop :=
  ∀ (pins : List (Addr × Obj)) (s : Shared) (σ : St) (H : Hp) (Q : Bool → Hp → Prop), Inv X pins σ H s → t σ H Q →
    wpAny (model X.prog X.w) X.A (forIn ifs true fun c r => if r = true then do let ok ← isTrue c X.env (eval c X.env); pure (ForInStep.yield ok) else pure (ForInStep.yield r)) (TP X pins σ Q) X.xe s
def zEM : TT := fun _ H Q => Q true H
theorem zdh : PTs X [] zEM := fun _ _ _ H _ I h => wpAny_tests_nil ⟨H, I, h⟩
end
theorem zxo {α : Type} {t : Sem α} {Q Q' : α → Shared → Prop} {M : Model} {A : Around} {E : Value → Shared → Prop} {s : Shared} (h : wpAny M A t Q (fun _ _ => False) s) (hQ : ∀ a s, Q a s → Q' a s) : wpAny M A t Q' E s := wpAny_mono h hQ fun _ _ z => False.elim z
theorem zqL {prog : Program} {w : World} {A : Around} {R : Result → Shared → Prop} {s : Shared} {elt target iter : Expr} {ifs : List Expr} {scope : Scope} {pos : Pos} {it acc : Value} {env : Env} (I : Nat → Shared → Prop)
    (turn : ∀ n s, I n s → wpAny (model prog w) A (pyNext it) (fun r s₁ => match r with
      | none => R (.ok .next) s₁
      | some v => wpAny (model prog w) A (letOwnedTupleGo target it v) (fun _ s₁' => wpAny (model prog w) A (assign target env v) (fun _ s₂ =>
          wpAny (model prog w) A (forIn ifs true fun c r => if r = true then do let ok ← isTrue c env (eval c env); pure (ForInStep.yield ok) else pure (ForInStep.yield r)) (fun ok s₃ =>
            if ok = true then wpAny (model prog w) A (eval elt env) (fun x s₄ =>
              wpAny (model prog w) A (call (.builtin "list.append") [acc, x]) (fun _ s₅ => ∃ m, m < n ∧ I m s₅) (notedBy (model prog w) A env fun e s' => R (.error e) s') s₄) (notedBy (model prog w) A env fun e s' => R (.error e) s') s₃
            else ∃ m, m < n ∧ I m s₃) (notedBy (model prog w) A env fun e s' => R (.error e) s') s₂) (notedBy (model prog w) A env fun e s' => R (.error e) s') s₁') (notedBy (model prog w) A env fun e s' => R (.error e) s') s₁) (notedBy (model prog w) A env fun e s' => R (.error e) s') s)
    (n : Nat) (h : I n s) :
    codeAny (model prog w) A (.compLoop (.ListComp elt [⟨target, iter, ifs, 0⟩] scope pos) 0 it acc env) R s := by
  refine codeAny_loop rfl I (fun n s hI => ?_) n h
  show wpAny _ A ((compTurn (.ListComp elt [⟨target, iter, ifs, 0⟩] scope pos) 0 it acc env).onRaise (fun x => do noteFrame x env; theTreesLotGoes x)) _ _ s
  refine wpAny_noted ?_
  rw [compTurn_list]
  refine wpAny_bind (wpAny_standAt (wpAny_bind (wpAny_mono (turn n s hI) (fun r s₁ h₁ => ?_) fun _ _ h' => h')))
  cases r with
  | none => exact wpAny_pure h₁
  | some v =>
    refine wpAny_bind (wpAny_mono h₁ (fun _ s₁' h₁' => ?_) fun _ _ h' => h')
    refine wpAny_bind (wpAny_mono h₁' (fun _ s₂ h₂ => wpAny_bind (wpAny_mono h₂ (fun ok s₃ h₃ => ?_) fun _ _ h' => h')) fun _ _ h' => h')
    cases ok with
    | false => exact wpAny_pure ⟨rfl, h₃⟩
    | true =>
      exact wpAny_bind (wpAny_bind (wpAny_mono h₃ (fun x s₄ h₄ => wpAny_bind (wpAny_mono h₄ (fun _ s₅ h₅ => wpAny_pure (wpAny_pure ⟨rfl, h₅⟩)) fun _ _ h' => h')) fun _ _ h' => h'))
section
variable {X : Cx}
def tLc (wi : TI) (g : TG) (tt : TT) (te : TE) (vs : List Nat) : TE := fun σ H Q => wi σ H fun J H1 => ∀ D, H1 D = none → ∃ W : Nat → Nat → Hp → Prop, (∃ m, W 0 m (upd H1 D (.lst []))) ∧ ∀ i m H, W i m H →
  (J.stop i H ∧ Q (.ref D) H) ∨ (J.go i H ∧ ∃ Nx : Hp → Prop, (∀ H', Nx H' → ∃ m', m' < m ∧ W (i + 1) m' H') ∧ ∀ x H', J.yld i H x H' → g x (ZK σ vs) H' fun σ2 H2 => ZK σ2 vs = ZK σ vs ∧ tt σ2 H2 fun b H3 =>
    if b = true then te σ2 H3 fun y H4 => ∃ acc, H4 D = some (.lst acc) ∧ acc.length < sizeLine ∧ Nx (upd H4 D (.lst (acc ++ [y]))) else Nx H3)
theorem zD8 {pins : List (Addr × Obj)} {s : Shared} {σ : St} {H : Hp} {Q : VK} {elt tg iter : Expr} {ifs : List Expr} {scope : Scope} {own : List (Str × Nat)} {pos pos' : Pos} {wi : TI} {g : TG} {tt : TT} {te : TE} {use : Option (Value → Sem Unit)} {Qf : Value → Shared → Prop}
    (hc : X.calm = true) (hN : X.N.Nodup) (I : Inv X pins σ H s) (hi : PI X tg iter wi) (ok : ze5 X.N X.env.scope scope own)
    (hg : ∀ (s : Shared) (H : Hp) (C : Addr) (cl : List (Str × Addr)) (fp : List Addr), PG (X.blk s H scope (compEnvC scope cl C X.env) fp) tg g) (ht : ∀ (s : Shared) (H : Hp) (C : Addr) (cl : List (Str × Addr)) (fp : List Addr), PTs (X.blk s H scope (compEnvC scope cl C X.env) fp) ifs tt)
    (he : ∀ (s : Shared) (H : Hp) (C : Addr) (cl : List (Str × Addr)) (fp : List Addr), PE (X.blk s H scope (compEnvC scope cl C X.env) fp) elt te) (hs : ∀ x, foldedSetIterable iter X.env x = pure x)
    (h : tLc wi g tt te (own.map (·.2)) σ H Q)
    (hRR : ∀ D C s' m H', Inv X pins σ H' s' → Q (.ref D) H' → s'.heap.Ns C m → zpN X pins H' C → compPost (model X.prog X.w) X.A X.xe use Qf (.ref D) C (.ok .next) s') :
    wpAny (model X.prog X.w) X.A (comprehension (.ListComp elt [⟨tg, iter, ifs, 0⟩] scope pos) scope X.env pos' (newList []) false (eval iter X.env) use) Qf X.xe s := by
  have hfree : ∀ y ∈ scope.names, y.2 = .free → ∃ c, X.env.cells.lookup y.1 = some c := fun y hy e => by
    rcases ok.free y hy e with k | k
    · exact I.ok.has _ (.inl k)
    · exact I.ok.has _ (.inr k)
  refine wpAny_comprehension_free (use := use) rfl hs (zut hfree) ok.kind (fun y hy e => by rw [ok.uniq y hy, e])
    (thn (hi pins s σ H _ I h) fun xv s1 hx => thn hx fun itv s2 h2 => ?_)
  obtain ⟨it, fp, tn, J, H2, e, I2, T, st2, f2, q⟩ := h2
  subst e
  refine wpAny_newObj_type (zs2 ?_) (by show 0 ≤ sizeLine; decide)
  generalize hD : s2.heap.objs.size = D
  have hDn : H2 D = none := I2.hok.fresh (Nat.le_of_eq hD)
  obtain ⟨W, ⟨m0, w0⟩, turn⟩ := q D hDn
  generalize hs3 : ({ s2 with heap := s2.heap.push { cls := .type "list", data := .seq ([] : List Value).toArray } } : Shared) = s3
  have I3 : Inv X pins σ (upd H2 D (.lst [])) s3 := by
    rw [← hs3]
    refine I2.laid (t' := s2.toks) (fun b o e => Heap.get?_push_of_some _ e) (Nat.le_of_eq hD) ⟨Nat.zero_le _, [], 0, .nil, ?_⟩
    rw [← hD]
    exact Heap.get?_push_size _ rfl
  have h3 : s3.heap = s2.heap.push { cls := .type "list", data := .seq ([] : List Value).toArray } := by rw [← hs3]
  have sz : ∀ b ∈ fp, b < s2.heap.objs.size := fun b hb => by
    obtain ⟨o, e, _⟩ := T.obj _ _ st2 b hb
    exact Heap.lt_size e
  have f3 : ∀ b ∈ fp, zpN X pins (upd H2 D (.lst [])) b ∧ b < s3.heap.objs.size := fun b hb => by
    have hlt := sz b hb
    refine ⟨⟨?_, (f2 b hb).2⟩, by rw [h3, Heap.size_push]; exact Nat.lt_succ_of_lt hlt⟩
    rw [ze (by rw [← hD]; exact Nat.ne_of_lt hlt)]
    exact (f2 b hb).1
  have st3 : tn 0 s3.heap := T.keep _ _ _ st2 fun b _ o e => by rw [h3]; exact Heap.get?_push_of_some _ e
  have I4 := zsO I3 ok hN f3
  have pg := hg s3 (upd H2 D (.lst [])) s3.heap.objs.size (cellsFrom (s3.heap.objs.size + 1) scope.names (yN X.env.cells scope.names [])) fp
  have pt := ht s3 (upd H2 D (.lst [])) s3.heap.objs.size (cellsFrom (s3.heap.objs.size + 1) scope.names (yN X.env.cells scope.names [])) fp
  have pe := he s3 (upd H2 D (.lst [])) s3.heap.objs.size (cellsFrom (s3.heap.objs.size + 1) scope.names (yN X.env.cells scope.names [])) fp
  show codeAny _ _ (.compStart (.ListComp elt [⟨tg, iter, ifs, 0⟩] scope pos) 0 (.ref it) (.ref D) (compEnvC scope (cellsFrom (s3.heap.objs.size + 1) scope.names (yN X.env.cells scope.names [])) s3.heap.objs.size X.env)) (compPost (model X.prog X.w) X.A X.xe use Qf (.ref D) s3.heap.objs.size) { s3 with heap := pushCells (s3.heap.push { cls := .type "dict", data := .dict #[] }) scope.names }
  have nfp : ∀ b ∈ fp, (upd H2 D (.lst [])) b = none := fun b hb => (f3 b hb).1.1
  generalize hce : compEnvC scope (cellsFrom (s3.heap.objs.size + 1) scope.names (yN X.env.cells scope.names [])) s3.heap.objs.size X.env = ce at I4 pg pt pe ⊢
  have cL : ce.locals = s3.heap.objs.size := by subst hce; rfl
  generalize hH3 : upd H2 D (.lst []) = H3 at I3 I4 pg pt pe w0 nfp f3
  generalize hs4 : ({ s3 with heap := pushCells (s3.heap.push { cls := .type "dict", data := .dict #[] }) scope.names } : Shared) = s4 at I4 ⊢
  have st4 : tn 0 s4.heap := T.keep _ _ _ st3 fun b _ o e => by rw [← hs4]; exact pushCells_keeps _ _ _ _ (Heap.get?_push_of_some _ e)
  have stat : ∀ {σ' : St} {H' : Hp} {s' : Shared}, Inv (X.blk s3 H3 scope ce fp) [] σ' H' s' → (∀ b ∈ fp, H' b = none) → ∀ b ∈ fp, zpN (X.blk s3 H3 scope ce fp) [] H' b := fun {σ' H' s'} I' hn b hb =>
    ⟨hn b hb, (I'.ok.exf b hb).1, I'.ok.exfs b hb, .inl hb, fun x c e => (I'.ok.exf b hb).2 x c e, fun p hp => absurd (show p ∈ ([] : List (Addr × Obj)) ++ [] from hp) (by simp)⟩
  have loop : codeAny (model X.prog X.w) X.A (.compLoop (.ListComp elt [⟨tg, iter, ifs, 0⟩] scope pos) 0 (.ref it) (.ref D) ce) (compPost (model X.prog X.w) X.A X.xe use Qf (.ref D) s3.heap.objs.size) s4 := by
    refine zqL (fun n s' => ∃ i H', Inv (X.blk s3 H3 scope ce fp) [] (ZK σ (own.map (·.2))) H' s' ∧ tn i s'.heap ∧ (∀ b ∈ fp, H' b = none) ∧ W i n H') ?_ m0 ⟨0, H3, I4, st4, nfp, w0⟩
    rintro n s5 ⟨i, H5, I5, st5, n5, w5⟩
    rcases turn i n H5 w5 with ⟨stop, qq⟩ | ⟨go, Nx, hNx, step⟩
    · have td := T.done (X.blk s3 H3 scope ce fp) rfl rfl rfl hc i [] s5 _ H5 (fun _ _ => False) I5 (stat I5 n5) st5 stop
      refine zxo td fun r s6 ⟨hr, I6⟩ => ?_
      subst hr
      have I7 : Inv X pins σ H5 s6 := I3.call' (ch := fp) I6.os I6.base I6.hok I6.bare fun b hb => ⟨(f3 b hb).1.2.2.2.1, (f3 b hb).1.2.1, (f3 b hb).1.2.2.2.2.1, (f3 b hb).1.2.2.2.2.2⟩
      have nC : H5 s3.heap.objs.size = none := by
        have z : H5 ce.locals = none := I6.free
        rw [cL] at z
        exact z
      obtain ⟨m, hn, _⟩ := I6.loc
      have hn : s6.heap.Ns ce.locals m := hn
      rw [cL] at hn
      exact hRR D s3.heap.objs.size s6 m H5 I7 qq hn (I3.fpOk (Nat.le_refl _) nC)
    · have ti := T.item (X.blk s3 H3 scope ce fp) rfl rfl rfl hc i [] s5 _ H5 (fun _ _ => False) I5 (stat I5 n5) st5 go
      refine zxo ti fun r s6 ⟨u, hr, h6⟩ => ?_
      subst hr
      refine zxo h6 fun _ s7 ⟨x, H7, I7, r7, y7, st7, n7⟩ => ?_
      have I7' := I7.pinned (stat I7 n7) (T.obj _ _ st7)
      refine zxo (pg _ s7 _ H7 x u _ I7' r7 (step x H7 y7)) fun _ s8 ⟨σ8, H8, I8, hw8, q8⟩ => ?_
      refine zxo (pt _ s8 σ8 H8 _ I8 q8) fun b s9 ⟨H9, I9, q9⟩ => ?_
      have fin : ∀ {s' : Shared} {H' : Hp}, Inv (X.blk s3 H3 scope ce fp) ([] ++ zsb fp s7.heap) σ8 H' s' → Nx H' → ∃ m, m < n ∧ ∃ i H', Inv (X.blk s3 H3 scope ce fp) [] (ZK σ (own.map (·.2))) H' s' ∧ tn i s'.heap ∧ (∀ b ∈ fp, H' b = none) ∧ W i m H' := fun {s' H'} I' nx => by
        obtain ⟨m', hm, w'⟩ := hNx H' nx
        have pin' : ∀ b ∈ fp, ∀ o, s7.heap.get? b = some o → s'.heap.get? b = some o ∧ H' b = none := fun b hb o e =>
          let z := I'.pin (b, o) (List.mem_append_right _ (List.mem_append_right _ (zlj hb e)))
          ⟨z.1, z.2.1⟩
        have hl : (ZK σ (own.map (·.2))).length = σ8.length := by rw [← hw8, zi5]
        refine ⟨m', hm, i + 1, H', (I'.unpinned (pins := [])).weak hl (fun j v e => ?_), T.keep _ _ _ st7 fun b hb o e => (pin' b hb o e).1, fun b hb => ?_, w'⟩
        · rw [← hw8] at e
          exact (zod e).1
        · obtain ⟨o, e, _⟩ := T.obj _ _ st7 b hb
          exact (pin' b hb o e).2
      cases b with
      | false =>
        simp only [Bool.false_eq_true, if_false] at q9 ⊢
        exact fin I9 q9
      | true =>
        simp only [if_true] at q9 ⊢
        refine zxo (pe _ s9 σ8 H9 _ I9 q9) fun z s10 ⟨yv, H10, I10, r10, acc, hD10, hz10, nx⟩ => ?_
        exact zDB (X := X.blk s3 H3 scope ce fp) I10 hD10 hz10 r10 fun s11 I11 => fin I11 nx
  exact codeAny_compStart_list loop (T.self X.A 0 _ _ _ st4 loop)
theorem zzk {elt tg iter : Expr} {ifs : List Expr} {scope : Scope} {own : List (Str × Nat)} {pos : Pos} {wi : TI} {g : TG} {tt : TT} {te : TE} (hc : X.calm = true) (hN : X.N.Nodup) (hi : PI X tg iter wi) (ok : ze5 X.N X.env.scope scope own)
    (hg : ∀ (s : Shared) (H : Hp) (C : Addr) (cl : List (Str × Addr)) (fp : List Addr), PG (X.blk s H scope (compEnvC scope cl C X.env) fp) tg g) (ht : ∀ (s : Shared) (H : Hp) (C : Addr) (cl : List (Str × Addr)) (fp : List Addr), PTs (X.blk s H scope (compEnvC scope cl C X.env) fp) ifs tt)
    (he : ∀ (s : Shared) (H : Hp) (C : Addr) (cl : List (Str × Addr)) (fp : List Addr), PE (X.blk s H scope (compEnvC scope cl C X.env) fp) elt te) (hs : ∀ x, foldedSetIterable iter X.env x = pure x := by intro _; rfl) :
    PE X (.ListComp elt [⟨tg, iter, ifs, 0⟩] scope pos) (tLc wi g tt te (own.map (·.2))) := by
  intro pins s σ H Q I h
  rw [eval_ListComp]
  refine zD8 hc hN I hi ok hg ht he hs h fun D C s' m H' I' q hn f => ⟨m, hn, fun h'' sb => ?_⟩
  obtain ⟨f0, f1, f2, f3, f4, f5⟩ := f
  exact ⟨.ref D, H', I'.turned (t' := s'.toks) (fun b o hb e => (sb.2 b hb).trans e) f0 f1 f3 f4 f5, rfl, q⟩
end
theorem zC6 {lo : Int} {n : Nat} {g : TG} {tt : TT} {te : TE} {vs : List Nat} {σ : St} {H1 : Hp} {D : Addr} {Qd : Hp → Prop} (Pv : Nat → Hp → Prop) (h0 : Pv 0 (upd H1 D (.lst [])))
    (hs : ∀ i H, i < n → Pv i H → g (.int (lo + i)) (ZK σ vs) H fun σ2 H2 => ZK σ2 vs = ZK σ vs ∧ tt σ2 H2 fun b H3 =>
      if b = true then te σ2 H3 fun y H4 => ∃ acc, H4 D = some (.lst acc) ∧ acc.length < sizeLine ∧ Pv (i + 1) (upd H4 D (.lst (acc ++ [y]))) else Pv (i + 1) H3) (hd : ∀ H, Pv n H → Qd H) :
    ∃ W : Nat → Nat → Hp → Prop, (∃ m, W 0 m (upd H1 D (.lst []))) ∧ ∀ i m H, W i m H →
      ((Itr lo n).stop i H ∧ Qd H) ∨ ((Itr lo n).go i H ∧ ∃ Nx : Hp → Prop, (∀ H', Nx H' → ∃ m', m' < m ∧ W (i + 1) m' H') ∧ ∀ x H', (Itr lo n).yld i H x H' → g x (ZK σ vs) H' fun σ2 H2 => ZK σ2 vs = ZK σ vs ∧ tt σ2 H2 fun b H3 =>
        if b = true then te σ2 H3 fun y H4 => ∃ acc, H4 D = some (.lst acc) ∧ acc.length < sizeLine ∧ Nx (upd H4 D (.lst (acc ++ [y]))) else Nx H3) := by
  refine ⟨fun i m H => m = n - i ∧ i ≤ n ∧ Pv i H, ⟨n, by simp, Nat.zero_le _, h0⟩, ?_⟩
  rintro i m H ⟨rfl, hi, p⟩
  by_cases hlt : i < n
  · refine .inr ⟨hlt, Pv (i + 1), fun H' p' => ⟨n - (i + 1), by omega, rfl, hlt, p'⟩, fun x H' y => ?_⟩
    obtain ⟨e, y⟩ := y
    subst e y
    exact hs i _ hlt p
  · have e : i = n := by omega
    subst e
    exact .inl ⟨Nat.le_refl _, hd H p⟩
theorem zho {K : PySem.W.Frag} {a : Addr} {xs : List V} {g : TG} {tt : TT} {te : TE} {vs : List Nat} {σ : St} {H1 : Hp} {D : Addr} {Qd : Hp → Prop} (Pv : Nat → Hp → Prop) (h0 : Pv 0 (upd H1 D (.lst []))) (hl : ∀ i H, i ≤ xs.length → Pv i H → SqL K H a xs)
    (hs : ∀ i x H, xs[i]? = some x → Pv i H → g x (ZK σ vs) H fun σ2 H2 => ZK σ2 vs = ZK σ vs ∧ tt σ2 H2 fun b H3 =>
      if b = true then te σ2 H3 fun y H4 => ∃ acc, H4 D = some (.lst acc) ∧ acc.length < sizeLine ∧ Pv (i + 1) (upd H4 D (.lst (acc ++ [y]))) else Pv (i + 1) H3) (hd : ∀ H, Pv xs.length H → Qd H) :
    ∃ W : Nat → Nat → Hp → Prop, (∃ m, W 0 m (upd H1 D (.lst []))) ∧ ∀ i m H, W i m H →
      ((Itl K a).stop i H ∧ Qd H) ∨ ((Itl K a).go i H ∧ ∃ Nx : Hp → Prop, (∀ H', Nx H' → ∃ m', m' < m ∧ W (i + 1) m' H') ∧ ∀ x H', (Itl K a).yld i H x H' → g x (ZK σ vs) H' fun σ2 H2 => ZK σ2 vs = ZK σ vs ∧ tt σ2 H2 fun b H3 =>
        if b = true then te σ2 H3 fun y H4 => ∃ acc, H4 D = some (.lst acc) ∧ acc.length < sizeLine ∧ Nx (upd H4 D (.lst (acc ++ [y]))) else Nx H3) := by
  refine ⟨fun i m H => m = xs.length - i ∧ i ≤ xs.length ∧ Pv i H, ⟨xs.length, by simp, Nat.zero_le _, h0⟩, ?_⟩
  rintro i m H ⟨rfl, hi, p⟩
  have q := hl i H hi p
  by_cases hlt : i < xs.length
  · refine .inr ⟨⟨xs, xs[i], q, by simp [hlt]⟩, Pv (i + 1), fun H' p' => ⟨xs.length - (i + 1), by omega, rfl, hlt, p'⟩, fun x H' y => ?_⟩
    obtain ⟨e, y⟩ := y
    subst e
    exact hs i x _ (y xs q) p
  · have e : i = xs.length := by omega
    subst e
    exact .inl ⟨⟨xs, q, Nat.le_refl _⟩, hd H p⟩
theorem zE3 {K : PySem.W.Frag} {a : Addr} {xs : List V} {g : TG} {tt : TT} {te : TE} {vs : List Nat} {σ : St} {H1 : Hp} {D : Addr} {Qd : Hp → Prop} (Pv : Nat → Hp → Prop) (h0 : Pv 0 (upd H1 D (.lst []))) (hl : ∀ i H, i ≤ xs.length → Pv i H → SqT K H a xs)
    (hs : ∀ i x H, xs[i]? = some x → Pv i H → g x (ZK σ vs) H fun σ2 H2 => ZK σ2 vs = ZK σ vs ∧ tt σ2 H2 fun b H3 =>
      if b = true then te σ2 H3 fun y H4 => ∃ acc, H4 D = some (.lst acc) ∧ acc.length < sizeLine ∧ Pv (i + 1) (upd H4 D (.lst (acc ++ [y]))) else Pv (i + 1) H3) (hd : ∀ H, Pv xs.length H → Qd H) :
    ∃ W : Nat → Nat → Hp → Prop, (∃ m, W 0 m (upd H1 D (.lst []))) ∧ ∀ i m H, W i m H →
      ((Itt K a).stop i H ∧ Qd H) ∨ ((Itt K a).go i H ∧ ∃ Nx : Hp → Prop, (∀ H', Nx H' → ∃ m', m' < m ∧ W (i + 1) m' H') ∧ ∀ x H', (Itt K a).yld i H x H' → g x (ZK σ vs) H' fun σ2 H2 => ZK σ2 vs = ZK σ vs ∧ tt σ2 H2 fun b H3 =>
        if b = true then te σ2 H3 fun y H4 => ∃ acc, H4 D = some (.lst acc) ∧ acc.length < sizeLine ∧ Nx (upd H4 D (.lst (acc ++ [y]))) else Nx H3) := by
  refine ⟨fun i m H => m = xs.length - i ∧ i ≤ xs.length ∧ Pv i H, ⟨xs.length, by simp, Nat.zero_le _, h0⟩, ?_⟩
  rintro i m H ⟨rfl, hi, p⟩
  have q := hl i H hi p
  by_cases hlt : i < xs.length
  · refine .inr ⟨⟨xs, xs[i], q, by simp [hlt]⟩, Pv (i + 1), fun H' p' => ⟨xs.length - (i + 1), by omega, rfl, hlt, p'⟩, fun x H' y => ?_⟩
    obtain ⟨e, y⟩ := y
    subst e
    exact hs i x _ (y xs q) p
  · have e : i = xs.length := by omega
    subst e
    exact .inl ⟨⟨xs, q, Nat.le_refl _⟩, hd H p⟩
def zG6 (N : List Str) (sc scope : Scope) (own : List (Str × Nat)) : Bool :=
  (match scope.kind with | .function => true | _ => false) && (scope.names.all fun y => decide (scope.names.lookup y.1 = some y.2)) && (own.all fun p => decide (N[p.2]? = some p.1)) &&
    (scope.names.all fun y => match y.2 with
      | .free => (match sc.names.lookup y.1 with | some .cell => true | some .free => true | _ => false)
      | .local => decide (y.1 ∈ own.map (·.1)) || decide (y.1 ∉ N)
      | .cell => decide (y.1 ∈ own.map (·.1)) || decide (y.1 ∉ N)
      | _ => true)
end L2
namespace L2
open PySem PySem.Spec PyProof.Rows
section
variable {prog : Program} {w : World} {A : Around} {R : Result → Shared → Prop} {s : Shared} {elt t0 i0 t1 i1 : Expr} {ifs0 ifs1 : List Expr} {scope : Scope} {pos : Pos} {it acc : Value} {env : Env}
end
section
variable {X : Cx}
def zG4 (wi : TI) (g : TG) (tt : TT) (wi1 : TI) (g1 : TG) (tt1 : TT) (te : TE) (vs vs1 : List Nat) : TE := fun σ H Q => wi σ H fun J H1 => ∀ D, H1 D = none → ∃ W : Nat → Nat → Hp → Prop, (∃ m, W 0 m (upd H1 D (.lst []))) ∧ ∀ i m H, W i m H →
  (J.stop i H ∧ Q (.ref D) H) ∨ (J.go i H ∧ ∃ Nx : Hp → Prop, (∀ H', Nx H' → ∃ m', m' < m ∧ W (i + 1) m' H') ∧ ∀ x H', J.yld i H x H' → g x (ZK σ vs) H' fun σ2 H2 => ZK σ2 vs = ZK σ vs ∧ tt σ2 H2 fun b H3 =>
    if b = true then wi1 σ2 H3 fun J1 H4 => ∃ W1 : Nat → Nat → Hp → Prop, (∃ m, W1 0 m H4) ∧ ∀ j k H, W1 j k H →
      (J1.stop j H ∧ Nx H) ∨ (J1.go j H ∧ ∃ Nx1 : Hp → Prop, (∀ H', Nx1 H' → ∃ k', k' < k ∧ W1 (j + 1) k' H') ∧ ∀ x H', J1.yld j H x H' → g1 x (ZK σ2 vs1) H' fun σ3 H5 => ZK σ3 vs1 = ZK σ2 vs1 ∧ tt1 σ3 H5 fun b H6 =>
        if b = true then te σ3 H6 fun y H7 => ∃ acc, H7 D = some (.lst acc) ∧ acc.length < sizeLine ∧ Nx1 (upd H7 D (.lst (acc ++ [y]))) else Nx1 H6)
    else Nx H3)
end
end L2
namespace L2
open PySem PySem.Spec PyProof.Rows
section
variable {κ : Type} [DecidableEq κ]
def zCz (kvs : List (κ × V)) (k : κ) : Option V := (kvs.find? fun kv => decide (kv.1 = k)).map (·.2)
def zEK (kvs : List (κ × V)) (k : κ) (v : V) : List (κ × V) :=
  if (kvs.any fun kv => decide (kv.1 = k)) = true then kvs.map (fun kv => if kv.1 = k then (kv.1, v) else kv) else kvs ++ [(k, v)]
def zC0 (kvs : List (κ × V)) (k : κ) : List (κ × V) := kvs.filter fun kv => decide (kv.1 ≠ k)
end
abbrev KT (H : Hp) : List (List Key × V) → List (List Key × Addr × Value) → Prop := Paired fun p q => p.1 = q.1 ∧ H q.2.1 = some (.tup (p.1.map kV)) ∧ RelV p.2 q.2.2
section
variable {P : Program} {w : World} {H : Hp} {h : Heap} {a : Addr}
end
def zB9 (H : Hp) (a : Addr) (y : V) (r : Option V) : Prop :=
  (∃ kvs k, Rd H a (.dK kvs) ∧ y = kV k ∧ r = zCz kvs k) ∨ ∃ kvs k b, Rd H a (.dT kvs) ∧ y = .ref b ∧ H b = some (.tup (k.map kV)) ∧ r = zCz kvs k
def zFk (H : Hp) (a : Addr) (y v : V) (H' : Hp) : Prop :=
  (∃ kvs k, H a = some (.dK kvs) ∧ y = kV k ∧ kvs.length < sizeLine ∧ H' = upd H a (.dK (zEK kvs k v))) ∨
  ∃ kvs k b, H a = some (.dT kvs) ∧ y = .ref b ∧ H b = some (.tup (k.map kV)) ∧ kvs.length < sizeLine ∧ H' = upd H a (.dT (zEK kvs k v))
section
variable {X : Cx} {pins : List (Addr × Obj)} {σ : St} {H : Hp} {s : Shared} {a : Addr} {y v : V} {u r : Value} {o : Option V} {A : Around} {E : Value → Shared → Prop}
end
section
variable {X : Cx} {pins : List (Addr × Obj)} {σ : St} {H : Hp} {s : Shared} {a : Addr} {kvs : List (Key × V)} {k : Key} {u : Value} {A : Around} {E : Value → Shared → Prop}
end
def zG0 (i : Expr) : Prop := ∀ ov iv, subscripted i false ov iv = operate [ov, iv] (getItem ov iv)
def zGT (td ty : TE) : TE := fun σ H Q => td σ H fun x H1 => ty σ H1 fun y H2 => ∃ a v, x = .ref a ∧ zB9 H2 a y (some v) ∧ Q v H2
def zHE (ty td : TE) : TE := fun σ H Q => ty σ H fun y H1 => td σ H1 fun x H2 => ∃ a o, x = .ref a ∧ zB9 H2 a y o ∧ Q (.bl o.isSome) H2
def zFN (ty td : TE) : TE := fun σ H Q => ty σ H fun y H1 => td σ H1 fun x H2 => ∃ a o, x = .ref a ∧ zB9 H2 a y o ∧ Q (.bl (!o.isSome)) H2
def zGI (td ty tv : TE) : TS := fun D σ H => tv σ H fun v H1 => td σ H1 fun x H2 => ty σ H2 fun y H3 => ∃ a H4, x = .ref a ∧ zFk H3 a y v H4 ∧ D.nx σ H4
def zGH (td ty tv : TE) (rd : V → V → Hp → VK → Prop) : TS := fun D σ H => td σ H fun x H1 => ty σ H1 fun y H2 => ∃ a v, x = .ref a ∧ zB9 H2 a y (some v) ∧
  tv σ H2 fun y2 H3 => rd v y2 H3 fun z H4 => ∃ H5, zFk H4 a y z H5 ∧ D.nx σ H5
def zGG (td ty : TE) : TS := fun D σ H => td σ H fun x H1 => ty σ H1 fun y H2 => ∃ a kvs k, x = .ref a ∧ H2 a = some (.dK kvs) ∧ y = kV k ∧ (zCz kvs k).isSome = true ∧ D.nx σ (upd H2 a (.dK (zC0 kvs k)))
section
variable {X : Cx} {o i e value : Expr} {pos pos' tpos : Pos} {td ty tv : TE}
end
def zGj : TE := fun _ H Q => ∀ p, H p = none → Q (.ref p) (upd H p (.dK []))
def zGp : TE := fun _ H Q => ∀ p, H p = none → Q (.ref p) (upd H p (.dT []))
section
variable {X : Cx} {pos : Pos}
end
def zAg : List (TE × TE) → St → Hp → (List (V × V) → Hp → Prop) → Prop
  | [], _, H, Q => Q [] H
  | (tk, tv) :: r, σ, H, Q => tk σ H fun x H1 => tv σ H1 fun y H2 => zAg r σ H2 fun ps H3 => Q ((x, y) :: ps) H3
abbrev VV : List (V × V) → List (Value × Value) → Prop := Paired fun p q => RelV p.1 q.1 ∧ RelV p.2 q.2
def PPs (X : Cx) (pos : Pos) (keys : List (Option Expr)) (values : List Expr) (trs : List (TE × TE)) : Prop :=
  ∀ (pins : List (Addr × Obj)) (s : Shared) (σ : St) (H : Hp) (Q : List (V × V) → Hp → Prop), Inv X pins σ H s → zAg trs σ H Q →
    wpAny (model X.prog X.w) X.A (evalPairs (pairTrees keys values X.env pos)) (fun vs s' => ∃ ps H', Inv X pins σ H' s' ∧ VV ps vs ∧ Q ps H') X.xe s
def zFc (kvs more : List (Key × V)) : List (Key × V) := more.foldl (fun acc kv => zEK acc kv.1 kv.2) kvs
def zGW (trs : List (TE × TE)) : TE := fun σ H Q => ∀ p, H p = none → zAg trs σ (upd H p (.dK [])) fun ps H2 => H2 p = some (.dK []) ∧ ∃ kvs : List (Key × V), ps = kvs.map (fun kv => (kV kv.1, kv.2)) ∧ kvs.length ≤ 15 ∧ Q (.ref p) (upd H2 p (.dK (zFc [] kvs)))
structure M1 (X : Cx) (o : Expr) (m : Str) (apos : Pos) (e : Expr) (cpos : Pos) : Prop where
  base : attributeBase o m X.env (eval o X.env) = eval o X.env
  few : ((backTo cpos (starEach [e] X.env)).all (fun x => !x.1) && (backToKw cpos (keywordEach [] X.env)).all (fun x => x.1.isSome)
    && decide (([e] : List Expr).length + ([] : List Keyword).length + (if ([] : List Keyword).isEmpty then 0 else 1) < 30)) = true
  line : (apos.endLine == cpos.line) = true
  trees : backTo cpos (starEach [e] X.env) = [(false, eval e X.env)]
structure M2 (X : Cx) (o : Expr) (m : Str) (apos : Pos) (e f : Expr) (cpos : Pos) : Prop where
  base : attributeBase o m X.env (eval o X.env) = eval o X.env
  few : ((backTo cpos (starEach [e, f] X.env)).all (fun x => !x.1) && (backToKw cpos (keywordEach [] X.env)).all (fun x => x.1.isSome)
    && decide (([e, f] : List Expr).length + ([] : List Keyword).length + (if ([] : List Keyword).isEmpty then 0 else 1) < 30)) = true
  line : (apos.endLine == cpos.line) = true
  trees : backTo cpos (starEach [e, f] X.env) = [(false, eval e X.env), (false, eval f X.env)]
def IsD (H : Hp) (a : Addr) : Prop := (∃ kvs, Rd H a (.dK kvs)) ∨ ∃ kvs, Rd H a (.dT kvs)
section
variable {X : Cx} {pins : List (Addr × Obj)} {σ : St} {H : Hp} {s : Shared} {a : Addr} {y d : V} {u r : Value} {o : Option V} {A : Around} {E : Value → Shared → Prop}
end
def zF4 (td ty : TE) : TE := fun σ H Q => td σ H fun x H1 => ∃ a, x = .ref a ∧ IsD H1 a ∧ ty σ H1 fun y H2 => ∃ o, zB9 H2 a y o ∧ Q (o.getD .non) H2
def zGk (td ty tx : TE) : TE := fun σ H Q => td σ H fun x H1 => ∃ a, x = .ref a ∧ IsD H1 a ∧ ty σ H1 fun y H2 => tx σ H2 fun z H3 => ∃ o, zB9 H3 a y o ∧ Q (o.getD z) H3
def zF1 (td ty : TE) : TE := fun σ H Q => td σ H fun x H1 => ∃ a, x = .ref a ∧ IsD H1 a ∧ ty σ H1 fun y H2 => ∃ kvs k v, H2 a = some (.dK kvs) ∧ y = kV k ∧ zCz kvs k = some v ∧ Q v (upd H2 a (.dK (zC0 kvs k)))
def zFW (td ty tx : TE) : TE := fun σ H Q => td σ H fun x H1 => ∃ a, x = .ref a ∧ IsD H1 a ∧ ty σ H1 fun y H2 => tx σ H2 fun z H3 => ∃ kvs k, H3 a = some (.dK kvs) ∧ y = kV k ∧
  (∀ v, zCz kvs k = some v → Q v (upd H3 a (.dK (zC0 kvs k)))) ∧ (zCz kvs k = none → Q z H3)
section
variable {X : Cx} {o e f : Expr} {apos cpos : Pos} {td ty tx : TE}
end
section
variable {X : Cx} {pins : List (Addr × Obj)} {σ : St} {H : Hp} {s : Shared} {a : Addr} {kvs : List (Key × V)} {A : Around} {E : Value → Shared → Prop}
end
section
variable {X : Cx} {pins : List (Addr × Obj)} {σ : St} {H : Hp} {s : Shared} {a : Addr} {y : V} {u : Value} {A : Around} {E : Value → Shared → Prop}
end
end L2
namespace L2
open PySem PySem.Spec PyProof.Rows
section
variable {prog : Program} {w : World} {A : Around} {E : Value → Shared → Prop}
end
section
variable {X : Cx}
end
end L2
namespace L2
open PySem PySem.Spec PyProof.Rows
section
variable {X : Cx} {pins : List (Addr × Obj)} {σ : St} {H : Hp} {s : Shared} {h' : Heap}
theorem Inv.turnedNew {t' : Nat} {ch : List Addr} {T : Addr} {ob : HO} (I : Inv X pins σ H s) (k : ∀ b o, b ∉ ch → s.heap.get? b = some o → h'.get? b = some o) (hf : ∀ b ∈ ch, zpN X pins H b) (hT : s.heap.objs.size ≤ T)
    (new : ObjOk X.prog X.w (upd H T ob) h' T ob) : Inv X pins σ (upd H T ob) { s with heap := h', toks := t' } := by
  have hn : H T = none := I.hok.fresh hT
  have nit : ∀ b u, H b = some u → b ∉ ch := fun b u e z => by
    have q := (hf b z).1
    rw [q] at e; cases e
  refine I.step (g' := s.gens) (d' := s.drawn) (ch := ch) (fun b hb => ⟨(hf b hb).2.2.2.1, (hf b hb).2.1, (hf b hb).2.2.2.2.1, (hf b hb).2.2.2.2.2⟩) (fun b o _ _ hc e _ => k b o hc e) (fun b o _ _ hc e _ => ⟨o.slots, k b o hc e⟩)
    (fun b o _ e n => ?_) (fun b o hc e => ⟨o, k b o hc e⟩) (fun b xs e => ?_) (fun b o u e => ?_) (fun b ps e => ⟨#[], ?_⟩) (fun m hm => ?_) (fun b u e => ?_) I.bare
  · rw [ze (Nat.ne_of_lt (Nat.lt_of_lt_of_le (Heap.lt_size e) hT))]; exact n
  · rw [ze (zi e hn)]; exact e
  · rw [ze (zi e hn)]; exact e
  · rw [ze (zi e hn), e]; simp
  · obtain ⟨o, es, ep, ho, r⟩ := hm
    exact ⟨o, es, ep, k _ o (fun z => (hf _ z).2.1 rfl) ho, r⟩
  · by_cases hb : b = T
    · subst hb
      rw [zc] at e
      cases e
      exact new
    · rw [ze hb] at e
      refine (I.hok b u e).stay (fun c v hc q => k c v ?_ q) (fun c q => by rw [ze (zi q hn)]; exact q) fun c xs q => by rw [ze (zi q hn)]; exact q
      rcases hc with z | z
      · rw [z]; exact nit b u e
      · exact nit c _ z
end
def zGS (t : TS) : TS := fun D σ H => ∃ d u, H d = some u ∧ Mut (some u) ∧ ∀ od, t ⟨fun σ' H' => H' d = some (.frz od u) ∧ D.nx σ' (upd H' d u), fun v H' => H' d = some (.frz od u) ∧ D.rt v (upd H' d u), fun σ' H' => H' d = some (.frz od u) ∧ D.bk σ' (upd H' d u), fun σ' H' => H' d = some (.frz od u) ∧ D.ct σ' (upd H' d u)⟩ σ (upd H d (.frz od u))
def zFX (t : TE) : TE := fun σ H Q => ∃ d u, H d = some u ∧ Mut (some u) ∧ ∀ od, t σ (upd H d (.frz od u)) fun v H' => H' d = some (.frz od u) ∧ Q v (upd H' d u)
section
variable {X : Cx}
theorem zDi {tg : Expr} {pins : List (Addr × Obj)} {σ : St} {H : Hp} {s : Shared} {R : It → Hp → Prop} {J : It} {tn : Nat → Heap → Prop} {tk : Nat} (I : Inv X pins σ H s) (o : Obj)
    (T : zy4 X.prog X.w X.K tg J [s.heap.objs.size] s.heap.objs.size tn) (st : tn 0 (s.heap.push o)) (q : R J H) : PIE X pins σ tg R (.ref s.heap.objs.size) { s with heap := s.heap.push o, toks := tk } := by
  refine ⟨s.heap.objs.size, [s.heap.objs.size], tn, J, H, rfl, I.kept fun b ob e => Heap.get?_push_of_some _ e, T, st, fun b hb => ?_, q⟩
  have e : b = s.heap.objs.size := by simpa using hb
  subst e
  exact I.fpOk (Nat.le_refl _) (I.hok.fresh (Nat.le_refl _))
end
def Itc (lo c : Int) (n : Nat) : It := ⟨fun i _ => i < n, fun i H x H' => H' = H ∧ x = .int (lo + (i : Nat) * c), fun i _ => n ≤ i⟩
def RgC (i j c : Int) (n : Nat) : Prop := c ≠ 0 ∧ c.natAbs < 1073741824 ∧ Builtin.Range.small i j c = true ∧ Builtin.Range.rangeSize i j c = n
def zGJ (ta : TA) : TI := fun σ H R => ta σ H fun vs H1 => ∃ (i j c : Int) (n : Nat), vs = [.int i, .int j, .int c] ∧ RgC i j c n ∧ R (Itc i c n) H1
section
variable {X : Cx} {tg : Expr}
end
def Itv (K : PySem.W.Frag) (a : Addr) (n : Nat) : It :=
  ⟨fun i H => i < n ∧ ∃ (xs : List V) (x : V), SqL K H a xs ∧ xs[n - 1 - i]? = some x, fun i H x H' => H' = H ∧ ∀ xs, SqL K H a xs → xs[n - 1 - i]? = some x, fun i _ => n ≤ i⟩
def zG8 (K : PySem.W.Frag) (ta : TA) : TI := fun σ H R => ta σ H fun vs H1 => ∃ (a : Addr) (xs : List V), vs = [.ref a] ∧ SqL K H1 a xs ∧ R (Itv K a xs.length) H1
section
variable {X : Cx} {tg : Expr}
end
def Its (x : Str) : It := ⟨fun i _ => i < x.cps.size, fun i H v H' => H' = H ∧ ∃ c, x.cps[i]? = some c ∧ v = .str ⟨#[c]⟩, fun i _ => x.cps.size ≤ i⟩
theorem zzj {P : Program} {w : World} {K : PySem.W.Frag} {tg : Expr} (it : Addr) (x : Str) (t : Tok) (ty : String) (hty : ty = "str_ascii_iterator" ∨ ty = "str_iterator") :
    zy4 P w K tg (Its x) [it] it (fun i h => h.IsStrIter it ty x t i) where
  mem := by simp
  obj := fun i h st b hb => by
    have e : b = it := by simpa using hb
    subst e
    obtain ⟨o, e, c, d⟩ := st
    exact ⟨o, e, fun v z => by rw [d] at z; cases z⟩
  keep := fun i h h' st k => let ⟨o, ho, r⟩ := st; ⟨o, k it (by simp) o ho, r⟩
  item := by
    intro X hP hw hK hc i pins s σ H E I hf st hg
    subst hP hw hK
    obtain ⟨f0, f1, f2, f3, f4, f5⟩ := hf it (by simp)
    have W : Walks X.prog X.w X.A it [it] [it] x.cps.size (SignAt x) (fun i h => h.IsStrIter it ty x t i) := by
      rcases hty with e | e
      · rw [e]; exact Walks.strAscii (I.ok.hd hc) it x t
      · rw [e]; exact Walks.strWide (I.ok.hd hc) it x t
    have hno : ["enumerate", "zip", "dict_itemiterator", "dict_reverseitemiterator", "odict_iterator", "itertools.zip_longest", "itertools.pairwise"].contains ty = false := by
      rcases hty with e | e
      · rw [e]; decide
      · rw [e]; decide
    refine W.item i s _ _ hg st fun v h' tk hv st' kk => ?_
    obtain ⟨c, u, hcx, rfl⟩ := hv
    have I1 : Inv X pins σ H { s with heap := h', toks := tk } := I.turned (fun b o hb e => kk b o (by simpa using hb) e) f0 f1 f3 f4 f5
    obtain ⟨oi, e, cc, dd⟩ := id st'
    exact ⟨_, rfl, zBm (s := { s with heap := h', toks := tk }) e cc dd hno ⟨.str ⟨#[c]⟩, H, I1, ⟨u, rfl⟩, ⟨rfl, c, hcx, rfl⟩, st', fun b hb => (hf b hb).1⟩⟩
  done := by
    intro X hP hw hK hc i pins s σ H E I hf st hg
    subst hP hw hK
    obtain ⟨f0, f1, f2, f3, f4, f5⟩ := hf it (by simp)
    have hx : x.cps[i]? = none := Array.getElem?_eq_none hg
    rcases hty with e | e
    · rw [e] at st
      exact wpAny_pyNext_ascii_end (I.ok.hd hc) st hx fun h' eb => ⟨rfl, I.turned (t' := s.toks) (fun b o hb e => eb b o hb e) f0 f1 f3 f4 f5⟩
    · rw [e] at st
      exact wpAny_pyNext_wide_end (I.ok.hd hc) st hx fun h' eb => ⟨rfl, I.turned (t' := s.toks) (fun b o hb e => eb b o hb e) f0 f1 f3 f4 f5⟩
  self := fun A i s Q E st h => by
    rcases hty with e | e
    · rw [e] at st; exact wpAny_pyIter_striter_ascii st h
    · rw [e] at st; exact wpAny_pyIter_striter_wide st h
def zF0 (te : TE) : TI := fun σ H R => te σ H fun v H1 => ∃ x, v = .str x ∧ R (Its x) H1
theorem zEZ {X : Cx} {tg e : Expr} {te : TE} (he : PE X e te) : PI X tg e (zF0 te) := by
  intro pins s σ H R I h
  refine thn (he pins s σ H _ I h) fun v s1 ⟨y, H1, I1, r1, x, ex, q⟩ => ?_
  subst ex
  obtain ⟨t, rfl⟩ := r1
  cases ha : x.cps.all (· < 128)
  · exact wpAny_pyIter_wide ha (zDi (tk := s1.toks) I1 _ (zzj _ x t "str_iterator" (.inr rfl)) ⟨_, Heap.get?_push_size _ rfl, rfl, rfl⟩ q)
  · exact wpAny_pyIter_ascii ha (zDi (tk := s1.toks) I1 _ (zzj _ x t "str_ascii_iterator" (.inl rfl)) ⟨_, Heap.get?_push_size _ rfl, rfl, rfl⟩ q)
section
variable {prog : Program} {w : World} {A : Around} {E : Value → Shared → Prop} {s : Shared}
end
section
variable {X : Cx} {pins : List (Addr × Obj)} {σ : St} {H : Hp} {s : Shared} {d : Addr} {o : Obj}
end
def Itk (d : Addr) (o : Obj) (kvs : List (Key × V)) : It :=
  ⟨fun i H => H d = some (.frz o (.dK kvs)) ∧ i < kvs.length, fun i H x H' => H' = H ∧ ∃ k v, kvs[i]? = some (k, v) ∧ x = kV k, fun i H => H d = some (.frz o (.dK kvs)) ∧ kvs.length ≤ i⟩
def zGo (d : Addr) (o : Obj) (kvs : List (List Key × V)) : It :=
  ⟨fun i H => H d = some (.frz o (.dT kvs)) ∧ i < kvs.length, fun i H x H' => H' = H ∧ ∃ (k : List Key) (v : V) (q : Addr), kvs[i]? = some (k, v) ∧ x = .ref q ∧ H q = some (.tup (k.map kV)), fun i H => H d = some (.frz o (.dT kvs)) ∧ kvs.length ≤ i⟩
def Itd (d : Addr) (o : Obj) (kvs : List (Key × V)) : It :=
  ⟨fun i H => H d = some (.frz o (.dK kvs)) ∧ i < kvs.length, fun i H x H' => H' = H ∧ ∃ k, kvs[i]? = some (k, x), fun i H => H d = some (.frz o (.dK kvs)) ∧ kvs.length ≤ i⟩
def Iti (d : Addr) (o : Obj) (kvs : List (Key × V)) : It :=
  ⟨fun i H => H d = some (.frz o (.dK kvs)) ∧ i < kvs.length, fun i H x H' => ∃ T k v, kvs[i]? = some (k, v) ∧ x = .ref T ∧ H T = none ∧ H' = upd H T (.tup [kV k, v]), fun i H => H d = some (.frz o (.dK kvs)) ∧ kvs.length ≤ i⟩
section
variable {P : Program} {w : World} {K : PySem.W.Frag} {tg : Expr} {d : Addr} {o : Obj} {es : Array DictEntry} {ep : Nat}
end
def zGV (td : TE) : TI := fun σ H R => td σ H fun x H1 => ∃ d o, x = .ref d ∧ ((∃ kvs, H1 d = some (.frz o (.dK kvs)) ∧ R (Itk d o kvs) H1) ∨ ∃ kvs, H1 d = some (.frz o (.dT kvs)) ∧ R (zGo d o kvs) H1)
def zGF (td : TE) : TI := fun σ H R => td σ H fun x H1 => ∃ d o kvs, x = .ref d ∧ H1 d = some (.frz o (.dK kvs)) ∧ R (Itd d o kvs) H1
def zFS (td : TE) : TI := fun σ H R => td σ H fun x H1 => ∃ d o kvs, x = .ref d ∧ H1 d = some (.frz o (.dK kvs)) ∧ R (Iti d o kvs) H1
def zGC (td : TE) : TI := fun σ H R => td σ H fun x H1 => ∃ d o kvs, x = .ref d ∧ H1 d = some (.frz o (.dK kvs)) ∧ R (Itk d o kvs) H1
section
variable {X : Cx} {tg e : Expr} {td : TE} {apos cpos : Pos}
end
def Ite (K : PySem.W.Frag) (a : Addr) : It :=
  ⟨fun i H => ∃ (xs : List V) (x : V), SqL K H a xs ∧ xs[i]? = some x, fun i H v H' => ∃ T x, v = .ref T ∧ H T = none ∧ H' = upd H T (.tup [.int (i : Nat), x]) ∧ ∀ xs, SqL K H a xs → xs[i]? = some x, fun i H => ∃ xs : List V, SqL K H a xs ∧ xs.length ≤ i⟩
theorem zCk {P : Program} {w : World} {K : PySem.W.Frag} {elts : List Expr} {kk : Nat} {tpos : Pos} (a e it : Addr) :
    zy4 P w K (.Tuple elts kk tpos) (Ite K a) [e, it] e (fun i h => (∃ old, IsEnum h e it ((i : Nat) : Int) old) ∧ h.IsListIter it a i ∧ e ≠ it) where
  mem := by simp
  obj := fun i h st b hb => by
    obtain ⟨⟨old, he⟩, ⟨o, ho, hc, hd⟩, _⟩ := st
    have e' : b = e ∨ b = it := by simpa using hb
    rcases e' with z | z
    · rw [z]; exact ⟨_, he, fun v q => nomatch q⟩
    · rw [z]; exact ⟨o, ho, fun v q => by rw [hd] at q; cases q⟩
  keep := fun i h h' st k => let ⟨⟨old, he⟩, hi, hne⟩ := st; ⟨⟨old, k e (by simp) _ he⟩, hi.at fun o q => k it (by simp) o q, hne⟩
  item := by
    intro X hP hw hK hc i pins s σ H E I hf st hg
    subst hP hw hK
    obtain ⟨⟨old, he⟩, hit, hne⟩ := st
    obtain ⟨xs, x, hq, hx⟩ := hg
    obtain ⟨its, rv, p, hz⟩ := I.list hq
    obtain ⟨u, hu, ru⟩ := rv.get hx
    have hel : e < s.heap.objs.size := Heap.lt_size he
    have hil : it < s.heap.objs.size := by obtain ⟨_, q, _⟩ := hit; exact Heap.lt_size q
    refine wpAny_pyNext_enum_item he hit p.isList (x := u) (by simpa using hu) hne fun h' ho hit' hT hsz hk => ?_
    refine ⟨_, rfl, wpAny_letOwnedTupleGo_enum (s := { s with heap := h', toks := s.toks + 1 }) ho fun h'' he' sb => ?_⟩
    have hT2 : h''.get? s.heap.objs.size = some { cls := .type "tuple", data := .seq #[.int i s.toks, u] } := (sb.2 _ (Nat.ne_of_gt hel)).trans hT
    have new : ObjOk X.prog X.w (upd H s.heap.objs.size (.tup [.int (i : Nat), x])) h'' s.heap.objs.size (.tup [.int (i : Nat), x]) :=
      ⟨by show 2 ≤ sizeLine; decide, [.int i s.toks, u], .cons ⟨_, rfl⟩ (.cons ru .nil), ⟨_, hT2, rfl, _, rfl⟩⟩
    have I1 : Inv X pins σ (upd H s.heap.objs.size (.tup [.int (i : Nat), x])) { s with heap := h'', toks := s.toks + 1 } :=
      I.turnedNew (ch := [e, it]) (fun b ob hb q => (sb.2 b (fun z => hb (by simp [z]))).trans (hk b ob (fun z => hb (by simp [z])) (fun z => hb (by simp [z])) q)) hf (Nat.le_refl _) new
    refine ⟨.ref s.heap.objs.size, _, I1, rfl, ⟨_, x, rfl, I.hok.fresh (Nat.le_refl _), rfl, fun ys hy => by rw [I.list_inj hy hq]; exact hx⟩, ⟨⟨u, ?_⟩, hit'.at fun o q => (sb.2 it (Ne.symm hne)).trans q, hne⟩, fun b hb => ?_⟩
    · have e1 : ((i + 1 : Nat) : Int) = (i : Int) + 1 := by omega
      rw [e1]; exact he'
    · have hb' : b < s.heap.objs.size := by
        have e' : b = e ∨ b = it := by simpa using hb
        rcases e' with z | z
        · rw [z]; exact hel
        · rw [z]; exact hil
      rw [ze (Nat.ne_of_lt hb')]
      exact (hf b hb).1
  done := by
    intro X hP hw hK hc i pins s σ H E I hf st hg
    subst hP hw hK
    obtain ⟨⟨old, he⟩, hit, hne⟩ := st
    obtain ⟨xs, hq, hx⟩ := hg
    obtain ⟨its, rv, p, hz⟩ := I.list hq
    obtain ⟨f0, f1, f2, f3, f4, f5⟩ := hf it (by simp)
    have hl := rv.length
    exact wpAny_pyNext_enum_end (I.ok.hd hc) he hit p.isList (by simp; omega) fun h' eb => ⟨rfl, I.turned (t' := s.toks) (fun b o hb q => eb b o hb q) f0 f1 f3 f4 f5⟩
  self := fun A i s Q E st h => let ⟨⟨_, he⟩, _⟩ := st; wpAny_pyIter_enum he h
def zFo (K : PySem.W.Frag) (ta : TA) : TI := fun σ H R => ta σ H fun vs H1 => ∃ a xs, vs = [.ref a] ∧ SqL K H1 a xs ∧ R (Ite K a) H1
theorem zDL {X : Cx} {e : Expr} {ta : TA} {p pos tpos : Pos} {elts : List Expr} {kk : Nat} (hg : Gl X "enumerate") (hm : X.mg "enumerate" = none) (ha : PA X [e] ta) (hs : starEach [e] X.env = [(false, eval e X.env)] := by rfl) :
    PI X (.Tuple elts kk tpos) (.Call (.Name "enumerate" p) [e] [] pos) (zFo X.K ta) := by
  intro pins s σ H R I h
  refine Call_ (zyz I hg hm boot_enumerate (PyProof.Rows.callWith_type1 (thn (ha pos pins s σ H _ I h) fun us s1 ⟨vs, H1, I1, r1, q1⟩ => ?_) hs rfl))
  obtain ⟨a, xs, ex, hq, q⟩ := q1
  subst ex
  cases r1 with
  | cons r rr =>
    cases rr
    cases r
    obtain ⟨its, rv, p', hz⟩ := I1.list hq
    refine call_enumerate_list p'.isList fun h' he hit hsz hk => wpAny_pyIter_enum he ?_
    have I2 : Inv X pins σ H1 { s1 with heap := h' } := I1.kept (t' := s1.toks) hk
    refine ⟨s1.heap.objs.size + 1, [s1.heap.objs.size + 1, s1.heap.objs.size], _, _, H1, rfl, I2, zCk a (s1.heap.objs.size + 1) s1.heap.objs.size, ⟨⟨.none, he⟩, hit, Nat.succ_ne_self _⟩, fun b hb => ?_, q⟩
    have e' : b = s1.heap.objs.size + 1 ∨ b = s1.heap.objs.size := by simpa using hb
    have hle : s1.heap.objs.size ≤ b := by
      rcases e' with z | z
      · rw [z]; exact Nat.le_add_right _ _
      · rw [z]; exact Nat.le_refl _
    exact I1.fpOk hle (I1.hok.fresh hle)
def Itz (K : PySem.W.Frag) (a b : Addr) : It :=
  ⟨fun i H => ∃ (xs ys : List V) (x y : V), SqL K H a xs ∧ SqL K H b ys ∧ xs[i]? = some x ∧ ys[i]? = some y,
    fun i H v H' => ∃ T x y, v = .ref T ∧ H T = none ∧ H' = upd H T (.tup [x, y]) ∧ (∀ xs, SqL K H a xs → xs[i]? = some x) ∧ ∀ ys, SqL K H b ys → ys[i]? = some y,
    fun i H => ∃ xs ys : List V, SqL K H a xs ∧ SqL K H b ys ∧ (xs.length ≤ i ∨ ys.length ≤ i)⟩
def zHq (K : PySem.W.Frag) (ta : TA) : TI := fun σ H R => ta σ H fun vs H1 => ∃ a b xs ys, vs = [.ref a, .ref b] ∧ SqL K H1 a xs ∧ SqL K H1 b ys ∧ R (Itz K a b) H1
end L2
section 
namespace Bits
open PySem PyProof.Rows
end Bits
end 
section 
namespace TL
open PySem PySem.Builtin PySem.Builtin.Str PySem.StrLaws
abbrev tl (x : Str) : List Nat := x.cps.toList
def pre (S l : List Nat) : Bool := l.take S.length == S
def spl (S : List Nat) : Nat → List Nat → List Nat → List (List Nat)
  | _, acc, [] => [acc]
  | 0, acc, c :: r => if pre S (c :: r) = true then acc :: spl S (S.length - 1) [] r else spl S 0 (acc ++ [c]) r
  | k + 1, acc, _ :: r => spl S k acc r
def par (S : List Nat) : List Nat → List Nat → Option (List Nat × List Nat)
  | _, [] => none
  | acc, c :: r => if pre S (c :: r) = true then some (acc, (c :: r).drop S.length) else par S (acc ++ [c]) r
def zFm (S : List Nat) : List (List Nat) → List Nat
  | [] => []
  | [p] => p
  | p :: q :: r => p ++ (S ++ zFm S (q :: r))
def zHn (n : Nat) : List Nat := (Nat.toDigits 10 n).map Char.toNat
def zGE (st : List (List Nat) × List Nat) (c : Nat) : List (List Nat) × List Nat :=
  if Unicode.isSpace c = true then (if st.2 = [] then st else (st.1 ++ [st.2], [])) else (st.1, st.2 ++ [c])
def zHo (st : List (List Nat) × List Nat) : List (List Nat) := if st.2 = [] then st.1 else st.1 ++ [st.2]
end TL
end 
namespace L2
open PySem PySem.Spec PyProof.Rows
def zFt (ys : List Str) : Hp → VK → Prop := fun H Q => ∀ p, H p = none → Q (.ref p) (upd H p (.lst (ys.map V.str)))
section
variable {X : Cx} {pins : List (Addr × Obj)} {σ : St} {H : Hp} {s : Shared} {Q : VK}
end
section
variable {X : Cx}
end
section
variable {X : Cx} {o e : Expr} {to te : TE}
def tM0 (r : V → List V → Hp → VK → Prop) (to : TE) : TE := fun σ H Q => to σ H fun x H1 => (∃ a, x = .str a) ∧ r x [] H1 Q
def tM1 (r : V → List V → Hp → VK → Prop) (to te : TE) : TE := fun σ H Q => to σ H fun x H1 => (∃ a, x = .str a) ∧ te σ H1 fun y H2 => r x [y] H2 Q
end
end L2
namespace L2
open PySem PySem.Spec PyProof.Rows
section
variable {X : Cx}
end
def zGM (n d : Nat) : Option Int → Int
  | none => (d : Int)
  | some i => max 0 (min (if i < 0 then i + (n : Int) else i) (n : Int))
def zGc (z : Str) (lo hi : Option Int) : Str :=
  ⟨((z.cps.toList.drop (HT.sIx z.length 0 lo)).take (HT.sIx z.length z.length hi - HT.sIx z.length 0 lo)).toArray⟩
def zHj : V → Option Int → Option Int → Hp → VK → Prop := fun x lo hi H Q => ∃ z, x = .str z ∧ z.length ≤ sizeLine ∧ Q (.str (zGc z lo hi)) H
end L2
namespace Att
open PySem PySem.W PySem.Calls PyProof.Rows
section
variable {prog : Program} {w : World} {A : Around} {E : Value → Shared → Prop} {s : Shared} {K : Frag}
def zGw (h : Heap) : Heap := { h with objs := #[] }
def zFT (h : Heap) (L d : Addr) : List (Addr × Obj) := (List.range h.objs.size).filterMap fun a => if a = L ∨ a = d then none else (h.get? a).map fun o => (a, o)
end
end Att
namespace L2
open PySem PySem.Spec PyProof.Rows
def zHA (H : Hp) : Prop := ∀ b, H b = none ∨ ∃ o xs, H b = some (.frz o (.lst xs))
end L2
namespace L2
open PySem PySem.Spec PyProof.Rows
abbrev KOf {K : PySem.W.Frag} {h : Heap} (_ : K.In h) : PySem.W.Frag := K
end L2
/- THE LAST THEOREM (shape; LID, My.* are yours):
   My.Adr: a structure of the addresses that your layer names (classes, functions); My.Txt K t: a structure (Prop) of the equations over K;
   My.txt_mk : {K} {implicit addresses ..} (e1 : nsIn K mainGlobals "law" = some (some (.ref f))) (e2 : K.lookup f = some ⟨oc, od, .func (fnOf "law" "law" params body scope dV kV doc pm an cdv ct), sl⟩) (e3 : codeIn K cdv "law" = true) .. : ∃ t, My.Txt K t
set_option maxRecDepth 100000 in
set_option maxHeartbeats 0 in
theorem PySem.Challenge.cw_LID_holds : PySem.Challenge.rw_LID.Holds := by
  w_on; o_law; k_head; (case hw => w_witness2)
  k_fill
  refine L2.walk_of (l := PySem.Challenge.rw_LID) (n := 63) (k := 40) (x := "script") (CX := fun w => ..) (sp := fun _ => My.sp_law) rfl (by decide) rfl ⟨rfl, by decide, by decide⟩ (fun w h Y => PySem.W.kIn_of Y) ?F ?S ?C
  case F =>
    intro w mg fa h KX G hmg
    have T : ∃ t, My.Txt (L2.KOf KX) t := by
      dsimp only [L2.KOf]                          -- K must stand as «<heap const> w.params» for k_is
      refine' My.txt_mk ?e1 ?e2 ?e3 ..
      (case e1 => PySem.W.k_is)                    -- in the order: a name -> its address -> its object -> its zwo
      (case e2 => PySem.W.k_is)
      ..
    obtain ⟨t, T⟩ := T
    have e0 := hmg.symm.trans (PySem.W.mg_of KX G T.law)
    cases e0                                       -- fa is the law's own address
    exact ⟨_, fun s u => .of_eq rfl, fun base kb nb => My.law_fn T kb nb⟩     -- if «.of_eq rfl» comes too early: refine' ⟨_, ?b, fun base kb nb => My.law_fn T kb nb⟩; exact fun s u => .of_eq rfl
  case S => exact fun w H a ns hl hO hS => ..
  case C => exact ..
(the tactic k_is has no namespace: write k_is) -/
namespace L2
open PySem PySem.Spec PyProof.Rows
def ZA (s : Stmt) (j : Nat) : Stmt := match s with
  | .ClassDef _ _ _ body _ _ _ _ _ _ _ => body.getD j (.Pass ⟨0, 0, 0, 0⟩)
  | _ => .Pass ⟨0, 0, 0, 0⟩
def zn (s : Stmt) : Arguments := match s with
  | .FunctionDef _ a _ _ _ _ _ _ _ _ => a
  | _ => { posonlyargs := [], args := [], vararg := none, kwonlyargs := [], kw_defaults := [], kwarg := none, defaults := [] }
def zm (s : Stmt) : List Stmt := match s with
  | .FunctionDef _ _ b _ _ _ _ _ _ _ => b
  | _ => []
def za (s : Stmt) : Scope := match s with
  | .FunctionDef _ _ _ _ _ _ sc _ _ _ => sc
  | _ => { kind := .function, names := [], isGenerator := false, isCoroutine := false }
abbrev CX0 : CXT := fun _ _ _ _ _ _ => False
abbrev E0 : St → XK := fun _ _ _ _ => False
structure Fun (K : PySem.W.Frag) (x qual : Str) (st : Stmt) (f : Addr) (fd : FuncData) : Prop where
  ex : ∃ (oc : Value) (od : Option Addr) (kV doc pm : Value) (an : Option Addr) (cdv ct : Value) (osl : Array (Option Value)),
    fd = PySem.W.fnOf x qual (zn st) (zm st) (za st) .none kV doc pm an cdv ct ∧ K.lookup f = some ⟨oc, od, .func fd, osl⟩ ∧ PySem.W.codeIn K cdv qual = true
  kp : PySem.W.keepIn K (.ref f) = true
section
variable {P : Program} {w : World} {K : PySem.W.Frag} {mg : Str → Option Value} {base : Heap}
theorem Fun.binds {x qual : Str} {st : Stmt} {f : Addr} {fd : FuncData} {ps : List Str} (F : Fun K x qual st f fd)
    (h : ∀ (kV doc pm : Value) (an : Option Addr) (cdv ct : Value) (us : List Value), us.length = ps.length → bindArgs (PySem.W.fnOf x qual (zn st) (zm st) (za st) .none kV doc pm an cdv ct) ⟨us, []⟩ = pure (ps.zip us)) : Binds K fd ps [] := by
  obtain ⟨oc, od, kV, doc, pm, an, cdv, ct, osl, rfl, lk, hcd⟩ := F.ex
  exact .all (h kV doc pm an cdv ct)
theorem zt {x qual : Str} {st : Stmt} {f : Addr} {oc : Value} {od an : Option Addr} {osl : Array (Option Value)} {kV doc pm cdv ct : Value} (l : K.lookup f = some ⟨oc, od, .func (PySem.W.fnOf x qual (zn st) (zm st) (za st) .none kV doc pm an cdv ct), osl⟩)
    (c : PySem.W.codeIn K cdv qual = true) (k : PySem.W.keepIn K (.ref f) = true) : Fun K x qual st f (PySem.W.fnOf x qual (zn st) (zm st) (za st) .none kV doc pm an cdv ct) := ⟨⟨oc, od, kV, doc, pm, an, cdv, ct, osl, rfl, l, c⟩, k⟩
end
section
variable {X : Cx}
theorem pv (i : Nat) {x : Str} {pos : Pos} (hN : X.N[i]? = some x := by rfl) (hv : Vis X.env.scope x := by first | exact Or.inl rfl | exact Or.inr (Or.inl rfl) | exact Or.inr (Or.inr rfl)) (hd : (x == ("__debug__" : Str)) = false := by decide)
    (hcd : (x == ("__classdict__" : Str)) = false := by decide) : PE X (.Name x pos) (zjG i) := zE2 hN hv hd hcd
end
theorem zat {A B : Prop} (h : B) : if false = true then A else B := by
  rw [if_neg Bool.false_ne_true]
  exact h
theorem Z6 {A B : Prop} (h : A) : if true = true then A else B := by
  rw [if_pos rfl]
  exact h
theorem zF5 {c A B : Prop} [Decidable c] (h1 : c → A) (h2 : ¬ c → B) : if c then A else B := by
  by_cases h : c
  · rw [if_pos h]
    exact h1 h
  · rw [if_neg h]
    exact h2 h
def Same (H H' : Hp) : Prop := ∀ b o, H b = some o → H' b = some o
theorem Same.refl (H : Hp) : Same H H := fun _ _ h => h
theorem Same.trans {H H1 H2 : Hp} (a : Same H H1) (b : Same H1 H2) : Same H H2 := fun c o h => b c o (a c o h)
theorem Same.free {H H' : Hp} (e : Same H H') {l : Addr} (h : H' l = Option.none) : H l = Option.none := by
  cases q : H l with
  | none => rfl
  | some o =>
    rw [e l o q] at h
    cases h
theorem Same.seq {K : PySem.W.Frag} {H H' : Hp} {a : Addr} {xs : List V} (e : Same H H') (h : SqL K H a xs) : SqL K H' a xs := by
  rcases h with (h | ⟨o, h⟩) | h
  · exact .inl (.inl (e _ _ h))
  · exact .inl (.inr ⟨o, e _ _ h⟩)
  · exact .inr h
section
variable {κ : Type} [DecidableEq κ]
end
end L2
namespace L2
open PySem PySem.Spec PyProof.Rows
open PySem.W (WData Codec OpenSpec Well WellAll ReadsW ReadsAllW)
mutual
inductive Dw (K : PySem.W.Frag) (H : Hp) : V → WData → Prop
  | non : Dw K H .non .none
  | bl (b : Bool) : Dw K H (.bl b) (.bool b)
  | int (i : Int) : Dw K H (.int i) (.int i)
  | str (x : Str) : Dw K H (.str x) (.str x)
  | byt (b : Array UInt8) : Dw K H (.byt b) (.bytes b.toList)
  | lst {a : Addr} {xs : List V} {ds : List WData} : SqL K H a xs → zl4 K H xs ds → Dw K H (.ref a) (.list ds)
  | tup {a : Addr} {xs : List V} {ds : List WData} : SqT K H a xs → zl4 K H xs ds → Dw K H (.ref a) (.tuple ds)
inductive zl4 (K : PySem.W.Frag) (H : Hp) : List V → List WData → Prop
  | nil : zl4 K H [] []
  | cons {v : V} {vs : List V} {d : WData} {ds : List WData} : Dw K H v d → zl4 K H vs ds → zl4 K H (v :: vs) (d :: ds)
end
theorem dw_ints {K : PySem.W.Frag} {H : Hp} : ∀ ns : List Int, zl4 K H (ns.map V.int) (ns.map WData.int)
  | [] => .nil
  | n :: r => .cons (.int n) (dw_ints r)
theorem ints_dw {K : PySem.W.Frag} {H : Hp} : ∀ (ns : List Int) (xs : List V), zl4 K H xs (ns.map WData.int) → xs = ns.map V.int
  | [], xs, h => by
    cases h
    rfl
  | n :: r, xs, h => by
    cases h with
    | cons h1 h2 =>
      cases h1
      rw [ints_dw r _ h2] <;> rfl
section
variable {P : Program} {w : World} {K : PySem.W.Frag} {H : Hp} {h : Heap} {R : PySem.W.WRecords} {cl : Str → Option Addr}
theorem zE7 {a : Addr} {xs : List V} (hok : HOk P w H h) (KX : K.In h) (q : SqL K H a xs) : ∃ (its : List Value) (o : Obj) (n : Nat), Vals xs its ∧ h.get? a = some o ∧ o.cls = .type "list" ∧ o.data = .seq its.toArray n := by
  rcases q with q | ⟨o, its, n, e, hc, _, hd, _, hv⟩
  · obtain ⟨_, its, n, hv, e⟩ := (show ObjOk P w H h a (.lst xs) from q.ok hok)
    exact ⟨its, _, n, hv, e, rfl, rfl⟩
  · exact ⟨its.toList, o, n, hv, KX _ _ e, hc, by simp [hd]⟩
theorem zEw {a : Addr} {xs : List V} (hok : HOk P w H h) (KX : K.In h) (q : SqT K H a xs) : ∃ (its : List Value) (o : Obj) (n : Nat), Vals xs its ∧ h.get? a = some o ∧ o.cls = .type "tuple" ∧ o.data = .seq its.toArray n := by
  rcases q with q | ⟨o, its, n, e, hc, hd, _, hv⟩
  · obtain ⟨_, its, hv, o, e, hc, n, hd⟩ := (show ObjOk P w H h a (.tup xs) from q.ok hok)
    exact ⟨its, o, n, hv, e, hc, hd⟩
  · exact ⟨its.toList, o, n, hv, KX _ _ e, hc, by simp [hd]⟩
mutual
theorem Dw.reads (hok : HOk P w H h) (KX : K.In h) : ∀ (d : WData) (v : V) (u : Value), Dw K H v d → RelV v u → ∃ as, ReadsW R cl h u d as
  | .none, _, _, x, r => by
    cases x
    cases r
    exact ⟨_, ReadsW.none⟩
  | .bool b, _, _, x, r => by
    cases x
    cases r
    exact ⟨_, ReadsW.bool b⟩
  | .int i, _, _, x, r => by
    cases x
    obtain ⟨t, rfl⟩ := r
    exact ⟨_, ReadsW.int i t⟩
  | .str s, _, _, x, r => by
    cases x
    obtain ⟨t, rfl⟩ := r
    exact ⟨_, ReadsW.str s t⟩
  | .bytes b, _, _, x, r => by
    cases x
    obtain ⟨t, rfl⟩ := r
    exact ⟨_, ReadsW.bytes _ t⟩
  | .list ds, _, _, x, r => by
    cases x with
    | lst hs ha =>
      cases r
      obtain ⟨its, o, n, rv, ho, hc, hd⟩ := zE7 hok KX hs
      obtain ⟨as, hr⟩ := Dw.readsAll hok KX ds _ its ha rv
      exact ⟨_, ReadsW.list ho hc hd hr⟩
  | .tuple ds, _, _, x, r => by
    cases x with
    | tup hs ha =>
      cases r
      obtain ⟨its, o, n, rv, ho, hc, hd⟩ := zEw hok KX hs
      obtain ⟨as, hr⟩ := Dw.readsAll hok KX ds _ its ha rv
      exact ⟨_, ReadsW.tuple ho hc hd hr⟩
  | .float _, _, _, x, _ => by cases x
  | .dict _, _, _, x, _ => by cases x
  | .bytearray _, _, _, x, _ => by cases x
  | .set _, _, _, x, _ => by cases x
  | .frozenset _, _, _, x, _ => by cases x
  | .obj _ _, _, _, x, _ => by cases x
theorem Dw.readsAll (hok : HOk P w H h) (KX : K.In h) : ∀ (ds : List WData) (vs : List V) (us : List Value), zl4 K H vs ds → Vals vs us → ∃ as, ReadsAllW R cl h us ds as
  | [], _, _, x, r => by
    cases x
    cases r
    exact ⟨_, ReadsAllW.nil⟩
  | d :: ds, _, _, x, r => by
    cases x with
    | cons h1 h2 =>
      cases r with
      | cons r1 r2 =>
        obtain ⟨as, q1⟩ := Dw.reads hok KX d _ _ h1 r1
        obtain ⟨bs, q2⟩ := Dw.readsAll hok KX ds _ _ h2 r2
        exact ⟨_, ReadsAllW.cons q1 q2⟩
end
end
mutual
def plW : WData → Bool
  | .none => true
  | .bool _ => true
  | .int _ => true
  | .str _ => true
  | .bytes _ => true
  | .list xs => ztu xs
  | .tuple xs => ztu xs
  | _ => false
def ztu : List WData → Bool
  | [] => true
  | x :: r => plW x && ztu r
end
theorem zyV {α : Type} {f : α → WData} (h : ∀ a, plW (f a) = true) : ∀ l : List α, ztu (l.map f) = true
  | [] => rfl
  | x :: r => by
    show (plW (f x) && ztu (r.map f)) = true
    rw [h x, zyV h r] <;> rfl
theorem znI : ∀ (c : Codec) (a : c.denote), plW (c.enc a) = true
  | .unit, _ => rfl
  | .bool, _ => rfl
  | .int _ _, _ => rfl
  | .nat _ _, _ => rfl
  | .u8, _ => rfl
  | .bytes _ _, _ => rfl
  | .text _ _ _ _, _ => rfl
  | .list _ _ c, a => zyV (fun x => znI c x) a
  | .pair c d, a => by
    show (plW (c.enc a.1) && (plW (d.enc a.2) && true)) = true
    rw [znI c a.1, znI d a.2] <;> rfl
  | .triple c d e, a => by
    show (plW (c.enc a.1) && (plW (d.enc a.2.1) && (plW (e.enc a.2.2) && true))) = true
    rw [znI c a.1, znI d a.2.1, znI e a.2.2] <;> rfl
  | .option c, none => rfl
  | .option c, some x => znI c x
theorem zwY : ∀ (cs : List Codec) (a : Codec.denoteAll cs), ztu (Codec.encAll cs a) = true
  | [], _ => rfl
  | c :: cs, a => by
    show (plW (c.enc a.1) && ztu (Codec.encAll cs a.2)) = true
    rw [znI c a.1, zwY cs a.2] <;> rfl
theorem zpk : ∀ {xs : List WData} {d : WData}, d ∈ xs → d.weight ≤ WData.weightAll xs
  | [], d, h => absurd h (by simp)
  | x :: r, d, h => by
    show d.weight ≤ x.weight + 1 + WData.weightAll r
    rcases List.mem_cons.mp h with e | m
    · rw [e]
      omega
    · have z := zpk m
      omega
def toV : Value → V
  | .none => .non
  | .bool b => .bl b
  | .int i _ => .int i
  | .str x _ => .str x
  | .bytes b _ => .byt b
  | .ref a => .ref a
  | _ => .non
def OkU (A : List Addr) : Value → Prop
  | .none => True
  | .bool _ => True
  | .int _ _ => True
  | .str _ _ => True
  | .bytes _ _ => True
  | .ref a => a ∈ A
  | _ => False
theorem OkU.mono {A B : List Addr} (h : ∀ a ∈ A, a ∈ B) : ∀ {u : Value}, OkU A u → OkU B u := fun {u} x => by
  cases u with
  | ref a => exact h a x
  | none => trivial
  | bool b => trivial
  | int i t => trivial
  | str s t => trivial
  | bytes b t => trivial
  | _ => exact False.elim x
theorem zDA {A : List Addr} {u : Value} (x : OkU A u) : RelV (toV u) u := by
  cases u with
  | ref a => rfl
  | none => rfl
  | bool b => rfl
  | int i t => exact ⟨t, rfl⟩
  | str s t => exact ⟨t, rfl⟩
  | bytes b t => exact ⟨t, rfl⟩
  | _ => exact False.elim x
theorem zks {A : List Addr} : ∀ {vs : List Value}, (∀ u ∈ vs, OkU A u) → Vals (vs.map toV) vs
  | [], _ => .nil
  | u :: r, h => .cons (zDA (h u (List.mem_cons_self ..))) (zks fun x hx => h x (List.mem_cons_of_mem _ hx))
def ArgOb (h : Heap) (A : List Addr) (a : Addr) : Prop := ∃ vs : List Value, vs.length ≤ sizeLine ∧ (∀ u ∈ vs, OkU A u) ∧
  (h.get? a = some { cls := .type "list", data := .seq vs.toArray } ∨ h.get? a = some { cls := .type "tuple", data := .seq vs.toArray })
theorem ArgOb.mono {h : Heap} {A B : List Addr} {a : Addr} (k : ∀ a ∈ A, a ∈ B) (x : ArgOb h A a) : ArgOb h B a := by
  obtain ⟨vs, h1, h2, h3⟩ := x
  exact ⟨vs, h1, fun u hu => (h2 u hu).mono k, h3⟩
theorem ziF {P : Params} {h : Heap} : ∀ {vs : List Value} {ds : List WData}, WellAll P h vs ds → vs.length = ds.length
  | _, _, .nil => rfl
  | _, _, .cons _ b => by
    show _ + 1 = _ + 1
    rw [ziF b]
theorem zwD {P : Params} {h : Heap} {v : Value} {ds : List WData} (x : Well P h v (.list ds)) : ∃ (a : Addr) (vs : List Value), v = .ref a ∧ h.get? a = some { cls := .type "list", data := .seq vs.toArray } ∧ WellAll P h vs ds := by
  cases x with
  | list ho hall => exact ⟨_, _, rfl, ho, hall⟩
theorem zt1 {P : Params} {h : Heap} {v : Value} {ds : List WData} (x : Well P h v (.tuple ds)) : ∃ (a : Addr) (vs : List Value), v = .ref a ∧ h.get? a = some { cls := .type "tuple", data := .seq vs.toArray } ∧ WellAll P h vs ds := by
  cases x with
  | tuple ho hall => exact ⟨_, _, rfl, ho, hall⟩
theorem zwK {P : Params} {h : Heap} {us : List Value} {d : WData} {ds : List WData} (x : WellAll P h us (d :: ds)) : ∃ (v : Value) (vs : List Value), us = v :: vs ∧ Well P h v d ∧ WellAll P h vs ds := by
  cases x with
  | cons a b => exact ⟨_, _, rfl, a, b⟩
theorem zBe {n : Nat} (h : n ≤ 1048576) : n ≤ sizeLine := Nat.le_trans h (by decide)
section
variable {P : Params} {h : Heap}
mutual
theorem zDC : ∀ (d : WData) (v : Value), Well P h v d → plW d = true → d.weight ≤ 1048576 → ∃ A : List Addr, OkU A v ∧ ∀ a ∈ A, ArgOb h A a
  | .none, _, x, _, _ => by
    cases x
    exact ⟨[], trivial, fun a m => absurd m (by simp)⟩
  | .bool b, _, x, _, _ => by
    cases x
    exact ⟨[], trivial, fun a m => absurd m (by simp)⟩
  | .int i, _, x, _, _ => by
    cases x
    exact ⟨[], trivial, fun a m => absurd m (by simp)⟩
  | .str s, _, x, _, _ => by
    cases x
    exact ⟨[], trivial, fun a m => absurd m (by simp)⟩
  | .bytes b, _, x, _, _ => by
    cases x
    exact ⟨[], trivial, fun a m => absurd m (by simp)⟩
  | .list ds, _, x, p, z => by
    obtain ⟨a, vs, rfl, ho, hall⟩ := zwD x
    have z2 : WData.weightAll ds ≤ 1048576 := z
    obtain ⟨A, h1, h2⟩ := zqH ds _ hall p fun d hd => Nat.le_trans (zpk hd) z2
    have k : ∀ b ∈ A, b ∈ a :: A := fun b hb => List.mem_cons_of_mem _ hb
    refine ⟨a :: A, List.mem_cons_self .., fun b hb => ?_⟩
    rcases List.mem_cons.mp hb with e | m
    · rw [e]
      exact ⟨vs, zBe (by rw [ziF hall]; exact Nat.le_trans (PySem.W.length_le_weightAllW ds) z2), fun u hu => (h1 u hu).mono k, .inl ho⟩
    · exact (h2 b m).mono k
  | .tuple ds, _, x, p, z => by
    obtain ⟨a, vs, rfl, ho, hall⟩ := zt1 x
    have z2 : WData.weightAll ds ≤ 1048576 := z
    obtain ⟨A, h1, h2⟩ := zqH ds _ hall p fun d hd => Nat.le_trans (zpk hd) z2
    have k : ∀ b ∈ A, b ∈ a :: A := fun b hb => List.mem_cons_of_mem _ hb
    refine ⟨a :: A, List.mem_cons_self .., fun b hb => ?_⟩
    rcases List.mem_cons.mp hb with e | m
    · rw [e]
      exact ⟨vs, zBe (by rw [ziF hall]; exact Nat.le_trans (PySem.W.length_le_weightAllW ds) z2), fun u hu => (h1 u hu).mono k, .inr ho⟩
    · exact (h2 b m).mono k
  | .float _, _, _, p, _ => Bool.noConfusion (show false = true from p)
  | .dict _, _, _, p, _ => Bool.noConfusion (show false = true from p)
  | .bytearray _, _, _, p, _ => Bool.noConfusion (show false = true from p)
  | .set _, _, _, p, _ => Bool.noConfusion (show false = true from p)
  | .frozenset _, _, _, p, _ => Bool.noConfusion (show false = true from p)
  | .obj _ _, _, _, p, _ => Bool.noConfusion (show false = true from p)
theorem zqH : ∀ (ds : List WData) (vs : List Value), WellAll P h vs ds → ztu ds = true → (∀ d ∈ ds, d.weight ≤ 1048576) → ∃ A : List Addr, (∀ u ∈ vs, OkU A u) ∧ ∀ a ∈ A, ArgOb h A a
  | [], _, x, _, _ => by
    cases x
    exact ⟨[], fun u m => absurd m (by simp), fun a m => absurd m (by simp)⟩
  | d :: ds, _, x, p, z => by
    obtain ⟨v, vs, rfl, x1, x2⟩ := zwK x
    have q : plW d = true ∧ ztu ds = true := Bool.and_eq_true_iff.mp p
    obtain ⟨A, a1, a2⟩ := zDC d v x1 q.1 (z d (List.mem_cons_self ..))
    obtain ⟨B, b1, b2⟩ := zqH ds vs x2 q.2 fun e he => z e (List.mem_cons_of_mem _ he)
    have kA : ∀ b ∈ A, b ∈ A ++ B := fun b hb => List.mem_append.mpr (.inl hb)
    have kB : ∀ b ∈ B, b ∈ A ++ B := fun b hb => List.mem_append.mpr (.inr hb)
    refine ⟨A ++ B, fun u hu => ?_, fun b hb => ?_⟩
    · rcases List.mem_cons.mp hu with e | m
      · rw [e]
        exact a1.mono kA
      · exact (b1 u m).mono kB
    · rcases List.mem_append.mp hb with m | m
      · exact (a2 b m).mono kA
      · exact (b2 b m).mono kB
end
end
def zD9 (o : Obj) : Option HO := match o.data with
  | .seq vs _ => if (o.cls == Value.type "list") = true then some (.frz o (.lst (vs.toList.map toV))) else some (.frz o (.tup (vs.toList.map toV)))
  | _ => none
def zlh (K : PySem.W.Frag) (h : Heap) (A : List Addr) : Hp := fun b => if b ∈ A then (if (K.lookup b).isNone = true then (h.get? b).bind zD9 else none) else none
def zza (H : Hp) : Prop := ∀ b, H b = none ∨ ∃ o u, H b = some (.frz o u)
theorem zzA (vs : List Value) : zD9 { cls := .type "list", data := .seq vs.toArray } = some (.frz { cls := .type "list", data := .seq vs.toArray } (.lst (vs.map toV))) := by
  show (if (Value.type "list" == Value.type "list") = true then some (HO.frz { cls := .type "list", data := .seq vs.toArray } (.lst (vs.toArray.toList.map toV))) else some (HO.frz { cls := .type "list", data := .seq vs.toArray } (.tup (vs.toArray.toList.map toV)))) = _
  rw [if_pos (beq_self_eq_true _)]
theorem zzS (vs : List Value) : zD9 { cls := .type "tuple", data := .seq vs.toArray } = some (.frz { cls := .type "tuple", data := .seq vs.toArray } (.tup (vs.map toV))) := by
  show (if (Value.type "tuple" == Value.type "list") = true then some (HO.frz { cls := .type "tuple", data := .seq vs.toArray } (.lst (vs.toArray.toList.map toV))) else some (HO.frz { cls := .type "tuple", data := .seq vs.toArray } (.tup (vs.toArray.toList.map toV)))) = _
  rw [if_neg (by decide)]
section
variable {P : Program} {w : World} {K : PySem.W.Frag} {h : Heap} {A : List Addr}
theorem ztM {b : Addr} {o : Obj} (hb : b ∈ A) (hk : K.lookup b = none) (e : h.get? b = some o) : zlh K h A b = zD9 o := by
  unfold zlh
  rw [if_pos hb, hk, if_pos (show (none : Option Obj).isNone = true from rfl), e] <;> rfl
theorem zDE {b : Addr} {u : HO} (q : zlh K h A b = some u) : b ∈ A ∧ K.lookup b = none := by
  unfold zlh at q
  by_cases hb : b ∈ A
  · rw [if_pos hb] at q
    cases hk : K.lookup b with
    | none => exact ⟨hb, rfl⟩
    | some o =>
      rw [hk, if_neg (by simp)] at q
      cases q
  · rw [if_neg hb] at q
    cases q
theorem ztN (ar : ∀ a ∈ A, ArgOb h A a) {b : Addr} {u : HO} (q : zlh K h A b = some u) : K.lookup b = none ∧ ∃ vs : List Value, vs.length ≤ sizeLine ∧ (∀ u ∈ vs, OkU A u) ∧
    ((h.get? b = some { cls := .type "list", data := .seq vs.toArray } ∧ u = .frz { cls := .type "list", data := .seq vs.toArray } (.lst (vs.map toV))) ∨
     (h.get? b = some { cls := .type "tuple", data := .seq vs.toArray } ∧ u = .frz { cls := .type "tuple", data := .seq vs.toArray } (.tup (vs.map toV)))) := by
  obtain ⟨hb, hk⟩ := zDE q
  obtain ⟨vs, h1, h2, h3⟩ := ar b hb
  refine ⟨hk, vs, h1, h2, ?_⟩
  rcases h3 with e | e
  · rw [ztM hb hk e, zzA] at q
    exact .inl ⟨e, (Option.some.inj q).symm⟩
  · rw [ztM hb hk e, zzS] at q
    exact .inr ⟨e, (Option.some.inj q).symm⟩
theorem zCe (ar : ∀ a ∈ A, ArgOb h A a) : zza (zlh K h A) := fun b => by
  cases q : zlh K h A b with
  | none => exact .inl rfl
  | some u =>
    obtain ⟨_, vs, _, _, ⟨_, e⟩ | ⟨_, e⟩⟩ := ztN ar q
    · exact .inr ⟨_, _, by rw [e]⟩
    · exact .inr ⟨_, _, by rw [e]⟩
theorem zDM (ar : ∀ a ∈ A, ArgOb h A a) : HOk P w (zlh K h A) h := fun b u q => by
  obtain ⟨_, vs, h1, h2, ⟨e, rfl⟩ | ⟨e, rfl⟩⟩ := ztN ar q
  · exact ⟨e, by rw [List.length_map]; exact h1, vs, _, zks h2, e⟩
  · exact ⟨e, by rw [List.length_map]; exact h1, vs, zks h2, _, e, rfl, _, rfl⟩
theorem ztL {c c' : Value} {vs us : List Value} (e : (some { cls := c, data := .seq vs.toArray } : Option Obj) = some { cls := c', data := .seq us.toArray }) : c = c' ∧ vs = us := by
  have e1 := Option.some.inj e
  have e2 : c = c' := congrArg Obj.cls e1
  have e3 : Data.seq vs.toArray = Data.seq us.toArray := congrArg Obj.data e1
  injection e3 with e4
  refine ⟨e2, ?_⟩
  have e5 := congrArg Array.toList e4
  simpa using e5
theorem zFY (KX : K.In h) (ar : ∀ a ∈ A, ArgOb h A a) {a : Addr} {vs : List Value} (ha : a ∈ A) (e : h.get? a = some { cls := .type "list", data := .seq vs.toArray }) : (∀ u ∈ vs, OkU A u) ∧ SqL K (zlh K h A) a (vs.map toV) := by
  obtain ⟨us, h1, h2, h3⟩ := ar a ha
  have hu : us = vs := by
    rcases h3 with q | q
    · rw [e] at q
      exact (ztL q).2.symm
    · rw [e] at q
      exact absurd (Value.type.inj (ztL q).1) (by decide)
  subst hu
  refine ⟨h2, ?_⟩
  cases hk : K.lookup a with
  | none => exact .inl (.inr ⟨_, by rw [ztM ha hk e, zzA]⟩)
  | some o =>
    have e2 := KX a o hk
    rw [e] at e2
    obtain rfl := Option.some.inj e2
    exact .inr ⟨_, us.toArray, _, hk, rfl, rfl, rfl, by rw [List.size_toArray]; exact h1, by simpa using zks h2⟩
theorem zGd (KX : K.In h) (ar : ∀ a ∈ A, ArgOb h A a) {a : Addr} {vs : List Value} (ha : a ∈ A) (e : h.get? a = some { cls := .type "tuple", data := .seq vs.toArray }) : (∀ u ∈ vs, OkU A u) ∧ SqT K (zlh K h A) a (vs.map toV) := by
  obtain ⟨us, h1, h2, h3⟩ := ar a ha
  have hu : us = vs := by
    rcases h3 with q | q
    · rw [e] at q
      exact absurd (Value.type.inj (ztL q).1) (by decide)
    · rw [e] at q
      exact (ztL q).2.symm
  subst hu
  refine ⟨h2, ?_⟩
  cases hk : K.lookup a with
  | none => exact .inl (.inr ⟨_, by rw [ztM ha hk e, zzS]⟩)
  | some o =>
    have e2 := KX a o hk
    rw [e] at e2
    obtain rfl := Option.some.inj e2
    exact .inr ⟨_, us.toArray, _, hk, rfl, rfl, by rw [List.size_toArray]; exact h1, by simpa using zks h2⟩
mutual
theorem zEL {Pm : Params} (KX : K.In h) (ar : ∀ a ∈ A, ArgOb h A a) : ∀ (d : WData) (v : Value), Well Pm h v d → plW d = true → OkU A v → Dw K (zlh K h A) (toV v) d
  | .none, _, x, _, _ => by
    cases x
    exact .non
  | .bool b, _, x, _, _ => by
    cases x
    exact .bl b
  | .int i, _, x, _, _ => by
    cases x
    exact .int i
  | .str s, _, x, _, _ => by
    cases x
    exact .str s
  | .bytes b, _, x, _, _ => by
    cases x
    have z := Dw.byt (K := K) (H := zlh K h A) b.toArray
    exact z
  | .list ds, _, x, p, hu => by
    obtain ⟨a, vs, rfl, ho, hall⟩ := zwD x
    obtain ⟨h2, hs⟩ := zFY KX ar hu ho
    exact .lst hs (zxl KX ar ds _ hall p h2)
  | .tuple ds, _, x, p, hu => by
    obtain ⟨a, vs, rfl, ho, hall⟩ := zt1 x
    obtain ⟨h2, hs⟩ := zGd KX ar hu ho
    exact .tup hs (zxl KX ar ds _ hall p h2)
  | .float _, _, _, p, _ => Bool.noConfusion (show false = true from p)
  | .dict _, _, _, p, _ => Bool.noConfusion (show false = true from p)
  | .bytearray _, _, _, p, _ => Bool.noConfusion (show false = true from p)
  | .set _, _, _, p, _ => Bool.noConfusion (show false = true from p)
  | .frozenset _, _, _, p, _ => Bool.noConfusion (show false = true from p)
  | .obj _ _, _, _, p, _ => Bool.noConfusion (show false = true from p)
theorem zxl {Pm : Params} (KX : K.In h) (ar : ∀ a ∈ A, ArgOb h A a) : ∀ (ds : List WData) (vs : List Value), WellAll Pm h vs ds → ztu ds = true → (∀ u ∈ vs, OkU A u) → zl4 K (zlh K h A) (vs.map toV) ds
  | [], _, x, _, _ => by
    cases x
    exact .nil
  | d :: ds, _, x, p, hu => by
    obtain ⟨v, vs, rfl, x1, x2⟩ := zwK x
    have q : plW d = true ∧ ztu ds = true := Bool.and_eq_true_iff.mp p
    exact .cons (zEL KX ar d v x1 q.1 (hu _ (List.mem_cons_self ..))) (zxl KX ar ds vs x2 q.2 fun u m => hu u (List.mem_cons_of_mem _ m))
end
end
theorem zCs {cm : Bool} {P : Program} {w : World} {K : PySem.W.Frag} {mg mb : Str → Option Value} {CX : CXT} {k : Nat} {fa : Addr} {fd : FuncData} {ps : List Str} {sp : Sp} {s₁ : Shared} {vals : List Value} {ds : List WData} {R : PySem.W.WRecords} {cl : Str → Option Addr} {d0 : WData}
    (KX : K.In s₁.heap) (hns : s₁.heap.Ns mainGlobals mg) (hb : s₁.heap.Ns builtinsNs mb) (hbb : ∀ x : Str, x ≠ "__name__" → mb x = bootBuiltins x) (hlim : s₁.heap.NoLimit) (hg : s₁.gens = #[])
    (hwl : WellAll w.params s₁.heap vals ds) (hpl : ztu ds = true) (hwt : ∀ d ∈ ds, d.weight ≤ 1048576) (hr : Room cm k callerA)
    (F : ∀ base : Heap, K.In base → base.Ns mainGlobals mg → FnOk P w K mg base CX cm k fa fd ps sp) (hbind : ∀ (s : Shared) (us : List Value), us.length = ps.length → BindsTo s fd ⟨us, []⟩ (ps.zip us)) (hlen : ds.length = ps.length)
    (hsp : ∀ (H : Hp) (xs : List V), zza H → zl4 K H xs ds → sp xs H (fun v H' => Dw K H' v d0) fun _ _ _ => False)
    (hCX : ∀ H e s', CX [] H s₁ (fun _ _ _ => False) e s' → False) :
    codeAny (model P w) callerA (.call (.ref fa) ⟨vals, []⟩) (fun r s' => ∃ u as, r = .ok (.ret u) ∧ ReadsW R cl s'.heap u d0 as ∧ OldK s₁.heap s'.heap ∧ s'.os = s₁.os ∧ AllBare s'.gens) s₁ := by
  obtain ⟨A, ho, ar⟩ := zqH ds vals hwl hpl hwt
  have hO : zza (zlh K s₁.heap A) := zCe ar
  have hok : HOk P w (zlh K s₁.heap A) s₁.heap := zDM ar
  have hS := zxl KX ar ds vals hwl hpl ho
  have hV := zks ho
  have hK : ∀ b u, zlh K s₁.heap A b = some u → K.lookup b = none := fun b u q => (ztN ar q).1
  have noA : ∀ {b : Addr} {o : Obj} {es : Array DictEntry} {ep : Nat}, s₁.heap.get? b = some o → o.data = .dict es ep → zlh K s₁.heap A b = none := fun {b o es ep} e d => by
    cases q : zlh K s₁.heap A b with
    | none => rfl
    | some u =>
      obtain ⟨_, vs, _, _, ⟨e2, _⟩ | ⟨e2, _⟩⟩ := ztN ar q
      · rw [e2] at e
        cases e
        have d' : Data.seq vs.toArray _ = Data.dict es ep := d
        cases d'
      · rw [e2] at e
        cases e
        have d' : Data.seq vs.toArray _ = Data.dict es ep := d
        cases d'
  generalize zlh K s₁.heap A = H at hO hok hS hK noA
  have base_of : ∀ {b : Addr} {o : Obj}, s₁.heap.get? b = some o → H b = none → (zxL s₁.heap H).get? b = some o := fun e n => zCE e n
  have nsK : ∀ {b : Addr} {m : Str → Option Value}, s₁.heap.Ns b m → (zxL s₁.heap H).Ns b m := fun {b m} ⟨o, es, ep, e, d, r⟩ => ⟨o, es, ep, base_of e (noA e d), d, r⟩
  have nK : ∀ b o, K.lookup b = some o → H b = none := fun b o e => by
    cases q : H b with
    | none => rfl
    | some u =>
      rw [hK b u q] at e
      cases e
  have hKb : K.In (zxL s₁.heap H) := fun b o e => base_of (KX b o e) (nK b o e)
  have hM : Mod K mg (zxL s₁.heap H) := ⟨hKb, nsK hns, ⟨mb, nsK hb, hbb⟩, let ⟨mc, h1, h2⟩ := hlim; ⟨mc, nsK h1, h2⟩⟩
  have e0 : Env0 P w K mg (zxL s₁.heap H) callerA [] s₁ H := ⟨rfl, hM, fun b o e => zDP e, Nat.le_of_eq (zBM _ _), trivial, fun b hb => absurd (show b ∈ ([] : List Addr) from hb) (by simp), hok, .of_eq hg⟩
  have hl : vals.length = ps.length := by rw [ziF hwl]; exact hlen
  refine codeAny_mono ((F _ hKb (nsK hns)).run callerA [] s₁ H ⟨vals, []⟩ vals (vals.map toV) _ _ hr e0 (hbind s₁ vals hl) hV (hsp H _ hO hS)) fun r s' x => ?_
  cases r with
  | error e => exact (hCX H e s' x).elim
  | ok fl =>
    cases fl with
    | next => exact False.elim x
    | brk => exact False.elim x
    | cont => exact False.elim x
    | ret u =>
      obtain ⟨v, H', os, bare, un, hok', r', q⟩ := x
      have kept : ∀ b o, s₁.heap.get? b = some o → s'.heap.get? b = some o := fun b o e => by
        cases q2 : H b with
        | none => exact un.keep b o e q2 (by intro z; exact absurd (show b ∈ ([] : List Addr) from z) (by simp)) (by simp)
        | some u2 =>
          rcases hO b with z | ⟨ob, u3, z⟩
          · rw [q2] at z
            cases z
          · have z2 := un.frzs b ob _ z
            obtain ⟨e1, _⟩ := hok b _ z
            obtain ⟨e2, _⟩ := hok' b _ z2
            rw [e] at e1
            cases e1
            exact e2
      have KX' : K.In s'.heap := fun b o e => kept b o (KX b o e)
      obtain ⟨as, hrd⟩ := Dw.reads (R := R) (cl := cl) hok' KX' d0 v u q r'
      exact ⟨u, as, rfl, hrd, OldK.of_keep kept, os, bare⟩
theorem zuH {ds : List WData} (h : WData.layableAll ds = true) : ∀ d ∈ ds, d.weight ≤ 1048576 := fun d hd =>
  (PySem.W.layableW_iff.mp (List.all_eq_true.mp h d hd)).2.2
theorem zt7 : ∀ (cs : List Codec) (a : Codec.denoteAll cs), (Codec.encAll cs a).length = cs.length
  | [], _ => rfl
  | c :: cs, a => by
    show (Codec.encAll cs a.2).length + 1 = cs.length + 1
    rw [zt7 cs a.2]
theorem zBJ {cm : Bool} {r : OpenSpec} {k : Nat} {q : Program} {loose : List Str} {XP : (Str → Option Value) → Heap → Prop} {YP : World → Heap → Prop} {d : DefRec} {K : Params → PySem.W.Frag} {CX : World → CXT} {ps : List Str} {sp : World → Sp}
    (hwell : r.wellSaid = true) (hdf : d.params.defaults = []) (hlen : r.args.length = ps.length) (hr : Room cm k callerA)
    (hY : ∀ (w : World) (h : Heap), YP w h → (K w.params).In h)
    (F : ∀ (w : World) (mg : Str → Option Value) (fa : Addr) (h : Heap), YP w h → (K w.params).In h → h.Ns mainGlobals mg → mg d.name = some (.ref fa) →
      ∃ fd : FuncData, (∀ (s : Shared) (us : List Value), us.length = ps.length → BindsTo s fd ⟨us, []⟩ (ps.zip us)) ∧
        ∀ base : Heap, (K w.params).In base → base.Ns mainGlobals mg → FnOk r.prog w (K w.params) mg base (CX w) cm k fa fd ps (sp w))
    (hsp : ∀ (w : World) (H : Hp) (xs : List V) (a : Codec.denoteAll r.args), zza H → Codec.withinAll r.args a = true → Codec.app r.args r.asked a = true → zl4 (K w.params) H xs (Codec.encAll r.args a) →
      sp w xs H (fun v H' => Dw (K w.params) H' v (r.ret.enc (Codec.app r.args r.f a))) fun _ _ _ => False)
    (hCX : ∀ (w : World) (H : Hp) (s : Shared) (e : Value) (s' : Shared), CX w [] H s (fun _ _ _ => False) e s' → False) :
    PySem.W.WalkOS q loose XP YP r d [] (fun f vs => PySem.call f vs) := by
  intro w s_0 s₁ mg mb G Y fa o pm cd doc dV kV ho hd hcd hD hmg hg args vals as hpre hlay hrd hwl hlo
  obtain ⟨a, e1, e2⟩ := PySem.W.os_pre_some hpre
  obtain ⟨e3, hwi⟩ := Codec.encAll_of_decAll r.args args a e1
  subst e3
  have KX := hY w _ Y
  obtain ⟨fd, hb, hF⟩ := F w mg fa _ Y KX G.T.g hmg
  refine PySem.W.enter_call (codeAny_mono (zCs (R := []) (cl := classAt s_0.heap) (d0 := r.ret.enc (Codec.app r.args r.f a)) KX G.T.g G.T.b G.T.builtins G.T.nolimit hg hwl (zwY _ _) (zuH hlay) hr hF hb (by rw [zt7]; exact hlen)
    (fun H xs hO hS => hsp w H xs a hO hwi e2 hS) fun H e s' => hCX w H s₁ e s') fun r' s' hq => ?_)
  obtain ⟨u, as', rfl, h1, h2, h3, h4⟩ := hq
  exact ⟨.inl ⟨u, _, as', rfl, fun _ => rfl, h1, (OpenSpec.post_iff hwell hwi _ _).mpr rfl, fun z => Bool.noConfusion (show false = true from z)⟩, h2, h3, h4⟩
end L2
end
section
set_option Elab.async false
set_option linter.all false
set_option maxRecDepth 100000
set_option maxHeartbeats 4000000
namespace L2
open PySem PySem.Spec PyProof.Rows
def xP (C : Addr) (fr : Bool) (dx : Option Addr) (tb : Value) (a : Addr) (h : Heap) : Prop :=
  ∃ vs sl, h.get? a = some ⟨.ref C, dx, .fields vs, sl⟩ ∧ vs.size = 6 ∧ vs[1]? = some tb ∧ (fr = true → vs[2]? = some .none)
def xO (C : Addr) (fr : Bool) (dx : Option Addr) (tb : Value) (a : Addr) : HO := .ext (xP C fr dx tb a)
def tP (fl : Value) (a : Addr) (h : Heap) : Prop := ∃ o ts, h.get? a = some o ∧ o.data = .fields ts ∧ ts[3]? = some fl
def tO (fl : Value) (a : Addr) : HO := .ext (tP fl a)
def zCt (H : Hp) (a C : Addr) (fr : Bool) (dx : Option Addr) : Prop :=
  H a = some (xO C fr dx .none a) ∨ ∃ T fl, T ≠ a ∧ H a = some (xO C fr dx (.ref T) a) ∧ H T = some (tO fl T)
def LiveT (H : Hp) (a C : Addr) (fr : Bool) (dx : Option Addr) (fl : Value) : Prop := ∃ T, T ≠ a ∧ H a = some (xO C fr dx (.ref T) a) ∧ H T = some (tO fl T)
theorem LiveT.live {H : Hp} {a C : Addr} {fr : Bool} {dx : Option Addr} {fl : Value} (l : LiveT H a C fr dx fl) : zCt H a C fr dx := let ⟨T, h⟩ := l; .inr ⟨T, fl, h⟩
def zec (H : Hp) : Hp := fun b => match H b with
  | some (.ext _) => none
  | o => o
theorem znz {H : Hp} {a : Addr} {φ ψ : Heap → Prop} (h : H a = some (.ext φ) ∨ H a = none) : zec (upd H a (.ext ψ)) = zec H := by
  funext b
  unfold zec upd
  by_cases e : b = a
  · subst e
    rw [if_pos rfl]
    rcases h with h | h <;> rw [h]
  · rw [if_neg e]
theorem zfU {H : Hp} {b : Addr} {o : HO} (h : zec H b = some o) : H b = some o := by
  unfold zec at h
  split at h
  · cases h
  · exact h
theorem zi0 {H : Hp} {b : Addr} {o : HO} (h : H b = some o) (n : ∀ φ, o ≠ .ext φ) : zec H b = some o := by
  unfold zec
  split
  · rename_i φ e
    rw [h] at e
    exact absurd (Option.some.inj e) (n φ)
  · exact h
section
variable {P : Program} {w : World} {H : Hp} {h h' : Heap} {a C : Addr} {fr : Bool} {dx : Option Addr} {tb fl : Value}
theorem zDT (h1 h2 : Heap) (p : xP C fr dx tb a h1) (k : ∀ o, h1.get? a = some o → h2.get? a = some o) : xP C fr dx tb a h2 :=
  let ⟨vs, sl, e, r⟩ := p; ⟨vs, sl, k _ e, r⟩
theorem zDH (h1 h2 : Heap) (p : tP fl a h1) (k : ∀ o, h1.get? a = some o → h2.get? a = some o) : tP fl a h2 :=
  let ⟨o, ts, e, r⟩ := p; ⟨o, ts, k _ e, r⟩
theorem zBn (p : xP C fr dx tb a h) : ObjOk P w H h a (xO C fr dx tb a) := ⟨p, let ⟨_, _, e, _⟩ := p; ⟨_, e⟩, zDT⟩
theorem zA4 (p : tP fl a h) : ObjOk P w H h a (tO fl a) := ⟨p, let ⟨_, _, e, _⟩ := p; ⟨_, e⟩, zDH⟩
theorem zAc : Mut (some (xO C fr dx tb a)) := True.intro
theorem zAq : Mut (some (tO fl a)) := True.intro
end
section
variable {X : Cx} {pins : List (Addr × Obj)} {σ : List (Option V)} {H H' : Hp} {s : Shared} {h' : Heap} {a C : Addr} {fr : Bool} {dx : Option Addr} {tb fl : Value}
theorem Inv.xo (I : Inv X pins σ H s) (e : H a = some (xO C fr dx tb a)) : xP C fr dx tb a s.heap := (I.hok a _ e).1
theorem Inv.to (I : Inv X pins σ H s) (e : H a = some (tO fl a)) : tP fl a s.heap := (I.hok a _ e).1
theorem zzE {P : Program} {w : World} {h : Heap} (x : HOk P w H h) (k : ∀ b u, (∃ o, H b = some o) → h.get? b = some u → h'.get? b = some u) : HOk P w H h' := fun b u e =>
  (x b u e).stay (fun c v hc q => k c v (by
    rcases hc with z | z
    · exact ⟨u, by rw [z]; exact e⟩
    · exact ⟨_, z⟩) q) (fun _ q => q) fun _ _ q => q
theorem Inv.slots (I : Inv X pins σ H s) (hs : Heap.SlotsOnly (frs X.stack) s.heap h') : Inv X pins σ H { s with heap := h' } := by
  have fr0 : ∀ b, (∃ o, H b = some o) → b ∉ frs X.stack := fun b ⟨o, e⟩ z => by
    rw [I.stkFree b z] at e
    cases e
  refine I.call (g' := s.gens) (d' := s.drawn) (t' := s.toks) (ch := []) ⟨fun b o e _ hb _ => (hs.2.1 b hb).trans e, fun b o e _ _ _ => hs.2.2 b o e, fun b o _ n _ => n, fun b o e _ => ?_, fun _ _ q => q, fun _ _ _ q => q, fun _ ps q => ⟨#[], by rw [q]; simp⟩⟩
    (zzE I.hok fun b u hb e => (hs.2.1 b (fr0 b hb)).trans e) I.bare (fun b z => absurd z (by simp))
  obtain ⟨sl, e'⟩ := hs.2.2 b o e
  exact ⟨_, e'⟩
theorem zqI {h : Heap} {o : Obj} {vs : Array Value} {i : Nat} {x : Value} (e : h.get? a = some o) (d : o.data = .fields vs) : (h.update a (Obj.mapFields (·.setIfInBounds i x))).get? a = some { o with data := .fields (vs.setIfInBounds i x) } := by
  obtain ⟨c, dd, dt, sl⟩ := o
  obtain rfl : dt = .fields vs := d
  exact Heap.get?_update_self _ e rfl
end
end L2
end
section
set_option Elab.async false
set_option linter.all false
set_option maxRecDepth 100000
set_option maxHeartbeats 4000000
namespace L2
open PySem PySem.Spec PyProof.Rows
section
variable {X : Cx} {pins : List (Addr × Obj)} {σ : List (Option V)} {H H' : Hp} {s : Shared} {h' : Heap} {a C : Addr} {fr : Bool} {dx : Option Addr} {tb fl : Value} {M : Model} {A : Around} {E : Value → Shared → Prop}
theorem zz9 {fo : Option Addr} {Q : Unit → Shared → Prop} (I : Inv X pins σ H s) (l : LiveT H a C fr dx fl)
    (h : ∀ H' s', Inv X pins σ H' s' → zec H' = zec H → LiveT H' a C fr dx (fo.elim .none fun f => rawInt f) → Q () s') :
    wpAny M A (setFlight (.ref a) fo) Q E s := by
  obtain ⟨T, hT, e1, e2⟩ := l
  obtain ⟨vs, sl, g1, sz, v1, v2⟩ := Inv.xo I e1
  obtain ⟨o, ts, g2, d2, t3⟩ := Inv.to I e2
  have hsz : 3 < ts.size := (Array.getElem?_eq_some_iff.mp t3).1
  unfold setFlight
  refine wpAny_bind (wpAny_field g1 rfl v1 ?_)
  rw [if_pos (show (Value.ref T != Value.none) = true from by simp)]
  refine wpAny_setField g2 d2 hsz ?_
  have mu : Mut (H T) := by rw [e2]; exact zAq
  have g3 := zqI (i := 3) (x := fo.elim Value.none fun f => rawInt f) g2 d2
  refine h (upd H T (tO _ T)) _ (I.write (x := T) (e := T) (t' := s.toks) mu (.inl rfl) (fun b u hb q => ?_) ⟨_, g3⟩ (zA4 ⟨_, _, g3, rfl, by simp [hsz]⟩)) (znz (φ := tP fl T) (.inl e2)) ⟨T, hT, ?_, zc⟩
  · rw [Heap.get?_update_other _ _ (Ne.symm hb)]
    exact q
  · rw [ze (Ne.symm hT)]
    exact e1
theorem zC4 {base : Heap} {env env0 : Env} {rest : List Env} {L : Addr} {Q : Value → Shared → Prop} (hfr : A.frames = some (env0 :: rest)) (hl : s.heap.FunFrames base (env0 :: rest)) (hf0 : env0.frame = some L) (hf : env.frame = some L)
    (h : ∀ h1, Heap.SlotsOnly ((env0 :: rest).filterMap (·.frame)) s.heap h1 → Q (.ref L) { s with heap := h1 }) : wpAny M A (PySem.frameOf env) Q E s := by
  unfold PySem.frameOf
  refine wpAny_bind (wpAny_frameEnvs hfr ?_)
  have dw : ((env0 :: rest).dropWhile fun x => x.frame != env.frame) = env0 :: rest := by simp [List.dropWhile, hf, hf0]
  rw [dw]
  unfold frameObject
  refine wpAny_bind (wpAny_bind (wpAny_readyFrames_fun hl fun h1 hs1 => wpAny_pure ?_))
  rw [hf0]
  exact wpAny_pure (h h1 hs1)
theorem zzM {head : Value} {b : Bool} {L : Addr} {env env0 : Env} {rest : List Env} {Q : Unit → Shared → Prop} (I : Inv X pins σ H s) (hfr : A.frames = some X.stack) (hst : X.stack = env0 :: rest) (hf0 : env0.frame = some L) (hf : env.frame = some L) (e1 : H a = some (xO C fr dx tb a))
    (h : ∀ H' s', Inv X pins σ H' s' → zec H' = zec H → LiveT H' a C fr dx (rawInt L) → Q () s') :
    wpAny M A (do let z ← PySem.frameOf env; let pl ← entryPlaceOf L b; let y ← EntryCells.newEntry head z .none (rawInt L) .none pl; setField (.ref a) 1 y) Q E s := by
  have hl := I.stack
  rw [hst] at hl hfr
  refine wpAny_bind (zC4 hfr hl hf0 hf fun h1 hs1 => ?_)
  have I1 : Inv X pins σ H { s with heap := h1 } := Inv.slots I (by rw [hst]; exact hs1)
  refine wpAny_bind (wpAny_entryPlaceOf fun pl hpl => ?_)
  unfold EntryCells.newEntry newFields
  refine wpAny_bind (wpAny_newObj_type ?_ (hpl.sizeOk5 _ _ _ _ _))
  have gT := Heap.get?_push_size h1 (o := { cls := .type "traceback", dict := none, data := .fields ([head, .ref L, .none, rawInt L, .none] ++ (if pl.isEmpty then List.replicate 6 Value.none else pl)).toArray }) rfl
  have hn : H h1.objs.size = none := I1.hok.fresh (Nat.le_refl _)
  have I2 := I1.laid (t' := s.toks) (a := h1.objs.size) (o := tO (rawInt L) h1.objs.size) (fun b u e => Heap.get?_push_of_some _ e) (Nat.le_refl _)
    (zA4 ⟨_, _, gT, rfl, by simp⟩)
  have ne : a ≠ h1.objs.size := zi e1 hn
  have e2 : upd H h1.objs.size (tO (rawInt L) h1.objs.size) a = some (xO C fr dx tb a) := by
    rw [ze ne]
    exact e1
  obtain ⟨vs, sl, g1, sz, v1, v2⟩ := Inv.xo I2 e2
  refine wpAny_setField g1 rfl (by omega) ?_
  have mu : Mut (upd H h1.objs.size (tO (rawInt L) h1.objs.size) a) := by rw [e2]; exact zAc
  have g3 := zqI (i := 1) (x := Value.ref h1.objs.size) g1 rfl
  refine h (upd (upd H h1.objs.size (tO (rawInt L) h1.objs.size)) a (xO C fr dx (.ref h1.objs.size) a)) _
    (I2.write (x := a) (e := a) (t' := s.toks) mu (.inl rfl) (fun b u hb q => ?_) ⟨_, g3⟩ (zBn ⟨_, sl, g3, by simp [sz], by simp [sz], fun z => ?_⟩))
    ((znz (φ := xP C fr dx tb a) (.inl e2)).trans (znz (φ := fun _ => True) (.inr hn))) ⟨h1.objs.size, Ne.symm ne, zc, ?_⟩
  · rw [Heap.get?_update_other _ _ (Ne.symm hb)]
    exact q
  · rw [Array.getElem?_setIfInBounds_ne (by decide)]
    exact v2 z
  · rw [ze (Ne.symm ne)]
    exact zc
theorem ztO {L : Addr} {env env0 : Env} {rest : List Env} {Q : Unit → Shared → Prop} (I : Inv X pins σ H s) (hfr : A.frames = some X.stack) (hst : X.stack = env0 :: rest) (hf0 : env0.frame = some L) (hf : env.frame = some L) (l : zCt H a C fr dx)
    (h : ∀ H' s', Inv X pins σ H' s' → zec H' = zec H → LiveT H' a C fr dx (rawInt L) → Q () s') :
    wpAny M A (noteFrame (.ref a) env) Q E s := by
  unfold noteFrame
  simp only [hf]
  rcases l with e1 | ⟨T, fl, hT, e1, e2⟩
  · obtain ⟨vs, sl, g1, sz, v1, v2⟩ := Inv.xo I e1
    refine wpAny_bind (wpAny_field g1 rfl v1 ?_)
    rw [if_neg (by decide)]
    exact zzM I hfr hst hf0 hf e1 h
  · obtain ⟨vs, sl, g1, sz, v1, v2⟩ := Inv.xo I e1
    obtain ⟨o, ts, g2, d2, t3⟩ := Inv.to I e2
    have hsz : 3 < ts.size := (Array.getElem?_eq_some_iff.mp t3).1
    refine wpAny_bind (wpAny_field g1 rfl v1 ?_)
    rw [if_pos (show (Value.ref T != Value.none) = true from by simp)]
    refine wpAny_bind (wpAny_field g2 d2 t3 ?_)
    by_cases hfl : (fl == rawInt L) = true
    · rw [if_pos hfl]
      obtain rfl := eq_of_beq hfl
      exact wpAny_pure (h H s I rfl ⟨T, hT, e1, e2⟩)
    · rw [if_neg hfl]
      refine wpAny_bind (wpAny_setField g2 d2 hsz ?_)
      have mu : Mut (H T) := by rw [e2]; exact zAq
      have g3 := zqI (i := 3) (x := Value.none) g2 d2
      have I1 := I.write (x := T) (e := T) (t' := s.toks) mu (.inl rfl) (h' := s.heap.update T (Obj.mapFields (·.setIfInBounds 3 .none))) (o := tO .none T)
        (fun b u hb q => by rw [Heap.get?_update_other _ _ (Ne.symm hb)]; exact q) ⟨_, g3⟩ (zA4 ⟨_, _, g3, rfl, by simp [hsz]⟩)
      have e3 : upd H T (tO .none T) a = some (xO C fr dx (.ref T) a) := by
        rw [ze (Ne.symm hT)]
        exact e1
      exact zzM I1 hfr hst hf0 hf e3 fun H' s' I' m l' => h H' s' I' (m.trans (znz (φ := tP fl T) (.inl e2))) l'
theorem zyU {L : Addr} {env env0 : Env} {rest : List Env} {Q : Unit → Shared → Prop} (I : Inv X pins σ H s) (hfr : A.frames = some X.stack) (hst : X.stack = env0 :: rest) (hf0 : env0.frame = some L) (hf : env.frame = some L) (l : zCt H a C fr dx)
    (h : ∀ H' s', Inv X pins σ H' s' → zec H' = zec H → LiveT H' a C fr dx .none → Q () s') :
    wpAny M A (noteFrame (.ref a) env) (fun _ s1 => wpAny M A (setFlight (.ref a) none) Q E s1) E s :=
  ztO I hfr hst hf0 hf l fun H1 s1 I1 m1 l1 => zz9 I1 l1 fun H2 s2 I2 m2 l2 => h H2 s2 I2 (m2.trans m1) l2
theorem zAX {L : Addr} {env env0 : Env} {rest : List Env} {Q : Unit → Shared → Prop} (I : Inv X pins σ H s) (hfr : A.frames = some X.stack) (hst : X.stack = env0 :: rest) (hf0 : env0.frame = some L) (hf : env.frame = some L) (l : zCt H a C fr dx)
    (h : ∀ H' s', Inv X pins σ H' s' → zec H' = zec H → LiveT H' a C fr dx .none → Q () s') :
    wpAny M A (leaving env (.ref a)) Q E s := by
  unfold leaving
  exact wpAny_bind (zyU I hfr hst hf0 hf l h)
end
end L2
end
section
set_option Elab.async false
set_option linter.all false
set_option maxRecDepth 100000
set_option maxHeartbeats 4000000
namespace L2
open PySem PySem.Spec PyProof.Rows
def CXo (P : Program) (w : World) : CXT := fun outer H s E e s' => ∃ a C fr dx H', e = .ref a ∧ s'.os = s.os ∧ AllBare s'.gens ∧ Un (frs outer) [] H H' s.heap s'.heap ∧ HOk P w H' s'.heap ∧ zCt H' a C fr dx ∧ E (C, fr) dx (zec H')
abbrev WX := St → XK
structure Takes (X : Cx) (W : WX) : Prop where
  th : ∀ (pins : List (Addr × Obj)) (σ : St) (H : Hp) (s : Shared) (a C : Addr) (fr : Bool) (dx : Option Addr), Inv X pins σ H s → zCt H a C fr dx → W σ (C, fr) dx (zec H) → X.xe (.ref a) s
  po : PassesOwn (model X.prog X.w) X.A X.env X.xe
theorem Takes.passes {X : Cx} {W : WX} (t : Takes X W) : zjr (CXo X.prog X.w) X W := fun pins σ H s e s' I ⟨a, C, fr, dx, H', he, os, bare, un, hok, l, q⟩ => by
  subst he
  exact t.th pins σ H' s' a C fr dx (I.call' os un hok bare (fun b z => absurd z (by simp))) l q
section
variable {P : Program} {w : World} {K : PySem.W.Frag} {mg : Str → Option Value} {base : Heap}
theorem takes_cx {cm : Bool} {N : List Str} {qual : Str} {scope : Scope} {f : Addr} {cd : Value} {A : Around} {outer : List Env} {s : Shared} {H : Hp} {E : XK} :
    Takes (zyZ (CXo P w) cm P w K mg base N qual scope f cd A outer s H E) (fun _ => E) := by
  refine ⟨fun pins σ H1 s1 a C fr dx I l q => ?_, ?_⟩
  · exact zAX (X := zyZ (CXo P w) cm P w K mg base N qual scope f cd A outer s H E) I I.ok.frames rfl rfl rfl l fun H2 s2 I2 m2 l2 =>
      ⟨a, C, fr, dx, H2, rfl, I2.os, I2.bare, I2.base, I2.hok, l2.live, by rw [m2]; exact q⟩
  · exact PassesOwn.leaving (Q₁ := fun e s'' => CXo P w outer H s E e s'') (E₁ := fun e s'' => CXo P w outer H s E e s'')
theorem z9 {cm : Bool} {x qual : Str} {st : Stmt} {f : Addr} {fd : FuncData} {N ps : List Str} {k : Nat} {sp : Sp} (F : Fun K x qual st f fd) (S : zC N ps (za st)) (len : ∀ vs H Q E, sp vs H Q E → vs.length = ps.length)
    (hbody : ∀ (cdv : Value) (A : Around) (outer : List Env) (s : Shared) (H : Hp) (vs : List V) (Q : VK) (E : XK), Room cm k (A.deeper (envOfC qual (za st) s.heap.objs.size f cdv)) → sp vs H Q E →
      ∃ t, PSs (zyZ (CXo P w) cm P w K mg base N qual (za st) f cdv A outer s H E) (zm st) t ∧ t { nx := fun _ H' => Q .non H', rt := Q } (start N vs) H) : FnOk P w K mg base (CXo P w) cm (k + 1) f fd ps sp := by
  obtain ⟨oc, od, kV, doc, pm, an, cdv, ct, osl, rfl, lk, hcd⟩ := F.ex
  exact zFH lk hcd S len fun A outer s H vs Q E hr hsp => hbody cdv A outer s H vs Q E hr hsp
end
end L2
end
section
set_option Elab.async false
set_option linter.all false
set_option maxRecDepth 100000
set_option maxHeartbeats 4000000
namespace L2
open PySem PySem.Spec PyProof.Rows
structure zxz (K : PySem.W.Frag) (C : Addr) : Prop where
  base : PySem.W.mroIn K C (.type "BaseException") = some true
  ty : PySem.W.typeIn K (.ref C) = some (.type "type")
def zAz (K : PySem.W.Frag) (W : WX) (te : TE) : TS := fun _ σ H => te σ H fun x H1 => ∃ a C dx, x = .ref a ∧ H1 a = some (xO C true dx .none a) ∧ zxz K C ∧ W σ (C, true) dx (zec H1)
section
variable {X : Cx} {W : WX} {e : Expr} {te : TE} {pos : Pos}
theorem yI (tk : Takes X W) (hc : X.calm = true) (he : PE X e te) : PS X (.Raise (some e) none pos) (zAz X.K W te) := by
  intro pins s σ H D I h
  show wpAny _ X.A (do standAt pos; raiseStmt X.env (some (do let v ← eval e X.env; standAt pos; pure v)) none) _ X.xe s
  refine wpAny_bind (wpAny_standAt ?_)
  unfold raiseStmt
  dsimp only
  refine wpAny_bind (wpAny_bind (thn (he pins s σ H _ I h) fun v s1 ⟨x, H1, I1, rx, a, C, dx, ex, ea, er, q⟩ => wpAny_bind (wpAny_standAt (wpAny_pure ?_))))
  subst ex
  obtain rfl : v = Value.ref a := rx
  obtain ⟨vs, sl, g1, sz, v1, v2⟩ := I1.xo ea
  have nt : ∀ {Q' : Bool → Shared → Prop}, Q' false s1 → wpAny (model X.prog X.w) X.A (isType (.ref a)) Q' X.xe s1 := by
    intro Q' hq
    simp only [isType, loadHead]
    exact wpAny_bind (wpAny_loadPart g1 (wpAny_pure hq))
  have ty : PySem.W.Looks (model X.prog X.w) s1.heap (typeOf (.ref a)) (.ref C) := (PySem.W.Looks.ld g1).andThen .now
  have sb : PySem.W.Looks (model X.prog X.w) s1.heap (isSubtype (.ref C) (.type "BaseException")) true := PySem.W.looks_mroIn I1.kIn er.base
  have tt : PySem.W.Looks (model X.prog X.w) s1.heap (typeOf (.ref C)) (.type "type") := PySem.W.looks_typeIn I1.kIn er.ty
  refine wpAny_bind (wpAny_pure ?_)
  dsimp only
  refine wpAny_bind (wpAny_holding ?_)
  unfold excFromValue isExcClass
  refine wpAny_bind (wpAny_bind (nt ?_))
  simp only [Bool.false_eq_true, if_false]
  refine wpAny_pure ?_
  simp only [Bool.false_eq_true, if_false]
  unfold isInstance
  refine wpAny_bind (wpAny_bind (ty.here (sb.here ?_)))
  simp only [if_true]
  refine wpAny_pure ?_
  refine wpAny_bind (nt ?_)
  simp only [Bool.false_eq_true, if_false]
  unfold raisedInstance
  refine wpAny_bind (wpAny_bind (ty.here (wpAny_bind (tt.here ?_))))
  rw [if_pos (by decide)]
  refine wpAny_pure ?_
  unfold setFlight raiseNew
  refine wpAny_bind (wpAny_bind (wpAny_field g1 rfl v1 ?_))
  rw [if_neg (by decide)]
  refine wpAny_pure (wpAny_bind (wpAny_handled ?_))
  rw [I1.ok.hd hc]
  have fin : X.xe (.ref a) s1 := tk.th pins σ H1 s1 a C true dx I1 (.inl ea) q
  first
    | exact wpAny_throw fin
    | exact wpAny_bind (wpAny_pure (wpAny_throw fin))
end
end L2
end
section
set_option Elab.async false
set_option linter.all false
set_option maxRecDepth 100000
set_option maxHeartbeats 4000000
namespace L2
open PySem PySem.Spec PyProof.Rows
theorem zvz : entryFor table "proto.unchain" = some Builtin.«proto.unchain» := entryFor_of_fast (by kernel_rfl)
section
variable {X : Cx} {pins : List (Addr × Obj)} {σ : List (Option V)} {H : Hp} {s : Shared} {a C : Addr} {fr : Bool} {dx : Option Addr} {tb : Value} {M : Model} {A : Around} {E : Value → Shared → Prop}
theorem zxr {i : Nat} {x : Value} {fr' : Bool} {Q : Unit → Shared → Prop} (I : Inv X pins σ H s) (e : H a = some (xO C fr dx tb a)) (hi : i < 6) (h1 : i ≠ 1) (h2 : fr' = true → fr = true ∧ i ≠ 2)
    (h : ∀ s', Inv X pins σ (upd H a (xO C fr' dx tb a)) s' → Q () s') : wpAny M A (setField (.ref a) i x) Q E s := by
  obtain ⟨vs, sl, g1, sz, v1, v2⟩ := I.xo e
  refine wpAny_setField g1 rfl (by omega) ?_
  have mu : Mut (H a) := by rw [e]; exact zAc
  have g3 := zqI (i := i) (x := x) g1 rfl
  refine h _ (I.write (x := a) (e := a) (t' := s.toks) mu (.inl rfl) (fun b u hb q => ?_) ⟨_, g3⟩ (zBn ⟨_, sl, g3, by simp [sz], ?_, fun z => ?_⟩))
  · rw [Heap.get?_update_other _ _ (Ne.symm hb)]
    exact q
  · rw [Array.getElem?_setIfInBounds_ne h1]
    exact v1
  · rw [Array.getElem?_setIfInBounds_ne (h2 z).2]
    exact v2 (h2 z).1
end
def zBr (K : PySem.W.Frag) (W : WX) (b : Addr) (te tc : TE) : TS := fun _ σ H => te σ H fun x H1 => tc σ H1 fun y H2 => ∃ a C dx Cb dxb tbb, x = .ref a ∧ y = .ref b ∧ a ≠ b ∧ H2 a = some (xO C true dx .none a) ∧ H2 b = some (xO Cb true dxb tbb b) ∧
  zxz K C ∧ zxz K Cb ∧ W σ (C, false) dx (zec H2)
section
variable {X : Cx} {W : WX} {e c : Expr} {te tc : TE} {pos : Pos} {b : Addr}
theorem zBV (tk : Takes X W) (hh : X.A.handled = some (.ref b)) (he : PE X e te) (hcs : PE X c tc) : PS X (.Raise (some e) (some c) pos) (zBr X.K W b te tc) := by
  intro pins s σ H D I h
  show wpAny _ X.A (do standAt pos; raiseStmt X.env (some (do let v ← eval e X.env; standAt pos; pure v)) (some (do let v ← eval c X.env; standAt pos; pure v))) _ X.xe s
  refine wpAny_bind (wpAny_standAt ?_)
  unfold raiseStmt
  dsimp only
  refine wpAny_bind (wpAny_bind (thn (he pins s σ H _ I h) fun v s0 ⟨x, H0, I0, rx, q0⟩ => wpAny_bind (wpAny_standAt (wpAny_pure ?_))))
  refine wpAny_bind (wpAny_holding (wpAny_bind (thn (hcs pins s0 σ H0 _ I0 q0) fun u s1 ⟨y, H1, I1, ry, a, C, dx, Cb, dxb, tbb, ex, ey, nab, ea, eb, er, erb, q⟩ => wpAny_bind (wpAny_standAt (wpAny_pure ?_)))))
  subst ex ey
  obtain rfl : v = Value.ref a := rx
  obtain rfl : u = Value.ref b := ry
  have nt : ∀ {z : Addr} {Cz : Addr} {fz : Bool} {dz : Option Addr} {tz : Value} {Q' : Bool → Shared → Prop}, H1 z = some (xO Cz fz dz tz z) → Q' false s1 → wpAny (model X.prog X.w) X.A (isType (.ref z)) Q' X.xe s1 := by
    intro z Cz fz dz tz Q' ez hq
    obtain ⟨_, _, g, _⟩ := I1.xo ez
    simp only [isType, loadHead]
    exact wpAny_bind (wpAny_loadPart g (wpAny_pure hq))
  have ofv : ∀ {z : Addr} {Cz : Addr} {fz : Bool} {dz : Option Addr} {tz : Value} {w : String} {Q' : Value → Shared → Prop}, H1 z = some (xO Cz fz dz tz z) → zxz X.K Cz → Q' (.ref z) s1 → wpAny (model X.prog X.w) X.A (excFromValue (.ref z) w) Q' X.xe s1 := by
    intro z Cz fz dz tz w Q' ez rz hq
    obtain ⟨_, _, g, _⟩ := I1.xo ez
    have ty : PySem.W.Looks (model X.prog X.w) s1.heap (typeOf (.ref z)) (.ref Cz) := (PySem.W.Looks.ld g).andThen .now
    have sb : PySem.W.Looks (model X.prog X.w) s1.heap (isSubtype (.ref Cz) (.type "BaseException")) true := PySem.W.looks_mroIn I1.kIn rz.base
    unfold excFromValue isExcClass
    refine wpAny_bind (wpAny_bind (nt ez ?_))
    simp only [Bool.false_eq_true, if_false]
    refine wpAny_pure ?_
    simp only [Bool.false_eq_true, if_false]
    unfold isInstance
    refine wpAny_bind (wpAny_bind (ty.here (sb.here ?_)))
    simp only [if_true]
    exact wpAny_pure hq
  refine wpAny_bind (wpAny_pure ?_)
  refine wpAny_bind (wpAny_holding (ofv ea er ?_))
  dsimp only
  rw [if_neg (by simp)]
  refine wpAny_bind (wpAny_holding (ofv eb erb ?_))
  refine wpAny_bind (zxr (fr' := true) I1 ea (by decide) (by decide) (fun _ => ⟨rfl, by decide⟩) fun s2 I2 => ?_)
  refine wpAny_bind (zxr (fr' := true) I2 zc (by decide) (by decide) (fun _ => ⟨rfl, by decide⟩) fun s3 I3 => ?_)
  rw [zap] at I3
  have e3 : upd H1 a (xO C true dx .none a) a = some (xO C true dx .none a) := zc
  have eb3 : upd H1 a (xO C true dx .none a) b = some (xO Cb true dxb tbb b) := by
    rw [ze (Ne.symm nab)]
    exact eb
  obtain ⟨vs, sl, g1, sz, v1, v2⟩ := I3.xo e3
  have ty : PySem.W.Looks (model X.prog X.w) s3.heap (typeOf (.ref a)) (.ref C) := (PySem.W.Looks.ld g1).andThen .now
  have tt : PySem.W.Looks (model X.prog X.w) s3.heap (typeOf (.ref C)) (.type "type") := PySem.W.looks_typeIn I3.kIn er.ty
  have nt3 : ∀ {Q' : Bool → Shared → Prop}, Q' false s3 → wpAny (model X.prog X.w) X.A (isType (.ref a)) Q' X.xe s3 := by
    intro Q' hq
    simp only [isType, loadHead]
    exact wpAny_bind (wpAny_loadPart g1 (wpAny_pure hq))
  refine wpAny_bind (nt3 ?_)
  simp only [Bool.false_eq_true, if_false]
  unfold raisedInstance
  refine wpAny_bind (wpAny_bind (ty.here (wpAny_bind (tt.here ?_))))
  rw [if_pos (by decide)]
  refine wpAny_pure ?_
  unfold setFlight raiseNew
  refine wpAny_bind (wpAny_bind (wpAny_field g1 rfl v1 ?_))
  rw [if_neg (by decide)]
  refine wpAny_pure (wpAny_bind (wpAny_handled ?_))
  rw [hh]
  dsimp only
  rw [if_pos (show (Value.ref b != Value.ref a) = true by simp [Ne.symm nab])]
  obtain ⟨ws, sl', g2, sz', w1, w2⟩ := I3.xo eb3
  refine wpAny_bind (wpAny_holding (wpAny_runValue (codeAny_builtin zvz ?_)))
  unfold Builtin.«proto.unchain»
  dsimp only
  refine wpAny_bind (wpAny_field g2 rfl (w2 rfl) ?_)
  rw [if_pos (by decide)]
  refine wpAny_pure ?_
  refine wpAny_bind ?_
  show wpAny _ _ (setField (.ref a) 2 (.ref b)) _ _ _
  refine zxr (fr' := false) I3 e3 (by decide) (by decide) (fun z => nomatch z) fun s4 I4 => ?_
  rw [zap] at I4
  have fin : X.xe (.ref a) s4 := tk.th pins σ _ s4 a C false dx I4 (.inl zc) (by rw [show zec (upd H1 a (xO C false dx .none a)) = zec H1 from znz (φ := xP C true dx .none a) (.inl ea)]; exact q)
  first
    | exact wpAny_throw fin
    | exact wpAny_bind (wpAny_pure (wpAny_throw fin))
end
end L2
end
section
set_option Elab.async false
set_option linter.all false
set_option maxRecDepth 100000
set_option maxHeartbeats 4000000
namespace L2
open PySem PySem.Spec PyProof.Rows
abbrev Cx.sub (X : Cx) (A' : Around) (cm : Bool) (pn' : List (Addr × Obj)) (xe' : Value → Shared → Prop) : Cx := { X with A := A', calm := cm, pn := pn', xe := xe' }
section
variable {X : Cx} {pins pins' : List (Addr × Obj)} {σ : List (Option V)} {H : Hp} {s : Shared} {A' : Around} {cm : Bool} {xe' : Value → Shared → Prop}
theorem Inv.into (I : Inv X pins σ H s) (hA : A'.frames = X.A.frames) (hc : cm = true → A'.handled = none) : Inv (X.sub A' cm (X.pn ++ pins) xe') [] σ H s :=
  ⟨⟨I.ok.mod, I.ok.kind, I.ok.glob, I.ok.blt, I.ok.above, I.ok.inj, I.ok.has, I.ok.cab, hc, hA.trans I.ok.frames, I.ok.stk, I.ok.exf, I.ok.bs, I.ok.bsz, I.ok.noex, I.ok.exfs, I.ok.funs, I.ok.frf⟩, I.os, I.bare, I.base, I.loc, I.cell, I.free, I.freeC,
    fun p hp => I.pin p (by simpa using hp), I.hok, I.len⟩
theorem Inv.back (ok : X.Ok) (I : Inv (X.sub A' cm (X.pn ++ pins) xe') pins' σ H s) : Inv X pins σ H s :=
  ⟨ok, I.os, I.bare, I.base, I.loc, I.cell, I.free, I.freeC, fun p hp => I.pin p (List.mem_append_left _ hp), I.hok, I.len⟩
theorem SP.back {D : ztW} {f : Flow} {s' : Shared} (ok : X.Ok) (h : SP (X.sub A' cm (X.pn ++ pins) xe') pins' D f s') : SP X pins D f s' := by
  cases f with
  | next => obtain ⟨a, b, I, q⟩ := h; exact ⟨a, b, I.back ok, q⟩
  | brk => obtain ⟨a, b, I, q⟩ := h; exact ⟨a, b, I.back ok, q⟩
  | cont => obtain ⟨a, b, I, q⟩ := h; exact ⟨a, b, I.back ok, q⟩
  | ret u => obtain ⟨v, a, b, I, r, q⟩ := h; exact ⟨v, a, b, I.back ok, r, q⟩
theorem zBQ {M : Model} {A : Around} {E : Value → Shared → Prop} {i : Nat} {n : Str} {pos : Pos} {v : V} {Q : Unit → Shared → Prop} (I : Inv X pins σ H s) (hN : X.N.Nodup) (hi : X.N[i]? = some n) (hk : X.env.scope.names.lookup n = some .local) (hv : σ[i]? = some (some v))
    (h : ∀ s', Inv X pins (σ.set i none) H s' → Q () s') : wpAny M A (unbindBehindTheSuite X.env n pos) Q E s := by
  obtain ⟨m, hn, hl⟩ := id I.loc
  obtain ⟨u, ru, lu⟩ := hl i n v hi hv (.inl hk)
  have hm : m n = some u := by
    rcases lu with ⟨_, z⟩ | ⟨z, _⟩
    · exact z
    · have z' : X.env.scope.names.lookup n = some .cell ∨ X.env.scope.names.lookup n = some .free := z
      rw [hk] at z'
      rcases z' with q | q <;> cases q
  have hcls : (X.env.scope.kind == .class || (X.env.scope.kind == .module && X.env.locals != X.env.globals)) = false := by rw [I.ok.kind]; rfl
  unfold unbindBehindTheSuite
  refine wpAny_onRaise (wpAny_unbindName_local hk hn hm hcls fun h' u' hn' hs => h _ ?_)
  have ltL : ∀ b o, X.s_0.heap.get? b = some o → b ≠ X.env.locals := fun b o e => Nat.ne_of_lt (Nat.lt_of_lt_of_le (Heap.lt_size e) I.ok.above)
  refine ⟨I.ok, I.os, I.bare, ⟨fun b o e n' hb hx => ?_, fun b o e n' hb hx => ?_, I.base.free, fun b o e hx => ?_, I.base.tups, I.base.frzs, I.base.tbls⟩, ⟨_, hn', fun j y w e1 e2 e3 => ?_⟩, fun y c e => ?_, I.free, I.freeC, fun p hp => ?_, ?_, by simpa using I.len⟩
  · exact (hs.2 b (ltL b o e)).trans (I.base.keep b o e n' hb hx)
  · obtain ⟨sl, e1⟩ := I.base.slot b o e n' hb hx
    exact ⟨sl, (hs.2 b (ltL b o e)).trans e1⟩
  · obtain ⟨o', e1⟩ := I.base.there b o e hx
    exact ⟨o', (hs.2 b (ltL b o e)).trans e1⟩
  · by_cases hj : j = i
    · subst hj
      rw [List.getElem?_set_self (List.getElem?_eq_some_iff.mp hv).1] at e2
      cases e2
    · rw [List.getElem?_set_ne (Ne.symm hj)] at e2
      obtain ⟨u2, r2, q⟩ := hl j y w e1 e2 e3
      refine ⟨u2, r2, ?_⟩
      rcases q with ⟨k, e⟩ | ⟨k, c, e, z⟩
      · refine .inl ⟨k, ?_⟩
        have ny : y ≠ n := fun e => hj (zrj hN e1 (e ▸ hi))
        simp [ny, e]
      · exact .inr ⟨k, c, e, z.sameBut hs (I.cne y c e)⟩
  · obtain ⟨w', z⟩ := I.cell y c e
    exact ⟨w', z.sameBut hs (I.cne y c e)⟩
  · obtain ⟨e, n', ne, nf, d⟩ := I.pin p hp
    exact ⟨(hs.2 p.1 ne).trans e, n', ne, nf, d⟩
  · refine zzE I.hok fun b u2 ⟨o, hb⟩ e => (hs.2 b fun z => ?_).trans e
    rw [z, I.free] at hb
    cases hb
theorem zre {M : Model} {A : Around} {E : Value → Shared → Prop} {i : Nat} {n : Str} {pos : Pos} {Q : Unit → Shared → Prop} (I : Inv X pins σ H s) (hN : X.N.Nodup) (hi : X.N[i]? = some n) (hk : X.env.scope.names.lookup n = some .local)
    (h : ∀ s', Inv X pins (σ.set i none) H s' → Q () s') : wpAny M A (do bindName X.env n .none; unbindBehindTheSuite X.env n pos) Q E s := by
  have hl : i < σ.length := by rw [I.len]; exact (List.getElem?_eq_some_iff.mp hi).1
  refine wpAny_bind (wpAny_bindName (zqV (v := V.non) I hN hi (.inl hk) rfl (fun s1 I1 => ?_) (.inr hk)))
  refine zBQ (v := V.non) I1 hN hi hk (by rw [List.getElem?_set_self hl]) fun s2 I2 => ?_
  rw [List.set_set] at I2
  exact h s2 I2
end
end L2
end
section
set_option Elab.async false
set_option linter.all false
set_option maxRecDepth 100000
set_option maxHeartbeats 4000000
namespace L2
open PySem PySem.Spec PyProof.Rows
abbrev HR := Addr → Addr → Bool → Option Addr → ztW → St → Hp → Prop
def PH (X : Cx) (hs : List ExceptHandler) (t : HR) : Prop :=
  ∀ (pins : List (Addr × Obj)) (s : Shared) (σ : St) (H : Hp) (D : ztW) (a C : Addr) (fr : Bool) (dx : Option Addr), Inv X pins σ H s → LiveT H a C fr dx .none → t a C fr dx D σ H →
    wpAny (model X.prog X.w) X.A (handleBy (.ref a) X.env hs) (SP X pins D) X.xe s
section
variable {X : Cx} {pins pins' : List (Addr × Obj)} {σ : List (Option V)} {H : Hp} {s : Shared} {M : Model} {A : Around} {E : Value → Shared → Prop} {a C : Addr} {fr : Bool} {dx : Option Addr} {fl : Value}
theorem zCJ {H : Hp} {a : Addr} {o : HO} (h : H a = some o) : upd H a o = H := by
  funext b
  by_cases e : b = a
  · subst e
    rw [zc, h]
  · rw [ze e]
theorem zDy {Q : Unit → Shared → Prop} (I : Inv X pins σ H s) (l : LiveT H a C fr dx .none) (h : ∀ s', Inv X pins σ H s' → Q () s') : wpAny M A (setFlight (.ref a) none) Q E s := by
  obtain ⟨T, hT, e1, e2⟩ := l
  obtain ⟨vs, sl, g1, sz, v1, v2⟩ := Inv.xo I e1
  obtain ⟨o, ts, g2, d2, t3⟩ := Inv.to I e2
  have hsz : 3 < ts.size := (Array.getElem?_eq_some_iff.mp t3).1
  unfold setFlight
  refine wpAny_bind (wpAny_field g1 rfl v1 ?_)
  rw [if_pos (show (Value.ref T != Value.none) = true from by simp)]
  refine wpAny_setField g2 d2 hsz ?_
  have mu : Mut (H T) := by rw [e2]; exact zAq
  have g3 := zqI (i := 3) (x := Value.none) g2 d2
  have I' := I.write (x := T) (e := T) (t' := s.toks) mu (.inl rfl) (h' := s.heap.update T (Obj.mapFields (·.setIfInBounds 3 .none))) (o := tO .none T)
    (fun b u hb q => by rw [Heap.get?_update_other _ _ (Ne.symm hb)]; exact q) ⟨_, g3⟩ (zA4 ⟨_, _, g3, rfl, by simp [hsz]⟩)
  rw [zCJ e2] at I'
  exact h _ I'
theorem zrM {α : Type} {what : String} {env : Env} {Q : α → Shared → Prop} (I : Inv X pins σ H s) (l : LiveT H a C fr dx fl)
    (h : ∀ H' s', Inv X pins σ H' s' → zec H' = zec H → LiveT H' a C fr dx (env.frame.elim .none fun f => rawInt f) → E (.ref a) s') : wpAny M A (PySem.passOn what (.ref a) env : Sem α) Q E s := by
  have l' := l
  obtain ⟨T, hT, e1, e2⟩ := l
  obtain ⟨vs, sl, g1, sz, v1, v2⟩ := I.xo e1
  unfold PySem.passOn
  refine wpAny_bind (wpAny_field g1 rfl v1 ?_)
  rw [if_neg (by simp)]
  exact wpAny_bind (zz9 I l' fun H' s' I' m' l2 => wpAny_throw (h H' s' I' m' l2))
theorem zD7 {env : Env} (I : Inv X pins σ H s) (l : LiveT H a C fr dx fl)
    (h : ∀ H' s', Inv X pins σ H' s' → zec H' = zec H → LiveT H' a C fr dx (env.frame.elim .none fun f => rawInt f) → E (.ref a) s') : cameBackBy M A env E (.ref a) s := by
  have l' := l
  obtain ⟨T, hT, e1, e2⟩ := l
  obtain ⟨vs, sl, g1, sz, v1, v2⟩ := I.xo e1
  unfold cameBackBy
  refine wpAny_bind (wpAny_field g1 rfl v1 ?_)
  rw [if_neg (by simp)]
  exact zz9 I l' fun H' s' I' m' l2 => h H' s' I' m' l2
end
def zGe (W : WX) : HR := fun _ C fr dx _ σ H => W σ (C, fr) dx (zec H)
def hAs (K : PySem.W.Frag) (C' : Addr) (i : Nat) (ts : Addr → TS) (tr : HR) : HR := fun a C fr dx D σ H => ∃ b, PySem.W.exmOne K (.ref C) (.ref C') = some b ∧
  if b = true then ts a { nx := fun σ' H' => D.nx (σ'.set i none) H', rt := D.rt, bk := fun σ' H' => D.bk (σ'.set i none) H', ct := fun σ' H' => D.ct (σ'.set i none) H' } (σ.set i (some (.ref a))) H else tr a C fr dx D σ H
def hNo (K : PySem.W.Frag) (C' : Addr) (ts : Addr → TS) (tr : HR) : HR := fun a C fr dx D σ H => ∃ b, PySem.W.exmOne K (.ref C) (.ref C') = some b ∧
  if b = true then ts a D σ H else tr a C fr dx D σ H
section
variable {X : Cx} {W : WX}
theorem zz8 (tk : Takes X W) : PH X [] (zGe W) := by
  intro pins s σ H D a C fr dx I l h
  refine wpAny_handleBy_nil (zrM I l fun H' s' I' m' l' => tk.th pins σ H' s' a C fr dx I' l'.live ?_)
  rw [m']
  exact h
theorem zA9 {x n : Str} {np pos : Pos} {b0 : Stmt} {body : List Stmt} {rest : List ExceptHandler} {C' : Addr} {i : Nat} {ts : Addr → TS} {tr : HR} (tk : Takes X W) (hst : X.stack = X.env :: X.outer) (hf : X.env.frame = some X.env.locals) (hN : X.N.Nodup) (hi : X.N[i]? = some n) (hk : X.env.scope.names.lookup n = some .local)
    (hg : Gl X x) (hm : X.mg x = some (.ref C'))
    (suite : ∀ (a : Addr) (pn : List (Addr × Obj)) (xe : Value → Shared → Prop), Takes (X.sub (X.A.mark (some (.ref a))) false pn xe) (fun σ => W (σ.set i none)) → PSs (X.sub (X.A.mark (some (.ref a))) false pn xe) (b0 :: body) (ts a))
    (hr : PH X rest tr) (hd : (x == ("__debug__" : Str)) = false := by decide) : PH X (.ExceptHandler (some (.Name x np)) (some n) (b0 :: body) pos :: rest) (hAs X.K C' i ts tr) := by
  intro pins s σ H D a C fr dx I l h
  obtain ⟨b, hb, h⟩ := h
  have frm : (X.A.mark (some (.ref a))).frames = X.A.frames := rfl
  have noH : false = true → (X.A.mark (some (.ref a))).handled = none := fun z => nomatch z
  refine wpAny_handleBy_cons (codeAny_handlers_test ?_) (by intro q; cases q)
  have I0 : Inv (X.sub (X.A.mark (some (.ref a))) false (X.pn ++ pins) (fun _ _ => False)) [] σ H s := I.into frm noH
  refine ziX (X := X.sub (X.A.mark (some (.ref a))) false (X.pn ++ pins) (fun _ _ => False)) I0 hg hm ?_ hd
  obtain ⟨T, hT, e1, e2⟩ := id l
  obtain ⟨vs, sl, g1, sz, v1, v2⟩ := I.xo e1
  have ty : PySem.W.Looks (model X.prog X.w) s.heap (typeOf (.ref a)) (.ref C) := (PySem.W.Looks.ld g1).andThen .now
  refine (PySem.W.exm_one I.kIn ty hb).here ?_
  cases b with
  | false =>
    simp only [Bool.false_eq_true, if_false] at h ⊢
    exact hr pins s σ H D a C fr dx I l h
  | true =>
    simp only [if_true] at h ⊢
    refine codeAny_handlers_suite_as ?_
    generalize hNE : notedBy (model X.prog X.w) (X.A.mark (some (.ref a))) X.env (fun x s' => cameBackBy (model X.prog X.w) X.A X.env X.xe x s') = NE
    refine zDy I l fun s1 I1 => ?_
    have hil : i < σ.length := by rw [I.len]; exact (List.getElem?_eq_some_iff.mp hi).1
    let xe2 : Value → Shared → Prop := fun x s3 => wpAny (model X.prog X.w) (X.A.mark (some (.ref a))) (noteFrame x X.env) (fun _ s3' =>
            wpAny (model X.prog X.w) (X.A.mark (some (.ref a))) (do bindName X.env n .none; unbindBehindTheSuite X.env n pos)
              (fun _ s4 => wpAny (model X.prog X.w) (X.A.mark (some (.ref a))) (PySem.passOn "try.except-as" x X.env : Sem Flow) (fun _ _ => False) NE s4)
              (fun y s4 => wpAny (model X.prog X.w) (X.A.mark (some (.ref a))) (setFlight x none) (fun _ s5 => NE y s5) NE s4) s3') NE s3
    have I2 : Inv (X.sub (X.A.mark (some (.ref a))) false (X.pn ++ pins) xe2) [] σ H s1 := I1.into frm noH
    have tk2 : Takes (X.sub (X.A.mark (some (.ref a))) false (X.pn ++ pins) xe2) (fun σ => W (σ.set i none)) := by
      refine ⟨fun p2 σ2 H2 s2 a2 C2 fr2 dx2 J2 k2 w2 => ?_, PassesOwn.looking⟩
      refine ztO (X := X.sub (X.A.mark (some (.ref a))) false (X.pn ++ pins) xe2) (L := X.env.locals) J2 J2.ok.frames hst hf hf k2 fun H3 s3 J3 m3 k3 => ?_
      refine zre (X := X.sub (X.A.mark (some (.ref a))) false (X.pn ++ pins) xe2) J3 hN hi hk fun s4 J4 => ?_
      refine zrM J4 k3 fun H5 s5 J5 m5 k5 => ?_
      rw [← hNE]
      unfold notedBy
      refine ztO (X := X.sub (X.A.mark (some (.ref a))) false (X.pn ++ pins) xe2) (L := X.env.locals) J5 J5.ok.frames hst hf hf k5.live fun H6 s6 J6 m6 k6 => ?_
      refine zD7 J6 k6 fun H7 s7 J7 m7 k7 => ?_
      refine tk.th pins _ H7 s7 a2 C2 fr2 dx2 (J7.back I.ok) k7.live ?_
      rw [m7, m6, m5, m3]
      exact w2
    refine zqV (X := X.sub (X.A.mark (some (.ref a))) false (X.pn ++ pins) xe2) (v := V.ref a) I2 hN hi (.inl hk) rfl (fun s3 I3 => ?_) (.inr hk)
    refine wpAny_mono (suite a (X.pn ++ pins) xe2 tk2 [] s3 _ H _ I3 h) (fun f s4 h4 => ?_) fun x s4 h4 => h4
    have h5 : SP X pins { nx := fun σ' H' => D.nx (σ'.set i none) H', rt := D.rt, bk := fun σ' H' => D.bk (σ'.set i none) H', ct := fun σ' H' => D.ct (σ'.set i none) H' } f s4 := SP.back I.ok h4
    show wpAny _ X.A (do bindName X.env n .none; unbindBehindTheSuite X.env n pos) _ X.xe s4
    cases f with
    | next =>
      obtain ⟨σ5, H5, I5, q5⟩ := h5
      exact zre I5 hN hi hk fun s6 I6 => ⟨_, H5, I6, q5⟩
    | brk =>
      obtain ⟨σ5, H5, I5, q5⟩ := h5
      exact zre I5 hN hi hk fun s6 I6 => ⟨_, H5, I6, q5⟩
    | cont =>
      obtain ⟨σ5, H5, I5, q5⟩ := h5
      exact zre I5 hN hi hk fun s6 I6 => ⟨_, H5, I6, q5⟩
    | ret u =>
      obtain ⟨v5, σ5, H5, I5, r5, q5⟩ := h5
      exact zre I5 hN hi hk fun s6 I6 => ⟨v5, _, H5, I6, r5, q5⟩
def zGg (Wt : WX) (tb : TS) (th : HR) : TS := fun D σ H => tb D σ H ∧ ∀ (a C : Addr) (fr : Bool) (dx : Option Addr) (σ' : St) (H' : Hp), LiveT H' a C fr dx .none → Wt σ' (C, fr) dx (zec H') → th a C fr dx D σ' H'
theorem zz0 {body : List Stmt} {h0 : ExceptHandler} {hs : List ExceptHandler} {pos : Pos} {Wt : WX} {tb : TS} {th : HR} (hst : X.stack = X.env :: X.outer) (hf : X.env.frame = some X.env.locals)
    (hb : ∀ (pn : List (Addr × Obj)) (xe : Value → Shared → Prop), Takes (X.sub X.A X.calm pn xe) Wt → PSs (X.sub X.A X.calm pn xe) body tb) (hh : PH X (h0 :: hs) th) : PS X (.Try body (h0 :: hs) [] [] pos) (zGg Wt tb th) := by
  intro pins s σ H D I h
  obtain ⟨h1, h2⟩ := h
  refine wpAny_Try_except ?_
  let xe2 : Value → Shared → Prop := fun e s1 => wpAny (model X.prog X.w) X.A (noteFrame e X.env) (fun _ s2 => wpAny (model X.prog X.w) X.A (setFlight e none) (fun _ s3 => wpAny (model X.prog X.w) X.A (handleBy e X.env (h0 :: hs)) (SP X pins D) X.xe s3) X.xe s2) X.xe s1
  have I2 : Inv (X.sub X.A X.calm (X.pn ++ pins) xe2) [] σ H s := I.into rfl I.ok.hd
  have tk2 : Takes (X.sub X.A X.calm (X.pn ++ pins) xe2) Wt := by
    refine ⟨fun p2 σ2 H2 s2 a2 C2 fr2 dx2 J2 k2 w2 => ?_, PassesOwn.looking⟩
    refine zyU (X := X.sub X.A X.calm (X.pn ++ pins) xe2) (L := X.env.locals) J2 J2.ok.frames hst hf hf k2 fun H3 s3 J3 m3 k3 => ?_
    exact hh pins s3 σ2 H3 D a2 C2 fr2 dx2 (J3.back I.ok) k3 (h2 a2 C2 fr2 dx2 σ2 H3 k3 (by rw [m3]; exact w2))
  refine wpAny_mono (hb (X.pn ++ pins) xe2 tk2 [] s σ H D I2 h1) (fun f s4 h4 => ?_) fun x s4 h4 => h4
  have h5 : SP X pins D f s4 := SP.back I.ok h4
  cases f with
  | next =>
    obtain ⟨σ5, H5, I5, q5⟩ := h5
    exact wpAny_execs_nil ⟨σ5, H5, I5, q5⟩
  | brk => exact h5
  | cont => exact h5
  | ret u => exact h5
end
end L2
end
section
set_option Elab.async false
set_option linter.all false
set_option maxRecDepth 100000
set_option maxHeartbeats 4000000
namespace L2
open PySem PySem.Spec PyProof.Rows
def zfR (K : PySem.W.Frag) (C : Addr) : Bool := match K.lookup C with
  | some ⟨_, _, .cls cd, sl⟩ => !cd.hasDel && (sl.toList[4]?).join == some (.builtin "Exception.__new__") && !cd.mro.isEmpty && (cd.mro.contains (.ref C) && cd.mro.contains (.type "Exception")) && !cd.mro.contains (.type "AttributeError") && !cd.mro.contains (.type "NameError") &&
      (PySem.W.specialIn K (.ref C) "__call__" == some (some (.builtin "type.__call__")) && PySem.W.instIn K (.ref C) (.type "type") == some true)
  | _ => false
structure zAA (M : Model) (h : Heap) (C : Addr) : Prop where
  obj : ∃ oc od cd sl, h.get? C = some ⟨oc, od, .cls cd, sl⟩ ∧ cd.hasDel = false ∧ cd.mro.isEmpty = false
  made : PySem.W.Looks M h (Bind.madeBy (.ref C)) (some "Exception.__new__")
  base : PySem.W.Looks M h (Bind.staticBase (.ref C)) (.ref C)
  self : PySem.W.Looks M h (isSubtype (.ref C) (.ref C)) true
  exc : PySem.W.Looks M h (isSubtype (.ref C) (.type "Exception")) true
  noA : PySem.W.Looks M h (isSubtype (.ref C) (.type "AttributeError")) false
  noN : PySem.W.Looks M h (isSubtype (.ref C) (.type "NameError")) false
  call : PySem.W.Looks M h (specialOf (.ref C) "__call__") (some (.builtin "type.__call__"))
  typ : PySem.W.Looks M h (isInstance (.ref C) (.type "type")) true
theorem zBG {K : PySem.W.Frag} {M : Model} {h : Heap} (KX : K.In h) {C : Addr} (q : zfR K C = true) : zAA M h C := by
  unfold zfR at q
  split at q
  · rename_i oc od cd sl lk
    simp only [Bool.and_eq_true, Bool.not_eq_true', beq_iff_eq] at q
    obtain ⟨⟨⟨⟨⟨⟨q1, q2⟩, q3⟩, q4, q5⟩, q6⟩, q7⟩, q8, q9⟩ := q
    have hcd : PySem.W.clsIn K C = some cd := by unfold PySem.W.clsIn; rw [lk]
    have mro : PySem.W.Looks M h (mroOf (.ref C)) cd.mro := (PySem.W.looks_clsIn KX hcd).andThen .now
    obtain ⟨c1, l1, hl⟩ : ∃ c1 l1, cd.mro = c1 :: l1 := by
      cases z : cd.mro with
      | nil => rw [z] at q3; cases q3
      | cons c1 l1 => exact ⟨c1, l1, rfl⟩
    have made : PySem.W.Looks M h (Bind.madeBy (.ref C)) (some "Exception.__new__") := by
      intro A0 Q0 E0 s0 k0 w0
      unfold Bind.madeBy
      refine wpAny_bind (mro A0 _ E0 s0 k0 ?_)
      rw [hl, List.forIn_cons]
      refine wpAny_bind (wpAny_bind (wpAny_bind (wpAny_bind (wpAny_loadPart (k0 _ _ (KX _ _ lk)) (wpAny_pure ?_)))))
      dsimp only
      rw [← Array.getElem?_toList, q2]
      exact wpAny_pure (wpAny_pure (wpAny_pure w0))
    have sub : ∀ {b : Value} {r : Bool}, cd.mro.contains b = r → PySem.W.Looks M h (isSubtype (.ref C) b) r := fun {b r} z => PySem.W.looks_mroIn KX (by
      unfold PySem.W.mroIn
      rw [hcd, Option.bind_some, if_neg (by rw [q3]; decide), z])
    refine ⟨⟨oc, od, cd, sl, KX _ _ lk, q1, q3⟩, made, ?_, sub q4, sub q5, sub q6, sub q7, PySem.W.looks_specialIn KX q8, PySem.W.looks_instIn KX q9⟩
    intro A0 Q0 E0 s0 k0 w0
    unfold Bind.staticBase
    refine wpAny_bind (mro A0 _ E0 s0 k0 ?_)
    rw [hl, List.forIn_cons]
    exact wpAny_bind (wpAny_bind (wpAny_bind (made A0 _ E0 s0 k0 (wpAny_pure (wpAny_pure (wpAny_pure w0))))))
  · cases q
abbrev zfX (us : List Value) : Obj := { cls := .type "tuple", data := .seq us.toArray }
abbrev zg1 (C t : Addr) : Obj := { cls := .ref C, data := .fields #[.ref t, .none, .none, .none, .bool false, .none] }
section
variable {prog : Program} {w : World} {A : Around} {C : Addr} {R : Result → Shared → Prop} {h : Heap} {g : Array GenState} {d : Drawn} {t : Nat} {os : OsState}
theorem zDO {us : List Value} (Y : zAA (model prog w) h C) (hus : us.length ≤ sizeLine)
    (hq : R (.ok (.ret (.ref (h.objs.size + 1)))) ⟨(h.push (zfX us)).push (zg1 C h.objs.size), g, d, t, os⟩) :
    codeAny (model prog w) A (.call (.builtin "Exception.__new__") ⟨.ref C :: us, []⟩) R ⟨h, g, d, t, os⟩ := by
  obtain ⟨⟨oc, od, cd, sl, hC, e2, e4⟩, made, base, self, exc, noA, noN, call, typ⟩ := Y
  have F := PySem.F.excBase_Exception
  have hstar := F.noStar
  refine codeAny_call_builtin_code (Code.quiet_builtin _ F.quiet) ?_
  simp only [checkBuiltinCall, F.newKind, F.newSplit, F.newRow]
  have here : PySem.W.Looks (model prog w) h (Bind.madeHere "BaseException.__new__" (.ref C)) () := base.andThen (made.andThen (PySem.W.Looks.of_pure (by simp only [Option.map_some, F.canon, bne_self_eq_false, Bool.false_eq_true, if_false])))
  have here2 : PySem.W.Looks (model prog w) h (Bind.madeHere "Exception.__new__" (.ref C)) () := base.andThen (made.andThen (PySem.W.Looks.of_pure (by simp only [Option.map_some, bne_self_eq_false, Bool.false_eq_true, if_false])))
  repeat (first | simp only [bne_self_eq_false, Bool.false_eq_true, if_false] | lk)
  have hends := F.ends
  refine codeAny_builtinAt F.entry ?_
  unfold Builtin.«BaseException.__new__»
  refine PySem.wpAt_bind ?_
  show PySem.wpAt _ _ _ (stack >>= _) _ _ _
  refine PySem.wpAt_bind (PySem.wpAt_stack fun p below => PySem.wpAt_of_wpAny ?_)
  wp_walk
  refine PySem.wpAt_of_wpAny ?_
  rw [F.owner]
  have isT : PySem.W.Looks (model prog w) h (isType (.ref C)) true := by
    unfold isType loadHead
    exact (PySem.W.Looks.ld hC).andThen .now
  repeat (first | simp only [Bool.not_true, Bool.false_eq_true, if_false] | lk)
  rw [if_neg (by rw [List.size_toArray]; omega)]
  unfold newObjAsIs
  refine wpAny_bind (wpAny_alloc (wpAny_pure ?_))
  have hC1 := Heap.get?_push_of_some (zfX us) hC
  have hC2 := Heap.get?_push_of_some (zg1 C h.objs.size) hC1
  refine wpAny_bind ?_
  show wpAny _ _ (newObjAsIs (.ref C) _ _) _ _ _
  unfold newObjAsIs classHasDel
  refine wpAny_bind (wpAny_alloc (wpAny_bind (wpAny_bind (wpAny_load hC2 (wpAny_pure ?_)))))
  rw [e2]
  refine wpAny_pure (wpAny_pure ?_)
  show R _ _
  rw [Heap.size_push]
  exact hq
end
end L2
end
section
set_option Elab.async false
set_option linter.all false
set_option maxRecDepth 100000
set_option maxHeartbeats 4000000
namespace L2
open PySem PySem.Spec PyProof.Rows
section
variable {prog : Program} {w : World} {A : Around} {C f : Addr} {R : Result → Shared → Prop} {h : Heap} {g : Array GenState} {d : Drawn} {t : Nat} {os : OsState}
theorem zDc {us : List Value} (Y : zAA (model prog w) h C) (hi : PySem.W.Looks (model prog w) h (typeLookup (.ref C) "__init__") (some (.ref f))) (hb : ∀ self, PySem.W.Looks (model prog w) h (bindSpecial (.ref f) self) (.ref f, [self])) (hus : us.length ≤ sizeLine)
    (hq : codeAny (model prog w) (A.under (.builtin "type.__call__" ⟨.ref C :: us, []⟩)) (.call (.ref f) ⟨.ref (h.objs.size + 1) :: us, []⟩) (PySem.W.InitBack (h.objs.size + 1) R) ⟨(h.push (zfX us)).push (zg1 C h.objs.size), g, d, t, os⟩) :
    codeAny (model prog w) A (.call (.ref C) ⟨us, []⟩) R ⟨h, g, d, t, os⟩ := by
  have Y' := Y
  obtain ⟨⟨oc, od, cd, sl, hC, e2, e4⟩, made, base, self, exc, noA, noN, call, typ⟩ := Y
  refine codeAny_of_tree ?_
  show wpAny _ _ (callAny (.ref C) _) _ _ _
  refine PySem.W.nd_load hC ?_
  show wpAny _ _ (callAny.viaDunder (.ref C) _) _ _ _
  unfold callAny.viaDunder
  refine wpAny_bind (call.at ?_)
  dsimp only
  rw [tc_bind]
  refine wpAny_bind (wpAny_pure (wpAny_bind (wpAny_pure ?_)))
  refine wpAny_pure (a := Fin.again (.call (.builtin "type.__call__") ⟨.ref C :: us, []⟩)) (And.intro rfl ?_)
  refine codeAny_call_builtin_at (Code.quiet_builtin _ (by decide +kernel)) entry_typeCall (PySem.W.check_slot tc_kind tc_split typ (PySem.W.tc_args _ _ _) ?_)
  unfold Builtin.«type.__call__»
  have hm : PySem.W.Looks (model prog w) h (mroOf (.ref C)) cd.mro := ((PySem.W.Looks.ld (part := none) hC).andThen .now).andThen .now
  repeat (first | simp only [e4, Bool.false_eq_true, if_false] | with_reducible refine wpAny_call ?_ | lk)
  refine zDO Y' hus ?_
  have kp : ∀ b o, h.get? b = some o → ((h.push (zfX us)).push (zg1 C h.objs.size)).get? b = some o := fun b o e => Heap.get?_push_of_some _ (Heap.get?_push_of_some _ e)
  have hx : ((h.push (zfX us)).push (zg1 C h.objs.size)).get? (h.objs.size + 1) = some (zg1 C h.objs.size) := by heap_get
  have t1 : PySem.W.Looks (model prog w) ((h.push (zfX us)).push (zg1 C h.objs.size)) (typeOf (.ref (h.objs.size + 1))) (.ref C) := (PySem.W.Looks.ld hx).andThen .now
  have s1 := self.keeps kp
  have i1 := hi.keeps kp
  have b1 := (hb (.ref (h.objs.size + 1))).keeps kp
  unfold isInstance callSpecial? specialOf
  repeat (first | with_reducible refine wpAny_call ?_ | lk)
  refine codeAny_mono hq fun r s' z => ?_
  rcases r with e | (v | _ | _ | _) <;> first | exact z | exact z.elim | skip
  obtain ⟨rfl, z⟩ := z
  exact wpAny_pure (wpAny_pure z)
end
structure MkX (K : PySem.W.Frag) (C f : Addr) : Prop where
  makes : zfR K C = true
  init : PySem.W.findIn K (.ref C) "__init__" = some (some (.ref f))
  fn : PySem.W.isFn K (.ref f) = true
  kp : PySem.W.keepIn K (.ref C) = true
def zxx (C : Addr) (sp : Sp) (W : WX) (t : TA) : TE := fun σ H Q => t σ H fun vs H1 => vs.length ≤ 1000 ∧ ∀ x, H1 x = none → sp (.ref x :: vs) (upd H1 x (xO C true none .none x)) (fun v H2 => v = .non ∧ Q (.ref x) H2) (W σ)
section
variable {X : Cx} {W : WX} {k : Nat} {f C : Addr} {fd : FuncData} {ps : List Str} {sp : Sp} {x : Str} {p pos : Pos} {e : Expr} {es : List Expr} {t : TA} {cm : Bool}
theorem zwx {pins : List (Addr × Obj)} {σ : St} {H : Hp} {s : Shared} {Q : VK} {us : List Value} {vs : List V} (M : MkX X.K C f) (F : FnOk X.prog X.w X.K X.mg X.base (CXo X.prog X.w) cm k f fd ps sp) (hr : Room cm (k + 1) X.A) (hb : Binds X.K fd ps [])
    (tk : Takes X W) (I : Inv X pins σ H s) (r : Vals vs us) (hl : vs.length ≤ 1000)
    (h : ∀ x, H x = none → sp (.ref x :: vs) (upd H x (xO C true none .none x)) (fun v H2 => v = .non ∧ Q (.ref x) H2) (W σ)) :
    wpAny (model X.prog X.w) X.A (call (.ref C) us) (EP X pins σ Q) X.xe s := by
  obtain ⟨hp, g, d, tk0, os⟩ := s
  have hq := h (hp.objs.size + 1) (I.hok.fresh (Nat.le_succ _))
  have I1 : Inv X pins σ H ⟨hp.push (zfX us), g, d, tk0, os⟩ := I.kept (h' := hp.push (zfX us)) (t' := tk0) (fun b u e => Heap.get?_push_of_some _ e)
  have hx : ((hp.push (zfX us)).push (zg1 C hp.objs.size)).get? (hp.objs.size + 1) = some (zg1 C hp.objs.size) := by heap_get
  have I2 : Inv X pins σ (upd H (hp.objs.size + 1) (xO C true none .none (hp.objs.size + 1))) ⟨(hp.push (zfX us)).push (zg1 C hp.objs.size), g, d, tk0, os⟩ :=
    I1.laid (h' := (hp.push (zfX us)).push (zg1 C hp.objs.size)) (t' := tk0) (fun b u e => Heap.get?_push_of_some _ e) (by show (hp.push (zfX us)).objs.size ≤ _; rw [Heap.size_push]; exact Nat.le_refl _) (zBn ⟨_, _, hx, rfl, rfl, fun _ => rfl⟩)
  have r2 : Vals (V.ref (hp.objs.size + 1) :: vs) (Value.ref (hp.objs.size + 1) :: us) := .cons rfl r
  have hl2 : (Value.ref (hp.objs.size + 1) :: us ++ []).length = ps.length := by
    have e := r2.length
    rw [F.len _ _ _ _ hq] at e
    simpa using e.symm
  have hbd := hb ⟨(hp.push (zfX us)).push (zg1 C hp.objs.size), g, d, tk0, os⟩ (Value.ref (hp.objs.size + 1) :: us) I2.kIn hl2
  rw [List.append_nil] at hbd
  have hfn : PySem.W.typeIn X.K (.ref f) = some (.type "function") := beq_iff_eq.mp M.fn
  refine wpAny_call (zDc (f := f) (zBG I.kIn M.makes) (PySem.W.looks_findIn I.kIn M.init) (fun self => PySem.W.bind_fn I.kIn self hfn) (by rw [← r.length]; exact Nat.le_trans hl (by decide))
    (codeAny_mono (F.run _ X.stack _ _ ⟨Value.ref (hp.objs.size + 1) :: us, []⟩ (Value.ref (hp.objs.size + 1) :: us) _ _ (W σ) (hr.make C us []) (I2.env0.make C us []) hbd r2 hq) fun r s' hq' => ?_))
  cases r with
  | error e =>
    have z := tk.passes pins σ _ _ e s' I2 hq'
    exact z
  | ok fl =>
    cases fl with
    | ret u =>
      obtain ⟨v, H', I3, rv, ev, q3⟩ := I2.after hq'
      subst ev
      exact ⟨rv, ⟨V.ref (hp.objs.size + 1), H', I3, rfl, q3⟩⟩
    | next => exact False.elim hq'
    | brk => exact False.elim hq'
    | cont => exact False.elim hq'
theorem yB (M : MkX X.K C f) (F : FnOk X.prog X.w X.K X.mg X.base (CXo X.prog X.w) cm k f fd ps sp) (hr : Room cm (k + 1) X.A) (hg : Gl X x) (hm : X.mg x = some (.ref C)) (hb : Binds X.K fd ps []) (tk : Takes X W)
    (ha : PA X (e :: es) t) (hdb : (x == ("__debug__" : Str)) = false := by decide) (he : starEach (e :: es) X.env = (false, eval e X.env) :: starEach es X.env := by rfl) (hpl : (backTo pos (starEach es X.env)).any (·.1) = false := by rfl) :
    PE X (.Call (.Name x p) (e :: es) [] pos) (zxx C sp W t) := by
  intro pins s σ H Q I h
  refine wpAny_Call_Name_kw (ziX I hg hm ?_ hdb)
  refine PySem.W.callWith_K (h₀ := X.base) I.ok.mod.kin M.kp (thn (ha pos pins s σ H _ I h) fun us s1 ⟨vs, H1, I1, r, hl, q⟩ => ⟨I1.kIn, ?_⟩) he hpl
  exact zwx M F hr hb tk I1 r hl q
theorem zCi (M : MkX X.K C f) (F : FnOk X.prog X.w X.K X.mg X.base (CXo X.prog X.w) cm k f fd ps sp) (hr : Room cm (k + 1) X.A) (hg : Gl X x) (hm : X.mg x = some (.ref C)) (hb : Binds X.K fd ps []) (tk : Takes X W)
    (hdb : (x == ("__debug__" : Str)) = false := by decide) : PE X (.Call (.Name x p) [] [] pos) (zxx C sp W zAL) := by
  intro pins s σ H Q I h
  refine wpAny_Call_Name_kw (ziX I hg hm ?_ hdb)
  exact PySem.W.callWith_K0 I.kIn M.kp (zwx (us := []) M F hr hb tk I .nil h.1 h.2)
end
end L2
end
section
set_option Elab.async false
set_option linter.all false
set_option maxRecDepth 100000
set_option maxHeartbeats 4000000
namespace L2
open PySem PySem.Spec PyProof.Rows
open Builtin.ObjectAttr
def zog : List Value → Bool
  | [.type a, .type b, .type c] => a == "Exception" && b == "BaseException" && c == "object"
  | .ref _ :: r => zog r
  | _ => false
theorem zt3 (self : Value) : ∀ {l : List Value}, zog l = true → refuseLoop self "__setattr__" l = pure ()
  | [], e => by cases e
  | .ref c :: r, e => by
    rw [refuseLoop_ref]
    exact zt3 self (l := r) (by unfold zog at e; exact e)
  | [.type a, .type b, .type c], e => by
    have e' : (a == "Exception" && b == "BaseException" && c == "object") = true := e
    simp only [Bool.and_eq_true, beq_iff_eq] at e'
    obtain ⟨⟨rfl, rfl⟩, rfl⟩ := e'
    exact PySem.F.store_Exception.passes self
theorem zik : ∀ {l : List Value}, zog l = true → l.contains (.type "object") = true ∧ l.contains (.type "BaseException") = true
  | [], e => by cases e
  | .ref c :: r, e => by
    have z := zik (l := r) (by unfold zog at e; exact e)
    rw [List.contains_cons, List.contains_cons, z.1, z.2]
    exact ⟨Bool.or_true _, Bool.or_true _⟩
  | [.type a, .type b, .type c], e => by
    have e' : (a == "Exception" && b == "BaseException" && c == "object") = true := e
    simp only [Bool.and_eq_true, beq_iff_eq] at e'
    obtain ⟨⟨rfl, rfl⟩, rfl⟩ := e'
    exact ⟨by decide, by decide⟩
def zrN (K : PySem.W.Frag) (C : Addr) : Bool := (PySem.W.clsIn K C).any fun cd => zog cd.mro
structure zty (K : PySem.W.Frag) (C : Addr) : Prop where
  po : zrN K C = true
  hd : PySem.W.hasDictIn K C = true
  sa : PySem.W.findIn K (.ref C) "__setattr__" = some (some (.builtin "object.__setattr__"))
  ga : PySem.W.findIn K (.ref C) "__getattribute__" = some (some (.builtin "BaseException.__getattribute__"))
  gh : PySem.W.findIn K (.ref C) "__getattr__" = some none
section
variable {prog : Program} {w : World} {A : Around} {K : PySem.W.Frag} {s : Shared} {x C : Addr} {R : Result → Shared → Prop}
theorem zw1 {ox : Obj} {od : Option Obj} {name : Str} {tk : Tok} {v : Value} (KX : K.In s.heap) (I : PySem.W.InstAt s.heap x ox C od) (hp : zrN K C = true) (ht : NoAttr K C name)
    (h : ∀ b, wpAny (model prog w) A.in1 (storeInOwnDict (.ref x) (.ref C) (.str name tk) name v b)
      (fun fin s' => match fin with | .done f => R (.ok f) s' | .again c' => c'.quiet = true ∧ codeAny (model prog w) A c' R s') (fun e s' => R (.error e) s') s) :
    codeAny (model prog w) A (.call (.builtin "object.__setattr__") ⟨[.ref x, .str name tk, v], []⟩) R s := by
  have SF := PySem.F.store_object
  obtain ⟨cd, hc, ho⟩ := PySem.W.any_some hp
  have ne : cd.mro.isEmpty = false := by
    cases q : cd.mro with
    | nil => rw [q] at ho; cases ho
    | cons _ _ => rfl
  have sub : PySem.W.Looks (model prog w) s.heap (isInstance (.ref x) (.type "object")) true := I.type.andThen (PySem.W.looks_mroIn KX (by
    unfold PySem.W.mroIn
    rw [hc, Option.bind_some, if_neg (by rw [ne]; decide), (zik ho).1]))
  refine codeAny_call_builtin SF.slot.plain SF.entry (@PySem.W.check_slot (model prog w) _ _ s "object.__setattr__" "object" "__setattr__" (.ref x) [.str name tk, v] [] _ SF.kind SF.split sub (SF.args (.ref x) (.str name tk) v) ?_)
  have hm : PySem.W.Looks (model prog w) s.heap (mroOf (.ref C)) cd.mro := (PySem.W.looks_clsIn KX hc).andThen .now
  rw [PySem.W.osa_eq, refuse_eq]
  refine wpAny_bind (wpAny_bind (I.type.here (wpAny_bind (hm.here ?_))))
  rw [zt3 _ ho]
  exact wpAny_pure (wpAny_bind (I.type.here (wpAny_bind ((PySem.W.looks_findIn KX ht).here (wpAny_bind (wpAny_pure (h _)))))))
end
section
variable {X : Cx} {pins : List (Addr × Obj)} {σ : List (Option V)} {H : Hp} {s : Shared} {a C d : Addr} {fr : Bool} {tb : Value} {A : Around} {E : Value → Shared → Prop} {f : Str} {y : V} {u : Value} {fs : List (Str × V)}
theorem zDt {Q : Unit → Shared → Prop} (I : Inv X pins σ H s) (e : H a = some (xO C fr none tb a)) (c : zty X.K C) (n : NoAttr X.K C f) (ry : RelV y u)
    (h : ∀ d H' s', H d = none → d ≠ a → Inv X pins σ H' s' → H' a = some (xO C fr (some d) tb a) → H' d = some (.xd [(f, y)]) → (∀ b, b ≠ a → b ≠ d → H' b = H b) → Q () s') : wpAny (model X.prog X.w) A (setAttr (.ref a) f u) Q E s := by
  obtain ⟨vs, sl, g1, sz, v1, v2⟩ := I.xo e
  have J : PySem.W.InstAt s.heap a ⟨.ref C, none, .fields vs, sl⟩ C none := ⟨g1, rfl, rfl, True.intro⟩
  have I0 := I.tok (s.toks + 1)
  refine PySem.W.set_plain I.kIn J c.sa (zw1 (s := { s with toks := s.toks + 1 }) I.kIn J c.po n fun b => ?_)
  obtain ⟨cd, hc, hd'⟩ := PySem.W.any_some c.hd
  refine wpAny_bind (wpAny_pure (wpAny_bind (wpAny_bind (wpAny_loadPart g1 (wpAny_bind (PySem.W.Looks.here (s := { s with toks := s.toks + 1 }) (PySem.W.looks_clsIn I.kIn hc) ?_))))))
  rw [hd']
  show wpAny _ A.in1 (alloc { cls := .type "dict", data := .dict #[] } >>= fun d => (update a fun o => { cls := o.cls, dict := some d, data := o.data, slots := o.slots }) >>= fun _ => dictMade (.ref C) a d) _ _ _
  refine wpAny_bind (wpAny_alloc ?_)
  generalize hd0 : s.heap.objs.size = d
  have dn : H d = none := I.hok.fresh (Nat.le_of_eq hd0)
  have da : a ≠ d := zi e dn
  have gD : (s.heap.push { cls := .type "dict", data := .dict #[] }).get? d = some { cls := .type "dict", data := .dict #[] } := by
    rw [← hd0]
    exact Heap.get?_push_size s.heap rfl
  have nD : (s.heap.push { cls := .type "dict", data := .dict #[] }).Ns d (fun _ => none) := ⟨_, #[], _, gD, rfl, fun z hz => absurd hz (by simp), fun _ => rfl⟩
  have I1 := I0.laid (a := d) (o := .xd []) (h' := s.heap.push { cls := .type "dict", data := .dict #[] }) (t' := s.toks + 1) (fun b q z => Heap.get?_push_of_some _ z) (Nat.le_of_eq hd0)
    ⟨fun _ => none, Heap.Ns1.of_empty nD, fun _ => True.intro, Nat.zero_le _, fun z hz => absurd rfl hz⟩
  have e1 : upd H d (.xd []) a = some (xO C fr none tb a) := by
    rw [ze da]
    exact e
  have g2 : (s.heap.push { cls := .type "dict", data := .dict #[] }).get? a = some ⟨.ref C, none, .fields vs, sl⟩ := Heap.get?_push_of_some _ g1
  refine wpAny_bind (wpAny_update g2 ?_)
  have g3 : ((s.heap.push { cls := .type "dict", data := .dict #[] }).update a fun o => { cls := o.cls, dict := some d, data := o.data, slots := o.slots }).get? a = some ⟨.ref C, some d, .fields vs, sl⟩ := Heap.get?_update_self _ g2 rfl
  have I2 := I1.write (x := a) (e := a) (o := xO C fr (some d) tb a) (t' := s.toks + 1) (h' := (s.heap.push { cls := .type "dict", data := .dict #[] }).update a fun o => { cls := o.cls, dict := some d, data := o.data, slots := o.slots })
    (by rw [e1]; exact zAc) (.inl rfl) (fun b q hb z => (Heap.get?_update_other _ _ (Ne.symm hb)).trans z) ⟨_, g3⟩ (zBn ⟨vs, sl, g3, sz, v1, v2⟩)
  have e2 : upd (upd H d (.xd [])) a (xO C fr (some d) tb a) d = some (.xd []) := by
    rw [ze (Ne.symm da)]
    exact zc
  refine wpAny_pure (a := some d) ?_
  show wpAny _ _ (storeInDict d (.str f s.toks) f u) _ _ _
  unfold storeInDict newKeyGuard
  obtain ⟨mA, n1, r1, l1, w1⟩ := (show ObjOk X.prog X.w _ _ d (.xd []) from I2.hok d _ e2)
  refine wpAny_bind (wpAny_pure (wpAny_bind (wpAny_nsSet1 n1 fun h3 n3 s3 => ?_)))
  obtain ⟨oD, esD, epD, hoD, hdD, hcD⟩ := n3.count (PySem.Within.cons f u w1)
  refine wpAny_bind (wpAny_lookBehind hoD (by rw [hdD]; exact pastItsLine_dict (Nat.le_trans hcD (by show 1 ≤ _; rw [sizeLine_eq]; decide))) ?_)
  refine wpAny_pure (h d (upd (upd (upd H d (.xd [])) a (xO C fr (some d) tb a)) d (.xd [(f, y)])) _ dn (Ne.symm da) (I2.write (x := d) (e := d) (by rw [e2]; exact True.intro) (.inl rfl) (fun b q hb z => (s3.2 b hb).trans z) ⟨_, hoD⟩
    ⟨_, n3, fun g => ?_, by show 1 ≤ 1000; decide, fun g hg => ?_⟩) ?_ zc fun b hb hbd => ?_)
  · show RelO (List.lookup g [(f, y)]) (if g = f then some u else mA g)
    by_cases q : g = f
    · rw [if_pos q, q]
      simp only [List.lookup_cons, beq_self_eq_true]
      exact ry
    · rw [if_neg q]
      have q' : (g == f) = false := by simpa using q
      simp only [List.lookup_cons, q', List.lookup_nil]
      exact r1 g
  · show g ∈ [f]
    by_cases q : g = f
    · rw [q]
      exact List.mem_singleton.mpr rfl
    · have z : mA g ≠ none := fun z => hg (by show (if g = f then some u else mA g) = none; rw [if_neg q]; exact z)
      exact absurd (w1 g z) (by simp)
  · rw [ze da]
    exact zc
  · rw [ze hbd, ze hb, ze hbd]
theorem zC8 {Q : Unit → Shared → Prop} (I : Inv X pins σ H s) (e : H a = some (xO C fr (some d) tb a)) (ed : H d = some (.xd fs)) (c : zty X.K C) (n : NoAttr X.K C f) (hl : fs.length < 1000) (ry : RelV y u)
    (h : ∀ s', Inv X pins σ (upd H d (.xd (zjN f y fs))) s' → Q () s') : wpAny (model X.prog X.w) A (setAttr (.ref a) f u) Q E s := by
  obtain ⟨vs, sl, g1, sz, v1, v2⟩ := I.xo e
  have da : a ≠ d := zi3 e ed (by intro z; cases z)
  obtain ⟨mA, n1, r1, l1, w1⟩ := (show ObjOk X.prog X.w _ _ d (.xd fs) from I.hok d _ ed)
  obtain ⟨od, god, _⟩ := zsF n1
  have J : PySem.W.InstAt s.heap a ⟨.ref C, some d, .fields vs, sl⟩ C (some od) := ⟨g1, rfl, rfl, god⟩
  have I0 := I.tok (s.toks + 1)
  refine PySem.W.set_plain I.kIn J c.sa (zw1 (s := { s with toks := s.toks + 1 }) I.kIn J c.po n fun b => ?_)
  obtain ⟨cd, hc, hd'⟩ := PySem.W.any_some c.hd
  refine wpAny_bind (wpAny_pure (wpAny_bind (wpAny_bind (wpAny_loadPart g1 (wpAny_bind (PySem.W.Looks.here (s := { s with toks := s.toks + 1 }) (PySem.W.looks_clsIn I.kIn hc) ?_))))))
  rw [hd']
  refine wpAny_pure (a := some d) ?_
  show wpAny _ _ (storeInDict d (.str f s.toks) f u) _ _ _
  unfold storeInDict newKeyGuard
  refine wpAny_bind (wpAny_pure (wpAny_bind (wpAny_nsSet1 n1 fun h3 n3 s3 => ?_)))
  obtain ⟨oD, esD, epD, hoD, hdD, hcD⟩ := n3.count (PySem.Within.cons f u w1)
  refine wpAny_bind (wpAny_lookBehind hoD (by rw [hdD]; exact pastItsLine_dict (Nat.le_trans hcD (by rw [List.length_cons, List.length_map, sizeLine_eq]; omega))) ?_)
  refine wpAny_pure (h _ (I0.write (x := d) (e := d) (by rw [ed]; exact True.intro) (.inl rfl) (fun b q hb z => (s3.2 b hb).trans z) ⟨_, hoD⟩ ⟨_, n3, fun g => ?_, ?_, fun g hg => ?_⟩))
  · show RelO ((zjN f y fs).lookup g) (if g = f then some u else mA g)
    rw [zmT]
    by_cases q : g = f
    · rw [if_pos q, if_pos q]
      exact ry
    · rw [if_neg q, if_neg q]
      exact r1 g
  · have := zng f y fs
    omega
  · by_cases q : g = f
    · rw [q]
      exact (zkH f y fs).1
    · refine (zkH f y fs).2 g (w1 g fun z => hg ?_)
      show (if g = f then some u else mA g) = none
      rw [if_neg q]
      exact z
end
end L2
end
section
set_option Elab.async false
set_option linter.all false
set_option maxRecDepth 100000
set_option maxHeartbeats 400000
namespace L2
open PySem PySem.Spec PyProof.Rows
theorem zEf : builtinKind "BaseException.__getattribute__" = some .slot := by decide +kernel
theorem zCI : splitId "BaseException.__getattribute__" = some ("BaseException", "__getattribute__") := by decide +kernel
section
variable {X : Cx} {pins : List (Addr × Obj)} {σ : List (Option V)} {H : Hp} {s : Shared} {a C d : Addr} {fr : Bool} {tb : Value} {A : Around} {E : Value → Shared → Prop} {f : Str} {v : V} {fs : List (Str × V)}
theorem zDJ {b : Bool} {Q : Value → Shared → Prop} (I : Inv X pins σ H s) (e : H a = some (xO C fr (some d) tb a)) (ed : H d = some (.xd fs)) (c : zty X.K C) (n : NoAttr X.K C f) (l : fs.lookup f = some v)
    (h : ∀ u s', Inv X pins σ H s' → RelV v u → Q u s') : wpAny (model X.prog X.w) A (getAttr (.ref a) f b) Q E s := by
  obtain ⟨vs, sl, g1, sz, v1, v2⟩ := I.xo e
  obtain ⟨mA, n1, r1, l1, w1⟩ := (show ObjOk X.prog X.w _ _ d (.xd fs) from I.hok d _ ed)
  obtain ⟨od, god, lk0⟩ := zsF n1
  have J : PySem.W.InstAt s.heap a ⟨.ref C, some d, .fields vs, sl⟩ C (some od) := ⟨g1, rfl, rfl, god⟩
  obtain ⟨u, hu, ru⟩ : ∃ u, mA f = some u ∧ RelV v u := by
    have z := r1 f
    rw [l] at z
    cases q : mA f with
    | none => rw [q] at z; exact z.elim
    | some u => rw [q] at z; exact ⟨u, rfl, z⟩
  have FX := PySem.F.attr_Exception
  have L0 := J.type (M := model X.prog X.w)
  have L1 := PySem.W.looks_findIn (M := model X.prog X.w) I.kIn c.ga
  have L2' := PySem.W.looks_findIn (M := model X.prog X.w) I.kIn c.gh
  have LF := PySem.W.looks_find (M := model X.prog X.w) I.kIn J (PySem.W.findObj_own (name := f) c.hd n rfl (by rw [lk0, hu]))
  obtain ⟨cd, hc, ho⟩ := PySem.W.any_some c.po
  have ne : cd.mro.isEmpty = false := by
    cases q : cd.mro with
    | nil => rw [q] at ho; cases ho
    | cons _ _ => rfl
  have sub : PySem.W.Looks (model X.prog X.w) s.heap (isInstance (.ref a) (.type "BaseException")) true := J.type.andThen (PySem.W.looks_mroIn I.kIn (by
    unfold PySem.W.mroIn
    rw [hc, Option.bind_some, if_neg (by rw [ne]; decide), (zik ho).2]))
  have I' := I.tok (s.toks + 1)
  obtain ⟨hp, g, dr, tk, os⟩ := s
  unfold getAttr getAttrBy
  refine wpAny_bind (wpAny_mkText (wpAny_holding (wpAny_bind (L0.at (wpAny_bind (L1.at ?_))))))
  dsimp only
  rw [if_neg (by simp)]
  unfold getAttrByItsOwn hookBefore
  rw [if_pos (by rfl)]
  refine wpAny_bind (L2'.at ?_)
  refine wpAny_bind (wpAny_attempt (wpAny_holding ?_))
  unfold callGetattribute
  rw [if_neg (by cases b <;> decide)]
  unfold boundAndCalled
  rw [FX.ga.bind]
  refine wpAny_bind (wpAny_pure (wpAny_call ?_))
  refine codeAny_call_builtin FX.ga.plain PySem.F.entry_bexc_ga (@PySem.W.check_slot (model X.prog X.w) _ _ ⟨hp, g, dr, tk + 1, os⟩ "BaseException.__getattribute__" "BaseException" "__getattribute__" (.ref a) [.str f tk] [] _ zEf zCI sub (PySem.F.args_bexc_ga _ _) ?_)
  show wpAny _ _ (typeOf (.ref a) >>= fun tp => Builtin.ObjectAttr.find (.ref a) tp f >>= _) _ _ _
  refine wpAny_bind (L0.at (wpAny_bind (LF.at ?_)))
  refine wpAny_pure ?_
  show wpAny _ _ (handedOut u) _ _ _
  rw [PySem.W.handedOut_of (zwC ru)]
  exact wpAny_pure (h u _ I' ru)
end
end L2
end
section
set_option Elab.async false
set_option linter.all false
set_option maxRecDepth 100000
set_option maxHeartbeats 1000000
namespace L2
open PySem PySem.Spec PyProof.Rows
def zEq (K : PySem.W.Frag) (ta : TE) (f : Str) : TE := fun σ H Q => ta σ H fun x H1 => ∃ a C fr d tb fs v, x = .ref a ∧ H1 a = some (xO C fr (some d) tb a) ∧ H1 d = some (.xd fs) ∧ zty K C ∧ NoAttr K C f ∧ fs.lookup f = some v ∧ Q v H1
def zFA (K : PySem.W.Frag) (ta tv : TE) (f : Str) : TS := fun D σ H => tv σ H fun y H1 => ta σ H1 fun x H2 => ∃ a C fr dx tb, x = .ref a ∧ H2 a = some (xO C fr dx tb a) ∧ zty K C ∧ NoAttr K C f ∧
  ((dx = none ∧ ∀ d H3, H2 d = none → d ≠ a → H3 a = some (xO C fr (some d) tb a) → H3 d = some (.xd [(f, y)]) → (∀ b, b ≠ a → b ≠ d → H3 b = H2 b) → D.nx σ H3) ∨
    ∃ d fs, dx = some d ∧ H2 d = some (.xd fs) ∧ fs.length < 1000 ∧ D.nx σ (upd H2 d (.xd (zjN f y fs))))
section
variable {X : Cx} {o e value : Expr} {f : Str} {pos pos' : Pos} {ta tv : TE}
theorem zDF (he : PE X e ta) (hb : attributeBase e f X.env (eval e X.env) = eval e X.env) : PE X (.Attribute e f pos) (zEq X.K ta f) := by
  intro pins s σ H Q I h
  refine zAY hb (thn (he pins s σ H _ I h) fun u s1 ⟨x, H1, I1, rx, a, C, fr, d, tb, fs, v, ex, ea, ed, c, n, l, q⟩ => ?_)
  subst ex
  obtain rfl : u = Value.ref a := rx
  exact zDJ I1 ea ed c n l fun u' s2 I2 ru => ⟨v, H1, I2, ru, q⟩
theorem zqJ (ha : PE X o ta) (hv : PE X value tv) (hs : swapsWith value (some (.Attribute o f pos')) pos.line X.env = pure false) : PS X (.Assign [.Attribute o f pos'] value pos) (zFA X.K ta tv f) := by
  intro pins s σ H D I h
  refine plainObj_wpAny_Assign_Attribute (thn (hv pins s σ H _ I h) fun u s1 ⟨y, H1, I1, ry, q⟩ => thn (ha pins s1 σ H1 _ I1 q) fun ov s2 ⟨x, H2, I2, rx, a, C, fr, dx, tb, ex, ea, c, n, q2⟩ => ?_) hs
  subst ex
  obtain rfl : ov = Value.ref a := rx
  rcases q2 with ⟨rfl, q2⟩ | ⟨d, fs, rfl, ed, l, q2⟩
  · exact zDt I2 ea c n ry fun d H3 s3 dn da I3 e3 e4 kp => ⟨σ, H3, I3, q2 d H3 dn da e3 e4 kp⟩
  · exact zC8 I2 ea ed c n l ry fun s3 I3 => ⟨σ, _, I3, q2⟩
end
structure CAt (K : PySem.W.Frag) (C : Addr) (m : Str) (f : Addr) : Prop where
  ga : PySem.W.specialIn K (.ref C) "__getattribute__" = some (some (.builtin "type.__getattribute__"))
  rd : PySem.W.readsIn K C (.type "type") = true
  fd : PySem.W.findCls K (.ref C) (.type "type") m = some (.val (.ref f))
  kp : PySem.W.keepIn K (.ref f) = true
section
variable {X : Cx} {W : WX} {CX : CXT} {k : Nat} {f C : Addr} {fd : FuncData} {ps : List Str} {sp : Sp} {x m : Str} {p pos apos : Pos} {e : Expr} {es : List Expr} {t : TA} {cm : Bool}
theorem zyO {pl : Sem Bool} (F : FnOk X.prog X.w X.K X.mg X.base CX cm k f fd ps sp) (hr : Room cm k X.A) (hg : Gl X x) (hm : X.mg x = some (.ref C)) (hc : CAt X.K C m f) (hb : Binds X.K fd ps []) (hx : zjr CX X W) (ha : PA X (e :: es) t)
    (hdb : (x == ("__debug__" : Str)) = false := by decide)
    (hst : starEach (e :: es) X.env = (false, eval e X.env) :: starEach es X.env := by rfl) (hpl : (backTo pos (starEach es X.env)).any (·.1) = false := by rfl)
    (ht : eval (.Call (.Attribute (.Name x p) m apos) (e :: es) [] pos) X.env = (do
      let ov ← eval (.Name x p) X.env
      standAt apos.atName
      let (f, first) ← holding [ov] (getMethod ov m pl)
      callWith pos f first (backTo pos (starEach (e :: es) X.env)) (backToKw pos (keywordEach [] X.env))) := by rfl) :
    PE X (.Call (.Attribute (.Name x p) m apos) (e :: es) [] pos) (zEr sp [] W t) := by
  intro pins s σ H Q I h
  refine PySem.W.methodCall_KW (pl := pl) (ziX I hg hm ?_ hdb) ht
  refine PySem.W.method_cls I.kIn hc.ga (PySem.W.cls_value I.kIn hc.rd hc.fd rfl ?_)
  have I0 := I.tok (s.toks + 1)
  refine PySem.W.callWith_K (h₀ := X.base) I.ok.mod.kin hc.kp (thn (ha pos pins { s with toks := s.toks + 1 } σ H _ I0 h) fun us s1 ⟨vs, H1, I1, r, q⟩ => ⟨I1.kIn, ?_⟩) hst hpl
  exact zyB F hr hb .nil hx I1 r q
end
end L2
end
section
set_option Elab.async false
set_option linter.all false
set_option maxRecDepth 100000
set_option maxHeartbeats 4000000
namespace L2
open PySem PySem.Spec PyProof.Rows
section
variable {X : Cx}
theorem zzs {E : XK} {pins : List (Addr × Obj)} {s : Shared} {σ : St} {H : Hp} {Q : VK} {elt tg iter : Expr} {ifs : List Expr} {scope : Scope} {own : List (Str × Nat)} {pos pos' : Pos} {wi : TI} {g : TG} {tt : TT} {te : TE} {use : Option (Value → Sem Unit)} {Qf : Value → Shared → Prop}
    (tk : Takes X (fun _ => E)) (hst : X.stack = X.env :: X.outer) (hfm : X.env.frame = some X.env.locals) (hc : X.calm = true) (hN : X.N.Nodup) (I : Inv X pins σ H s) (hi : PI X tg iter wi) (ok : ze5 X.N X.env.scope scope own)
    (hg : ∀ (s : Shared) (H : Hp) (C : Addr) (cl : List (Str × Addr)) (fp : List Addr) (xe : Value → Shared → Prop), Takes ((X.blk s H scope (compEnvC scope cl C X.env) fp).wish xe) (fun _ => E) → PG ((X.blk s H scope (compEnvC scope cl C X.env) fp).wish xe) tg g) (ht : ∀ (s : Shared) (H : Hp) (C : Addr) (cl : List (Str × Addr)) (fp : List Addr) (xe : Value → Shared → Prop), Takes ((X.blk s H scope (compEnvC scope cl C X.env) fp).wish xe) (fun _ => E) → PTs ((X.blk s H scope (compEnvC scope cl C X.env) fp).wish xe) ifs tt)
    (he : ∀ (s : Shared) (H : Hp) (C : Addr) (cl : List (Str × Addr)) (fp : List Addr) (xe : Value → Shared → Prop), Takes ((X.blk s H scope (compEnvC scope cl C X.env) fp).wish xe) (fun _ => E) → PE ((X.blk s H scope (compEnvC scope cl C X.env) fp).wish xe) elt te) (hs : ∀ x, foldedSetIterable iter X.env x = pure x)
    (h : tLc wi g tt te (own.map (·.2)) σ H Q)
    (hRR : ∀ D C s' m H', Inv X pins σ H' s' → Q (.ref D) H' → s'.heap.Ns C m → zpN X pins H' C → compPost (model X.prog X.w) X.A X.xe use Qf (.ref D) C (.ok .next) s') :
    wpAny (model X.prog X.w) X.A (comprehension (.ListComp elt [⟨tg, iter, ifs, 0⟩] scope pos) scope X.env pos' (newList []) false (eval iter X.env) use) Qf X.xe s := by
  have hfree : ∀ y ∈ scope.names, y.2 = .free → ∃ c, X.env.cells.lookup y.1 = some c := fun y hy e => by
    rcases ok.free y hy e with k | k
    · exact I.ok.has _ (.inl k)
    · exact I.ok.has _ (.inr k)
  refine wpAny_comprehension_free (use := use) rfl hs (zut hfree) ok.kind (fun y hy e => by rw [ok.uniq y hy, e])
    (thn (hi pins s σ H _ I h) fun xv s1 hx => thn hx fun itv s2 h2 => ?_)
  obtain ⟨it, fp, tn, J, H2, e, I2, T, st2, f2, q⟩ := h2
  subst e
  refine wpAny_newObj_type (zs2 ?_) (by show 0 ≤ sizeLine; decide)
  generalize hD : s2.heap.objs.size = D
  have hDn : H2 D = none := I2.hok.fresh (Nat.le_of_eq hD)
  obtain ⟨W, ⟨m0, w0⟩, turn⟩ := q D hDn
  generalize hs3 : ({ s2 with heap := s2.heap.push { cls := .type "list", data := .seq ([] : List Value).toArray } } : Shared) = s3
  have I3 : Inv X pins σ (upd H2 D (.lst [])) s3 := by
    rw [← hs3]
    refine I2.laid (t' := s2.toks) (fun b o e => Heap.get?_push_of_some _ e) (Nat.le_of_eq hD) ⟨Nat.zero_le _, [], 0, .nil, ?_⟩
    rw [← hD]
    exact Heap.get?_push_size _ rfl
  have h3 : s3.heap = s2.heap.push { cls := .type "list", data := .seq ([] : List Value).toArray } := by rw [← hs3]
  have sz : ∀ b ∈ fp, b < s2.heap.objs.size := fun b hb => by
    obtain ⟨o, e, _⟩ := T.obj _ _ st2 b hb
    exact Heap.lt_size e
  have f3 : ∀ b ∈ fp, zpN X pins (upd H2 D (.lst [])) b ∧ b < s3.heap.objs.size := fun b hb => by
    have hlt := sz b hb
    refine ⟨⟨?_, (f2 b hb).2⟩, by rw [h3, Heap.size_push]; exact Nat.lt_succ_of_lt hlt⟩
    rw [ze (by rw [← hD]; exact Nat.ne_of_lt hlt)]
    exact (f2 b hb).1
  have st3 : tn 0 s3.heap := T.keep _ _ _ st2 fun b _ o e => by rw [h3]; exact Heap.get?_push_of_some _ e
  have I4 := zsO I3 ok hN f3
  let RR := compPost (model X.prog X.w) X.A X.xe use Qf (.ref D) s3.heap.objs.size
  let xeB : Value → Shared → Prop := notedBy (model X.prog X.w) X.A (compEnvC scope (cellsFrom (s3.heap.objs.size + 1) scope.names (yN X.env.cells scope.names [])) s3.heap.objs.size X.env) (fun e s' => RR (.error e) s')
  have tkB : Takes ((X.blk s3 (upd H2 D (.lst [])) scope (compEnvC scope (cellsFrom (s3.heap.objs.size + 1) scope.names (yN X.env.cells scope.names [])) s3.heap.objs.size X.env) fp).wish xeB) (fun _ => E) := by
    refine ⟨fun p5 σ5 H5 s5 a5 C5 fr5 dx5 I5 l5 w5 => ?_, PassesOwn.looking⟩
    refine ztO (X := (X.blk s3 (upd H2 D (.lst [])) scope (compEnvC scope (cellsFrom (s3.heap.objs.size + 1) scope.names (yN X.env.cells scope.names [])) s3.heap.objs.size X.env) fp).wish xeB) (L := X.env.locals) I5 I5.ok.frames hst hfm hfm l5 fun H6 s6 I6 m6 l6 => ?_
    have I7 : Inv X pins σ H6 s6 := I3.call' (ch := fp) I6.os I6.base I6.hok I6.bare fun b hb => ⟨(f3 b hb).1.2.2.2.1, (f3 b hb).1.2.1, (f3 b hb).1.2.2.2.2.1, (f3 b hb).1.2.2.2.2.2⟩
    have nC : H6 s3.heap.objs.size = none := I6.free
    obtain ⟨m7, hn7, _⟩ := I6.loc
    have hn7 : s6.heap.Ns s3.heap.objs.size m7 := hn7
    have F7 : zpN X pins H6 s3.heap.objs.size := I3.fpOk (Nat.le_refl _) nC
    obtain ⟨f0, f1, f2, f3', f4, f5⟩ := F7
    refine ⟨m7, hn7, fun h8 sb8 cenv hce => ?_⟩
    have I8 : Inv X pins σ H6 { s6 with heap := h8 } := I7.turned (t' := s6.toks) (fun b o hb e => (sb8.2 b hb).trans e) f0 f1 f3' f4 f5
    exact zrM I8 l6 fun H9 s9 I9 m9 l9 => tk.th pins σ H9 s9 a5 C5 fr5 dx5 I9 l9.live (by rw [m9, m6]; exact w5)
  have pg := hg s3 (upd H2 D (.lst [])) s3.heap.objs.size (cellsFrom (s3.heap.objs.size + 1) scope.names (yN X.env.cells scope.names [])) fp xeB tkB
  have pt := ht s3 (upd H2 D (.lst [])) s3.heap.objs.size (cellsFrom (s3.heap.objs.size + 1) scope.names (yN X.env.cells scope.names [])) fp xeB tkB
  have pe := he s3 (upd H2 D (.lst [])) s3.heap.objs.size (cellsFrom (s3.heap.objs.size + 1) scope.names (yN X.env.cells scope.names [])) fp xeB tkB
  clear tkB
  show codeAny _ _ (.compStart (.ListComp elt [⟨tg, iter, ifs, 0⟩] scope pos) 0 (.ref it) (.ref D) (compEnvC scope (cellsFrom (s3.heap.objs.size + 1) scope.names (yN X.env.cells scope.names [])) s3.heap.objs.size X.env)) (compPost (model X.prog X.w) X.A X.xe use Qf (.ref D) s3.heap.objs.size) { s3 with heap := pushCells (s3.heap.push { cls := .type "dict", data := .dict #[] }) scope.names }
  have nfp : ∀ b ∈ fp, (upd H2 D (.lst [])) b = none := fun b hb => (f3 b hb).1.1
  have hxe : xeB = notedBy (model X.prog X.w) X.A (compEnvC scope (cellsFrom (s3.heap.objs.size + 1) scope.names (yN X.env.cells scope.names [])) s3.heap.objs.size X.env) (fun e s' => RR (.error e) s') := rfl
  clear_value xeB
  generalize hce : compEnvC scope (cellsFrom (s3.heap.objs.size + 1) scope.names (yN X.env.cells scope.names [])) s3.heap.objs.size X.env = ce at I4 pg pt pe hxe ⊢
  have cL : ce.locals = s3.heap.objs.size := by subst hce; rfl
  generalize hH3 : upd H2 D (.lst []) = H3 at I3 I4 pg pt pe w0 nfp f3
  generalize hs4 : ({ s3 with heap := pushCells (s3.heap.push { cls := .type "dict", data := .dict #[] }) scope.names } : Shared) = s4 at I4 ⊢
  have st4 : tn 0 s4.heap := T.keep _ _ _ st3 fun b _ o e => by rw [← hs4]; exact pushCells_keeps _ _ _ _ (Heap.get?_push_of_some _ e)
  have stat : ∀ {σ' : St} {H' : Hp} {s' : Shared}, Inv (X.blk s3 H3 scope ce fp) [] σ' H' s' → (∀ b ∈ fp, H' b = none) → ∀ b ∈ fp, zpN (X.blk s3 H3 scope ce fp) [] H' b := fun {σ' H' s'} I' hn b hb =>
    ⟨hn b hb, (I'.ok.exf b hb).1, I'.ok.exfs b hb, .inl hb, fun x c e => (I'.ok.exf b hb).2 x c e, fun p hp => absurd (show p ∈ ([] : List (Addr × Obj)) ++ [] from hp) (by simp)⟩
  have loop : codeAny (model X.prog X.w) X.A (.compLoop (.ListComp elt [⟨tg, iter, ifs, 0⟩] scope pos) 0 (.ref it) (.ref D) ce) (compPost (model X.prog X.w) X.A X.xe use Qf (.ref D) s3.heap.objs.size) s4 := by
    refine zqL (fun n s' => ∃ i H', Inv (X.blk s3 H3 scope ce fp) [] (ZK σ (own.map (·.2))) H' s' ∧ tn i s'.heap ∧ (∀ b ∈ fp, H' b = none) ∧ W i n H') ?_ m0 ⟨0, H3, I4, st4, nfp, w0⟩
    rintro n s5 ⟨i, H5, I5, st5, n5, w5⟩
    rcases turn i n H5 w5 with ⟨stop, qq⟩ | ⟨go, Nx, hNx, step⟩
    · have td := T.done (X.blk s3 H3 scope ce fp) rfl rfl rfl hc i [] s5 _ H5 (fun _ _ => False) I5 (stat I5 n5) st5 stop
      refine zxo td fun r s6 ⟨hr, I6⟩ => ?_
      subst hr
      have I7 : Inv X pins σ H5 s6 := I3.call' (ch := fp) I6.os I6.base I6.hok I6.bare fun b hb => ⟨(f3 b hb).1.2.2.2.1, (f3 b hb).1.2.1, (f3 b hb).1.2.2.2.2.1, (f3 b hb).1.2.2.2.2.2⟩
      have nC : H5 s3.heap.objs.size = none := by
        have z : H5 ce.locals = none := I6.free
        rw [cL] at z
        exact z
      obtain ⟨m, hn, _⟩ := I6.loc
      have hn : s6.heap.Ns ce.locals m := hn
      rw [cL] at hn
      exact hRR D s3.heap.objs.size s6 m H5 I7 qq hn (I3.fpOk (Nat.le_refl _) nC)
    · have ti := T.item (X.blk s3 H3 scope ce fp) rfl rfl rfl hc i [] s5 _ H5 (fun _ _ => False) I5 (stat I5 n5) st5 go
      refine zxo ti fun r s6 ⟨u, hr, h6⟩ => ?_
      subst hr
      refine zxo h6 fun _ s7 ⟨x, H7, I7, r7, y7, st7, n7⟩ => ?_
      have I7' := I7.pinned (stat I7 n7) (T.obj _ _ st7)
      refine wpAny_mono (pg _ s7 _ H7 x u _ (I7'.wish xeB) r7 (step x H7 y7)) (fun _ s8 ⟨σ8, H8, I8w, hw8, q8⟩ => ?_) fun _ _ z => (by rw [← hxe]; exact z)
      have I8 := I8w.unwish
      refine wpAny_mono (pt _ s8 σ8 H8 _ (I8.wish xeB) q8) (fun b s9 ⟨H9, I9w, q9⟩ => ?_) fun _ _ z => (by rw [← hxe]; exact z)
      have I9 := I9w.unwish
      have fin : ∀ {s' : Shared} {H' : Hp}, Inv (X.blk s3 H3 scope ce fp) ([] ++ zsb fp s7.heap) σ8 H' s' → Nx H' → ∃ m, m < n ∧ ∃ i H', Inv (X.blk s3 H3 scope ce fp) [] (ZK σ (own.map (·.2))) H' s' ∧ tn i s'.heap ∧ (∀ b ∈ fp, H' b = none) ∧ W i m H' := fun {s' H'} I' nx => by
        obtain ⟨m', hm, w'⟩ := hNx H' nx
        have pin' : ∀ b ∈ fp, ∀ o, s7.heap.get? b = some o → s'.heap.get? b = some o ∧ H' b = none := fun b hb o e =>
          let z := I'.pin (b, o) (List.mem_append_right _ (List.mem_append_right _ (zlj hb e)))
          ⟨z.1, z.2.1⟩
        have hl : (ZK σ (own.map (·.2))).length = σ8.length := by rw [← hw8, zi5]
        refine ⟨m', hm, i + 1, H', (I'.unpinned (pins := [])).weak hl (fun j v e => ?_), T.keep _ _ _ st7 fun b hb o e => (pin' b hb o e).1, fun b hb => ?_, w'⟩
        · rw [← hw8] at e
          exact (zod e).1
        · obtain ⟨o, e, _⟩ := T.obj _ _ st7 b hb
          exact (pin' b hb o e).2
      cases b with
      | false =>
        simp only [Bool.false_eq_true, if_false] at q9 ⊢
        exact fin I9 q9
      | true =>
        simp only [if_true] at q9 ⊢
        refine wpAny_mono (pe _ s9 σ8 H9 _ (I9.wish xeB) q9) (fun z s10 ⟨yv, H10, I10w, r10, acc, hD10, hz10, nx⟩ => ?_) fun _ _ z => (by rw [← hxe]; exact z)
        have I10 := I10w.unwish
        exact zDB (X := X.blk s3 H3 scope ce fp) I10 hD10 hz10 r10 fun s11 I11 => fin I11 nx
  exact codeAny_compStart_list loop (T.self X.A 0 _ _ _ st4 loop)
theorem zx3 {E : XK} {elt tg iter : Expr} {ifs : List Expr} {scope : Scope} {own : List (Str × Nat)} {pos : Pos} {wi : TI} {g : TG} {tt : TT} {te : TE} (tk : Takes X (fun _ => E)) (hst : X.stack = X.env :: X.outer) (hfm : X.env.frame = some X.env.locals) (hc : X.calm = true) (hN : X.N.Nodup) (hi : PI X tg iter wi) (ok : ze5 X.N X.env.scope scope own)
    (hg : ∀ (s : Shared) (H : Hp) (C : Addr) (cl : List (Str × Addr)) (fp : List Addr) (xe : Value → Shared → Prop), Takes ((X.blk s H scope (compEnvC scope cl C X.env) fp).wish xe) (fun _ => E) → PG ((X.blk s H scope (compEnvC scope cl C X.env) fp).wish xe) tg g) (ht : ∀ (s : Shared) (H : Hp) (C : Addr) (cl : List (Str × Addr)) (fp : List Addr) (xe : Value → Shared → Prop), Takes ((X.blk s H scope (compEnvC scope cl C X.env) fp).wish xe) (fun _ => E) → PTs ((X.blk s H scope (compEnvC scope cl C X.env) fp).wish xe) ifs tt)
    (he : ∀ (s : Shared) (H : Hp) (C : Addr) (cl : List (Str × Addr)) (fp : List Addr) (xe : Value → Shared → Prop), Takes ((X.blk s H scope (compEnvC scope cl C X.env) fp).wish xe) (fun _ => E) → PE ((X.blk s H scope (compEnvC scope cl C X.env) fp).wish xe) elt te) (hs : ∀ x, foldedSetIterable iter X.env x = pure x := by intro _; rfl) :
    PE X (.ListComp elt [⟨tg, iter, ifs, 0⟩] scope pos) (tLc wi g tt te (own.map (·.2))) := by
  intro pins s σ H Q I h
  rw [eval_ListComp]
  refine zzs tk hst hfm hc hN I hi ok hg ht he hs h fun D C s' m H' I' q hn f => ⟨m, hn, fun h'' sb => ?_⟩
  obtain ⟨f0, f1, f2, f3, f4, f5⟩ := f
  exact ⟨.ref D, H', I'.turned (t' := s'.toks) (fun b o hb e => (sb.2 b hb).trans e) f0 f1 f3 f4 f5, rfl, q⟩
theorem zn8 {E : XK} {i : Nat} {y : Str} {py : Pos} {elt tg iter : Expr} {ifs : List Expr} {scope : Scope} {own : List (Str × Nat)} {pos spos : Pos} {wi : TI} {g : TG} {tt : TT} {te : TE} (tk : Takes X (fun _ => E)) (hst : X.stack = X.env :: X.outer) (hfm : X.env.frame = some X.env.locals) (hc : X.calm = true) (hN : X.N.Nodup) (hy : X.N[i]? = some y) (hyl : X.env.scope.names.lookup y = some .local)
    (hsw : swapsWith (.ListComp elt [⟨tg, iter, ifs, 0⟩] scope pos) (some (.Name y py)) spos.line X.env = pure true) (hi : PI X tg iter wi) (ok : ze5 X.N X.env.scope scope own)
    (hg : ∀ (s : Shared) (H : Hp) (C : Addr) (cl : List (Str × Addr)) (fp : List Addr) (xe : Value → Shared → Prop), Takes ((X.blk s H scope (compEnvC scope cl C X.env) fp).wish xe) (fun _ => E) → PG ((X.blk s H scope (compEnvC scope cl C X.env) fp).wish xe) tg g) (ht : ∀ (s : Shared) (H : Hp) (C : Addr) (cl : List (Str × Addr)) (fp : List Addr) (xe : Value → Shared → Prop), Takes ((X.blk s H scope (compEnvC scope cl C X.env) fp).wish xe) (fun _ => E) → PTs ((X.blk s H scope (compEnvC scope cl C X.env) fp).wish xe) ifs tt)
    (he : ∀ (s : Shared) (H : Hp) (C : Addr) (cl : List (Str × Addr)) (fp : List Addr) (xe : Value → Shared → Prop), Takes ((X.blk s H scope (compEnvC scope cl C X.env) fp).wish xe) (fun _ => E) → PE ((X.blk s H scope (compEnvC scope cl C X.env) fp).wish xe) elt te) (hs : ∀ x, foldedSetIterable iter X.env x = pure x := by intro _; rfl) :
    PS X (.Assign [.Name y py] (.ListComp elt [⟨tg, iter, ifs, 0⟩] scope pos) spos) (zFu (tLc wi g tt te (own.map (·.2))) (zrF i)) := by
  intro pins s σ H D I h
  rw [exec_Assign_Name_used _ _ _ _ hsw]
  refine wpAny_bind (wpAny_standAt (wpAny_bind ?_))
  show wpAny _ X.A (do let _ ← comprehension (.ListComp elt [⟨tg, iter, ifs, 0⟩] scope pos) scope X.env (firstIterPos [⟨tg, iter, ifs, 0⟩] pos) (newList []) false (eval iter X.env) (some (assign (.Name y py) X.env))) _ _ s
  have h : tLc wi g tt te (own.map (·.2)) σ H (fun x H1 => zrF i x σ H1 D.nx) := h
  refine wpAny_bind (thn (zzs (Qf := fun _ s' => SP X pins D .next s') tk hst hfm hc hN I hi ok hg ht he hs h fun L C s' m H' I' q hn f => ?_) fun _ s' hq => wpAny_pure (wpAny_pure hq))
  show wpAny _ _ (assign (.Name y py) X.env (.ref L)) _ _ _
  refine wpAny_assign_Name (zwR (v := V.ref L) I' hN hy (.inl hyl) rfl (fun s2 I2 ⟨a, sb, ha⟩ => ?_) (.inr hyl))
  obtain ⟨f0, f1, f2, f3, f4, f5⟩ := f
  have haC : C ≠ a := by
    rcases ha with z | z
    · rw [z]; exact f1
    · exact fun e => f4 y a z e.symm
  refine ⟨m, hn.sameBut sb haC, fun h3 sb3 => ?_⟩
  exact ⟨_, H', I2.turned (t' := s2.toks) (fun b o hb e => (sb3.2 b hb).trans e) f0 f1 f3 f4 f5, q⟩
end
end L2
end
section
set_option Elab.async false
set_option linter.all false
set_option maxRecDepth 100000
set_option maxHeartbeats 4000000
namespace HT
open PySem PyProof.Rows
def lexGt : List Int → List Int → Bool
  | [], [] => false
  | [], _ :: _ => false
  | _ :: _, [] => true
  | x :: xs, y :: ys => if x = y then lexGt xs ys else decide (y < x)
theorem lexGt_cons (x y : Int) (xs ys : List Int) : lexGt (x :: xs) (y :: ys) = if x = y then lexGt xs ys else decide (y < x) := rfl
theorem lexGt_nil_nil : lexGt [] [] = false := rfl
theorem zve (y : Int) (ys : List Int) : lexGt [] (y :: ys) = false := rfl
theorem zvl (x : Int) (xs : List Int) : lexGt (x :: xs) [] = true := rfl
theorem zC5 (A : Around) (s : Shared) (a : Int) (t : Tok) (c : Int) (u : Tok) (prog : Program) (w : World) (E : Value → Shared → Prop) (Q : Value → Shared → Prop) (h : Q (.bool (decide (c < a))) s) :
    wpAny (model prog w) A (richCompare .Gt (.int a t) (.int c u)) Q E s :=
  (PyProof.Rows.gt_int h : wpAny (model prog w) A (compareOp .Gt (.int a t) (.int c u)) Q E s)
section
open PySem.SeqAt
open PySem.AutoSeq1 (wpAny_loadPart')
open PySem.MeetsSeq PySem.MeetsSeq2 PySem.MeetsSeq3
theorem zv8 (l b : Addr) (items items2 : Array Value) (n n2 : Nat) (dd dd2 : Option Addr) (sl sl2 : Array (Option Value)) (ns ms : List Int) (hi : IntsAre items.toList ns) (hj : IntsAre items2.toList ms) :
    Meets (Builtin.«tuple.__gt__» ⟨[.ref l, .ref b], []⟩)
      (fun _ R s => s.heap.get? l = some { cls := .type "tuple", dict := dd, data := .seq items n, slots := sl } ∧ s.heap.get? b = some { cls := .type "tuple", dict := dd2, data := .seq items2 n2, slots := sl2 } ∧
        R (.ok (.ret (.bool (lexGt ns ms)))) s) :=
  .of_wp fun prog w A R s h => by
    obtain ⟨hp, g, d, tk, os⟩ := s; obtain ⟨hl, hb, h⟩ := h
    have f2 := AutoSeq1.sub_tuple_tuple
    have z1 : items.size = ns.length := by rw [← hi.length]; simp
    have z2 : items2.size = ms.length := by rw [← hj.length]; simp
    wp_walk using wpAny_loadPart' hl, wpAny_loadPart' hb, wpAny_forIn_list _ (fun rest b s' => b.1 = none ∧ s' = ⟨hp, g, d, tk, os⟩ ∧ ∃ (vs ws : List Value) (ns' ms' : List Int), rest = vs.zip ws ∧
      IntsAre vs ns' ∧ IntsAre ws ms' ∧ ns'.length + items2.size = ms'.length + items.size ∧ R (.ok (.ret (.bool (lexGt ns' ms')))) ⟨hp, g, d, tk, os⟩) _
    case turn =>
      rintro ⟨y, x⟩ rest b s' ⟨hb', rfl, vs, ws, ns', ms', hz, hvi, hwi, hlen, hR⟩
      cases hvi with
      | nil => rw [List.zip_nil_left] at hz; cases hz
      | cons a t hvi' =>
        cases hwi with
        | nil => rw [List.zip_nil_right] at hz; cases hz
        | cons c u hwi' =>
          rw [List.zip_cons_cons] at hz
          injection hz with hyx hrest
          injection hyx with hy hx
          subst hy hx
          rw [lexGt_cons] at hR
          simp only [List.length_cons] at hlen
          obtain ⟨e, he, hiff⟩ := zzR A.in1 ⟨hp, g, d, tk, os⟩ a t c u
          refine wpAny_bind (he prog w _ _ ?_)
          cases e with
          | true =>
            rw [if_pos (hiff.mp rfl)] at hR
            wp_walk
            exact ⟨rfl, rfl, _, _, _, _, hrest, hvi', hwi', by omega, hR⟩
          | false =>
            rw [if_neg (fun q => absurd (hiff.mpr q) Bool.false_ne_true)] at hR
            have hri := zC5 A.in1 ⟨hp, g, d, tk, os⟩ a t c u prog w
            wp_walk using hri
            exact ⟨_, rfl, by simpa using hR⟩
    case fin =>
      rintro ⟨b1, b2⟩ s' ⟨hb', rfl, vs, ws, ns', ms', hz, hvi, hwi, hlen, hR⟩
      simp only at hb'
      subst hb'
      have hv : lexGt ns' ms' = decide (items2.size < items.size) := by
        cases hvi with
        | nil =>
          cases hwi with
          | nil =>
            simp only [List.length_nil] at hlen
            rw [lexGt_nil_nil]
            exact (decide_eq_false (by omega)).symm
          | cons c u hw =>
            simp only [List.length_nil, List.length_cons] at hlen
            rw [zve]
            exact (decide_eq_false (by omega)).symm
        | cons a t hv =>
          cases hwi with
          | nil =>
            simp only [List.length_nil, List.length_cons] at hlen
            rw [zvl]
            exact (decide_eq_true (by omega)).symm
          | cons c u hw =>
            rw [List.zip_cons_cons] at hz
            cases hz
      rw [hv] at hR
      wp_walk
      exact ⟨_, rfl, by simpa [Builtin.Tuple.tupleCompareSizes] using hR⟩
    case h =>
      exact ⟨rfl, rfl, items.toList, items2.toList, ns, ms, rfl, hi, hj, by omega, h⟩
end
theorem gt_tupInts {prog : Program} {w : World} {A : Around} {E : Value → Shared → Prop} {s : Shared} {l b : Addr} {items items2 : Array Value} {ns ms : List Int} {Q : Value → Shared → Prop} (hl : IsTup s.heap l items) (hb : IsTup s.heap b items2) (hi : IntsAre items.toList ns) (hj : IntsAre items2.toList ms)
    (hu : A.units < cLine) (h : Q (.bool (lexGt ns ms)) s) : wpAny (model prog w) A (compareOp .Gt (.ref l) (.ref b)) Q E s := by
  obtain ⟨⟨cls, dd, data, sl⟩, ho, hc, n, hd⟩ := id hl
  obtain ⟨⟨cls2, dd2, data2, sl2⟩, ho2, hc2, n2, hd2⟩ := id hb
  simp only at hc hd hc2 hd2
  subst hc hd hc2 hd2
  exact richCompare_meets_room (op := .Gt) ⟨_, ho, rfl⟩ ⟨_, ho2, rfl⟩ PySem.F.slot_tuple_gt PySem.F.entry_tuple_gt (PySem.F.args_tuple_gt_2 _ _) (zv8 l b items items2 n n2 dd dd2 sl sl2 ns ms hi hj)
    ⟨ho, ho2, show Value.bool (lexGt ns ms) ≠ Value.notImplemented ∧ Q (.bool (lexGt ns ms)) s from ⟨(fun x => nomatch x), h⟩⟩ hu
end HT
namespace L2
open PySem PySem.Spec PyProof.Rows
open PySem.AutoSeq1 (wpAny_loadPart')
def zF8 (K : PySem.W.Frag) : R2 := fun x y H Q => ∃ a b ns ms, x = .ref a ∧ y = .ref b ∧ SqT K H a (ns.map V.int) ∧ SqT K H b (ms.map V.int) ∧ Q (.bl (HT.lexGt ns ms)) H
theorem zFa {X : Cx} (hu : X.A.units < cLine) : OpR X (compareOp .Gt) (zF8 X.K) := by
  intro pins s σ H x y v u Q I rx ry h
  obtain ⟨a, b, ns, ms, rfl, rfl, ha, hb, q⟩ := h
  cases rx
  cases ry
  obtain ⟨its, r1, p1, _⟩ := I.tuple ha
  obtain ⟨its2, r2, p2, _⟩ := I.tuple hb
  have i1 : IntsAre its.toArray.toList ns := zls r1
  have i2 : IntsAre its2.toArray.toList ms := zls r2
  exact HT.gt_tupInts p1 p2 i1 i2 hu ⟨.bl (HT.lexGt ns ms), H, I, rfl, q⟩
section
variable {prog : Program} {w : World} {A : Around} {E : Value → Shared → Prop} {s : Shared}
theorem zz1 {it t : Addr} {i : Nat} {items : Array Value} {x : Value} {Q : Value → Shared → Prop} (hit : s.heap.IsTupleIter it t i) (ht : s.heap.IsTuple t items) (hx : items[i]? = some x)
    (hQ : ∀ h', h'.IsTupleIter it t (i + 1) → Heap.SameBut it s.heap h' → Q x { s with heap := h' }) : wpAny (model prog w) A (Builtin.SmallTypes.nextOf (.ref it)) Q E s := by
  obtain ⟨o, ho, hc, hd⟩ := id hit
  obtain ⟨ot, hot, _, n, hdt⟩ := ht
  unfold Builtin.SmallTypes.nextOf
  refine wpAny_bind (wpAny_callSpecial?_slot (name := Str.ofString "__next__") hit.typeIs F.slot_tuple_iterator_next (wpAny_call_entry F.slot_tuple_iterator_next hit.typeIs F.entry_tuple_iterator_next ?_ (F.args_tuple_iterator_next_1 _)))
  have nt : ¬ ((Value.ref t == Value.none) = true) := fun z => nomatch z
  show wpAny _ _ (field (.ref it) 0 >>= fun v => if (v == Value.none) = true then _ else _) _ _ s
  refine wpAny_bind (wpAny_field ho hd (x := .ref t) rfl ?_)
  rw [if_neg nt]
  refine wpAny_bind (wpAny_field ho hd (x := .int i 0) rfl (wpAny_bind (wpAny_seqItems hot hdt ?_)))
  simp only [Int.toNat_natCast, hx]
  refine wpAny_bind (wpAny_setField ho hd (by simp) (wpAny_pure ⟨x, rfl, wpAny_pure (hQ _ ⟨_, Heap.get?_update_self _ ho (Obj.isFreed_of_fields (Obj.data_mapFields hd _)), (Obj.cls_mapFields ..).trans hc, ?_⟩ (Heap.SameBut.update ..))⟩))
  rw [Obj.data_mapFields hd]
  simp [rawInt]
theorem zwM {it t : Addr} {i : Nat} {items : Array Value} {Q : Value → Shared → Prop} (hh : A.handled = none) (hit : s.heap.IsTupleIter it t i) (ht : s.heap.IsTuple t items) (hx : items[i]? = none)
    (hE : ∀ h' e, Heap.ExtBut it s.heap h' → (∃ o, h'.get? e = some o ∧ o.cls = .type "StopIteration") → E (.ref e) { s with heap := h' }) : wpAny (model prog w) A (Builtin.SmallTypes.nextOf (.ref it)) Q E s := by
  obtain ⟨o, ho, hc, hd⟩ := id hit
  obtain ⟨ot, hot, _, n, hdt⟩ := ht
  unfold Builtin.SmallTypes.nextOf
  refine wpAny_bind (wpAny_callSpecial?_slot (name := Str.ofString "__next__") hit.typeIs F.slot_tuple_iterator_next (wpAny_call_entry F.slot_tuple_iterator_next hit.typeIs F.entry_tuple_iterator_next ?_ (F.args_tuple_iterator_next_1 _)))
  have nt : ¬ ((Value.ref t == Value.none) = true) := fun z => nomatch z
  show wpAny _ _ (field (.ref it) 0 >>= fun v => if (v == Value.none) = true then _ else _) _ _ s
  refine wpAny_bind (wpAny_field ho hd (x := .ref t) rfl ?_)
  rw [if_neg nt]
  refine wpAny_bind (wpAny_field ho hd (x := .int i 0) rfl (wpAny_bind (wpAny_seqItems hot hdt ?_)))
  simp only [Int.toNat_natCast, hx]
  refine wpAny_bind (wpAny_rule (wpAny_bind (wpAny_setField ho hd (by simp) ?_)))
  show wpAny _ _ (newExc (.type "StopIteration") [] >>= _) _ _ _
  refine wpAny_bind ?_
  simp only [newExc, newTuple]
  refine wpAny_bind (wpAny_newObj_type ?_ (by size_fits))
  refine wpAny_bind (m := firstArgMember _ _) (wpAny_of_eq (a := Value.none) (by first | rfl | (simp only [firstArgMember]; rfl)) ?_)
  refine wpAny_newObj_type ?_ (by size_fits)
  simp only [raiseNew]
  refine wpAny_bind (wpAny_handled ?_)
  first | rw [show A.in1.handled = none from hh] | rw [hh]
  refine wpAny_bind (wpAny_pure (wpAny_throw ?_))
  exact hE _ _ (((Heap.SameBut.update ..).extBut.push _).push _) ⟨_, Heap.get?_push_size _ rfl, rfl⟩
end
theorem zCa {prog : Program} {w : World} {A : Around} (hh : A.handled = none) (it t : Addr) (hne : t ≠ it) (items : Array Value) : Draws prog w A it [it, t] items.size (fun i v => items[i]? = some v) (fun i h => h.IsTupleIter it t i ∧ h.IsTuple t items) where
  live := fun _ _ st => let ⟨o, ho, _⟩ := st.1; ⟨o, ho⟩
  frame := fun _ _ _ st hk => ⟨st.1.at fun o e => hk it (by simp) o e, let ⟨o, ho, r⟩ := st.2; ⟨o, hk t (by simp) o ho, r⟩⟩
  item := fun i s Q E hi st hQ => zz1 st.1 st.2 (x := items[i]) (by simp [hi]) fun h' a b => hQ _ h' s.toks (by simp [hi]) ⟨a, st.2.extBut b.extBut hne⟩ b
  done := fun s Q E st hE => zwM hh st.1 st.2 (by simp) hE
section
variable {prog : Program} {w : World} {A : Around} {E : Value → Shared → Prop} {s : Shared}
theorem ztv {e it l : Addr} {i : Nat} {items : Array Value} {x old : Value} {Q : Option Value → Shared → Prop} (he : IsEnum s.heap e it i old) (hit : s.heap.IsTupleIter it l i) (hl : s.heap.IsTuple l items) (hx : items[i]? = some x) (hne : e ≠ it) (hh : A.handled = none)
    (hQ : ∀ h' tk, IsEnumOut h' e it ((i : Int) + 1) x s.heap.objs.size → h'.IsTupleIter it l (i + 1) → h'.get? s.heap.objs.size = some { cls := .type "tuple", data := .seq #[.int i tk, x] } → h'.objs.size = s.heap.objs.size + 1 →
      (∀ b o, b ≠ e → b ≠ it → s.heap.get? b = some o → h'.get? b = some o) → Q (some (.ref s.heap.objs.size)) { s with heap := h', toks := tk + 1 }) : wpAny (model prog w) A (pyNext (.ref e)) Q E s := by
  have hi : i < items.size := (Array.getElem?_eq_some_iff.mp hx).1
  obtain ⟨oi, hoi, hci, _⟩ := id hit
  obtain ⟨ol, hol, hcl, _⟩ := id hl
  have hil : l ≠ it := fun z => by
    subst z
    obtain rfl : oi = ol := Option.some.inj (hoi.symm.trans hol)
    rw [hci] at hcl
    exact absurd hcl (by decide)
  have hel : e ≠ l := fun z => by
    subst z
    have q : _ = ol := Option.some.inj (he.symm.trans hol)
    rw [← q] at hcl
    exact absurd (show Value.type "enumerate" = Value.type "tuple" from hcl) (by decide)
  refine wpAny_pyNext_enum_itemD (zCa (A := A.in1) hh it l hil items) he ⟨hit, hl⟩ hi hne (by simp [hne, hel]) fun y h' tk hy a b c d k => ?_
  obtain rfl : x = y := Option.some.inj (hx.symm.trans hy)
  exact hQ h' tk a b.1 c d k
theorem zup {e it l : Addr} {i : Nat} {items : Array Value} {old : Value} {Q : Option Value → Shared → Prop} (hh : A.handled = none) (he : IsEnum s.heap e it i old) (hit : s.heap.IsTupleIter it l i) (hl : s.heap.IsTuple l items) (hx : items[i]? = none)
    (hQ : ∀ h', Heap.ExtBut it s.heap h' → Q none { s with heap := h' }) : wpAny (model prog w) A (pyNext (.ref e)) Q E s := by
  have hT : s.TypeIs (.ref e) "enumerate" := ⟨_, he, rfl⟩
  unfold pyNext
  refine wpAny_bind (wpAny_attempt (wpAny_callSpecial?_slot (name := Str.ofString "__next__") hT F.slot_enumerate_next (wpAny_call_entry F.slot_enumerate_next hT F.entry_enumerate_next ?_ (F.args_enumerate_next_1 _))))
  show wpAny _ _ (field (.ref e) 2 >>= _) _ _ _
  refine wpAny_bind (wpAny_field he rfl (x := .ref it) rfl (wpAny_bind (zwM hh hit hl hx fun h' x k ⟨o, ho, hc⟩ => ?_)))
  exact wpAny_bind (wpAny_isInstance (T := "StopIteration") (b := true) ⟨o, ho, hc⟩ isSubtype_stop (wpAny_pure (hQ _ k)))
theorem zzB (l : Addr) (items : Array Value) (n : Nat) (dct : Option Addr) (sl : Array (Option Value)) :
    Meets (Builtin.«enumerate.__new__» ⟨[.type "enumerate", .ref l], []⟩) (fun _ R s => s.heap.get? l = some { cls := .type "tuple", dict := dct, data := .seq items n, slots := sl } ∧
      R (.ok (.ret (.ref (s.heap.push { cls := .type "tuple_iterator", data := .fields #[.ref l, .int 0 0] }).objs.size)))
        { s with heap := (s.heap.push { cls := .type "tuple_iterator", data := .fields #[.ref l, .int 0 0] }).push { cls := .type "enumerate", data := .fields #[.none, .bool false, .ref s.heap.objs.size, rawInt 0, .none, .none] } }) :=
  .of_wp fun prog w A R s h => by
    obtain ⟨hp, g, d, tk, os⟩ := s
    obtain ⟨hl, h⟩ := h
    have hsub := sub_enumerate
    have hL : Heap.IsTuple (Shared.heap ⟨hp, g, d, tk, os⟩) l items := ⟨_, hl, rfl, n, rfl⟩
    wp_walk using wpAny_loadPart' hl
    refine wpAny_stack_any fun st => wpAny_pure ?_
    split
    · rename_i c _ _ _ _ _
      cases (c == Value.type "enumerate") <;>
      · wp_walk using wpAny_loadPart' hl, wpAny_pyIter_tuple hL
        exact ⟨_, rfl, h⟩
    · wp_walk using wpAny_loadPart' hl, wpAny_pyIter_tuple hL
      exact ⟨_, rfl, h⟩
theorem zAK {l : Addr} {items : Array Value} {Q : Value → Shared → Prop} (hL : s.heap.IsTuple l items)
    (h : ∀ h', IsEnum h' (s.heap.objs.size + 1) s.heap.objs.size 0 .none → h'.IsTupleIter s.heap.objs.size l 0 → h'.objs.size = s.heap.objs.size + 2 → (∀ b o, s.heap.get? b = some o → h'.get? b = some o) → Q (.ref (s.heap.objs.size + 1)) { s with heap := h' }) :
    wpAny (model prog w) A (call (.type "enumerate") [.ref l]) Q E s := by
  obtain ⟨⟨c, dct, dt, sl⟩, hl, hc, n, hd⟩ := hL
  obtain rfl : c = .type "tuple" := hc
  obtain rfl : dt = .seq items n := hd
  refine callType_new F.called_enumerate (by decide) (F.typeCall_enumerate_1 _) (F.newCall_enumerate_1 _) (fun obj => F.args_object_init_2 obj _) F.entry_enumerate_new (zzB l items n dct sl) ⟨hl, ?_⟩
  have hz : (s.heap.push { cls := .type "tuple_iterator", data := .fields #[.ref l, .int 0 0] }).objs.size = s.heap.objs.size + 1 := Heap.size_push ..
  have z := Heap.get?_push_size (s.heap.push { cls := .type "tuple_iterator", data := .fields #[.ref l, .int 0 0] }) (o := { cls := .type "enumerate", data := .fields #[.none, .bool false, .ref s.heap.objs.size, rawInt 0, .none, .none] }) rfl
  show _ ∧ _
  rw [hz] at z ⊢
  exact ⟨⟨_, z, rfl⟩, h _ z ⟨_, Heap.get?_push_of_some _ (Heap.get?_push_size _ rfl), rfl, rfl⟩ (by rw [Heap.size_push, hz]) fun b o q => Heap.get?_push_of_some _ (Heap.get?_push_of_some _ q)⟩
end
def zCH (K : PySem.W.Frag) (a : Addr) : It :=
  ⟨fun i H => ∃ (xs : List V) (x : V), SqT K H a xs ∧ xs[i]? = some x, fun i H v H' => ∃ T x, v = .ref T ∧ H T = none ∧ H' = upd H T (.tup [.int (i : Nat), x]) ∧ ∀ xs, SqT K H a xs → xs[i]? = some x, fun i H => ∃ xs : List V, SqT K H a xs ∧ xs.length ≤ i⟩
theorem zAa {P : Program} {w : World} {K : PySem.W.Frag} {elts : List Expr} {kk : Nat} {tpos : Pos} (a e it : Addr) :
    zy4 P w K (.Tuple elts kk tpos) (zCH K a) [e, it] e (fun i h => (∃ old, IsEnum h e it ((i : Nat) : Int) old) ∧ h.IsTupleIter it a i ∧ e ≠ it) where
  mem := by simp
  obj := fun i h st b hb => by
    obtain ⟨⟨old, he⟩, ⟨o, ho, hc, hd⟩, _⟩ := st
    have e' : b = e ∨ b = it := by simpa using hb
    rcases e' with z | z
    · rw [z]; exact ⟨_, he, fun v q => nomatch q⟩
    · rw [z]; exact ⟨o, ho, fun v q => by rw [hd] at q; cases q⟩
  keep := fun i h h' st k => let ⟨⟨old, he⟩, hi, hne⟩ := st; ⟨⟨old, k e (by simp) _ he⟩, hi.at fun o q => k it (by simp) o q, hne⟩
  item := by
    intro X hP hw hK hc i pins s σ H E I hf st hg
    subst hP hw hK
    obtain ⟨⟨old, he⟩, hit, hne⟩ := st
    obtain ⟨xs, x, hq, hx⟩ := hg
    obtain ⟨its, rv, p, hz⟩ := I.tuple hq
    obtain ⟨u, hu, ru⟩ := rv.get hx
    have hel : e < s.heap.objs.size := Heap.lt_size he
    have hil : it < s.heap.objs.size := by obtain ⟨_, q, _⟩ := hit; exact Heap.lt_size q
    refine ztv he hit (show s.heap.IsTuple a its.toArray from p) (x := u) (by simpa using hu) hne (I.ok.hd hc) fun h' tk ho hit' hT hsz hk => ?_
    refine ⟨_, rfl, wpAny_letOwnedTupleGo_enum (s := { s with heap := h', toks := tk + 1 }) ho fun h'' he' sb => ?_⟩
    have hT2 : h''.get? s.heap.objs.size = some { cls := .type "tuple", data := .seq #[.int i tk, u] } := (sb.2 _ (Nat.ne_of_gt hel)).trans hT
    have new : ObjOk X.prog X.w (upd H s.heap.objs.size (.tup [.int (i : Nat), x])) h'' s.heap.objs.size (.tup [.int (i : Nat), x]) :=
      ⟨by show 2 ≤ sizeLine; decide, [.int i tk, u], .cons ⟨_, rfl⟩ (.cons ru .nil), ⟨_, hT2, rfl, _, rfl⟩⟩
    have I1 : Inv X pins σ (upd H s.heap.objs.size (.tup [.int (i : Nat), x])) { s with heap := h'', toks := tk + 1 } :=
      I.turnedNew (ch := [e, it]) (fun b ob hb q => (sb.2 b (fun z => hb (by simp [z]))).trans (hk b ob (fun z => hb (by simp [z])) (fun z => hb (by simp [z])) q)) hf (Nat.le_refl _) new
    refine ⟨.ref s.heap.objs.size, _, I1, rfl, ⟨_, x, rfl, I.hok.fresh (Nat.le_refl _), rfl, fun ys hy => by rw [I.tuple_inj hy hq]; exact hx⟩, ⟨⟨u, ?_⟩, hit'.at fun o q => (sb.2 it (Ne.symm hne)).trans q, hne⟩, fun b hb => ?_⟩
    · have e1 : ((i + 1 : Nat) : Int) = (i : Int) + 1 := by omega
      rw [e1]; exact he'
    · have hb' : b < s.heap.objs.size := by
        have e' : b = e ∨ b = it := by simpa using hb
        rcases e' with z | z
        · rw [z]; exact hel
        · rw [z]; exact hil
      rw [ze (Nat.ne_of_lt hb')]
      exact (hf b hb).1
  done := by
    intro X hP hw hK hc i pins s σ H E I hf st hg
    subst hP hw hK
    obtain ⟨⟨old, he⟩, hit, hne⟩ := st
    obtain ⟨xs, hq, hx⟩ := hg
    obtain ⟨its, rv, p, hz⟩ := I.tuple hq
    obtain ⟨f0, f1, f2, f3, f4, f5⟩ := hf it (by simp)
    have hl := rv.length
    exact zup (I.ok.hd hc) he hit (show s.heap.IsTuple a its.toArray from p) (by simp; omega) fun h' eb => ⟨rfl, I.turned (t' := s.toks) (fun b o hb q => eb b o hb q) f0 f1 f3 f4 f5⟩
  self := fun A i s Q E st h => let ⟨⟨_, he⟩, _⟩ := st; wpAny_pyIter_enum he h
def zEO (K : PySem.W.Frag) (ta : TA) : TI := fun σ H R => ta σ H fun vs H1 => ∃ a xs, vs = [.ref a] ∧ SqT K H1 a xs ∧ R (zCH K a) H1
theorem zCP {X : Cx} {e : Expr} {ta : TA} {p pos tpos : Pos} {elts : List Expr} {kk : Nat} (hg : Gl X "enumerate") (hm : X.mg "enumerate" = none) (ha : PA X [e] ta) (hs : starEach [e] X.env = [(false, eval e X.env)] := by rfl) :
    PI X (.Tuple elts kk tpos) (.Call (.Name "enumerate" p) [e] [] pos) (zEO X.K ta) := by
  intro pins s σ H R I h
  refine Call_ (zyz I hg hm boot_enumerate (PyProof.Rows.callWith_type1 (thn (ha pos pins s σ H _ I h) fun us s1 ⟨vs, H1, I1, r1, q1⟩ => ?_) hs rfl))
  obtain ⟨a, xs, ex, hq, q⟩ := q1
  subst ex
  cases r1 with
  | cons r rr =>
    cases rr
    cases r
    obtain ⟨its, rv, p', hz⟩ := I1.tuple hq
    refine zAK (show s1.heap.IsTuple a its.toArray from p') fun h' he hit hsz hk => wpAny_pyIter_enum he ?_
    have I2 : Inv X pins σ H1 { s1 with heap := h' } := I1.kept (t' := s1.toks) hk
    refine ⟨s1.heap.objs.size + 1, [s1.heap.objs.size + 1, s1.heap.objs.size], _, _, H1, rfl, I2, zAa a (s1.heap.objs.size + 1) s1.heap.objs.size, ⟨⟨.none, he⟩, hit, Nat.succ_ne_self _⟩, fun b hb => ?_, q⟩
    have e' : b = s1.heap.objs.size + 1 ∨ b = s1.heap.objs.size := by simpa using hb
    have hle : s1.heap.objs.size ≤ b := by
      rcases e' with z | z
      · rw [z]; exact Nat.le_add_right _ _
      · rw [z]; exact Nat.le_refl _
    exact I1.fpOk hle (I1.hok.fresh hle)
def zGf (K : PySem.W.Frag) : R2 := fun x y H Q => ∃ p q xs, x = .ref p ∧ y = .ref q ∧ SqL K H p xs ∧ SqL K H q [] ∧ Q (.bl (!xs.isEmpty)) H
theorem zxg {X : Cx} (hu : X.A.units < cLine) : OpR X (compareOp .NotEq) (zGf X.K) := by
  intro pins s σ H x y v u Q I rx ry h
  obtain ⟨p, q, xs, rfl, rfl, hp, hq, k⟩ := h
  cases rx
  cases ry
  obtain ⟨its, r1, p1, _⟩ := I.list hp
  obtain ⟨its2, r2, p2, _⟩ := I.list hq
  cases r2
  have l1 := r1.length
  have fin : ∀ b : Bool, b = !xs.isEmpty → EP X pins σ Q (.bool b) s := fun b e => ⟨.bl b, H, I, rfl, by rw [e]; exact k⟩
  cases xs with
  | nil =>
    cases r1
    exact (SeqAt.RcNeAt.lists (e := fun _ => true) p1.isList p2.isList rfl hu (fun j h1 _ => absurd h1 (by simp)) X.prog X.w X.xe _ (fin _ rfl) : wpAny (model X.prog X.w) X.A (compareOp .NotEq (.ref p) (.ref q)) _ X.xe s)
  | cons x xs =>
    exact (SeqAt.RcNeAt.lists_lengths p1.isList p2.isList (by simp [← l1]) hu X.prog X.w X.xe _ (fin _ rfl) : wpAny (model X.prog X.w) X.A (compareOp .NotEq (.ref p) (.ref q)) _ X.xe s)
theorem Room.mark {cm : Bool} {k : Nat} {A : Around} {h : Option Value} (r : Room cm k A) : Room false k (A.mark h) := ⟨(fun z => nomatch z), r.dp, r.un⟩
theorem zh0 {X : Cx} {K : PySem.W.Frag} {e : Expr} {f : Str} {pos : Pos} {ta : TE} (hK : X.K = K) (he : PE X e ta) (hb : attributeBase e f X.env (eval e X.env) = eval e X.env) : PE X (.Attribute e f pos) (zEq K ta f) := by
  subst hK
  exact zDF he hb
theorem zuo {X : Cx} {K : PySem.W.Frag} {W : WX} {e c : Expr} {te tc : TE} {pos : Pos} {b : Addr} (hK : X.K = K) (tk : Takes X W) (hh : X.A.handled = some (.ref b)) (he : PE X e te) (hcs : PE X c tc) : PS X (.Raise (some e) (some c) pos) (zBr K W b te tc) := by
  subst hK
  exact zBV tk hh he hcs
open PySem.W (Codec OpenSpec) in
theorem walk_specX {cm : Bool} {r : OpenSpec} {k : Nat} {q : Program} {loose : List Str} {XP : (Str → Option Value) → Heap → Prop} {YP : World → Heap → Prop} {d : DefRec} {K : Params → PySem.W.Frag} {ps : List Str} {sp : PySem.W.Frag → Sp}
    (hwell : r.wellSaid = true) (hdf : d.params.defaults = []) (hlen : r.args.length = ps.length) (hr : Room cm k callerA) (hY : ∀ (w : World) (h : Heap), YP w h → (K w.params).In h)
    (F : ∀ (w : World) (mg : Str → Option Value) (fa : Addr) (h : Heap), YP w h → (K w.params).In h → h.Ns mainGlobals mg → mg d.name = some (.ref fa) →
      ∃ fd : FuncData, (∀ (s : Shared) (us : List Value), us.length = ps.length → BindsTo s fd ⟨us, []⟩ (ps.zip us)) ∧ ∀ base : Heap, (K w.params).In base → base.Ns mainGlobals mg → FnOk r.prog w (K w.params) mg base (CXo r.prog w) cm k fa fd ps (sp (K w.params)))
    (hsp : ∀ (K : PySem.W.Frag) (H : Hp) (xs : List V) (a : Codec.denoteAll r.args), zza H → Codec.withinAll r.args a = true → Codec.app r.args r.asked a = true → zl4 K H xs (Codec.encAll r.args a) →
      sp K xs H (fun v H' => Dw K H' v (r.ret.enc (Codec.app r.args r.f a))) fun _ _ _ => False) : PySem.W.WalkOS q loose XP YP r d [] (fun f vs => PySem.call f vs) :=
  zBJ (K := K) (CX := fun w => CXo r.prog w) (sp := fun w => sp (K w.params)) hwell hdf hlen hr hY F (fun w H xs a h1 h2 h3 h4 => hsp (K w.params) H xs a h1 h2 h3 h4) fun _ _ _ _ _ ⟨_, _, _, _, _, _, _, _, _, _, _, q⟩ => q
theorem zFC {P : Program} {w : World} {X : Cx} : zjr (CXo P w) X (fun _ _ _ _ => False) := fun _ _ _ _ _ _ _ ⟨_, _, _, _, _, _, _, _, _, _, _, q⟩ => q.elim
end L2
end
section
set_option Elab.async false
set_option linter.all false
set_option maxRecDepth 100000
set_option maxHeartbeats 4000000
namespace L2
open PySem PySem.Spec PyProof.Rows
theorem znn {K : PySem.W.Frag} {H : Hp} : ∀ ns : List Int, zs9 K H (ns.map V.int) (ns.map PyData.int)
  | [] => .nil
  | n :: r => .cons (.int n) (znn r)
theorem zsy : ∀ ns ms : List Int, PyData.eqvAll (ns.map PyData.int) (ms.map PyData.int) = decide (ns = ms)
  | [], [] => rfl
  | [], _ :: _ => rfl
  | _ :: _, [] => rfl
  | n :: r, m :: q => by
    have ih := zsy r q
    show (PyData.eqv (.int n) (.int m) && PyData.eqvAll (r.map PyData.int) (q.map PyData.int)) = _
    rw [ih, Bool.eq_iff_iff]
    simp [PyData.eqv]
theorem zrL : ∀ ns : List Int, PyData.canLayAll0 (ns.map PyData.int) = true
  | [] => by simp [PyData.canLayAll0]
  | n :: r => by simp [PyData.canLayAll0, PyData.canLay0, zrL r]
theorem zsC : ∀ ns : List Int, PyData.depthAll (ns.map PyData.int) ≤ 1
  | [] => by simp [PyData.depthAll]
  | n :: r => by
    have ih := zsC r
    simp [PyData.depthAll, PyData.depth]
    omega
abbrev Tups (H : Hp) : List Addr → List (List Int) → Prop := Paired fun a ms => H a = some (.tup (ms.map V.int))
def zFp (K : PySem.W.Frag) (neg : Bool) : R2 := fun x y H Q => ∃ (s p : Addr) (ns : List Int) (as : List Addr) (nss : List (List Int)), x = .ref s ∧ y = .ref p ∧ H s = some (.tup (ns.map V.int)) ∧ SqL K H p (as.map V.ref) ∧ Tups H as nss ∧ Q (.bl (if neg then !nss.contains ns else nss.contains ns)) H
def eqT (H : Hp) (ns : List Int) (u : Value) : Bool := match u with
  | .ref a => (match H a with
    | some (.tup ys) => decide (ys = ns.map V.int)
    | _ => false)
  | _ => false
theorem znY {ns ms : List Int} : ms.map V.int = ns.map V.int ↔ ms = ns := List.map_inj_right fun _ _ e => V.int.inj e
theorem zxH {H : Hp} {ns : List Int} : ∀ {as : List Addr} {nss : List (List Int)} {us : List Value}, Tups H as nss → Vals (as.map V.ref) us → us.any (eqT H ns) = nss.contains ns
  | _, _, _, .nil, r => by
    cases r
    rfl
  | _, _, _, .cons (a := a) (b := ms) h t, r => by
    cases r with
    | cons r1 r2 =>
      cases r1
      rw [List.any_cons, zxH t r2, List.contains_cons]
      congr 1
      show (match H a with
        | some (.tup ys) => decide (ys = ns.map V.int)
        | _ => false) = _
      rw [h]
      show decide (ms.map V.int = ns.map V.int) = (ns == ms)
      rw [Bool.eq_iff_iff, decide_eq_true_eq, beq_iff_eq, znY]
      exact eq_comm
section
variable {X : Cx}
theorem zEW {pins : List (Addr × Obj)} {σ : St} {H : Hp} {s : Shared} {a b : Addr} {ms ns : List Int} {A : Around} (I : Inv X pins σ H s) (ha : H a = some (.tup (ms.map V.int))) (hb : H b = some (.tup (ns.map V.int))) (hu : A.units + 2 < cLine) : SeqAt.EqAt A s (.ref a) (.ref b) (decide (ms = ns)) := by
  obtain ⟨as, r1⟩ := Dp.reads I (.tuple (ms.map PyData.int)) (.ref a) (.ref a) (.tup (.inl (.inl ha)) (znn ms)) rfl
  obtain ⟨bs, r2⟩ := Dp.reads I (.tuple (ns.map PyData.int)) (.ref b) (.ref b) (.tup (.inl (.inl hb)) (znn ns)) rfl
  have l : ∀ l : List Int, PyData.canLay0 (.tuple (l.map PyData.int)) = true := fun l => by
    have := zrL l
    simpa [PyData.canLay0] using this
  have d : PyData.depth (.tuple (ms.map PyData.int)) ≤ 2 := by
    have := zsC ms
    simp [PyData.depth]
    omega
  have e := SeqAt.eqAt_reads _ _ A s _ _ as bs r1 r2 (l ms) (l ns) (Nat.lt_of_le_of_lt (Nat.add_le_add_left (Nat.le_trans (Nat.min_le_left _ _) d) _) hu)
  rw [show PyData.eqv (.tuple (ms.map PyData.int)) (.tuple (ns.map PyData.int)) = decide (ms = ns) from zsy ms ns] at e
  exact e
theorem zDw {pins : List (Addr × Obj)} {σ : St} {H : Hp} {s : Shared} {b : Addr} {ns : List Int} {A : Around} (I : Inv X pins σ H s) (hb : H b = some (.tup (ns.map V.int))) (hu : A.units + 2 < cLine) :
    ∀ {as : List Addr} {nss : List (List Int)} {us : List Value}, Tups H as nss → Vals (as.map V.ref) us → ∀ u ∈ us, SeqAt.EqAt A s u (.ref b) (eqT H ns u)
  | _, _, _, .nil, r => fun u hu => by
    cases r
    cases hu
  | _, _, _, .cons (a := a) (b := ms) h t, r => fun u hu' => by
    cases r with
    | cons r1 r2 =>
      cases r1
      rcases List.mem_cons.mp hu' with rfl | m
      · have e : eqT H ns (.ref a) = decide (ms = ns) := by
          show (match H a with
            | some (.tup ys) => decide (ys = ns.map V.int)
            | _ => false) = _
          rw [h]
          exact decide_eq_decide.mpr znY
        rw [e]
        exact zEW I h hb hu
      · exact zDw I hb hu t r2 u m
theorem znt {A : Around} (hu : A.units + 64 < cLine) : A.in1.units + 2 < cLine := by
  have : A.in1.units ≤ A.units + 1 := by first | exact Nat.le_refl _ | (simp [Around.in1, Around.units])
  omega
theorem zu2 (hu : X.A.units + 64 < cLine) : OpR X (compareOp .In) (zFp X.K false) := by
  intro pins s σ H x y v u Q I rx ry h
  obtain ⟨a, p, ns, as, nss, rfl, rfl, hs, hq, ht, q⟩ := h
  cases rx
  cases ry
  obtain ⟨its, r, pl, hz⟩ := I.list hq
  refine SeqAt.in_listAt (eqT H ns) pl.isList (fun w hw => zDw I hs (znt hu) ht r w (by simpa using hw)) ⟨.bl _, H, I, rfl, ?_⟩
  rw [show its.toArray.any (eqT H ns) = its.any (eqT H ns) by simp, zxH ht r]
  exact q
theorem zvP (hu : X.A.units + 64 < cLine) : OpR X (compareOp .NotIn) (zFp X.K true) := by
  intro pins s σ H x y v u Q I rx ry h
  obtain ⟨a, p, ns, as, nss, rfl, rfl, hs, hq, ht, q⟩ := h
  cases rx
  cases ry
  obtain ⟨its, r, pl, hz⟩ := I.list hq
  refine SeqAt.notIn_listAt (eqT H ns) pl.isList (fun w hw => zDw I hs (znt hu) ht r w (by simpa using hw)) ⟨.bl _, H, I, rfl, ?_⟩
  rw [show its.toArray.any (eqT H ns) = its.any (eqT H ns) by simp, zxH ht r]
  exact q
end
end L2
end
section
set_option Elab.async false
set_option linter.all false
set_option maxRecDepth 100000
set_option maxHeartbeats 4000000
namespace HT
open PySem PyProof.Rows
def lexLe : List Int → List Int → Bool
  | [], [] => true
  | [], _ :: _ => true
  | _ :: _, [] => false
  | x :: xs, y :: ys => if x = y then lexLe xs ys else decide (x ≤ y)
theorem lexLe_cons (x y : Int) (xs ys : List Int) : lexLe (x :: xs) (y :: ys) = if x = y then lexLe xs ys else decide (x ≤ y) := rfl
theorem lexLe_nil_nil : lexLe [] [] = true := rfl
theorem zvi (y : Int) (ys : List Int) : lexLe [] (y :: ys) = true := rfl
theorem zt9 (x : Int) (xs : List Int) : lexLe (x :: xs) [] = false := rfl
theorem zCQ (A : Around) (s : Shared) (a : Int) (t : Tok) (c : Int) (u : Tok) (prog : Program) (w : World) (E : Value → Shared → Prop) (Q : Value → Shared → Prop) (h : Q (.bool (decide (a ≤ c))) s) :
    wpAny (model prog w) A (richCompare .LtE (.int a t) (.int c u)) Q E s :=
  (PyProof.Rows.le_int h : wpAny (model prog w) A (compareOp .LtE (.int a t) (.int c u)) Q E s)
section
open PySem.SeqAt
open PySem.AutoSeq1 (wpAny_loadPart')
open PySem.MeetsSeq PySem.MeetsSeq2 PySem.MeetsSeq3
theorem zwh (l b : Addr) (items items2 : Array Value) (n n2 : Nat) (dd dd2 : Option Addr) (sl sl2 : Array (Option Value)) (ns ms : List Int) (hi : IntsAre items.toList ns) (hj : IntsAre items2.toList ms) :
    Meets (Builtin.«tuple.__le__» ⟨[.ref l, .ref b], []⟩)
      (fun _ R s => s.heap.get? l = some { cls := .type "tuple", dict := dd, data := .seq items n, slots := sl } ∧ s.heap.get? b = some { cls := .type "tuple", dict := dd2, data := .seq items2 n2, slots := sl2 } ∧
        R (.ok (.ret (.bool (lexLe ns ms)))) s) :=
  .of_wp fun prog w A R s h => by
    obtain ⟨hp, g, d, tk, os⟩ := s; obtain ⟨hl, hb, h⟩ := h
    have f2 := AutoSeq1.sub_tuple_tuple
    have z1 : items.size = ns.length := by rw [← hi.length]; simp
    have z2 : items2.size = ms.length := by rw [← hj.length]; simp
    wp_walk using wpAny_loadPart' hl, wpAny_loadPart' hb, wpAny_forIn_list _ (fun rest b s' => b.1 = none ∧ s' = ⟨hp, g, d, tk, os⟩ ∧ ∃ (vs ws : List Value) (ns' ms' : List Int), rest = vs.zip ws ∧
      IntsAre vs ns' ∧ IntsAre ws ms' ∧ ns'.length + items2.size = ms'.length + items.size ∧ R (.ok (.ret (.bool (lexLe ns' ms')))) ⟨hp, g, d, tk, os⟩) _
    case turn =>
      rintro ⟨y, x⟩ rest b s' ⟨hb', rfl, vs, ws, ns', ms', hz, hvi, hwi, hlen, hR⟩
      cases hvi with
      | nil => rw [List.zip_nil_left] at hz; cases hz
      | cons a t hvi' =>
        cases hwi with
        | nil => rw [List.zip_nil_right] at hz; cases hz
        | cons c u hwi' =>
          rw [List.zip_cons_cons] at hz
          injection hz with hyx hrest
          injection hyx with hy hx
          subst hy hx
          rw [lexLe_cons] at hR
          simp only [List.length_cons] at hlen
          obtain ⟨e, he, hiff⟩ := zzR A.in1 ⟨hp, g, d, tk, os⟩ a t c u
          refine wpAny_bind (he prog w _ _ ?_)
          cases e with
          | true =>
            rw [if_pos (hiff.mp rfl)] at hR
            wp_walk
            exact ⟨rfl, rfl, _, _, _, _, hrest, hvi', hwi', by omega, hR⟩
          | false =>
            rw [if_neg (fun q => absurd (hiff.mpr q) Bool.false_ne_true)] at hR
            have hri := zCQ A.in1 ⟨hp, g, d, tk, os⟩ a t c u prog w
            wp_walk using hri
            exact ⟨_, rfl, by simpa using hR⟩
    case fin =>
      rintro ⟨b1, b2⟩ s' ⟨hb', rfl, vs, ws, ns', ms', hz, hvi, hwi, hlen, hR⟩
      simp only at hb'
      subst hb'
      have hv : lexLe ns' ms' = decide (items.size ≤ items2.size) := by
        cases hvi with
        | nil =>
          cases hwi with
          | nil =>
            simp only [List.length_nil] at hlen
            rw [lexLe_nil_nil]
            exact (decide_eq_true (by omega)).symm
          | cons c u hw =>
            simp only [List.length_nil, List.length_cons] at hlen
            rw [zvi]
            exact (decide_eq_true (by omega)).symm
        | cons a t hv =>
          cases hwi with
          | nil =>
            simp only [List.length_nil, List.length_cons] at hlen
            rw [zt9]
            exact (decide_eq_false (by omega)).symm
          | cons c u hw =>
            rw [List.zip_cons_cons] at hz
            cases hz
      rw [hv] at hR
      wp_walk
      exact ⟨_, rfl, by simpa [Builtin.Tuple.tupleCompareSizes] using hR⟩
    case h =>
      exact ⟨rfl, rfl, items.toList, items2.toList, ns, ms, rfl, hi, hj, by omega, h⟩
end
theorem le_tupInts {prog : Program} {w : World} {A : Around} {E : Value → Shared → Prop} {s : Shared} {l b : Addr} {items items2 : Array Value} {ns ms : List Int} {Q : Value → Shared → Prop} (hl : IsTup s.heap l items) (hb : IsTup s.heap b items2) (hi : IntsAre items.toList ns) (hj : IntsAre items2.toList ms)
    (hu : A.units < cLine) (h : Q (.bool (lexLe ns ms)) s) : wpAny (model prog w) A (compareOp .LtE (.ref l) (.ref b)) Q E s := by
  obtain ⟨⟨cls, dd, data, sl⟩, ho, hc, n, hd⟩ := id hl
  obtain ⟨⟨cls2, dd2, data2, sl2⟩, ho2, hc2, n2, hd2⟩ := id hb
  simp only at hc hd hc2 hd2
  subst hc hd hc2 hd2
  exact richCompare_meets_room (op := .LtE) ⟨_, ho, rfl⟩ ⟨_, ho2, rfl⟩ PySem.F.slot_tuple_le PySem.F.entry_tuple_le (PySem.F.args_tuple_le_2 _ _) (zwh l b items items2 n n2 dd dd2 sl sl2 ns ms hi hj)
    ⟨ho, ho2, show Value.bool (lexLe ns ms) ≠ Value.notImplemented ∧ Q (.bool (lexLe ns ms)) s from ⟨(fun x => nomatch x), h⟩⟩ hu
end HT
namespace L2
open PySem PySem.Spec PyProof.Rows
open PySem.AutoSeq1 (wpAny_loadPart')
def zFZ (K : PySem.W.Frag) : R2 := fun x y H Q => ∃ a b ns ms, x = .ref a ∧ y = .ref b ∧ SqT K H a (ns.map V.int) ∧ SqT K H b (ms.map V.int) ∧ Q (.bl (HT.lexLe ns ms)) H
theorem zEt {X : Cx} (hu : X.A.units < cLine) : OpR X (compareOp .LtE) (zFZ X.K) := by
  intro pins s σ H x y v u Q I rx ry h
  obtain ⟨a, b, ns, ms, rfl, rfl, ha, hb, q⟩ := h
  cases rx
  cases ry
  obtain ⟨its, r1, p1, _⟩ := I.tuple ha
  obtain ⟨its2, r2, p2, _⟩ := I.tuple hb
  have i1 : IntsAre its.toArray.toList ns := zls r1
  have i2 : IntsAre its2.toArray.toList ms := zls r2
  exact HT.le_tupInts p1 p2 i1 i2 hu ⟨.bl (HT.lexLe ns ms), H, I, rfl, q⟩
def zGb (K : PySem.W.Frag) : R2 := fun x y H Q => ∃ p q xs, x = .ref p ∧ y = .ref q ∧ SqL K H p xs ∧ SqL K H q [] ∧ Q (.bl xs.isEmpty) H
theorem zCZ {X : Cx} (hu : X.A.units < cLine) : OpR X (compareOp .Eq) (zGb X.K) := by
  intro pins s σ H x y v u Q I rx ry h
  obtain ⟨p, q, xs, rfl, rfl, hp, hq, k⟩ := h
  cases rx
  cases ry
  obtain ⟨its, r1, p1, _⟩ := I.list hp
  obtain ⟨its2, r2, p2, _⟩ := I.list hq
  cases r2
  have l1 := r1.length
  have fin : ∀ b : Bool, b = xs.isEmpty → EP X pins σ Q (.bool b) s := fun b e => ⟨.bl b, H, I, rfl, by rw [e]; exact k⟩
  cases xs with
  | nil =>
    cases r1
    exact (SeqAt.RcAt.lists (e := fun _ => true) p1.isList p2.isList rfl hu (fun j h1 _ => absurd h1 (by simp)) X.prog X.w X.xe _ (fin _ rfl) : wpAny (model X.prog X.w) X.A (compareOp .Eq (.ref p) (.ref q)) _ X.xe s)
  | cons x xs =>
    exact (SeqAt.RcAt.lists_lengths p1.isList p2.isList (by simp [← l1]) hu X.prog X.w X.xe _ (fin _ rfl) : wpAny (model X.prog X.w) X.A (compareOp .Eq (.ref p) (.ref q)) _ X.xe s)
abbrev Lsts (H : Hp) : List Addr → List (List Int) → Prop := Paired fun a ms => H a = some (.lst (ms.map V.int))
def eqL (H : Hp) (ns : List Int) (u : Value) : Bool := match u with
  | .ref a => (match H a with
    | some (.lst ys) => decide (ys = ns.map V.int)
    | _ => false)
  | _ => false
theorem zx5 {H : Hp} {ns ms : List Int} {a : Addr} (h : H a = some (.lst (ms.map V.int))) : eqL H ns (.ref a) = decide (ms = ns) := by
  show (match H a with
    | some (.lst ys) => decide (ys = ns.map V.int)
    | _ => false) = _
  rw [h]
  exact decide_eq_decide.mpr znY
theorem zxm {H : Hp} {ns : List Int} : ∀ {as : List Addr} {nss : List (List Int)} {us : List Value}, Lsts H as nss → Vals (as.map V.ref) us → us.any (eqL H ns) = nss.contains ns
  | _, _, _, .nil, r => by
    cases r
    rfl
  | _, _, _, .cons (a := a) (b := ms) h t, r => by
    cases r with
    | cons r1 r2 =>
      cases r1
      rw [List.any_cons, zxm t r2, List.contains_cons, zx5 h]
      congr 1
      rw [Bool.eq_iff_iff, decide_eq_true_eq, beq_iff_eq]
      exact eq_comm
section
variable {X : Cx}
theorem zES {pins : List (Addr × Obj)} {σ : St} {H : Hp} {s : Shared} {a b : Addr} {ms ns : List Int} {A : Around} (I : Inv X pins σ H s) (ha : H a = some (.lst (ms.map V.int))) (hb : SqL X.K H b (ns.map V.int)) (hu : A.units + 2 < cLine) : SeqAt.EqAt A s (.ref a) (.ref b) (decide (ms = ns)) := by
  obtain ⟨as, r1⟩ := Dp.reads I (.list (ms.map PyData.int)) (.ref a) (.ref a) (.lst (SqL.of ha) (znn ms)) rfl
  obtain ⟨bs, r2⟩ := Dp.reads I (.list (ns.map PyData.int)) (.ref b) (.ref b) (.lst hb (znn ns)) rfl
  have l : ∀ l : List Int, PyData.canLay0 (.list (l.map PyData.int)) = true := fun l => by
    have := zrL l
    simpa [PyData.canLay0] using this
  have d : PyData.depth (.list (ms.map PyData.int)) ≤ 2 := by
    have := zsC ms
    simp [PyData.depth]
    omega
  have e := SeqAt.eqAt_reads _ _ A s _ _ as bs r1 r2 (l ms) (l ns) (Nat.lt_of_le_of_lt (Nat.add_le_add_left (Nat.le_trans (Nat.min_le_left _ _) d) _) hu)
  rw [show PyData.eqv (.list (ms.map PyData.int)) (.list (ns.map PyData.int)) = decide (ms = ns) from zsy ms ns] at e
  exact e
theorem zBd {pins : List (Addr × Obj)} {σ : St} {H : Hp} {s : Shared} {b : Addr} {ns : List Int} {A : Around} (I : Inv X pins σ H s) (hb : SqL X.K H b (ns.map V.int)) (hu : A.units + 2 < cLine) :
    ∀ {as : List Addr} {nss : List (List Int)} {us : List Value}, Lsts H as nss → Vals (as.map V.ref) us → ∀ u ∈ us, SeqAt.EqAt A s u (.ref b) (eqL H ns u)
  | _, _, _, .nil, r => fun u hu => by
    cases r
    cases hu
  | _, _, _, .cons (a := a) (b := ms) h t, r => fun u hu' => by
    cases r with
    | cons r1 r2 =>
      cases r1
      rcases List.mem_cons.mp hu' with rfl | m
      · rw [zx5 h]
        exact zES I h hb hu
      · exact zBd I hb hu t r2 u m
def zFx (K : PySem.W.Frag) (neg : Bool) : R2 := fun x y H Q => ∃ (s p : Addr) (ns : List Int) (as : List Addr) (nss : List (List Int)), x = .ref s ∧ y = .ref p ∧ SqL K H s (ns.map V.int) ∧ SqL K H p (as.map V.ref) ∧ Lsts H as nss ∧ Q (.bl (if neg then !nss.contains ns else nss.contains ns)) H
theorem zAt (hu : X.A.units + 64 < cLine) : OpR X (compareOp .In) (zFx X.K false) := by
  intro pins s σ H x y v u Q I rx ry h
  obtain ⟨a, p, ns, as, nss, rfl, rfl, hs, hq, ht, q⟩ := h
  cases rx
  cases ry
  obtain ⟨its, r, pl, hz⟩ := I.list hq
  refine SeqAt.in_listAt (eqL H ns) pl.isList (fun w hw => zBd I hs (znt hu) ht r w (by simpa using hw)) ⟨.bl _, H, I, rfl, ?_⟩
  rw [show its.toArray.any (eqL H ns) = its.any (eqL H ns) by simp, zxm ht r]
  exact q
theorem zoV (hu : X.A.units + 64 < cLine) : OpR X (compareOp .NotIn) (zFx X.K true) := by
  intro pins s σ H x y v u Q I rx ry h
  obtain ⟨a, p, ns, as, nss, rfl, rfl, hs, hq, ht, q⟩ := h
  cases rx
  cases ry
  obtain ⟨its, r, pl, hz⟩ := I.list hq
  refine SeqAt.notIn_listAt (eqL H ns) pl.isList (fun w hw => zBd I hs (znt hu) ht r w (by simpa using hw)) ⟨.bl _, H, I, rfl, ?_⟩
  rw [show its.toArray.any (eqL H ns) = its.any (eqL H ns) by simp, zxm ht r]
  exact q
def zD0 (K : PySem.W.Frag) : V → List V → Hp → VK → Prop := fun x xs H Q => ∃ (p s : Addr) (ns : List Int) (as : List Addr) (nss : List (List Int)) (j : Nat), x = V.ref p ∧ xs = [.ref s] ∧ SqL K H s (ns.map V.int) ∧ SqL K H p (as.map V.ref) ∧ Lsts H as nss ∧ nss[j]? = some ns ∧ (∀ m, m < j → nss[m]? ≠ some ns) ∧ Q (.int (j : Nat)) H
theorem zwk (hu : X.A.units + 64 < cLine) : MtR X "list.index" (zD0 X.K) := by
  intro pins s σ H x xs v us Q I rx rxs h
  obtain ⟨p, a, ns, as, nss, j, rfl, rfl, hs, hq, ht, hj, hno, q⟩ := h
  cases rx
  cases rxs with
  | cons ry rt =>
    rename_i uy ut
    cases rt
    cases ry
    obtain ⟨its, rv, ⟨⟨cls, dd, data, sl⟩, n, ho, hc, hdn, hd⟩, hlen⟩ := I.list hq
    simp only at hc hd
    subst hc hd
    have lab : as.length = nss.length := Paired.length ht
    have hvl := rv.length
    rw [List.length_map] at hvl hlen
    have jl := (List.getElem?_eq_some_iff.mp hj).1
    have at_ : ∀ m, (h : m < its.length) → ∃ b ms, its[m] = Value.ref b ∧ H b = some (.lst (ms.map V.int)) ∧ nss[m]? = some ms := fun m h => by
      have hm : m < nss.length := by omega
      have hma : m < as.length := by omega
      have e1 : (as.map V.ref)[m]? = some (.ref as[m]) := by rw [List.getElem?_map, List.getElem?_eq_getElem hma]; rfl
      obtain ⟨u, hu', ru⟩ := rv.get e1
      obtain ⟨_, e2⟩ := List.getElem?_eq_some_iff.mp hu'
      have e3 : nss[m]? = some nss[m] := List.getElem?_eq_getElem hm
      have pr : ∀ {as : List Addr} {nss : List (List Int)} {i : Nat} {x : Addr}, Lsts H as nss → as[i]? = some x → ∃ b, nss[i]? = some b ∧ H x = some (.lst (b.map V.int)) := fun {as nss i x} r => by
        induction r generalizing i with
        | nil => intro h; simp at h
        | cons h t ih =>
          cases i with
          | zero =>
            intro e
            obtain rfl := Option.some.inj e
            exact ⟨_, rfl, h⟩
          | succ i => exact fun e => ih (i := i) e
      obtain ⟨ms, e4, e5⟩ := pr ht (List.getElem?_eq_getElem hma)
      cases ru
      exact ⟨as[m], ms, e2, e5, e4⟩
    have hsl := sizeLine_eq
    have hj' : j < its.toArray.size := by simp; omega
    refine call_meets PySem.F.slot_list_index ⟨_, ho, rfl⟩ PySem.F.entry_list_index (PySem.F.args_list_index_2 _ _)
      (SeqAt.list_indexAt p its.toArray n dd sl (.ref a) (eqL H ns) j hj' (by omega) ?_ ?_) ⟨ho, fun u' hu' => zBd I hs (znt hu) ht rv u' (by simpa using hu'), ?_⟩
    · obtain ⟨b, ms, e1, e2, e3⟩ := at_ j (by omega)
      rw [show its.toArray[j] = Value.ref b by simpa using e1, zx5 e2]
      rw [hj] at e3
      exact decide_eq_true (Option.some.inj e3).symm
    · intro m hm hmj
      obtain ⟨b, ms, e1, e2, e3⟩ := at_ m (by simpa using hm)
      rw [show its.toArray[m] = Value.ref b by simpa using e1, zx5 e2]
      exact decide_eq_false fun z => hno m hmj (by rw [e3, z])
    · exact ⟨.int (j : Nat), H, I.tok _, ⟨_, rfl⟩, q⟩
end
end L2
end
section
set_option linter.all false
namespace Wm
open Bd
def yK (s : UInt8) : Bytes → List Bytes
  | [] => [[]]
  | c :: r => if c = s then [] :: yK s r else match yK s r with
    | [] => [[c]]
    | x :: l => (c :: x) :: l
def stp (s : UInt8) (p : List Bytes × Bytes) (c : UInt8) : List Bytes × Bytes := if c = s then (p.1 ++ [p.2], []) else (p.1, p.2 ++ [c])
def fl (s : UInt8) (t : Bytes) : List Bytes × Bytes := t.foldl (stp s) ([], [])
def zwo (p : List Bytes × Bytes) : List Bytes := p.1 ++ [p.2]
theorem zDX (s : UInt8) (t : Bytes) (c : UInt8) : fl s (t ++ [c]) = stp s (fl s t) c := by
  unfold fl
  rw [List.foldl_append]
  rfl
theorem ziu : ∀ t : Bytes, wordsOf t = yK 32 t
  | [] => rfl
  | c :: r => by
    unfold wordsOf yK
    rw [ziu r]
    rfl
theorem ZE (s : UInt8) : ∀ t : Bytes, ∃ x l, yK s t = x :: l
  | [] => ⟨_, _, rfl⟩
  | c :: r => by
    obtain ⟨x, l, e⟩ := ZE s r
    unfold yK
    rw [e]
    by_cases h : c = s
    · rw [if_pos h]
      exact ⟨_, _, rfl⟩
    · rw [if_neg h]
      exact ⟨_, _, rfl⟩
theorem zp2 (s : UInt8) : ∀ (t : Bytes) (i : List Bytes) (l x : Bytes) (r : List Bytes), yK s t = x :: r → zwo (t.foldl (stp s) (i, l)) = i ++ (l ++ x) :: r
  | [], i, l, x, r, h => by
    cases h
    simp [zwo]
  | c :: t, i, l, x, r, h => by
    obtain ⟨y, q, e⟩ := ZE s t
    rw [List.foldl_cons]
    unfold yK at h
    rw [e] at h
    by_cases hc : c = s
    · rw [if_pos hc] at h
      obtain ⟨h1, h2⟩ := List.cons.inj h
      subst h1 h2
      rw [show stp s (i, l) c = (i ++ [l], []) from if_pos hc, zp2 s t _ _ y q e]
      simp
    · rw [if_neg hc] at h
      obtain ⟨h1, h2⟩ := List.cons.inj h
      subst h1 h2
      rw [show stp s (i, l) c = (i, l ++ [c]) from if_neg hc, zp2 s t _ _ y q e]
      simp
theorem zqC (s : UInt8) (t : Bytes) : zwo (fl s t) = yK s t := by
  obtain ⟨x, l, e⟩ := ZE s t
  unfold fl
  rw [zp2 s t [] [] x l e, e]
  rfl
theorem zzp : ∀ t : Bytes, yK 10 t = (linesOf t).1 ++ [(linesOf t).2]
  | [] => rfl
  | c :: r => by
    have ih := zzp r
    unfold yK linesOf
    by_cases h : c = 10
    · simp only [if_pos h]
      rw [ih]
      rfl
    · simp only [if_neg h]
      rw [ih]
      cases e : (linesOf r).1 with
      | nil => rfl
      | cons x l => rfl
theorem zDz (t : Bytes) : fl 10 t = linesOf t := by
  have h := zqC 10 t
  rw [zzp] at h
  unfold zwo at h
  have := List.append_inj' h rfl
  exact Prod.ext this.1 (by simpa using this.2)
theorem zCU : ∀ d : Nat, d < 10 → UInt8.ofNat (Nat.digitChar d).toNat = UInt8.ofNat (48 + d) := by decide
theorem zsc {n : Nat} (h : n < 10) : number n = [UInt8.ofNat (48 + n)] := by
  unfold number ascii
  show ((String.ofList (Nat.toDigits 10 n)).toList.map _) = _
  rw [String.toList_ofList, Nat.toDigits_of_lt_base h]
  show [UInt8.ofNat (Nat.digitChar n).toNat] = _
  rw [zCU n h]
theorem zwF {n : Nat} (h : 10 ≤ n) : number n = number (n / 10) ++ [UInt8.ofNat (48 + n % 10)] := by
  unfold number ascii
  show ((String.ofList (Nat.toDigits 10 n)).toList.map _) = ((String.ofList (Nat.toDigits 10 (n / 10))).toList.map _) ++ _
  rw [String.toList_ofList, String.toList_ofList, Nat.toDigits_of_base_le (by decide) h, List.map_append]
  show _ ++ [UInt8.ofNat (Nat.digitChar (n % 10)).toNat] = _
  rw [zCU (n % 10) (Nat.mod_lt _ (by decide))]
theorem zld (x : Bytes) (c : UInt8) : valueOf (x ++ [c]) = 10 * valueOf x + (c.toNat - 48) := by
  unfold valueOf
  rw [List.foldl_append]
  rfl
theorem zt8 {c : UInt8} (h : isDigit c = true) : UInt8.ofNat (48 + (c.toNat - 48)) = c ∧ c.toNat - 48 < 10 := by
  unfold isDigit at h
  simp only [Bool.and_eq_true, decide_eq_true_eq] at h
  refine ⟨?_, by omega⟩
  rw [show 48 + (c.toNat - 48) = c.toNat by omega]
  exact UInt8.ofNat_toNat
def zjl (x : Bytes) : Bool := x.headD 0 == 48 && decide (1 < x.length)
theorem zzo : ∀ (n : Nat), 10 ≤ n → (number n).headD 0 ≠ 48 ∧ number n ≠ [] ∧ 1 < (number n).length := by
  intro n
  induction n using Nat.strongRecOn with
  | _ n ih =>
    intro h
    rw [zwF h]
    by_cases h2 : 10 ≤ n / 10
    · obtain ⟨a, b, c⟩ := ih (n / 10) (by omega) h2
      cases e : number (n / 10) with
      | nil => exact absurd e b
      | cons y l =>
        rw [e] at a
        refine ⟨a, by simp, ?_⟩
        simp
    · rw [zsc (by omega)]
      refine ⟨?_, by simp, by simp⟩
      have hn : n / 10 < 10 := by omega
      have h1 : 1 ≤ n / 10 := by omega
      have q : ∀ d : Nat, d < 10 → 1 ≤ d → UInt8.ofNat (48 + d) ≠ 48 := by decide
      exact q _ hn h1
theorem zB2 : ∀ (x : Bytes), x ≠ [] → x.all isDigit = true → x.headD 0 ≠ 48 → 1 ≤ valueOf x := by
  intro x
  suffices h : ∀ (y : Bytes) (a : Nat), 1 ≤ a → 1 ≤ y.foldl (fun (n : Nat) (c : UInt8) => 10 * n + (c.toNat - 48)) a by
    intro hx hd hh
    cases x with
    | nil => exact absurd rfl hx
    | cons c r =>
      unfold valueOf
      rw [List.foldl_cons]
      refine h r _ ?_
      simp only [List.all_cons, Bool.and_eq_true] at hd
      obtain ⟨e, _⟩ := zt8 hd.1
      have hc : isDigit c = true := hd.1
      unfold isDigit at hc
      simp only [Bool.and_eq_true, decide_eq_true_eq] at hc
      have : c.toNat ≠ 48 := fun z => hh (by
        show c = 48
        exact UInt8.toNat_inj.mp z)
      omega
  intro y
  induction y with
  | nil => intro a h; exact h
  | cons c r ih =>
    intro a h
    rw [List.foldl_cons]
    exact ih _ (by omega)
theorem zql : ∀ (n : Nat) (x : Bytes), x.length = n → x ≠ [] → x.all isDigit = true → zjl x = false → number (valueOf x) = x
  | 0, x, hl, hx, _, _ => absurd (List.length_eq_zero_iff.mp hl) hx
  | n + 1, x, hl, hx, hd, hn => by
    have e : x = x.dropLast ++ [x.getLast hx] := (List.dropLast_concat_getLast hx).symm
    generalize x.dropLast = y at e
    generalize x.getLast hx = c at e
    subst e
    simp only [List.all_append, List.all_cons, List.all_nil, Bool.and_true, Bool.and_eq_true] at hd
    obtain ⟨e2, h2⟩ := zt8 hd.2
    rw [zld]
    cases y with
    | nil =>
      show number (10 * 0 + (c.toNat - 48)) = [c]
      rw [Nat.mul_zero, Nat.zero_add, zsc h2, e2]
    | cons d r =>
      have hh : (d :: r).headD 0 ≠ 48 := by
        intro z
        unfold zjl at hn
        have z' : d = 48 := z
        subst z'
        simp at hn
      have p := zB2 (d :: r) (by simp) hd.1 hh
      have nn : zjl (d :: r) = false := by
        unfold zjl
        rw [beq_eq_false_iff_ne.mpr hh]
        rfl
      have ih := zql n (d :: r) (by simpa using hl) (by simp) hd.1 nn
      rw [zwF (by omega), show (10 * valueOf (d :: r) + (c.toNat - 48)) / 10 = valueOf (d :: r) by omega, show (10 * valueOf (d :: r) + (c.toNat - 48)) % 10 = c.toNat - 48 by omega, ih, e2]
def zrk (x : Bytes) : Bool := decide (1 ≤ x.length) && (decide (x.length ≤ 5) && (x.all isDigit && !zjl x))
theorem zvy (x : Bytes) : readNumber x = if zrk x = true then some (valueOf x) else none := by
  unfold readNumber
  by_cases h : zrk x = true
  · rw [if_pos h]
    unfold zrk at h
    simp only [Bool.and_eq_true, decide_eq_true_eq, Bool.not_eq_true'] at h
    obtain ⟨h1, h2, h3, h4⟩ := h
    have hx : x ≠ [] := fun z => by rw [z] at h1; simp at h1
    rw [if_pos ⟨hx, h2, h3, zql x.length x rfl hx h3 h4⟩]
  · rw [if_neg h]
    refine if_neg fun ⟨a, b, c, d⟩ => h ?_
    unfold zrk
    have l1 : 1 ≤ x.length := by
      cases x with
      | nil => exact absurd rfl a
      | cons _ _ => simp
    simp only [Bool.and_eq_true, decide_eq_true_eq, Bool.not_eq_true']
    refine ⟨l1, b, c, ?_⟩
    cases hn : zjl x with
    | false => rfl
    | true =>
      exfalso
      unfold zjl at hn
      simp only [Bool.and_eq_true, decide_eq_true_eq, beq_iff_eq] at hn
      by_cases h10 : 10 ≤ valueOf x
      · have z := (zzo _ h10).1
        rw [d] at z
        exact z hn.1
      · rw [zsc (by omega)] at d
        rw [← d] at hn
        simp at hn
theorem zAU : ∀ (x : Bytes), x.length ≤ 5 → x.all isDigit = true → valueOf x < 100000 := by
  have h : ∀ (n : Nat) (x : Bytes), x.length = n → x.all isDigit = true → valueOf x < 10 ^ n := by
    intro n
    induction n with
    | zero =>
      intro x hl _
      rw [List.length_eq_zero_iff.mp hl]
      decide
    | succ n ih =>
      intro x hl hd
      have hx : x ≠ [] := fun z => by rw [z] at hl; cases hl
      have e : x = x.dropLast ++ [x.getLast hx] := (List.dropLast_concat_getLast hx).symm
      generalize x.dropLast = y at e
      generalize x.getLast hx = c at e
      subst e
      simp only [List.all_append, List.all_cons, List.all_nil, Bool.and_true, Bool.and_eq_true] at hd
      obtain ⟨_, h2⟩ := zt8 hd.2
      have z := ih y (by simpa using hl) hd.1
      rw [zld, Nat.pow_succ]
      omega
  intro x hl hd
  exact Nat.lt_of_lt_of_le (h x.length x rfl hd) (Nat.pow_le_pow_right (by decide) hl)
end Wm
end
section
set_option linter.all false
namespace Wm
open Bd
def zsR (s : UInt8) : List Bytes → Bytes
  | [] => []
  | [x] => x
  | x :: y :: l => x ++ s :: zsR s (y :: l)
theorem zk4 (s : UInt8) : ∀ t : Bytes, zsR s (yK s t) = t
  | [] => rfl
  | c :: r => by
    have ih := zk4 s r
    obtain ⟨x, l, e⟩ := ZE s r
    unfold yK
    rw [e] at ih ⊢
    by_cases h : c = s
    · rw [if_pos h]
      show [] ++ s :: zsR s (x :: l) = c :: r
      rw [ih, h]
      rfl
    · rw [if_neg h]
      cases l with
      | nil =>
        have ih' : x = r := ih
        show c :: x = c :: r
        rw [ih']
      | cons y l =>
        show (c :: x) ++ s :: zsR s (y :: l) = c :: r
        have ih' : x ++ s :: zsR s (y :: l) = r := ih
        rw [← ih']
        rfl
theorem zrc {s : UInt8} : ∀ {w : Bytes} (r : Bytes), (∀ c ∈ w, c ≠ s) → yK s (w ++ s :: r) = w :: yK s r
  | [], r, _ => by
    show yK s (s :: r) = [] :: yK s r
    rw [yK, if_pos rfl]
  | c :: w, r, h => by
    show yK s (c :: (w ++ s :: r)) = _
    rw [yK, if_neg (h c (by simp)), zrc (w := w) r fun d hd => h d (by simp [hd])]
def zL (word : Bytes) (line : Bytes) : Option (List Bytes) := match yK 32 line with
  | w :: r => if w = word then some r else none
  | [] => none
theorem behind_iff {w line x : Bytes} : behind w line = some x ↔ line = w ++ 32 :: x := by
  unfold behind
  constructor
  · intro h
    by_cases e : line.take (w.length + 1) = w ++ [32]
    · rw [if_pos e] at h
      have h' := Option.some.inj h
      rw [← List.take_append_drop (w.length + 1) line, e, h']
      simp
    · rw [if_neg e] at h
      cases h
  · intro h
    subst h
    rw [if_pos]
    · congr 1
      rw [show w ++ 32 :: x = (w ++ [32]) ++ x by simp, List.drop_left' (by simp)]
    · rw [show w ++ 32 :: x = (w ++ [32]) ++ x by simp, List.take_left' (by simp)]
theorem zB6 (word : String) (ok : UInt8 → Bool) (line : Bytes) (hw : ∀ c ∈ ascii word, c ≠ 32) (h32 : ok 32 = false) :
    formed word ok line = match zL (ascii word) line with
      | some [x] => if x ≠ [] ∧ x.all ok = true then some x else none
      | _ => none := by
  unfold formed
  cases hb : behind (ascii word) line with
  | some rest =>
    have e := behind_iff.mp hb
    have hs := zrc (s := 32) rest hw
    rw [← e] at hs
    unfold zL
    rw [hs]
    dsimp only
    rw [if_pos rfl, Option.bind_some]
    obtain ⟨x, l, ex⟩ := ZE 32 rest
    have hj := zk4 32 rest
    rw [ex] at hj ⊢
    cases l with
    | nil =>
      have hj' : x = rest := hj
      rw [hj']
    | cons y l =>
      have hj' : x ++ 32 :: zsR 32 (y :: l) = rest := hj
      show (if rest ≠ [] ∧ rest.all ok = true then some rest else none) = none
      refine if_neg fun ⟨_, z⟩ => ?_
      rw [← hj'] at z
      simp [h32] at z
  | none =>
    rw [Option.bind_none]
    unfold zL
    obtain ⟨x, l, ex⟩ := ZE 32 line
    have hj := zk4 32 line
    rw [ex] at hj ⊢
    dsimp only
    by_cases q : x = ascii word
    · rw [if_pos q]
      cases l with
      | nil => rfl
      | cons y l =>
        exfalso
        have hj' : x ++ 32 :: zsR 32 (y :: l) = line := hj
        rw [q] at hj'
        rw [behind_iff.mpr hj'.symm] at hb
        cases hb
    · rw [if_neg q]
theorem zrD (word : String) (n : Nat) (line : Bytes) : numbersIn word n line = (zL (ascii word) line).bind fun r => if r.length = n then r.mapM readNumber else none := by
  unfold numbersIn zL
  rw [ziu]
  obtain ⟨x, l, ex⟩ := ZE 32 line
  rw [ex]
  dsimp only
  by_cases q : x = ascii word
  · rw [if_pos q, Option.bind_some]
    by_cases z : l.length = n
    · rw [if_pos ⟨q, z⟩, if_pos z]
    · rw [if_neg fun h => z h.2, if_neg z]
  · rw [if_neg fun h => q h.1, if_neg q]
    rfl
def zix (x : Bytes) : Option Nat := if x = ascii "free" then some 0 else if x = ascii "side" then some 1 else if x = ascii "end" then some 2 else none
theorem zDx (word : String) (line : Bytes) : endIn word line = match zL (ascii word) line with
    | some [x] => zix x
    | _ => none := by
  unfold endIn zL
  rw [ziu]
  obtain ⟨x, l, ex⟩ := ZE 32 line
  rw [ex]
  cases l with
  | nil =>
    dsimp only
    by_cases q : x = ascii word
    · rw [if_pos q]
    · rw [if_neg q]
  | cons y l =>
    cases l with
    | nil =>
      dsimp only
      by_cases q : x = ascii word
      · rw [if_pos q, if_pos q]
        rfl
      · rw [if_neg q, if_neg q]
    | cons z l =>
      dsimp only
      by_cases q : x = ascii word
      · rw [if_pos q]
      · rw [if_neg q]
inductive HV where
  | nm (b : Bytes)
  | num (n : Nat)
  deriving DecidableEq
def zkG (x : Bytes) : Except Nat Bytes := if x = [] ∨ x.all isSmall = false then .error 1 else if 15 < x.length then .error 2 else .ok x
def zcZ (x : Bytes) (most : Nat) : Except Nat Nat := match readNumber x with
  | none => .error 1
  | some n => if n < 1 ∨ most < n then .error 2 else .ok n
def zpf (i : Nat) : String := (["wall", "long", "high", "left", "right", "reveal"] : List String).getD i ""
def zcT (i : Nat) (x : Bytes) : Except Nat HV :=
  if i = 0 then (zkG x).map .nm else if i = 1 then (zcZ x 32).map .num else if i = 2 then (zcZ x 8).map .num else match zix x with
    | some e => .ok (.num e)
    | none => .error 1
def zaG (i : Nat) (line : Bytes) : Except Nat HV := match zL (ascii (zpf i)) line with
  | some [x] => zcT i x
  | _ => .error 1
def zdG (line : Bytes) (long high : Nat) (before : List Opening) : Except Nat Opening := match (zL (ascii "open") line).bind fun r => r.mapM readNumber with
  | some [a, b, c, d] =>
    let o : Opening := ⟨a, b, c, d⟩
    if o.within long high = false then .error 2
    else if (before.getLast?.any fun (p : Opening) => !p.before o) = true then .error 3
    else if (before.any fun (p : Opening) => p.meets o) = true then .error 4
    else if 8 ≤ before.length then .error 5
    else .ok o
  | _ => .error 1
def numAt (h : List HV) (i : Nat) : Nat := match h[i]? with
  | some (.num n) => n
  | _ => 0
def zcP (h : List HV) (o : List Opening) (line : Bytes) : Except Nat (List HV × List Opening) :=
  if h.length < 6 then (match zaG h.length line with
    | .error k => .error k
    | .ok v => .ok (h ++ [v], o))
  else match zdG line (numAt h 1) (numAt h 2) o with
    | .error k => .error k
    | .ok p => .ok (h, o ++ [p])
def zFv : List Bytes → Nat → List HV → List Opening → Except Fault (List HV × List Opening)
  | [], _, h, o => .ok (h, o)
  | l :: r, i, h, o => match zcP h o l with
    | .error k => .error (i, k)
    | .ok z => zFv r (i + 1) z.1 z.2
def zFw (z : List Bytes × Bytes) : Except Fault (List HV × List Opening) := match zFv z.1 0 [] [] with
  | .error e => .error e
  | .ok x => if x.1.length < 6 ∨ z.2 ≠ [] then .error (z.1.length, 1) else .ok x
def nameAt (h : List HV) : Bytes := match h[0]? with
  | some (HV.nm b) => b
  | _ => []
def ziU (h : List HV) (o : List Opening) : Wall := ⟨nameAt h, numAt h 1, numAt h 2, numAt h 3, numAt h 4, numAt h 5, o⟩
end Wm
end
section
set_option linter.all false
namespace Wm
open Bd
def zcY (L : List Bytes) (i : Nat) : Except Fault HV :=
  if i = 0 then (match lineAt L 0 "wall" isSmall with
    | .error e => .error e
    | .ok name => if NAME < name.length then .error (0, 2) else .ok (.nm name))
  else if i = 1 then (sizeAt L 1 "long" LENGTH).map .num else if i = 2 then (sizeAt L 2 "high" HIGH).map .num
  else if i = 3 then (endAt L 3 "left").map .num else if i = 4 then (endAt L 4 "right").map .num else (endAt L 5 "reveal").map .num
def zCG (L : List Bytes) : Nat → List HV → Except Fault Wall
  | 0, h => match opensAt L (numAt h 1) (numAt h 2) (L.length + 1) 6 [] with
    | .error e => .error e
    | .ok l => .ok (ziU h l)
  | n + 1, h => match zcY L h.length with
    | .error e => .error e
    | .ok v => zCG L n (h ++ [v])
def zHv (z : List Bytes × Bytes) : List Bytes := z.1 ++ (if z.2 = [] then [] else [[]])
theorem zwp (L : List Bytes) (i : Nat) (word : String) (most : Nat) : sizeAt L i word most = match L[i]? with
    | none => .error (i, 1)
    | some x => match zL (ascii word) x with
      | some [y] => (match zcZ y most with
        | .error k => .error (i, k)
        | .ok n => .ok n)
      | _ => .error (i, 1) := by
  unfold sizeAt
  cases L[i]? with
  | none => rfl
  | some x =>
    rw [Option.bind_some, zrD]
    dsimp only
    cases zL (ascii word) x with
    | none => rfl
    | some r =>
      rw [Option.bind_some]
      match r with
      | [] => rfl
      | [y] =>
        rw [if_pos (show [y].length = 1 from rfl)]
        unfold zcZ
        cases hy : readNumber y with
        | none => simp [hy]
        | some n =>
          simp only [List.mapM_cons, List.mapM_nil, hy]
          show (if n < 1 ∨ most < n then Except.error (i, 2) else Except.ok n) = _
          by_cases q : n < 1 ∨ most < n
          · rw [if_pos q, if_pos q]
          · rw [if_neg q, if_neg q]
      | y :: z :: l =>
        dsimp only
        rw [if_neg (by simp)]
theorem zu0 (L : List Bytes) (i : Nat) (word : String) : endAt L i word = match L[i]? with
    | none => .error (i, 1)
    | some x => match zL (ascii word) x with
      | some [y] => (match zix y with
        | none => .error (i, 1)
        | some n => .ok n)
      | _ => .error (i, 1) := by
  unfold endAt
  cases L[i]? with
  | none => rfl
  | some x =>
    rw [Option.bind_some, zDx]
    dsimp only
    cases zL (ascii word) x with
    | none => rfl
    | some r =>
      match r with
      | [] => rfl
      | [y] =>
        dsimp only
        cases zix y <;> rfl
      | y :: z :: l => rfl
def znG (i : Nat) (r : Except Nat HV) : Except Fault HV := match r with
  | .error k => .error (i, k)
  | .ok v => .ok v
def zvh (L : List Bytes) (i : Nat) (word : String) : Except Fault HV := match lineAt L i word isSmall with
  | .error e => .error e
  | .ok name => if NAME < name.length then .error (i, 2) else .ok (HV.nm name)
def zxI (L : List Bytes) (i : Nat) (word : String) : Except Fault HV := match L[i]? with
  | none => .error (i, 1)
  | some x => match zL (ascii word) x with
    | some [y] => (match zkG y with
      | .error k => .error (i, k)
      | .ok n => .ok (HV.nm n))
    | _ => .error (i, 1)
theorem zCu (L : List Bytes) (i : Nat) (word : String) (hw : ∀ c ∈ ascii word, c ≠ 32) : zvh L i word = zxI L i word := by
  unfold zvh zxI lineAt
  cases L[i]? with
  | none => rfl
  | some x =>
    rw [Option.bind_some, zB6 _ _ _ hw (by decide)]
    dsimp only
    cases zL (ascii word) x with
    | none => rfl
    | some r =>
      match r with
      | [] => rfl
      | [y] =>
        dsimp only
        unfold zkG
        by_cases h1 : y = [] ∨ y.all isSmall = false
        · rw [if_pos h1, if_neg]
          rintro ⟨a, b⟩
          rcases h1 with h1 | h1
          · exact a h1
          · rw [h1] at b
            cases b
        · rw [if_neg h1, if_pos]
          · dsimp only
            by_cases h2 : NAME < y.length
            · rw [if_pos h2, if_pos (show 15 < y.length from h2)]
            · rw [if_neg h2, if_neg (show ¬ 15 < y.length from h2)]
          · refine ⟨fun z => h1 (.inl z), ?_⟩
            cases q : y.all isSmall with
            | true => rfl
            | false => exact absurd (.inr q) h1
      | y :: z :: l => rfl
theorem zta (L : List Bytes) (i : Nat) (hi : i < 6) : zcY L i = match L[i]? with
    | none => .error (i, 1)
    | some x => znG i (zaG i x) := by
  unfold zcY zaG
  match i, hi with
  | 0, _ =>
    rw [if_pos rfl]
    show zvh L 0 "wall" = _
    rw [zCu L 0 "wall" (by decide)]
    unfold zxI
    cases L[0]? with
    | none => rfl
    | some x =>
      dsimp only
      show _ = znG 0 (match zL (ascii "wall") x with
        | some [x] => zcT 0 x
        | _ => .error 1)
      cases zL (ascii "wall") x with
      | none => rfl
      | some r =>
        match r with
        | [] => rfl
        | [y] =>
          dsimp only
          unfold zcT
          rw [if_pos rfl]
          cases zkG y <;> rfl
        | y :: z :: l => rfl
  | 1, _ =>
    rw [if_neg (by decide), if_pos rfl, zwp]
    cases L[1]? with
    | none => rfl
    | some x =>
      dsimp only
      show _ = znG 1 (match zL (ascii "long") x with
        | some [x] => zcT 1 x
        | _ => .error 1)
      cases zL (ascii "long") x with
      | none => rfl
      | some r =>
        match r with
        | [] => rfl
        | [y] =>
          dsimp only
          show Except.map HV.num (match zcZ y 32 with
            | .error k => (.error (1, k) : Except Fault Nat)
            | .ok n => .ok n) = znG 1 ((zcZ y 32).map HV.num)
          cases zcZ y 32 <;> rfl
        | y :: z :: l => rfl
  | 2, _ =>
    rw [if_neg (by decide), if_neg (by decide), if_pos rfl, zwp]
    cases L[2]? with
    | none => rfl
    | some x =>
      dsimp only
      show _ = znG 2 (match zL (ascii "high") x with
        | some [x] => zcT 2 x
        | _ => .error 1)
      cases zL (ascii "high") x with
      | none => rfl
      | some r =>
        match r with
        | [] => rfl
        | [y] =>
          dsimp only
          show Except.map HV.num (match zcZ y 8 with
            | .error k => (.error (2, k) : Except Fault Nat)
            | .ok n => .ok n) = znG 2 ((zcZ y 8).map HV.num)
          cases zcZ y 8 <;> rfl
        | y :: z :: l => rfl
  | 3, _ =>
    rw [if_neg (by decide), if_neg (by decide), if_neg (by decide), if_pos rfl, zu0]
    cases L[3]? with
    | none => rfl
    | some x =>
      dsimp only
      show _ = znG 3 (match zL (ascii "left") x with
        | some [x] => zcT 3 x
        | _ => .error 1)
      cases zL (ascii "left") x with
      | none => rfl
      | some r =>
        match r with
        | [] => rfl
        | [y] =>
          dsimp only
          show _ = znG 3 (match zix y with
            | some e => .ok (HV.num e)
            | none => .error 1)
          cases zix y <;> rfl
        | y :: z :: l => rfl
  | 4, _ =>
    rw [if_neg (by decide), if_neg (by decide), if_neg (by decide), if_neg (by decide), if_pos rfl, zu0]
    cases L[4]? with
    | none => rfl
    | some x =>
      dsimp only
      show _ = znG 4 (match zL (ascii "right") x with
        | some [x] => zcT 4 x
        | _ => .error 1)
      cases zL (ascii "right") x with
      | none => rfl
      | some r =>
        match r with
        | [] => rfl
        | [y] =>
          dsimp only
          show _ = znG 4 (match zix y with
            | some e => .ok (HV.num e)
            | none => .error 1)
          cases zix y <;> rfl
        | y :: z :: l => rfl
  | 5, _ =>
    rw [if_neg (by decide), if_neg (by decide), if_neg (by decide), if_neg (by decide), if_neg (by decide), zu0]
    cases L[5]? with
    | none => rfl
    | some x =>
      dsimp only
      show _ = znG 5 (match zL (ascii "reveal") x with
        | some [x] => zcT 5 x
        | _ => .error 1)
      cases zL (ascii "reveal") x with
      | none => rfl
      | some r =>
        match r with
        | [] => rfl
        | [y] =>
          dsimp only
          show _ = znG 5 (match zix y with
            | some e => .ok (HV.num e)
            | none => .error 1)
          cases zix y <;> rfl
        | y :: z :: l => rfl
  | n + 6, h => omega
theorem znX : ∀ {r : List Bytes} {ns : List Nat}, r.mapM readNumber = some ns → ns.length = r.length
  | [], ns, h => by
    simp at h
    rw [h]
    rfl
  | x :: r, ns, h => by
    rw [List.mapM_cons] at h
    cases e : readNumber x with
    | none => rw [e] at h; cases h
    | some n =>
      cases e2 : r.mapM readNumber with
      | none => rw [e, e2] at h; cases h
      | some l =>
        rw [e, e2] at h
        have h' : n :: l = ns := Option.some.inj h
        rw [← h']
        simp [znX e2]
theorem zAV (L : List Bytes) (long high f i : Nat) (l : List Opening) : opensAt L long high (f + 1) i l = match L[i]? with
    | none => .ok l
    | some x => match zdG x long high l with
      | .error k => .error (i, k)
      | .ok o => opensAt L long high f (i + 1) (l ++ [o]) := by
  rw [opensAt]
  cases L[i]? with
  | none => rfl
  | some x =>
    dsimp only
    unfold zdG
    rw [zrD]
    cases zL (ascii "open") x with
    | none => rfl
    | some r =>
      rw [Option.bind_some, Option.bind_some]
      by_cases hr : r.length = 4
      · rw [if_pos hr]
        cases hm : r.mapM readNumber with
        | none => rfl
        | some ns =>
          have hl := (znX hm).trans hr
          match ns, hl with
          | [a, b, c, d], _ =>
            dsimp only
            by_cases q1 : Opening.within ⟨a, b, c, d⟩ long high = false
            · rw [if_pos q1, if_pos q1]
            · rw [if_neg q1, if_neg q1]
              by_cases q2 : (l.getLast?.any fun (p : Opening) => !p.before ⟨a, b, c, d⟩) = true
              · rw [if_pos q2, if_pos q2]
              · rw [if_neg q2, if_neg q2]
                by_cases q3 : (l.any fun (p : Opening) => p.meets ⟨a, b, c, d⟩) = true
                · rw [if_pos q3, if_pos q3]
                · rw [if_neg q3, if_neg q3]
                  by_cases q4 : OPENS ≤ l.length
                  · rw [if_pos q4, if_pos (show 8 ≤ l.length from q4)]
                  · rw [if_neg q4, if_neg (show ¬ 8 ≤ l.length from q4)]
      · rw [if_neg hr]
        cases hm : r.mapM readNumber with
        | none => rfl
        | some ns =>
          have hl := znX hm
          match ns, hl with
          | [], _ => rfl
          | [_], _ => rfl
          | [_, _], _ => rfl
          | [_, _, _], _ => rfl
          | [_, _, _, _], hl => exact absurd hl.symm hr
          | _ :: _ :: _ :: _ :: _ :: _, _ => rfl
def fin (z : List Bytes × Bytes) : Except Fault (List HV × List Opening) → Except Fault Wall
  | .error e => .error e
  | .ok x => if x.1.length < 6 ∨ z.2 ≠ [] then .error (z.1.length, 1) else .ok (ziU x.1 x.2)
end Wm
end
section
set_option linter.all false
namespace Wm
open Bd
def sOf (f i : Nat) : Option Nat := if f < i then some f else none
def zD4 (w : Wall) (y : Nat) (l : List (Nat × Nat)) : List Part := (l.filter fun (s : Nat × Nat) => !(decide (0 < y) && (w.stretches (y - 1)).contains s)).map fun (s : Nat × Nat) => ⟨s.1, y, s.2, w.runOf s y⟩
theorem zzY (n : Nat) : List.range (n + 1) = List.range n ++ [n] := List.range_succ
def zFK (w : Wall) (n : Nat) : List Part := (List.range n).flatMap fun y => zD4 w y (w.stretches y)
def zGY (w : Wall) : List (List (Nat × Nat)) := (List.range w.high).map w.stretches
def pI (s : Nat × Nat) : List Int := [((s.1 : Nat) : Int), ((s.2 : Nat) : Int)]
def qI (p : Part) : List Int := [((p.x : Nat) : Int), ((p.y : Nat) : Int), ((p.long : Nat) : Int), ((p.high : Nat) : Int)]
theorem zAO (w : Wall) (x y : Nat) : w.isOpen x y = (w.opens.map fun o => o.has x y).any id := by
  unfold Wall.isOpen
  rw [List.any_map]
  rfl
end Wm
end
section
set_option linter.all false
namespace Wm
open Bd
abbrev WS := List HV × List Opening × List Bytes
def za1 (s : WS) (line : Bytes) : Except Nat WS := match zcP s.1 s.2.1 line with
  | .error k => .error k
  | .ok z => .ok (z.1, z.2, s.2.2 ++ [line])
def zHt (s : WS) (rest : Bytes) : Option Nat := if s.1.length < 6 ∨ rest ≠ [] then some 1 else none
def zrX {S : Type} (step : S → Bytes → Except Nat S) : List Bytes → Nat → S → Except Fault S
  | [], _, s => .ok s
  | l :: r, i, s => match step s l with
    | .error k => .error (i, k)
    | .ok s' => zrX step r (i + 1) s'
def zgD {S : Type} (step : S → Bytes → Except Nat S) (fin : S → Bytes → Option Nat) (s0 : S) (z : List Bytes × Bytes) : Except Fault S := match zrX step z.1 0 s0 with
  | .error e => .error e
  | .ok s => match fin s z.2 with
    | some k => .error (z.1.length, k)
    | none => .ok s
def zAh (wd line : Bytes) : Option Bytes := match zL wd line with
  | some [x] => some x
  | _ => none
def zsq (x : Bytes) (least most : Nat) : Except Nat Nat := match readNumber x with
  | none => .error 1
  | some n => if n < least ∨ most < n then .error 2 else .ok n
end Wm
end
section
set_option linter.all false
set_option maxHeartbeats 1000000
namespace Wm
open Bd
abbrev SS := List WS × List Corner
def Zp (r : WS) : Wall := ziU r.1 r.2.1
def zhC (walls : List Wall) (l : List Corner) (line : Bytes) : Except Nat Corner := match cornerIn walls line with
  | none => .error 8
  | some k =>
    if (l.getLast?.any fun (m : Corner) => !m.before k) = true then .error 9
    else if (l.any fun (m : Corner) => m.uses k.a k.ea || m.uses k.c k.ec) = true then .error 10
    else if cornersFit walls l k = false then .error 11
    else .ok k
def zb3 (s : SS) (line : Bytes) : Except Nat SS := match za1 ([], [], []) line with
  | .error k => .error k
  | .ok r => if (s.1.any fun q => nameAt q.1 == nameAt r.1) = true then .error 6 else if 4 ≤ s.1.length then .error 7 else .ok (s.1 ++ [r], s.2)
def zaq (s : SS) : Bool := match s.1.getLast? with
  | none => true
  | some r => decide (r.1.length < 6)
def zfn (s : SS) (line : Bytes) : Except Nat SS := match s.1.getLast? with
  | none => .error 1
  | some r => match za1 r line with
    | .error k => .error k
    | .ok r' => .ok (s.1.dropLast ++ [r'], s.2)
def zaZ (s : SS) (line : Bytes) : Except Nat SS :=
  if s.1 = [] then zb3 s line else if zaq s = true then zfn s line
  else if s.2 ≠ [] ∨ begins "corner" line = true then (match zhC (s.1.map Zp) s.2 line with
    | .error k => .error k
    | .ok k => .ok (s.1, s.2 ++ [k]))
  else if begins "wall" line = true then zb3 s line else zfn s line
def zje (s : SS) (rest : Bytes) : Option Nat :=
  if zaq s = true then some 1 else if rest ≠ [] ∧ (s.2 ≠ [] ∨ begins "corner" rest = true) then some 8 else if rest ≠ [] then some 1 else none
def zcq (z : List Bytes × Bytes) : List Bytes := z.1 ++ (if z.2 = [] then [] else [z.2 ++ [0]])
theorem zi8 {z : List Bytes × Bytes} {i : Nat} (h : i < z.1.length) : (zcq z)[i]? = some z.1[i] := by
  unfold zcq
  rw [List.getElem?_append_left h]
  exact List.getElem?_eq_getElem h
theorem zdz (z : List Bytes × Bytes) : (zcq z)[z.1.length]? = if z.2 = [] then none else some (z.2 ++ [0]) := by
  unfold zcq
  rw [List.getElem?_append_right (Nat.le_refl _), Nat.sub_self]
  by_cases h : z.2 = []
  · rw [if_pos h, if_pos h]
    rfl
  · rw [if_neg h, if_neg h]
    rfl
theorem zy8 (z : List Bytes × Bytes) : z.1.length ≤ (zcq z).length := by
  unfold zcq
  rw [List.length_append]
  omega
def zEy (z : List Bytes × Bytes) : Except Fault SS → Except Fault Site
  | .error e => .error e
  | .ok s => match zje s z.2 with
    | some k => .error (z.1.length, k)
    | none => .ok ⟨s.1.map Zp, s.2⟩
def PR (z : List Bytes × Bytes) (i : Nat) (s : SS) : Except Fault Site := zEy z (zrX zaZ (z.1.drop i) i s)
theorem zy6 {z : List Bytes × Bytes} {i : Nat} {s : SS} (h : i < z.1.length) : PR z i s = match zaZ s z.1[i] with
    | .error k => .error (i, k)
    | .ok s' => PR z (i + 1) s' := by
  unfold PR
  rw [List.drop_eq_getElem_cons h, zrX]
  cases zaZ s z.1[i] with
  | error k => rfl
  | ok s' => rfl
theorem zCF (z : List Bytes × Bytes) (s : SS) : PR z z.1.length s = match zje s z.2 with
    | some k => .error (z.1.length, k)
    | none => .ok ⟨s.1.map Zp, s.2⟩ := by
  unfold PR
  rw [List.drop_length]
  rfl
theorem zpB : ∀ x : Bytes, ∃ i l, yK 32 x = i ++ [l] ∧ yK 32 (x ++ [0]) = i ++ [l ++ [0]]
  | [] => ⟨[], [], rfl, rfl⟩
  | c :: r => by
    obtain ⟨i, l, e1, e2⟩ := zpB r
    by_cases h : c = 32
    · refine ⟨[] :: i, l, ?_, ?_⟩
      · rw [yK, if_pos h, e1]
        rfl
      · rw [List.cons_append, yK, if_pos h, e2]
        rfl
    · cases i with
      | nil =>
        refine ⟨[], c :: l, ?_, ?_⟩
        · rw [yK, if_neg h, e1]
          rfl
        · rw [List.cons_append, yK, if_neg h, e2]
          rfl
      | cons y i =>
        refine ⟨(c :: y) :: i, l, ?_, ?_⟩
        · rw [yK, if_neg h, e1]
          rfl
        · rw [List.cons_append, yK, if_neg h, e2]
          rfl
theorem zne {w : Bytes} {x : Bytes} (h : (0 : UInt8) ∉ w) : ¬ x ++ [0] = w := fun e => h (by rw [← e]; simp)
theorem zgw (w : String) (x : Bytes) (h : (0 : UInt8) ∉ ascii w) : begins w (x ++ [0]) = begins w x := by
  have key : ∀ y : Bytes, begins w y = true ↔ ∃ r, y = ascii w ++ 32 :: r := fun y => by
    unfold begins
    rw [Option.isSome_iff_exists]
    exact ⟨fun ⟨r, e⟩ => ⟨r, behind_iff.mp e⟩, fun ⟨r, e⟩ => ⟨r, behind_iff.mpr e⟩⟩
  rw [Bool.eq_iff_iff, key, key]
  constructor
  · rintro ⟨r, e⟩
    rcases List.eq_nil_or_concat r with rfl | ⟨r', c, rfl⟩
    · have q : (x ++ [0]).getLast? = (ascii w ++ [32]).getLast? := by rw [e]
      rw [List.getLast?_concat, List.getLast?_concat] at q
      exact absurd (Option.some.inj q) (by decide)
    · rw [List.concat_eq_append] at e
      have e' : x ++ [0] = (ascii w ++ 32 :: r') ++ [c] := by rw [e]; simp
      exact ⟨r', (List.append_inj' e' rfl).1⟩
  · rintro ⟨r, e⟩
    exact ⟨r ++ [0], by rw [e]; simp⟩
theorem zvx (walls : List Wall) (x : Bytes) : cornerIn walls (x ++ [0]) = none := by
  unfold cornerIn
  rw [ziu]
  obtain ⟨i, l, e1, e2⟩ := zpB x
  rw [e2]
  match i with
  | [] => rfl
  | [_] => rfl
  | [_, _] => rfl
  | [_, _, _] => rfl
  | _ :: _ :: _ :: _ :: _ :: r => cases r <;> rfl
  | [w, n, e, m] =>
    have s : sideIn (l ++ [0]) = none := by
      unfold sideIn
      rw [if_neg (zne (by decide)), if_neg (zne (by decide))]
    show (if w = ascii "corner" then (match walls.findIdx? (fun (v : Wall) => v.name == n), sideIn e, walls.findIdx? (fun (v : Wall) => v.name == m), sideIn (l ++ [0]) with
      | some a, some ea, some c, some ec => if a < c then some (⟨a, ea, c, ec⟩ : Corner) else none
      | _, _, _, _ => none) else none) = none
    rw [s]
    by_cases hw : w = ascii "corner"
    · rw [if_pos hw]
      cases walls.findIdx? (fun (v : Wall) => v.name == n) <;> cases sideIn e <;> cases walls.findIdx? (fun (v : Wall) => v.name == m) <;> rfl
    · rw [if_neg hw]
theorem zsK (w x : Bytes) : zL w (x ++ [0]) = none ∨ zL w (x ++ [0]) = some [] ∨ ∃ i l, zL w (x ++ [0]) = some (i ++ [l ++ [0]]) := by
  unfold zL
  obtain ⟨i, l, e1, e2⟩ := zpB x
  rw [e2]
  cases i with
  | nil =>
    show (if (l ++ [0]) = w then some [] else none) = none ∨ _
    by_cases h : l ++ [0] = w
    · exact .inr (.inl (by show (if (l ++ [0]) = w then some [] else none) = _; rw [if_pos h]))
    · exact .inl (if_neg h)
  | cons y i =>
    by_cases h : y = w
    · exact .inr (.inr ⟨i, l, by show (if y = w then some (i ++ [l ++ [0]]) else none) = _; rw [if_pos h]⟩)
    · exact .inl (by show (if y = w then some (i ++ [l ++ [0]]) else none) = _; rw [if_neg h])
theorem zmn (x : Bytes) : readNumber (x ++ [0]) = none := by
  unfold readNumber
  rw [if_neg]
  rintro ⟨_, _, h, _⟩
  rw [List.all_append, Bool.and_eq_true] at h
  exact absurd h.2 (by decide)
theorem zuJ (n : Nat) (hn : n < 6) (x : Bytes) : zaG n (x ++ [0]) = .error 1 := by
  unfold zaG
  rcases zsK (ascii (zpf n)) x with e | e | ⟨i, l, e⟩
  · rw [e]
  · rw [e]
  · rw [e]
    match i with
    | [] =>
      show zcT n (l ++ [0]) = _
      unfold zcT
      have h1 : zkG (l ++ [0]) = .error 1 := by
        unfold zkG
        rw [if_pos]
        refine .inr ?_
        rw [List.all_append, Bool.and_eq_false_iff]
        exact .inr (by decide)
      have h2 : ∀ m, zcZ (l ++ [0]) m = .error 1 := fun m => by
        unfold zcZ
        rw [zmn]
      have h3 : zix (l ++ [0]) = none := by
        unfold zix
        rw [if_neg (zne (by decide)), if_neg (zne (by decide)), if_neg (zne (by decide))]
      rw [h1, h2, h2, h3]
      match n, hn with
      | 0, _ => rfl
      | 1, _ => rfl
      | 2, _ => rfl
      | n + 3, _ => rfl
    | [_] => rfl
    | _ :: _ :: _ => rfl
theorem zAD (x : Bytes) (long high : Nat) (os : List Opening) : zdG (x ++ [0]) long high os = .error 1 := by
  unfold zdG
  rcases zsK (ascii "open") x with e | e | ⟨i, l, e⟩
  · rw [e]
    rfl
  · rw [e]
    rfl
  · rw [e]
    have m : ∀ i : List Bytes, (i ++ [l ++ [0]]).mapM readNumber = none := fun i => by
      induction i with
      | nil =>
        show [l ++ [0]].mapM readNumber = none
        rw [List.mapM_cons, zmn]
        rfl
      | cons y i ih =>
        rw [List.cons_append, List.mapM_cons, ih]
        cases readNumber y <;> rfl
    rw [Option.bind_some, m]
end Wm
end
section
set_option linter.all false
set_option maxHeartbeats 1000000
namespace Wm
open Bd
def zfW {α : Type} (j : Nat) : Except Fault α → Except Fault α
  | .error e => .error (j + e.1, e.2)
  | .ok x => .ok x
theorem zzN (L : List Bytes) (j n : Nat) (w : String) (ok : UInt8 → Bool) : lineAt L (j + n) w ok = zfW j (lineAt (L.drop j) n w ok) := by
  unfold lineAt
  rw [List.getElem?_drop]
  cases (L[j + n]?).bind (formed w ok) <;> rfl
theorem zs5 (L : List Bytes) (j n : Nat) (w : String) (m : Nat) : sizeAt L (j + n) w m = zfW j (sizeAt (L.drop j) n w m) := by
  unfold sizeAt
  rw [List.getElem?_drop]
  match (L[j + n]?).bind (numbersIn w 1) with
  | none => rfl
  | some [] => rfl
  | some [k] =>
    dsimp only
    by_cases h : k < 1 ∨ m < k
    · rw [if_pos h, if_pos h]
      rfl
    · rw [if_neg h, if_neg h]
      rfl
  | some (_ :: _ :: _) => rfl
theorem zqa (L : List Bytes) (j n : Nat) (w : String) : endAt L (j + n) w = zfW j (endAt (L.drop j) n w) := by
  unfold endAt
  rw [List.getElem?_drop]
  cases (L[j + n]?).bind (endIn w) <;> rfl
def zm6 (L : List Bytes) (g j : Nat) (l : List Wall) : Except Fault Site := match wallsAt L g j l with
  | .error e => .error e
  | .ok x => match cornersAt L x.1 (L.length + 1) x.2 [] with
    | .error e => .error e
    | .ok c => .ok ⟨x.1, c⟩
def zA8 (L : List Bytes) (g f i : Nat) (pre : List Wall) (h : List HV) (os : List Opening) : Except Fault Site := match opensTo L (numAt h 1) (numAt h 2) f i os with
  | .error e => .error e
  | .ok z => zm6 L g z.2 (pre ++ [ziU h z.1])
def zhV (L : List Bytes) (g i : Nat) (pre : List Wall) : Nat → List HV → Except Fault Site
  | 0, h => zA8 L g (L.length + 1) (i + 6) pre h []
  | m + 1, h => match zfW i (zcY (L.drop i) h.length) with
    | .error e => .error e
    | .ok v => zhV L g i pre m (h ++ [v])
def zw0 (L : List Bytes) (g i : Nat) (pre : List Wall) : Except Fault Site := match wallAt L i pre with
  | .error e => .error e
  | .ok z => zm6 L g z.2 (pre ++ [z.1])
theorem zCK (L : List Bytes) (g i : Nat) (pre : List Wall) : zw0 L g i pre = match zfW i (zcY (L.drop i) 0) with
    | .error e => .error e
    | .ok v => if (pre.any fun w => w.name == nameAt [v]) = true then .error (i, 6) else if 4 ≤ pre.length then .error (i, 7) else zhV L g i pre 5 [v] := by
  have s0 : zcY (L.drop i) 0 = (match lineAt (L.drop i) 0 "wall" isSmall with
    | .error e => .error e
    | .ok name => if NAME < name.length then .error (0, 2) else .ok (.nm name)) := rfl
  have s1 : zcY (L.drop i) 1 = (sizeAt (L.drop i) 1 "long" LENGTH).map .num := rfl
  have s2 : zcY (L.drop i) 2 = (sizeAt (L.drop i) 2 "high" HIGH).map .num := rfl
  have s3 : zcY (L.drop i) 3 = (endAt (L.drop i) 3 "left").map .num := rfl
  have s4 : zcY (L.drop i) 4 = (endAt (L.drop i) 4 "right").map .num := rfl
  have s5 : zcY (L.drop i) 5 = (endAt (L.drop i) 5 "reveal").map .num := rfl
  unfold zw0 wallAt
  rw [show lineAt L i "wall" isSmall = zfW i (lineAt (L.drop i) 0 "wall" isSmall) from zzN L i 0 "wall" isSmall, zs5 L i 1, zs5 L i 2, zqa L i 3, zqa L i 4, zqa L i 5]
  rw [s0]
  cases lineAt (L.drop i) 0 "wall" isSmall with
  | error e => rfl
  | ok name =>
    dsimp only [zfW]
    by_cases hn : NAME < name.length
    · rw [if_pos hn, if_pos hn]
      rfl
    · rw [if_neg hn, if_neg hn]
      dsimp only
      have en : nameAt [HV.nm name] = name := rfl
      rw [en]
      by_cases h6 : (pre.any fun (w : Wall) => w.name == name) = true
      · rw [if_pos h6, if_pos h6]
      · rw [if_neg h6, if_neg h6]
        by_cases h7 : 4 ≤ pre.length
        · rw [if_pos h7, if_pos (show WALLS ≤ pre.length from h7)]
        · rw [if_neg h7, if_neg (show ¬ WALLS ≤ pre.length from h7)]
          simp only [zhV, List.length_nil, List.nil_append, List.length_append, List.length_cons, List.cons_append, Nat.zero_add, Nat.reduceAdd, s1, s2, s3, s4, s5]
          cases sizeAt (L.drop i) 1 "long" LENGTH with
          | error e => rfl
          | ok long =>
            dsimp only [Except.map, zfW]
            cases sizeAt (L.drop i) 2 "high" HIGH with
            | error e => rfl
            | ok high =>
              dsimp only
              cases endAt (L.drop i) 3 "left" with
              | error e => rfl
              | ok left =>
                dsimp only
                cases endAt (L.drop i) 4 "right" with
                | error e => rfl
                | ok right =>
                  dsimp only
                  cases endAt (L.drop i) 5 "reveal" with
                  | error e => rfl
                  | ok reveal =>
                    dsimp only
                    unfold zA8
                    show _ = (match opensTo L long high (L.length + 1) (i + 6) [] with
                      | .error e => (.error e : Except Fault Site)
                      | .ok z => zm6 L g z.2 (pre ++ [ziU [HV.nm name, HV.num long, HV.num high, HV.num left, HV.num right, HV.num reveal] z.1]))
                    cases opensTo L long high (L.length + 1) (i + 6) [] with
                    | error e => rfl
                    | ok z => rfl
theorem zgy (pre : List WS) (r : WS) (cs : List Corner) : zaq (pre ++ [r], cs) = decide (r.1.length < 6) := by
  unfold zaq
  rw [List.getLast?_concat]
theorem zcf (pre : List WS) (r : WS) (cs : List Corner) (x : Bytes) : zfn (pre ++ [r], cs) x = match za1 r x with
    | .error k => .error k
    | .ok r' => .ok (pre ++ [r'], cs) := by
  unfold zfn
  rw [List.getLast?_concat]
  dsimp only
  cases za1 r x with
  | error k => rfl
  | ok r' =>
    dsimp only
    rw [List.dropLast_concat]
theorem ztS {z : List Bytes × Bytes} {s : SS} {k : Nat} (h : zje s z.2 = some k) : PR z z.1.length s = .error (z.1.length, k) := by
  rw [zCF, h]
theorem zu4 {s : SS} {rest : Bytes} (hh : zaq s = false) : zje s rest = if rest ≠ [] ∧ (s.2 ≠ [] ∨ begins "corner" rest = true) then some 8 else if rest ≠ [] then some 1 else none := by
  unfold zje
  rw [if_neg (by rw [hh]; decide)]
theorem zzu (z : List Bytes × Bytes) (pre : List WS) (r : WS) (h6 : ¬ r.1.length < 6) : ∀ (f i : Nat) (cs : List Corner), i ≤ z.1.length → (zcq z).length + 1 ≤ f + i →
    (cs ≠ [] ∨ ∀ x, (zcq z)[i]? = some x → begins "corner" x = true) →
    (match cornersAt (zcq z) ((pre ++ [r]).map Zp) f i cs with
    | .error e => .error e
    | .ok l => .ok ⟨(pre ++ [r]).map Zp, l⟩) = PR z i (pre ++ [r], cs) := by
  intro f
  induction f with
  | zero =>
    intro i cs hi hf _
    have := zy8 z
    omega
  | succ f ih =>
    intro i cs hi hf hc
    rw [cornersAt]
    have hh : zaq (pre ++ [r], cs) = false := by rw [zgy]; exact decide_eq_false h6
    by_cases hl : i < z.1.length
    · rw [zi8 hl, zy6 hl]
      have st : zaZ (pre ++ [r], cs) z.1[i] = match zhC ((pre ++ [r]).map Zp) cs z.1[i] with
          | .error k => .error k
          | .ok k => .ok (pre ++ [r], cs ++ [k]) := by
        unfold zaZ
        rw [if_neg (by simp), if_neg (by rw [hh]; decide), if_pos (hc.imp_right fun q => q _ (zi8 hl))] <;> rfl
      rw [st]
      unfold zhC
      dsimp only
      cases cornerIn ((pre ++ [r]).map Zp) z.1[i] with
      | none => rfl
      | some k =>
        dsimp only
        by_cases q1 : (cs.getLast?.any fun (m : Corner) => !m.before k) = true
        · rw [if_pos q1, if_pos q1]
        · rw [if_neg q1, if_neg q1]
          by_cases q2 : (cs.any fun (m : Corner) => m.uses k.a k.ea || m.uses k.c k.ec) = true
          · rw [if_pos q2, if_pos q2]
          · rw [if_neg q2, if_neg q2]
            by_cases q3 : cornersFit ((pre ++ [r]).map Zp) cs k = false
            · rw [if_pos q3, if_pos q3]
            · rw [if_neg q3, if_neg q3]
              exact ih (i + 1) (cs ++ [k]) hl (by omega) (.inl (by simp))
    · have e : i = z.1.length := by omega
      subst e
      rw [zdz, zCF, zu4 hh]
      by_cases h2 : z.2 = []
      · rw [if_pos h2, if_neg (fun q => q.1 h2), if_neg (fun q => q h2)]
      · rw [if_neg h2]
        dsimp only
        rw [zvx, if_pos]
        refine ⟨h2, hc.imp_right fun q => ?_⟩
        have := q (z.2 ++ [0]) (by rw [zdz, if_neg h2])
        rw [zgw _ _ (by decide)] at this
        exact this
theorem zti (x : Bytes) (long high : Nat) (os : List Opening) : opensAt [x] long high 1 0 os = match zdG x long high os with
    | .error k => .error (0, k)
    | .ok o => .ok (os ++ [o]) := by
  rw [zAV]
  show (match zdG x long high os with
    | .error k => (.error (0, k) : Except Fault (List Opening))
    | .ok o => opensAt [x] long high 0 (0 + 1) (os ++ [o])) = _
  cases zdG x long high os with
  | error k => rfl
  | ok o => rfl
def zxF (z : List Bytes × Bytes) (i : Nat) : Prop := ∀ (pre : List WS) (h : List HV) (os : List Opening) (ls : List Bytes) (g f : Nat), h.length = 6 → (zcq z).length + 1 ≤ f + i → (zcq z).length + 1 ≤ g + i →
  zA8 (zcq z) g f i (pre.map Zp) h os = PR z i (pre ++ [(h, os, ls)], [])
theorem zCT (z : List Bytes × Bytes) (i0 : Nat) (O : i0 + 6 ≤ z.1.length → zxF z (i0 + 6)) (pre : List WS) (g : Nat) (hg : (zcq z).length ≤ g + i0) : ∀ (m : Nat) (h : List HV) (ls : List Bytes), h.length + m = 6 → i0 + h.length ≤ z.1.length →
    zhV (zcq z) g i0 (pre.map Zp) m h = PR z (i0 + h.length) (pre ++ [(h, [], ls)], []) := by
  intro m
  induction m with
  | zero =>
    intro h ls h6 hl
    have h6' : h.length = 6 := h6
    rw [h6'] at hl ⊢
    exact O hl pre h [] ls g _ h6' (by omega) (by omega)
  | succ m ih =>
    intro h ls h6 hl
    rw [zhV, zta _ _ (by omega), List.getElem?_drop]
    have hh : zaq (pre ++ [(h, ([] : List Opening), ls)], []) = true := by rw [zgy]; exact decide_eq_true (show h.length < 6 by omega)
    by_cases hlt : i0 + h.length < z.1.length
    · rw [zi8 hlt, zy6 hlt]
      have st : zaZ (pre ++ [(h, ([] : List Opening), ls)], []) z.1[i0 + h.length] = match zaG h.length z.1[i0 + h.length] with
          | .error k => .error k
          | .ok v => .ok (pre ++ [(h ++ [v], [], ls ++ [z.1[i0 + h.length]])], []) := by
        unfold zaZ
        rw [if_neg (by simp), if_pos hh, zcf]
        unfold za1 zcP
        dsimp only
        rw [if_pos (show h.length < 6 by omega)]
        cases zaG h.length z.1[i0 + h.length] <;> rfl
      rw [st]
      show (match zfW i0 (znG h.length (zaG h.length z.1[i0 + h.length])) with
        | .error e => (.error e : Except Fault Site)
        | .ok v => zhV (zcq z) g i0 (pre.map Zp) m (h ++ [v])) = _
      cases zaG h.length z.1[i0 + h.length] with
      | error k => rfl
      | ok v =>
        dsimp only [znG, zfW]
        have q := ih (h ++ [v]) (ls ++ [z.1[i0 + h.length]]) (by simp; omega) (by simp; omega)
        rw [q]
        simp [Nat.add_assoc]
    · have e : i0 + h.length = z.1.length := by omega
      rw [e, zdz, ztS (k := 1) (by unfold zje; rw [if_pos hh])]
      by_cases h2 : z.2 = []
      · rw [if_pos h2]
        show Except.error (i0 + h.length, 1) = _
        rw [e]
      · rw [if_neg h2]
        dsimp only
        rw [zuJ _ (by omega)]
        show Except.error (i0 + h.length, 1) = _
        rw [e]
theorem zrU (z : List Bytes × Bytes) (i : Nat) (O : i + 6 ≤ z.1.length → zxF z (i + 6)) (pre : List WS) (g : Nat) (hg : (zcq z).length ≤ g + i) (hi : i ≤ z.1.length) :
    zw0 (zcq z) g i (pre.map Zp) = if h : i < z.1.length then (match zb3 (pre, []) z.1[i] with
      | .error k => .error (i, k)
      | .ok s => PR z (i + 1) s) else .error (i, 1) := by
  rw [zCK, zta _ _ (by omega), List.getElem?_drop, Nat.add_zero]
  by_cases hlt : i < z.1.length
  · rw [dif_pos hlt, zi8 hlt]
    have st : zb3 (pre, []) z.1[i] = match zaG 0 z.1[i] with
        | .error k => .error k
        | .ok v => if (pre.any fun q => nameAt q.1 == nameAt [v]) = true then .error 6 else if 4 ≤ pre.length then .error 7 else .ok (pre ++ [([v], [], [z.1[i]])], []) := by
      unfold zb3 za1 zcP
      dsimp only
      rw [if_pos (show ([] : List HV).length < 6 by decide)]
      show (match (match (match zaG 0 z.1[i] with
        | Except.error k => (Except.error k : Except Nat (List HV × List Opening))
        | Except.ok v => Except.ok (([] : List HV) ++ [v], ([] : List Opening))) with
        | Except.error k => (Except.error k : Except Nat WS)
        | Except.ok y => Except.ok (y.1, y.2, ([] : List Bytes) ++ [z.1[i]])) with
        | Except.error k => (Except.error k : Except Nat SS)
        | Except.ok r => if (pre.any fun q => nameAt q.1 == nameAt r.1) = true then Except.error 6 else if 4 ≤ pre.length then Except.error 7 else Except.ok (pre ++ [r], [])) = _
      cases zaG 0 z.1[i] <;> rfl
    rw [st]
    show (match zfW i (znG 0 (zaG 0 z.1[i])) with
      | .error e => (.error e : Except Fault Site)
      | .ok v => if ((pre.map Zp).any fun w => w.name == nameAt [v]) = true then .error (i, 6) else if 4 ≤ (pre.map Zp).length then .error (i, 7) else zhV (zcq z) g i (pre.map Zp) 5 [v]) = _
    cases hb : zaG 0 z.1[i] with
    | error k =>
      dsimp only [znG, zfW]
      rw [Nat.add_zero]
    | ok v =>
      dsimp only [znG, zfW]
      have ea : ((pre.map Zp).any fun w => w.name == nameAt [v]) = pre.any fun q => nameAt q.1 == nameAt [v] := by
        rw [List.any_map]
        rfl
      rw [ea, List.length_map]
      by_cases q6 : (pre.any fun q => nameAt q.1 == nameAt [v]) = true
      · rw [if_pos q6, if_pos q6]
      · rw [if_neg q6, if_neg q6]
        by_cases q7 : 4 ≤ pre.length
        · rw [if_pos q7, if_pos q7]
        · rw [if_neg q7, if_neg q7]
          exact zCT z i O pre g hg 5 [v] [z.1[i]] rfl hlt
  · rw [dif_neg hlt]
    have e : i = z.1.length := by omega
    rw [e, zdz]
    by_cases h2 : z.2 = []
    · rw [if_pos h2]
      rfl
    · rw [if_neg h2]
      dsimp only
      rw [zuJ _ (by omega)]
      rfl
theorem zpr {x : Bytes} (h : begins "wall" x = true) : begins "corner" x = false := by
  cases q : begins "corner" x with
  | false => rfl
  | true =>
    exfalso
    unfold begins at h q
    rw [Option.isSome_iff_exists] at h q
    obtain ⟨r, e1⟩ := h
    obtain ⟨s, e2⟩ := q
    have e3 := behind_iff.mp e1
    rw [behind_iff.mp e2] at e3
    rw [show ascii "corner" = 99 :: ascii "orner" by decide, show ascii "wall" = 119 :: ascii "all" by decide] at e3
    have h3 : (99 : UInt8) :: (ascii "orner" ++ 32 :: s) = 119 :: (ascii "all" ++ 32 :: r) := e3
    exact absurd (List.cons.inj h3).1 (by decide)
theorem zDr (z : List Bytes × Bytes) : ∀ (d i : Nat), i ≤ z.1.length → z.1.length - i ≤ d → zxF z i := by
  intro d
  induction d using Nat.strongRecOn with
  | ind d ihd =>
    intro i hi hd pre h os ls g f h6 hf hg
    have ln := zy8 z
    obtain ⟨f, rfl⟩ : ∃ f', f = f' + 1 := ⟨f - 1, by omega⟩
    obtain ⟨g, rfl⟩ : ∃ g', g = g' + 1 := ⟨g - 1, by omega⟩
    have ne : (pre.map Zp) ++ [ziU h os] ≠ [] := by simp
    have em : (pre.map Zp) ++ [ziU h os] = (pre ++ [(h, os, ls)]).map Zp := by rw [List.map_append]; rfl
    have hh : zaq (pre ++ [(h, os, ls)], []) = false := by rw [zgy]; exact decide_eq_false (show ¬ h.length < 6 by omega)
    have cor : (∀ x, (zcq z)[i]? = some x → begins "corner" x = true) → zm6 (zcq z) (g + 1) i ((pre.map Zp) ++ [ziU h os]) = PR z i (pre ++ [(h, os, ls)], []) := fun hc => by
      have e : wallsAt (zcq z) (g + 1) i ((pre.map Zp) ++ [ziU h os]) = .ok ((pre.map Zp) ++ [ziU h os], i) := by
        rw [wallsAt]
        cases q : (zcq z)[i]? with
        | none => exact if_neg ne
        | some x => exact if_pos ⟨hc x q, ne⟩
      unfold zm6
      rw [e]
      dsimp only
      rw [em]
      exact zzu z pre (h, os, ls) (show ¬ h.length < 6 by omega) _ i [] hi (by omega) (.inr hc)
    have wal : (∃ x, (zcq z)[i]? = some x ∧ begins "wall" x = true) → zm6 (zcq z) (g + 1) i ((pre.map Zp) ++ [ziU h os]) = zw0 (zcq z) g i ((pre ++ [(h, os, ls)]).map Zp) := fun ⟨x, hx, hw⟩ => by
      unfold zm6 zw0
      rw [wallsAt, hx]
      dsimp only
      rw [if_neg (fun q => by rw [zpr hw] at q; exact absurd q.1 (by decide)), em]
      cases wallAt (zcq z) i ((pre ++ [(h, os, ls)]).map Zp) with
      | error e => rfl
      | ok y => rfl
    unfold zA8
    rw [opensTo]
    by_cases hl : i < z.1.length
    · rw [zi8 hl]
      dsimp only
      by_cases b1 : begins "wall" z.1[i] = true
      · rw [b1, Bool.true_or, if_pos rfl]
        dsimp only
        rw [wal ⟨_, zi8 hl, b1⟩, zrU z i (fun q => ihd (z.1.length - (i + 6)) (by omega) (i + 6) q (Nat.le_refl _)) _ g (by omega) hi, dif_pos hl, zy6 hl]
        have st : zaZ (pre ++ [(h, os, ls)], []) z.1[i] = zb3 (pre ++ [(h, os, ls)], []) z.1[i] := by
          unfold zaZ
          rw [if_neg (by simp), if_neg (by rw [hh]; decide), if_neg (fun q => q.elim (fun q => q rfl) fun q => by rw [zpr b1] at q; cases q), if_pos b1]
        rw [st] <;> (cases zb3 (pre ++ [(h, os, ls)], []) z.1[i] <;> rfl)
      · have b1' : begins "wall" z.1[i] = false := Bool.eq_false_iff.mpr b1
        rw [b1', Bool.false_or]
        by_cases b2 : begins "corner" z.1[i] = true
        · rw [if_pos b2]
          exact cor fun x hx => by
            rw [zi8 hl] at hx
            rw [← Option.some.inj hx]
            exact b2
        · rw [if_neg b2, zti, zy6 hl]
          have st : zaZ (pre ++ [(h, os, ls)], []) z.1[i] = match zdG z.1[i] (numAt h 1) (numAt h 2) os with
              | .error k => .error k
              | .ok p => .ok (pre ++ [(h, os ++ [p], ls ++ [z.1[i]])], []) := by
            unfold zaZ
            rw [if_neg (by simp), if_neg (by rw [hh]; decide), if_neg (fun q => q.elim (fun q => q rfl) b2), if_neg b1, zcf]
            unfold za1 zcP
            dsimp only
            rw [if_neg (show ¬ h.length < 6 by omega)]
            cases zdG z.1[i] (numAt h 1) (numAt h 2) os <;> rfl
          rw [st]
          cases zdG z.1[i] (numAt h 1) (numAt h 2) os with
          | error k => rfl
          | ok p =>
            dsimp only
            exact ihd (z.1.length - (i + 1)) (by omega) (i + 1) hl (Nat.le_refl _) pre h (os ++ [p]) (ls ++ [z.1[i]]) (g + 1) f h6 (by omega) (by omega)
    · have e : i = z.1.length := by omega
      subst e
      by_cases h2 : z.2 = []
      · rw [zdz, if_pos h2]
        exact cor fun x hx => by
          rw [zdz, if_pos h2] at hx
          cases hx
      · rw [zdz, if_neg h2]
        dsimp only
        rw [zgw _ _ (by decide), zgw _ _ (by decide)]
        by_cases b1 : begins "wall" z.2 = true
        · rw [b1, Bool.true_or, if_pos rfl]
          dsimp only
          rw [wal ⟨z.2 ++ [0], by rw [zdz, if_neg h2], by rw [zgw _ _ (by decide)]; exact b1⟩, zrU z _ (fun q => by omega) _ g (by omega) (Nat.le_refl _), dif_neg (by omega), ztS (k := 1)]
          rw [zu4 hh, if_neg (fun q => q.2.elim (fun q => q rfl) fun q => by rw [zpr b1] at q; cases q), if_pos h2]
        · have b1' : begins "wall" z.2 = false := Bool.eq_false_iff.mpr b1
          rw [b1', Bool.false_or]
          by_cases b2 : begins "corner" z.2 = true
          · rw [if_pos b2]
            exact cor fun x hx => by
              rw [zdz, if_neg h2] at hx
              rw [← Option.some.inj hx, zgw _ _ (by decide)]
              exact b2
          · rw [if_neg b2, zti, zAD, ztS (k := 1)]
            rw [zu4 hh, if_neg (fun q => q.2.elim (fun q => q rfl) b2), if_pos h2]
theorem zDK (t : Bytes) : judgeSite t = match zgD zaZ zje ([], []) (fl 10 t) with
    | .error e => .error e
    | .ok s => .ok ⟨s.1.map Zp, s.2⟩ := by
  have e : judgeSite t = zm6 (zcq (linesOf t)) ((zcq (linesOf t)).length + 1) 0 [] := rfl
  rw [e, ← zDz]
  generalize fl 10 t = z
  have ep : PR z 0 ([], []) = match zgD zaZ zje ([], []) z with
      | .error e => .error e
      | .ok s => .ok ⟨s.1.map Zp, s.2⟩ := by
    unfold PR zgD
    rw [List.drop_zero]
    cases zrX zaZ z.1 0 ([], []) with
    | error e => rfl
    | ok s =>
      show (match zje s z.2 with
        | some k => (.error (z.1.length, k) : Except Fault Site)
        | none => .ok ⟨s.1.map Zp, s.2⟩) = _
      cases h : zje s z.2 with
      | none =>
        dsimp only
        rw [h]
      | some k =>
        dsimp only
        rw [h]
  rw [← ep]
  unfold zm6
  rw [wallsAt]
  have B := zrU z 0 (fun q => zDr z _ 6 (by omega) (Nat.le_refl _)) [] (zcq z).length (by omega) (Nat.zero_le _)
  unfold zw0 at B
  by_cases hl : 0 < z.1.length
  · rw [zi8 hl]
    dsimp only
    rw [if_neg (fun q => q.2 rfl)]
    rw [dif_pos hl] at B
    rw [zy6 hl]
    have st : zaZ ([], []) z.1[0] = zb3 ([], []) z.1[0] := by
      unfold zaZ
      rw [if_pos rfl]
    rw [st]
    refine Eq.trans ?_ (B.trans ?_)
    · show _ = (match wallAt (zcq z) 0 [] with
        | .error e => (.error e : Except Fault Site)
        | .ok y => zm6 (zcq z) (zcq z).length y.2 ([] ++ [y.1]))
      cases wallAt (zcq z) 0 [] with
      | error e => rfl
      | ok y => rfl
    · cases zb3 ([], []) z.1[0] with
      | error e => rfl
      | ok y => rfl
  · have e0 : z.1.length = 0 := by omega
    have ee := zdz z
    rw [e0] at ee
    have pf : PR z 0 ([], []) = .error (0, 1) := by
      have q := ztS (z := z) (s := ([], [])) (k := 1) rfl
      rw [e0] at q
      exact q
    rw [ee, pf]
    by_cases h2 : z.2 = []
    · rw [if_pos h2]
      rfl
    · rw [if_neg h2]
      dsimp only
      rw [if_neg (fun q => q.2 rfl)]
      rw [dif_neg hl] at B
      refine Eq.trans ?_ B
      show _ = (match wallAt (zcq z) 0 [] with
        | .error e => (.error e : Except Fault Site)
        | .ok y => zm6 (zcq z) (zcq z).length y.2 ([] ++ [y.1]))
      cases wallAt (zcq z) 0 [] with
      | error e => rfl
      | ok y => rfl
end Wm
end
section
set_option linter.all false
set_option maxHeartbeats 1000000
namespace Wm
open Bd
structure SGood (s : SS) : Prop where
  hd : zaq s = true → s.2 = []
  le : longEnough (s.1.map Zp) s.2 = true
  w4 : s.1.length ≤ 4
  c8 : ∀ k, s.2.getLast? = some k → s.2.length ≤ 2 * k.a + k.ea + 1 ∧ k.a < 4 ∧ k.ea ≤ 1
  full : ∀ r ∈ s.1.dropLast, r.1.length = 6
  most : ∀ r ∈ s.1, r.1.length ≤ 6
theorem SGood.start : SGood ([], []) := ⟨fun _ => rfl, rfl, by decide, fun k h => by simp at h, fun r h => by simp at h, fun r h => by simp at h⟩
theorem zAp {h h' : List HV} {o o' : List Opening} {x : Bytes} (e : zcP h o x = .ok (h', o')) : (h.length < 6 ∧ h'.length = h.length + 1) ∨ (¬ h.length < 6 ∧ h' = h) := by
  unfold zcP at e
  by_cases q : h.length < 6
  · rw [if_pos q] at e
    cases hb : zaG h.length x with
    | error k => rw [hb] at e; cases e
    | ok v =>
      rw [hb] at e
      obtain ⟨rfl, rfl⟩ := Prod.mk.inj (Except.ok.inj e)
      exact .inl ⟨q, by simp⟩
  · rw [if_neg q] at e
    cases hb : zdG x (numAt h 1) (numAt h 2) o with
    | error k => rw [hb] at e; cases e
    | ok v =>
      rw [hb] at e
      obtain ⟨rfl, rfl⟩ := Prod.mk.inj (Except.ok.inj e)
      exact .inr ⟨q, rfl⟩
theorem zp3 {r r' : WS} {x : Bytes} (e : za1 r x = .ok r') : (r.1.length < 6 ∧ r'.1.length = r.1.length + 1) ∨ (¬ r.1.length < 6 ∧ r'.1 = r.1) := by
  unfold za1 at e
  cases ht : zcP r.1 r.2.1 x with
  | error k => rw [ht] at e; cases e
  | ok z =>
    rw [ht] at e
    obtain rfl := Except.ok.inj e
    exact zAp (h' := z.1) (o' := z.2) ht
theorem zzD (ws : List Wall) : longEnough ws [] = true := by
  unfold longEnough
  rw [List.all_eq_true]
  intro i _
  rfl
theorem zAb {s s' : SS} {x : Bytes} (g : SGood s) (hc : s.2 = []) (hf : ∀ r ∈ s.1, r.1.length = 6) (e : zb3 s x = .ok s') : SGood s' ∧ ∃ r, s' = (s.1 ++ [r], s.2) ∧ za1 ([], [], []) x = .ok r ∧ (s.1.any fun q => nameAt q.1 == nameAt r.1) = false ∧ s.1.length < 4 := by
  unfold zb3 at e
  cases hs : za1 ([], [], []) x with
  | error k => rw [hs] at e; cases e
  | ok r =>
    rw [hs] at e
    dsimp only at e
    by_cases q6 : (s.1.any fun q => nameAt q.1 == nameAt r.1) = true
    · rw [if_pos q6] at e; cases e
    · rw [if_neg q6] at e
      by_cases q7 : 4 ≤ s.1.length
      · rw [if_pos q7] at e; cases e
      · rw [if_neg q7] at e
        obtain rfl := Except.ok.inj e
        refine ⟨⟨fun _ => hc, by dsimp only; rw [hc]; exact zzD _, by simp; omega, fun k h => by dsimp only at h; rw [hc] at h; simp at h, fun r' h => ?_, fun r' h => ?_⟩, r, rfl, rfl, Bool.eq_false_iff.mpr q6, by omega⟩
        · dsimp only at h
          rw [List.dropLast_concat] at h
          exact hf r' h
        · dsimp only at h
          rcases List.mem_append.mp h with m | m
          · rw [hf r' m]
            decide
          · rw [List.mem_singleton.mp m]
            rcases zp3 hs with ⟨q1, q2⟩ | ⟨q1, q2⟩
            · rw [q2]
              show 0 + 1 ≤ 6
              omega
            · exact absurd (show ([] : List HV).length < 6 by decide) q1
theorem zxt {s : SS} (h : s.1 ≠ []) : ∃ pre r, s.1 = pre ++ [r] := by
  rcases List.eq_nil_or_concat s.1 with e | ⟨pre, r, e⟩
  · exact absurd e h
  · exact ⟨pre, r, by rw [e, List.concat_eq_append]⟩
theorem zBy {s : SS} (g : SGood s) (h : zaq s = false) : ∀ r ∈ s.1, r.1.length = 6 := by
  by_cases h0 : s.1 = []
  · intro r hr
    rw [h0] at hr
    cases hr
  · obtain ⟨pre, r0, e⟩ := zxt h0
    intro r hr
    have gf := g.full
    have gm := g.most
    rw [e] at hr gf gm
    rw [List.dropLast_concat] at gf
    rcases List.mem_append.mp hr with m | m
    · exact gf r m
    · rw [List.mem_singleton.mp m]
      have q : zaq (pre ++ [r0], s.2) = false := by rw [← e]; exact h
      rw [zgy] at q
      have q' := of_decide_eq_false q
      have := gm r0 (by simp)
      omega
theorem zoE {s s' : SS} {x : Bytes} (g : SGood s) (h0 : s.1 ≠ []) (hc : s.2 = []) (e : zfn s x = .ok s') : SGood s' ∧ ∃ pre r r', s.1 = pre ++ [r] ∧ za1 r x = .ok r' ∧ s' = (pre ++ [r'], s.2) := by
  obtain ⟨pre, r, e0⟩ := zxt h0
  obtain ⟨ws, cs⟩ := s
  dsimp only at e0 hc
  subst e0 hc
  rw [zcf] at e
  cases hs : za1 r x with
  | error k => rw [hs] at e; cases e
  | ok r' =>
    rw [hs] at e
    obtain rfl := Except.ok.inj e
    have gf := g.full
    have gm := g.most
    have g4 := g.w4
    dsimp only at gf gm g4
    rw [List.dropLast_concat] at gf
    refine ⟨⟨fun _ => rfl, zzD _, by simpa using g4, fun k h => by simp at h, fun r' h => ?_, fun q h => ?_⟩, pre, r, r', rfl, hs, rfl⟩
    · dsimp only at h
      rw [List.dropLast_concat] at h
      exact gf r' h
    · dsimp only at h
      rcases List.mem_append.mp h with m | m
      · exact gm q (by simp [m])
      · rw [List.mem_singleton.mp m]
        have := gm r (by simp)
        rcases zp3 hs with ⟨q1, q2⟩ | ⟨q1, q2⟩
        · omega
        · rw [q2]
          exact this
theorem zAP {α : Type} {p : α → Bool} {l : List α} {i : Nat} (h : l.findIdx? p = some i) : i < l.length := by
  rw [List.findIdx?_eq_some_iff_getElem] at h
  exact h.1
theorem zoO {walls : List Wall} {x : Bytes} {k : Corner} (h : cornerIn walls x = some k) : k.a < k.c ∧ k.c < walls.length ∧ k.ea ≤ 1 ∧ k.ec ≤ 1 := by
  unfold cornerIn at h
  generalize wordsOf x = w at h
  match w, h with
  | [], h => cases h
  | [_], h => cases h
  | [_, _], h => cases h
  | [_, _, _], h => cases h
  | [_, _, _, _], h => cases h
  | _ :: _ :: _ :: _ :: _ :: _ :: _, h => cases h
  | [w, n, e, m, f], h =>
    dsimp only at h
    by_cases hw : w = ascii "corner"
    · rw [if_pos hw] at h
      have side : ∀ {y : Bytes} {j : Nat}, sideIn y = some j → j ≤ 1 := fun {y j} q => by
        unfold sideIn at q
        by_cases q1 : y = ascii "left"
        · rw [if_pos q1] at q
          have := Option.some.inj q
          omega
        · rw [if_neg q1] at q
          by_cases q2 : y = ascii "right"
          · rw [if_pos q2] at q
            have := Option.some.inj q
            omega
          · rw [if_neg q2] at q
            cases q
      cases h1 : walls.findIdx? (fun (v : Wall) => v.name == n) with
      | none => rw [h1] at h; cases h
      | some a =>
        cases h2 : sideIn e with
        | none => rw [h1, h2] at h; cases h
        | some ea =>
          cases h3 : walls.findIdx? (fun (v : Wall) => v.name == m) with
          | none => rw [h1, h2, h3] at h; cases h
          | some c =>
            cases h4 : sideIn f with
            | none => rw [h1, h2, h3, h4] at h; cases h
            | some ec =>
              rw [h1, h2, h3, h4] at h
              dsimp only at h
              by_cases hac : a < c
              · rw [if_pos hac] at h
                obtain rfl := Option.some.inj h
                exact ⟨hac, zAP h3, side h2, side h4⟩
              · rw [if_neg hac] at h
                cases h
    · rw [if_neg hw] at h
      cases h
theorem zzf {s : SS} {x : Bytes} {k : Corner} (g : SGood s) (hh : zaq s = false) (e : zhC (s.1.map Zp) s.2 x = .ok k) : SGood (s.1, s.2 ++ [k]) ∧ s.2.length < 8 := by
  unfold zhC at e
  cases hc : cornerIn (s.1.map Zp) x with
  | none => rw [hc] at e; cases e
  | some k' =>
    rw [hc] at e
    dsimp only at e
    by_cases q1 : (s.2.getLast?.any fun (m : Corner) => !m.before k') = true
    · rw [if_pos q1] at e; cases e
    · rw [if_neg q1] at e
      by_cases q2 : (s.2.any fun (m : Corner) => m.uses k'.a k'.ea || m.uses k'.c k'.ec) = true
      · rw [if_pos q2] at e; cases e
      · rw [if_neg q2] at e
        by_cases q3 : cornersFit (s.1.map Zp) s.2 k' = false
        · rw [if_pos q3] at e; cases e
        · rw [if_neg q3] at e
          obtain rfl := Except.ok.inj e
          obtain ⟨ga, gc, gea, gec⟩ := zoO hc
          rw [List.length_map] at gc
          have g4 := g.w4
          have ne : s.1 ≠ [] := fun z => by
            unfold zaq at hh
            rw [z] at hh
            cases hh
          have lb : s.2.length ≤ 2 * k'.a + k'.ea := by
            cases hl : s.2.getLast? with
            | none =>
              rw [List.getLast?_eq_none_iff] at hl
              rw [hl]
              exact Nat.zero_le _
            | some m =>
              obtain ⟨c1, c2, c3⟩ := g.c8 m hl
              rw [hl] at q1
              have q1' : m.before k' = true := by
                cases hb : m.before k' with
                | true => rfl
                | false => exact absurd (show (!m.before k') = true by rw [hb]; rfl) q1
              unfold Corner.before at q1'
              rw [Bool.or_eq_true, Bool.and_eq_true, decide_eq_true_eq, decide_eq_true_eq, beq_iff_eq] at q1'
              omega
          refine ⟨⟨fun z => ?_, ?_, g4, fun m hm => ?_, g.full, g.most⟩, by omega⟩
          · have z' : zaq s = true := z
            rw [hh] at z'
            cases z'
          · have q3' : cornersFit (s.1.map Zp) s.2 k' = true := by
              cases hb : cornersFit (s.1.map Zp) s.2 k' with
              | true => rfl
              | false => exact absurd hb q3
            unfold cornersFit at q3'
            rw [Bool.and_eq_true] at q3'
            exact q3'.2
          · dsimp only at hm
            rw [List.getLast?_concat] at hm
            obtain rfl := Option.some.inj hm
            refine ⟨?_, by omega, gea⟩
            simp
            omega
theorem zr7 (l : List Corner) (k : Corner) (i e : Nat) : ((l ++ [k]).any fun m => m.uses i e) = ((l.any fun m => m.uses i e) || k.uses i e) := by
  rw [List.any_append]
  simp
def zkQ (walls : List Wall) (l : List Corner) (i e : Nat) : Bool := decide (5 ≤ ((walls[i]?).map Wall.long).getD 0) || !(l.any fun m => m.uses i (1 - e))
theorem zCn {walls : List Wall} {l : List Corner} {k : Corner} (le : longEnough walls l = true) (ha : k.a < k.c) (hc : k.c < walls.length) (hea : k.ea ≤ 1) (hec : k.ec ≤ 1) :
    longEnough walls (l ++ [k]) = (zkQ walls l k.a k.ea && zkQ walls l k.c k.ec) := by
  have L : ∀ l' : List Corner, longEnough walls l' = true ↔ ∀ i, i < walls.length → (l'.any fun m => m.uses i 0) = true → (l'.any fun m => m.uses i 1) = true → 5 ≤ ((walls[i]?).map Wall.long).getD 0 := fun l' => by
    unfold longEnough
    rw [List.all_eq_true]
    constructor
    · intro h i hi h0 h1
      have q := h i (List.mem_range.mpr hi)
      rw [h0, h1] at q
      simpa using q
    · intro h i hi
      have hi' := List.mem_range.mp hi
      cases h0 : l'.any fun m => m.uses i 0 with
      | false => rfl
      | true =>
        cases h1 : l'.any fun m => m.uses i 1 with
        | false => rfl
        | true => simpa using h i hi' h0 h1
  have ku : ∀ i e, k.uses i e = true ↔ (k.a = i ∧ k.ea = e) ∨ (k.c = i ∧ k.ec = e) := fun i e => by
    unfold Corner.uses
    simp
  have le' := (L l).mp le
  rw [Bool.eq_iff_iff, L, Bool.and_eq_true]
  have R : ∀ i e, zkQ walls l i e = true ↔ (5 ≤ ((walls[i]?).map Wall.long).getD 0 ∨ (l.any fun m => m.uses i (1 - e)) = false) := fun i e => by
    unfold zkQ
    rw [Bool.or_eq_true, decide_eq_true_eq, Bool.not_eq_true']
  rw [R, R]
  have one : ∀ i e, e ≤ 1 → k.uses i e = true → i < walls.length → (∀ i, i < walls.length → ((l ++ [k]).any fun m => m.uses i 0) = true → ((l ++ [k]).any fun m => m.uses i 1) = true → 5 ≤ ((walls[i]?).map Wall.long).getD 0) → (5 ≤ ((walls[i]?).map Wall.long).getD 0 ∨ (l.any fun m => m.uses i (1 - e)) = false) := fun i e he hu hi h => by
    cases q : l.any fun m => m.uses i (1 - e) with
    | false => exact .inr rfl
    | true =>
      refine .inl (h i hi ?_ ?_)
      · rw [zr7, Bool.or_eq_true]
        by_cases z : e = 0
        · subst z
          exact .inr hu
        · have : e = 1 := by omega
          subst this
          exact .inl q
      · rw [zr7, Bool.or_eq_true]
        by_cases z : e = 0
        · subst z
          exact .inl q
        · have : e = 1 := by omega
          subst this
          exact .inr hu
  constructor
  · intro h
    exact ⟨one k.a k.ea hea ((ku _ _).mpr (.inl ⟨rfl, rfl⟩)) (by omega) h, one k.c k.ec hec ((ku _ _).mpr (.inr ⟨rfl, rfl⟩)) hc h⟩
  · rintro ⟨ra, rc⟩ i hi h0 h1
    rw [zr7, Bool.or_eq_true] at h0 h1
    by_cases u0 : k.uses i 0 = true
    · by_cases u1 : k.uses i 1 = true
      · -- both of one corner: they are of two walls
        rw [ku] at u0 u1
        exfalso
        omega
      · have l1 : (l.any fun m => m.uses i 1) = true := h1.resolve_right u1
        rcases (ku i 0).mp u0 with ⟨q1, q2⟩ | ⟨q1, q2⟩
        · rw [q1, q2] at ra
          exact ra.resolve_right (by rw [show 1 - 0 = 1 by rfl, l1]; decide)
        · rw [q1, q2] at rc
          exact rc.resolve_right (by rw [show 1 - 0 = 1 by rfl, l1]; decide)
    · have l0 : (l.any fun m => m.uses i 0) = true := h0.resolve_right u0
      by_cases u1 : k.uses i 1 = true
      · rcases (ku i 1).mp u1 with ⟨q1, q2⟩ | ⟨q1, q2⟩
        · rw [q1, q2] at ra
          exact ra.resolve_right (by rw [show 1 - 1 = 0 by rfl, l0]; decide)
        · rw [q1, q2] at rc
          exact rc.resolve_right (by rw [show 1 - 1 = 0 by rfl, l0]; decide)
      · exact le' i hi l0 (h1.resolve_right u1)
end Wm
end
section
set_option linter.all false
set_option maxHeartbeats 1000000
namespace Wm
open Bd
def zqz (i : Nat) (v : HV) : Bytes := ascii (zpf i) ++ 32 :: (match v with
  | .nm b => b
  | .num n => if i = 1 ∨ i = 2 then number n else endWord n)
theorem ztc {w line : Bytes} {r : List Bytes} (h : zL w line = some r) : line = zsR 32 (w :: r) := by
  unfold zL at h
  obtain ⟨x, l, e⟩ := ZE 32 line
  rw [e] at h
  dsimp only at h
  by_cases q : x = w
  · rw [if_pos q] at h
    obtain rfl := Option.some.inj h
    rw [← q, ← e, zk4]
  · rw [if_neg q] at h
    cases h
theorem zce {x : Bytes} {n : Nat} (h : readNumber x = some n) : number n = x := by
  unfold readNumber at h
  by_cases q : x ≠ [] ∧ x.length ≤ 5 ∧ x.all isDigit = true ∧ number (valueOf x) = x
  · rw [if_pos q] at h
    obtain rfl := Option.some.inj h
    exact q.2.2.2
  · rw [if_neg q] at h
    cases h
theorem zBN {x : Bytes} {n : Nat} (h : zix x = some n) : endWord n = x := by
  unfold zix at h
  unfold endWord
  by_cases q1 : x = ascii "free"
  · rw [if_pos q1] at h
    obtain rfl := Option.some.inj h
    rw [if_pos rfl, q1]
  · rw [if_neg q1] at h
    by_cases q2 : x = ascii "side"
    · rw [if_pos q2] at h
      obtain rfl := Option.some.inj h
      rw [if_neg (by decide), if_pos rfl, q2]
    · rw [if_neg q2] at h
      by_cases q3 : x = ascii "end"
      · rw [if_pos q3] at h
        obtain rfl := Option.some.inj h
        rw [if_neg (by decide), if_neg (by decide), q3]
      · rw [if_neg q3] at h
        cases h
theorem zAs {i : Nat} {line : Bytes} {v : HV} (hi : i < 6) (e : zaG i line = .ok v) : line = zqz i v := by
  unfold zaG at e
  cases hf : zL (ascii (zpf i)) line with
  | none => rw [hf] at e; cases e
  | some r =>
    rw [hf] at e
    have j := ztc hf
    match r, e, j with
    | [], e, _ => cases e
    | _ :: _ :: _, e, _ => cases e
    | [x], e, j =>
      dsimp only at e
      have j' : line = ascii (zpf i) ++ 32 :: x := j
      rw [j']
      unfold zqz
      congr 2
      unfold zcT at e
      by_cases h0 : i = 0
      · rw [if_pos h0] at e
        unfold zkG at e
        by_cases q1 : x = [] ∨ x.all isSmall = false
        · rw [if_pos q1] at e; cases e
        · rw [if_neg q1] at e
          by_cases q2 : 15 < x.length
          · rw [if_pos q2] at e; cases e
          · rw [if_neg q2] at e
            have e' : HV.nm x = v := Except.ok.inj e
            rw [← e']
      · rw [if_neg h0] at e
        have sz : ∀ {m : Nat}, (zcZ x m).map HV.num = .ok v → ∃ n, v = .num n ∧ number n = x := fun {m} e => by
          unfold zcZ at e
          cases hn : readNumber x with
          | none => rw [hn] at e; cases e
          | some n =>
            rw [hn] at e
            dsimp only at e
            by_cases q : n < 1 ∨ m < n
            · rw [if_pos q] at e; cases e
            · rw [if_neg q] at e
              have e' : HV.num n = v := Except.ok.inj e
              exact ⟨n, e'.symm, zce hn⟩
        by_cases h1 : i = 1
        · rw [if_pos h1] at e
          obtain ⟨n, rfl, e2⟩ := sz e
          dsimp only
          rw [if_pos (.inl h1), e2]
        · rw [if_neg h1] at e
          by_cases h2 : i = 2
          · rw [if_pos h2] at e
            obtain ⟨n, rfl, e2⟩ := sz e
            dsimp only
            rw [if_pos (.inr h2), e2]
          · rw [if_neg h2] at e
            cases hn : zix x with
            | none => rw [hn] at e; cases e
            | some n =>
              rw [hn] at e
              have e' : HV.num n = v := Except.ok.inj e
              rw [← e']
              dsimp only
              rw [if_neg (fun z => z.elim h1 h2), zBN hn]
theorem zAv {line : Bytes} {long high : Nat} {os : List Opening} {o : Opening} (e : zdG line long high os = .ok o) : line = o.line := by
  unfold zdG at e
  cases hf : zL (ascii "open") line with
  | none => rw [hf] at e; cases e
  | some r =>
    rw [hf, Option.bind_some] at e
    have j := ztc hf
    cases hm : r.mapM readNumber with
    | none => rw [hm] at e; cases e
    | some ns =>
      rw [hm] at e
      have hl := znX hm
      match ns, e, hl, hm with
      | [], e, _, _ => cases e
      | [_], e, _, _ => cases e
      | [_, _], e, _, _ => cases e
      | [_, _, _], e, _, _ => cases e
      | _ :: _ :: _ :: _ :: _ :: _, e, _, _ => cases e
      | [a, b, c, d], e, hl, hm =>
        match r, hl, hm, j with
        | [xa, xb, xc, xd], _, hm, j =>
          have back : readNumber xa = some a ∧ readNumber xb = some b ∧ readNumber xc = some c ∧ readNumber xd = some d := by
            simp only [List.mapM_cons, List.mapM_nil] at hm
            cases h1 : readNumber xa with
            | none => rw [h1] at hm; cases hm
            | some a' =>
              cases h2 : readNumber xb with
              | none => rw [h1, h2] at hm; cases hm
              | some b' =>
                cases h3 : readNumber xc with
                | none => rw [h1, h2, h3] at hm; cases hm
                | some c' =>
                  cases h4 : readNumber xd with
                  | none => rw [h1, h2, h3, h4] at hm; cases hm
                  | some d' =>
                    rw [h1, h2, h3, h4] at hm
                    have hm' : [a', b', c', d'] = [a, b, c, d] := Option.some.inj hm
                    injection hm' with e1 hm'
                    injection hm' with e2 hm'
                    injection hm' with e3 hm'
                    injection hm' with e4 _
                    rw [e1, e2, e3, e4]
                    exact ⟨rfl, rfl, rfl, rfl⟩
          have eo : o = ⟨a, b, c, d⟩ := by
            dsimp only at e
            by_cases q1 : Opening.within ⟨a, b, c, d⟩ long high = false
            · rw [if_pos q1] at e; cases e
            · rw [if_neg q1] at e
              by_cases q2 : (os.getLast?.any fun (p : Opening) => !p.before ⟨a, b, c, d⟩) = true
              · rw [if_pos q2] at e; cases e
              · rw [if_neg q2] at e
                by_cases q3 : (os.any fun (p : Opening) => p.meets ⟨a, b, c, d⟩) = true
                · rw [if_pos q3] at e; cases e
                · rw [if_neg q3] at e
                  by_cases q4 : 8 ≤ os.length
                  · rw [if_pos q4] at e; cases e
                  · rw [if_neg q4] at e
                    exact (Except.ok.inj e).symm
          rw [eo]
          unfold Opening.line
          dsimp only
          rw [zce back.1, zce back.2.1, zce back.2.2.1, zce back.2.2.2]
          rw [j]
          show ascii "open" ++ 32 :: (xa ++ 32 :: (xb ++ 32 :: (xc ++ 32 :: xd))) = ascii "open " ++ (xa ++ 32 :: (xb ++ 32 :: (xc ++ 32 :: xd)))
          rw [show ascii "open " = ascii "open" ++ [32] by decide, List.append_assoc]
          rfl
def zf3 : Nat → List HV → List Bytes
  | _, [] => []
  | i, v :: r => zqz i v :: zf3 (i + 1) r
theorem zm0 : ∀ (h : List HV) (i : Nat) (v : HV), zf3 i (h ++ [v]) = zf3 i h ++ [zqz (i + h.length) v]
  | [], i, v => rfl
  | u :: r, i, v => by
    rw [List.cons_append, zf3, zm0 r (i + 1) v, zf3, List.cons_append]
    congr 3
    rw [List.length_cons]
    congr 1
    omega
structure WT (w : WS) : Prop where
  ls : w.2.2 = zf3 0 w.1 ++ w.2.1.map Opening.line
  h6 : w.1.length ≤ 6
  no : w.1.length < 6 → w.2.1 = []
theorem WT.start : WT ([], [], []) := ⟨rfl, by decide, fun _ => rfl⟩
theorem WT.step {w w' : WS} {x : Bytes} (t : WT w) (e : za1 w x = .ok w') : WT w' := by
  obtain ⟨h, os, ls⟩ := w
  unfold za1 zcP at e
  dsimp only at e
  have tl : ls = zf3 0 h ++ os.map Opening.line := t.ls
  by_cases q : h.length < 6
  · rw [if_pos q] at e
    cases hb : zaG h.length x with
    | error k => rw [hb] at e; cases e
    | ok v =>
      rw [hb] at e
      obtain rfl := Except.ok.inj e
      have no : os = [] := t.no q
      refine ⟨?_, by simp; omega, fun _ => no⟩
      dsimp only
      rw [tl, no, zm0, Nat.zero_add, zAs q hb]
      simp
  · rw [if_neg q] at e
    cases hb : zdG x (numAt h 1) (numAt h 2) os with
    | error k => rw [hb] at e; cases e
    | ok o =>
      rw [hb] at e
      obtain rfl := Except.ok.inj e
      refine ⟨?_, t.h6, fun z => absurd z q⟩
      dsimp only
      rw [tl, List.map_append, List.append_assoc, zAv hb]
      rfl
def zA2 (w : WS) : Bytes := w.2.2.flatMap fun l => l ++ [10]
def zEX (h : List HV) : Prop := ∀ (n : Nat) (x : HV), h[n]? = some x → if n = 0 then ∃ b, x = .nm b else ∃ m, x = .num m
structure STx (B : Nat) (s : SS) : Prop where
  wt : ∀ w ∈ s.1, WT w
  lb : ∀ w ∈ s.1, ∀ x ∈ w.2.2, x.length ≤ B
theorem STx.start (B : Nat) : STx B ([], []) := ⟨fun w h => by simp at h, fun w h => by simp at h⟩
theorem zyR {B : Nat} {w w' : WS} {x : Bytes} (h : ∀ y ∈ w.2.2, y.length ≤ B) (hx : x.length ≤ B) (e : za1 w x = .ok w') : ∀ y ∈ w'.2.2, y.length ≤ B := by
  unfold za1 at e
  cases ht : zcP w.1 w.2.1 x with
  | error k => rw [ht] at e; cases e
  | ok z =>
    rw [ht] at e
    obtain rfl := Except.ok.inj e
    intro y hy
    rcases List.mem_append.mp hy with m | m
    · exact h y m
    · rw [List.mem_singleton.mp m]
      exact hx
theorem zyW {B : Nat} {s s' : SS} {x : Bytes} (t : STx B s) (hx : x.length ≤ B) (e : zb3 s x = .ok s') : STx B s' := by
  unfold zb3 at e
  cases hs : za1 ([], [], []) x with
  | error k => rw [hs] at e; cases e
  | ok r =>
    rw [hs] at e
    dsimp only at e
    by_cases q6 : (s.1.any fun q => nameAt q.1 == nameAt r.1) = true
    · rw [if_pos q6] at e; cases e
    · rw [if_neg q6] at e
      by_cases q7 : 4 ≤ s.1.length
      · rw [if_pos q7] at e; cases e
      · rw [if_neg q7] at e
        obtain rfl := Except.ok.inj e
        refine ⟨fun w hw => ?_, fun w hw => ?_⟩
        · rcases List.mem_append.mp hw with m | m
          · exact t.wt w m
          · rw [List.mem_singleton.mp m]
            exact WT.start.step hs
        · rcases List.mem_append.mp hw with m | m
          · exact t.lb w m
          · rw [List.mem_singleton.mp m]
            exact zyR (fun y hy => by simp at hy) hx hs
theorem zsY {B : Nat} {s s' : SS} {x : Bytes} (t : STx B s) (hx : x.length ≤ B) (e : zfn s x = .ok s') : STx B s' := by
  by_cases h0 : s.1 = []
  · unfold zfn at e
    rw [h0] at e
    cases e
  · obtain ⟨pre, r, e0⟩ := zxt h0
    obtain ⟨ws, cs⟩ := s
    dsimp only at e0
    subst e0
    rw [zcf] at e
    cases hs : za1 r x with
    | error k => rw [hs] at e; cases e
    | ok r' =>
      rw [hs] at e
      obtain rfl := Except.ok.inj e
      refine ⟨fun w hw => ?_, fun w hw => ?_⟩
      · rcases List.mem_append.mp hw with m | m
        · exact t.wt w (List.mem_append_left _ m)
        · rw [List.mem_singleton.mp m]
          exact (t.wt r (List.mem_append_right _ (by simp))).step hs
      · rcases List.mem_append.mp hw with m | m
        · exact t.lb w (List.mem_append_left _ m)
        · rw [List.mem_singleton.mp m]
          exact zyR (t.lb r (List.mem_append_right _ (by simp))) hx hs
theorem zDI {B : Nat} {s s' : SS} {x : Bytes} (t : STx B s) (hx : x.length ≤ B) (e : zaZ s x = .ok s') : STx B s' := by
  unfold zaZ at e
  by_cases h0 : s.1 = []
  · rw [if_pos h0] at e
    exact zyW t hx e
  · rw [if_neg h0] at e
    by_cases h1 : zaq s = true
    · rw [if_pos h1] at e
      exact zsY t hx e
    · rw [if_neg h1] at e
      by_cases h2 : s.2 ≠ [] ∨ begins "corner" x = true
      · rw [if_pos h2] at e
        cases hc : zhC (s.1.map Zp) s.2 x with
        | error k => rw [hc] at e; cases e
        | ok k =>
          rw [hc] at e
          obtain rfl := Except.ok.inj e
          exact ⟨t.wt, t.lb⟩
      · rw [if_neg h2] at e
        by_cases h3 : begins "wall" x = true
        · rw [if_pos h3] at e
          exact zyW t hx e
        · rw [if_neg h3] at e
          exact zsY t hx e
theorem zC3 {B : Nat} : ∀ {lines : List Bytes} {i : Nat} {s s' : SS}, STx B s → (∀ x ∈ lines, x.length ≤ B) → zrX zaZ lines i s = .ok s' → STx B s'
  | [], i, s, s', t, _, e => by
    obtain rfl := Except.ok.inj e
    exact t
  | l :: r, i, s, s', t, h, e => by
    rw [zrX] at e
    cases hs : zaZ s l with
    | error k => rw [hs] at e; cases e
    | ok s1 =>
      rw [hs] at e
      exact zC3 (zDI t (h l (by simp)) hs) (fun x hx => h x (by simp [hx])) e
theorem zDV {B : Nat} {z : List Bytes × Bytes} {s : SS} (h : ∀ x ∈ z.1, x.length ≤ B) (e : zgD zaZ zje ([], []) z = .ok s) : STx B s := by
  unfold zgD at e
  cases hr : zrX zaZ z.1 0 ([], []) with
  | error k => rw [hr] at e; cases e
  | ok s1 =>
    rw [hr] at e
    dsimp only at e
    cases hf : zje s1 z.2 with
    | some k => rw [hf] at e; cases e
    | none =>
      rw [hf] at e
      obtain rfl := Except.ok.inj e
      exact zC3 (STx.start B) h hr
theorem zBS {z : List Bytes × Bytes} {s : SS} (e : zgD zaZ zje ([], []) z = .ok s) : zaq s = false := by
  unfold zgD at e
  cases hr : zrX zaZ z.1 0 ([], []) with
  | error k => rw [hr] at e; cases e
  | ok s1 =>
    rw [hr] at e
    dsimp only at e
    cases hf : zje s1 z.2 with
    | some k => rw [hf] at e; cases e
    | none =>
      rw [hf] at e
      obtain rfl := Except.ok.inj e
      unfold zje at hf
      cases hh : zaq s1 with
      | false => rfl
      | true =>
        rw [if_pos hh] at hf
        cases hf
end Wm
end
section
set_option linter.all false
set_option maxHeartbeats 1000000
namespace Wm
open Bd
structure zHi (s : SS) : Prop where
  gd : SGood s
  kd : ∀ w ∈ s.1, zEX w.1
end Wm
end
section
set_option Elab.async false
set_option linter.all false
set_option maxRecDepth 100000
set_option maxHeartbeats 4000000
namespace Wb
open PySem PySem.Spec PyProof.Rows L2 Wm
open PySem.W (Codec)
theorem zAy : bootBuiltins "all" = some (.builtin "all") := by decide +kernel
theorem zzW : bootBuiltins "any" = some (.builtin "any") := by decide +kernel
theorem zc1 : bootBuiltins "len" = some (.builtin "len") := by decide +kernel
theorem zEE : bootBuiltins "ord" = some (.builtin "ord") := by decide +kernel
theorem zCd : bootBuiltins "sorted" = some (.builtin "sorted") := by decide +kernel
def top (i : Nat) : Stmt := PySem.Challenge.pw_wallbonds_s08_site.main.body.getD i (.Pass ⟨0, 0, 0, 0⟩)
abbrev zaI : Stmt := top 25
abbrev zbm : Stmt := top 26
abbrev Zh : Stmt := top 27
abbrev ZV : Stmt := top 28
abbrev yY : Stmt := top 29
abbrev Zg : Stmt := top 30
abbrev Z0 : Stmt := top 31
abbrev yQ : Stmt := top 32
abbrev zbC : Stmt := top 33
abbrev ZY : Stmt := top 46
abbrev zdN : Stmt := top 47
abbrev Zk : Stmt := top 48
abbrev Z5 : Stmt := top 60
abbrev Zs : Stmt := top 61
abbrev zay : Stmt := top 62
abbrev Zt : Stmt := top 63
abbrev zah : Stmt := top 64
abbrev ZR : Stmt := top 65
abbrev Zf : Stmt := top 66
abbrev zdH : Stmt := top 67
abbrev zaz : Stmt := top 68
abbrev yk : Stmt := top 69
abbrev zjU : Stmt := top 72
abbrev zcj : Stmt := top 73
abbrev Zr : Stmt := top 74
abbrev zci : Stmt := top 75
abbrev yi : Stmt := top 76
abbrev zdF : Stmt := top 77
abbrev yu : Stmt := ZA (top 12) 0
abbrev yt : Stmt := ZA (top 13) 0
abbrev yh : Stmt := ZA (top 14) 0
abbrev ye : Stmt := ZA (top 15) 0
abbrev yq : Stmt := ZA (top 43) 0
abbrev z5 : Stmt := ZA (top 43) 1
abbrev zO : Stmt := ZA (top 43) 2
abbrev y8 : Stmt := ZA (top 43) 3
abbrev yO : Stmt := ZA (top 43) 4
abbrev yX : Stmt := ZA (top 44) 0
abbrev yV : Stmt := ZA (top 44) 1
abbrev z6 : Stmt := ZA (top 45) 0
abbrev zZ : Stmt := ZA (top 45) 1
abbrev yH : Stmt := ZA (top 45) 2
abbrev yb : Stmt := ZA (top 45) 3
abbrev yG : Stmt := ZA (top 57) 0
abbrev Zb : Stmt := ZA (top 58) 0
abbrev z8 : Stmt := ZA (top 59) 0
abbrev yf : Stmt := ZA (top 59) 1
abbrev zE : Stmt := ZA (top 59) 2
abbrev yF : Stmt := ZA (top 59) 3
abbrev zG : Stmt := ZA (top 59) 4
abbrev zV : Stmt := ZA (top 59) 5
theorem znP : zC ["word", "sign"] ["word"] (za zaI) := ⟨rfl, rfl, rfl, by decide +kernel, rfl, by decide +kernel, by decide +kernel⟩
theorem zm5 : zC ["row", "sign", "parts", "byte"] ["row", "sign"] (za zbm) := ⟨rfl, rfl, rfl, by decide +kernel, rfl, by decide +kernel, by decide +kernel⟩
theorem zg2 : zC ["lines", "text", "line"] ["lines"] (za Zh) := ⟨rfl, rfl, rfl, by decide +kernel, rfl, by decide +kernel, by decide +kernel⟩
theorem zch : zC ["text", "reader", "parts", "number", "line", "fault"] ["text", "reader"] (za ZV) := ⟨rfl, rfl, rfl, by decide +kernel, rfl, by decide +kernel, by decide +kernel⟩
theorem zke : zC ["word", "line", "fields"] ["word", "line"] (za yY) := ⟨rfl, rfl, rfl, by decide +kernel, rfl, by decide +kernel, by decide +kernel⟩
theorem zl8 : zC ["word", "line", "fields"] ["word", "line"] (za Zg) := ⟨rfl, rfl, rfl, by decide +kernel, rfl, by decide +kernel, by decide +kernel⟩
theorem zdc : zC ["field", "byte", "number"] ["field"] (za Z0) := ⟨rfl, rfl, rfl, by decide +kernel, rfl, by decide +kernel, by decide +kernel⟩
theorem ziN : zC ["field", "least", "most", "number"] ["field", "least", "most"] (za yQ) := ⟨rfl, rfl, rfl, by decide +kernel, rfl, by decide +kernel, by decide +kernel⟩
theorem zp8 : zC ["field", "byte"] ["field"] (za zbC) := ⟨rfl, rfl, rfl, by decide +kernel, rfl, by decide +kernel, by decide +kernel⟩
theorem zo1 : zC ["number", "line", "field"] ["number", "line"] (za ZY) := ⟨rfl, rfl, rfl, by decide +kernel, rfl, by decide +kernel, by decide +kernel⟩
theorem zsv : zC ["field", "number", "word"] ["field"] (za zdN) := ⟨rfl, rfl, rfl, by decide +kernel, rfl, by decide +kernel, by decide +kernel⟩
theorem zcg : zC ["line", "length", "height", "before", "numbers", "field", "opening", "other"] ["line", "length", "height", "before"] (za Zk) := ⟨rfl, rfl, rfl, by decide +kernel, rfl, by decide +kernel, by decide +kernel⟩
theorem zhG : zC ["text", "reader", "texts", "wall_reader"] ["text"] (za Z5) := ⟨rfl, rfl, rfl, by decide +kernel, rfl, by decide +kernel, by decide +kernel⟩
theorem zuw : zC ["line", "start"] ["line", "start"] (za Zs) := ⟨rfl, rfl, rfl, by decide +kernel, rfl, by decide +kernel, by decide +kernel⟩
theorem zlU : zC ["line", "walls", "before", "corner", "taken"] ["line", "walls", "before"] (za zay) := ⟨rfl, rfl, rfl, by decide +kernel, rfl, by decide +kernel, by decide +kernel⟩
theorem zib : zC ["line", "walls", "fields", "corner"] ["line", "walls"] (za Zt) := ⟨rfl, rfl, rfl, by decide +kernel, rfl, by decide +kernel, by decide +kernel⟩
theorem zgJ : zC ["fields", "walls", "names", "wall", "words", "word"] ["fields", "walls"] (za zah) := ⟨rfl, rfl, rfl, by decide +kernel, rfl, by decide +kernel, by decide +kernel⟩
theorem zjF : zC ["corners", "taken", "corner"] ["corners"] (za ZR) := ⟨rfl, rfl, rfl, by decide +kernel, rfl, by decide +kernel, by decide +kernel⟩
theorem zcO : zC ["corner", "walls", "taken", "one", "other", "end"] ["corner", "walls", "taken"] (za Zf) := ⟨rfl, rfl, rfl, by decide +kernel, rfl, by decide +kernel, by decide +kernel⟩
theorem zB0 : zC ["wall", "side"] ["wall", "side"] (za zdH) := ⟨rfl, rfl, rfl, by decide +kernel, rfl, by decide +kernel, by decide +kernel⟩
theorem zxO : zC ["wall", "side"] ["wall", "side"] (za zaz) := ⟨rfl, rfl, rfl, by decide +kernel, rfl, by decide +kernel, by decide +kernel⟩
theorem ZM : zC ["end", "walls", "taken", "wall", "place", "course", "other_end"] ["end", "walls", "taken"] (za yk) := ⟨rfl, rfl, rfl, by decide +kernel, rfl, by decide +kernel, by decide +kernel⟩
theorem ztT : zC ["u", "found", "fault", "refusal"] ["u"] (za zjU) := ⟨rfl, rfl, rfl, by decide +kernel, rfl, by decide +kernel, by decide +kernel⟩
theorem zAw : zC ["u"] ["u"] (za zcj) := ⟨rfl, rfl, rfl, by decide +kernel, rfl, by decide +kernel, by decide +kernel⟩
theorem znA : zC ["rows", "row"] ["rows"] (za Zr) := ⟨rfl, rfl, rfl, by decide +kernel, rfl, by decide +kernel, by decide +kernel⟩
theorem zAd : zC ["refusal"] ["refusal"] (za zci) := ⟨rfl, rfl, rfl, by decide +kernel, rfl, by decide +kernel, by decide +kernel⟩
theorem znb : zC ["fault"] ["fault"] (za yi) := ⟨rfl, rfl, rfl, by decide +kernel, rfl, by decide +kernel, by decide +kernel⟩
theorem zBT : zC ["number", "row", "signs"] ["number", "row", "signs"] (za zdF) := ⟨rfl, rfl, rfl, by decide +kernel, rfl, by decide +kernel, by decide +kernel⟩
theorem zoo : zC ["self", "number", "told"] ["self", "number", "told"] (za yu) := ⟨rfl, rfl, rfl, by decide +kernel, rfl, by decide +kernel, by decide +kernel⟩
theorem zoz : zC ["self"] ["self"] (za yt) := ⟨rfl, rfl, rfl, by decide +kernel, rfl, by decide +kernel, by decide +kernel⟩
theorem zmx : zC ["self", "line", "kind"] ["self", "line", "kind"] (za yh) := ⟨rfl, rfl, rfl, by decide +kernel, rfl, by decide +kernel, by decide +kernel⟩
theorem zmC : zC ["self", "kind"] ["self", "kind"] (za ye) := ⟨rfl, rfl, rfl, by decide +kernel, rfl, by decide +kernel, by decide +kernel⟩
theorem zoD : zC ["self", "numbers"] ["self", "numbers"] (za yq) := ⟨rfl, rfl, rfl, by decide +kernel, rfl, by decide +kernel, by decide +kernel⟩
theorem zlM : zC ["self", "length", "height"] ["self", "length", "height"] (za z5) := ⟨rfl, rfl, rfl, by decide +kernel, rfl, by decide +kernel, by decide +kernel⟩
theorem zjD : zC ["self", "other"] ["self", "other"] (za zO) := ⟨rfl, rfl, rfl, by decide +kernel, rfl, by decide +kernel, by decide +kernel⟩
theorem zf7 : zC ["self", "other", "side_by_side", "one_above_another"] ["self", "other"] (za y8) := ⟨rfl, rfl, rfl, by decide +kernel, rfl, by decide +kernel, by decide +kernel⟩
theorem zq1 : zC ["self", "place", "course"] ["self", "place", "course"] (za yO) := ⟨rfl, rfl, rfl, by decide +kernel, rfl, by decide +kernel, by decide +kernel⟩
theorem zsk : zC ["self", "head", "openings"] ["self", "head", "openings"] (za yX) := ⟨rfl, rfl, rfl, by decide +kernel, rfl, by decide +kernel, by decide +kernel⟩
theorem zgP : zC ["self", "place", "course", "opening"] ["self", "place", "course"] (za yV) := ⟨rfl, rfl, rfl, by decide +kernel, rfl, by decide +kernel, by decide +kernel⟩
theorem zly : zC ["self"] ["self"] (za z6) := ⟨rfl, rfl, rfl, by decide +kernel, rfl, by decide +kernel, by decide +kernel⟩
theorem zlF : zC ["self"] ["self"] (za zZ) := ⟨rfl, rfl, rfl, by decide +kernel, rfl, by decide +kernel, by decide +kernel⟩
theorem zpT : zC ["self", "line"] ["self", "line"] (za yH) := ⟨rfl, rfl, rfl, by decide +kernel, rfl, by decide +kernel, by decide +kernel⟩
theorem zpG : zC ["self", "first", "second"] ["self", "first", "second"] (za yG) := ⟨rfl, rfl, rfl, by decide +kernel, rfl, by decide +kernel, by decide +kernel⟩
theorem zsD : zC ["self", "walls", "texts", "corners"] ["self", "walls", "texts", "corners"] (za Zb) := ⟨rfl, rfl, rfl, by decide +kernel, rfl, by decide +kernel, by decide +kernel⟩
theorem zkS : zC ["self"] ["self"] (za z8) := ⟨rfl, rfl, rfl, by decide +kernel, rfl, by decide +kernel, by decide +kernel⟩
theorem zmv : zC ["self"] ["self"] (za yf) := ⟨rfl, rfl, rfl, by decide +kernel, rfl, by decide +kernel, by decide +kernel⟩
theorem zbp : zC ["self", "reader"] ["self"] (za zE) := ⟨rfl, rfl, rfl, by decide +kernel, rfl, by decide +kernel, by decide +kernel⟩
theorem zpW : zC ["self", "line"] ["self", "line"] (za yF) := ⟨rfl, rfl, rfl, by decide +kernel, rfl, by decide +kernel, by decide +kernel⟩
theorem ZS : zC ["self", "line", "reader", "before"] ["self", "line"] (za zG) := ⟨rfl, rfl, rfl, by decide +kernel, rfl, by decide +kernel, by decide +kernel⟩
theorem zkB : zC ["self", "rest"] ["self", "rest"] (za zV) := ⟨rfl, rfl, rfl, by decide +kernel, rfl, by decide +kernel, by decide +kernel⟩
structure Ad where
  zA : Addr
  zU : Addr
  zaF : FuncData
  zK : Addr
  yr : Addr
  zbW : FuncData
  zq : Addr
  yg : Addr
  za4 : FuncData
  zd : Addr
  zv : Addr
  zy : FuncData
  zh : Addr
  yw : Addr
  zb7 : FuncData
  z0 : Addr
  zaK : FuncData
  zQ : Addr
  zad : FuncData
  yZ : Addr
  zd1 : FuncData
  yP : Addr
  zc8 : FuncData
  zS : Addr
  y9 : Addr
  zd8 : FuncData
  Zj : Addr
  zfa : FuncData
  zk : Addr
  z4 : Addr
  zaM : FuncData
  zT : Addr
  ZG : FuncData
  yn : Addr
  za6 : FuncData
  yo : Addr
  zfy : FuncData
  zB : Addr
  yE : Addr
  zcC : FuncData
  zaj : Addr
  Za : Addr
  zd2 : FuncData
  zu : Addr
  z7 : Addr
  zaS : FuncData
  zW : Addr
  Z4 : FuncData
  zH : Addr
  Zl : FuncData
  yR : Addr
  zeK : FuncData
  zP : Addr
  zae : FuncData
  yc : Addr
  zbP : FuncData
  ZO : Addr
  zcQ : FuncData
  zaH : Addr
  zfV : FuncData
  Zw : Addr
  ze3 : FuncData
  zaw : Addr
  zhv : FuncData
  yW : Addr
  zcd : FuncData
  Zz : Addr
  zeR : FuncData
  zax : Addr
  zgB : FuncData
  Zc : Addr
  zdk : FuncData
  zdj : Addr
  zoj : FuncData
  zav : Addr
  zhF : FuncData
  zeX : Addr
  zq7 : FuncData
  zau : Addr
  zhp : FuncData
  za5 : Addr
  ziI : FuncData
  Zu : Addr
  zdC : FuncData
  zbj : Addr
  ziE : FuncData
  ZP : Addr
  zgo : FuncData
  zb1 : Addr
  zlL : FuncData
  zam : Addr
  zhu : FuncData
  ZZ : Addr
  zgj : FuncData
  zfe : Addr
  zqq : FuncData
  zba : Addr
  zi4 : FuncData
  yS : Addr
  zcz : FuncData
  zjp : Addr
  zso : FuncData
  zc7 : Addr
  zob : FuncData
  ZQ : Addr
  zgd : FuncData
  zdd : Addr
  zn7 : FuncData
  yA : Addr
  zbu : FuncData
  zc3 : Addr
  zjZ : FuncData
  zhD : Tok
  zdX : Tok
  zfb : Tok
  zcF : Tok
  zkP : Tok
  zhJ : Tok
  zhy : Tok
  ziY : Tok
  zaV : Tok
  ziZ : Tok
  zhK : Tok
  ziC : Tok
  ztR : Tok
  zqk : Tok
  zyo : Tok
  zfv : Tok
  zgr : Tok
  zgu : Tok
  zbs : Tok
  ZW : Addr
  zfq : Tok
  za8 : Addr
  zyt : Tok
  zBo : Tok
  zgn : Tok
  zgq : Tok
  zdT : Tok
  zhw : Tok
  zeG : Tok
  zgm : Tok
  ZU : Addr
  zxj : Tok
  zhs : Tok
  Z8 : Tok
  zhH : Tok
structure Txt (K : PySem.W.Frag) (mg : Str → Option Value) (a : Ad) : Prop where
  zrT : mg "Refusal" = some (.ref a.zA)
  zp6 : Fun K "__init__" "Refusal.__init__" yu a.zU a.zaF
  zih : Binds K a.zaF ["self", "number", "told"] []
  zFd : zty K a.zA
  zFe : MkX K a.zA a.zU
  zFf : zxz K a.zA
  zda : NoAttr K a.zA "number"
  zeZ : NoAttr K a.zA "told"
  zB7 : mg "TooLong" = some (.ref a.zK)
  zqi : Fun K "__init__" "TooLong.__init__" yt a.yr a.zbW
  zp1 : Binds K a.zbW ["self"] []
  zwz : zty K a.zK
  zCg : MkX K a.zK a.yr
  zBI : zxz K a.zK
  zaD : NoAttr K a.zK "number"
  zbH : NoAttr K a.zK "told"
  znw : mg "TextFault" = some (.ref a.zq)
  zmX : Fun K "__init__" "TextFault.__init__" yh a.yg a.za4
  zgx : Binds K a.za4 ["self", "line", "kind"] []
  zex : zty K a.zq
  zth : MkX K a.zq a.yg
  zs6 : zxz K a.zq
  zaB : NoAttr K a.zq "kind"
  zaC : NoAttr K a.zq "line"
  ZL : NoAttr K a.zq "number"
  zbI : NoAttr K a.zq "told"
  zF : mg "LineFault" = some (.ref a.zd)
  znT : Fun K "__init__" "LineFault.__init__" ye a.zv a.zy
  zr : Binds K a.zy ["self", "kind"] []
  znB : zty K a.zd
  zM : MkX K a.zd a.zv
  znR : zxz K a.zd
  ZN : NoAttr K a.zd "kind"
  zBP : mg "Opening" = some (.ref a.zh)
  zp4 : Fun K "__init__" "Opening.__init__" yq a.yw a.zb7
  zpU : Binds K a.zb7 ["self", "numbers"] []
  zmB : Fun K "lies_within" "Opening.lies_within" z5 a.z0 a.zaK
  zmK : Binds K a.zaK ["self", "length", "height"] []
  zmy : zmu K a.zh "lies_within" a.z0
  zky : Fun K "stands_behind" "Opening.stands_behind" zO a.zQ a.zad
  zkc : Binds K a.zad ["self", "other"] []
  zkA : zmu K a.zh "stands_behind" a.zQ
  ztx : Fun K "meets" "Opening.meets" y8 a.yZ a.zd1
  ztp : Binds K a.zd1 ["self", "other"] []
  ztG : zmu K a.zh "meets" a.yZ
  zrJ : Fun K "covers" "Opening.covers" yO a.yP a.zc8
  zsE : Binds K a.zc8 ["self", "place", "course"] []
  zsp : zmu K a.zh "covers" a.yP
  ya : Cls K a.zh
  zCy : Mk K a.zh a.yw
  Zy : NoAttr K a.zh "high"
  Zv : NoAttr K a.zh "wide"
  Z3 : NoAttr K a.zh "x"
  Z1 : NoAttr K a.zh "y"
  zEC : mg "Wall" = some (.ref a.zS)
  ztA : Fun K "__init__" "Wall.__init__" yX a.y9 a.zd8
  ztC : Binds K a.zd8 ["self", "head", "openings"] []
  zuC : Fun K "is_open" "Wall.is_open" yV a.Zj a.zfa
  zt2 : Binds K a.zfa ["self", "place", "course"] []
  zuf : zmu K a.zS "is_open" a.Zj
  zc5 : Cls K a.zS
  zE1 : Mk K a.zS a.y9
  zaA : NoAttr K a.zS "height"
  zes : NoAttr K a.zS "left"
  zbq : NoAttr K a.zS "length"
  zeq : NoAttr K a.zS "name"
  za0 : NoAttr K a.zS "openings"
  zdK : NoAttr K a.zS "reveal"
  zdg : NoAttr K a.zS "right"
  zys : mg "WallReader" = some (.ref a.zk)
  zmz : Fun K "__init__" "WallReader.__init__" z6 a.z4 a.zaM
  zmM : Binds K a.zaM ["self"] []
  zmG : Fun K "has_head" "WallReader.has_head" zZ a.zT a.ZG
  zfF : Binds K a.ZG ["self"] []
  zfz : zmu K a.zk "has_head" a.zT
  zqt : Fun K "take" "WallReader.take" yH a.yn a.za6
  zfo : Binds K a.za6 ["self", "line"] []
  zeL : zmu K a.zk "take" a.yn
  zyh : Fun K "take_rest" "WallReader.take_rest" yb a.yo a.zfy
  zyd : Binds K a.zfy ["self", "rest"] []
  zyy : zmu K a.zk "take_rest" a.yo
  zR : Cls K a.zk
  zyG : Mk K a.zk a.z4
  zY : NoAttr K a.zk "head"
  yU : NoAttr K a.zk "lines"
  yy : NoAttr K a.zk "openings"
  zDn : mg "Corner" = some (.ref a.zB)
  zq8 : Fun K "__init__" "Corner.__init__" yG a.yE a.zcC
  zrd : Binds K a.zcC ["self", "first", "second"] []
  zak : Cls K a.zB
  zDs : Mk K a.zB a.yE
  yC : NoAttr K a.zB "first"
  yM : NoAttr K a.zB "second"
  zEz : mg "Site" = some (.ref a.zaj)
  ztm : Fun K "__init__" "Site.__init__" Zb a.Za a.zd2
  ztr : Binds K a.zd2 ["self", "walls", "texts", "corners"] []
  zxY : Cls K a.zaj
  zEN : Mk K a.zaj a.Za
  zcV : NoAttr K a.zaj "corners"
  zfm : NoAttr K a.zaj "texts"
  zc9 : NoAttr K a.zaj "walls"
  zxU : mg "SiteReader" = some (.ref a.zu)
  zms : Fun K "__init__" "SiteReader.__init__" z8 a.z7 a.zaS
  zmt : Binds K a.zaS ["self"] []
  znZ : Fun K "in_head" "SiteReader.in_head" yf a.zW a.Z4
  zgL : Binds K a.Z4 ["self"] []
  zgG : zmu K a.zu "in_head" a.zW
  zkq : Fun K "walls_read" "SiteReader.walls_read" zE a.zH a.Zl
  zeC : Binds K a.Zl ["self"] []
  zep : zmu K a.zu "walls_read" a.zH
  zrf : Fun K "take" "SiteReader.take" yF a.yR a.zeK
  zrm : Binds K a.zeK ["self", "line"] []
  zqv : zmu K a.zu "take" a.yR
  zkh : Fun K "begin_wall" "SiteReader.begin_wall" zG a.zP a.zae
  zem : Binds K a.zae ["self", "line"] []
  zew : zmu K a.zu "begin_wall" a.zP
  zll : Fun K "take_rest" "SiteReader.take_rest" zV a.yc a.zbP
  zk8 : Binds K a.zbP ["self", "rest"] []
  zlO : zmu K a.zu "take_rest" a.yc
  zI : Cls K a.zu
  zye : Mk K a.zu a.z7
  yd : NoAttr K a.zu "corners"
  zx : NoAttr K a.zu "readers"
  zhP : CAt K a.zA "__init__" a.zU
  zcL : PySem.W.exmOne K (.ref a.zA) (.ref a.zA) = some true
  zbh : PySem.W.exmOne K (.ref a.zK) (.ref a.zA) = some true
  zbw : PySem.W.exmOne K (.ref a.zq) (.ref a.zA) = some true
  zbv : PySem.W.exmOne K (.ref a.zd) (.ref a.zA) = some false
  zbA : PySem.W.exmOne K (.ref a.zA) (.ref a.zq) = some false
  zal : PySem.W.exmOne K (.ref a.zK) (.ref a.zq) = some false
  ZI : PySem.W.exmOne K (.ref a.zq) (.ref a.zq) = some true
  zaN : PySem.W.exmOne K (.ref a.zd) (.ref a.zq) = some false
  zbx : PySem.W.exmOne K (.ref a.zA) (.ref a.zd) = some false
  zbt : PySem.W.exmOne K (.ref a.zK) (.ref a.zd) = some false
  zaW : PySem.W.exmOne K (.ref a.zq) (.ref a.zd) = some false
  Ze : PySem.W.exmOne K (.ref a.zd) (.ref a.zd) = some true
  zf5 : Fun K "bytes_of" "bytes_of" zaI a.ZO a.zcQ
  zis : Binds K a.zcQ ["word"] []
  zhW : mg "bytes_of" = some (.ref a.ZO)
  zlA : Fun K "split_at" "split_at" zbm a.zaH a.zfV
  zpl : Binds K a.zfV ["row", "sign"] []
  zp7 : mg "split_at" = some (.ref a.zaH)
  zns : Fun K "lines_joined" "lines_joined" Zh a.Zw a.ze3
  zu3 : Binds K a.ze3 ["lines"] []
  zuI : mg "lines_joined" = some (.ref a.Zw)
  zry : Fun K "read_lines" "read_lines" ZV a.zaw a.zhv
  zxX : Binds K a.zhv ["text", "reader"] []
  zx4 : mg "read_lines" = some (.ref a.zaw)
  zgM : Fun K "fields_behind" "fields_behind" yY a.yW a.zcd
  zmk : Binds K a.zcd ["word", "line"] []
  zl7 : mg "fields_behind" = some (.ref a.yW)
  znJ : Fun K "field_behind" "field_behind" Zg a.Zz a.zeR
  zuh : Binds K a.zeR ["word", "line"] []
  zur : mg "field_behind" = some (.ref a.Zz)
  znH : Fun K "number_in" "number_in" Z0 a.zax a.zgB
  zsN : Binds K a.zgB ["field"] []
  zsQ : mg "number_in" = some (.ref a.zax)
  zfY : Fun K "number_from_to" "number_from_to" yQ a.Zc a.zdk
  zkr : Binds K a.zdk ["field", "least", "most"] []
  zj2 : mg "number_from_to" = some (.ref a.Zc)
  zw5 : Fun K "name_in" "name_in" zbC a.zdj a.zoj
  zBZ : Binds K a.zoj ["field"] []
  zCA : mg "name_in" = some (.ref a.zdj)
  zqO : Fun K "head_value" "head_value" ZY a.zav a.zhF
  zyD : Binds K a.zhF ["number", "line"] []
  zxa : mg "head_value" = some (.ref a.zav)
  zzb : Fun K "end_in" "end_in" zdN a.zeX a.zq7
  zCS : Binds K a.zq7 ["field"] []
  zCY : mg "end_in" = some (.ref a.zeX)
  zqX : Fun K "opening_in" "opening_in" Zk a.zau a.zhp
  zyI : Binds K a.zhp ["line", "length", "height", "before"] []
  zxi : mg "opening_in" = some (.ref a.zau)
  zs4 : Fun K "read_site" "read_site" Z5 a.za5 a.ziI
  zzK : Binds K a.ziI ["text"] []
  zzw : mg "read_site" = some (.ref a.za5)
  zgk : Fun K "begins_with" "begins_with" Zs a.Zu a.zdC
  zjy : Binds K a.zdC ["line", "start"] []
  zjw : mg "begins_with" = some (.ref a.Zu)
  zsG : Fun K "corner_in" "corner_in" zay a.zbj a.ziE
  zzc : Binds K a.ziE ["line", "walls", "before"] []
  zzU : mg "corner_in" = some (.ref a.zbj)
  zoT : Fun K "corner_told" "corner_told" Zt a.ZP a.zgo
  zwa : Binds K a.zgo ["line", "walls"] []
  zwd : mg "corner_told" = some (.ref a.ZP)
  zpw : Fun K "end_told" "end_told" zah a.zb1 a.zlL
  zuy : Binds K a.zlL ["fields", "walls"] []
  zuW : mg "end_told" = some (.ref a.zb1)
  zqy : Fun K "ends_taken" "ends_taken" ZR a.zam a.zhu
  zxs : Binds K a.zhu ["corners"] []
  zxk : mg "ends_taken" = some (.ref a.zam)
  zo6 : Fun K "go_together" "go_together" Zf a.ZZ a.zgj
  zvU : Binds K a.zgj ["corner", "walls", "taken"] []
  zvZ : mg "go_together" = some (.ref a.ZZ)
  zt4 : Fun K "end_of" "end_of" zdH a.zfe a.zqq
  zy2 : Binds K a.zqq ["wall", "side"] []
  zzG : mg "end_of" = some (.ref a.zfe)
  zsV : Fun K "end_place" "end_place" zaz a.zba a.zi4
  zy1 : Binds K a.zi4 ["wall", "side"] []
  zy0 : mg "end_place" = some (.ref a.zba)
  ziV : Fun K "may_have_corner" "may_have_corner" yk a.yS a.zcz
  zqn : Binds K a.zcz ["end", "walls", "taken"] []
  zro : mg "may_have_corner" = some (.ref a.yS)
  zEx : Fun K "site" "site" zjU a.zjp a.zso
  zGi : Binds K a.zso ["u"] []
  zFO : mg "site" = some (.ref a.zjp)
  zwI : Fun K "site_of" "site_of" zcj a.zc7 a.zob
  zBK : Binds K a.zob ["u"] []
  zBX : mg "site_of" = some (.ref a.zc7)
  zoG : Fun K "refuse_long" "refuse_long" Zr a.ZQ a.zgd
  zvY : Binds K a.zgd ["rows"] []
  zvI : mg "refuse_long" = some (.ref a.ZQ)
  zwi : Fun K "refused" "refused" zci a.zdd a.zn7
  zB5 : Binds K a.zn7 ["refusal"] []
  zBO : mg "refused" = some (.ref a.zdd)
  zg4 : Fun K "refused_with_line" "refused_with_line" yi a.yA a.zbu
  zow : Binds K a.zbu ["fault"] []
  zoA : mg "refused_with_line" = some (.ref a.yA)
  zrb : Fun K "answer" "answer" zdF a.zc3 a.zjZ
  zu5 : Binds K a.zjZ ["number", "row", "signs"] []
  zun : mg "answer" = some (.ref a.zc3)
  ZX : mg "OTHER_LINE" = some (.int 1 a.zhD)
  zgT : mg "OUT_OF_BOUNDS" = some (.int 2 a.zdX)
  zuL : mg "OUT_OF_ORDER" = some (.int 3 a.zfb)
  zq5 : mg "PLACE_IN_COMMON" = some (.int 4 a.zcF)
  zAo : mg "TOO_MANY" = some (.int 5 a.zkP)
  zxR : mg "NAME_TAKEN" = some (.int 6 a.zhJ)
  zxS : mg "FIFTH_WALL" = some (.int 7 a.zhy)
  zi2 : mg "NO_CORNER" = some (.int 8 a.ziY)
  zmE : mg "CORNER_OUT_OF_ORDER" = some (.int 9 a.zaV)
  zzy : mg "END_TAKEN" = some (.int 10 a.ziZ)
  zyk : mg "ENDS_APART" = some (.int 11 a.zhK)
  zsU : mg "LINE_FEED" = some (.int 10 a.ziC)
  zA5 : mg "BLANK" = some (.int 32 a.ztR)
  zuF : mg "NOUGHT" = some (.int 48 a.zqk)
  zET : mg "NINE" = some (.int 57 a.zyo)
  zvu : mg "FIRST_LETTER" = some (.int 97 a.zfv)
  zvK : mg "LAST_LETTER" = some (.int 122 a.zgr)
  zvX : mg "MOST_DIGITS" = some (.int 5 a.zgu)
  zoq : mg "MOST_NAME_LETTERS" = some (.int 15 a.zbs)
  zq4 : mg "HEAD_WORDS" = some (.ref a.ZW)
  zrh : ∀ H : Hp, SqT K H a.ZW [.str "wall", .str "long", .str "high", .str "left", .str "right", .str "reveal"]
  zue : mg "OPENING_WORD" = some (.str "open" a.zfq)
  zzO : mg "END_WORDS" = some (.ref a.za8)
  zs1 : ∀ H : Hp, SqT K H a.za8 [.str "free", .str "side", .str "end"]
  zED : mg "SIDE" = some (.int 1 a.zyt)
  zFG : mg "END" = some (.int 2 a.zBo)
  zvJ : mg "MOST_LENGTH" = some (.int 32 a.zgn)
  zvE : mg "MOST_HEIGHT" = some (.int 8 a.zgq)
  ztq : mg "MOST_OPENINGS" = some (.int 8 a.zdT)
  zxT : mg "WALL_START" = some (.str "wall " a.zhw)
  zm2 : mg "CORNER_START" = some (.str "corner " a.zeG)
  zvF : mg "CORNER_WORD" = some (.str "corner" a.zgm)
  zvQ : mg "CORNER_ENDS" = some (.ref a.ZU)
  zoY : ∀ H : Hp, SqT K H a.ZU [.str "left", .str "right"]
  zDa : mg "LEFT" = some (.int 0 a.zxj)
  zxJ : mg "MOST_WALLS" = some (.int 4 a.zhs)
  zkl : mg "LEAST_BETWEEN_CORNERS" = some (.int 5 a.Z8)
  zw9 : mg "MOST_BYTES" = some (.int 4096 a.zhH)
  z_all : mg "all" = none
  z_any : mg "any" = none
  z_enumerate : mg "enumerate" = none
  z_len : mg "len" = none
  z_ord : mg "ord" = none
  z_range : mg "range" = none
  z_sorted : mg "sorted" = none
theorem txt_mk {K : PySem.W.Frag} {h : Heap} {mg : Str → Option Value} {fa : Addr} {zA zU zK yr zq yg zd zv zh yw z0 zQ yZ yP zS y9 Zj zk z4 zT yn yo zB yE zaj Za zu z7 zW zH yR zP yc ZO zaH Zw zaw yW Zz zax Zc zdj zav zeX zau za5 Zu zbj ZP zb1 zam ZZ zfe zba yS zjp zc7 ZQ zdd yA zc3 ZW za8 ZU : Addr} {zhD zdX zfb zcF zkP zhJ zhy ziY zaV ziZ zhK ziC ztR zqk zyo zfv zgr zgu zbs zfq zyt zBo zgn zgq zdT zhw zeG zgm zxj zhs Z8 zhH : Tok} {zyN zsM zs0 zsH znf zte zzg zs8 zsT zsJ znk ztb ztl zma zmm zme zgZ zmf zvV zoN zoK zo0 zjX zoX zsB zkw zkg zki zfT zkk zts zml zmg zmj zgQ zl6 zyf zqD zqE zru zlg zrs zrg ziA ziH ziW zeI ziR zAk zua zvc zu1 zpp zuZ zwf zoZ zo4 zoS zjn zoI zCm zw3 zwl zwV zr4 zwO zv7 zo3 zoM zo7 zjT zoU zyi zrn zrp zqr zlx zqQ zvs znU znQ zny zh5 zmS zxZ zrC zrw zqs zli zqW zu8 znS znl znF ziw zmV zy3 zsI zsL zs7 zn0 zsS zvN zoR zoL zo5 zjH zoJ zvt zno zmU zmZ zhQ znm zCq zw2 zwN zwT zrQ zwH zyx zqM zrv zq3 zlT zqp zpa zhZ zij zh3 zeh ziv zEa zBB zA3 zBu zxh zBi zAl zuR zum zuY zpV zuS zuk znd znv znc zhS znW zAf zuP zug zvr zo9 zuU znL zgF zgA zgE zcW zgK zCo zwn zwL zwZ zsf zwr zor zhe zhh zg7 zdt zg9 zop zha zhi zhg zdo zhj zmF zfJ zfK zfE zct zfC zmL zfO zfM zfA zcm zfI zou zhc zhb zhd zdn zhk zlK zfg zfh zfx zcb zfu zjf zdL zdD zdE zbk zdO zsA zkz zj0 zj1 zf4 zkb zqY zja zi7 ziM ze6 zi1 zsr zj3 zkx zkv zf0 zkI ztz zmc zl5 zmh zgY zmo zl2 ze0 zfl zff zbV zeP zlS ze7 zeU zfk zb0 zfr zpq zil zh6 zh7 zd9 zhX zj6 zer zeu zez zbB zeA zpy zia zit zh8 zea zhU zsu zkE zj8 zkp zf2 zj4 zlz zeW zfp zeY zb8 ze1 zmN zfL zfQ zfD zcr zfB zjb zdv zdB zdR zbl zdI zpE zh2 zio zii zeg zhR zjq zdP zdy zdA zbn zdx zkC zen zet zeB zbG zeo : Value} {zzz zsP zy5 ztf ztI zl9 zvR zoW zrH zkt ztF zmd zxW zrE zq0 ziO zAW zuz zv3 zoF zB1 zww zwc zoQ zx0 zra zu6 znh zyl zqo zvp znp zyX ztj zvW zoH zuq zn2 zCh zwt zxq zrq zpg zie zDR zBg zAS zuK ztZ znu zAT zt5 zmY zgz zCl zwG zov zg5 zon zhl zmO zfN zmw zfP zoy zg6 zlf zeE zjE zdM zr3 zj9 zrx zi6 zrY zj7 ztw zmi zlX zeQ zkO ze4 zqd zh4 zkd zev zpJ zim zsh zku zlC zeV zmP zfG zjV zdJ zps zid zjt zdQ zkD zel : Option Addr} {zzl zyQ ztE zvL zr8 ztn zx1 zqw zAH zwe zBE zv9 zyg zvo zyj zvf zy9 zwg zvm zCB zyw zqc zEd zAi zvk zzX znj zBU zoB zoC zmJ zmI zox zlv zjJ zsj zrB zrP ztD zkZ zlQ zpz zkm zpv zrS zlq zmD zjI zpP zjd zkj : Array (Option Value)} {zv2 zv5 zv1 zvw zv0 zvC zxD zxA zx2 zt0 zuj : Tok} {zv4 zw7 ztX : Option Addr} {zvD zyv zt6 : Nat} {zvS zxc zvq : Array (Option Value)} (KX : K.In h) (G : h.Ns mainGlobals mg) (hfa : mg "site" = some (.ref fa))
    (zse : PySem.W.nsIn K mainGlobals "Refusal" = some (some (.ref zA)))
    (zee : PySem.W.findIn K (.ref zA) "__init__" = some (some (.ref zU)))
    (zej : PySem.W.isFn K (.ref zU) = true)
    (zbX : K.lookup zU = some ⟨zor, zov, .func (PySem.W.fnOf "__init__" "Refusal.__init__" (zn yu) (zm yu) (za yu) .none zhe zhh zg7 zg5 zdt zg9), zoB⟩)
    (zbS : PySem.W.codeIn K zdt "Refusal.__init__" = true)
    (zaE : PySem.W.keepIn K (.ref zU) = true)
    (zpO : zrN K zA = true)
    (zpj : PySem.W.hasDictIn K zA = true)
    (zp9 : PySem.W.findIn K (.ref zA) "__setattr__" = some (some (.builtin "object.__setattr__")))
    (zpi : PySem.W.findIn K (.ref zA) "__getattribute__" = some (some (.builtin "BaseException.__getattribute__")))
    (zpn : PySem.W.findIn K (.ref zA) "__getattr__" = some none)
    (zpM : zfR K zA = true)
    (zpb : PySem.W.keepIn K (.ref zA) = true)
    (zpL : PySem.W.mroIn K zA (.type "BaseException") = some true)
    (zp5 : PySem.W.typeIn K (.ref zA) = some (.type "type"))
    (zda : PySem.W.findIn K (.ref zA) "number" = some none)
    (zeZ : PySem.W.findIn K (.ref zA) "told" = some none)
    (zrW : PySem.W.nsIn K mainGlobals "TooLong" = some (some (.ref zK)))
    (zeb : PySem.W.findIn K (.ref zK) "__init__" = some (some (.ref yr)))
    (zed : PySem.W.isFn K (.ref yr) = true)
    (zb5 : K.lookup yr = some ⟨zop, zon, .func (PySem.W.fnOf "__init__" "TooLong.__init__" (zn yt) (zm yt) (za yt) .none zha zhi zhg zhl zdo zhj), zoC⟩)
    (zca : PySem.W.codeIn K zdo "TooLong.__init__" = true)
    (zbY : PySem.W.keepIn K (.ref yr) = true)
    (zpY : zrN K zK = true)
    (zpQ : PySem.W.hasDictIn K zK = true)
    (zpR : PySem.W.findIn K (.ref zK) "__setattr__" = some (some (.builtin "object.__setattr__")))
    (zpu : PySem.W.findIn K (.ref zK) "__getattribute__" = some (some (.builtin "BaseException.__getattribute__")))
    (zpC : PySem.W.findIn K (.ref zK) "__getattr__" = some none)
    (zpD : zfR K zK = true)
    (zpA : PySem.W.keepIn K (.ref zK) = true)
    (zpS : PySem.W.mroIn K zK (.type "BaseException") = some true)
    (zph : PySem.W.typeIn K (.ref zK) = some (.type "type"))
    (zaD : PySem.W.findIn K (.ref zK) "number" = some none)
    (zbH : PySem.W.findIn K (.ref zK) "told" = some none)
    (zmR : PySem.W.nsIn K mainGlobals "TextFault" = some (some (.ref zq)))
    (zc4 : PySem.W.findIn K (.ref zq) "__init__" = some (some (.ref yg)))
    (zcR : PySem.W.isFn K (.ref yg) = true)
    (zbd : K.lookup yg = some ⟨zmF, zmO, .func (PySem.W.fnOf "__init__" "TextFault.__init__" (zn yh) (zm yh) (za yh) .none zfJ zfK zfE zfN zct zfC), zmJ⟩)
    (za3 : PySem.W.codeIn K zct "TextFault.__init__" = true)
    (zbf : PySem.W.keepIn K (.ref yg) = true)
    (zlW : zrN K zq = true)
    (zlH : PySem.W.hasDictIn K zq = true)
    (zlk : PySem.W.findIn K (.ref zq) "__setattr__" = some (some (.builtin "object.__setattr__")))
    (zlD : PySem.W.findIn K (.ref zq) "__getattribute__" = some (some (.builtin "BaseException.__getattribute__")))
    (zk7 : PySem.W.findIn K (.ref zq) "__getattr__" = some none)
    (zlr : zfR K zq = true)
    (zlc : PySem.W.keepIn K (.ref zq) = true)
    (zlu : PySem.W.mroIn K zq (.type "BaseException") = some true)
    (zk0 : PySem.W.typeIn K (.ref zq) = some (.type "type"))
    (zaB : PySem.W.findIn K (.ref zq) "kind" = some none)
    (zaC : PySem.W.findIn K (.ref zq) "line" = some none)
    (ZL : PySem.W.findIn K (.ref zq) "number" = some none)
    (zbI : PySem.W.findIn K (.ref zq) "told" = some none)
    (zm8 : PySem.W.nsIn K mainGlobals "LineFault" = some (some (.ref zd)))
    (zcS : PySem.W.findIn K (.ref zd) "__init__" = some (some (.ref zv)))
    (zc6 : PySem.W.isFn K (.ref zv) = true)
    (zbc : K.lookup zv = some ⟨zmL, zmw, .func (PySem.W.fnOf "__init__" "LineFault.__init__" (zn ye) (zm ye) (za ye) .none zfO zfM zfA zfP zcm zfI), zmI⟩)
    (za7 : PySem.W.codeIn K zcm "LineFault.__init__" = true)
    (zbi : PySem.W.keepIn K (.ref zv) = true)
    (zkU : zrN K zd = true)
    (zlV : PySem.W.hasDictIn K zd = true)
    (zl3 : PySem.W.findIn K (.ref zd) "__setattr__" = some (some (.builtin "object.__setattr__")))
    (zlZ : PySem.W.findIn K (.ref zd) "__getattribute__" = some (some (.builtin "BaseException.__getattribute__")))
    (zkK : PySem.W.findIn K (.ref zd) "__getattr__" = some none)
    (zlE : zfR K zd = true)
    (zlG : PySem.W.keepIn K (.ref zd) = true)
    (zlR : PySem.W.mroIn K zd (.type "BaseException") = some true)
    (zl1 : PySem.W.typeIn K (.ref zd) = some (.type "type"))
    (ZN : PySem.W.findIn K (.ref zd) "kind" = some none)
    (zsx : PySem.W.nsIn K mainGlobals "Opening" = some (some (.ref zh)))
    (zei : PySem.W.findIn K (.ref zh) "__init__" = some (some (.ref yw)))
    (zek : PySem.W.isFn K (.ref yw) = true)
    (zbR : K.lookup yw = some ⟨zou, zoy, .func (PySem.W.fnOf "__init__" "Opening.__init__" (zn yq) (zm yq) (za yq) .none zhc zhb zhd zg6 zdn zhk), zox⟩)
    (zb6 : PySem.W.codeIn K zdn "Opening.__init__" = true)
    (zbT : PySem.W.keepIn K (.ref yw) = true)
    (zcu : PySem.W.findIn K (.ref zh) "lies_within" = some (some (.ref z0)))
    (zcn : PySem.W.isFn K (.ref z0) = true)
    (zaJ : K.lookup z0 = some ⟨zlK, zlf, .func (PySem.W.fnOf "lies_within" "Opening.lies_within" (zn z5) (zm z5) (za z5) .none zfg zfh zfx zeE zcb zfu), zlv⟩)
    (zaY : PySem.W.codeIn K zcb "Opening.lies_within" = true)
    (ZH : PySem.W.keepIn K (.ref z0) = true)
    (zbL : PySem.W.findIn K (.ref zh) "stands_behind" = some (some (.ref zQ)))
    (zbO : PySem.W.isFn K (.ref zQ) = true)
    (zag : K.lookup zQ = some ⟨zjf, zjE, .func (PySem.W.fnOf "stands_behind" "Opening.stands_behind" (zn zO) (zm zO) (za zO) .none zdL zdD zdE zdM zbk zdO), zjJ⟩)
    (zab : PySem.W.codeIn K zbk "Opening.stands_behind" = true)
    (Zm : PySem.W.keepIn K (.ref zQ) = true)
    (zgO : PySem.W.findIn K (.ref zh) "meets" = some (some (.ref yZ)))
    (zgS : PySem.W.isFn K (.ref yZ) = true)
    (zdY : K.lookup yZ = some ⟨zsA, zr3, .func (PySem.W.fnOf "meets" "Opening.meets" (zn y8) (zm y8) (za y8) .none zkz zj0 zj1 zj9 zf4 zkb), zsj⟩)
    (zd3 : PySem.W.codeIn K zf4 "Opening.meets" = true)
    (zcc : PySem.W.keepIn K (.ref yZ) = true)
    (zf1 : PySem.W.findIn K (.ref zh) "covers" = some (some (.ref yP)))
    (zf9 : PySem.W.isFn K (.ref yP) = true)
    (zdl : K.lookup yP = some ⟨zqY, zrx, .func (PySem.W.fnOf "covers" "Opening.covers" (zn yO) (zm yO) (za yO) .none zja zi7 ziM zi6 ze6 zi1), zrB⟩)
    (zdi : PySem.W.codeIn K ze6 "Opening.covers" = true)
    (zbE : PySem.W.keepIn K (.ref yP) = true)
    (zpX : PySem.W.plainGet K zh Str.empty = true)
    (zpt : PySem.W.hasDictIn K zh = true)
    (zpF : PySem.W.plainOver K zh = true)
    (zp0 : PySem.W.findIn K (.ref zh) "__setattr__" = some (some (.builtin "object.__setattr__")))
    (zpZ : PySem.W.makesIn K zh = true)
    (zo8 : PySem.W.keepIn K (.ref zh) = true)
    (Zy : PySem.W.findIn K (.ref zh) "high" = some none)
    (Zv : PySem.W.findIn K (.ref zh) "wide" = some none)
    (Z3 : PySem.W.findIn K (.ref zh) "x" = some none)
    (Z1 : PySem.W.findIn K (.ref zh) "y" = some none)
    (zz5 : PySem.W.nsIn K mainGlobals "Wall" = some (some (.ref zS)))
    (zgW : PySem.W.findIn K (.ref zS) "__init__" = some (some (.ref y9)))
    (zgU : PySem.W.isFn K (.ref y9) = true)
    (zd5 : K.lookup y9 = some ⟨zsr, zrY, .func (PySem.W.fnOf "__init__" "Wall.__init__" (zn yX) (zm yX) (za yX) .none zj3 zkx zkv zj7 zf0 zkI), zrP⟩)
    (zdS : PySem.W.codeIn K zf0 "Wall.__init__" = true)
    (zdZ : PySem.W.keepIn K (.ref y9) = true)
    (zh9 : PySem.W.findIn K (.ref zS) "is_open" = some (some (.ref Zj)))
    (zhY : PySem.W.isFn K (.ref Zj) = true)
    (zfs : K.lookup Zj = some ⟨ztz, ztw, .func (PySem.W.fnOf "is_open" "Wall.is_open" (zn yV) (zm yV) (za yV) .none zmc zl5 zmh zmi zgY zmo), ztD⟩)
    (ze2 : PySem.W.codeIn K zgY "Wall.is_open" = true)
    (zc2 : PySem.W.keepIn K (.ref Zj) = true)
    (zxn : PySem.W.plainGet K zS Str.empty = true)
    (zx6 : PySem.W.hasDictIn K zS = true)
    (zyp : PySem.W.plainOver K zS = true)
    (zyE : PySem.W.findIn K (.ref zS) "__setattr__" = some (some (.builtin "object.__setattr__")))
    (zxQ : PySem.W.makesIn K zS = true)
    (zxE : PySem.W.keepIn K (.ref zS) = true)
    (zaA : PySem.W.findIn K (.ref zS) "height" = some none)
    (zes : PySem.W.findIn K (.ref zS) "left" = some none)
    (zbq : PySem.W.findIn K (.ref zS) "length" = some none)
    (zeq : PySem.W.findIn K (.ref zS) "name" = some none)
    (za0 : PySem.W.findIn K (.ref zS) "openings" = some none)
    (zdK : PySem.W.findIn K (.ref zS) "reveal" = some none)
    (zdg : PySem.W.findIn K (.ref zS) "right" = some none)
    (zlt : PySem.W.nsIn K mainGlobals "WallReader" = some (some (.ref zk)))
    (zcx : PySem.W.findIn K (.ref zk) "__init__" = some (some (.ref z4)))
    (zcw : PySem.W.isFn K (.ref z4) = true)
    (zaQ : K.lookup z4 = some ⟨zl2, zlX, .func (PySem.W.fnOf "__init__" "WallReader.__init__" (zn z6) (zm z6) (za z6) .none ze0 zfl zff zeQ zbV zeP), zkZ⟩)
    (zaR : PySem.W.codeIn K zbV "WallReader.__init__" = true)
    (zaP : PySem.W.keepIn K (.ref z4) = true)
    (zcl : PySem.W.findIn K (.ref zk) "has_head" = some (some (.ref zT)))
    (zck : PySem.W.isFn K (.ref zT) = true)
    (zaO : K.lookup zT = some ⟨zlS, zkO, .func (PySem.W.fnOf "has_head" "WallReader.has_head" (zn zZ) (zm zZ) (za zZ) .none ze7 zeU zfk ze4 zb0 zfr), zlQ⟩)
    (zaL : PySem.W.codeIn K zb0 "WallReader.has_head" = true)
    (ZJ : PySem.W.keepIn K (.ref zT) = true)
    (zeH : PySem.W.findIn K (.ref zk) "take" = some (some (.ref yn)))
    (zeM : PySem.W.isFn K (.ref yn) = true)
    (zcH : K.lookup yn = some ⟨zpq, zqd, .func (PySem.W.fnOf "take" "WallReader.take" (zn yH) (zm yH) (za yH) .none zil zh6 zh7 zh4 zd9 zhX), zpz⟩)
    (zcA : PySem.W.codeIn K zd9 "WallReader.take" = true)
    (za9 : PySem.W.keepIn K (.ref yn) = true)
    (zbU : PySem.W.findIn K (.ref zk) "take_rest" = some (some (.ref yo)))
    (zb2 : PySem.W.isFn K (.ref yo) = true)
    (zan : K.lookup yo = some ⟨zj6, zkd, .func (PySem.W.fnOf "take_rest" "WallReader.take_rest" (zn yb) (zm yb) (za yb) .none zer zeu zez zev zbB zeA), zkm⟩)
    (zao : PySem.W.codeIn K zbB "WallReader.take_rest" = true)
    (ZB : PySem.W.keepIn K (.ref yo) = true)
    (zjR : PySem.W.plainGet K zk Str.empty = true)
    (zjc : PySem.W.hasDictIn K zk = true)
    (zjK : PySem.W.plainOver K zk = true)
    (zjg : PySem.W.findIn K (.ref zk) "__setattr__" = some (some (.builtin "object.__setattr__")))
    (zjm : PySem.W.makesIn K zk = true)
    (zjs : PySem.W.keepIn K (.ref zk) = true)
    (zY : PySem.W.findIn K (.ref zk) "head" = some none)
    (yU : PySem.W.findIn K (.ref zk) "lines" = some none)
    (yy : PySem.W.findIn K (.ref zk) "openings" = some none)
    (zvj : PySem.W.nsIn K mainGlobals "Corner" = some (some (.ref zB)))
    (ze9 : PySem.W.findIn K (.ref zB) "__init__" = some (some (.ref yE)))
    (zfj : PySem.W.isFn K (.ref yE) = true)
    (zcD : K.lookup yE = some ⟨zpy, zpJ, .func (PySem.W.fnOf "__init__" "Corner.__init__" (zn yG) (zm yG) (za yG) .none zia zit zh8 zim zea zhU), zpv⟩)
    (zcy : PySem.W.codeIn K zea "Corner.__init__" = true)
    (zcI : PySem.W.keepIn K (.ref yE) = true)
    (zst : PySem.W.plainGet K zB Str.empty = true)
    (zsw : PySem.W.hasDictIn K zB = true)
    (zss : PySem.W.plainOver K zB = true)
    (zrR : PySem.W.findIn K (.ref zB) "__setattr__" = some (some (.builtin "object.__setattr__")))
    (zsa : PySem.W.makesIn K zB = true)
    (zr1 : PySem.W.keepIn K (.ref zB) = true)
    (yC : PySem.W.findIn K (.ref zB) "first" = some none)
    (yM : PySem.W.findIn K (.ref zB) "second" = some none)
    (zzZ : PySem.W.nsIn K mainGlobals "Site" = some (some (.ref zaj)))
    (zg3 : PySem.W.findIn K (.ref zaj) "__init__" = some (some (.ref Za)))
    (zgV : PySem.W.isFn K (.ref Za) = true)
    (zd6 : K.lookup Za = some ⟨zsu, zsh, .func (PySem.W.fnOf "__init__" "Site.__init__" (zn Zb) (zm Zb) (za Zb) .none zkE zj8 zkp zku zf2 zj4), zrS⟩)
    (zdW : PySem.W.codeIn K zf2 "Site.__init__" = true)
    (zdU : PySem.W.keepIn K (.ref Za) = true)
    (zxe : PySem.W.plainGet K zaj Str.empty = true)
    (zxC : PySem.W.hasDictIn K zaj = true)
    (zxM : PySem.W.plainOver K zaj = true)
    (zx9 : PySem.W.findIn K (.ref zaj) "__setattr__" = some (some (.builtin "object.__setattr__")))
    (zyF : PySem.W.makesIn K zaj = true)
    (zxd : PySem.W.keepIn K (.ref zaj) = true)
    (zcV : PySem.W.findIn K (.ref zaj) "corners" = some none)
    (zfm : PySem.W.findIn K (.ref zaj) "texts" = some none)
    (zc9 : PySem.W.findIn K (.ref zaj) "walls" = some none)
    (zkW : PySem.W.nsIn K mainGlobals "SiteReader" = some (some (.ref zu)))
    (zcp : PySem.W.findIn K (.ref zu) "__init__" = some (some (.ref z7)))
    (zcs : PySem.W.isFn K (.ref z7) = true)
    (zaX : K.lookup z7 = some ⟨zlz, zlC, .func (PySem.W.fnOf "__init__" "SiteReader.__init__" (zn z8) (zm z8) (za z8) .none zeW zfp zeY zeV zb8 ze1), zlq⟩)
    (zaU : PySem.W.codeIn K zb8 "SiteReader.__init__" = true)
    (zaT : PySem.W.keepIn K (.ref z7) = true)
    (zc0 : PySem.W.findIn K (.ref zu) "in_head" = some (some (.ref zW)))
    (zcU : PySem.W.isFn K (.ref zW) = true)
    (za2 : K.lookup zW = some ⟨zmN, zmP, .func (PySem.W.fnOf "in_head" "SiteReader.in_head" (zn yf) (zm yf) (za yf) .none zfL zfQ zfD zfG zcr zfB), zmD⟩)
    (zbb : PySem.W.codeIn K zcr "SiteReader.in_head" = true)
    (Z2 : PySem.W.keepIn K (.ref zW) = true)
    (zbF : PySem.W.findIn K (.ref zu) "walls_read" = some (some (.ref zH)))
    (zbD : PySem.W.isFn K (.ref zH) = true)
    (Z7 : K.lookup zH = some ⟨zjb, zjV, .func (PySem.W.fnOf "walls_read" "SiteReader.walls_read" (zn zE) (zm zE) (za zE) .none zdv zdB zdR zdJ zbl zdI), zjI⟩)
    (zaf : PySem.W.codeIn K zbl "SiteReader.walls_read" = true)
    (Zn : PySem.W.keepIn K (.ref zH) = true)
    (zeJ : PySem.W.findIn K (.ref zu) "take" = some (some (.ref yR)))
    (zeF : PySem.W.isFn K (.ref yR) = true)
    (zcE : K.lookup yR = some ⟨zpE, zps, .func (PySem.W.fnOf "take" "SiteReader.take" (zn yF) (zm yF) (za yF) .none zh2 zio zii zid zeg zhR), zpP⟩)
    (zcN : PySem.W.codeIn K zeg "SiteReader.take" = true)
    (zbg : PySem.W.keepIn K (.ref yR) = true)
    (zbN : PySem.W.findIn K (.ref zu) "begin_wall" = some (some (.ref zP)))
    (zbK : PySem.W.isFn K (.ref zP) = true)
    (Z9 : K.lookup zP = some ⟨zjq, zjt, .func (PySem.W.fnOf "begin_wall" "SiteReader.begin_wall" (zn zG) (zm zG) (za zG) .none zdP zdy zdA zdQ zbn zdx), zjd⟩)
    (zaa : PySem.W.codeIn K zbn "SiteReader.begin_wall" = true)
    (Zo : PySem.W.keepIn K (.ref zP) = true)
    (zb9 : PySem.W.findIn K (.ref zu) "take_rest" = some (some (.ref yc)))
    (zbZ : PySem.W.isFn K (.ref yc) = true)
    (zar : K.lookup yc = some ⟨zkC, zkD, .func (PySem.W.fnOf "take_rest" "SiteReader.take_rest" (zn zV) (zm zV) (za zV) .none zen zet zeB zel zbG zeo), zkj⟩)
    (zas : PySem.W.codeIn K zbG "SiteReader.take_rest" = true)
    (Zx : PySem.W.keepIn K (.ref yc) = true)
    (zjB : PySem.W.plainGet K zu Str.empty = true)
    (zjh : PySem.W.hasDictIn K zu = true)
    (zjP : PySem.W.plainOver K zu = true)
    (zjz : PySem.W.findIn K (.ref zu) "__setattr__" = some (some (.builtin "object.__setattr__")))
    (zjW : PySem.W.makesIn K zu = true)
    (zjS : PySem.W.keepIn K (.ref zu) = true)
    (yd : PySem.W.findIn K (.ref zu) "corners" = some none)
    (zx : PySem.W.findIn K (.ref zu) "readers" = some none)
    (zdq : PySem.W.specialIn K (.ref zA) "__getattribute__" = some (some (.builtin "type.__getattribute__")))
    (zdm : PySem.W.readsIn K zA (.type "type") = true)
    (zdu : PySem.W.findCls K (.ref zA) (.type "type") "__init__" = some (.val (.ref zU)))
    (zcL : PySem.W.exmOne K (.ref zA) (.ref zA) = some true)
    (zbh : PySem.W.exmOne K (.ref zK) (.ref zA) = some true)
    (zbw : PySem.W.exmOne K (.ref zq) (.ref zA) = some true)
    (zbv : PySem.W.exmOne K (.ref zd) (.ref zA) = some false)
    (zbA : PySem.W.exmOne K (.ref zA) (.ref zq) = some false)
    (zal : PySem.W.exmOne K (.ref zK) (.ref zq) = some false)
    (ZI : PySem.W.exmOne K (.ref zq) (.ref zq) = some true)
    (zaN : PySem.W.exmOne K (.ref zd) (.ref zq) = some false)
    (zbx : PySem.W.exmOne K (.ref zA) (.ref zd) = some false)
    (zbt : PySem.W.exmOne K (.ref zK) (.ref zd) = some false)
    (zaW : PySem.W.exmOne K (.ref zq) (.ref zd) = some false)
    (Ze : PySem.W.exmOne K (.ref zd) (.ref zd) = some true)
    (zqf : PySem.W.nsIn K mainGlobals "bytes_of" = some (some (.ref ZO)))
    (zkM : K.lookup ZO = some ⟨zyN, zzz, .func (PySem.W.fnOf "bytes_of" "bytes_of" (zn zaI) (zm zaI) (za zaI) .none zsM zs0 zsH zsP znf zte), zzl⟩)
    (zk2 : PySem.W.codeIn K znf "bytes_of" = true)
    (zkV : PySem.W.keepIn K (.ref ZO) = true)
    (zqb : PySem.W.nsIn K mainGlobals "split_at" = some (some (.ref zaH)))
    (zl0 : K.lookup zaH = some ⟨zzg, zy5, .func (PySem.W.fnOf "split_at" "split_at" (zn zbm) (zm zbm) (za zbm) .none zs8 zsT zsJ ztf znk ztb), zyQ⟩)
    (zkY : PySem.W.codeIn K znk "split_at" = true)
    (zlI : PySem.W.keepIn K (.ref zaH) = true)
    (zhO : PySem.W.nsIn K mainGlobals "lines_joined" = some (some (.ref Zw)))
    (zeN : K.lookup Zw = some ⟨ztl, ztI, .func (PySem.W.fnOf "lines_joined" "lines_joined" (zn Zh) (zm Zh) (za Zh) .none zma zmm zme zl9 zgZ zmf), ztE⟩)
    (zeS : PySem.W.codeIn K zgZ "lines_joined" = true)
    (zeT : PySem.W.keepIn K (.ref Zw) = true)
    (zkT : PySem.W.nsIn K mainGlobals "read_lines" = some (some (.ref zaw)))
    (zhz : K.lookup zaw = some ⟨zvV, zvR, .func (PySem.W.fnOf "read_lines" "read_lines" (zn ZV) (zm ZV) (za ZV) .none zoN zoK zo0 zoW zjX zoX), zvL⟩)
    (zhq : PySem.W.codeIn K zjX "read_lines" = true)
    (zhE : PySem.W.keepIn K (.ref zaw) = true)
    (zgX : PySem.W.nsIn K mainGlobals "fields_behind" = some (some (.ref yW)))
    (zd0 : K.lookup yW = some ⟨zsB, zrH, .func (PySem.W.fnOf "fields_behind" "fields_behind" (zn yY) (zm yY) (za yY) .none zkw zkg zki zkt zfT zkk), zr8⟩)
    (zdV : PySem.W.codeIn K zfT "fields_behind" = true)
    (zd7 : PySem.W.keepIn K (.ref yW) = true)
    (ziq : PySem.W.nsIn K mainGlobals "field_behind" = some (some (.ref Zz)))
    (zfc : K.lookup Zz = some ⟨zts, ztF, .func (PySem.W.fnOf "field_behind" "field_behind" (zn Zg) (zm Zg) (za Zg) .none zml zmg zmj zmd zgQ zl6), ztn⟩)
    (zfi : PySem.W.codeIn K zgQ "field_behind" = true)
    (zeO : PySem.W.keepIn K (.ref Zz) = true)
    (znO : PySem.W.nsIn K mainGlobals "number_in" = some (some (.ref zax)))
    (ziJ : K.lookup zax = some ⟨zyf, zxW, .func (PySem.W.fnOf "number_in" "number_in" (zn Z0) (zm Z0) (za Z0) .none zqD zqE zru zrE zlg zrs), zx1⟩)
    (ziT : PySem.W.codeIn K zlg "number_in" = true)
    (ziB : PySem.W.keepIn K (.ref zax) = true)
    (zfS : PySem.W.nsIn K mainGlobals "number_from_to" = some (some (.ref Zc)))
    (zde : K.lookup Zc = some ⟨zrg, zq0, .func (PySem.W.fnOf "number_from_to" "number_from_to" (zn yQ) (zm yQ) (za yQ) .none ziA ziH ziW ziO zeI ziR), zqw⟩)
    (zdb : PySem.W.codeIn K zeI "number_from_to" = true)
    (zdf : PySem.W.keepIn K (.ref Zc) = true)
    (zsd : PySem.W.nsIn K mainGlobals "name_in" = some (some (.ref zdj)))
    (zn9 : K.lookup zdj = some ⟨zAk, zAW, .func (PySem.W.fnOf "name_in" "name_in" (zn zbC) (zm zbC) (za zbC) .none zua zvc zu1 zuz zpp zuZ), zAH⟩)
    (zoe : PySem.W.codeIn K zpp "name_in" = true)
    (zn6 : PySem.W.keepIn K (.ref zdj) = true)
    (zln : PySem.W.nsIn K mainGlobals "head_value" = some (some (.ref zav)))
    (zhI : K.lookup zav = some ⟨zwf, zv3, .func (PySem.W.fnOf "head_value" "head_value" (zn ZY) (zm ZY) (za ZY) .none zoZ zo4 zoS zoF zjn zoI), zwe⟩)
    (zhA : PySem.W.codeIn K zjn "head_value" = true)
    (zhL : PySem.W.keepIn K (.ref zav) = true)
    (zud : PySem.W.nsIn K mainGlobals "end_in" = some (some (.ref zeX)))
    (zqS : K.lookup zeX = some ⟨zCm, zB1, .func (PySem.W.fnOf "end_in" "end_in" (zn zdN) (zm zdN) (za zdN) .none zw3 zwl zwV zww zr4 zwO), zBE⟩)
    (zq6 : PySem.W.codeIn K zr4 "end_in" = true)
    (zrG : PySem.W.keepIn K (.ref zeX) = true)
    (zlN : PySem.W.nsIn K mainGlobals "opening_in" = some (some (.ref zau)))
    (zhn : K.lookup zau = some ⟨zv7, zwc, .func (PySem.W.fnOf "opening_in" "opening_in" (zn Zk) (zm Zk) (za Zk) .none zo3 zoM zo7 zoQ zjT zoU), zv9⟩)
    (zhB : PySem.W.codeIn K zjT "opening_in" = true)
    (zhx : PySem.W.keepIn K (.ref zau) = true)
    (zm9 : PySem.W.nsIn K mainGlobals "read_site" = some (some (.ref za5)))
    (ziG : K.lookup za5 = some ⟨zyi, zx0, .func (PySem.W.fnOf "read_site" "read_site" (zn Z5) (zm Z5) (za Z5) .none zrn zrp zqr zra zlx zqQ), zyg⟩)
    (ziL : PySem.W.codeIn K zlx "read_site" = true)
    (zi9 : PySem.W.keepIn K (.ref za5) = true)
    (zju : PySem.W.nsIn K mainGlobals "begins_with" = some (some (.ref Zu)))
    (zgv : K.lookup Zu = some ⟨zvs, zu6, .func (PySem.W.fnOf "begins_with" "begins_with" (zn Zs) (zm Zs) (za Zs) .none znU znQ zny znh zh5 zmS), zvo⟩)
    (zgb : PySem.W.codeIn K zh5 "begins_with" = true)
    (zgf : PySem.W.keepIn K (.ref Zu) = true)
    (zn1 : PySem.W.nsIn K mainGlobals "corner_in" = some (some (.ref zbj)))
    (ziD : K.lookup zbj = some ⟨zxZ, zyl, .func (PySem.W.fnOf "corner_in" "corner_in" (zn zay) (zm zay) (za zay) .none zrC zrw zqs zqo zli zqW), zyj⟩)
    (ziP : PySem.W.codeIn K zli "corner_in" = true)
    (ziQ : PySem.W.keepIn K (.ref zbj) = true)
    (zjj : PySem.W.nsIn K mainGlobals "corner_told" = some (some (.ref ZP)))
    (zgg : K.lookup ZP = some ⟨zu8, zvp, .func (PySem.W.fnOf "corner_told" "corner_told" (zn Zt) (zm Zt) (za Zt) .none znS znl znF znp ziw zmV), zvf⟩)
    (zga : PySem.W.codeIn K ziw "corner_told" = true)
    (zgs : PySem.W.keepIn K (.ref ZP) = true)
    (zpo : PySem.W.nsIn K mainGlobals "end_told" = some (some (.ref zb1)))
    (zlo : K.lookup zb1 = some ⟨zy3, zyX, .func (PySem.W.fnOf "end_told" "end_told" (zn zah) (zm zah) (za zah) .none zsI zsL zs7 ztj zn0 zsS), zy9⟩)
    (zla : PySem.W.codeIn K zn0 "end_told" = true)
    (zk9 : PySem.W.keepIn K (.ref zb1) = true)
    (zk3 : PySem.W.nsIn K mainGlobals "ends_taken" = some (some (.ref zam)))
    (zhr : K.lookup zam = some ⟨zvN, zvW, .func (PySem.W.fnOf "ends_taken" "ends_taken" (zn ZR) (zm ZR) (za ZR) .none zoR zoL zo5 zoH zjH zoJ), zwg⟩)
    (zhM : PySem.W.codeIn K zjH "ends_taken" = true)
    (zht : PySem.W.keepIn K (.ref zam) = true)
    (zji : PySem.W.nsIn K mainGlobals "go_together" = some (some (.ref ZZ)))
    (zgi : K.lookup ZZ = some ⟨zvt, zuq, .func (PySem.W.fnOf "go_together" "go_together" (zn Zf) (zm Zf) (za Zf) .none zno zmU zmZ zn2 zhQ znm), zvm⟩)
    (zge : PySem.W.codeIn K zhQ "go_together" = true)
    (zgc : PySem.W.keepIn K (.ref ZZ) = true)
    (zu9 : PySem.W.nsIn K mainGlobals "end_of" = some (some (.ref zfe)))
    (zqu : K.lookup zfe = some ⟨zCq, zCh, .func (PySem.W.fnOf "end_of" "end_of" (zn zdH) (zm zdH) (za zdH) .none zw2 zwN zwT zwt zrQ zwH), zCB⟩)
    (zqR : PySem.W.codeIn K zrQ "end_of" = true)
    (zqF : PySem.W.keepIn K (.ref zfe) = true)
    (zm7 : PySem.W.nsIn K mainGlobals "end_place" = some (some (.ref zba)))
    (ziy : K.lookup zba = some ⟨zyx, zxq, .func (PySem.W.fnOf "end_place" "end_place" (zn zaz) (zm zaz) (za zaz) .none zqM zrv zq3 zrq zlT zqp), zyw⟩)
    (ziK : PySem.W.codeIn K zlT "end_place" = true)
    (ziz : PySem.W.keepIn K (.ref zba) = true)
    (ze8 : PySem.W.nsIn K mainGlobals "may_have_corner" = some (some (.ref yS)))
    (zcB : K.lookup yS = some ⟨zpa, zpg, .func (PySem.W.fnOf "may_have_corner" "may_have_corner" (zn yk) (zm yk) (za yk) .none zhZ zij zh3 zie zeh ziv), zqc⟩)
    (zcG : PySem.W.codeIn K zeh "may_have_corner" = true)
    (zcJ : PySem.W.keepIn K (.ref yS) = true)
    (zyK : PySem.W.nsIn K mainGlobals "site" = some (some (.ref zjp)))
    (zyH : K.lookup zjp = some ⟨zEa, zDR, .func (PySem.W.fnOf "site" "site" (zn zjU) (zm zjU) (za zjU) .none zBB zA3 zBu zBg zxh zBi), zEd⟩)
    (zyb : PySem.W.codeIn K zxh "site" = true)
    (zyA : PySem.W.keepIn K (.ref zjp) = true)
    (zsi : PySem.W.nsIn K mainGlobals "site_of" = some (some (.ref zc7)))
    (zn4 : K.lookup zc7 = some ⟨zAl, zAS, .func (PySem.W.fnOf "site_of" "site_of" (zn zcj) (zm zcj) (za zcj) .none zuR zum zuY zuK zpV zuS), zAi⟩)
    (zoi : PySem.W.codeIn K zpV "site_of" = true)
    (zol : PySem.W.keepIn K (.ref zc7) = true)
    (zjM : PySem.W.nsIn K mainGlobals "refuse_long" = some (some (.ref ZQ)))
    (zgh : K.lookup ZQ = some ⟨zuk, ztZ, .func (PySem.W.fnOf "refuse_long" "refuse_long" (zn Zr) (zm Zr) (za Zr) .none znd znv znc znu zhS znW), zvk⟩)
    (zgt : PySem.W.codeIn K zhS "refuse_long" = true)
    (zgp : PySem.W.keepIn K (.ref ZQ) = true)
    (zr0 : PySem.W.nsIn K mainGlobals "refused" = some (some (.ref zdd)))
    (zok : K.lookup zdd = some ⟨zAf, zAT, .func (PySem.W.fnOf "refused" "refused" (zn zci) (zm zci) (za zci) .none zuP zug zvr zt5 zo9 zuU), zzX⟩)
    (zoh : PySem.W.codeIn K zo9 "refused" = true)
    (zof : PySem.W.keepIn K (.ref zdd) = true)
    (zds : PySem.W.nsIn K mainGlobals "refused_with_line" = some (some (.ref yA)))
    (zby : K.lookup yA = some ⟨znL, zmY, .func (PySem.W.fnOf "refused_with_line" "refused_with_line" (zn yi) (zm yi) (za yi) .none zgF zgA zgE zgz zcW zgK), znj⟩)
    (zbz : PySem.W.codeIn K zcW "refused_with_line" = true)
    (zbr : PySem.W.keepIn K (.ref yA) = true)
    (zva : PySem.W.nsIn K mainGlobals "answer" = some (some (.ref zc3)))
    (zq9 : K.lookup zc3 = some ⟨zCo, zCl, .func (PySem.W.fnOf "answer" "answer" (zn zdF) (zm zdF) (za zdF) .none zwn zwL zwZ zwG zsf zwr), zBU⟩)
    (zrt : PySem.W.codeIn K zsf "answer" = true)
    (zrA : PySem.W.keepIn K (.ref zc3) = true)
    (zk1 : PySem.W.nsIn K mainGlobals "OTHER_LINE" = some (some (.int 1 zhD)))
    (zgN : PySem.W.nsIn K mainGlobals "OUT_OF_BOUNDS" = some (some (.int 2 zdX)))
    (zh1 : PySem.W.nsIn K mainGlobals "OUT_OF_ORDER" = some (some (.int 3 zfb)))
    (zfd : PySem.W.nsIn K mainGlobals "PLACE_IN_COMMON" = some (some (.int 4 zcF)))
    (zqh : PySem.W.nsIn K mainGlobals "TOO_MANY" = some (some (.int 5 zkP)))
    (zlY : PySem.W.nsIn K mainGlobals "NAME_TAKEN" = some (some (.int 6 zhJ)))
    (zk6 : PySem.W.nsIn K mainGlobals "FIFTH_WALL" = some (some (.int 7 zhy)))
    (zm4 : PySem.W.nsIn K mainGlobals "NO_CORNER" = some (some (.int 8 ziY)))
    (zco : PySem.W.nsIn K mainGlobals "CORNER_OUT_OF_ORDER" = some (some (.int 9 zaV)))
    (znC : PySem.W.nsIn K mainGlobals "END_TAKEN" = some (some (.int 10 ziZ)))
    (zlJ : PySem.W.nsIn K mainGlobals "ENDS_APART" = some (some (.int 11 zhK)))
    (zna : PySem.W.nsIn K mainGlobals "LINE_FEED" = some (some (.int 10 ziC)))
    (zyc : PySem.W.nsIn K mainGlobals "BLANK" = some (some (.int 32 ztR)))
    (ztY : PySem.W.nsIn K mainGlobals "NOUGHT" = some (some (.int 48 zqk)))
    (zz2 : PySem.W.nsIn K mainGlobals "NINE" = some (some (.int 57 zyo)))
    (zir : PySem.W.nsIn K mainGlobals "FIRST_LETTER" = some (some (.int 97 zfv)))
    (zjv : PySem.W.nsIn K mainGlobals "LAST_LETTER" = some (some (.int 122 zgr)))
    (zjY : PySem.W.nsIn K mainGlobals "MOST_DIGITS" = some (some (.int 5 zgu)))
    (zdp : PySem.W.nsIn K mainGlobals "MOST_NAME_LETTERS" = some (some (.int 15 zbs)))
    (zle : PySem.W.nsIn K mainGlobals "HEAD_WORDS" = some (some (.ref ZW)))
    (zlp : K.lookup ZW = some ⟨.type "tuple", zv4, .seq #[.str "wall" zv2, .str "long" zv5, .str "high" zv1, .str "left" zvw, .str "right" zv0, .str "reveal" zvC] zvD, zvS⟩)
    (zhT : PySem.W.nsIn K mainGlobals "OPENING_WORD" = some (some (.str "open" zfq)))
    (znr : PySem.W.nsIn K mainGlobals "END_WORDS" = some (some (.ref za8)))
    (znM : K.lookup za8 = some ⟨.type "tuple", zw7, .seq #[.str "free" zxD, .str "side" zxA, .str "end" zx2] zyv, zxc⟩)
    (zAx : PySem.W.nsIn K mainGlobals "SIDE" = some (some (.int 1 zyt)))
    (zDm : PySem.W.nsIn K mainGlobals "END" = some (some (.int 2 zBo)))
    (zjL : PySem.W.nsIn K mainGlobals "MOST_LENGTH" = some (some (.int 32 zgn)))
    (zjA : PySem.W.nsIn K mainGlobals "MOST_HEIGHT" = some (some (.int 8 zgq)))
    (zgR : PySem.W.nsIn K mainGlobals "MOST_OPENINGS" = some (some (.int 8 zdT)))
    (zlw : PySem.W.nsIn K mainGlobals "WALL_START" = some (some (.str "wall " zhw)))
    (zin : PySem.W.nsIn K mainGlobals "CORNER_START" = some (some (.str "corner " zeG)))
    (zjo : PySem.W.nsIn K mainGlobals "CORNER_WORD" = some (some (.str "corner" zgm)))
    (zjO : PySem.W.nsIn K mainGlobals "CORNER_ENDS" = some (some (.ref ZU)))
    (zjQ : K.lookup ZU = some ⟨.type "tuple", ztX, .seq #[.str "left" zt0, .str "right" zuj] zt6, zvq⟩)
    (zAj : PySem.W.nsIn K mainGlobals "LEFT" = some (some (.int 0 zxj)))
    (zkN : PySem.W.nsIn K mainGlobals "MOST_WALLS" = some (some (.int 4 zhs)))
    (zbJ : PySem.W.nsIn K mainGlobals "LEAST_BETWEEN_CORNERS" = some (some (.int 5 Z8)))
    (zkL : PySem.W.nsIn K mainGlobals "MOST_BYTES" = some (some (.int 4096 zhH)))
    (z_all : PySem.W.nsIn K mainGlobals "all" = some none)
    (z_any : PySem.W.nsIn K mainGlobals "any" = some none)
    (z_enumerate : PySem.W.nsIn K mainGlobals "enumerate" = some none)
    (z_len : PySem.W.nsIn K mainGlobals "len" = some none)
    (z_ord : PySem.W.nsIn K mainGlobals "ord" = some none)
    (z_range : PySem.W.nsIn K mainGlobals "range" = some none)
    (z_sorted : PySem.W.nsIn K mainGlobals "sorted" = some none) :
    ∃ a : Ad, fa = a.zjp ∧ Txt K mg a ∧ ∀ (s : Shared) (us : List Value), us.length = (["u"] : List Str).length → BindsTo s a.zso ⟨us, []⟩ ((["u"] : List Str).zip us) :=
  ⟨⟨zA,
    zU,
    PySem.W.fnOf "__init__" "Refusal.__init__" (zn yu) (zm yu) (za yu) .none zhe zhh zg7 zg5 zdt zg9,
    zK,
    yr,
    PySem.W.fnOf "__init__" "TooLong.__init__" (zn yt) (zm yt) (za yt) .none zha zhi zhg zhl zdo zhj,
    zq,
    yg,
    PySem.W.fnOf "__init__" "TextFault.__init__" (zn yh) (zm yh) (za yh) .none zfJ zfK zfE zfN zct zfC,
    zd,
    zv,
    PySem.W.fnOf "__init__" "LineFault.__init__" (zn ye) (zm ye) (za ye) .none zfO zfM zfA zfP zcm zfI,
    zh,
    yw,
    PySem.W.fnOf "__init__" "Opening.__init__" (zn yq) (zm yq) (za yq) .none zhc zhb zhd zg6 zdn zhk,
    z0,
    PySem.W.fnOf "lies_within" "Opening.lies_within" (zn z5) (zm z5) (za z5) .none zfg zfh zfx zeE zcb zfu,
    zQ,
    PySem.W.fnOf "stands_behind" "Opening.stands_behind" (zn zO) (zm zO) (za zO) .none zdL zdD zdE zdM zbk zdO,
    yZ,
    PySem.W.fnOf "meets" "Opening.meets" (zn y8) (zm y8) (za y8) .none zkz zj0 zj1 zj9 zf4 zkb,
    yP,
    PySem.W.fnOf "covers" "Opening.covers" (zn yO) (zm yO) (za yO) .none zja zi7 ziM zi6 ze6 zi1,
    zS,
    y9,
    PySem.W.fnOf "__init__" "Wall.__init__" (zn yX) (zm yX) (za yX) .none zj3 zkx zkv zj7 zf0 zkI,
    Zj,
    PySem.W.fnOf "is_open" "Wall.is_open" (zn yV) (zm yV) (za yV) .none zmc zl5 zmh zmi zgY zmo,
    zk,
    z4,
    PySem.W.fnOf "__init__" "WallReader.__init__" (zn z6) (zm z6) (za z6) .none ze0 zfl zff zeQ zbV zeP,
    zT,
    PySem.W.fnOf "has_head" "WallReader.has_head" (zn zZ) (zm zZ) (za zZ) .none ze7 zeU zfk ze4 zb0 zfr,
    yn,
    PySem.W.fnOf "take" "WallReader.take" (zn yH) (zm yH) (za yH) .none zil zh6 zh7 zh4 zd9 zhX,
    yo,
    PySem.W.fnOf "take_rest" "WallReader.take_rest" (zn yb) (zm yb) (za yb) .none zer zeu zez zev zbB zeA,
    zB,
    yE,
    PySem.W.fnOf "__init__" "Corner.__init__" (zn yG) (zm yG) (za yG) .none zia zit zh8 zim zea zhU,
    zaj,
    Za,
    PySem.W.fnOf "__init__" "Site.__init__" (zn Zb) (zm Zb) (za Zb) .none zkE zj8 zkp zku zf2 zj4,
    zu,
    z7,
    PySem.W.fnOf "__init__" "SiteReader.__init__" (zn z8) (zm z8) (za z8) .none zeW zfp zeY zeV zb8 ze1,
    zW,
    PySem.W.fnOf "in_head" "SiteReader.in_head" (zn yf) (zm yf) (za yf) .none zfL zfQ zfD zfG zcr zfB,
    zH,
    PySem.W.fnOf "walls_read" "SiteReader.walls_read" (zn zE) (zm zE) (za zE) .none zdv zdB zdR zdJ zbl zdI,
    yR,
    PySem.W.fnOf "take" "SiteReader.take" (zn yF) (zm yF) (za yF) .none zh2 zio zii zid zeg zhR,
    zP,
    PySem.W.fnOf "begin_wall" "SiteReader.begin_wall" (zn zG) (zm zG) (za zG) .none zdP zdy zdA zdQ zbn zdx,
    yc,
    PySem.W.fnOf "take_rest" "SiteReader.take_rest" (zn zV) (zm zV) (za zV) .none zen zet zeB zel zbG zeo,
    ZO,
    PySem.W.fnOf "bytes_of" "bytes_of" (zn zaI) (zm zaI) (za zaI) .none zsM zs0 zsH zsP znf zte,
    zaH,
    PySem.W.fnOf "split_at" "split_at" (zn zbm) (zm zbm) (za zbm) .none zs8 zsT zsJ ztf znk ztb,
    Zw,
    PySem.W.fnOf "lines_joined" "lines_joined" (zn Zh) (zm Zh) (za Zh) .none zma zmm zme zl9 zgZ zmf,
    zaw,
    PySem.W.fnOf "read_lines" "read_lines" (zn ZV) (zm ZV) (za ZV) .none zoN zoK zo0 zoW zjX zoX,
    yW,
    PySem.W.fnOf "fields_behind" "fields_behind" (zn yY) (zm yY) (za yY) .none zkw zkg zki zkt zfT zkk,
    Zz,
    PySem.W.fnOf "field_behind" "field_behind" (zn Zg) (zm Zg) (za Zg) .none zml zmg zmj zmd zgQ zl6,
    zax,
    PySem.W.fnOf "number_in" "number_in" (zn Z0) (zm Z0) (za Z0) .none zqD zqE zru zrE zlg zrs,
    Zc,
    PySem.W.fnOf "number_from_to" "number_from_to" (zn yQ) (zm yQ) (za yQ) .none ziA ziH ziW ziO zeI ziR,
    zdj,
    PySem.W.fnOf "name_in" "name_in" (zn zbC) (zm zbC) (za zbC) .none zua zvc zu1 zuz zpp zuZ,
    zav,
    PySem.W.fnOf "head_value" "head_value" (zn ZY) (zm ZY) (za ZY) .none zoZ zo4 zoS zoF zjn zoI,
    zeX,
    PySem.W.fnOf "end_in" "end_in" (zn zdN) (zm zdN) (za zdN) .none zw3 zwl zwV zww zr4 zwO,
    zau,
    PySem.W.fnOf "opening_in" "opening_in" (zn Zk) (zm Zk) (za Zk) .none zo3 zoM zo7 zoQ zjT zoU,
    za5,
    PySem.W.fnOf "read_site" "read_site" (zn Z5) (zm Z5) (za Z5) .none zrn zrp zqr zra zlx zqQ,
    Zu,
    PySem.W.fnOf "begins_with" "begins_with" (zn Zs) (zm Zs) (za Zs) .none znU znQ zny znh zh5 zmS,
    zbj,
    PySem.W.fnOf "corner_in" "corner_in" (zn zay) (zm zay) (za zay) .none zrC zrw zqs zqo zli zqW,
    ZP,
    PySem.W.fnOf "corner_told" "corner_told" (zn Zt) (zm Zt) (za Zt) .none znS znl znF znp ziw zmV,
    zb1,
    PySem.W.fnOf "end_told" "end_told" (zn zah) (zm zah) (za zah) .none zsI zsL zs7 ztj zn0 zsS,
    zam,
    PySem.W.fnOf "ends_taken" "ends_taken" (zn ZR) (zm ZR) (za ZR) .none zoR zoL zo5 zoH zjH zoJ,
    ZZ,
    PySem.W.fnOf "go_together" "go_together" (zn Zf) (zm Zf) (za Zf) .none zno zmU zmZ zn2 zhQ znm,
    zfe,
    PySem.W.fnOf "end_of" "end_of" (zn zdH) (zm zdH) (za zdH) .none zw2 zwN zwT zwt zrQ zwH,
    zba,
    PySem.W.fnOf "end_place" "end_place" (zn zaz) (zm zaz) (za zaz) .none zqM zrv zq3 zrq zlT zqp,
    yS,
    PySem.W.fnOf "may_have_corner" "may_have_corner" (zn yk) (zm yk) (za yk) .none zhZ zij zh3 zie zeh ziv,
    zjp,
    PySem.W.fnOf "site" "site" (zn zjU) (zm zjU) (za zjU) .none zBB zA3 zBu zBg zxh zBi,
    zc7,
    PySem.W.fnOf "site_of" "site_of" (zn zcj) (zm zcj) (za zcj) .none zuR zum zuY zuK zpV zuS,
    ZQ,
    PySem.W.fnOf "refuse_long" "refuse_long" (zn Zr) (zm Zr) (za Zr) .none znd znv znc znu zhS znW,
    zdd,
    PySem.W.fnOf "refused" "refused" (zn zci) (zm zci) (za zci) .none zuP zug zvr zt5 zo9 zuU,
    yA,
    PySem.W.fnOf "refused_with_line" "refused_with_line" (zn yi) (zm yi) (za yi) .none zgF zgA zgE zgz zcW zgK,
    zc3,
    PySem.W.fnOf "answer" "answer" (zn zdF) (zm zdF) (za zdF) .none zwn zwL zwZ zwG zsf zwr,
    zhD,
    zdX,
    zfb,
    zcF,
    zkP,
    zhJ,
    zhy,
    ziY,
    zaV,
    ziZ,
    zhK,
    ziC,
    ztR,
    zqk,
    zyo,
    zfv,
    zgr,
    zgu,
    zbs,
    ZW,
    zfq,
    za8,
    zyt,
    zBo,
    zgn,
    zgq,
    zdT,
    zhw,
    zeG,
    zgm,
    ZU,
    zxj,
    zhs,
    Z8,
    zhH⟩, Value.ref.inj (Option.some.inj (hfa.symm.trans (PySem.W.mg_of KX G zyK))), ⟨PySem.W.mg_of KX G zse,
    zt (st := yu) zbX zbS zaE,
    (zt (st := yu) zbX zbS zaE).binds (ps := ["self", "number", "told"]) fun _ _ _ _ _ _ us hl => match us, hl with | [_, _, _], _ => rfl,
    ⟨zpO, zpj, zp9, zpi, zpn⟩,
    ⟨zpM, zee, zej, zpb⟩,
    ⟨zpL, zp5⟩,
    zda,
    zeZ,
    PySem.W.mg_of KX G zrW,
    zt (st := yt) zb5 zca zbY,
    (zt (st := yt) zb5 zca zbY).binds (ps := ["self"]) fun _ _ _ _ _ _ us hl => match us, hl with | [_], _ => rfl,
    ⟨zpY, zpQ, zpR, zpu, zpC⟩,
    ⟨zpD, zeb, zed, zpA⟩,
    ⟨zpS, zph⟩,
    zaD,
    zbH,
    PySem.W.mg_of KX G zmR,
    zt (st := yh) zbd za3 zbf,
    (zt (st := yh) zbd za3 zbf).binds (ps := ["self", "line", "kind"]) fun _ _ _ _ _ _ us hl => match us, hl with | [_, _, _], _ => rfl,
    ⟨zlW, zlH, zlk, zlD, zk7⟩,
    ⟨zlr, zc4, zcR, zlc⟩,
    ⟨zlu, zk0⟩,
    zaB,
    zaC,
    ZL,
    zbI,
    PySem.W.mg_of KX G zm8,
    zt (st := ye) zbc za7 zbi,
    (zt (st := ye) zbc za7 zbi).binds (ps := ["self", "kind"]) fun _ _ _ _ _ _ us hl => match us, hl with | [_, _], _ => rfl,
    ⟨zkU, zlV, zl3, zlZ, zkK⟩,
    ⟨zlE, zcS, zc6, zlG⟩,
    ⟨zlR, zl1⟩,
    ZN,
    PySem.W.mg_of KX G zsx,
    zt (st := yq) zbR zb6 zbT,
    (zt (st := yq) zbR zb6 zbT).binds (ps := ["self", "numbers"]) fun _ _ _ _ _ _ us hl => match us, hl with | [_, _], _ => rfl,
    zt (st := z5) zaJ zaY ZH,
    (zt (st := z5) zaJ zaY ZH).binds (ps := ["self", "length", "height"]) fun _ _ _ _ _ _ us hl => match us, hl with | [_, _, _], _ => rfl,
    ⟨zcu, zcn, ZH⟩,
    zt (st := zO) zag zab Zm,
    (zt (st := zO) zag zab Zm).binds (ps := ["self", "other"]) fun _ _ _ _ _ _ us hl => match us, hl with | [_, _], _ => rfl,
    ⟨zbL, zbO, Zm⟩,
    zt (st := y8) zdY zd3 zcc,
    (zt (st := y8) zdY zd3 zcc).binds (ps := ["self", "other"]) fun _ _ _ _ _ _ us hl => match us, hl with | [_, _], _ => rfl,
    ⟨zgO, zgS, zcc⟩,
    zt (st := yO) zdl zdi zbE,
    (zt (st := yO) zdl zdi zbE).binds (ps := ["self", "place", "course"]) fun _ _ _ _ _ _ us hl => match us, hl with | [_, _, _], _ => rfl,
    ⟨zf1, zf9, zbE⟩,
    ⟨zpX, zpt, zpF, zp0⟩,
    ⟨zpZ, zei, zek, zo8⟩,
    Zy,
    Zv,
    Z3,
    Z1,
    PySem.W.mg_of KX G zz5,
    zt (st := yX) zd5 zdS zdZ,
    (zt (st := yX) zd5 zdS zdZ).binds (ps := ["self", "head", "openings"]) fun _ _ _ _ _ _ us hl => match us, hl with | [_, _, _], _ => rfl,
    zt (st := yV) zfs ze2 zc2,
    (zt (st := yV) zfs ze2 zc2).binds (ps := ["self", "place", "course"]) fun _ _ _ _ _ _ us hl => match us, hl with | [_, _, _], _ => rfl,
    ⟨zh9, zhY, zc2⟩,
    ⟨zxn, zx6, zyp, zyE⟩,
    ⟨zxQ, zgW, zgU, zxE⟩,
    zaA,
    zes,
    zbq,
    zeq,
    za0,
    zdK,
    zdg,
    PySem.W.mg_of KX G zlt,
    zt (st := z6) zaQ zaR zaP,
    (zt (st := z6) zaQ zaR zaP).binds (ps := ["self"]) fun _ _ _ _ _ _ us hl => match us, hl with | [_], _ => rfl,
    zt (st := zZ) zaO zaL ZJ,
    (zt (st := zZ) zaO zaL ZJ).binds (ps := ["self"]) fun _ _ _ _ _ _ us hl => match us, hl with | [_], _ => rfl,
    ⟨zcl, zck, ZJ⟩,
    zt (st := yH) zcH zcA za9,
    (zt (st := yH) zcH zcA za9).binds (ps := ["self", "line"]) fun _ _ _ _ _ _ us hl => match us, hl with | [_, _], _ => rfl,
    ⟨zeH, zeM, za9⟩,
    zt (st := yb) zan zao ZB,
    (zt (st := yb) zan zao ZB).binds (ps := ["self", "rest"]) fun _ _ _ _ _ _ us hl => match us, hl with | [_, _], _ => rfl,
    ⟨zbU, zb2, ZB⟩,
    ⟨zjR, zjc, zjK, zjg⟩,
    ⟨zjm, zcx, zcw, zjs⟩,
    zY,
    yU,
    yy,
    PySem.W.mg_of KX G zvj,
    zt (st := yG) zcD zcy zcI,
    (zt (st := yG) zcD zcy zcI).binds (ps := ["self", "first", "second"]) fun _ _ _ _ _ _ us hl => match us, hl with | [_, _, _], _ => rfl,
    ⟨zst, zsw, zss, zrR⟩,
    ⟨zsa, ze9, zfj, zr1⟩,
    yC,
    yM,
    PySem.W.mg_of KX G zzZ,
    zt (st := Zb) zd6 zdW zdU,
    (zt (st := Zb) zd6 zdW zdU).binds (ps := ["self", "walls", "texts", "corners"]) fun _ _ _ _ _ _ us hl => match us, hl with | [_, _, _, _], _ => rfl,
    ⟨zxe, zxC, zxM, zx9⟩,
    ⟨zyF, zg3, zgV, zxd⟩,
    zcV,
    zfm,
    zc9,
    PySem.W.mg_of KX G zkW,
    zt (st := z8) zaX zaU zaT,
    (zt (st := z8) zaX zaU zaT).binds (ps := ["self"]) fun _ _ _ _ _ _ us hl => match us, hl with | [_], _ => rfl,
    zt (st := yf) za2 zbb Z2,
    (zt (st := yf) za2 zbb Z2).binds (ps := ["self"]) fun _ _ _ _ _ _ us hl => match us, hl with | [_], _ => rfl,
    ⟨zc0, zcU, Z2⟩,
    zt (st := zE) Z7 zaf Zn,
    (zt (st := zE) Z7 zaf Zn).binds (ps := ["self"]) fun _ _ _ _ _ _ us hl => match us, hl with | [_], _ => rfl,
    ⟨zbF, zbD, Zn⟩,
    zt (st := yF) zcE zcN zbg,
    (zt (st := yF) zcE zcN zbg).binds (ps := ["self", "line"]) fun _ _ _ _ _ _ us hl => match us, hl with | [_, _], _ => rfl,
    ⟨zeJ, zeF, zbg⟩,
    zt (st := zG) Z9 zaa Zo,
    (zt (st := zG) Z9 zaa Zo).binds (ps := ["self", "line"]) fun _ _ _ _ _ _ us hl => match us, hl with | [_, _], _ => rfl,
    ⟨zbN, zbK, Zo⟩,
    zt (st := zV) zar zas Zx,
    (zt (st := zV) zar zas Zx).binds (ps := ["self", "rest"]) fun _ _ _ _ _ _ us hl => match us, hl with | [_, _], _ => rfl,
    ⟨zb9, zbZ, Zx⟩,
    ⟨zjB, zjh, zjP, zjz⟩,
    ⟨zjW, zcp, zcs, zjS⟩,
    yd,
    zx,
    ⟨zdq, zdm, zdu, zaE⟩,
    zcL,
    zbh,
    zbw,
    zbv,
    zbA,
    zal,
    ZI,
    zaN,
    zbx,
    zbt,
    zaW,
    Ze,
    zt (st := zaI) zkM zk2 zkV,
    (zt (st := zaI) zkM zk2 zkV).binds (ps := ["word"]) fun _ _ _ _ _ _ us hl => match us, hl with | [_], _ => rfl,
    PySem.W.mg_of KX G zqf,
    zt (st := zbm) zl0 zkY zlI,
    (zt (st := zbm) zl0 zkY zlI).binds (ps := ["row", "sign"]) fun _ _ _ _ _ _ us hl => match us, hl with | [_, _], _ => rfl,
    PySem.W.mg_of KX G zqb,
    zt (st := Zh) zeN zeS zeT,
    (zt (st := Zh) zeN zeS zeT).binds (ps := ["lines"]) fun _ _ _ _ _ _ us hl => match us, hl with | [_], _ => rfl,
    PySem.W.mg_of KX G zhO,
    zt (st := ZV) zhz zhq zhE,
    (zt (st := ZV) zhz zhq zhE).binds (ps := ["text", "reader"]) fun _ _ _ _ _ _ us hl => match us, hl with | [_, _], _ => rfl,
    PySem.W.mg_of KX G zkT,
    zt (st := yY) zd0 zdV zd7,
    (zt (st := yY) zd0 zdV zd7).binds (ps := ["word", "line"]) fun _ _ _ _ _ _ us hl => match us, hl with | [_, _], _ => rfl,
    PySem.W.mg_of KX G zgX,
    zt (st := Zg) zfc zfi zeO,
    (zt (st := Zg) zfc zfi zeO).binds (ps := ["word", "line"]) fun _ _ _ _ _ _ us hl => match us, hl with | [_, _], _ => rfl,
    PySem.W.mg_of KX G ziq,
    zt (st := Z0) ziJ ziT ziB,
    (zt (st := Z0) ziJ ziT ziB).binds (ps := ["field"]) fun _ _ _ _ _ _ us hl => match us, hl with | [_], _ => rfl,
    PySem.W.mg_of KX G znO,
    zt (st := yQ) zde zdb zdf,
    (zt (st := yQ) zde zdb zdf).binds (ps := ["field", "least", "most"]) fun _ _ _ _ _ _ us hl => match us, hl with | [_, _, _], _ => rfl,
    PySem.W.mg_of KX G zfS,
    zt (st := zbC) zn9 zoe zn6,
    (zt (st := zbC) zn9 zoe zn6).binds (ps := ["field"]) fun _ _ _ _ _ _ us hl => match us, hl with | [_], _ => rfl,
    PySem.W.mg_of KX G zsd,
    zt (st := ZY) zhI zhA zhL,
    (zt (st := ZY) zhI zhA zhL).binds (ps := ["number", "line"]) fun _ _ _ _ _ _ us hl => match us, hl with | [_, _], _ => rfl,
    PySem.W.mg_of KX G zln,
    zt (st := zdN) zqS zq6 zrG,
    (zt (st := zdN) zqS zq6 zrG).binds (ps := ["field"]) fun _ _ _ _ _ _ us hl => match us, hl with | [_], _ => rfl,
    PySem.W.mg_of KX G zud,
    zt (st := Zk) zhn zhB zhx,
    (zt (st := Zk) zhn zhB zhx).binds (ps := ["line", "length", "height", "before"]) fun _ _ _ _ _ _ us hl => match us, hl with | [_, _, _, _], _ => rfl,
    PySem.W.mg_of KX G zlN,
    zt (st := Z5) ziG ziL zi9,
    (zt (st := Z5) ziG ziL zi9).binds (ps := ["text"]) fun _ _ _ _ _ _ us hl => match us, hl with | [_], _ => rfl,
    PySem.W.mg_of KX G zm9,
    zt (st := Zs) zgv zgb zgf,
    (zt (st := Zs) zgv zgb zgf).binds (ps := ["line", "start"]) fun _ _ _ _ _ _ us hl => match us, hl with | [_, _], _ => rfl,
    PySem.W.mg_of KX G zju,
    zt (st := zay) ziD ziP ziQ,
    (zt (st := zay) ziD ziP ziQ).binds (ps := ["line", "walls", "before"]) fun _ _ _ _ _ _ us hl => match us, hl with | [_, _, _], _ => rfl,
    PySem.W.mg_of KX G zn1,
    zt (st := Zt) zgg zga zgs,
    (zt (st := Zt) zgg zga zgs).binds (ps := ["line", "walls"]) fun _ _ _ _ _ _ us hl => match us, hl with | [_, _], _ => rfl,
    PySem.W.mg_of KX G zjj,
    zt (st := zah) zlo zla zk9,
    (zt (st := zah) zlo zla zk9).binds (ps := ["fields", "walls"]) fun _ _ _ _ _ _ us hl => match us, hl with | [_, _], _ => rfl,
    PySem.W.mg_of KX G zpo,
    zt (st := ZR) zhr zhM zht,
    (zt (st := ZR) zhr zhM zht).binds (ps := ["corners"]) fun _ _ _ _ _ _ us hl => match us, hl with | [_], _ => rfl,
    PySem.W.mg_of KX G zk3,
    zt (st := Zf) zgi zge zgc,
    (zt (st := Zf) zgi zge zgc).binds (ps := ["corner", "walls", "taken"]) fun _ _ _ _ _ _ us hl => match us, hl with | [_, _, _], _ => rfl,
    PySem.W.mg_of KX G zji,
    zt (st := zdH) zqu zqR zqF,
    (zt (st := zdH) zqu zqR zqF).binds (ps := ["wall", "side"]) fun _ _ _ _ _ _ us hl => match us, hl with | [_, _], _ => rfl,
    PySem.W.mg_of KX G zu9,
    zt (st := zaz) ziy ziK ziz,
    (zt (st := zaz) ziy ziK ziz).binds (ps := ["wall", "side"]) fun _ _ _ _ _ _ us hl => match us, hl with | [_, _], _ => rfl,
    PySem.W.mg_of KX G zm7,
    zt (st := yk) zcB zcG zcJ,
    (zt (st := yk) zcB zcG zcJ).binds (ps := ["end", "walls", "taken"]) fun _ _ _ _ _ _ us hl => match us, hl with | [_, _, _], _ => rfl,
    PySem.W.mg_of KX G ze8,
    zt (st := zjU) zyH zyb zyA,
    (zt (st := zjU) zyH zyb zyA).binds (ps := ["u"]) fun _ _ _ _ _ _ us hl => match us, hl with | [_], _ => rfl,
    PySem.W.mg_of KX G zyK,
    zt (st := zcj) zn4 zoi zol,
    (zt (st := zcj) zn4 zoi zol).binds (ps := ["u"]) fun _ _ _ _ _ _ us hl => match us, hl with | [_], _ => rfl,
    PySem.W.mg_of KX G zsi,
    zt (st := Zr) zgh zgt zgp,
    (zt (st := Zr) zgh zgt zgp).binds (ps := ["rows"]) fun _ _ _ _ _ _ us hl => match us, hl with | [_], _ => rfl,
    PySem.W.mg_of KX G zjM,
    zt (st := zci) zok zoh zof,
    (zt (st := zci) zok zoh zof).binds (ps := ["refusal"]) fun _ _ _ _ _ _ us hl => match us, hl with | [_], _ => rfl,
    PySem.W.mg_of KX G zr0,
    zt (st := yi) zby zbz zbr,
    (zt (st := yi) zby zbz zbr).binds (ps := ["fault"]) fun _ _ _ _ _ _ us hl => match us, hl with | [_], _ => rfl,
    PySem.W.mg_of KX G zds,
    zt (st := zdF) zq9 zrt zrA,
    (zt (st := zdF) zq9 zrt zrA).binds (ps := ["number", "row", "signs"]) fun _ _ _ _ _ _ us hl => match us, hl with | [_, _, _], _ => rfl,
    PySem.W.mg_of KX G zva,
    PySem.W.mg_of KX G zk1,
    PySem.W.mg_of KX G zgN,
    PySem.W.mg_of KX G zh1,
    PySem.W.mg_of KX G zfd,
    PySem.W.mg_of KX G zqh,
    PySem.W.mg_of KX G zlY,
    PySem.W.mg_of KX G zk6,
    PySem.W.mg_of KX G zm4,
    PySem.W.mg_of KX G zco,
    PySem.W.mg_of KX G znC,
    PySem.W.mg_of KX G zlJ,
    PySem.W.mg_of KX G zna,
    PySem.W.mg_of KX G zyc,
    PySem.W.mg_of KX G ztY,
    PySem.W.mg_of KX G zz2,
    PySem.W.mg_of KX G zir,
    PySem.W.mg_of KX G zjv,
    PySem.W.mg_of KX G zjY,
    PySem.W.mg_of KX G zdp,
    PySem.W.mg_of KX G zle,
    fun H => .inr ⟨_, _, _, zlp, rfl, rfl, by show 6 ≤ sizeLine; decide, .cons ⟨_, rfl⟩ (.cons ⟨_, rfl⟩ (.cons ⟨_, rfl⟩ (.cons ⟨_, rfl⟩ (.cons ⟨_, rfl⟩ (.cons ⟨_, rfl⟩ (.nil))))))⟩,
    PySem.W.mg_of KX G zhT,
    PySem.W.mg_of KX G znr,
    fun H => .inr ⟨_, _, _, znM, rfl, rfl, by show 3 ≤ sizeLine; decide, .cons ⟨_, rfl⟩ (.cons ⟨_, rfl⟩ (.cons ⟨_, rfl⟩ (.nil)))⟩,
    PySem.W.mg_of KX G zAx,
    PySem.W.mg_of KX G zDm,
    PySem.W.mg_of KX G zjL,
    PySem.W.mg_of KX G zjA,
    PySem.W.mg_of KX G zgR,
    PySem.W.mg_of KX G zlw,
    PySem.W.mg_of KX G zin,
    PySem.W.mg_of KX G zjo,
    PySem.W.mg_of KX G zjO,
    fun H => .inr ⟨_, _, _, zjQ, rfl, rfl, by show 2 ≤ sizeLine; decide, .cons ⟨_, rfl⟩ (.cons ⟨_, rfl⟩ (.nil))⟩,
    PySem.W.mg_of KX G zAj,
    PySem.W.mg_of KX G zkN,
    PySem.W.mg_of KX G zbJ,
    PySem.W.mg_of KX G zkL,
    PySem.W.mg_none_of KX G z_all,
    PySem.W.mg_none_of KX G z_any,
    PySem.W.mg_none_of KX G z_enumerate,
    PySem.W.mg_none_of KX G z_len,
    PySem.W.mg_none_of KX G z_ord,
    PySem.W.mg_none_of KX G z_range,
    PySem.W.mg_none_of KX G z_sorted⟩, fun s us hu => match us, hu with | [_], _ => .of_eq rfl⟩
def iB (b : Bd.Bytes) : List V := b.map fun c => V.int ((c.toNat : Nat) : Int)
def zzV (H H' : Hp) : Prop := ∀ b o, H b = some o → (∀ φ, o ≠ .ext φ) → H' b = some o
theorem _root_.L2.Same.thenM {H H1 H2 : Hp} (a : Same H H1) (b : zzV H1 H2) : zzV H H2 := fun c o h n => b c o (a c o h) n
theorem _root_.L2.Same.new {H H' : Hp} {p : Addr} {o : HO} (s : Same H H') (h : H' p = Option.none) : Same H (upd H' p o) := fun b u e => by
  rw [ze (zi (s b u e) h)]
  exact s b u e
theorem _root_.L2.Same.set {H H' : Hp} {p : Addr} {o : HO} (s : Same H H') (h : H p = Option.none) : Same H (upd H' p o) := fun b u e => by
  rw [ze (zi e h)]
  exact s b u e
abbrev Rows (H : Hp) : List Addr → List Bd.Bytes → Prop := Paired fun a b => H a = some (.lst (iB b))
theorem Rows.same {H H' : Hp} {as : List Addr} {bs : List Bd.Bytes} (s : Same H H') (r : Rows H as bs) : Rows H' as bs := Paired.mapP r fun _ _ h => s _ _ h
theorem Rows.get {H : Hp} : ∀ {as : List Addr} {bs : List Bd.Bytes} {i : Nat} {b : Bd.Bytes}, Rows H as bs → bs[i]? = some b → ∃ a, as[i]? = some a ∧ H a = some (.lst (iB b))
  | _, _, _, _, .nil, h => by simp at h
  | _, _, 0, _, .cons h t, e => by
    have e' := Option.some.inj e
    subst e'
    exact ⟨_, rfl, h⟩
  | _, _, i + 1, b, .cons h t, e => by
    obtain ⟨a, h1, h2⟩ := Rows.get (i := i) (b := b) t e
    exact ⟨a, h1, h2⟩
theorem Rows.upd {H : Hp} {z : Addr} {o : HO} : ∀ {as : List Addr} {bs : List Bd.Bytes}, Rows H as bs → z ∉ as → Rows (upd H z o) as bs
  | _, _, .nil, _ => .nil
  | _, _, .cons h t, n => .cons (by rw [ze (fun q => n (by simp [q]))]; exact h) (Rows.upd t fun q => n (by simp [q]))
def Fails (C : Addr) (E : XK) (H : Hp) (k : Nat) : Prop := ∀ (d : Addr) (H' : Hp), zzV H H' → H' d = some (.xd [("kind", .int (k : Int))]) → E (C, true) (some d) H'
theorem Fails.same {C : Addr} {E : XK} {H H1 : Hp} {k : Nat} (f : Fails C E H k) (s : Same H H1) : Fails C E H1 k := fun d H' m e => f d H' (s.thenM m) e
def zft (C : Addr) (f : Str) : Sp := fun vs H Q _ => ∃ (p : Addr) (v : V) (fr : Bool) (tb : Value), vs = [.ref p, v] ∧ H p = some (xO C fr none tb p) ∧
  ∀ (d : Addr) (H' : Hp), H d = none → d ≠ p → H' p = some (xO C fr (some d) tb p) → H' d = some (.xd [(f, v)]) → (∀ b, b ≠ p → b ≠ d → H' b = H b) → Q .non H'
section
variable {P : Program} {w : World} {K : PySem.W.Frag} {mg : Str → Option Value} {base : Heap} {a : Ad} {cm : Bool}
theorem zJ (T : Txt K mg a) : FnOk P w K mg base (CXo P w) cm 1 a.zv a.zy ["self", "kind"] (zft a.zd "kind") := by
  refine z9 T.znT zmC (fun vs H Q E h => ?_) (fun cdv A outer s H vs Q E hr h => ?_)
  · obtain ⟨p, v, fr, tb, rfl, _⟩ := h
    rfl
  · obtain ⟨p, v, fr, tb, rfl, hp, k⟩ := h
    refine ⟨_, (zj (zqJ (pv 0) (pv 1) rfl)), ?_⟩
    exact ⟨_, rfl, _, rfl, p, _, fr, none, tb, rfl, hp, T.znB, T.ZN, .inl ⟨rfl, k⟩⟩
def zCL (K : PySem.W.Frag) : Sp := fun vs H Q _ => ∃ (p C : Addr) (v u : V) (fr : Bool) (tb : Value), vs = [.ref p, v, u] ∧ zty K C ∧ NoAttr K C "number" ∧ NoAttr K C "told" ∧ H p = some (xO C fr none tb p) ∧
  ∀ (d : Addr) (H' : Hp), H d = none → d ≠ p → H' p = some (xO C fr (some d) tb p) → H' d = some (.xd [("number", v), ("told", u)]) → (∀ b, b ≠ p → b ≠ d → H' b = H b) → Q .non H'
theorem zg8 (T : Txt K mg a) : FnOk P w K mg base (CXo P w) cm 1 a.zU a.zaF ["self", "number", "told"] (zCL K) := by
  refine z9 T.zp6 zoo (fun vs H Q E h => ?_) (fun cdv A outer s H vs Q E hr h => ?_)
  · obtain ⟨p, C, v, u, fr, tb, rfl, _⟩ := h
    rfl
  · obtain ⟨p, C, v, u, fr, tb, rfl, xc, na, nb, hp, k⟩ := h
    refine ⟨_, (zo (zqJ (pv 0) (pv 1) rfl)
      (zj (zqJ (pv 0) (pv 2) rfl))), ?_⟩
    refine ⟨_, rfl, _, rfl, p, C, fr, none, tb, rfl, hp, xc, na, .inl ⟨rfl, fun d H1 nd dp e1 e2 kp => ?_⟩⟩
    refine ⟨_, rfl, _, rfl, p, C, fr, some d, tb, rfl, e1, xc, nb, .inr ⟨d, _, rfl, e2, (by show 1 < 1000; decide), ?_⟩⟩
    refine k d _ nd dp (by rw [ze (Ne.symm dp)]; exact e1) ?_ fun b hb hd => by rw [ze hd]; exact kp b hb hd
    rw [zc]
    rfl
def rfF (n : Int) (q : Addr) : List (Str × V) := [("number", .int n), ("told", .ref q)]
def zz6 (C : Addr) (n : Int) : Sp := fun vs H Q _ => ∃ (p : Addr) (fr : Bool) (tb : Value), vs = [.ref p] ∧ H p = some (xO C fr none tb p) ∧
  ∀ (d q : Addr) (H' : Hp), H d = none → H q = none → d ≠ p → H' p = some (xO C fr (some d) tb p) → H' d = some (.xd (rfF n q)) → H' q = some (.lst []) → (∀ b, b ≠ p → b ≠ d → b ≠ q → H' b = H b) → Q .non H'
theorem zos (T : Txt K mg a) : FnOk P w K mg base (CXo P w) cm 2 a.yr a.zbW ["self"] (zz6 a.zK (-1)) := by
  have zef : FnOk P w K mg base (CXo P w) cm 1 a.zU a.zaF ["self", "number", "told"] (zCL K) := zg8 T
  refine z9 T.zqi zoz (fun vs H Q E h => ?_) (fun cdv A outer s H vs Q E hr h => ?_)
  · obtain ⟨p, fr, tb, rfl, _⟩ := h
    rfl
  · obtain ⟨p, fr, tb, rfl, hp, k⟩ := h
    refine ⟨_, (zj (ZT (zyO zef (hr.mono (by decide)) rfl T.zrT T.zhP T.zih takes_cx.passes (zb (pv 0) (zb (zo2 zjx zD) (zb (Zd zg) zg)))))), ?_⟩
    refine ⟨_, rfl, _, rfl, Nat.zero_le _, fun q nq => ?_⟩
    have pq : p ≠ q := zi hp nq
    refine ⟨p, _, _, _, fr, tb, rfl, T.zwz, T.zaD, T.zbH, by rw [ze pq]; exact hp, fun d H1 nd dp e1 e2 kp => ?_⟩
    have dq : d ≠ q := fun e => by rw [e, zc] at nd; cases nd
    refine k d q H1 (by rw [ze dq] at nd; exact nd) nq dp e1 e2 (by rw [kp q (Ne.symm pq) (Ne.symm dq)]; exact zc) fun b h1 h2 h3 => by rw [kp b h1 h2, ze h3]
def wfF (q : Addr) (i k : V) : List (Str × V) := [("number", .int (-6)), ("told", .ref q), ("line", i), ("kind", k)]
def zsX (C : Addr) : Sp := fun vs H Q _ => ∃ (p : Addr) (i k : V) (fr : Bool) (tb : Value), vs = [.ref p, i, k] ∧ H p = some (xO C fr none tb p) ∧
  ∀ (d q : Addr) (H' : Hp), H d = none → H q = none → d ≠ p → H' p = some (xO C fr (some d) tb p) → H' d = some (.xd (wfF q i k)) → H' q = some (.lst []) → (∀ b, b ≠ p → b ≠ d → b ≠ q → H' b = H b) → Q .non H'
theorem zmA (T : Txt K mg a) : FnOk P w K mg base (CXo P w) cm 2 a.yg a.za4 ["self", "line", "kind"] (zsX a.zq) := by
  have zef : FnOk P w K mg base (CXo P w) cm 1 a.zU a.zaF ["self", "number", "told"] (zCL K) := zg8 T
  refine z9 T.zmX zmx (fun vs H Q E h => ?_) (fun cdv A outer s H vs Q E hr h => ?_)
  · obtain ⟨p, i, k, fr, tb, rfl, _⟩ := h
    rfl
  · obtain ⟨p, i, kk, fr, tb, rfl, hp, k⟩ := h
    refine ⟨_, (zo (ZT (zyO zef (hr.mono (by decide)) rfl T.zrT T.zhP T.zih takes_cx.passes (zb (pv 0) (zb (zo2 zjx zD) (zb (Zd zg) zg)))))
      (zo (zqJ (pv 0) (pv 1) rfl)
      (zj (zqJ (pv 0) (pv 2) rfl)))), ?_⟩
    refine ⟨_, rfl, _, rfl, Nat.zero_le _, fun q nq => ?_⟩
    have pq : p ≠ q := zi hp nq
    refine ⟨p, _, _, _, fr, tb, rfl, T.zex, T.ZL, T.zbI, by rw [ze pq]; exact hp, fun d H1 nd dp e1 e2 kp => ?_⟩
    have dq : d ≠ q := fun e => by rw [e, zc] at nd; cases nd
    refine ⟨_, rfl, _, rfl, p, _, fr, some d, tb, rfl, e1, T.zex, T.zaC, .inr ⟨d, _, rfl, e2, (by show 2 < 1000; decide), ?_⟩⟩
    have e3 : upd H1 d (.xd (zjN "line" i [("number", .int (-6)), ("told", .ref q)])) p = some (xO a.zq fr (some d) tb p) := by
      rw [ze (Ne.symm dp)]
      exact e1
    refine ⟨_, rfl, _, rfl, p, _, fr, some d, tb, rfl, e3, T.zex, T.zaB, .inr ⟨d, _, rfl, zc, (by show 3 < 1000; decide), ?_⟩⟩
    rw [zap]
    refine k d q _ (by rw [ze dq] at nd; exact nd) nq dp (by rw [ze (Ne.symm dp)]; exact e1) ?_ (by rw [ze (Ne.symm dq), kp q (Ne.symm pq) (Ne.symm dq)]; exact zc) fun b hb hd hq => by rw [ze hd, kp b hb hd, ze hq]
    rw [zc]
    rfl
theorem zN (T : Txt K mg a) {E : XK} {H : Hp} {k : Nat} {D : ztW} {σ : L2.St} (h : Fails a.zd E H k) :
    zAz K (fun _ => E) (zxx a.zd (zft a.zd "kind") (fun _ => E) (zEo (tC (.int (k : Int))) zAL)) D σ H := by
  refine ⟨(by show 1 ≤ 1000; decide), fun x hx => ⟨x, _, true, .none, rfl, zc, fun d H' nd dx e1 e2 kp => ⟨rfl, x, _, some d, rfl, e1, T.znR, ?_⟩⟩⟩
  refine h d _ (fun b o e n => ?_) (zi0 e2 fun φ q => nomatch q)
  have bx : b ≠ x := zi e hx
  have nd' : H d = none := by
    rw [ze dx] at nd
    exact nd
  refine zi0 ?_ n
  rw [kp b bx (zi e nd'), ze bx]
  exact e
def FailsN (C : Addr) (n : Int) (E : XK) (H : Hp) : Prop := ∀ (d q : Addr) (H' : Hp), zzV H H' → H' d = some (.xd (rfF n q)) → H' q = some (.lst []) → E (C, true) (some d) H'
theorem FailsN.same {C : Addr} {n : Int} {E : XK} {H H1 : Hp} (f : FailsN C n E H) (s : Same H H1) : FailsN C n E H1 := fun d q H' m e e2 => f d q H' (s.thenM m) e e2
theorem zAC {C : Addr} {n : Int} (hE : zxz K C) {E : XK} {H : Hp} {D : ztW} {σ : L2.St} (h : FailsN C n E H) :
    zAz K (fun _ => E) (zxx C (zz6 C n) (fun _ => E) zAL) D σ H := by
  refine ⟨(by show 0 ≤ 1000; decide), fun x hx => ⟨x, true, .none, rfl, zc, fun d q H' nd nq dx e1 e2 e3 kp => ⟨rfl, x, _, some d, rfl, e1, hE, ?_⟩⟩⟩
  refine h d q _ (fun b o e n => ?_) (zi0 e2 fun φ q => nomatch q) (zi0 e3 fun φ q => nomatch q)
  have bx : b ≠ x := zi e hx
  have nd' : H d = none := by
    rw [ze dx] at nd
    exact nd
  have qx : q ≠ x := fun e => by
    rw [e, zc] at nq
    cases nq
  have nq' : H q = none := by
    rw [ze qx] at nq
    exact nq
  refine zi0 ?_ n
  rw [kp b bx (zi e nd') (zi e nq'), ze bx]
  exact e
end
end Wb
end
section
set_option Elab.async false
set_option linter.all false
set_option maxRecDepth 100000
set_option maxHeartbeats 4000000
namespace Wb
open PySem PySem.Spec PyProof.Rows L2 Wm
open PySem.W (Codec)
section
variable {K : PySem.W.Frag} {a : Addr} {xs : List V} {g : TG} {tb : TS} {D : ztW} {σ : L2.St} {H : Hp}
theorem szl : 1000000 ≤ sizeLine := by decide
theorem zDg (Pv : Nat → L2.St → Hp → Prop) (h0 : Pv 0 σ H) (hl : ∀ i σ H, i ≤ xs.length → Pv i σ H → SqL K H a xs)
    (hs : ∀ i x σ H T, xs[i]? = some x → Pv i σ H → H T = none → g (.ref T) σ (upd H T (.tup [.int (i : Nat), x])) fun σ2 H2 => tb { D with nx := Pv (i + 1), ct := Pv (i + 1), bk := D.nx } σ2 H2) (hd : ∀ σ H, Pv xs.length σ H → D.nx σ H) :
    ∃ W : Nat → Nat → L2.St → Hp → Prop, (∃ m, W 0 m σ H) ∧ ∀ i m σ H, W i m σ H →
      ((Ite K a).stop i H ∧ D.nx σ H) ∨ ((Ite K a).go i H ∧ ∃ N : L2.St → Hp → Prop, (∀ σ' H', N σ' H' → ∃ m', m' < m ∧ W (i + 1) m' σ' H') ∧ ∀ x H', (Ite K a).yld i H x H' → g x σ H' fun σ2 H2 => tb { D with nx := N, ct := N, bk := D.nx } σ2 H2) := by
  refine ⟨fun i m σ H => m = xs.length - i ∧ i ≤ xs.length ∧ Pv i σ H, ⟨xs.length, by simp, Nat.zero_le _, h0⟩, ?_⟩
  rintro i m σ H ⟨rfl, hi, p⟩
  have q := hl i σ H hi p
  by_cases hlt : i < xs.length
  · refine .inr ⟨⟨xs, xs[i], q, by simp [hlt]⟩, Pv (i + 1), fun σ' H' p' => ⟨xs.length - (i + 1), by omega, rfl, hlt, p'⟩, fun x H' y => ?_⟩
    obtain ⟨t, z, rfl, ht, rfl, y⟩ := y
    exact hs i z σ H t (y xs q) p ht
  · have e : i = xs.length := by omega
    subst e
    exact .inl ⟨⟨xs, q, Nat.le_refl _⟩, hd σ H p⟩
theorem zCc (Pv : Nat → L2.St → Hp → Prop) (h0 : Pv 0 σ H) (hl : ∀ i σ H, i ≤ xs.length → Pv i σ H → SqT K H a xs)
    (hs : ∀ i x σ H T, xs[i]? = some x → Pv i σ H → H T = none → g (.ref T) σ (upd H T (.tup [.int (i : Nat), x])) fun σ2 H2 => tb { D with nx := Pv (i + 1), ct := Pv (i + 1), bk := D.nx } σ2 H2) (hd : ∀ σ H, Pv xs.length σ H → D.nx σ H) :
    ∃ W : Nat → Nat → L2.St → Hp → Prop, (∃ m, W 0 m σ H) ∧ ∀ i m σ H, W i m σ H →
      ((zCH K a).stop i H ∧ D.nx σ H) ∨ ((zCH K a).go i H ∧ ∃ N : L2.St → Hp → Prop, (∀ σ' H', N σ' H' → ∃ m', m' < m ∧ W (i + 1) m' σ' H') ∧ ∀ x H', (zCH K a).yld i H x H' → g x σ H' fun σ2 H2 => tb { D with nx := N, ct := N, bk := D.nx } σ2 H2) := by
  refine ⟨fun i m σ H => m = xs.length - i ∧ i ≤ xs.length ∧ Pv i σ H, ⟨xs.length, by simp, Nat.zero_le _, h0⟩, ?_⟩
  rintro i m σ H ⟨rfl, hi, p⟩
  have q := hl i σ H hi p
  by_cases hlt : i < xs.length
  · refine .inr ⟨⟨xs, xs[i], q, by simp [hlt]⟩, Pv (i + 1), fun σ' H' p' => ⟨xs.length - (i + 1), by omega, rfl, hlt, p'⟩, fun x H' y => ?_⟩
    obtain ⟨t, z, rfl, ht, rfl, y⟩ := y
    exact hs i z σ H t (y xs q) p ht
  · have e : i = xs.length := by omega
    subst e
    exact .inl ⟨⟨xs, q, Nat.le_refl _⟩, hd σ H p⟩
end
section
variable {g : TG} {te : TE} {vs : List Nat} {σ : L2.St} {H1 : Hp} {Dl : Addr} {Qd : Hp → Prop}
theorem ZC {α : Type} : ∀ {l : List α} {i : Nat} {x : α}, l[i]? = some x → l.take (i + 1) = l.take i ++ [x]
  | [], i, x, h => by simp at h
  | a :: l, 0, x, h => by
    have e : a = x := Option.some.inj h
    subst e
    rfl
  | a :: l, i + 1, x, h => by
    have ih := ZC (l := l) (i := i) (x := x) h
    show a :: l.take (i + 1) = a :: l.take i ++ [x]
    rw [ih]
    rfl
theorem zCR {K : PySem.W.Frag} {a : Addr} {xs : List V} (f : V → V) (hq : SqL K H1 a xs) (hl : xs.length < 1000000) (hn : H1 Dl = none)
    (he : ∀ x ∈ xs, ∀ (H' : Hp) (R : VK), R (f x) H' → g x (ZK σ vs) H' fun σ2 H2 => ZK σ2 vs = ZK σ vs ∧ H2 = H' ∧ te σ2 H' R)
    (hg : ∀ x H' (R R' : L2.St → Hp → Prop), (∀ σ2 H2, R σ2 H2 → R' σ2 H2) → g x (ZK σ vs) H' R → g x (ZK σ vs) H' R')
    (hd : Qd (upd H1 Dl (.lst (xs.map f)))) :
    ∃ W : Nat → Nat → Hp → Prop, (∃ m, W 0 m (upd H1 Dl (.lst []))) ∧ ∀ i m H, W i m H →
      ((Itl K a).stop i H ∧ Qd H) ∨ ((Itl K a).go i H ∧ ∃ Nx : Hp → Prop, (∀ H', Nx H' → ∃ m', m' < m ∧ W (i + 1) m' H') ∧ ∀ x H', (Itl K a).yld i H x H' → g x (ZK σ vs) H' fun σ2 H2 => ZK σ2 vs = ZK σ vs ∧ zEM σ2 H2 fun b H3 =>
        if b = true then te σ2 H3 fun y H4 => ∃ acc, H4 Dl = some (.lst acc) ∧ acc.length < sizeLine ∧ Nx (upd H4 Dl (.lst (acc ++ [y]))) else Nx H3) := by
  refine zho (xs := xs) (fun i H => H = upd H1 Dl (.lst ((xs.take i).map f))) rfl (fun i H hi e => ?_) (fun i x H hx e => ?_) fun H e => ?_
  · rw [e]
    exact Same.seq (fun b o z => by rw [ze (zi z hn)]; exact z) hq
  · subst e
    refine hg x _ _ _ ?_ (he x (List.mem_of_getElem? hx) (upd H1 Dl (.lst ((xs.take i).map f))) (fun y H4 => ∃ acc, H4 Dl = some (.lst acc) ∧ acc.length < sizeLine ∧ upd H4 Dl (.lst (acc ++ [y])) = upd H1 Dl (.lst ((xs.take (i + 1)).map f)))
      ⟨_, zc, by rw [List.length_map, List.length_take]; exact Nat.lt_of_le_of_lt (Nat.min_le_right _ _) (Nat.lt_of_lt_of_le hl szl), by rw [zap, ZC hx, List.map_append]; rfl⟩)
    rintro σ2 H2 ⟨w1, rfl, q⟩
    exact ⟨w1, q⟩
  · rw [e, List.take_length]
    exact hd
theorem zBH {z : Str} (f : Nat → V) (hl : z.cps.toList.length < 1000000) (hn : H1 Dl = none)
    (he : ∀ (c : Nat) (H' : Hp) (R : VK), R (f c) H' → g (.str ⟨#[c]⟩) (ZK σ vs) H' fun σ2 H2 => ZK σ2 vs = ZK σ vs ∧ H2 = H' ∧ te σ2 H' R)
    (hg : ∀ x H' (R R' : L2.St → Hp → Prop), (∀ σ2 H2, R σ2 H2 → R' σ2 H2) → g x (ZK σ vs) H' R → g x (ZK σ vs) H' R')
    (hd : Qd (upd H1 Dl (.lst (z.cps.toList.map f)))) :
    ∃ W : Nat → Nat → Hp → Prop, (∃ m, W 0 m (upd H1 Dl (.lst []))) ∧ ∀ i m H, W i m H →
      ((Its z).stop i H ∧ Qd H) ∨ ((Its z).go i H ∧ ∃ Nx : Hp → Prop, (∀ H', Nx H' → ∃ m', m' < m ∧ W (i + 1) m' H') ∧ ∀ x H', (Its z).yld i H x H' → g x (ZK σ vs) H' fun σ2 H2 => ZK σ2 vs = ZK σ vs ∧ zEM σ2 H2 fun b H3 =>
        if b = true then te σ2 H3 fun y H4 => ∃ acc, H4 Dl = some (.lst acc) ∧ acc.length < sizeLine ∧ Nx (upd H4 Dl (.lst (acc ++ [y]))) else Nx H3) := by
  have hz : z.cps.toList.length = z.cps.size := Array.length_toList
  refine ⟨fun i m H => m = z.cps.size - i ∧ i ≤ z.cps.size ∧ H = upd H1 Dl (.lst ((z.cps.toList.take i).map f)), ⟨z.cps.size, by simp, Nat.zero_le _, rfl⟩, ?_⟩
  rintro i m H ⟨rfl, hi, rfl⟩
  by_cases hlt : i < z.cps.size
  · refine .inr ⟨hlt, fun H' => H' = upd H1 Dl (.lst ((z.cps.toList.take (i + 1)).map f)), fun H' p' => ⟨z.cps.size - (i + 1), by omega, rfl, hlt, p'⟩, fun x H' y => ?_⟩
    obtain ⟨rfl, c, hc, rfl⟩ := y
    have hx : z.cps.toList[i]? = some c := by simpa using hc
    refine hg _ _ _ _ ?_ (he c _ (fun y H4 => ∃ acc, H4 Dl = some (.lst acc) ∧ acc.length < sizeLine ∧ upd H4 Dl (.lst (acc ++ [y])) = upd H1 Dl (.lst ((z.cps.toList.take (i + 1)).map f)))
      ⟨_, zc, by rw [List.length_map, List.length_take]; exact Nat.lt_of_le_of_lt (Nat.min_le_right _ _) (Nat.lt_of_lt_of_le hl szl), by rw [zap, ZC hx, List.map_append]; rfl⟩)
    rintro σ2 H2 ⟨w1, rfl, q⟩
    exact ⟨w1, q⟩
  · have e : i = z.cps.size := by omega
    subst e
    refine .inl ⟨Nat.le_refl _, ?_⟩
    rw [← hz, List.take_length]
    exact hd
end
def zrz : Sp := fun vs H Q _ => ∃ (n : Int) (r s : Addr) (rs ss : List Int), vs = [.int n, .ref r, .ref s] ∧ H r = some (.lst (rs.map V.int)) ∧ H s = some (.lst (ss.map V.int)) ∧ rs.length ≤ 100000 ∧ ss.length ≤ 100000 ∧
  ∀ (H' : Hp) (p : Addr), Same H H' → H' p = some (.lst ((n :: (rs.length : Int) :: (rs ++ (ss.length : Int) :: ss)).map V.int)) → Q (.ref p) H'
def zhN : Sp := fun vs H Q _ => ∃ z : Str, vs = [.str z] ∧ z.cps.toList.length < 1000 ∧ ∀ (H' : Hp) (p : Addr), Same H H' → H p = none → H' p = some (.lst (z.cps.toList.map fun n => V.int ((n : Nat) : Int))) → Q (.ref p) H'
def ztU (K : PySem.W.Frag) : Sp := fun vs H Q _ => ∃ (l : Addr) (b : Bd.Bytes) (c : UInt8), vs = [.ref l, .int ((c.toNat : Nat) : Int)] ∧ SqL K H l (iB b) ∧ b.length ≤ 10000 ∧
  ∀ (H' : Hp) (p : Addr) (as : List Addr), Same H H' → H p = none → (∀ x ∈ as, H x = none) → H' p = some (.lst (as.map V.ref)) → Rows H' as (yK c b) → Q (.ref p) H'
section
variable {P : Program} {w : World} {K : PySem.W.Frag} {mg : Str → Option Value} {base : Heap} {a : Ad} {cm : Bool}
theorem zsg (T : Txt K mg a) : FnOk P w K mg base (CXo P w) cm 1 a.zc3 a.zjZ ["number", "row", "signs"] zrz := by
  refine z9 T.zrb zBT (fun vs H Q E h => ?_) (fun cdv A outer s0 H vs Q E hr h => ?_)
  · obtain ⟨n, r, s, rs, ss, rfl, _⟩ := h
    rfl
  · obtain ⟨n, r, s, rs, ss, rfl, h1, h2, l1, l2, k⟩ := h
    refine ⟨_, (zj (yx (zgI zAm (zgI zAm (zgI zAm (Zd (zb (pv 0) (zb (yL yz rfl T.z_len zc1 (zb (pv 1) zg)) zg))) (pv 1)) (Zd (zb (yL yz rfl T.z_len zc1 (zb (pv 2) zg)) zg))) (pv 2)))), ?_⟩
    have zl := szl
    refine ⟨_, rfl, _, rfl, r, _, rfl, .inl (SqL.of h1), (by show 2 ≤ sizeLine; decide), fun p1 n1 => ?_⟩
    have s1 : Same H (upd H p1 (.lst [.int n, .int ((rs.map V.int).length : Nat)])) := (Same.refl _).new n1
    refine ⟨_, rfl, p1, r, _, _, rfl, rfl, zc, s1 _ _ h1, (by simp; omega), fun p2 n2 => ?_⟩
    have s2 := s1.new (o := .lst ([.int n, .int ((rs.map V.int).length : Nat)] ++ rs.map V.int)) n2
    refine ⟨_, rfl, s, _, rfl, .inl (SqL.of (s2 _ _ h2)), (by show 1 ≤ sizeLine; decide), fun p3 n3 => ?_⟩
    have s3 := s2.new (o := .lst [.int ((ss.map V.int).length : Nat)]) n3
    refine ⟨p2, p3, _, _, rfl, rfl, (by rw [ze (zi zc n3)]; exact zc), zc, (by simp; omega), fun p4 n4 => ?_⟩
    have s4 := s3.new (o := .lst ([.int n, .int ((rs.map V.int).length : Nat)] ++ rs.map V.int ++ [.int ((ss.map V.int).length : Nat)])) n4
    refine ⟨_, rfl, p4, s, _, _, rfl, rfl, zc, s4 _ _ h2, (by simp; omega), fun p5 n5 => ?_⟩
    refine k _ p5 (s4.new n5) ?_
    rw [zc]
    simp
theorem zgC (T : Txt K mg a) : FnOk P w K mg base (CXo P w) true 1 a.ZO a.zcQ ["word"] zhN := by
  refine z9 T.zf5 znP (fun vs H Q E h => ?_) (fun cdv A outer s0 H vs Q E hr h => ?_)
  · obtain ⟨z, rfl, _⟩ := h
    rfl
  · obtain ⟨z, rfl, hl, k⟩ := h
    refine ⟨_, (zj (yx (zzk (own := [("sign", 1)]) rfl znP.nd (zEZ (pv 0)) (by show ze5 ["word", "sign"] (za zaI) _ [("sign", 1)]; exact ⟨rfl, by decide +kernel, by decide +kernel, by decide +kernel, by decide +kernel⟩) (fun s H C cl fp => (ZF (i := 1) znP.nd rfl (by first | exact Or.inl rfl | exact Or.inr rfl))) (fun s H C cl fp => zdh) (fun s H C cl fp => (yL zDv rfl T.z_ord zEE (zb (pv 1) zg)))))), ?_⟩
    refine ⟨_, rfl, z, rfl, fun Dl hD => ?_⟩
    refine zBH (fun n => V.int ((n : Nat) : Int)) (by omega) hD (fun c H' R q => ?_) (fun x H' R R' m q => m _ _ q) ?_
    · exact ⟨rfl, rfl, _, rfl, _, rfl, rfl, q⟩
    · exact k _ Dl ((Same.refl _).new hD) hD zc
def zwP (K : PySem.W.Frag) : Sp := fun vs H Q _ => ∃ (ea C d q : Addr) (fr : Bool) (tb : Value) (F : List (Str × V)) (n : Int) (ns : List Int), vs = [.ref ea] ∧ H ea = some (xO C fr (some d) tb ea) ∧ H d = some (.xd F) ∧ zty K C ∧ NoAttr K C "number" ∧ NoAttr K C "told" ∧
  F.lookup ("number" : Str) = some (.int n) ∧ F.lookup ("told" : Str) = some (.ref q) ∧ H q = some (.lst (ns.map V.int)) ∧ ns.length ≤ 1000 ∧
  ∀ (H' : Hp) (p : Addr), Same H H' → H' p = some (.lst ((n :: (ns.length : Int) :: (ns ++ [0])).map V.int)) → Q (.ref p) H'
theorem zz7 (T : Txt K mg a) : FnOk P w K mg base (CXo P w) cm 2 a.zdd a.zn7 ["refusal"] (zwP K) := by
  have znq : FnOk P w K mg base (CXo P w) cm 1 a.zc3 a.zjZ ["number", "row", "signs"] zrz := zsg T
  refine z9 T.zwi zAd (fun vs H Q E h => ?_) (fun cdv A outer s0 H vs Q E hr h => ?_)
  · obtain ⟨ea, C, d, q, fr, tb, F, n, ns, rfl, _⟩ := h
    rfl
  · obtain ⟨ea, C, d, q, fr, tb, F, n, ns, rfl, l1, ed, xc, na, nb, f1, f2, hq, hl, k⟩ := h
    refine ⟨_, (zj (yx (zX znq (hr.mono (by decide)) rfl T.zun T.zrb.kp T.zu5 .nil takes_cx.passes (zb (zh0 (K := K) rfl (pv 0) rfl) (zb (zh0 (K := K) rfl (pv 0) rfl) (zb (Zd zg) zg)))))), ?_⟩
    refine ⟨_, rfl, ea, C, fr, d, tb, F, _, rfl, l1, ed, xc, na, f1, _, rfl, ea, C, fr, d, tb, F, _, rfl, l1, ed, xc, nb, f2, Nat.zero_le _, fun s ns' => ?_⟩
    refine ⟨n, q, s, ns, [], rfl, by rw [ze (zi hq ns')]; exact hq, zc, by omega, by decide, fun H' p s1 e => k H' p (fun b o z => s1 b o (((Same.refl H).new ns') b o z)) e⟩
end
end Wb
end
section
set_option Elab.async false
set_option linter.all false
set_option maxRecDepth 100000
set_option maxHeartbeats 4000000
namespace Wb
open PySem PySem.Spec PyProof.Rows L2 Wm
open PySem.W (Codec)
theorem zDb {b : Bd.Bytes} {i : Nat} {x : V} (h : (iB b)[i]? = some x) : ∃ c, b[i]? = some c ∧ x = .int ((c.toNat : Nat) : Int) := by
  unfold iB at h
  rw [List.getElem?_map] at h
  cases e : b[i]? with
  | none => rw [e] at h; cases h
  | some c =>
    rw [e] at h
    exact ⟨c, rfl, (Option.some.inj h).symm⟩
theorem zf6 (b : Bd.Bytes) : (iB b).length = b.length := List.length_map _
theorem zDG (b : Bd.Bytes) (c : UInt8) : iB (b ++ [c]) = iB b ++ [.int ((c.toNat : Nat) : Int)] := by
  unfold iB
  rw [List.map_append]
  rfl
theorem toNat_inj {c d : UInt8} : V.int ((c.toNat : Nat) : Int) = V.int ((d.toNat : Nat) : Int) ↔ c = d := by
  constructor
  · intro h
    have h1 : ((c.toNat : Nat) : Int) = ((d.toNat : Nat) : Int) := V.int.inj h
    exact UInt8.toNat_inj.mp (by omega)
  · intro h
    rw [h]
theorem zCC (c : UInt8) (t : Bd.Bytes) : (fl c t).1.length ≤ t.length ∧ (fl c t).2.length ≤ t.length := by
  suffices h : ∀ (t : Bd.Bytes) (p : List Bd.Bytes × Bd.Bytes), (t.foldl (stp c) p).1.length ≤ p.1.length + t.length ∧ (t.foldl (stp c) p).2.length ≤ p.2.length + t.length by
    have z := h t ([], [])
    simpa [fl] using z
  intro t
  induction t with
  | nil => intro p; exact ⟨Nat.le_refl _, Nat.le_refl _⟩
  | cons x t ih =>
    intro p
    rw [List.foldl_cons]
    have z := ih (stp c p x)
    have e : (stp c p x).1.length ≤ p.1.length + 1 ∧ (stp c p x).2.length ≤ p.2.length + 1 := by
      unfold stp
      by_cases q : x = c
      · rw [if_pos q]
        simp
      · rw [if_neg q]
        simp
    simp only [List.length_cons]
    omega
theorem zDo {x : V} {l : List V} : zqT (x :: l) (some 1) none = l := by
  unfold zqT
  show ((x :: l).drop (min 1 (l.length + 1))).take (l.length + 1 - min 1 (l.length + 1)) = l
  rw [show min 1 (l.length + 1) = 1 by omega]
  show l.take (l.length + 1 - 1) = l
  rw [Nat.add_sub_cancel, List.take_length]
theorem zCO {x : V} {l : List V} : zqT (l ++ [x]) none (some (-1)) = l := by
  unfold zqT
  show ((l ++ [x]).drop 0).take (((-1 : Int) + ((l ++ [x]).length : Int)).toNat - 0) = l
  rw [List.drop_zero, show ((-1 : Int) + ((l ++ [x]).length : Int)).toNat - 0 = l.length by simp; omega, List.take_left']
  rfl
def dI (ns : List Int) : PyData := .list (ns.map PyData.int)
theorem zBp {K : PySem.W.Frag} {H : Hp} : ∀ ns : List Int, zs9 K H (ns.map V.int) (ns.map PyData.int)
  | [] => .nil
  | n :: r => .cons (.int n) (zBp r)
theorem zDh {K : PySem.W.Frag} {H : Hp} {p : Addr} {ns : List Int} (h : SqL K H p (ns.map V.int)) : Dp K H (.ref p) (dI ns) := .lst h (zBp ns)
theorem zsW : ∀ ns ms : List Int, PyData.eqvAll (ns.map PyData.int) (ms.map PyData.int) = decide (ns = ms)
  | [], [] => rfl
  | [], _ :: _ => rfl
  | _ :: _, [] => rfl
  | n :: r, m :: q => by
    have ih := zsW r q
    show (PyData.eqv (.int n) (.int m) && PyData.eqvAll (r.map PyData.int) (q.map PyData.int)) = _
    rw [ih, Bool.eq_iff_iff]
    simp [PyData.eqv]
theorem zC9 (ns ms : List Int) : PyData.eqv (dI ns) (dI ms) = decide (ns = ms) := zsW ns ms
theorem ztd : ∀ ns : List Int, PyData.canLayAll0 (ns.map PyData.int) = true
  | [] => by simp [PyData.canLayAll0]
  | n :: r => by simp [PyData.canLayAll0, PyData.canLay0, ztd r]
theorem zvd : ∀ ns : List Int, PyData.depthAll (ns.map PyData.int) ≤ 1
  | [] => by simp [PyData.depthAll]
  | n :: r => by
    have ih := zvd r
    simp [PyData.depthAll, PyData.depth]
    omega
theorem zac (ns : List Int) : SeqAt.shaped (dI ns) = true := by
  have h1 := ztd ns
  have h2 := zvd ns
  have e1 : PyData.canLay0 (.list (ns.map PyData.int)) = PyData.canLayAll0 (ns.map PyData.int) := by simp [PyData.canLay0]
  have e2 : PyData.depth (.list (ns.map PyData.int)) = PyData.depthAll (ns.map PyData.int) + 1 := by simp [PyData.depth]
  unfold SeqAt.shaped dI
  rw [e1, h1, e2, Bool.true_and]
  exact decide_eq_true (by omega)
def jB (b : Bd.Bytes) : List Int := b.map fun c => ((c.toNat : Nat) : Int)
theorem zuA (b : Bd.Bytes) : iB b = (jB b).map V.int := by
  unfold iB jB
  rw [List.map_map]
  rfl
theorem jB_inj {a b : Bd.Bytes} : jB a = jB b ↔ a = b := by
  constructor
  · intro h
    unfold jB at h
    refine List.map_inj_right (fun x y e => ?_) |>.mp h
    exact UInt8.toNat_inj.mp (by omega)
  · intro h
    rw [h]
theorem zmq {K : PySem.W.Frag} {H : Hp} {p : Addr} {b : Bd.Bytes} (h : SqL K H p (iB b)) : Dp K H (.ref p) (dI (jB b)) := zDh (by rw [← zuA]; exact h)
theorem zrZ (a b : Bd.Bytes) : PyData.eqv (dI (jB a)) (dI (jB b)) = decide (a = b) := by
  rw [zC9]
  exact decide_eq_decide.mpr jB_inj
def yT (te : TE) (σ : L2.St) (H : Hp) (v : V) : Prop := ∀ R : VK, R v H → te σ H R
theorem zus {σ : L2.St} {H : Hp} {ta tb tc : TE} {i j k : Int} {Q : VK} (ha : yT ta σ H (.int i)) (hb : yT tb σ H (.int j)) (hc : yT tc σ H (.int k)) (h : Q (.bl (decide (i ≤ j) && decide (j ≤ k))) H) :
    zuM (rI0 fun i j => .bl (decide (i ≤ j))) (rI0 fun i j => .bl (decide (i ≤ j))) ta tb tc σ H Q := by
  refine ha _ (hb _ ⟨_, _, rfl, rfl, _, rfl, ?_⟩)
  by_cases q : i ≤ j
  · rw [decide_eq_true q] at h ⊢
    exact Z6 (hc _ ⟨_, _, rfl, rfl, by simpa using h⟩)
  · rw [decide_eq_false q] at h ⊢
    exact zat (by simpa using h)
theorem zwX {σ : L2.St} {H : Hp} {ta tb tc : TE} {i j k : Int} {Q : Bool → Hp → Prop} (ha : yT ta σ H (.int i)) (hb : yT tb σ H (.int j)) (hc : yT tc σ H (.int k)) (h : Q (decide (i ≤ j) && decide (j ≤ k)) H) :
    zBb (zuM (rI0 fun i j => .bl (decide (i ≤ j))) (rI0 fun i j => .bl (decide (i ≤ j))) ta tb tc) σ H Q := zus ha hb hc ⟨_, rfl, h⟩
def zBx (tt : TT) (σ : L2.St) (H : Hp) (b : Bool) : Prop := ∀ R : Bool → Hp → Prop, R b H → tt σ H R
theorem zE6 {σ : L2.St} {H : Hp} {ta tb : TT} {x y : Bool} {Q : Bool → Hp → Prop} (ha : zBx ta σ H x) (hb : x = true → zBx tb σ H y) (h : Q (x && y) H) : zFb ta tb σ H Q := by
  refine ha _ ?_
  cases x with
  | true => exact Z6 (hb rfl _ h)
  | false => exact zat h
theorem zEh {σ : L2.St} {H : Hp} {ta tb : TT} {x y : Bool} {Q : Bool → Hp → Prop} (ha : zBx ta σ H x) (hb : x = false → zBx tb σ H y) (h : Q (x || y) H) : tOr ta tb σ H Q := by
  refine ha _ ?_
  cases x with
  | true => exact Z6 h
  | false => exact zat (hb rfl _ h)
theorem zD6 {σ : L2.St} {H : Hp} {ta tb : TE} {x y : Bool} {Q : VK} (ha : yT ta σ H (.bl x)) (hb : x = true → yT tb σ H (.bl y)) (h : Q (.bl (x && y)) H) : zCD ta tb σ H Q := by
  refine ha _ ⟨x, rfl, ?_⟩
  cases x with
  | true => exact Z6 (hb rfl _ h)
  | false => exact zat h
theorem zDq {σ : L2.St} {H : Hp} {ta tb : TE} {x y : Bool} {Q : VK} (ha : yT ta σ H (.bl x)) (hb : x = false → yT tb σ H (.bl y)) (h : Q (.bl (x || y)) H) : zEQ ta tb σ H Q := by
  refine ha _ ⟨x, rfl, ?_⟩
  cases x with
  | true => exact Z6 h
  | false => exact zat (hb rfl _ h)
theorem zoa (c : UInt8) (t : Bd.Bytes) : (yK c t).length ≤ t.length + 1 ∧ ∀ x ∈ yK c t, x.length ≤ t.length := by
  suffices h : ∀ t : Bd.Bytes, (yK c t).length ≤ t.length + 1 ∧ ∀ x ∈ yK c t, x.length ≤ t.length by exact h t
  intro t
  induction t with
  | nil => exact ⟨Nat.le_refl _, fun x hx => by rw [List.mem_singleton.mp hx]; exact Nat.le_refl _⟩
  | cons d r ih =>
    obtain ⟨y, l, e⟩ := ZE c r
    rw [e] at ih
    unfold yK
    rw [e]
    by_cases h : d = c
    · rw [if_pos h]
      refine ⟨by simpa using ih.1, fun x hx => ?_⟩
      rcases List.mem_cons.mp hx with z | z
      · rw [z]
        exact Nat.zero_le _
      · have := ih.2 x z
        rw [List.length_cons]
        omega
    · rw [if_neg h]
      refine ⟨by have := ih.1; simp at this ⊢; omega, fun x hx => ?_⟩
      rcases List.mem_cons.mp hx with z | z
      · rw [z]
        have := ih.2 y (by simp)
        simp
        omega
      · have := ih.2 x (by simp [z])
        rw [List.length_cons]
        omega
theorem zuN {wd line : Bd.Bytes} {r : List Bd.Bytes} (h : zL wd line = some r) : r.length ≤ line.length ∧ ∀ x ∈ r, x.length ≤ line.length := by
  have z := zoa 32 line
  unfold zL at h
  obtain ⟨y, l, e⟩ := ZE 32 line
  rw [e] at h z
  dsimp only at h
  by_cases q : y = wd
  · rw [if_pos q] at h
    have h' := Option.some.inj h
    subst h'
    refine ⟨by have := z.1; simp at this; omega, fun x hx => z.2 x (by simp [hx])⟩
  · rw [if_neg q] at h
    cases h
section
variable {P : Program} {w : World} {K : PySem.W.Frag} {mg : Str → Option Value} {base : Heap} {a : Ad}
theorem zn3 (T : Txt K mg a) : FnOk P w K mg base (CXo P w) true 1 a.zaH a.zfV ["row", "sign"] (ztU K) := by
  refine z9 T.zlA zm5 (fun vs H Q E h => ?_) (fun cdv A outer s0 H vs Q E hr h => ?_)
  · obtain ⟨l, b, c, rfl, _⟩ := h
    rfl
  · obtain ⟨l, b, c, rfl, hS, hl, k⟩ := h
    have zl := szl
    refine ⟨_, (zo (zai (i := 2) zm5.nd rfl (by first | exact Or.inl rfl | exact Or.inr rfl) (Zd (zb (Zd zg) zg)))
      (zo (zpI takes_cx.po rfl (zb4 (pv 0)) (ZF (i := 3) zm5.nd rfl (by first | exact Or.inl rfl | exact Or.inr rfl)) (zj (ZD (yl zoP (pv 3) (pv 1) (yp _)) (zj (ZT (zmb PySem.F.plainAttrs_list PySem.F.slot_list_append PySem.F.type_list_append zeD (pv 2) (zb (Zd zg) zg)))) (zj (ZT (zmb PySem.F.plainAttrs_list PySem.F.slot_list_append PySem.F.type_list_append zeD (Zi yJ (pv 2) (zo2 zjx zD) (fun _ _ => rfl)) (zb (pv 3) zg)))))))
      (zj (yx (pv 2))))), ?_⟩
    refine ⟨Nat.zero_le _, fun z nz => ⟨(by show 1 ≤ sizeLine; decide), fun p np => ?_⟩⟩
    have zp : z ≠ p := zi (zc (H := H) (a := z) (o := .lst [])) np
    have np' : H p = Option.none := by
      rw [ze (Ne.symm zp)] at np
      exact np
    have s0' : Same H (upd (upd H z (.lst [])) p (.lst [.ref z])) := ((Same.refl _).new nz).new np
    refine ⟨_, rfl, l, rfl, ⟨_, s0'.seq hS⟩, zni (K := K) (a := l) (xs := iB b) (fun i σ H' => ∃ (v : Option V) (as : List Addr) (z : Addr), σ = [some (.ref l), some (.int ((c.toNat : Nat) : Int)), some (.ref p), v] ∧ Same H H' ∧
        H' p = some (.lst ((as ++ [z]).map V.ref)) ∧ Rows H' as (fl c (b.take i)).1 ∧ H' z = some (.lst (iB (fl c (b.take i)).2)) ∧ z ∉ as ∧ p ≠ z ∧ p ∉ as ∧ (∀ x ∈ as ++ [z], H x = none))
      ⟨none, [], z, rfl, s0', zc, .nil, by rw [ze zp]; exact zc, by simp, Ne.symm zp, by simp, by simpa using nz⟩ (fun i σ H' _ ⟨_, _, _, _, s5, _⟩ => s5.seq hS) ?_ ?_⟩
    · rintro i y σ H' hi ⟨v, as, z, rfl, s5, hp, hrow, hz, nza, npz, npa, fr⟩
      obtain ⟨d, hd, rfl⟩ := zDb hi
      have lt : i < b.length := (List.getElem?_eq_some_iff.mp hd).1
      have len1 := zCC c (b.take i)
      have lr := Paired.length hrow
      rw [List.length_take] at len1
      have et : fl c (b.take (i + 1)) = stp c (fl c (b.take i)) d := by rw [ZC hd, zDX]
      refine ⟨_, rfl, _, rfl, rfl, _, rfl, zF5 (fun q => ?_) (fun q => ?_)⟩
      · -- a new part
        have q' : d = c := toNat_inj.mp (of_decide_eq_true q)
        have et2 : fl c (b.take (i + 1)) = ((fl c (b.take i)).1 ++ [(fl c (b.take i)).2], []) := by rw [et]; exact if_pos q'
        refine ⟨_, rfl, .inl ⟨rfl, _, SqL.of hp⟩, Nat.zero_le _, fun z' nz' => ?_⟩
        have hp' : upd H' z' (.lst []) p = some (.lst ((as ++ [z]).map V.ref)) := by
          rw [ze (zi hp nz')]
          exact hp
        refine ⟨p, _, _, rfl, rfl, hp', (by simp; omega), ?_⟩
        have z'p : z' ≠ p := Ne.symm (zi hp nz')
        have z'z : z ≠ z' := zi hz nz'
        have nH : H z' = Option.none := s5.free nz'
        have z'as : z' ∉ as := fun m => by
          have ⟨i2, hi2, e2⟩ := List.getElem_of_mem m
          have hb : (fl c (b.take i)).1[i2]? = some ((fl c (b.take i)).1[i2]'(by omega)) := List.getElem?_eq_getElem _
          obtain ⟨a2, ha2, h2⟩ := Rows.get hrow hb
          have e3 : a2 = z' := by
            rw [List.getElem?_eq_getElem hi2, e2] at ha2
            exact (Option.some.inj ha2).symm
          rw [e3, nz'] at h2
          cases h2
        refine ⟨_, as ++ [z], z', rfl, (s5.new nz').set np', ?_, ?_, ?_, ?_, Ne.symm z'p, ?_, ?_⟩
        · rw [zc, List.map_append (f := V.ref) (l₁ := as ++ [z])]
          rfl
        · rw [et2]
          have r1 : Rows (upd (upd H' z' (.lst [])) p (.lst ((as ++ [z]).map V.ref ++ [.ref z']))) as (fl c (b.take i)).1 := Rows.upd (Rows.upd hrow z'as) npa
          refine Paired.snoc r1 ?_
          rw [ze (Ne.symm npz), ze z'z]
          exact hz
        · rw [et2, ze z'p]
          exact zc
        · simp only [List.mem_append, List.mem_singleton, not_or]
          exact ⟨z'as, Ne.symm z'z⟩
        · simp only [List.mem_append, List.mem_singleton, not_or]
          exact ⟨npa, npz⟩
        · intro x hx
          rcases List.mem_append.mp hx with m | m
          · exact fr x m
          · rw [List.mem_singleton.mp m]
            exact nH
      · -- one more byte
        have q' : ¬ d = c := fun e => q (decide_eq_true (toNat_inj.mpr e))
        have et2 : fl c (b.take (i + 1)) = ((fl c (b.take i)).1, (fl c (b.take i)).2 ++ [d]) := by rw [et]; exact if_neg q'
        refine ⟨_, rfl, _, rfl, p, _, _, .ref z, rfl, rfl, SqL.of hp, (by rw [List.map_append]; exact zif _ _), .inl ⟨rfl, _, SqL.of hz⟩, _, rfl, z, _, _, rfl, rfl, hz, (by rw [zf6]; omega), ?_⟩
        refine ⟨_, as, z, rfl, s5.set (fr z (by simp)), ?_, ?_, ?_, nza, npz, npa, fr⟩
        · rw [ze npz]
          exact hp
        · rw [et2]
          exact Rows.upd hrow nza
        · rw [et2, zc]
          show some (HO.lst (iB (fl c (b.take i)).2 ++ [.int ((d.toNat : Nat) : Int)])) = some (HO.lst (iB ((fl c (b.take i)).2 ++ [d])))
          rw [zDG]
    · rintro σ H' ⟨v, as, z, rfl, s5, hp, hrow, hz, nza, npz, npa, fr⟩
      rw [zf6, List.take_length] at hrow hz
      refine ⟨_, rfl, ?_⟩
      refine k H' p (as ++ [z]) s5 np' fr hp ?_
      rw [← zqC]
      exact Paired.snoc hrow hz
def zuu (K : PySem.W.Frag) (C : Addr) : Sp := fun vs H Q E => ∃ (z : Str) (l : Addr) (wd line : Bd.Bytes), vs = [.str z, .ref l] ∧ z.cps.toList = wd.map (·.toNat) ∧ wd.length < 1000 ∧ SqL K H l (iB line) ∧ line.length ≤ 10000 ∧
  match zL wd line with
  | none => Fails C E H 1
  | some r => ∀ (H' : Hp) (p : Addr) (as : List Addr), Same H H' → H p = none → (∀ x ∈ as, H x = none) → H' p = some (.lst (as.map V.ref)) → Rows H' as r → Q (.ref p) H'
theorem zkf (T : Txt K mg a) : FnOk P w K mg base (CXo P w) true 3 a.yW a.zcd ["word", "line"] (zuu K a.zd) := by
  have zic : FnOk P w K mg base (CXo P w) true 1 a.zaH a.zfV ["row", "sign"] (ztU K) := zn3 T
  have zbQ : FnOk P w K mg base (CXo P w) true 1 a.ZO a.zcQ ["word"] zhN := zgC T
  have zf : FnOk P w K mg base (CXo P w) true 1 a.zv a.zy ["self", "kind"] (zft a.zd "kind") := zJ T
  refine z9 T.zgM zke (fun vs H Q E h => ?_) (fun cdv A outer s0 H vs Q E hr h => ?_)
  · obtain ⟨z, l, wd, line, rfl, _⟩ := h
    rfl
  · obtain ⟨z, l, wd, line, rfl, hw, hwl, hS, hl, k⟩ := h
    refine ⟨_, (zo (zai (i := 2) zke.nd rfl (by first | exact Or.inl rfl | exact Or.inr rfl) (zX zic (hr.mono (by decide)) rfl T.zp7 T.zlA.kp T.zpl .nil takes_cx.passes (zb (pv 1) (zb (zz (v := .int 32) rfl T.zA5 ⟨_, rfl⟩) zg))))
      (zo (ZD (yl (zvn hr.units) (Zi yJ (pv 2) zD (fun _ _ => rfl)) (zX zbQ (hr.mono (by decide)) rfl T.zhW T.zf5.kp T.zis .nil takes_cx.passes (zb (pv 0) zg)) (yp _)) (zj (yI takes_cx rfl (yB T.zM zf (hr.mono (by decide)) rfl T.zF T.zr takes_cx (zb (zz (v := .int 1) rfl T.ZX ⟨_, rfl⟩) zg)))) yD)
      (zj (yx (zm3 zqN (pv 2) (zlm zD) zxB))))), ?_⟩
    refine ⟨_, rfl, l, line, 32, rfl, hS, hl, fun H1 p as s1 np fr hp rows => ?_⟩
    obtain ⟨x, r, ex⟩ := ZE 32 line
    rw [ex] at rows
    unfold zL at k
    rw [ex] at k
    dsimp only at k
    cases rows with
    | cons hx rr =>
      rename_i x0 as'
      refine ⟨_, rfl, p, _, _, _, rfl, rfl, SqL.of hp, yj (j := 0) rfl, _, rfl, z, rfl, (by rw [hw, List.length_map]; exact hwl), fun H2 p2 s2 n2 e2 => ?_⟩
      have ez : (z.cps.toList.map fun n => V.int ((n : Nat) : Int)) = iB wd := by
        rw [hw, List.map_map]
        rfl
      rw [ez] at e2
      refine ⟨_, _, zmq (SqL.of (s2 _ _ hx)), zmq (SqL.of e2), zac _, zac _, _, rfl, ?_⟩
      rw [zrZ]
      by_cases q : x = wd
      · rw [if_pos q] at k
        rw [decide_eq_true q]
        refine zat ?_
        refine ⟨_, rfl, 1, rfl, p, _, rfl, SqL.of (s2 _ _ hp), fun p3 n3 => ?_⟩
        have s3 := ((s1.trans s2).new (o := .lst (zqT (V.ref x0 :: as'.map V.ref) (some 1) none)) n3)
        refine k _ p3 as' s3 ((s1.trans s2).free n3) (fun y hy => fr y (by simp [hy])) ?_ ?_
        · rw [zc, List.map_cons, zDo]
        · exact Rows.same (fun b o e => by rw [ze (zi (s2 _ _ e) n3)]; exact s2 _ _ e) rr
      · rw [if_neg q] at k
        rw [decide_eq_false q]
        refine Z6 ?_
        exact zN T (k.same (s1.trans s2))
def zAZ (K : PySem.W.Frag) (C : Addr) : Sp := fun vs H Q E => ∃ (z : Str) (l : Addr) (wd line : Bd.Bytes), vs = [.str z, .ref l] ∧ z.cps.toList = wd.map (·.toNat) ∧ wd.length < 1000 ∧ SqL K H l (iB line) ∧ line.length ≤ 10000 ∧
  match zAh wd line with
  | none => Fails C E H 1
  | some x => ∀ (H' : Hp) (p : Addr), Same H H' → H p = none → H' p = some (.lst (iB x)) → x.length ≤ 10000 → Q (.ref p) H'
theorem ztt (T : Txt K mg a) : FnOk P w K mg base (CXo P w) true 4 a.Zz a.zeR ["word", "line"] (zAZ K a.zd) := by
  have zg0 : FnOk P w K mg base (CXo P w) true 3 a.yW a.zcd ["word", "line"] (zuu K a.zd) := zkf T
  have zf : FnOk P w K mg base (CXo P w) true 1 a.zv a.zy ["self", "kind"] (zft a.zd "kind") := zJ T
  refine z9 T.znJ zl8 (fun vs H Q E h => ?_) (fun cdv A outer s0 H vs Q E hr h => ?_)
  · obtain ⟨z, l, wd, line, rfl, _⟩ := h
    rfl
  · obtain ⟨z, l, wd, line, rfl, hw, hwl, hS, hl, k⟩ := h
    refine ⟨_, (zo (zai (i := 2) zl8.nd rfl (by first | exact Or.inl rfl | exact Or.inr rfl) (zX zg0 (hr.mono (by decide)) rfl T.zl7 T.zgM.kp T.zmk .nil takes_cx.passes (zb (pv 0) (zb (pv 1) zg))))
      (zo (ZD (yl zA6 (yL yz rfl T.z_len zc1 (zb (pv 2) zg)) zD (yp _)) (zj (yI takes_cx rfl (yB T.zM zf (hr.mono (by decide)) rfl T.zF T.zr takes_cx (zb (zz (v := .int 1) rfl T.ZX ⟨_, rfl⟩) zg)))) yD)
      (zj (yx (Zi yJ (pv 2) zD (fun _ _ => rfl)))))), ?_⟩
    refine ⟨_, rfl, _, rfl, z, l, wd, line, rfl, hw, hwl, hS, hl, ?_⟩
    unfold zAh at k
    cases hf : zL wd line with
    | none =>
      rw [hf] at k
      exact k
    | some r =>
      rw [hf] at k
      have fln := zuN hf
      intro H1 p fs s1 np fr hp rows
      have fll : fs.length = r.length := Paired.length rows
      refine ⟨_, rfl, p, _, rfl, .inl (SqL.of hp), rfl, _, rfl, ?_⟩
      by_cases h1 : r.length = 1
      rotate_left
      · rw [show (!decide (V.int (((fs.map V.ref).length : Nat) : Int) = V.int 1)) = true by
          rw [decide_eq_false]
          · rfl
          · intro z
            have z' := V.int.inj z
            rw [List.length_map] at z'
            omega]
        refine Z6 (zN T ?_)
        match r, h1, k with
        | [], _, k => exact k.same s1
        | [_], h1, _ => exact absurd rfl h1
        | _ :: _ :: _, _, k => exact k.same s1
      rw [show (!decide (V.int (((fs.map V.ref).length : Nat) : Int) = V.int 1)) = false by
        rw [decide_eq_true]
        · rfl
        · rw [List.length_map, fll, h1]
          rfl]
      refine zat ?_
      obtain ⟨x, rfl⟩ : ∃ x, r = [x] := by
        match r, h1 with
        | [x], _ => exact ⟨x, rfl⟩
      have hxl := fln.2 x (by simp)
      cases rows with
      | cons hx rr =>
        cases rr
        rename_i f
        exact ⟨_, rfl, p, _, _, _, rfl, rfl, SqL.of hp, yj (j := 0) rfl, k H1 f s1 (fr f (by simp)) hx (by omega)⟩
end
end Wb
end
section
set_option Elab.async false
set_option linter.all false
set_option maxRecDepth 100000
set_option maxHeartbeats 4000000
namespace Wb
open PySem PySem.Spec PyProof.Rows L2 Wm
open PySem.W (Codec)
def zu7 (K : PySem.W.Frag) (C : Addr) : Sp := fun vs H Q E => ∃ (l : Addr) (x : Bd.Bytes), vs = [.ref l] ∧ SqL K H l (iB x) ∧ x.length ≤ 10000 ∧
  match Bd.readNumber x with
  | none => Fails C E H 1
  | some n => ∀ H' : Hp, Same H H' → Q (.int ((n : Nat) : Int)) H'
def zDe (K : PySem.W.Frag) (C : Addr) : Sp := fun vs H Q E => ∃ (l : Addr) (x : Bd.Bytes), vs = [.ref l] ∧ SqL K H l (iB x) ∧ x.length ≤ 10000 ∧
  match zkG x with
  | .error k => Fails C E H k
  | .ok _ => ∀ H' : Hp, Same H H' → Q (.ref l) H'
def zBz (K : PySem.W.Frag) (C : Addr) : Sp := fun vs H Q E => ∃ (l : Addr) (x : Bd.Bytes) (least most : Nat), vs = [.ref l, .int ((least : Nat) : Int), .int ((most : Nat) : Int)] ∧ SqL K H l (iB x) ∧ x.length ≤ 10000 ∧
  match zsq x least most with
  | .error k => Fails C E H k
  | .ok n => ∀ H' : Hp, Same H H' → Q (.int ((n : Nat) : Int)) H'
def zEg (K : PySem.W.Frag) (C : Addr) : Sp := fun vs H Q E => ∃ (l : Addr) (x : Bd.Bytes), vs = [.ref l] ∧ SqL K H l (iB x) ∧ x.length ≤ 10000 ∧
  match zix x with
  | none => Fails C E H 1
  | some n => ∀ H' : Hp, Same H H' → Q (.int ((n : Nat) : Int)) H'
def inB (lo hi : Int) : V → V
  | .int n => .bl (decide (lo ≤ n) && decide (n ≤ hi))
  | _ => .bl false
theorem zBc (lo hi : Int) (x : Bd.Bytes) : (iB x).map (inB lo hi) = (x.map fun c => decide (lo ≤ ((c.toNat : Nat) : Int)) && decide (((c.toNat : Nat) : Int) ≤ hi)).map V.bl := by
  unfold iB
  rw [List.map_map, List.map_map]
  rfl
theorem zCx (x : Bd.Bytes) : ((x.map fun c => decide ((48 : Int) ≤ ((c.toNat : Nat) : Int)) && decide (((c.toNat : Nat) : Int) ≤ 57)).all id) = x.all Bd.isDigit := by
  rw [List.all_map]
  refine congrArg (fun f => x.all f) (funext fun c => ?_)
  unfold Bd.isDigit
  show (decide ((48 : Int) ≤ ((c.toNat : Nat) : Int)) && decide (((c.toNat : Nat) : Int) ≤ 57)) = _
  rw [Bool.eq_iff_iff]
  simp only [Bool.and_eq_true, decide_eq_true_eq]
  omega
theorem zB8 (x : Bd.Bytes) : ((x.map fun c => decide ((97 : Int) ≤ ((c.toNat : Nat) : Int)) && decide (((c.toNat : Nat) : Int) ≤ 122)).all id) = x.all Bd.isSmall := by
  rw [List.all_map]
  refine congrArg (fun f => x.all f) (funext fun c => ?_)
  unfold Bd.isSmall
  show (decide ((97 : Int) ≤ ((c.toNat : Nat) : Int)) && decide (((c.toNat : Nat) : Int) ≤ 122)) = _
  rw [Bool.eq_iff_iff]
  simp only [Bool.and_eq_true, decide_eq_true_eq]
  omega
theorem zBs {x : Bd.Bytes} {v : V} (h : v ∈ iB x) : ∃ n : Int, v = .int n := by
  unfold iB at h
  obtain ⟨c, _, rfl⟩ := List.mem_map.mp h
  exact ⟨_, rfl⟩
section
variable {P : Program} {w : World} {K : PySem.W.Frag} {mg : Str → Option Value} {base : Heap} {a : Ad}
theorem zqK (T : Txt K mg a) : FnOk P w K mg base (CXo P w) true 3 a.zax a.zgB ["field"] (zu7 K a.zd) := by
  have zf : FnOk P w K mg base (CXo P w) true 1 a.zv a.zy ["self", "kind"] (zft a.zd "kind") := zJ T
  refine z9 T.znH zdc (fun vs H Q E h => ?_) (fun cdv A outer s0 H vs Q E hr h => ?_)
  · obtain ⟨l, x, rfl, _⟩ := h
    rfl
  · obtain ⟨l, x, rfl, hS, hl, k⟩ := h
    rw [zvy] at k
    have bad : zrk x = false → Fails a.zd E H 1 := fun z => by
      rw [if_neg (by rw [z]; decide)] at k
      exact k
    refine ⟨_, (zo (ZD (zqe (zzm zhm zhm zD (yL yz rfl T.z_len zc1 (zb (pv 0) zg)) (zz (v := .int 5) rfl T.zvX ⟨_, rfl⟩))) (zj (yI takes_cx rfl (yB T.zM zf (hr.mono (by decide)) rfl T.zF T.zr takes_cx (zb (zz (v := .int 1) rfl T.ZX ⟨_, rfl⟩) zg)))) yD)
      (zo (ZD (zqe (zf8 (yL (zAN rfl) rfl T.z_all zAy (zb (zzk (own := [("byte", 1)]) rfl zdc.nd (zb4 (pv 0)) (by show ze5 ["field", "byte", "number"] (za Z0) _ [("byte", 1)]; exact ⟨rfl, by decide +kernel, by decide +kernel, by decide +kernel, by decide +kernel⟩) (fun s H C cl fp => (ZF (i := 1) zdc.nd rfl (by first | exact Or.inl rfl | exact Or.inr rfl))) (fun s H C cl fp => zdh) (fun s H C cl fp => (zqB zhm zhm (zz (v := .int 48) rfl T.zuF ⟨_, rfl⟩) (pv 1) (zz (v := .int 57) rfl T.zET ⟨_, rfl⟩)))) zg)))) (zj (yI takes_cx rfl (yB T.zM zf (hr.mono (by decide)) rfl T.zF T.zr takes_cx (zb (zz (v := .int 1) rfl T.ZX ⟨_, rfl⟩) zg)))) yD)
      (zo (ZD (PW.pt (zym (yl zoP (Zi yJ (pv 0) zD (fun _ _ => rfl)) (zz (v := .int 48) rfl T.zuF ⟨_, rfl⟩) (yp _)) (ztQ (yl zyS (yL yz rfl T.z_len zc1 (zb (pv 0) zg)) zD (yp _))))) (zj (yI takes_cx rfl (yB T.zM zf (hr.mono (by decide)) rfl T.zF T.zr takes_cx (zb (zz (v := .int 1) rfl T.ZX ⟨_, rfl⟩) zg)))) yD)
      (zo (zai (i := 2) zdc.nd rfl (by first | exact Or.inl rfl | exact Or.inr rfl) zD)
      (zo (zpI takes_cx.po rfl (zb4 (pv 0)) (ZF (i := 1) zdc.nd rfl (by first | exact Or.inl rfl | exact Or.inr rfl)) (zj (zai (i := 2) zdc.nd rfl (by first | exact Or.inl rfl | exact Or.inr rfl) (zgI zxb (zgI zlB (zgI zEP (pv 2) zD) (pv 1)) (zz (v := .int 48) rfl T.zuF ⟨_, rfl⟩)))))
      (zj (yx (pv 2)))))))), ?_⟩
    refine zwX (i := 1) (j := (x.length : Nat)) (k := 5) (fun R r => r) (fun R r => ⟨_, rfl, l, _, rfl, .inl hS, by rw [zf6]; exact r⟩) (fun R r => r) ?_
    by_cases h1 : 1 ≤ x.length ∧ x.length ≤ 5
    rotate_left
    · rw [show (decide ((1 : Int) ≤ ((x.length : Nat) : Int)) && decide (((x.length : Nat) : Int) ≤ 5)) = false by
        rw [Bool.eq_false_iff]
        intro z
        simp only [Bool.and_eq_true, decide_eq_true_eq] at z
        omega]
      refine Z6 (zN T (bad ?_))
      rw [Bool.eq_false_iff]
      intro z
      unfold zrk at z
      simp only [Bool.and_eq_true, decide_eq_true_eq] at z
      omega
    rw [show (decide ((1 : Int) ≤ ((x.length : Nat) : Int)) && decide (((x.length : Nat) : Int) ≤ 5)) = true by
      simp only [Bool.and_eq_true, decide_eq_true_eq]
      omega]
    refine zat ?_
    refine ⟨_, rfl, l, rfl, ⟨_, hS⟩, fun Dl hD => zCR (inB 48 57) hS (by rw [zf6]; omega) hD (fun v hv H' R q => ?_) (fun x H' R R' m q => m _ _ q) ?_⟩
    · obtain ⟨n, rfl⟩ := zBs hv
      exact ⟨rfl, rfl, zus (fun R r => r) (fun R r => ⟨_, rfl, r⟩) (fun R r => r) q⟩
    rw [zBc]
    refine ⟨Dl, _, rfl, SqL.of zc, _, rfl, ?_⟩
    rw [zCx]
    have s1 : Same H (upd H Dl (.lst ((x.map fun c => decide ((48 : Int) ≤ ((c.toNat : Nat) : Int)) && decide (((c.toNat : Nat) : Int) ≤ 57)).map V.bl))) := (Same.refl _).new hD
    cases h2 : x.all Bd.isDigit with
    | false =>
      refine Z6 (zN T ((bad ?_).same s1))
      unfold zrk
      rw [h2]
      simp
    | true =>
      refine zat ?_
      have hS1 := s1.seq hS
      generalize upd H Dl (.lst ((x.map fun c => decide ((48 : Int) ≤ ((c.toNat : Nat) : Int)) && decide (((c.toNat : Nat) : Int) ≤ 57)).map V.bl)) = H1 at s1 hS1
      obtain ⟨c0, xr, rfl⟩ : ∃ c0 xr, x = c0 :: xr := by
        cases x with
        | nil => simp at h1
        | cons c0 xr => exact ⟨c0, xr, rfl⟩
      dsimp only [zmp, ztB, zwb]
      refine zE6 (x := decide (V.int ((c0.toNat : Nat) : Int) = V.int 48)) (y := decide ((1 : Int) < (((c0 :: xr).length : Nat) : Int))) (fun R r => ⟨_, rfl, l, _, _, _, rfl, rfl, hS1, yj (j := 0) rfl, rfl, _, rfl, r⟩)
        (fun _ R r => ⟨_, rfl, l, _, rfl, .inl hS1, _, _, rfl, rfl, _, rfl, by rw [zf6]; exact r⟩) ?_
      have nn : (decide (V.int ((c0.toNat : Nat) : Int) = V.int 48) && decide ((1 : Int) < (((c0 :: xr).length : Nat) : Int))) = zjl (c0 :: xr) := by
        unfold zjl
        rw [Bool.eq_iff_iff]
        simp only [List.headD_cons, Bool.and_eq_true, beq_iff_eq, decide_eq_true_eq]
        have z : V.int ((c0.toNat : Nat) : Int) = V.int 48 ↔ c0 = 48 := toNat_inj (c := c0) (d := 48)
        rw [z]
        refine and_congr Iff.rfl ?_
        omega
      rw [nn]
      cases hn : zjl (c0 :: xr) with
      | true => exact Z6 (zN T ((bad (by unfold zrk; rw [hn]; simp)).same s1))
      | false =>
        refine zat ?_
        rw [if_pos (by
          unfold zrk
          rw [h2, hn]
          simp only [Bool.and_eq_true, decide_eq_true_eq, Bool.not_false, Bool.and_true]
          omega)] at k
        generalize hx : c0 :: xr = x at *
        refine ⟨_, rfl, l, rfl, ⟨_, hS1⟩, zni (K := K) (a := l) (xs := iB x) (fun i σ H' => ∃ v : Option V, σ = [some (.ref l), v, some (.int ((Bd.valueOf (x.take i) : Nat) : Int))] ∧ H' = H1)
          ⟨none, rfl, rfl⟩ (fun i σ H' _ ⟨_, _, e⟩ => by rw [e]; exact hS1) ?_ ?_⟩
        · rintro i y σ H' hi ⟨v, rfl, rfl⟩
          obtain ⟨d, hd, rfl⟩ := zDb hi
          have dd : Bd.isDigit d = true := (List.all_eq_true.mp h2) d (List.mem_of_getElem? hd)
          unfold Bd.isDigit at dd
          simp only [Bool.and_eq_true, decide_eq_true_eq] at dd
          have vl : Bd.valueOf (x.take i) < 100000 := zAU _ (by rw [List.length_take]; omega) (List.all_eq_true.mpr fun c hc => (List.all_eq_true.mp h2) c (List.mem_of_mem_take hc))
          refine ⟨_, rfl, _, _, rfl, rfl, .inl ⟨by omega, by omega⟩, _, rfl, _, _, rfl, rfl, _, _, rfl, rfl, ?_⟩
          refine ⟨some (V.int ((d.toNat : Nat) : Int)), ?_, rfl⟩
          rw [ZC hd, zld]
          show [some (V.ref l), some (V.int ((d.toNat : Nat) : Int)), some (V.int (((Bd.valueOf (x.take i) : Nat) : Int) * 10 + ((d.toNat : Nat) : Int) - 48))] = _
          rw [show ((Bd.valueOf (x.take i) : Nat) : Int) * 10 + ((d.toNat : Nat) : Int) - 48 = ((10 * Bd.valueOf (x.take i) + (d.toNat - 48) : Nat) : Int) by omega]
        · rintro σ H' ⟨v, rfl, rfl⟩
          rw [zf6, List.take_length]
          exact ⟨_, rfl, k _ s1⟩
theorem zAG (T : Txt K mg a) : FnOk P w K mg base (CXo P w) true 3 a.zdj a.zoj ["field"] (zDe K a.zd) := by
  have zf : FnOk P w K mg base (CXo P w) true 1 a.zv a.zy ["self", "kind"] (zft a.zd "kind") := zJ T
  refine z9 T.zw5 zp8 (fun vs H Q E h => ?_) (fun cdv A outer s0 H vs Q E hr h => ?_)
  · obtain ⟨l, x, rfl, _⟩ := h
    rfl
  · obtain ⟨l, x, rfl, hS, hl, k⟩ := h
    unfold zkG at k
    refine ⟨_, (zo (ZD (PW.pt (zwE (yl (zAQ hr.units) (pv 0) (Zd zg) (yp _)) (zrV (zqe (zf8 (yL (zAN rfl) rfl T.z_all zAy (zb (zzk (own := [("byte", 1)]) rfl zp8.nd (zb4 (pv 0)) (by show ze5 ["field", "byte"] (za zbC) _ [("byte", 1)]; exact ⟨rfl, by decide +kernel, by decide +kernel, by decide +kernel, by decide +kernel⟩) (fun s H C cl fp => (ZF (i := 1) zp8.nd rfl (by first | exact Or.inl rfl | exact Or.inr rfl))) (fun s H C cl fp => zdh) (fun s H C cl fp => (zqB zhm zhm (zz (v := .int 97) rfl T.zvu ⟨_, rfl⟩) (pv 1) (zz (v := .int 122) rfl T.zvK ⟨_, rfl⟩)))) zg))))))) (zj (yI takes_cx rfl (yB T.zM zf (hr.mono (by decide)) rfl T.zF T.zr takes_cx (zb (zz (v := .int 1) rfl T.ZX ⟨_, rfl⟩) zg)))) yD)
      (zo (ZD (yl zyS (yL yz rfl T.z_len zc1 (zb (pv 0) zg)) (zz (v := .int 15) rfl T.zoq ⟨_, rfl⟩) (yp _)) (zj (yI takes_cx rfl (yB T.zM zf (hr.mono (by decide)) rfl T.zF T.zr takes_cx (zb (zz (v := .int 2) rfl T.zgT ⟨_, rfl⟩) zg)))) yD)
      (zj (yx (pv 0))))), ?_⟩
    refine ⟨_, rfl, Nat.zero_le _, fun p1 n1 => ?_⟩
    have s1 : Same H (upd H p1 (.lst [])) := (Same.refl _).new n1
    have hS1 := s1.seq hS
    have e1 : SqL K (upd H p1 (.lst [])) p1 (iB []) := SqL.of zc
    generalize upd H p1 (.lst []) = H1 at s1 hS1 e1
    refine ⟨_, _, zmq hS1, zmq e1, zac _, zac _, _, rfl, ?_⟩
    rw [zrZ]
    by_cases h0 : x = []
    · rw [decide_eq_true h0]
      rw [if_pos (.inl h0)] at k
      exact Z6 (Z6 (zN T (k.same s1)))
    · rw [decide_eq_false h0]
      refine zat ?_
      refine ⟨_, rfl, l, rfl, ⟨_, hS1⟩, fun Dl hD => zCR (inB 97 122) hS1 (by rw [zf6]; omega) hD (fun v hv H' R q => ?_) (fun x H' R R' m q => m _ _ q) ?_⟩
      · obtain ⟨n, rfl⟩ := zBs hv
        exact ⟨rfl, rfl, zus (fun R r => r) (fun R r => ⟨_, rfl, r⟩) (fun R r => r) q⟩
      rw [zBc]
      refine ⟨Dl, _, rfl, SqL.of zc, _, rfl, ?_⟩
      rw [zB8]
      have s2 : Same H (upd H1 Dl (.lst ((x.map fun c => decide ((97 : Int) ≤ ((c.toNat : Nat) : Int)) && decide (((c.toNat : Nat) : Int) ≤ 122)).map V.bl))) := s1.new hD
      have hS2 := s2.seq hS
      generalize upd H1 Dl (.lst ((x.map fun c => decide ((97 : Int) ≤ ((c.toNat : Nat) : Int)) && decide (((c.toNat : Nat) : Int) ≤ 122)).map V.bl)) = H2 at s2 hS2
      cases h2 : x.all Bd.isSmall with
      | false =>
        rw [if_pos (.inr h2)] at k
        exact Z6 (zN T (k.same s2))
      | true =>
        rw [if_neg (by rintro (z | z); exact h0 z; rw [h2] at z; cases z)] at k
        refine zat ?_
        refine ⟨_, rfl, l, _, rfl, .inl hS2, _, _, rfl, rfl, _, rfl, ?_⟩
        rw [zf6]
        by_cases h3 : 15 < x.length
        · rw [if_pos h3] at k
          rw [decide_eq_true (show (15 : Int) < ((x.length : Nat) : Int) by omega)]
          exact Z6 (zN T (k.same s2))
        · rw [if_neg h3] at k
          rw [decide_eq_false (show ¬ (15 : Int) < ((x.length : Nat) : Int) by omega)]
          exact zat ⟨_, rfl, k _ s2⟩
theorem zrl (T : Txt K mg a) : FnOk P w K mg base (CXo P w) true 4 a.Zc a.zdk ["field", "least", "most"] (zBz K a.zd) := by
  have zf : FnOk P w K mg base (CXo P w) true 1 a.zv a.zy ["self", "kind"] (zft a.zd "kind") := zJ T
  have zm1 : FnOk P w K mg base (CXo P w) true 3 a.zax a.zgB ["field"] (zu7 K a.zd) := zqK T
  refine z9 T.zfY ziN (fun vs H Q E h => ?_) (fun cdv A outer s0 H vs Q E hr h => ?_)
  · obtain ⟨l, x, m0, m, rfl, _⟩ := h
    rfl
  · obtain ⟨l, x, m0, m, rfl, hS, hl, k⟩ := h
    unfold zsq at k
    refine ⟨_, (zo (zai (i := 3) ziN.nd rfl (by first | exact Or.inl rfl | exact Or.inr rfl) (zX zm1 (hr.mono (by decide)) rfl T.zsQ T.znH.kp T.zsN .nil takes_cx.passes (zb (pv 0) zg)))
      (zo (ZD (zqe (zzm zhm zhm (pv 1) (pv 3) (pv 2))) (zj (yI takes_cx rfl (yB T.zM zf (hr.mono (by decide)) rfl T.zF T.zr takes_cx (zb (zz (v := .int 2) rfl T.zgT ⟨_, rfl⟩) zg)))) yD)
      (zj (yx (pv 3))))), ?_⟩
    refine ⟨_, rfl, l, x, rfl, hS, hl, ?_⟩
    cases hn : Bd.readNumber x with
    | none =>
      rw [hn] at k
      exact k
    | some n =>
      rw [hn] at k
      dsimp only at k ⊢
      intro H1 s1
      refine zwX (i := (m0 : Nat)) (j := (n : Nat)) (k := (m : Nat)) (fun R r => ⟨_, rfl, r⟩) (fun R r => ⟨_, rfl, r⟩) (fun R r => ⟨_, rfl, r⟩) ?_
      by_cases q : n < m0 ∨ m < n
      · rw [if_pos q] at k
        rw [show (decide (((m0 : Nat) : Int) ≤ ((n : Nat) : Int)) && decide (((n : Nat) : Int) ≤ ((m : Nat) : Int))) = false by
          rw [Bool.eq_false_iff]
          intro z
          simp only [Bool.and_eq_true, decide_eq_true_eq] at z
          omega]
        exact Z6 (zN T (k.same s1))
      · rw [if_neg q] at k
        rw [show (decide (((m0 : Nat) : Int) ≤ ((n : Nat) : Int)) && decide (((n : Nat) : Int) ≤ ((m : Nat) : Int))) = true by
          simp only [Bool.and_eq_true, decide_eq_true_eq]
          omega]
        exact zat ⟨_, rfl, k _ s1⟩
def zy7 (i : Nat) : Bd.Bytes := ([Bd.ascii "free", Bd.ascii "side", Bd.ascii "end"] : List Bd.Bytes).getD i []
theorem zBR (T : Txt K mg a) : FnOk P w K mg base (CXo P w) true 3 a.zeX a.zq7 ["field"] (zEg K a.zd) := by
  have zf : FnOk P w K mg base (CXo P w) true 1 a.zv a.zy ["self", "kind"] (zft a.zd "kind") := zJ T
  have zbQ : FnOk P w K mg base (CXo P w) true 1 a.ZO a.zcQ ["word"] zhN := zgC T
  refine z9 T.zzb zsv (fun vs H Q E h => ?_) (fun cdv A outer s0 H vs Q E hr h => ?_)
  · obtain ⟨l, x, rfl, _⟩ := h
    rfl
  · obtain ⟨l, x, rfl, hS, hl, k⟩ := h
    refine ⟨_, (zo (zpI takes_cx.po rfl (zCP rfl T.z_enumerate (zb (zz (v := .ref a.za8) rfl T.zzO rfl) zg)) (zCV rfl (zqA (ZF (i := 1) zsv.nd rfl (by first | exact Or.inl rfl | exact Or.inr rfl)) (zqA (ZF (i := 2) zsv.nd rfl (by first | exact Or.inl rfl | exact Or.inr rfl)) zBk))) (zj (ZD (yl (zAQ hr.units) (pv 0) (zX zbQ (hr.mono (by decide)) rfl T.zhW T.zf5.kp T.zis .nil takes_cx.passes (zb (pv 2) zg)) (yp _)) (zj (yx (pv 1))) yD)))
      (zj (yI takes_cx rfl (yB T.zM zf (hr.mono (by decide)) rfl T.zF T.zr takes_cx (zb (zz (v := .int 1) rfl T.ZX ⟨_, rfl⟩) zg))))), ?_⟩
    refine ⟨a.za8, _, rfl, T.zs1 _, zCc (K := K) (a := a.za8) (xs := [.str "free", .str "side", .str "end"])
      (fun i σ H' => ∃ u v : Option V, σ = [some (.ref l), u, v] ∧ Same H H' ∧ ∀ j < i, ¬ x = zy7 j) ⟨none, none, rfl, (Same.refl _), fun j hj => absurd hj (by omega)⟩ (fun i σ H' _ _ => T.zs1 _) ?_ ?_⟩
    · rintro i y σ H' t hi ⟨u, v, rfl, s1, ne⟩ ht
      obtain ⟨z, rfl, hz, hi3⟩ : ∃ z : Str, y = .str z ∧ z.cps.toList = (zy7 i).map (·.toNat) ∧ i < 3 := by
        match i, hi with
        | 0, hi => exact ⟨_, (Option.some.inj hi).symm, by decide, by decide⟩
        | 1, hi => exact ⟨_, (Option.some.inj hi).symm, by decide, by decide⟩
        | 2, hi => exact ⟨_, (Option.some.inj hi).symm, by decide, by decide⟩
        | i + 3, hi => simp at hi
      have wl : (zy7 i).length < 1000 := by
        match i, hi3 with
        | 0, _ => decide
        | 1, _ => decide
        | 2, _ => decide
      have s2 := s1.new (o := .tup [.int (i : Nat), .str z]) ht
      refine ⟨t, _, rfl, .inl (.inl zc), rfl, _, _, rfl, _, _, rfl, rfl, ?_⟩
      refine ⟨_, rfl, _, rfl, z, rfl, (by rw [hz, List.length_map]; exact wl), fun H2 p2 s3 n2 e2 => ?_⟩
      have ez : (z.cps.toList.map fun n => V.int ((n : Nat) : Int)) = iB (zy7 i) := by
        rw [hz, List.map_map]
        rfl
      rw [ez] at e2
      refine ⟨_, _, zmq ((s2.trans s3).seq hS), zmq (SqL.of e2), zac _, zac _, _, rfl, ?_⟩
      rw [zrZ]
      by_cases q : x = zy7 i
      · rw [decide_eq_true q]
        refine Z6 ⟨_, rfl, ?_⟩
        have ek : zix x = some i := by
          match i, hi3, q, ne with
          | 0, _, q, _ => rw [q]; rfl
          | 1, _, q, _ => rw [q]; rfl
          | 2, _, q, _ => rw [q]; rfl
        rw [ek] at k
        exact k _ (s2.trans s3)
      · rw [decide_eq_false q]
        refine zat ⟨_, _, rfl, s2.trans s3, fun j hj => ?_⟩
        by_cases e : j = i
        · rw [e]
          exact q
        · exact ne j (by omega)
    · rintro σ H' ⟨u, v, rfl, s1, ne⟩
      have ek : zix x = none := by
        unfold zix
        have n0 : ¬ x = Bd.ascii "free" := ne 0 (by decide)
        have n1 : ¬ x = Bd.ascii "side" := ne 1 (by decide)
        have n2 : ¬ x = Bd.ascii "end" := ne 2 (by decide)
        rw [if_neg n0, if_neg n1, if_neg n2]
      rw [ek] at k
      dsimp only [zmp, ztB]
      exact zN T (k.same s1)
end
end Wb
end
section
set_option Elab.async false
set_option linter.all false
set_option maxRecDepth 100000
set_option maxHeartbeats 4000000
namespace Wb
open PySem PySem.Spec PyProof.Rows L2 Wm
open PySem.W (Codec)
def opF (o : Bd.Opening) : List (Str × V) := [("x", .int ((o.x : Nat) : Int)), ("y", .int ((o.y : Nat) : Int)), ("wide", .int ((o.w : Nat) : Int)), ("high", .int ((o.h : Nat) : Int))]
def OpAt (C : Addr) (H : Hp) (p : Addr) (o : Bd.Opening) : Prop := ∃ dx, H p = some (.ins C dx (opF o))
theorem OpAt.same {C : Addr} {H H' : Hp} {p : Addr} {o : Bd.Opening} (s : Same H H') (h : OpAt C H p o) : OpAt C H' p o := let ⟨dx, e⟩ := h; ⟨dx, s _ _ e⟩
abbrev Ops (C : Addr) (H : Hp) : List Addr → List Bd.Opening → Prop := Paired (OpAt C H)
theorem Ops.same {C : Addr} {H H' : Hp} {as : List Addr} {os : List Bd.Opening} (s : Same H H') (r : Ops C H as os) : Ops C H' as os := Paired.mapP r fun _ _ h => h.same s
theorem Paired.get {α β : Type} {F : α → β → Prop} : ∀ {as : List α} {bs : List β} {i : Nat} {x : α}, Paired F as bs → as[i]? = some x → ∃ b, bs[i]? = some b ∧ F x b
  | _, _, _, _, .nil, h => by simp at h
  | _, _, 0, _, .cons h t, e => by
    have e' := Option.some.inj e
    subst e'
    exact ⟨_, rfl, h⟩
  | _, _, i + 1, x, .cons h t, e => Paired.get (i := i) (x := x) t e
def zyP (C : Addr) : Sp := fun vs H Q _ => ∃ (p dx l : Addr) (n0 n1 n2 n3 : Nat), vs = [.ref p, .ref l] ∧ H p = some (.ins C dx []) ∧ H l = some (.lst (([n0, n1, n2, n3] : List Nat).map fun n => V.int ((n : Nat) : Int))) ∧
  ∀ H' : Hp, H' p = some (.ins C dx (opF ⟨n0, n1, n2, n3⟩)) → (∀ b, b ≠ p → H' b = H b) → Q .non H'
def zzh (C : Addr) : Sp := fun vs H Q _ => ∃ (p : Addr) (o : Bd.Opening) (l n : Nat), vs = [.ref p, .int ((l : Nat) : Int), .int ((n : Nat) : Int)] ∧ OpAt C H p o ∧ Q (.bl (o.within l n)) H
def zzq (C : Addr) : Sp := fun vs H Q _ => ∃ (p q : Addr) (o u : Bd.Opening), vs = [.ref p, .ref q] ∧ OpAt C H p o ∧ OpAt C H q u ∧ ∀ H' : Hp, Same H H' → Q (.bl (u.before o)) H'
def zBv (C : Addr) : Sp := fun vs H Q _ => ∃ (p q : Addr) (o u : Bd.Opening), vs = [.ref p, .ref q] ∧ OpAt C H p o ∧ OpAt C H q u ∧ Q (.bl (u.meets o)) H
section
variable {P : Program} {w : World} {K : PySem.W.Frag} {mg : Str → Option Value} {base : Heap} {a : Ad}
theorem zom (T : Txt K mg a) : FnOk P w K mg base (CXo P w) true 1 a.yw a.zb7 ["self", "numbers"] (zyP a.zh) := by
  refine z9 T.zp4 zoD (fun vs H Q E h => ?_) (fun cdv A outer s0 H vs Q E hr h => ?_)
  · obtain ⟨p, dx, l, n0, n1, n2, n3, rfl, _⟩ := h
    rfl
  · obtain ⟨p, dx, l, n0, n1, n2, n3, rfl, hp, hl, k⟩ := h
    have lp : l ≠ p := zi3 hl hp (by intro z; cases z)
    refine ⟨_, (zo (zbo (pv 0) (Zi yJ (pv 1) zD (fun _ _ => rfl)) rfl)
      (zo (zbo (pv 0) (Zi yJ (pv 1) zD (fun _ _ => rfl)) rfl)
      (zo (zbo (pv 0) (Zi yJ (pv 1) zD (fun _ _ => rfl)) rfl)
      (zj (zbo (pv 0) (Zi yJ (pv 1) zD (fun _ _ => rfl)) rfl))))), ?_⟩
    refine ⟨_, rfl, l, _, _, _, rfl, rfl, SqL.of hl, yj (j := 0) rfl, _, rfl, p, _, dx, _, rfl, hp, T.ya, T.Z3, (by show 0 < 1000; decide), ?_⟩
    refine ⟨_, rfl, l, _, _, _, rfl, rfl, SqL.of (by rw [ze lp]; exact hl), yj (j := 1) rfl, _, rfl, p, _, dx, _, rfl, zc, T.ya, T.Z1, (by show 1 < 1000; decide), ?_⟩
    rw [zap]
    refine ⟨_, rfl, l, _, _, _, rfl, rfl, SqL.of (by rw [ze lp]; exact hl), yj (j := 2) rfl, _, rfl, p, _, dx, _, rfl, zc, T.ya, T.Zv, (by show 2 < 1000; decide), ?_⟩
    rw [zap]
    refine ⟨_, rfl, l, _, _, _, rfl, rfl, SqL.of (by rw [ze lp]; exact hl), yj (j := 3) rfl, _, rfl, p, _, dx, _, rfl, zc, T.ya, T.Zy, (by show 3 < 1000; decide), ?_⟩
    rw [zap]
    exact k _ zc fun b hb => ze hb
theorem zdr {σ : L2.St} {H : Hp} {i : Nat} {p C dx : Addr} {fs : List (Str × V)} {f : Str} {v : V} (hs : σ[i]? = some (some (.ref p))) (hp : H p = some (.ins C dx fs)) (c : Cls K C) (n : NoAttr K C f) (l : fs.lookup f = some v) : yT (zkR K (zjG i) f) σ H v :=
  fun R r => ⟨_, hs, p, C, dx, fs, v, rfl, hp, c, n, l, r⟩
theorem znD {σ : L2.St} {H : Hp} {ta tb : TE} {i j : Int} (ha : yT ta σ H (.int i)) (hb : yT tb σ H (.int j)) : yT (tOp (rI0 fun i j => .int (i + j)) ta tb) σ H (.int (i + j)) := fun R r => ha _ (hb _ ⟨_, _, rfl, rfl, r⟩)
theorem zw6 {σ : L2.St} {H : Hp} {ta tb : TE} {i j : Int} (ha : yT ta σ H (.int i)) (hb : yT tb σ H (.int j)) : yT (tOp (rI0 fun i j => .bl (decide (i ≤ j))) ta tb) σ H (.bl (decide (i ≤ j))) := fun R r => ha _ (hb _ ⟨_, _, rfl, rfl, r⟩)
theorem zEn {σ : L2.St} {H : Hp} {ta tb : TE} {i j : Int} (ha : yT ta σ H (.int i)) (hb : yT tb σ H (.int j)) : yT (tOp (rI0 fun i j => .bl (decide (j < i))) ta tb) σ H (.bl (decide (j < i))) := fun R r => ha _ (hb _ ⟨_, _, rfl, rfl, r⟩)
theorem zqZ {σ : L2.St} {H : Hp} {ta tb : TE} {x y : Bool} (ha : yT ta σ H (.bl x)) (hb : yT tb σ H (.bl y)) : yT (zCD ta tb) σ H (.bl (x && y)) := fun _ r => zD6 ha (fun _ => hb) r
theorem zDu {σ : L2.St} {H : Hp} {ta tb : TE} {x y : Bool} (ha : yT ta σ H (.bl x)) (hb : yT tb σ H (.bl y)) : yT (zEQ ta tb) σ H (.bl (x || y)) := fun _ r => zDq ha (fun _ => hb) r
theorem zxv {σ : L2.St} {H : Hp} {i : Nat} {v : V} (hs : σ[i]? = some (some v)) : yT (zjG i) σ H v := fun R r => ⟨v, hs, r⟩
theorem zFn {σ : L2.St} {H : Hp} {v : V} : yT (tC v) σ H v := fun R r => r
theorem zlb (T : Txt K mg a) : FnOk P w K mg base (CXo P w) true 1 a.z0 a.zaK ["self", "length", "height"] (zzh a.zh) := by
  refine z9 T.zmB zlM (fun vs H Q E h => ?_) (fun cdv A outer s0 H vs Q E hr h => ?_)
  · obtain ⟨p, o, l, n, rfl, _⟩ := h
    rfl
  · obtain ⟨p, o, l, n, rfl, ⟨dx, hp⟩, k⟩ := h
    refine ⟨_, (zj (yx (ztV (zcK zyS (zw (pv 0) rfl) zD (yp _)) (ztV (zcK zyS (zw (pv 0) rfl) zD (yp _)) (ztV (zcK zhm (zgI zlB (zw (pv 0) rfl) (zw (pv 0) rfl)) (pv 1) (yp _)) (zpc (zcK zhm (zgI zlB (zw (pv 0) rfl) (zw (pv 0) rfl)) (pv 2) (yp _)))))))), ?_⟩
    have fx : yT (zkR K (zjG 0) "x") (start ["self", "length", "height"] [.ref p, .int ((l : Nat) : Int), .int ((n : Nat) : Int)]) H (.int ((o.x : Nat) : Int)) := zdr rfl hp T.ya T.Z3 rfl
    have fy : yT (zkR K (zjG 0) "y") (start ["self", "length", "height"] [.ref p, .int ((l : Nat) : Int), .int ((n : Nat) : Int)]) H (.int ((o.y : Nat) : Int)) := zdr rfl hp T.ya T.Z1 rfl
    have fw : yT (zkR K (zjG 0) "wide") (start ["self", "length", "height"] [.ref p, .int ((l : Nat) : Int), .int ((n : Nat) : Int)]) H (.int ((o.w : Nat) : Int)) := zdr rfl hp T.ya T.Zv rfl
    have fh : yT (zkR K (zjG 0) "high") (start ["self", "length", "height"] [.ref p, .int ((l : Nat) : Int), .int ((n : Nat) : Int)]) H (.int ((o.h : Nat) : Int)) := zdr rfl hp T.ya T.Zy rfl
    refine zqZ (zEn fw zFn) (zqZ (zEn fh zFn) (zqZ (zw6 (znD fx fw) (zxv rfl)) (zw6 (znD fy fh) (zxv rfl)))) _ ?_
    have e : (decide ((0 : Int) < ((o.w : Nat) : Int)) && (decide ((0 : Int) < ((o.h : Nat) : Int)) && (decide (((o.x : Nat) : Int) + ((o.w : Nat) : Int) ≤ ((l : Nat) : Int)) && decide (((o.y : Nat) : Int) + ((o.h : Nat) : Int) ≤ ((n : Nat) : Int))))) = o.within l n := by
      unfold Bd.Opening.within
      rw [Bool.eq_iff_iff]
      simp only [Bool.and_eq_true, decide_eq_true_eq]
      omega
    rw [e]
    exact k
theorem zjC (T : Txt K mg a) : FnOk P w K mg base (CXo P w) true 1 a.zQ a.zad ["self", "other"] (zzq a.zh) := by
  refine z9 T.zky zjD (fun vs H Q E h => ?_) (fun cdv A outer s0 H vs Q E hr h => ?_)
  · obtain ⟨p, q, o, u, rfl, _⟩ := h
    rfl
  · obtain ⟨p, q, o, u, rfl, ⟨dx, hp⟩, ⟨dy, hq⟩, k⟩ := h
    refine ⟨_, (zj (yx (zcK (zFa hr.units0) (zya (zb (zw (pv 0) rfl) (zb (zw (pv 0) rfl) zg))) (zya (zb (zw (pv 1) rfl) (zb (zw (pv 1) rfl) zg))) (yp _)))), ?_⟩
    refine ⟨_, rfl, p, _, dx, _, _, rfl, hp, T.ya, T.Z1, rfl, _, rfl, p, _, dx, _, _, rfl, hp, T.ya, T.Z3, rfl, (by show 2 ≤ sizeLine; decide), fun t1 n1 => ?_⟩
    have s1 : Same H (upd H t1 (.tup [.int ((o.y : Nat) : Int), .int ((o.x : Nat) : Int)])) := (Same.refl _).new n1
    have hq1 := s1 _ _ hq
    refine ⟨_, rfl, q, _, dy, _, _, rfl, hq1, T.ya, T.Z1, rfl, _, rfl, q, _, dy, _, _, rfl, hq1, T.ya, T.Z3, rfl, (by show 2 ≤ sizeLine; decide), fun t2 n2 => ?_⟩
    have s2 := s1.new (o := .tup [.int ((u.y : Nat) : Int), .int ((u.x : Nat) : Int)]) n2
    refine ⟨t1, t2, [((o.y : Nat) : Int), ((o.x : Nat) : Int)], [((u.y : Nat) : Int), ((u.x : Nat) : Int)], rfl, rfl, .inl (.inl (by rw [ze (zi zc n2)]; exact zc)), .inl (.inl zc), ?_⟩
    have e : HT.lexGt [((o.y : Nat) : Int), ((o.x : Nat) : Int)] [((u.y : Nat) : Int), ((u.x : Nat) : Int)] = u.before o := by
      unfold Bd.Opening.before
      rw [HT.lexGt_cons, HT.lexGt_cons, HT.lexGt_nil_nil, Bool.eq_iff_iff]
      by_cases e1 : ((o.y : Nat) : Int) = ((u.y : Nat) : Int)
      · rw [if_pos e1]
        by_cases e2 : ((o.x : Nat) : Int) = ((u.x : Nat) : Int)
        · rw [if_pos e2]
          simp only [Bool.or_eq_true, Bool.and_eq_true, decide_eq_true_eq, beq_iff_eq]
          constructor
          · intro z
            cases z
          · omega
        · rw [if_neg e2]
          simp only [Bool.or_eq_true, Bool.and_eq_true, decide_eq_true_eq, beq_iff_eq]
          omega
      · rw [if_neg e1]
        simp only [Bool.or_eq_true, Bool.and_eq_true, decide_eq_true_eq, beq_iff_eq]
        omega
    rw [e]
    exact k _ s2
theorem zrK (T : Txt K mg a) : FnOk P w K mg base (CXo P w) true 1 a.yZ a.zd1 ["self", "other"] (zBv a.zh) := by
  refine z9 T.ztx zf7 (fun vs H Q E h => ?_) (fun cdv A outer s0 H vs Q E hr h => ?_)
  · obtain ⟨p, q, o, u, rfl, _⟩ := h
    rfl
  · obtain ⟨p, q, o, u, rfl, ⟨dx, hp⟩, ⟨dy, hq⟩, k⟩ := h
    refine ⟨_, (zo (zai (i := 2) zf7.nd rfl (by first | exact Or.inl rfl | exact Or.inr rfl) (zBD (zcK zhm (zgI zlB (zw (pv 0) rfl) (zw (pv 0) rfl)) (zw (pv 1) rfl) (yp _)) (zpc (zcK zhm (zgI zlB (zw (pv 1) rfl) (zw (pv 1) rfl)) (zw (pv 0) rfl) (yp _)))))
      (zo (zai (i := 3) zf7.nd rfl (by first | exact Or.inl rfl | exact Or.inr rfl) (zBD (zcK zhm (zgI zlB (zw (pv 0) rfl) (zw (pv 0) rfl)) (zw (pv 1) rfl) (yp _)) (zpc (zcK zhm (zgI zlB (zw (pv 1) rfl) (zw (pv 1) rfl)) (zw (pv 0) rfl) (yp _)))))
      (zj (yx (ztV (zAu (pv 2)) (zpc (zAu (pv 3)))))))), ?_⟩
    have fld : ∀ (σ : L2.St) (v v' : Option V), σ = [some (.ref p), some (.ref q), v, v'] → yT (zkR K (zjG 0) "x") σ H (.int ((o.x : Nat) : Int)) ∧ yT (zkR K (zjG 0) "y") σ H (.int ((o.y : Nat) : Int)) ∧ yT (zkR K (zjG 0) "wide") σ H (.int ((o.w : Nat) : Int)) ∧ yT (zkR K (zjG 0) "high") σ H (.int ((o.h : Nat) : Int)) ∧
        yT (zkR K (zjG 1) "x") σ H (.int ((u.x : Nat) : Int)) ∧ yT (zkR K (zjG 1) "y") σ H (.int ((u.y : Nat) : Int)) ∧ yT (zkR K (zjG 1) "wide") σ H (.int ((u.w : Nat) : Int)) ∧ yT (zkR K (zjG 1) "high") σ H (.int ((u.h : Nat) : Int)) := by
      rintro σ v v' rfl
      exact ⟨zdr rfl hp T.ya T.Z3 rfl, zdr rfl hp T.ya T.Z1 rfl, zdr rfl hp T.ya T.Zv rfl, zdr rfl hp T.ya T.Zy rfl,
        zdr rfl hq T.ya T.Z3 rfl, zdr rfl hq T.ya T.Z1 rfl, zdr rfl hq T.ya T.Zv rfl, zdr rfl hq T.ya T.Zy rfl⟩
    obtain ⟨f1, f2, f3, f4, g1, g2, g3, g4⟩ := fld [some (.ref p), some (.ref q), none, none] none none rfl
    refine zDu (zw6 (znD f1 f3) g1) (zw6 (znD g1 g3) f1) _ ?_
    generalize hb1 : (decide (((o.x : Nat) : Int) + ((o.w : Nat) : Int) ≤ ((u.x : Nat) : Int)) || decide (((u.x : Nat) : Int) + ((u.w : Nat) : Int) ≤ ((o.x : Nat) : Int))) = b1
    obtain ⟨_, f2, _, f4, _, g2, _, g4⟩ := fld [some (.ref p), some (.ref q), some (.bl b1), none] _ none rfl
    refine zDu (zw6 (znD f2 f4) g2) (zw6 (znD g2 g4) f2) _ ?_
    generalize hb2 : (decide (((o.y : Nat) : Int) + ((o.h : Nat) : Int) ≤ ((u.y : Nat) : Int)) || decide (((u.y : Nat) : Int) + ((u.h : Nat) : Int) ≤ ((o.y : Nat) : Int))) = b2
    dsimp only [zrF, zE5]
    refine zqZ (x := !b1) (y := !b2) (fun R r => ⟨_, rfl, _, rfl, r⟩) (fun R r => ⟨_, rfl, _, rfl, r⟩) _ ?_
    have e : (!b1 && !b2) = u.meets o := by
      rw [← hb1, ← hb2]
      unfold Bd.Opening.meets
      rw [Bool.eq_iff_iff]
      simp only [Bool.and_eq_true, Bool.not_eq_true', Bool.or_eq_false_iff, decide_eq_true_eq, decide_eq_false_iff_not]
      omega
    rw [e]
    exact k
end
end Wb
end
section
set_option Elab.async false
set_option linter.all false
set_option maxRecDepth 100000
set_option maxHeartbeats 4000000
namespace Wb
open PySem PySem.Spec PyProof.Rows L2 Wm
open PySem.W (Codec)
def zwj (K : PySem.W.Frag) (C CL : Addr) : Sp := fun vs H Q E => ∃ (l bl : Addr) (line : Bd.Bytes) (long high : Nat) (as : List Addr) (os : List Bd.Opening), vs = [.ref l, .int ((long : Nat) : Int), .int ((high : Nat) : Int), .ref bl] ∧ SqL K H l (iB line) ∧ line.length ≤ 10000 ∧
  H bl = some (.lst (as.map V.ref)) ∧ Ops C H as os ∧ os.length ≤ 8 ∧
  match zdG line long high os with
  | .error k => Fails CL E H k
  | .ok o => ∀ (H' : Hp) (p : Addr), Same H H' → H p = none → OpAt C H' p o → Q (.ref p) H'
theorem zwB : ∀ {r : List Bd.Bytes} {i : Nat} {x : Bd.Bytes}, r[i]? = some x → Bd.readNumber x = none → r.mapM Bd.readNumber = none
  | [], i, x, h, _ => by simp at h
  | y :: r, 0, x, h, e => by
    have h' : y = x := Option.some.inj h
    subst h'
    rw [List.mapM_cons, e]
    rfl
  | y :: r, i + 1, x, h, e => by
    have ih := zwB (r := r) (i := i) h e
    rw [List.mapM_cons, ih]
    cases Bd.readNumber y <;> rfl
theorem zw4 : ∀ {r : List Bd.Bytes} {x : Bd.Bytes} {ns : List Nat} {n : Nat}, r.mapM Bd.readNumber = some ns → Bd.readNumber x = some n → (r ++ [x]).mapM Bd.readNumber = some (ns ++ [n])
  | [], x, ns, n, h, e => by
    have h' : [] = ns := Option.some.inj h
    subst h'
    show [x].mapM Bd.readNumber = _
    rw [List.mapM_cons, e]
    rfl
  | y :: r, x, ns, n, h, e => by
    rw [List.mapM_cons] at h
    cases hy : Bd.readNumber y with
    | none => rw [hy] at h; cases h
    | some m =>
      cases hr : r.mapM Bd.readNumber with
      | none => rw [hy, hr] at h; cases h
      | some l =>
        rw [hy, hr] at h
        have h' : m :: l = ns := Option.some.inj h
        subst h'
        show (y :: (r ++ [x])).mapM Bd.readNumber = _
        rw [List.mapM_cons, hy, zw4 hr e]
        rfl
theorem zxf {σ : L2.St} {H : Hp} {ta tb : TT} {x y : Bool} {Q : Bool → Hp → Prop} (S : Hp → Prop) (ha : ∀ R : Bool → Hp → Prop, (∀ H1, S H1 → R x H1) → ta σ H R) (hb : x = true → ∀ H1, S H1 → ∀ R : Bool → Hp → Prop, (∀ H2, S H2 → R y H2) → tb σ H1 R)
    (h : ∀ H2, S H2 → Q (x && y) H2) : zFb ta tb σ H Q := by
  refine ha _ fun H1 s1 => ?_
  cases x with
  | true => exact Z6 (hb rfl H1 s1 _ h)
  | false => exact zat (h H1 s1)
theorem Paired.last {α β : Type} {F : α → β → Prop} {as : List α} {bs : List β} (r : Paired F as bs) (h : bs ≠ []) : ∃ as' x bs' y, as = as' ++ [x] ∧ bs = bs' ++ [y] ∧ F x y := by
  induction r with
  | nil => exact absurd rfl h
  | cons f t ih =>
    rename_i x y l1 l2
    cases t with
    | nil => exact ⟨[], x, [], y, rfl, rfl, f⟩
    | cons g t =>
      obtain ⟨as', x', bs', y', e1, e2, q⟩ := ih (by simp)
      exact ⟨x :: as', x', y :: bs', y', by rw [e1]; rfl, by rw [e2]; rfl, q⟩
def iN (ns : List Nat) : List V := ns.map fun n => V.int ((n : Nat) : Int)
section
variable {P : Program} {w : World} {K : PySem.W.Frag} {mg : Str → Option Value} {base : Heap} {a : Ad}
theorem zvO (T : Txt K mg a) : FnOk P w K mg base (CXo P w) true 5 a.zau a.zhp ["line", "length", "height", "before"] (zwj K a.zh a.zd) := by
  have zf : FnOk P w K mg base (CXo P w) true 1 a.zv a.zy ["self", "kind"] (zft a.zd "kind") := zJ T
  have zm1 : FnOk P w K mg base (CXo P w) true 3 a.zax a.zgB ["field"] (zu7 K a.zd) := zqK T
  have zg0 : FnOk P w K mg base (CXo P w) true 3 a.yW a.zcd ["word", "line"] (zuu K a.zd) := zkf T
  have zqj : FnOk P w K mg base (CXo P w) true 1 a.yw a.zb7 ["self", "numbers"] (zyP a.zh) := zom T
  have zmr : FnOk P w K mg base (CXo P w) true 1 a.z0 a.zaK ["self", "length", "height"] (zzh a.zh) := zlb T
  have zkF : FnOk P w K mg base (CXo P w) true 1 a.zQ a.zad ["self", "other"] (zzq a.zh) := zjC T
  have ztH : FnOk P w K mg base (CXo P w) true 1 a.yZ a.zd1 ["self", "other"] (zBv a.zh) := zrK T
  refine z9 T.zqX zcg (fun vs H Q E h => ?_) (fun cdv A outer s0 H vs Q E hr h => ?_)
  · obtain ⟨l, bl, line, long, high, as, os, rfl, _⟩ := h
    rfl
  · obtain ⟨l, bl, line, long, high, as, os, rfl, hS, hl, hb, ho, hol, k⟩ := h
    have zl := szl
    unfold zdG at k
    refine ⟨_, (zo (zn8 (i := 4) takes_cx rfl rfl (own := [("field", 5)]) rfl zcg.nd rfl rfl rfl (zb4 (zX zg0 (hr.mono (by decide)) rfl T.zl7 T.zgM.kp T.zmk .nil takes_cx.passes (zb (zz (v := .str "open") rfl T.zue ⟨_, rfl⟩) (zb (pv 0) zg)))) (by show ze5 ["line", "length", "height", "before", "numbers", "field", "opening", "other"] (za Zk) _ [("field", 5)]; exact ⟨rfl, by decide +kernel, by decide +kernel, by decide +kernel, by decide +kernel⟩) (fun s H C cl fp xe tk => (ZF (i := 5) zcg.nd rfl (by first | exact Or.inl rfl | exact Or.inr rfl))) (fun s H C cl fp xe tk => zdh) (fun s H C cl fp xe tk => (zX zm1 (hr.mono (by decide)) rfl T.zsQ T.znH.kp T.zsN .nil tk.passes (zb (pv 5) zg))))
      (zo (ZD (yl zA6 (yL yz rfl T.z_len zc1 (zb (pv 4) zg)) zD (yp _)) (zj (yI takes_cx rfl (yB T.zM zf (hr.mono (by decide)) rfl T.zF T.zr takes_cx (zb (zz (v := .int 1) rfl T.ZX ⟨_, rfl⟩) zg)))) yD)
      (zo (zai (i := 6) zcg.nd rfl (by first | exact Or.inl rfl | exact Or.inr rfl) (ztP T.zCy zqj (hr.mono (by decide)) rfl T.zBP T.zpU .nil takes_cx.passes (zb (pv 4) zg)))
      (zo (ZD (zqe (zf8 (zd4 (pv 6) T.ya T.zmy zmr (hr.mono (by decide)) T.zmK .nil takes_cx.passes (zb (pv 1) (zb (pv 2) zg))))) (zj (yI takes_cx rfl (yB T.zM zf (hr.mono (by decide)) rfl T.zF T.zr takes_cx (zb (zz (v := .int 2) rfl T.zgT ⟨_, rfl⟩) zg)))) yD)
      (zo (ZD (PW.pt (zym (yl (zxg hr.units0) (pv 3) (Zd zg) (yp _)) (ztQ (zqe (zf8 (zd4 (pv 6) T.ya T.zkA zkF (hr.mono (by decide)) T.zkc .nil takes_cx.passes (zb (Zi yJ (pv 3) (zo2 zjx zD) (fun _ _ => rfl)) zg))))))) (zj (yI takes_cx rfl (yB T.zM zf (hr.mono (by decide)) rfl T.zF T.zr takes_cx (zb (zz (v := .int 3) rfl T.zuL ⟨_, rfl⟩) zg)))) yD)
      (zo (ZD (zf8 (yL (zAr rfl) rfl T.z_any zzW (zb (zx3 takes_cx rfl rfl (own := [("other", 7)]) rfl zcg.nd (zb4 (pv 3)) (by show ze5 ["line", "length", "height", "before", "numbers", "field", "opening", "other"] (za Zk) _ [("other", 7)]; exact ⟨rfl, by decide +kernel, by decide +kernel, by decide +kernel, by decide +kernel⟩) (fun s H C cl fp xe tk => (ZF (i := 7) zcg.nd rfl (by first | exact Or.inl rfl | exact Or.inr rfl))) (fun s H C cl fp xe tk => zdh) (fun s H C cl fp xe tk => (zd4 (pv 6) T.ya T.ztG ztH (hr.mono (by decide)) T.ztp .nil tk.passes (zb (pv 7) zg)))) zg))) (zj (yI takes_cx rfl (yB T.zM zf (hr.mono (by decide)) rfl T.zF T.zr takes_cx (zb (zz (v := .int 4) rfl T.zq5 ⟨_, rfl⟩) zg)))) yD)
      (zo (ZD (yl zoP (yL yz rfl T.z_len zc1 (zb (pv 3) zg)) (zz (v := .int 8) rfl T.ztq ⟨_, rfl⟩) (yp _)) (zj (yI takes_cx rfl (yB T.zM zf (hr.mono (by decide)) rfl T.zF T.zr takes_cx (zb (zz (v := .int 5) rfl T.zAo ⟨_, rfl⟩) zg)))) yD)
      (zj (yx (pv 6)))))))))), ?_⟩
    refine ⟨_, rfl, "open", l, Bd.ascii "open", line, rfl, (by decide), (by decide), hS, hl, ?_⟩
    cases hf : zL (Bd.ascii "open") line with
    | none =>
      rw [hf] at k
      exact k
    | some r =>
      rw [hf, Option.bind_some] at k
      dsimp only
      have fln := zuN hf
      intro H1 p fs s1 np fr hp rows
      have fll : fs.length = r.length := Paired.length rows
      refine ⟨p, rfl, ⟨_, SqL.of hp⟩, fun Dl hD => ?_⟩
      refine zho (K := K) (a := p) (xs := fs.map V.ref) (fun i H' => ∃ ns, (r.take i).mapM Bd.readNumber = some ns ∧ Same H1 H' ∧ H' Dl = some (.lst (iN ns)))
        ⟨[], rfl, (Same.refl _).new hD, zc⟩ (fun i H' _ ⟨_, _, s2, _⟩ => s2.seq (SqL.of hp)) ?_ ?_
      · rintro i y H' hi ⟨ns, hns, s2, hDl⟩
        rw [List.getElem?_map] at hi
        obtain ⟨f, hfi, rfl⟩ : ∃ f, fs[i]? = some f ∧ y = .ref f := by
          cases e : fs[i]? with
          | none => rw [e] at hi; cases hi
          | some f => rw [e] at hi; exact ⟨f, rfl, (Option.some.inj hi).symm⟩
        obtain ⟨x, hx, hfx⟩ := Paired.get rows hfi
        refine ⟨rfl, ?_⟩
        have hxl := fln.2 x (List.mem_of_getElem? hx)
        refine ⟨_, rfl, f, x, rfl, SqL.of (s2 _ _ hfx), (by omega), ?_⟩
        cases hn : Bd.readNumber x with
        | none =>
          rw [zwB hx hn] at k
          exact k.same (s1.trans s2)
        | some n =>
          intro H2 s3
          have nsl : ns.length ≤ i := by
            have z := znX hns
            rw [List.length_take] at z
            omega
          have il : i < r.length := (List.getElem?_eq_some_iff.mp hx).1
          refine ⟨_, s3 _ _ hDl, (by unfold iN; rw [List.length_map]; omega), ns ++ [n], ?_, ?_, ?_⟩
          · rw [ZC hx]
            exact zw4 hns hn
          · exact (s2.trans s3).set hD
          · rw [zc]
            unfold iN
            rw [List.map_append]
            rfl
      · rintro H2 ⟨ns, hns, s2, hDl⟩
        rw [List.length_map, fll, List.take_length] at hns
        rw [hns] at k
        have s12 := s1.trans s2
        refine ⟨_, rfl, Dl, _, rfl, .inl (SqL.of hDl), rfl, _, rfl, ?_⟩
        by_cases h4 : ns.length = 4
        rotate_left
        · rw [show (!decide (V.int (((iN ns).length : Nat) : Int) = V.int 4)) = true by
            rw [decide_eq_false]
            · rfl
            · intro z
              have z' := V.int.inj z
              unfold iN at z'
              rw [List.length_map] at z'
              omega]
          refine Z6 (zN T ?_)
          match ns, h4, k with
          | [], _, k => exact k.same s12
          | [_], _, k => exact k.same s12
          | [_, _], _, k => exact k.same s12
          | [_, _, _], _, k => exact k.same s12
          | [_, _, _, _], h4, _ => exact absurd rfl h4
          | _ :: _ :: _ :: _ :: _ :: _, _, k => exact k.same s12
        rw [show (!decide (V.int (((iN ns).length : Nat) : Int) = V.int 4)) = false by
          rw [decide_eq_true]
          · rfl
          · unfold iN
            rw [List.length_map, h4]
            rfl]
        refine zat ?_
        obtain ⟨n0, n1, n2, n3, rfl⟩ : ∃ n0 n1 n2 n3, ns = [n0, n1, n2, n3] := by
          match ns, h4 with
          | [n0, n1, n2, n3], _ => exact ⟨_, _, _, _, rfl⟩
        dsimp only at k
        refine ⟨_, rfl, fun x dx nx ndx dxx => ⟨x, dx, Dl, n0, n1, n2, n3, rfl, zc, ?_, fun H3 e3 kp => ⟨rfl, ?_⟩⟩⟩
        · have q1 : Dl ≠ x := zi hDl nx
          have q2 : Dl ≠ dx := zi hDl ndx
          rw [ze q1, ze q2]
          exact hDl
        have s3 : Same H2 H3 := fun b o e => by
          have q1 : b ≠ x := zi e nx
          have q2 : b ≠ dx := zi e ndx
          rw [kp b q1, ze q1, ze q2]
          exact e
        have s03 := s12.trans s3
        have hx : OpAt a.zh H3 x ⟨n0, n1, n2, n3⟩ := ⟨dx, e3⟩
        have nxH : H x = Option.none := s12.free nx
        have hb3 := s03 _ _ hb
        have ho3 := Ops.same s03 ho
        generalize hoo : (⟨n0, n1, n2, n3⟩ : Bd.Opening) = o at *
        refine ⟨_, rfl, x, dx, _, rfl, e3, rfl, _, rfl, _, rfl, x, o, long, high, rfl, hx, _, rfl, ?_⟩
        cases hw : o.within long high with
        | false =>
          rw [if_pos hw] at k
          exact Z6 (zN T (k.same s03))
        | true =>
          rw [if_neg (by rw [hw]; decide)] at k
          refine zat ?_
          have nem : (!(as.map V.ref).isEmpty) = !os.isEmpty := by
            have z := Paired.length ho
            cases as <;> cases os <;> first | rfl | (simp at z)
          dsimp only [zmp, ztB, zwb]
          refine zxf (x := !os.isEmpty) (y := os.getLast?.any fun (p : Bd.Opening) => !p.before o) (fun H' => Same H3 H') (fun R r => ?_) (fun hne H4 s4 R r => ?_) fun H5 s5 => ?_
          · refine ⟨_, rfl, Nat.zero_le _, fun p4 n4 => ⟨bl, p4, _, rfl, rfl, SqL.of (by rw [ze (zi hb3 n4)]; exact hb3), SqL.of zc, _, rfl, ?_⟩⟩
            rw [nem]
            exact r _ ((Same.refl _).new n4)
          · have one : os ≠ [] := fun z => by rw [z] at hne; cases hne
            obtain ⟨as', al, os', ol, ea, eo, hal⟩ := Paired.last ho one
            obtain ⟨dal, hal'⟩ := id (hal.same (s03.trans s4))
            refine ⟨_, rfl, x, dx, _, rfl, s4 _ _ e3, rfl, _, rfl, _, rfl, bl, _, _, .ref al, rfl, rfl, SqL.of (s4 _ _ hb3), (by rw [ea, List.map_append]; exact zif _ _), x, al, o, ol, rfl, hx.same s4, ⟨dal, hal'⟩, fun H5 s5 => ⟨_, rfl, ?_⟩⟩
            have e : (os.getLast?.any fun (p : Bd.Opening) => !p.before o) = !ol.before o := by
              rw [eo]
              simp
            rw [e] at r
            exact r _ (s4.trans s5)
          have s05 := s03.trans s5
          have ee : (!os.isEmpty && os.getLast?.any fun (p : Bd.Opening) => !p.before o) = os.getLast?.any fun (p : Bd.Opening) => !p.before o := by
            cases os <;> rfl
          rw [ee]
          cases hbf : (os.getLast?.any fun (p : Bd.Opening) => !p.before o) with
          | true =>
            rw [if_pos hbf] at k
            exact Z6 (zN T (k.same s05))
          | false =>
            rw [if_neg (by rw [hbf]; decide)] at k
            refine zat ?_
            refine ⟨_, rfl, bl, rfl, ⟨_, SqL.of (s5 _ _ hb3)⟩, fun D2 hD2 => ?_⟩
            have s6 : ∀ ys, Same H5 (upd H5 D2 (.lst ys)) := fun ys => (Same.refl _).new hD2
            refine zho (K := K) (a := bl) (xs := as.map V.ref) (fun i H' => H' = upd H5 D2 (.lst ((os.take i).map fun u => V.bl (u.meets o)))) rfl (fun i H' _ e => by rw [e]; exact SqL.of (s6 _ _ _ (s5 _ _ hb3))) ?_ ?_
            · rintro i y H' hi rfl
              rw [List.getElem?_map] at hi
              obtain ⟨f, hfi, rfl⟩ : ∃ f, as[i]? = some f ∧ y = .ref f := by
                cases e : as[i]? with
                | none => rw [e] at hi; cases hi
                | some f => rw [e] at hi; exact ⟨f, rfl, (Option.some.inj hi).symm⟩
              obtain ⟨u, hu, hfu⟩ := Paired.get ho hfi
              have sa := s05.trans (s6 ((os.take i).map fun u => V.bl (u.meets o)))
              refine ⟨rfl, _, rfl, x, dx, _, rfl, s6 _ _ _ (s5 _ _ e3), rfl, _, rfl, x, f, o, u, rfl, (hx.same s5).same (s6 _), hfu.same sa, ?_⟩
              refine ⟨_, zc, (by rw [List.length_map, List.length_take]; omega), ?_⟩
              rw [zap, ZC hu, List.map_append]
              rfl
            · rintro H6 rfl
              rw [List.length_map, Paired.length ho, List.take_length]
              refine ⟨D2, os.map fun u => u.meets o, rfl, SqL.of (by rw [zc, List.map_map]; rfl), _, rfl, ?_⟩
              have em : ((os.map fun u => u.meets o).any id) = os.any fun (p : Bd.Opening) => p.meets o := by
                rw [List.any_map]
                rfl
              rw [em]
              have s06 := s05.trans (s6 (os.map fun u => V.bl (u.meets o)))
              have hx6 := (hx.same s5).same (s6 (os.map fun u => V.bl (u.meets o)))
              cases hme : (os.any fun (p : Bd.Opening) => p.meets o) with
              | true =>
                rw [if_pos hme] at k
                exact Z6 (zN T (k.same s06))
              | false =>
                rw [if_neg (by rw [hme]; decide)] at k
                refine zat ?_
                refine ⟨_, rfl, bl, _, rfl, .inl (SqL.of (s06 _ _ hb)), rfl, _, rfl, ?_⟩
                have lo := Paired.length ho
                by_cases h8 : 8 ≤ os.length
                · rw [if_pos h8] at k
                  rw [decide_eq_true (show V.int (((as.map V.ref).length : Nat) : Int) = V.int 8 by rw [List.length_map, lo, show os.length = 8 by omega]; rfl)]
                  exact Z6 (zN T (k.same s06))
                · rw [if_neg h8] at k
                  rw [decide_eq_false (show ¬ V.int (((as.map V.ref).length : Nat) : Int) = V.int 8 from fun z => by
                    have z' := V.int.inj z
                    rw [List.length_map] at z'
                    omega)]
                  exact zat ⟨_, rfl, k _ x s06 nxH hx6⟩
end
end Wb
end
section
set_option Elab.async false
set_option linter.all false
set_option maxRecDepth 100000
set_option maxHeartbeats 4000000
namespace Wb
open PySem PySem.Spec PyProof.Rows L2 Wm
open PySem.W (Codec)
def HvIs (H : Hp) (v : V) : HV → Prop
  | .nm b => ∃ p, v = .ref p ∧ H p = some (.lst (iB b))
  | .num n => v = .int ((n : Nat) : Int)
theorem HvIs.same {H H' : Hp} {v : V} {x : HV} (s : Same H H') (h : HvIs H v x) : HvIs H' v x := by
  cases x with
  | nm b => obtain ⟨p, e, q⟩ := h; exact ⟨p, e, s _ _ q⟩
  | num n => exact h
def zA1 (v : V) (l : List Addr) : Prop := ∀ p, v = .ref p → p ∉ l
def zCN (K : PySem.W.Frag) (CL : Addr) : Sp := fun vs H Q E => ∃ (i : Nat) (l : Addr) (line : Bd.Bytes), vs = [.int ((i : Nat) : Int), .ref l] ∧ i < 6 ∧ SqL K H l (iB line) ∧ line.length ≤ 10000 ∧
  match zaG i line with
  | .error k => Fails CL E H k
  | .ok x => ∀ (H' : Hp) (v : V), Same H H' → HvIs H' v x → (∀ p, v = .ref p → H p = none) → Q v H'
def zxu (i : Nat) : Str := (["wall", "long", "high", "left", "right", "reveal"] : List Str).getD i ""
theorem zsm (i : Nat) (line : Bd.Bytes) : zaG i line = match zAh (Bd.ascii (zpf i)) line with
    | none => .error 1
    | some x => zcT i x := by
  unfold zaG zAh
  match zL (Bd.ascii (zpf i)) line with
  | none => rfl
  | some [] => rfl
  | some [_] => rfl
  | some (_ :: _ :: _) => rfl
section
variable {P : Program} {w : World} {K : PySem.W.Frag} {mg : Str → Option Value} {base : Heap} {a : Ad}
theorem zvG (T : Txt K mg a) : FnOk P w K mg base (CXo P w) true 5 a.zav a.zhF ["number", "line"] (zCN K a.zd) := by
  have zuQ : FnOk P w K mg base (CXo P w) true 4 a.Zz a.zeR ["word", "line"] (zAZ K a.zd) := ztt T
  have zB4 : FnOk P w K mg base (CXo P w) true 3 a.zdj a.zoj ["field"] (zDe K a.zd) := zAG T
  have zj5 : FnOk P w K mg base (CXo P w) true 4 a.Zc a.zdk ["field", "least", "most"] (zBz K a.zd) := zrl T
  have zDj : FnOk P w K mg base (CXo P w) true 3 a.zeX a.zq7 ["field"] (zEg K a.zd) := zBR T
  refine z9 T.zqO zo1 (fun vs H Q E h => ?_) (fun cdv A outer s0 H vs Q E hr h => ?_)
  · obtain ⟨i, l, line, rfl, _⟩ := h
    rfl
  · obtain ⟨i, l, line, rfl, hi, hS, hl, k⟩ := h
    refine ⟨_, (zo (zai (i := 2) zo1.nd rfl (by first | exact Or.inl rfl | exact Or.inr rfl) (zX zuQ (hr.mono (by decide)) rfl T.zur T.znJ.kp T.zuh .nil takes_cx.passes (zb (Zi zig (zz (v := .ref a.ZW) rfl T.zq4 rfl) (pv 0) (fun _ _ => rfl)) (zb (pv 1) zg))))
      (zo (ZD (yl zoP (pv 0) zD (yp _)) (zj (yx (zX zB4 (hr.mono (by decide)) rfl T.zCA T.zw5.kp T.zBZ .nil takes_cx.passes (zb (pv 2) zg)))) yD)
      (zo (ZD (yl zoP (pv 0) zD (yp _)) (zj (yx (zX zj5 (hr.mono (by decide)) rfl T.zj2 T.zfY.kp T.zkr .nil takes_cx.passes (zb (pv 2) (zb zD (zb (zz (v := .int 32) rfl T.zvJ ⟨_, rfl⟩) zg)))))) yD)
      (zo (ZD (yl zoP (pv 0) zD (yp _)) (zj (yx (zX zj5 (hr.mono (by decide)) rfl T.zj2 T.zfY.kp T.zkr .nil takes_cx.passes (zb (pv 2) (zb zD (zb (zz (v := .int 8) rfl T.zvE ⟨_, rfl⟩) zg)))))) yD)
      (zj (yx (zX zDj (hr.mono (by decide)) rfl T.zCY T.zzb.kp T.zCS .nil takes_cx.passes (zb (pv 2) zg)))))))), ?_⟩
    have hw : (zxu i).cps.toList = (Bd.ascii (zpf i)).map (·.toNat) ∧ (Bd.ascii (zpf i)).length < 1000 ∧ ([V.str "wall", .str "long", .str "high", .str "left", .str "right", .str "reveal"] : List V)[i]? = some (.str (zxu i)) := by
      match i, hi with
      | 0, _ => exact ⟨by decide, by decide, rfl⟩
      | 1, _ => exact ⟨by decide, by decide, rfl⟩
      | 2, _ => exact ⟨by decide, by decide, rfl⟩
      | 3, _ => exact ⟨by decide, by decide, rfl⟩
      | 4, _ => exact ⟨by decide, by decide, rfl⟩
      | 5, _ => exact ⟨by decide, by decide, rfl⟩
      | n + 6, h => omega
    refine ⟨_, rfl, a.ZW, _, _, _, rfl, rfl, T.zrh _, yj hw.2.2, _, rfl, zxu i, l, Bd.ascii (zpf i), line, rfl, hw.1, hw.2.1, hS, hl, ?_⟩
    rw [zsm] at k
    cases hf : zAh (Bd.ascii (zpf i)) line with
    | none =>
      rw [hf] at k
      exact k
    | some x =>
      rw [hf] at k
      intro H1 f s1 fH hx hxl
      dsimp only at k
      unfold zcT at k
      refine ⟨_, rfl, rfl, _, rfl, ?_⟩
      by_cases i0 : i = 0
      · subst i0
        rw [if_pos rfl] at k
        refine Z6 ⟨_, rfl, f, x, rfl, SqL.of hx, hxl, ?_⟩
        cases hn : zkG x with
        | error e =>
          rw [hn] at k
          exact k.same s1
        | ok b =>
          rw [hn] at k
          intro H2 s2
          have eb : b = x := by
            unfold zkG at hn
            by_cases q1 : x = [] ∨ x.all Bd.isSmall = false
            · rw [if_pos q1] at hn
              cases hn
            · rw [if_neg q1] at hn
              by_cases q2 : 15 < x.length
              · rw [if_pos q2] at hn
                cases hn
              · rw [if_neg q2] at hn
                exact (Except.ok.inj hn).symm
          subst eb
          exact k H2 (.ref f) (s1.trans s2) ⟨f, rfl, s2 _ _ hx⟩ (fun q e => by cases e; exact fH)
      · rw [if_neg i0] at k
        rw [decide_eq_false (show ¬ V.int ((i : Nat) : Int) = V.int 0 from fun z => i0 (by have := V.int.inj z; omega))]
        refine zat ⟨_, rfl, rfl, _, rfl, ?_⟩
        by_cases i1 : i = 1
        · subst i1
          rw [if_pos rfl] at k
          refine Z6 ⟨_, rfl, f, x, 1, 32, rfl, SqL.of hx, hxl, ?_⟩
          cases hn : zcZ x 32 with
          | error e =>
            rw [hn] at k
            rw [show zsq x 1 32 = .error e from hn]
            exact k.same s1
          | ok n =>
            rw [hn] at k
            rw [show zsq x 1 32 = .ok n from hn]
            exact fun H2 s2 => k H2 _ (s1.trans s2) rfl (fun q e => nomatch e)
        · rw [if_neg i1] at k
          rw [decide_eq_false (show ¬ V.int ((i : Nat) : Int) = V.int 1 from fun z => i1 (by have := V.int.inj z; omega))]
          refine zat ⟨_, rfl, rfl, _, rfl, ?_⟩
          by_cases i2 : i = 2
          · subst i2
            rw [if_pos rfl] at k
            refine Z6 ⟨_, rfl, f, x, 1, 8, rfl, SqL.of hx, hxl, ?_⟩
            cases hn : zcZ x 8 with
            | error e =>
              rw [hn] at k
              rw [show zsq x 1 8 = .error e from hn]
              exact k.same s1
            | ok n =>
              rw [hn] at k
              rw [show zsq x 1 8 = .ok n from hn]
              exact fun H2 s2 => k H2 _ (s1.trans s2) rfl (fun q e => nomatch e)
          · rw [if_neg i2] at k
            rw [decide_eq_false (show ¬ V.int ((i : Nat) : Int) = V.int 2 from fun z => i2 (by have := V.int.inj z; omega))]
            refine zat ⟨_, rfl, f, x, rfl, SqL.of hx, hxl, ?_⟩
            cases hn : zix x with
            | none =>
              rw [hn] at k
              exact k.same s1
            | some n =>
              rw [hn] at k
              exact fun H2 s2 => k H2 _ (s1.trans s2) rfl (fun q e => nomatch e)
end
end Wb
end
section
set_option Elab.async false
set_option linter.all false
set_option maxRecDepth 100000
set_option maxHeartbeats 4000000
namespace Wb
open PySem PySem.Spec PyProof.Rows L2 Wm
open PySem.W (Codec)
theorem Paired.getR {α β : Type} {F : α → β → Prop} : ∀ {as : List α} {bs : List β} {i : Nat} {y : β}, Paired F as bs → bs[i]? = some y → ∃ x, as[i]? = some x ∧ F x y
  | _, _, _, _, .nil, h => by simp at h
  | _, _, 0, _, .cons h t, e => by
    have e' := Option.some.inj e
    subst e'
    exact ⟨_, rfl, h⟩
  | _, _, i + 1, x, .cons h t, e => Paired.getR (i := i) t e
def Kinds (h : List HV) : Prop := ∀ (n : Nat) (x : HV), h[n]? = some x → if n = 0 then ∃ b, x = .nm b else ∃ m, x = .num m
theorem Kinds.snoc {h : List HV} {x : HV} {line : Bd.Bytes} (k : Kinds h) (e : zaG h.length line = .ok x) : Kinds (h ++ [x]) := by
  intro n y hy
  by_cases hn : n < h.length
  · rw [List.getElem?_append_left hn] at hy
    exact k n y hy
  · have en : n = h.length := by
      have z := (List.getElem?_eq_some_iff.mp hy).1
      simp at z
      omega
    subst en
    rw [List.getElem?_append_right (Nat.le_refl _), Nat.sub_self] at hy
    obtain rfl : x = y := Option.some.inj hy
    unfold zaG at e
    generalize zL (Bd.ascii (zpf h.length)) line = r at e
    match r, e with
    | none, e => cases e
    | some [], e => cases e
    | some (_ :: _ :: _), e => cases e
    | some [z], e =>
      dsimp only at e
      unfold zcT at e
      by_cases h0 : h.length = 0
      · rw [if_pos h0] at e ⊢
        cases q : zkG z with
        | error k => rw [q] at e; cases e
        | ok b => rw [q] at e; exact ⟨b, (Except.ok.inj e).symm⟩
      · rw [if_neg h0] at e ⊢
        by_cases h1 : h.length = 1
        · rw [if_pos h1] at e
          cases q : zcZ z 32 with
          | error k => rw [q] at e; cases e
          | ok b => rw [q] at e; exact ⟨b, (Except.ok.inj e).symm⟩
        · rw [if_neg h1] at e
          by_cases h2 : h.length = 2
          · rw [if_pos h2] at e
            cases q : zcZ z 8 with
            | error k => rw [q] at e; cases e
            | ok b => rw [q] at e; exact ⟨b, (Except.ok.inj e).symm⟩
          · rw [if_neg h2] at e
            cases q : zix z with
            | none => rw [q] at e; cases e
            | some b => rw [q] at e; exact ⟨b, (Except.ok.inj e).symm⟩
theorem Kinds.num {h : List HV} (k : Kinds h) {n : Nat} (hn : n < h.length) (h0 : n ≠ 0) : ∃ m, h[n]? = some (.num m) ∧ Wm.numAt h n = m := by
  have e : h[n]? = some h[n] := List.getElem?_eq_getElem hn
  have z := k n _ e
  rw [if_neg h0] at z
  obtain ⟨m, z⟩ := z
  rw [z] at e
  exact ⟨m, e, by unfold Wm.numAt; rw [e]⟩
theorem zBW {h h' : List HV} {os os' : List Bd.Opening} {line : Bd.Bytes} (e : zcP h os line = .ok (h', os')) (kd : Kinds h) (h6 : h.length ≤ 6) (o8 : os.length ≤ 8) : h'.length ≤ 6 ∧ os'.length ≤ 8 ∧ Kinds h' := by
  unfold zcP at e
  by_cases q : h.length < 6
  · rw [if_pos q] at e
    cases hb : zaG h.length line with
    | error k => rw [hb] at e; cases e
    | ok v =>
      rw [hb] at e
      have e' : (h ++ [v], os) = (h', os') := Except.ok.inj e
      obtain ⟨rfl, rfl⟩ := Prod.mk.inj e'
      exact ⟨by simp; omega, o8, kd.snoc hb⟩
  · rw [if_neg q] at e
    cases hb : zdG line (Wm.numAt h 1) (Wm.numAt h 2) os with
    | error k => rw [hb] at e; cases e
    | ok p =>
      rw [hb] at e
      have e' : (h, os ++ [p]) = (h', os') := Except.ok.inj e
      obtain ⟨rfl, rfl⟩ := Prod.mk.inj e'
      refine ⟨h6, ?_, kd⟩
      have lt : ¬ 8 ≤ os.length := fun z => by
        unfold zdG at hb
        generalize ((zL (Bd.ascii "open") line).bind fun r => r.mapM Bd.readNumber) = r at hb
        match r, hb with
        | none, hb => cases hb
        | some [], hb => cases hb
        | some [_], hb => cases hb
        | some [_, _], hb => cases hb
        | some [_, _, _], hb => cases hb
        | some (_ :: _ :: _ :: _ :: _ :: _), hb => cases hb
        | some [x0, x1, x2, x3], hb =>
          dsimp only at hb
          by_cases q1 : Bd.Opening.within ⟨x0, x1, x2, x3⟩ (Wm.numAt h 1) (Wm.numAt h 2) = false
          · rw [if_pos q1] at hb; cases hb
          · rw [if_neg q1] at hb
            by_cases q2 : (os.getLast?.any fun (p : Bd.Opening) => !p.before ⟨x0, x1, x2, x3⟩) = true
            · rw [if_pos q2] at hb; cases hb
            · rw [if_neg q2] at hb
              by_cases q3 : (os.any fun (p : Bd.Opening) => p.meets ⟨x0, x1, x2, x3⟩) = true
              · rw [if_pos q3] at hb; cases hb
              · rw [if_neg q3, if_pos z] at hb; cases hb
      simp
      omega
theorem zx7 {σ : L2.St} {H : Hp} {ta tb : TT} {x y : Bool} {Q : Bool → Hp → Prop} (S : Hp → Prop) (ha : ∀ R : Bool → Hp → Prop, (∀ H1, S H1 → R x H1) → ta σ H R) (hb : x = false → ∀ H1, S H1 → ∀ R : Bool → Hp → Prop, (∀ H2, S H2 → R y H2) → tb σ H1 R)
    (h : ∀ H2, S H2 → Q (x || y) H2) : tOr ta tb σ H Q := by
  refine ha _ fun H1 s1 => ?_
  cases x with
  | true => exact Z6 (h H1 s1)
  | false => exact zat (hb rfl H1 s1 _ h)
def wrF (pl ph po : Addr) : List (Str × V) := [("lines", .ref pl), ("head", .ref ph), ("openings", .ref po)]
structure WRd (Z : List Addr) (CR CO : Addr) (H : Hp) (r dx pl ph po : Addr) (hvs : List V) (as las : List Addr) (s : WS) : Prop where
  ob : H r = some (.ins CR dx (wrF pl ph po))
  hd : H ph = some (.lst hvs)
  hv : Paired (HvIs H) hvs s.1
  off : ∀ v ∈ hvs, zA1 v Z
  op : H po = some (.lst (as.map V.ref))
  os : Ops CO H as s.2.1
  ln : H pl = some (.lst (las.map V.ref))
  rows : Rows H las s.2.2
  lo : ∀ x ∈ las, x ∉ Z
  z1 : pl ∈ Z
  z2 : ph ∈ Z
  z3 : po ∈ Z
  n1 : pl ≠ ph
  n2 : pl ≠ po
  n3 : ph ≠ po
  h6 : s.1.length ≤ 6
  o8 : s.2.1.length ≤ 8
  l14 : s.2.2.length = s.1.length + s.2.1.length
  kd : Kinds s.1
def WRz (Z : List Addr) (CR CO : Addr) (H : Hp) (X : List Addr) (r : Addr) (s : WS) : Prop := ∃ (dx pl ph po : Addr) (hvs : List V) (as las : List Addr), X = [pl, ph, po] ∧ WRd Z CR CO H r dx pl ph po hvs as las s
def WR (CR CO : Addr) (H : Hp) (X : List Addr) (r : Addr) (s : WS) : Prop := WRz X CR CO H X r s
theorem WRd.keep {Z : List Addr} {CR CO : Addr} {H H' : Hp} {r dx pl ph po : Addr} {hvs : List V} {as las : List Addr} {s : WS} (U : WRd Z CR CO H r dx pl ph po hvs as las s) (k : Same H H') : WRd Z CR CO H' r dx pl ph po hvs as las s :=
  ⟨k _ _ U.ob, k _ _ U.hd, Paired.mapP U.hv fun _ _ h => h.same k, U.off, k _ _ U.op, Ops.same k U.os, k _ _ U.ln, Rows.same k U.rows, U.lo, U.z1, U.z2, U.z3, U.n1, U.n2, U.n3, U.h6, U.o8, U.l14, U.kd⟩
theorem zri {H : Hp} {p : Addr} {o : HO} {X : List Addr} (hp : p ∈ X) : ∀ {l1 : List V} {l2 : List HV}, Paired (HvIs H) l1 l2 → (∀ v ∈ l1, zA1 v X) → Paired (HvIs (upd H p o)) l1 l2
  | _, _, .nil, _ => .nil
  | _, _, .cons (b := z) f t, off => .cons (match z, f with
      | .nm b, ⟨q, e, f⟩ => ⟨q, e, by rw [ze (fun z => off _ (by simp) q e (by rw [z]; exact hp))]; exact f⟩
      | .num n, f => f) (zri hp t fun v hv => off v (by simp [hv]))
theorem zBl {CO : Addr} {H : Hp} {p : Addr} {xs ys : List V} (hp : H p = some (.lst xs)) : ∀ {as : List Addr} {os : List Bd.Opening}, Ops CO H as os → Ops CO (upd H p (.lst ys)) as os :=
  fun r => Paired.mapP r fun q o ⟨dq, e⟩ => ⟨dq, by rw [ze (zi3 e hp (by intro z; cases z))]; exact e⟩
def zxK {S : Type} (Rd : Hp → List Addr → Addr → S → Prop) (step : S → Bd.Bytes → Except Nat S) (CL : Addr) : Sp := fun vs H Q E => ∃ (r l : Addr) (X : List Addr) (s : S) (line : Bd.Bytes), vs = [.ref r, .ref l] ∧ Rd H X r s ∧ H l = some (.lst (iB line)) ∧ l ∉ X ∧ line.length ≤ 10000 ∧
  match step s line with
  | .error k => Fails CL E H k
  | .ok s' => ∀ (H' : Hp) (X' : List Addr), (∀ b o, H b = some o → b ∉ X → H' b = some o) → Rd H' X' r s' → (∀ x ∈ X', x ∈ X ∨ H x = none) → Q .non H'
def zxN {S : Type} (Rd : Hp → List Addr → Addr → S → Prop) (fin : S → Bd.Bytes → Option Nat) (CL : Addr) : Sp := fun vs H Q E => ∃ (r l : Addr) (X : List Addr) (s : S) (line : Bd.Bytes), vs = [.ref r, .ref l] ∧ Rd H X r s ∧ H l = some (.lst (iB line)) ∧ line.length ≤ 10000 ∧
  match fin s line with
  | some k => Fails CL E H k
  | none => ∀ H' : Hp, Same H H' → Q .non H'
def zxP (CR CO CL : Addr) : Sp := fun vs H Q E => ∃ (r l : Addr) (Z X : List Addr) (s : WS) (line : Bd.Bytes), vs = [.ref r, .ref l] ∧ WRz Z CR CO H X r s ∧ (∀ z ∈ Z, H z ≠ none) ∧ H l = some (.lst (iB line)) ∧ l ∉ Z ∧ line.length ≤ 10000 ∧
  match za1 s line with
  | .error k => Fails CL E H k
  | .ok s' => ∀ H' : Hp, (∀ b o, H b = some o → b ∉ X → H' b = some o) → WRz Z CR CO H' X r s' → Q .non H'
def zsz (CR CO : Addr) : Sp := fun vs H Q _ => ∃ (r : Addr) (Z X : List Addr) (s : WS), vs = [.ref r] ∧ WRz Z CR CO H X r s ∧ Q (.bl (decide (s.1.length = 6))) H
def zzC (CR CO : Addr) : Sp := fun vs H Q _ => ∃ (r dx : Addr), vs = [.ref r] ∧ H r = some (.ins CR dx []) ∧
  ∀ (H' : Hp) (X : List Addr), (∀ b o, H b = some o → b ≠ r → H' b = some o) → WR CR CO H' X r ([], [], []) → (∀ x ∈ X, H x = none) → Q .non H'
def wlF (v0 v1 v2 v3 v4 v5 v6 : V) : List (Str × V) := [("name", v0), ("length", v1), ("height", v2), ("left", v3), ("right", v4), ("reveal", v5), ("openings", v6)]
def zuX (C : Addr) : Sp := fun vs H Q _ => ∃ (p dx hd op : Addr) (v0 v1 v2 v3 v4 v5 : V), vs = [.ref p, .ref hd, .ref op] ∧ H p = some (.ins C dx []) ∧ H hd = some (.lst [v0, v1, v2, v3, v4, v5]) ∧
  ∀ H' : Hp, H' p = some (.ins C dx (wlF v0 v1 v2 v3 v4 v5 (.ref op))) → (∀ b, b ≠ p → H' b = H b) → Q .non H'
def WallAt (CW CO : Addr) (H : Hp) (p : Addr) (h : List HV) (os : List Bd.Opening) : Prop := ∃ (dx op : Addr) (v0 v1 v2 v3 v4 v5 : V) (as : List Addr), H p = some (.ins CW dx (wlF v0 v1 v2 v3 v4 v5 (.ref op))) ∧ Paired (HvIs H) [v0, v1, v2, v3, v4, v5] h ∧ H op = some (.lst (as.map V.ref)) ∧ Ops CO H as os
section
variable {P : Program} {w : World} {K : PySem.W.Frag} {mg : Str → Option Value} {base : Heap} {a : Ad}
theorem zkX (T : Txt K mg a) : FnOk P w K mg base (CXo P w) true 1 a.z4 a.zaM ["self"] (zzC a.zk a.zh) := by
  refine z9 T.zmz zly (fun vs H Q E h => ?_) (fun cdv A outer s0 H vs Q E hr h => ?_)
  · obtain ⟨r, dx, rfl, _⟩ := h
    rfl
  · obtain ⟨r, dx, rfl, hp, k⟩ := h
    refine ⟨_, (zo (zbo (pv 0) (Zd zg) rfl)
      (zo (zbo (pv 0) (Zd zg) rfl)
      (zj (zbo (pv 0) (Zd zg) rfl)))), ?_⟩
    refine ⟨Nat.zero_le _, fun pl npl => ⟨_, rfl, r, _, dx, _, rfl, by rw [ze (zi hp npl)]; exact hp, T.zR, T.yU, (by show 0 < 1000; decide), ?_⟩⟩
    have rl : r ≠ pl := zi hp npl
    refine ⟨Nat.zero_le _, fun ph nph => ⟨_, rfl, r, _, dx, _, rfl, by rw [ze (zi zc nph)]; exact zc, T.zR, T.zY, (by show 1 < 1000; decide), ?_⟩⟩
    have rh : r ≠ ph := zi zc nph
    have lh : pl ≠ ph := fun e => by
      rw [ze (Ne.symm rh), ← e, zc] at nph
      cases nph
    refine ⟨Nat.zero_le _, fun po npo => ⟨_, rfl, r, _, dx, _, rfl, by rw [ze (zi zc npo)]; exact zc, T.zR, T.yy, (by show 2 < 1000; decide), ?_⟩⟩
    have ro : r ≠ po := zi zc npo
    rw [ze (Ne.symm ro)] at npo
    have ho : ph ≠ po := fun e => by
      rw [← e, zc] at npo
      cases npo
    rw [ze (Ne.symm ho), ze (Ne.symm ro)] at npo
    have lo : pl ≠ po := fun e => by
      rw [← e, zc] at npo
      cases npo
    rw [ze (Ne.symm lo)] at npo
    rw [ze (Ne.symm rh), ze (Ne.symm lh)] at nph
    refine k _ [pl, ph, po] (fun b o e br => ?_) ⟨dx, pl, ph, po, [], [], [], rfl, ?_, ?_, .nil, (by simp), ?_, .nil, ?_, .nil, (by simp), (by simp), (by simp), (by simp), lh, lo, ho, by decide, by decide, rfl, fun n x e => by simp at e⟩ ?_
    · rw [ze br, ze (zi e npo), ze br, ze (zi e nph), ze br, ze (zi e npl)]
      exact e
    · rw [zc]
      rfl
    · rw [ze (Ne.symm rh), ze ho, ze (Ne.symm rh), zc]
    · rw [ze (Ne.symm ro), zc]
      rfl
    · rw [ze (Ne.symm rl), ze lo, ze (Ne.symm rl), ze lh, ze (Ne.symm rl), zc]
      rfl
    · intro x hx
      simp only [List.mem_cons, List.mem_nil_iff, or_false] at hx
      rcases hx with rfl | rfl | rfl
      · exact npl
      · exact nph
      · exact npo
theorem zfw (T : Txt K mg a) : FnOk P w K mg base (CXo P w) true 1 a.zT a.ZG ["self"] (zsz a.zk a.zh) := by
  refine z9 T.zmG zlF (fun vs H Q E h => ?_) (fun cdv A outer s0 H vs Q E hr h => ?_)
  · obtain ⟨r, Z, X, s, rfl, _⟩ := h
    rfl
  · obtain ⟨r, Z, X, s, rfl, ⟨dx, pl, ph, po, hvs, as, las, rfl, U⟩, k⟩ := h
    refine ⟨_, (zj (yx (zcK zoP (yL yz rfl T.z_len zc1 (zb (zw (pv 0) rfl) zg)) (yL yz rfl T.z_len zc1 (zb (zz (v := .ref a.ZW) rfl T.zq4 rfl) zg)) (yp _)))), ?_⟩
    refine ⟨_, rfl, r, _, dx, _, _, rfl, U.ob, T.zR, T.zY, rfl, ph, _, rfl, .inl (SqL.of U.hd), a.ZW, _, rfl, .inr (T.zrh _), rfl, ?_⟩
    have len : hvs.length = s.1.length := Paired.length U.hv
    have e : decide (V.int ((hvs.length : Nat) : Int) = V.int ((([V.str "wall", .str "long", .str "high", .str "left", .str "right", .str "reveal"] : List V).length : Nat) : Int)) = decide (s.1.length = 6) := by
      rw [len]
      refine decide_eq_decide.mpr ⟨fun q => ?_, fun q => by rw [q]; rfl⟩
      have q' : ((s.1.length : Nat) : Int) = 6 := V.int.inj q
      omega
    rw [e]
    exact k
theorem zhf (T : Txt K mg a) : FnOk P w K mg base (CXo P w) true 6 a.yn a.za6 ["self", "line"] (zxP a.zk a.zh a.zd) := by
  have zcv : FnOk P w K mg base (CXo P w) true 1 a.zT a.ZG ["self"] (zsz a.zk a.zh) := zfw T
  have zxV : FnOk P w K mg base (CXo P w) true 5 a.zav a.zhF ["number", "line"] (zCN K a.zd) := zvG T
  have zxw : FnOk P w K mg base (CXo P w) true 5 a.zau a.zhp ["line", "length", "height", "before"] (zwj K a.zh a.zd) := zvO T
  refine z9 T.zqt zpT (fun vs H Q E h => ?_) (fun cdv A outer s0 H vs Q E hr h => ?_)
  · obtain ⟨r, l, Z, X, s, line, rfl, _⟩ := h
    rfl
  · obtain ⟨r, l, Z, X, ⟨h, os, ls⟩, line, rfl, ⟨dx, pl, ph, po, hvs, as, las, rfl, U⟩, hZ, hL, nl, hl, k⟩ := h
    have zl := szl
    have len : hvs.length = h.length := Paired.length U.hv
    have leno : as.length = os.length := Paired.length U.os
    have lenl : las.length = ls.length := Paired.length U.rows
    have h6 : h.length ≤ 6 := U.h6
    have o8 : os.length ≤ 8 := U.o8
    have l14 : ls.length = h.length + os.length := U.l14
    have kd : Kinds h := U.kd
    refine ⟨_, (zo (ZD (zf8 (zka (pv 0) T.zR T.zfz zcv (hr.mono (by decide)) T.zfF .nil takes_cx.passes)) (zj (ZT (zmb PySem.F.plainAttrs_list PySem.F.slot_list_append PySem.F.type_list_append zeD (zw (pv 0) rfl) (zb (zX zxw (hr.mono (by decide)) rfl T.zxi T.zqX.kp T.zyI .nil takes_cx.passes (zb (pv 1) (zb (Zi yJ (zw (pv 0) rfl) zD (fun _ _ => rfl)) (zb (Zi yJ (zw (pv 0) rfl) zD (fun _ _ => rfl)) (zb (zw (pv 0) rfl) zg))))) zg)))) (zj (ZT (zmb PySem.F.plainAttrs_list PySem.F.slot_list_append PySem.F.type_list_append zeD (zw (pv 0) rfl) (zb (zX zxV (hr.mono (by decide)) rfl T.zxa T.zqO.kp T.zyD .nil takes_cx.passes (zb (yL yz rfl T.z_len zc1 (zb (zw (pv 0) rfl) zg)) (zb (pv 1) zg))) zg)))))
      (zj (ZT (zmb PySem.F.plainAttrs_list PySem.F.slot_list_append PySem.F.type_list_append zeD (zw (pv 0) rfl) (zb (pv 1) zg))))), ?_⟩
    refine ⟨_, rfl, r, dx, _, rfl, U.ob, rfl, r, Z, _, _, rfl, ⟨dx, pl, ph, po, hvs, as, las, rfl, U⟩, _, rfl, ?_⟩
    unfold za1 zcP at k
    dsimp only at k ⊢
    by_cases hlt : h.length < 6
    · rw [if_pos hlt] at k
      rw [decide_eq_false (show ¬ h.length = 6 by omega)]
      refine zat ⟨_, rfl, r, _, dx, _, _, rfl, U.ob, T.zR, T.zY, rfl, .inl ⟨rfl, _, SqL.of U.hd⟩, _, rfl, r, _, dx, _, _, rfl, U.ob, T.zR, T.zY, rfl, ph, _, rfl, .inl (SqL.of U.hd), _, rfl, h.length, l, line, (by rw [len]; rfl), hlt, SqL.of hL, hl, ?_⟩
      cases hb : zaG h.length line with
      | error e =>
        rw [hb] at k
        exact k
      | ok x =>
        rw [hb] at k
        intro H1 v s1 hv fresh
        have U1 := U.keep s1
        refine ⟨ph, hvs, v, rfl, rfl, U1.hd, (by omega), ?_⟩
        have hvne : zA1 v Z := fun p e m => hZ p m (fresh p e)
        have nr : r ≠ ph := zi3 U1.ob U1.hd (by intro z; cases z)
        have e2 : upd H1 ph (.lst (hvs ++ [v])) pl = some (.lst (las.map V.ref)) := by rw [ze U.n1]; exact U1.ln
        have ob2 : upd H1 ph (.lst (hvs ++ [v])) r = some (.ins a.zk dx (wrF pl ph po)) := by rw [ze nr]; exact U1.ob
        refine ⟨_, rfl, r, _, dx, _, _, rfl, ob2, T.zR, T.yU, rfl, .inl ⟨rfl, _, SqL.of e2⟩, _, rfl, pl, _, _, rfl, rfl, e2, (by rw [List.length_map]; omega), ?_⟩
        have nrl : r ≠ pl := zi3 U1.ob U1.ln (by intro z; cases z)
        have hv2 : HvIs (upd (upd H1 ph (.lst (hvs ++ [v]))) pl (.lst (las.map V.ref ++ [.ref l]))) v x := by
          cases x with
          | nm b =>
            obtain ⟨p, e, q⟩ := hv
            refine ⟨p, e, ?_⟩
            have m := hvne p e
            rw [ze (fun z => m (by rw [z]; exact U.z1)), ze (fun z => m (by rw [z]; exact U.z2))]
            exact q
          | num n => exact hv
        refine k _ (fun b o e n => ?_) ⟨dx, pl, ph, po, hvs ++ [v], as, las ++ [l], rfl, ?_, ?_, ?_, ?_, ?_, ?_, ?_, ?_, ?_, U.z1, U.z2, U.z3, U.n1, U.n2, U.n3, ?_, o8, ?_, kd.snoc hb⟩
        · simp only [List.mem_cons, List.mem_nil_iff, or_false, not_or] at n
          rw [ze n.1, ze n.2.1]
          exact s1 b o e
        · rw [ze nrl, ze nr]
          exact U1.ob
        · rw [ze (Ne.symm U.n1)]
          exact zc
        · exact Paired.snoc (zri (X := Z) U.z1 (zri (X := Z) U.z2 U1.hv U.off) U.off) hv2
        · intro y hy
          rcases List.mem_append.mp hy with m | m
          · exact U.off y m
          · rw [List.mem_singleton.mp m]
            exact hvne
        · rw [ze (Ne.symm U.n2), ze (Ne.symm U.n3)]
          exact U1.op
        · exact zBl e2 (zBl U1.hd U1.os)
        · rw [zc, List.map_append]
          rfl
        · refine Paired.snoc (Rows.upd (Rows.upd U1.rows fun m => U.lo _ m U.z2) fun m => U.lo _ m U.z1) ?_
          rw [ze (fun z => nl (by rw [z]; exact U.z1)), ze (fun z => nl (by rw [z]; exact U.z2))]
          exact s1 _ _ hL
        · intro y hy
          rcases List.mem_append.mp hy with m | m
          · exact U.lo y m
          · rw [List.mem_singleton.mp m]
            exact nl
        · simp
          omega
        · simp
          omega
    · rw [if_neg hlt] at k
      have e6 : h.length = 6 := by omega
      rw [decide_eq_true e6]
      obtain ⟨m1, q1, e1⟩ := kd.num (n := 1) (by omega) (by decide)
      obtain ⟨m2, q2, e2''⟩ := kd.num (n := 2) (by omega) (by decide)
      rw [e1, e2''] at k
      obtain ⟨v1, g1, r1⟩ := Paired.getR U.hv q1
      obtain ⟨v2, g2, r2⟩ := Paired.getR U.hv q2
      obtain rfl : v1 = .int ((m1 : Nat) : Int) := r1
      obtain rfl : v2 = .int ((m2 : Nat) : Int) := r2
      refine Z6 ⟨_, rfl, r, _, dx, _, _, rfl, U.ob, T.zR, T.yy, rfl, .inl ⟨rfl, _, SqL.of U.op⟩, _, rfl, _, rfl, r, _, dx, _, _, rfl, U.ob, T.zR, T.zY, rfl, ph, _, _, _, rfl, rfl, SqL.of U.hd, yj (j := 1) g1, _, rfl, r, _, dx, _, _, rfl, U.ob, T.zR, T.zY, rfl, ph, _, _, _, rfl, rfl, SqL.of U.hd, yj (j := 2) g2, _, rfl, r, _, dx, _, _, rfl, U.ob, T.zR, T.yy, rfl, l, po, line, m1, m2, as, os, rfl, SqL.of hL, hl, U.op, U.os, o8, ?_⟩
      cases hb : zdG line m1 m2 os with
      | error e =>
        rw [hb] at k
        exact k
      | ok o =>
        rw [hb] at k
        intro H1 p s1 np hp
        have U1 := U.keep s1
        refine ⟨po, _, _, rfl, rfl, U1.op, (by rw [List.length_map]; omega), ?_⟩
        have nr : r ≠ po := zi3 U1.ob U1.op (by intro z; cases z)
        have e2 : upd H1 po (.lst (as.map V.ref ++ [.ref p])) pl = some (.lst (las.map V.ref)) := by rw [ze U.n2]; exact U1.ln
        have ob2 : upd H1 po (.lst (as.map V.ref ++ [.ref p])) r = some (.ins a.zk dx (wrF pl ph po)) := by rw [ze nr]; exact U1.ob
        refine ⟨_, rfl, r, _, dx, _, _, rfl, ob2, T.zR, T.yU, rfl, .inl ⟨rfl, _, SqL.of e2⟩, _, rfl, pl, _, _, rfl, rfl, e2, (by rw [List.length_map]; omega), ?_⟩
        have nrl : r ≠ pl := zi3 U1.ob U1.ln (by intro z; cases z)
        have e9 : os.length < 8 := by
          have z := (zBW (h := h) (os := os) (h' := h) (os' := os ++ [o]) (line := line) (by unfold zcP; rw [if_neg hlt, e1, e2'', hb]) kd h6 o8).2.1
          simp at z
          omega
        refine k _ (fun b o e n => ?_) ⟨dx, pl, ph, po, hvs, as ++ [p], las ++ [l], rfl, ?_, ?_, ?_, U.off, ?_, ?_, ?_, ?_, ?_, U.z1, U.z2, U.z3, U.n1, U.n2, U.n3, h6, ?_, ?_, kd⟩
        · simp only [List.mem_cons, List.mem_nil_iff, or_false, not_or] at n
          rw [ze n.1, ze n.2.2]
          exact s1 b o e
        · rw [ze nrl, ze nr]
          exact U1.ob
        · rw [ze (Ne.symm U.n1), ze U.n3]
          exact U1.hd
        · exact zri (X := Z) U.z1 (zri (X := Z) U.z3 U1.hv U.off) U.off
        · rw [ze (Ne.symm U.n2), zc, List.map_append]
          rfl
        · have up : ∀ (q : Addr) (z : Bd.Opening), OpAt a.zh H1 q z → OpAt a.zh (upd (upd H1 po (.lst (as.map V.ref ++ [.ref p]))) pl (.lst (las.map V.ref ++ [.ref l]))) q z := fun q z ⟨dq, e⟩ => ⟨dq, by rw [ze (zi3 e U1.ln (by intro z; cases z)), ze (zi3 e U1.op (by intro z; cases z))]; exact e⟩
          exact Paired.snoc (Paired.mapP U1.os fun q o h => up q o h) (up _ _ hp)
        · rw [zc, List.map_append]
          rfl
        · refine Paired.snoc (Rows.upd (Rows.upd U1.rows fun m => U.lo _ m U.z3) fun m => U.lo _ m U.z1) ?_
          rw [ze (fun z => nl (by rw [z]; exact U.z1)), ze (fun z => nl (by rw [z]; exact U.z3))]
          exact s1 _ _ hL
        · intro y hy
          rcases List.mem_append.mp hy with m | m
          · exact U.lo y m
          · rw [List.mem_singleton.mp m]
            exact nl
        · simp
          omega
        · simp
          omega
theorem WRz.has {Z : List Addr} {CR CO : Addr} {H : Hp} {X : List Addr} {r : Addr} {s : WS} (h : WRz Z CR CO H X r s) : ∀ x ∈ X, ∃ xs, H x = some (.lst xs) := by
  obtain ⟨dx, pl, ph, po, hvs, as, las, rfl, U⟩ := h
  intro x hx
  simp only [List.mem_cons, List.mem_nil_iff, or_false] at hx
  rcases hx with rfl | rfl | rfl
  · exact ⟨_, U.ln⟩
  · exact ⟨_, U.hd⟩
  · exact ⟨_, U.op⟩
theorem WR.has {CR CO : Addr} {H : Hp} {X : List Addr} {r : Addr} {s : WS} (h : WR CR CO H X r s) : ∀ x ∈ X, H x ≠ none := fun x hx e => by
  obtain ⟨xs, e2⟩ := WRz.has h x hx
  rw [e2] at e
  cases e
theorem zr6 (T : Txt K mg a) : FnOk P w K mg base (CXo P w) true 1 a.y9 a.zd8 ["self", "head", "openings"] (zuX a.zS) := by
  refine z9 T.ztA zsk (fun vs H Q E h => ?_) (fun cdv A outer s0 H vs Q E hr h => ?_)
  · obtain ⟨p, dx, hd, op, v0, v1, v2, v3, v4, v5, rfl, _⟩ := h
    rfl
  · obtain ⟨p, dx, l, op, v0, v1, v2, v3, v4, v5, rfl, hp, hl, k⟩ := h
    have lp : l ≠ p := zi3 hl hp (by intro z; cases z)
    refine ⟨_, (zo (zbo (pv 0) (Zi yJ (pv 1) zD (fun _ _ => rfl)) rfl)
      (zo (zbo (pv 0) (Zi yJ (pv 1) zD (fun _ _ => rfl)) rfl)
      (zo (zbo (pv 0) (Zi yJ (pv 1) zD (fun _ _ => rfl)) rfl)
      (zo (zbo (pv 0) (Zi yJ (pv 1) zD (fun _ _ => rfl)) rfl)
      (zo (zbo (pv 0) (Zi yJ (pv 1) zD (fun _ _ => rfl)) rfl)
      (zo (zbo (pv 0) (Zi yJ (pv 1) zD (fun _ _ => rfl)) rfl)
      (zj (zbo (pv 0) (pv 2) rfl)))))))), ?_⟩
    refine ⟨_, rfl, l, _, _, _, rfl, rfl, SqL.of hl, yj (j := 0) rfl, _, rfl, p, _, dx, _, rfl, hp, T.zc5, T.zeq, (by show 0 < 1000; decide), ?_⟩
    refine ⟨_, rfl, l, _, _, _, rfl, rfl, SqL.of (by rw [ze lp]; exact hl), yj (j := 1) rfl, _, rfl, p, _, dx, _, rfl, zc, T.zc5, T.zbq, (by show 1 < 1000; decide), ?_⟩
    rw [zap]
    refine ⟨_, rfl, l, _, _, _, rfl, rfl, SqL.of (by rw [ze lp]; exact hl), yj (j := 2) rfl, _, rfl, p, _, dx, _, rfl, zc, T.zc5, T.zaA, (by show 2 < 1000; decide), ?_⟩
    rw [zap]
    refine ⟨_, rfl, l, _, _, _, rfl, rfl, SqL.of (by rw [ze lp]; exact hl), yj (j := 3) rfl, _, rfl, p, _, dx, _, rfl, zc, T.zc5, T.zes, (by show 3 < 1000; decide), ?_⟩
    rw [zap]
    refine ⟨_, rfl, l, _, _, _, rfl, rfl, SqL.of (by rw [ze lp]; exact hl), yj (j := 4) rfl, _, rfl, p, _, dx, _, rfl, zc, T.zc5, T.zdg, (by show 4 < 1000; decide), ?_⟩
    rw [zap]
    refine ⟨_, rfl, l, _, _, _, rfl, rfl, SqL.of (by rw [ze lp]; exact hl), yj (j := 5) rfl, _, rfl, p, _, dx, _, rfl, zc, T.zc5, T.zdK, (by show 5 < 1000; decide), ?_⟩
    rw [zap]
    refine ⟨_, rfl, _, rfl, p, _, dx, _, rfl, zc, T.zc5, T.za0, (by show 6 < 1000; decide), ?_⟩
    rw [zap]
    exact k _ zc fun b hb => ze hb
end
end Wb
end
section
set_option Elab.async false
set_option linter.all false
set_option maxRecDepth 100000
set_option maxHeartbeats 4000000
namespace Wb
open PySem PySem.Spec PyProof.Rows L2 Wm
open PySem.W (Codec)
def zEH (C : Addr) (E : XK) (H : Hp) (X : List Addr) (i k : Nat) : Prop := ∀ (fr : Bool) (d q : Addr) (H' : Hp), (∀ b o, H b = some o → b ∉ X → (∀ φ, o ≠ .ext φ) → H' b = some o) → H' d = some (.xd (wfF q (.int ((i : Nat) : Int)) (.int ((k : Nat) : Int)))) → H' q = some (.lst []) → E (C, fr) (some d) H'
def FailsW (C : Addr) (E : XK) (H : Hp) (i k : Nat) : Prop := ∀ (fr : Bool) (d q : Addr) (H' : Hp), zzV H H' → H' d = some (.xd (wfF q (.int ((i : Nat) : Int)) (.int ((k : Nat) : Int)))) → H' q = some (.lst []) → E (C, fr) (some d) H'
theorem FailsW.same {C : Addr} {E : XK} {H H1 : Hp} {i k : Nat} (f : FailsW C E H i k) (s : Same H H1) : FailsW C E H1 i k := fun fr d q H' m e e2 => f fr d q H' (s.thenM m) e e2
def zBt {S : Type} (K : PySem.W.Frag) (Rd : Hp → List Addr → Addr → S → Prop) (step : S → Bd.Bytes → Except Nat S) (fin : S → Bd.Bytes → Option Nat) (CF : Addr) : Sp := fun vs H Q E => ∃ (l r : Addr) (X : List Addr) (s0 : S) (t : Bd.Bytes), vs = [.ref l, .ref r] ∧ SqL K H l (iB t) ∧ t.length ≤ 6000 ∧ Rd H X r s0 ∧ (∀ x ∈ X, H x ≠ none) ∧
  match zgD step fin s0 (fl 10 t) with
  | .error e => zEH CF E H X e.1 e.2
  | .ok s => ∀ (H' : Hp) (X' : List Addr), (∀ b o, H b = some o → b ∉ X → H' b = some o) → Rd H' X' r s → (∀ x ∈ X', x ∈ X ∨ H x = none) → Q .non H'
theorem zvB {X : Cx} {K : PySem.W.Frag} (hK : X.K = K) : zsZ X (.builtin "len") (fun xs H Q => ∃ p ys, xs = [V.ref p] ∧ (SqL K H p ys ∨ SqT K H p ys) ∧ Q (V.int ((ys.length : Nat) : Int)) H) := by
  subst hK
  exact yz
theorem zzH {X : Cx} {K : PySem.W.Frag} (hK : X.K = K) : IxR X (zEU K) := by
  subst hK
  exact yJ
theorem zq2 {X : Cx} {K : PySem.W.Frag} {e : Expr} {f : Str} {pos : Pos} {ta : TE} (hK : X.K = K) (he : PE X e ta) (hb : attributeBase e f X.env (eval e X.env) = eval e X.env) : PE X (.Attribute e f pos) (zkR K ta f) := by
  subst hK
  exact zw he hb
theorem Rows.init {H : Hp} : ∀ {A1 : List Addr} {B1 : List Bd.Bytes} {a1 : Addr} {b1 : Bd.Bytes}, A1.length = B1.length → Rows H (A1 ++ [a1]) (B1 ++ [b1]) → Rows H A1 B1
  | [], [], _, _, _, _ => .nil
  | [], _ :: _, _, _, h, _ => by simp at h
  | _ :: _, [], _, _, h, _ => by simp at h
  | _ :: _, _ :: _, _, _, h, .cons f t => .cons f (Rows.init (by simpa using h) t)
section
variable {P : Program} {w : World} {K : PySem.W.Frag} {mg : Str → Option Value} {base : Heap} {a : Ad}
theorem zv6 {S : Type} {Rd : Hp → List Addr → Addr → S → Prop} {step : S → Bd.Bytes → Except Nat S} {fin : S → Bd.Bytes → Option Nat} {C ft fr : Addr} {dt dr : FuncData} {kt kr : Nat} (T : Txt K mg a) (hC : Cls K C)
    (hM_take : zmu K C "take" ft) (hM_take_rest : zmu K C "take_rest" fr) (hb_take : Binds K dt ["self", "line"] []) (hb_take_rest : Binds K dr ["self", "rest"] [])
    (G1 : FnOk P w K mg base (CXo P w) true kt ft dt ["self", "line"] (zxK Rd step a.zd)) (G2 : FnOk P w K mg base (CXo P w) true kr fr dr ["self", "rest"] (zxN Rd fin a.zd)) (hkt : kt ≤ 12) (hkr : kr ≤ 12)
    (obj : ∀ H X r s, Rd H X r s → ∃ dx fs, H r = some (.ins C dx fs) ∧ fs.lookup ("take" : Str) = none ∧ fs.lookup ("take_rest" : Str) = none) (keep : ∀ H H' X r s, Rd H X r s → Same H H' → Rd H' X r s) :
    FnOk P w K mg base (CXo P w) true 13 a.zaw a.zhv ["text", "reader"] (zBt K Rd step fin a.zq) := by
  have zic : FnOk P w K mg base (CXo P w) true 1 a.zaH a.zfV ["row", "sign"] (ztU K) := zn3 T
  have G_take : FnOk P w K mg base (CXo P w) true 12 ft dt ["self", "line"] (zxK Rd step a.zd) := G1.mono hkt
  have G_take_rest : FnOk P w K mg base (CXo P w) true 12 fr dr ["self", "rest"] (zxN Rd fin a.zd) := G2.mono hkr
  have zgH : ∀ {cm : Bool}, FnOk P w K mg base (CXo P w) cm 2 a.yg a.za4 ["self", "line", "kind"] (zsX a.zq) := zmA T
  refine z9 T.zry zch (fun vs H Q E h => ?_) (fun cdv A outer s0 H vs Q E hr h => ?_)
  · obtain ⟨l, r, X, s, t, rfl, _⟩ := h
    rfl
  · obtain ⟨l, r, X, s0, t, rfl, hS, hl, R0, hX, k⟩ := h
    have zl := szl
    obtain ⟨wt2, hwt2⟩ : ∃ wt2 : WX, wt2 = fun σ c dx m => ∃ (d : Addr) (i kk : Nat), c = (a.zd, true) ∧ dx = some d ∧ m d = some (.xd [("kind", .int ((kk : Nat) : Int))]) ∧ σ.length = 6 ∧ σ[3]? = some (some (.int ((i : Nat) : Int))) ∧ zgD step fin s0 (fl 10 t) = .error (i, kk) ∧ (∀ b o, H b = some o → b ∉ X → (∀ φ, o ≠ .ext φ) → m b = some o) := ⟨_, rfl⟩
    obtain ⟨wt1, hwt1⟩ : ∃ wt1 : WX, wt1 = fun σ c dx m => ∃ (d p : Addr) (xs : List V) (kk : Nat), c = (a.zd, true) ∧ dx = some d ∧ m d = some (.xd [("kind", .int ((kk : Nat) : Int))]) ∧ σ.length = 6 ∧ σ[2]? = some (some (.ref p)) ∧ m p = some (.lst xs) ∧ zgD step fin s0 (fl 10 t) = .error (xs.length - 1, kk) ∧ 1 ≤ xs.length ∧ (∀ b o, H b = some o → b ∉ X → (∀ φ, o ≠ .ext φ) → m b = some o) := ⟨_, rfl⟩
    refine ⟨_, (zo (zai (i := 2) zch.nd rfl (by first | exact Or.inl rfl | exact Or.inr rfl) (zX zic (hr.mono (by decide)) rfl T.zp7 T.zlA.kp T.zpl .nil takes_cx.passes (zb (pv 0) (zb (zz (v := .int 10) rfl T.zsU ⟨_, rfl⟩) zg))))
      (zo (zpI takes_cx.po rfl (zDL rfl T.z_enumerate (zb (zm3 zqN (pv 2) zxB (zlm (zo2 zjx zD))) zg)) (zCV rfl (zqA (ZF (i := 3) zch.nd rfl (by first | exact Or.inl rfl | exact Or.inr rfl)) (zqA (ZF (i := 4) zch.nd rfl (by first | exact Or.inl rfl | exact Or.inr rfl)) zBk))) (zj (zz0 (Wt := wt2) rfl rfl (fun pn xe tk2 => (zj (ZT (zd4 (pv 1) hC hM_take G_take (hr.mono (by decide)) hb_take .nil tk2.passes (zb (pv 4) zg))))) (zA9 (i := 5) takes_cx rfl rfl zch.nd rfl rfl rfl T.zF (fun ea pn xe th20 => (zj (zuo (K := K) rfl th20 rfl (yB T.zth zgH ((hr.mark).mono (by decide)) rfl T.znw T.zgx th20 (zb (pv 3) (zb (zh0 (K := K) rfl (pv 5) rfl) zg))) (pv 5)))) (zz8 takes_cx)))))
      (zj (zz0 (Wt := wt1) rfl rfl (fun pn xe tk1 => (zj (ZT (zd4 (pv 1) hC hM_take_rest G_take_rest (hr.mono (by decide)) hb_take_rest .nil tk1.passes (zb (Zi (zzH (K := K) rfl) (pv 2) (zo2 zjx zD) (fun _ _ => rfl)) zg))))) (zA9 (i := 5) takes_cx rfl rfl zch.nd rfl rfl rfl T.zF (fun ea pn xe th10 => (zj (zuo (K := K) rfl th10 rfl (yB T.zth zgH ((hr.mark).mono (by decide)) rfl T.znw T.zgx th10 (zb (zgI zxb (yL (zvB (K := K) rfl) rfl T.z_len zc1 (zb (pv 2) zg)) zD) (zb (zh0 (K := K) rfl (pv 5) rfl) zg))) (pv 5)))) (zz8 takes_cx)))))), ?_⟩
    refine ⟨_, rfl, l, t, 10, rfl, hS, (by omega), fun H1 p as s1 np fr hp rows => ?_⟩
    have epar := zqC 10 t
    rw [← epar] at rows
    unfold zwo at rows
    have tln := zCC 10 t
    generalize hz : fl 10 t = z at *
    obtain ⟨lines, rest⟩ := z
    dsimp only at rows k hwt1 hwt2 tln
    obtain ⟨ri, x, li, y, eas, eli, hx⟩ := Paired.last rows (by simp)
    obtain ⟨e1, e2⟩ := List.append_inj' eli rfl
    obtain rfl : rest = y := by simpa using e2
    subst e1 eas
    have rows' : Rows H1 ri lines := Rows.init (by have q := Paired.length rows; simpa using q) rows
    have lri : ri.length = lines.length := Paired.length rows'
    have R1 := keep _ _ _ _ _ R0 s1
    have hX1 : ∀ b, H b = none → b ∉ X := fun b e m => hX b m e
    refine ⟨_, rfl, _, rfl, _, rfl, p, _, rfl, SqL.of hp, fun sl nsl => ?_⟩
    rw [List.map_append, List.map_cons, List.map_nil, zCO]
    have s2 : Same H1 (upd H1 sl (.lst (ri.map V.ref))) := (Same.refl _).new nsl
    have hsl : upd H1 sl (.lst (ri.map V.ref)) sl = some (.lst (ri.map V.ref)) := zc
    have nslX : sl ∉ X := hX1 sl (s1.free nsl)
    generalize upd H1 sl (.lst (ri.map V.ref)) = H2 at s2 hsl
    have R2 := keep _ _ _ _ _ R1 s2
    have npX : p ∉ X := hX1 p np
    have stays : ∀ {H' : Hp}, (∀ b o, H2 b = some o → b ∉ X → H' b = some o) → ∀ b o, H b = some o → b ∉ X → H' b = some o := fun f b o e n => f b o (s2 b o (s1 b o e)) n
    have rowX : ∀ q ∈ ri ++ [x], q ∉ X := fun q hq => hX1 q (fr q hq)
    have fail : ∀ {H6 : Hp} {ea d Tb : Addr} {i kk : Nat}, H6 ea = some (xO a.zd true (some d) (.ref Tb) ea) → (∀ b o, H b = some o → b ∉ X → (∀ φ, o ≠ .ext φ) → zec H6 b = some o) → zgD step fin s0 (lines, rest) = .error (i, kk) →
        ∀ xn, H6 xn = none → ∀ (d' q' : Addr) (H7 : Hp), upd H6 xn (xO a.zq true none .none xn) d' = none → upd H6 xn (xO a.zq true none .none xn) q' = none → d' ≠ xn → H7 d' = some (.xd (wfF q' (.int ((i : Nat) : Int)) (.int ((kk : Nat) : Int)))) → H7 q' = some (.lst []) →
          (∀ b, b ≠ xn → b ≠ d' → b ≠ q' → H7 b = upd H6 xn (xO a.zq true none .none xn) b) → E (a.zq, false) (some d') (zec H7) ∧ H7 ea = H6 ea ∧ ea ≠ xn := by
      intro H6 ea d Tb i kk l1 sm er xn hxn d' q' H7 nd nq dxn e2 e3 kp
      rw [er] at k
      have q1 : ea ≠ xn := zi l1 hxn
      have off : ∀ {c : Addr} {o : HO}, H6 c = some o → c ≠ d' ∧ c ≠ q' := fun {c} {o} e => by
        have cx : c ≠ xn := zi e hxn
        constructor
        · intro z
          rw [← z, ze cx, e] at nd
          cases nd
        · intro z
          rw [← z, ze cx, e] at nq
          cases nq
      refine ⟨k false d' q' _ (fun b o e n m => ?_) (zi0 e2 fun φ q => nomatch q) (zi0 e3 fun φ q => nomatch q), ?_, q1⟩
      · have e6 := zfU (sm b o e n m)
        have q1 : b ≠ xn := zi e6 hxn
        refine zi0 ?_ m
        rw [kp b q1 (off e6).1 (off e6).2, ze q1]
        exact e6
      · rw [kp ea q1 (off l1).1 (off l1).2, ze q1]
    refine ⟨sl, _, rfl, SqL.of hsl, zDg (K := K) (a := sl) (xs := ri.map V.ref) (fun i σ H' => ∃ (v3 v4 v5 : Option V) (X' : List Addr) (s : S), σ = [some (.ref l), some (.ref r), some (.ref p), v3, v4, v5] ∧
        Rd H' X' r s ∧ (∀ x ∈ X', x ∈ X ∨ H2 x = none) ∧ (∀ b o, H2 b = some o → b ∉ X → H' b = some o) ∧ zrX step (lines.drop i) i s = zrX step lines 0 s0)
      ⟨none, none, none, X, s0, rfl, R2, fun x hx => .inl hx, fun b o e _ => e, rfl⟩
      (fun i σ H' _ ⟨_, _, _, _, _, _, _, _, f, _⟩ => SqL.of (f _ _ hsl nslX)) ?_ ?_⟩
    · rintro i y σ H' tp hi ⟨v3, v4, v5, X', s, rfl, R3, hX', f, run⟩ ntp
      rw [List.getElem?_map] at hi
      obtain ⟨q, hq, rfl⟩ : ∃ q, ri[i]? = some q ∧ y = .ref q := by
        cases e : ri[i]? with
        | none => rw [e] at hi; cases hi
        | some q => rw [e] at hi; exact ⟨q, rfl, (Option.some.inj hi).symm⟩
      obtain ⟨line, hline, hql⟩ := Paired.get rows' hq
      have lll : line.length ≤ 10000 := by
        have m := (zoa 10 t).2 line (by rw [← epar]; exact List.mem_append_left _ (List.mem_of_getElem? hline))
        omega
      have il : i < lines.length := (List.getElem?_eq_some_iff.mp hline).1
      have ed : lines.drop i = line :: lines.drop (i + 1) := by
        rw [List.drop_eq_getElem_cons il]
        congr 1
        rw [List.getElem?_eq_getElem il] at hline
        exact Option.some.inj hline
      rw [ed, zrX] at run
      refine ⟨tp, _, rfl, .inl (.inl zc), rfl, _, _, rfl, _, _, rfl, rfl, ?_⟩
      have tpne : Same H' (upd H' tp (.tup [.int ((i : Nat) : Int), .ref q])) := (Same.refl _).new ntp
      have R5 := keep _ _ _ _ _ R3 tpne
      have f5 : ∀ b o, H2 b = some o → b ∉ X → upd H' tp (.tup [.int ((i : Nat) : Int), .ref q]) b = some o := fun b o e n => tpne _ _ (f b o e n)
      have qX : q ∉ X := rowX q (List.mem_append_left _ (List.mem_of_getElem? hq))
      have hq2 := s2 _ _ hql
      have hq5 := f5 _ _ hq2 qX
      have qX' : q ∉ X' := fun m => (hX' q m).elim qX fun e => by
        rw [hq2] at e
        cases e
      have fresh : ∀ z, upd H' tp (.tup [.int ((i : Nat) : Int), .ref q]) z = none → z ∈ X ∨ H2 z = none := fun z e => by
        by_cases m : z ∈ X
        · exact .inl m
        · refine .inr ?_
          cases e2 : H2 z with
          | none => rfl
          | some o =>
            rw [f5 z o e2 m] at e
            cases e
      generalize upd H' tp (.tup [.int ((i : Nat) : Int), .ref q]) = H5 at R5 f5 hq5 fresh
      obtain ⟨dx, fs, ob, lk, _⟩ := obj _ _ _ _ R5
      refine ⟨⟨_, rfl, r, dx, fs, rfl, ob, lk, _, rfl, r, q, X', s, line, rfl, R5, hq5, qX', lll, ?_⟩, ?_⟩
      · cases ht : step s line with
        | error e =>
          rw [ht] at run
          intro d H6 sm ek
          rw [hwt2]
          refine ⟨d, i, e, rfl, rfl, ek, rfl, rfl, ?_, fun b o e n m => sm b o (stays f5 b o e n) m⟩
          unfold zgD
          dsimp only
          rw [← run]
        | ok s' =>
          rw [ht] at run
          intro H6 X6 f6 R6 hX6
          exact ⟨_, _, _, X6, s', rfl, R6, fun z hz => (hX6 z hz).elim (hX' z) (fresh z), fun b o e n => f6 b o (f5 b o e n) fun m => (hX' b m).elim n (fun z => by rw [e] at z; cases z), run⟩
      · intro ea C' fr' dx' σ' H6 live wt
        rw [hwt2] at wt
        obtain ⟨d, i', kk, ec, rfl, ed', ls, s3', tot', sm⟩ := wt
        obtain ⟨rfl, rfl⟩ := Prod.mk.inj ec
        have ed2 := zfU ed'
        obtain ⟨Tb, hT, l1, l2⟩ := live
        refine ⟨true, T.Ze, ?_⟩
        rw [if_pos rfl]
        have g3 : (σ'.set 5 (some (.ref ea)))[3]? = some (some (.int ((i' : Nat) : Int))) := by
          rw [List.getElem?_set_ne (by decide)]
          exact s3'
        have g5 : (σ'.set 5 (some (.ref ea)))[5]? = some (some (.ref ea)) := List.getElem?_set_self (by omega)
        refine ⟨_, g3, _, g5, ea, _, true, d, .ref Tb, _, _, rfl, l1, ed2, T.znB, T.ZN, rfl, (by show 2 ≤ 1000; decide), fun xn hxn => ?_⟩
        refine ⟨xn, _, _, true, .none, rfl, zc, fun d' q' H7 nd nq dxn e1 e2 e3 kp => ?_⟩
        obtain ⟨w1, w2, w3⟩ := fail l1 sm tot' xn hxn d' q' H7 nd nq dxn e2 e3 kp
        exact ⟨rfl, _, g5, xn, _, some d', a.zd, some d, .ref Tb, rfl, rfl, Ne.symm w3, e1, w2.trans l1, T.zs6, T.znR, w1⟩
    · rintro σ H' ⟨v3, v4, v5, X', s, rfl, R3, hX', f, run⟩
      rw [List.length_map, lri, List.drop_length, zrX] at run
      have rd : zgD step fin s0 (lines, rest) = match fin s rest with
          | some k => .error (lines.length, k)
          | none => .ok s := by
        unfold zgD
        dsimp only
        rw [← run] <;> rfl
      have hp' := f _ _ (s2 _ _ hp) npX
      have hx' := f _ _ (s2 _ _ hx) (rowX x (by simp))
      have rll : rest.length ≤ 10000 := by
        have m := (zoa 10 t).2 rest (by rw [← epar]; exact List.mem_append_right _ (List.mem_singleton.mpr rfl))
        omega
      obtain ⟨dx, fs, ob, _, lk⟩ := obj _ _ _ _ R3
      refine ⟨⟨_, rfl, r, dx, fs, rfl, ob, lk, _, rfl, _, rfl, p, _, _, .ref x, rfl, rfl, SqL.of hp', (by rw [List.map_append]; exact zif _ _), r, x, X', s, rest, rfl, R3, hx', rll, ?_⟩, ?_⟩
      · cases ht : fin s rest with
        | some e =>
          rw [ht] at rd
          intro d H6 sm ek
          rw [hwt1]
          refine ⟨d, p, _, e, rfl, rfl, ek, rfl, rfl, sm _ _ hp' (fun φ q => nomatch q), ?_, by simp, fun b o e n m => sm b o (stays f b o e n) m⟩
          rw [rd, List.length_map, List.length_append, lri]
          rfl
        | none =>
          rw [ht] at rd
          rw [rd] at k
          intro H6 s6
          refine k H6 X' (fun b o e n => s6 b o (stays f b o e n)) (keep _ _ _ _ _ R3 s6) fun z hz => (hX' z hz).imp_right fun e => s1.free (s2.free e)
      · intro ea C' fr' dx' σ' H6 live wt
        rw [hwt1] at wt
        obtain ⟨d, p', xs, kk, ec, rfl, ed', ls, s2', hp6, tot', x1, sm⟩ := wt
        obtain ⟨rfl, rfl⟩ := Prod.mk.inj ec
        have ed2 := zfU ed'
        have hp7 := zfU hp6
        obtain ⟨Tb, hT, l1, l2⟩ := live
        refine ⟨true, T.Ze, ?_⟩
        rw [if_pos rfl]
        have g2 : (σ'.set 5 (some (.ref ea)))[2]? = some (some (.ref p')) := by
          rw [List.getElem?_set_ne (by decide)]
          exact s2'
        have g5 : (σ'.set 5 (some (.ref ea)))[5]? = some (some (.ref ea)) := List.getElem?_set_self (by omega)
        refine ⟨_, g2, p', xs, rfl, .inl (SqL.of hp7), _, _, rfl, rfl, _, g5, ea, _, true, d, .ref Tb, _, _, rfl, l1, ed2, T.znB, T.ZN, rfl, (by show 2 ≤ 1000; decide), fun xn hxn => ?_⟩
        have ex : V.int ((xs.length - 1 : Nat) : Int) = (fun i j => V.int (i - j)) ((xs.length : Nat) : Int) 1 := congrArg V.int (show ((xs.length - 1 : Nat) : Int) = ((xs.length : Nat) : Int) - 1 by omega)
        refine ⟨xn, .int ((xs.length - 1 : Nat) : Int), _, true, .none, (by rw [ex]), zc, fun d' q' H7 nd nq dxn e1 e2 e3 kp => ?_⟩
        obtain ⟨w1, w2, w3⟩ := fail l1 sm tot' xn hxn d' q' H7 nd nq dxn e2 e3 kp
        exact ⟨rfl, _, g5, xn, _, some d', a.zd, some d, .ref Tb, rfl, rfl, Ne.symm w3, e1, w2.trans l1, T.zs6, T.znR, w1⟩
end
def zGz (K : PySem.W.Frag) (CW CO CF : Addr) : Sp := fun vs H Q E => ∃ (l : Addr) (t : Bd.Bytes), vs = [.ref l] ∧ SqL K H l (iB t) ∧ t.length ≤ 6000 ∧
  match zFw (fl 10 t) with
  | .error e => FailsW CF E H e.1 e.2
  | .ok x => ∀ (H' : Hp) (p : Addr), Same H H' → WallAt CW CO H' p x.1 x.2 → Q (.ref p) H'
section
variable {P : Program} {w : World} {K : PySem.W.Frag} {mg : Str → Option Value} {base : Heap} {a : Ad}
end
end Wb
end
section
set_option Elab.async false
set_option linter.all false
set_option maxRecDepth 100000
set_option maxHeartbeats 4000000
namespace Wb
open PySem PySem.Spec PyProof.Rows L2 Wm
open PySem.W (Codec)
structure zFF (K : PySem.W.Frag) (CR C : Addr) : Prop where
  x : PySem.W.exmOne K (.ref C) (.ref CR) = some true
  D : zty K C
  nn : NoAttr K C "number"
  nt : NoAttr K C "told"
def zGK (K : PySem.W.Frag) (CR : Addr) (N : Nat) (due : List Int) : WX := fun σ c dx m => σ.length = N ∧ ∃ (d q : Addr) (F : List (Str × V)) (n : Int) (ns : List Int), dx = some d ∧ zFF K CR c.1 ∧ m d = some (.xd F) ∧ F.lookup ("number" : Str) = some (.int n) ∧ F.lookup ("told" : Str) = some (.ref q) ∧ m q = some (.lst (ns.map V.int)) ∧ ns.length ≤ 1000 ∧ due = n :: (ns.length : Int) :: (ns ++ [0])
def long (b : Bd.Bytes) : Bool := decide (4096 < b.length)
def zzr (K : PySem.W.Frag) (CT : Addr) : Sp := fun vs H Q E => ∃ (l : Addr) (as : List Addr) (bs : List Bd.Bytes), vs = [.ref l] ∧ H l = some (.lst (as.map V.ref)) ∧ Paired (fun x b => SqL K H x (iB b)) as bs ∧
  if bs.any long = true then FailsN CT (-1) E H else Q .non H
section
variable {P : Program} {w : World} {K : PySem.W.Frag} {mg : Str → Option Value} {base : Heap} {a : Ad}
theorem zuE (T : Txt K mg a) : FnOk P w K mg base (CXo P w) true 4 a.ZQ a.zgd ["rows"] (zzr K a.zK) := by
  have zpd : FnOk P w K mg base (CXo P w) true 2 a.yr a.zbW ["self"] (zz6 a.zK (-1)) := zos T
  refine z9 T.zoG znA (fun vs H Q E h => ?_) (fun cdv A outer s0 H vs Q E hr h => ?_)
  · obtain ⟨l, as, bs, rfl, _⟩ := h
    rfl
  · obtain ⟨l, as, bs, rfl, hl, pr, k⟩ := h
    refine ⟨_, (zj (zpI takes_cx.po rfl (zb4 (pv 0)) (ZF (i := 1) znA.nd rfl (by first | exact Or.inl rfl | exact Or.inr rfl)) (zj (ZD (yl zyS (yL yz rfl T.z_len zc1 (zb (pv 1) zg)) (zz (v := .int 4096) rfl T.zw9 ⟨_, rfl⟩) (yp _)) (zj (yI takes_cx rfl (zCi T.zCg zpd (hr.mono (by decide)) rfl T.zB7 T.zp1 takes_cx))) yD)))), ?_⟩
    have lab : as.length = bs.length := Paired.length pr
    refine ⟨_, rfl, l, rfl, ⟨_, SqL.of hl⟩, zni (K := K) (a := l) (xs := as.map V.ref) (fun i σ H' => ∃ v : Option V, σ = [some (.ref l), v] ∧ H' = H ∧ (bs.take i).any long = false)
      ⟨none, rfl, rfl, rfl⟩ (fun i σ H' _ ⟨_, _, e, _⟩ => by rw [e]; exact SqL.of hl) ?_ ?_⟩
    · rintro i y σ H' hi ⟨v, rfl, rfl, no⟩
      rw [List.getElem?_map] at hi
      obtain ⟨q, hq, rfl⟩ : ∃ q, as[i]? = some q ∧ y = .ref q := by
        cases e : as[i]? with
        | none => rw [e] at hi; cases hi
        | some q => rw [e] at hi; exact ⟨q, rfl, (Option.some.inj hi).symm⟩
      obtain ⟨b, hb, sq⟩ := Paired.get pr hq
      refine ⟨_, rfl, q, _, rfl, .inl sq, _, _, rfl, rfl, _, rfl, ?_⟩
      rw [zf6]
      by_cases z : 4096 < b.length
      · rw [decide_eq_true (show (4096 : Int) < ((b.length : Nat) : Int) by omega)]
        rw [if_pos (List.any_eq_true.mpr ⟨b, List.mem_of_getElem? hb, decide_eq_true z⟩)] at k
        exact Z6 (zAC T.zBI k)
      · rw [decide_eq_false (show ¬ (4096 : Int) < ((b.length : Nat) : Int) by omega)]
        refine zat ⟨_, rfl, rfl, ?_⟩
        rw [ZC hb, List.any_append, no]
        show (decide (4096 < b.length) || false) = false
        rw [decide_eq_false z]
        rfl
    · rintro σ H' ⟨v, rfl, rfl, no⟩
      rw [List.length_map, lab, List.take_length] at no
      rw [if_neg (by rw [no]; decide)] at k
      exact k
end
end Wb
end
section
set_option Elab.async false
set_option linter.all false
set_option maxRecDepth 100000
set_option maxHeartbeats 4000000
namespace Wb
open PySem PySem.Spec PyProof.Rows L2 Wm
open PySem.W (Codec)
theorem zub {σ : L2.St} {H : Hp} {ta tb tc : TE} {i j k : Int} (ha : yT ta σ H (.int i)) (hb : yT tb σ H (.int j)) (hc : yT tc σ H (.int k)) :
    yT (zuM (rI0 fun i j => .bl (decide (i ≤ j))) (rI0 fun i j => .bl (decide (i < j))) ta tb tc) σ H (.bl (decide (i ≤ j) && decide (j < k))) := fun R h => by
  refine ha _ (hb _ ⟨_, _, rfl, rfl, _, rfl, ?_⟩)
  by_cases q : i ≤ j
  · rw [decide_eq_true q] at h ⊢
    exact Z6 (hc _ ⟨_, _, rfl, rfl, by simpa using h⟩)
  · rw [decide_eq_false q] at h ⊢
    exact zat (by simpa using h)
def zAJ (h : List HV) : Prop := ∀ (n : Nat) (x : HV), h[n]? = some x → ∃ line, zaG n line = .ok x
theorem zwm {h h' : List HV} {o o' : List Bd.Opening} {line : Bd.Bytes} (g : zAJ h) (e : zcP h o line = .ok (h', o')) : zAJ h' := by
  unfold zcP at e
  by_cases q : h.length < 6
  · rw [if_pos q] at e
    cases hb : zaG h.length line with
    | error k => rw [hb] at e; cases e
    | ok v =>
      rw [hb] at e
      obtain ⟨rfl, rfl⟩ := Prod.mk.inj (Except.ok.inj e)
      intro n x hx
      by_cases hn : n < h.length
      · rw [List.getElem?_append_left hn] at hx
        exact g n x hx
      · have z := (List.getElem?_eq_some_iff.mp hx).1
        simp at z
        obtain rfl : n = h.length := by omega
        rw [List.getElem?_append_right (Nat.le_refl _), Nat.sub_self] at hx
        obtain rfl : v = x := Option.some.inj hx
        exact ⟨line, hb⟩
  · rw [if_neg q] at e
    cases hb : zdG line (Wm.numAt h 1) (Wm.numAt h 2) o with
    | error k => rw [hb] at e; cases e
    | ok v =>
      rw [hb] at e
      obtain ⟨rfl, rfl⟩ := Prod.mk.inj (Except.ok.inj e)
      exact g
theorem zkn {n : Nat} {line : Bd.Bytes} {x : HV} (h0 : n ≠ 0) (e : zaG n line = .ok x) : ∃ m, x = .num m ∧ (n = 1 → m ≤ 32) ∧ (n = 2 → m ≤ 8) := by
  unfold zaG at e
  generalize zL (Bd.ascii (zpf n)) line = r at e
  match r, e with
  | none, e => cases e
  | some [], e => cases e
  | some (_ :: _ :: _), e => cases e
  | some [z], e =>
    dsimp only at e
    unfold zcT at e
    rw [if_neg h0] at e
    have sz : ∀ {most b : Nat}, zcZ z most = .ok b → b ≤ most := fun {most b} q => by
      unfold zcZ at q
      cases hn : Bd.readNumber z with
      | none => rw [hn] at q; cases q
      | some k =>
        rw [hn] at q
        dsimp only at q
        by_cases w : k < 1 ∨ most < k
        · rw [if_pos w] at q; cases q
        · rw [if_neg w] at q
          obtain rfl := Except.ok.inj q
          omega
    by_cases h1 : n = 1
    · rw [if_pos h1] at e
      cases q : zcZ z 32 with
      | error k => rw [q] at e; cases e
      | ok b => rw [q] at e; exact ⟨b, (Except.ok.inj e).symm, fun _ => sz q, fun w => by omega⟩
    · rw [if_neg h1] at e
      by_cases h2 : n = 2
      · rw [if_pos h2] at e
        cases q : zcZ z 8 with
        | error k => rw [q] at e; cases e
        | ok b => rw [q] at e; exact ⟨b, (Except.ok.inj e).symm, fun w => by omega, fun _ => sz q⟩
      · rw [if_neg h2] at e
        cases q : zix z with
        | none => rw [q] at e; cases e
        | some b => rw [q] at e; exact ⟨b, (Except.ok.inj e).symm, fun w => by omega, fun w => by omega⟩
structure WallIs (CW CO : Addr) (H : Hp) (p : Addr) (dx op : Addr) (v0 : V) (as : List Addr) (w : Bd.Wall) : Prop where
  at_ : H p = some (.ins CW dx (wlF v0 (.int ((w.long : Nat) : Int)) (.int ((w.high : Nat) : Int)) (.int ((w.left : Nat) : Int)) (.int ((w.right : Nat) : Int)) (.int ((w.reveal : Nat) : Int)) (.ref op)))
  op : H op = some (.lst (as.map V.ref))
  os : Ops CO H as w.opens
  l32 : w.long ≤ 32
  h8 : w.high ≤ 8
  o8 : w.opens.length ≤ 1000
theorem WallIs.same {CW CO : Addr} {H H' : Hp} {p dx op : Addr} {v0 : V} {as : List Addr} {w : Bd.Wall} (s : Same H H') (W : WallIs CW CO H p dx op v0 as w) : WallIs CW CO H' p dx op v0 as w := ⟨s _ _ W.at_, s _ _ W.op, Ops.same s W.os, W.l32, W.h8, W.o8⟩
theorem WallAt.is {CW CO : Addr} {H : Hp} {p : Addr} {h : List HV} {os : List Bd.Opening} (W : WallAt CW CO H p h os) (g : zAJ h) (o8 : os.length ≤ 1000) : ∃ dx op v0 as, WallIs CW CO H p dx op v0 as (ziU h os) := by
  obtain ⟨dx, op, v0, v1, v2, v3, v4, v5, as, e, hv, ho, hos⟩ := W
  cases hv with
  | cons a0 t0 => cases t0 with
    | cons a1 t1 => cases t1 with
      | cons a2 t2 => cases t2 with
        | cons a3 t3 => cases t3 with
          | cons a4 t4 => cases t4 with
            | cons a5 t5 =>
              cases t5
              obtain ⟨l1, e1⟩ := g 1 _ rfl
              obtain ⟨m1, rfl, b1, _⟩ := zkn (by decide) e1
              obtain ⟨l2, e2⟩ := g 2 _ rfl
              obtain ⟨m2, rfl, _, b2⟩ := zkn (by decide) e2
              obtain ⟨l3, e3⟩ := g 3 _ rfl
              obtain ⟨m3, rfl, _, _⟩ := zkn (by decide) e3
              obtain ⟨l4, e4⟩ := g 4 _ rfl
              obtain ⟨m4, rfl, _, _⟩ := zkn (by decide) e4
              obtain ⟨l5, e5⟩ := g 5 _ rfl
              obtain ⟨m5, rfl, _, _⟩ := zkn (by decide) e5
              obtain rfl : v1 = .int ((m1 : Nat) : Int) := a1
              obtain rfl : v2 = .int ((m2 : Nat) : Int) := a2
              obtain rfl : v3 = .int ((m3 : Nat) : Int) := a3
              obtain rfl : v4 = .int ((m4 : Nat) : Int) := a4
              obtain rfl : v5 = .int ((m5 : Nat) : Int) := a5
              exact ⟨dx, op, v0, as, e, ho, hos, b1 rfl, b2 rfl, o8⟩
def zzd (C : Addr) : Sp := fun vs H Q _ => ∃ (p : Addr) (o : Bd.Opening) (x y : Nat), vs = [.ref p, .int ((x : Nat) : Int), .int ((y : Nat) : Int)] ∧ OpAt C H p o ∧ Q (.bl (o.has x y)) H
def zzQ (CW CO : Addr) : Sp := fun vs H Q _ => ∃ (p dx op : Addr) (v0 : V) (as : List Addr) (w : Bd.Wall) (x y : Nat), vs = [.ref p, .int ((x : Nat) : Int), .int ((y : Nat) : Int)] ∧ WallIs CW CO H p dx op v0 as w ∧ ∀ H' : Hp, Same H H' → Q (.bl (w.isOpen x y)) H'
def zEm (CW CO : Addr) : Sp := fun vs H Q _ => ∃ (p dx op : Addr) (v0 : V) (as : List Addr) (w : Bd.Wall) (y : Nat), vs = [.ref p, .int ((y : Nat) : Int)] ∧ WallIs CW CO H p dx op v0 as w ∧
  ∀ (H' : Hp) (q : Addr) (ts : List Addr), Same H H' → H q = none → H' q = some (.lst (ts.map V.ref)) → Tups H' ts ((w.stretches y).map pI) → Q (.ref q) H'
theorem Tups.same {H H' : Hp} {as : List Addr} {l : List (List Int)} (s : Same H H') (r : Tups H as l) : Tups H' as l := Paired.mapP r fun _ _ h => s _ _ h
theorem Tups.upd {H : Hp} {z : Addr} {xs ys : List V} {as : List Addr} {l : List (List Int)} (r : Tups H as l) (h : H z = some (.lst xs)) : Tups (upd H z (.lst ys)) as l := Paired.mapP r fun a ms e => by
  rw [ze (zi3 e h (by intro q; cases q))]
  exact e
section
variable {P : Program} {w : World} {K : PySem.W.Frag} {mg : Str → Option Value} {base : Heap} {a : Ad}
theorem zqG (T : Txt K mg a) : FnOk P w K mg base (CXo P w) true 1 a.yP a.zc8 ["self", "place", "course"] (zzd a.zh) := by
  refine z9 T.zrJ zq1 (fun vs H Q E h => ?_) (fun cdv A outer s0 H vs Q E hr h => ?_)
  · obtain ⟨p, o, x, y, rfl, _⟩ := h
    rfl
  · obtain ⟨p, o, x, y, rfl, ⟨dx, hp⟩, k⟩ := h
    refine ⟨_, (zj (yx (ztV (zqB zhm zEs (zw (pv 0) rfl) (pv 1) (zgI zlB (zw (pv 0) rfl) (zw (pv 0) rfl))) (zpc (zqB zhm zEs (zw (pv 0) rfl) (pv 2) (zgI zlB (zw (pv 0) rfl) (zw (pv 0) rfl))))))), ?_⟩
    have fld : ∀ (σ : L2.St) , σ = [some (.ref p), some (.int ((x : Nat) : Int)), some (.int ((y : Nat) : Int))] → yT (zkR K (zjG 0) "x") σ H (.int ((o.x : Nat) : Int)) ∧ yT (zkR K (zjG 0) "y") σ H (.int ((o.y : Nat) : Int)) ∧ yT (zkR K (zjG 0) "wide") σ H (.int ((o.w : Nat) : Int)) ∧ yT (zkR K (zjG 0) "high") σ H (.int ((o.h : Nat) : Int)) := by
      rintro σ rfl
      exact ⟨zdr rfl hp T.ya T.Z3 rfl, zdr rfl hp T.ya T.Z1 rfl, zdr rfl hp T.ya T.Zv rfl, zdr rfl hp T.ya T.Zy rfl⟩
    obtain ⟨f1, f2, f3, f4⟩ := fld [some (.ref p), some (.int ((x : Nat) : Int)), some (.int ((y : Nat) : Int))] rfl
    refine zqZ (zub f1 (zxv rfl) (znD f1 f3)) (zub f2 (zxv rfl) (znD f2 f4)) _ ?_
    have e : ((decide (((o.x : Nat) : Int) ≤ ((x : Nat) : Int)) && decide (((x : Nat) : Int) < ((o.x : Nat) : Int) + ((o.w : Nat) : Int))) && (decide (((o.y : Nat) : Int) ≤ ((y : Nat) : Int)) && decide (((y : Nat) : Int) < ((o.y : Nat) : Int) + ((o.h : Nat) : Int)))) = o.has x y := by
      unfold Bd.Opening.has
      rw [Bool.eq_iff_iff]
      simp only [Bool.and_eq_true, decide_eq_true_eq]
      omega
    rw [e]
    exact k
theorem zto (T : Txt K mg a) : FnOk P w K mg base (CXo P w) true 2 a.Zj a.zfa ["self", "place", "course"] (zzQ a.zS a.zh) := by
  have zsn : FnOk P w K mg base (CXo P w) true 1 a.yP a.zc8 ["self", "place", "course"] (zzd a.zh) := zqG T
  refine z9 T.zuC zgP (fun vs H Q E h => ?_) (fun cdv A outer s0 H vs Q E hr h => ?_)
  · obtain ⟨p, dx, op, v0, as, wl, x, y, rfl, _⟩ := h
    rfl
  · obtain ⟨p, dx, op, v0, as, wl, x, y, rfl, W, k⟩ := h
    have zl := szl
    refine ⟨_, (zj (yx (yL (zAr rfl) rfl T.z_any zzW (zb (zzk (own := [("opening", 3)]) rfl zgP.nd (zb4 (zw (pv 0) rfl)) (by show ze5 ["self", "place", "course", "opening"] (za yV) _ [("opening", 3)]; exact ⟨rfl, by decide +kernel, by decide +kernel, by decide +kernel, by decide +kernel⟩) (fun s H C cl fp => (ZF (i := 3) zgP.nd rfl (by first | exact Or.inl rfl | exact Or.inr rfl))) (fun s H C cl fp => zdh) (fun s H C cl fp => (zd4 (pv 3) T.ya T.zsp zsn (hr.mono (by decide)) T.zsE .nil zFC (zb (pv 1) (zb (pv 2) zg))))) zg)))), ?_⟩
    refine ⟨_, rfl, p, _, dx, _, _, rfl, W.at_, T.zc5, T.za0, rfl, op, rfl, ⟨_, SqL.of W.op⟩, fun D2 hD2 => ?_⟩
    have s6 : ∀ ys, Same H (upd H D2 (.lst ys)) := fun ys => (Same.refl _).new hD2
    refine zho (K := K) (a := op) (xs := as.map V.ref) (fun i H' => H' = upd H D2 (.lst ((wl.opens.take i).map fun u => V.bl (u.has x y)))) rfl (fun i H' _ e => by rw [e]; exact SqL.of (s6 _ _ _ W.op)) ?_ ?_
    · rintro i v H' hi rfl
      rw [List.getElem?_map] at hi
      obtain ⟨f, hfi, rfl⟩ : ∃ f, as[i]? = some f ∧ v = .ref f := by
        cases e : as[i]? with
        | none => rw [e] at hi; cases hi
        | some f => rw [e] at hi; exact ⟨f, rfl, (Option.some.inj hi).symm⟩
      obtain ⟨u, hu, df, hf⟩ := Paired.get W.os hfi
      have hf' := s6 ((wl.opens.take i).map fun u => V.bl (u.has x y)) _ _ hf
      refine ⟨rfl, _, rfl, f, df, _, rfl, hf', rfl, _, rfl, _, rfl, f, u, x, y, rfl, ⟨df, hf'⟩, ?_⟩
      have lo := W.o8
      refine ⟨_, zc, (by rw [List.length_map, List.length_take]; omega), ?_⟩
      rw [zap, ZC hu, List.map_append]
      rfl
    · rintro H6 rfl
      rw [List.length_map, Paired.length W.os, List.take_length]
      refine ⟨D2, wl.opens.map fun u => u.has x y, rfl, SqL.of (by rw [zc, List.map_map]; rfl), ?_⟩
      rw [← zAO]
      exact k _ (s6 _)
end
end Wb
end
section
set_option Elab.async false
set_option linter.all false
set_option maxRecDepth 100000
set_option maxHeartbeats 4000000
namespace Wb
open PySem PySem.Spec PyProof.Rows L2 Wm
open PySem.W (Codec)
theorem zE4 {l : List V} {n : Nat} : zqT l none (some ((n : Nat) : Int)) = l.take n := by
  unfold zqT
  have e : HT.sIx l.length l.length (some ((n : Nat) : Int)) = min n l.length := HT.sIx_nat _ _ _
  rw [e]
  show (l.drop 0).take (min n l.length - 0) = _
  rw [List.drop_zero, Nat.sub_zero]
  by_cases h : n ≤ l.length
  · rw [Nat.min_eq_left h]
  · rw [Nat.min_eq_right (by omega), List.take_length, List.take_of_length_le (by omega)]
theorem zD5 (b : Bd.Bytes) (n : Nat) : (iB b).take n = iB (b.take n) := by
  unfold iB
  rw [List.map_take]
def zvb (K : PySem.W.Frag) : Sp := fun vs H Q _ => ∃ (l : Addr) (z : Str) (line wd : Bd.Bytes), vs = [.ref l, .str z] ∧ z.cps.toList = wd.map (·.toNat) ∧ wd.length < 1000 ∧ SqL K H l (iB line) ∧
  ∀ H' : Hp, Same H H' → Q (.bl (decide (line.take wd.length = wd))) H'
def zzL (K : PySem.W.Frag) : Sp := fun vs H Q _ => ∃ (l : Addr) (as : List Addr) (bs : List Bd.Bytes), vs = [.ref l] ∧ H l = some (.lst (as.map V.ref)) ∧ Rows H as bs ∧ (bs.flatMap fun b => b ++ [10]).length ≤ 100000 ∧
  ∀ (H' : Hp) (p : Addr), Same H H' → H p = none → H' p = some (.lst (iB (bs.flatMap fun b => b ++ [10]))) → Q (.ref p) H'
section
variable {P : Program} {w : World} {K : PySem.W.Frag} {mg : Str → Option Value} {base : Heap} {a : Ad}
theorem znK (T : Txt K mg a) : FnOk P w K mg base (CXo P w) true 2 a.Zu a.zdC ["line", "start"] (zvb K) := by
  have zbQ : FnOk P w K mg base (CXo P w) true 1 a.ZO a.zcQ ["word"] zhN := zgC T
  refine z9 T.zgk zuw (fun vs H Q E h => ?_) (fun cdv A outer s0 H vs Q E hr h => ?_)
  · obtain ⟨l, z, line, wd, rfl, _⟩ := h
    rfl
  · obtain ⟨l, z, line, wd, rfl, hw, hwl, hS, k⟩ := h
    have zl := szl
    have zlen : z.length = wd.length := by
      have e : z.cps.toList.length = wd.length := by rw [hw, List.length_map]
      rw [← e]
      show z.cps.size = _
      exact Array.length_toList.symm
    refine ⟨_, (zj (yx (zcK (zAQ hr.units) (zm3 zqN (pv 0) zxB (zlm (yL zxy rfl T.z_len zc1 (zb (pv 1) zg)))) (zX zbQ (hr.mono (by decide)) rfl T.zhW T.zf5.kp T.zis .nil takes_cx.passes (zb (pv 1) zg)) (yp _)))), ?_⟩
    refine ⟨_, rfl, _, rfl, z, rfl, (by omega), _, rfl, l, _, rfl, hS, fun sl nsl => ?_⟩
    rw [zlen, zE4, zD5]
    have s1 : Same H (upd H sl (.lst (iB (line.take wd.length)))) := (Same.refl _).new nsl
    have h1 : upd H sl (.lst (iB (line.take wd.length))) sl = some (.lst (iB (line.take wd.length))) := zc
    generalize upd H sl (.lst (iB (line.take wd.length))) = H1 at s1 h1
    refine ⟨_, rfl, z, rfl, (by rw [hw, List.length_map]; exact hwl), fun H2 p2 s2 n2 e2 => ?_⟩
    have ez : (z.cps.toList.map fun n => V.int ((n : Nat) : Int)) = iB wd := by
      rw [hw, List.map_map]
      rfl
    rw [ez] at e2
    refine ⟨_, _, zmq (SqL.of (s2 _ _ h1)), zmq (SqL.of e2), zac _, zac _, ?_⟩
    rw [zrZ]
    exact k _ (s1.trans s2)
theorem ztK (T : Txt K mg a) : FnOk P w K mg base (CXo P w) true 1 a.Zw a.ze3 ["lines"] (zzL K) := by
  refine z9 T.zns zg2 (fun vs H Q E h => ?_) (fun cdv A outer s0 H vs Q E hr h => ?_)
  · obtain ⟨l, as, bs, rfl, _⟩ := h
    rfl
  · obtain ⟨l, as, bs, rfl, hl, rows, tot, k⟩ := h
    have zl := szl
    have lab : as.length = bs.length := Paired.length rows
    have part : ∀ i, ((bs.take i).flatMap fun b => b ++ [10]).length ≤ (bs.flatMap fun b => b ++ [10]).length := fun i => by
      conv => rhs; rw [← List.take_append_drop i bs, List.flatMap_append, List.length_append]
      omega
    refine ⟨_, (zo (zai (i := 1) zg2.nd rfl (by first | exact Or.inl rfl | exact Or.inr rfl) (Zd zg))
      (zo (zpI takes_cx.po rfl (zb4 (pv 0)) (ZF (i := 2) zg2.nd rfl (by first | exact Or.inl rfl | exact Or.inr rfl)) (zo (ZT (zmb PySem.F.plainAttrs_list PySem.F.slot_list_extend PySem.F.type_list_extend zwS (pv 1) (zb (pv 2) zg)))
      (zj (ZT (zmb PySem.F.plainAttrs_list PySem.F.slot_list_append PySem.F.type_list_append zeD (pv 1) (zb (zz (v := .int 10) rfl T.zsU ⟨_, rfl⟩) zg))))))
      (zj (yx (pv 1))))), ?_⟩
    refine ⟨Nat.zero_le _, fun p np => ?_⟩
    have s1 : Same H (upd H p (.lst [])) := (Same.refl _).new np
    refine ⟨_, rfl, l, rfl, ⟨_, SqL.of (s1 _ _ hl)⟩, zni (K := K) (a := l) (xs := as.map V.ref) (fun i σ H' => ∃ v : Option V, σ = [some (.ref l), some (.ref p), v] ∧ Same H H' ∧ H' p = some (.lst (iB ((bs.take i).flatMap fun b => b ++ [10]))))
      ⟨none, rfl, s1, zc⟩ (fun i σ H' _ ⟨_, _, s, _⟩ => SqL.of (s _ _ hl)) ?_ ?_⟩
    · rintro i y σ H' hi ⟨v, rfl, s2, hp⟩
      rw [List.getElem?_map] at hi
      obtain ⟨q, hq, rfl⟩ : ∃ q, as[i]? = some q ∧ y = .ref q := by
        cases e : as[i]? with
        | none => rw [e] at hi; cases hi
        | some q => rw [e] at hi; exact ⟨q, rfl, (Option.some.inj hi).symm⟩
      obtain ⟨b, hb, hqb⟩ := Paired.get rows hq
      have ti : ((bs.take (i + 1)).flatMap fun b => b ++ [10]) = ((bs.take i).flatMap fun b => b ++ [10]) ++ (b ++ [10]) := by
        rw [ZC hb, List.flatMap_append]
        simp
      have tl := part (i + 1)
      rw [ti, List.length_append, List.length_append] at tl
      have tl' : ((bs.take i).flatMap fun b => b ++ [10]).length + (b.length + 1) ≤ (bs.flatMap fun b => b ++ [10]).length := tl
      refine ⟨_, rfl, .inl ⟨rfl, _, SqL.of hp⟩, _, rfl, p, q, _, _, rfl, rfl, hp, s2 _ _ hqb, (by rw [zf6, zf6]; omega), ?_⟩
      refine ⟨_, rfl, .inl ⟨rfl, _, SqL.of zc⟩, p, _, _, rfl, rfl, zc, (by rw [List.length_append, zf6, zf6]; omega), ?_⟩
      refine ⟨_, rfl, (s2.set np).set np, ?_⟩
      rw [zc, ti]
      unfold iB
      rw [List.map_append, List.map_append]
      simp
    · rintro σ H' ⟨v, rfl, s2, hp⟩
      rw [List.length_map, lab, List.take_length] at hp
      exact ⟨_, rfl, k _ p s2 np hp⟩
end
end Wb
end
section
set_option Elab.async false
set_option linter.all false
set_option maxRecDepth 100000
set_option maxHeartbeats 4000000
namespace Wb
open PySem PySem.Spec PyProof.Rows L2 Wm
open PySem.W (Codec)
def crF (t1 t2 : Addr) : List (Str × V) := [("first", .ref t1), ("second", .ref t2)]
def eI (a e : Nat) : List Int := [((a : Nat) : Int), ((e : Nat) : Int)]
def CrT (C : Addr) (H : Hp) (q dx t1 t2 : Addr) (k : Bd.Corner) : Prop := H q = some (.ins C dx (crF t1 t2)) ∧ H t1 = some (.tup ((eI k.a k.ea).map V.int)) ∧ H t2 = some (.tup ((eI k.c k.ec).map V.int))
def CrAt (C : Addr) (H : Hp) (q : Addr) (k : Bd.Corner) : Prop := ∃ dx t1 t2, CrT C H q dx t1 t2 k
theorem CrAt.same {C : Addr} {H H' : Hp} {q : Addr} {k : Bd.Corner} (s : Same H H') (h : CrAt C H q k) : CrAt C H' q k := let ⟨dx, t1, t2, e1, e2, e3⟩ := h; ⟨dx, t1, t2, s _ _ e1, s _ _ e2, s _ _ e3⟩
abbrev Crs (C : Addr) (H : Hp) : List Addr → List Bd.Corner → Prop := Paired (CrAt C H)
theorem Crs.same {C : Addr} {H H' : Hp} {as : List Addr} {l : List Bd.Corner} (s : Same H H') (r : Crs C H as l) : Crs C H' as l := Paired.mapP r fun _ _ h => h.same s
abbrev Walls (CW CO : Addr) (H : Hp) : List Addr → List Bd.Wall → Prop := Paired fun p w => ∃ dx op v0 as, WallIs CW CO H p dx op v0 as w ∧ ∃ q, v0 = .ref q ∧ H q = some (.lst (iB w.name))
theorem Walls.same {CW CO : Addr} {H H' : Hp} {as : List Addr} {l : List Bd.Wall} (s : Same H H') (r : Walls CW CO H as l) : Walls CW CO H' as l := Paired.mapP r fun _ _ ⟨dx, op, v0, bs, W, q, e, h⟩ => ⟨dx, op, v0, bs, W.same s, q, e, s _ _ h⟩
def zfZ (l : List Bd.Corner) : List (List Int) := l.flatMap fun k => [eI k.a k.ea, eI k.c k.ec]
theorem zz3 (l : List Bd.Corner) : (zfZ l).length = 2 * l.length := by
  unfold zfZ
  induction l with
  | nil => rfl
  | cons k l ih =>
    rw [List.flatMap_cons, List.length_append, ih]
    show 2 + 2 * l.length = 2 * (l.length + 1)
    omega
theorem zEv {a e b f : Nat} : eI a e = eI b f ↔ a = b ∧ e = f := by
  unfold eI
  constructor
  · intro h
    have h1 := List.cons.inj h
    have h2 := List.cons.inj h1.2
    exact ⟨by omega, by omega⟩
  · rintro ⟨rfl, rfl⟩
    rfl
theorem zpK (l : List Bd.Corner) (a e : Nat) : (zfZ l).contains (eI a e) = l.any fun m => m.uses a e := by
  rw [Bool.eq_iff_iff, List.contains_iff_mem, List.any_eq_true]
  unfold zfZ
  rw [List.mem_flatMap]
  refine exists_congr fun k => and_congr_right fun _ => ?_
  unfold Bd.Corner.uses
  simp only [List.mem_cons, List.mem_nil_iff, or_false, zEv, Bool.or_eq_true, Bool.and_eq_true, beq_iff_eq]
  constructor
  · rintro (⟨h1, h2⟩ | ⟨h1, h2⟩)
    · exact .inl ⟨h1.symm, h2.symm⟩
    · exact .inr ⟨h1.symm, h2.symm⟩
  · rintro (⟨h1, h2⟩ | ⟨h1, h2⟩)
    · exact .inl ⟨h1.symm, h2.symm⟩
    · exact .inr ⟨h1.symm, h2.symm⟩
def zzP (C : Addr) : Sp := fun vs H Q _ => ∃ (p dx : Addr) (v0 v1 : V), vs = [.ref p, v0, v1] ∧ H p = some (.ins C dx []) ∧
  ∀ H' : Hp, H' p = some (.ins C dx [("first", v0), ("second", v1)]) → (∀ b, b ≠ p → H' b = H b) → Q .non H'
def zul (walls : List Bd.Wall) (n e : Bd.Bytes) : Option (Nat × Nat) := match walls.findIdx? (fun (v : Bd.Wall) => v.name == n), Bd.sideIn e with
  | some a, some ea => some (a, ea)
  | _, _ => none
def zwJ (CW CO CL : Addr) : Sp := fun vs H Q E => ∃ (l wl f1 f2 : Addr) (ws : List Addr) (walls : List Bd.Wall) (n e : Bd.Bytes), vs = [.ref l, .ref wl] ∧ H l = some (.lst [.ref f1, .ref f2]) ∧ H f1 = some (.lst (iB n)) ∧ H f2 = some (.lst (iB e)) ∧
  H wl = some (.lst (ws.map V.ref)) ∧ Walls CW CO H ws walls ∧ walls.length ≤ 4 ∧
  match zul walls n e with
  | none => Fails CL E H 8
  | some z => ∀ (H' : Hp) (t : Addr), Same H H' → H' t = some (.tup ((eI z.1 z.2).map V.int)) → Q (.ref t) H'
def zzT (K : PySem.W.Frag) (CW CO CC CL : Addr) : Sp := fun vs H Q E => ∃ (l wl : Addr) (line : Bd.Bytes) (ws : List Addr) (walls : List Bd.Wall), vs = [.ref l, .ref wl] ∧ SqL K H l (iB line) ∧ line.length ≤ 10000 ∧
  H wl = some (.lst (ws.map V.ref)) ∧ Walls CW CO H ws walls ∧ walls.length ≤ 4 ∧
  match Bd.cornerIn walls line with
  | none => Fails CL E H 8
  | some k => ∀ (H' : Hp) (p : Addr), Same H H' → CrAt CC H' p k → Q (.ref p) H'
def zBh (CC : Addr) : Sp := fun vs H Q _ => ∃ (l : Addr) (ks : List Addr) (cs : List Bd.Corner), vs = [.ref l] ∧ H l = some (.lst (ks.map V.ref)) ∧ Crs CC H ks cs ∧ cs.length ≤ 100 ∧
  ∀ (H' : Hp) (p : Addr) (ts : List Addr), Same H H' → H' p = some (.lst (ts.map V.ref)) → Tups H' ts (zfZ cs) → Q (.ref p) H'
def zA0 (CW CO : Addr) : Sp := fun vs H Q _ => ∃ (p dx op : Addr) (v0 : V) (as : List Addr) (w : Bd.Wall) (e : Nat), vs = [.ref p, .int ((e : Nat) : Int)] ∧ WallIs CW CO H p dx op v0 as w ∧ Q (.int ((w.endOf e : Nat) : Int)) H
def zlP (w : Bd.Wall) (e : Nat) : Nat := if e = 0 then 0 else w.long - 1
def zwv (CW CO : Addr) : Sp := fun vs H Q _ => ∃ (p dx op : Addr) (v0 : V) (as : List Addr) (w : Bd.Wall) (e : Nat), vs = [.ref p, .int ((e : Nat) : Int)] ∧ WallIs CW CO H p dx op v0 as w ∧ 1 ≤ w.long ∧ Q (.int ((zlP w e : Nat) : Int)) H
def zr9 (walls : List Bd.Wall) (l : List Bd.Corner) (i e : Nat) : Bool := match walls[i]? with
  | none => false
  | some w => w.solidAt e && zkQ walls l i e
def zEl (CW CO : Addr) : Sp := fun vs H Q _ => ∃ (t wl tl : Addr) (ws ts : List Addr) (walls : List Bd.Wall) (cs : List Bd.Corner) (i e : Nat), vs = [.ref t, .ref wl, .ref tl] ∧ H t = some (.tup ((eI i e).map V.int)) ∧ H wl = some (.lst (ws.map V.ref)) ∧ Walls CW CO H ws walls ∧
  H tl = some (.lst (ts.map V.ref)) ∧ Tups H ts (zfZ cs) ∧ i < walls.length ∧ e ≤ 1 ∧ (∀ w ∈ walls, 1 ≤ w.long) ∧ ∀ H' : Hp, Same H H' → Q (.bl (zr9 walls cs i e)) H'
def goB (walls : List Bd.Wall) (l : List Bd.Corner) (k : Bd.Corner) : Bool := match walls[k.a]?, walls[k.c]? with
  | some v, some w => v.high == w.high && (((v.endOf k.ea == 1 && w.endOf k.ec == 2) || (v.endOf k.ea == 2 && w.endOf k.ec == 1)) && (zr9 walls l k.a k.ea && zr9 walls l k.c k.ec))
  | _, _ => false
def zFI (CW CO CC : Addr) : Sp := fun vs H Q _ => ∃ (p wl tl : Addr) (ws ts : List Addr) (walls : List Bd.Wall) (cs : List Bd.Corner) (k : Bd.Corner), vs = [.ref p, .ref wl, .ref tl] ∧ CrAt CC H p k ∧ H wl = some (.lst (ws.map V.ref)) ∧ Walls CW CO H ws walls ∧
  H tl = some (.lst (ts.map V.ref)) ∧ Tups H ts (zfZ cs) ∧ k.a < walls.length ∧ k.c < walls.length ∧ k.ea ≤ 1 ∧ k.ec ≤ 1 ∧ (∀ w ∈ walls, 1 ≤ w.long) ∧ ∀ H' : Hp, Same H H' → Q (.bl (goB walls cs k)) H'
def zuD (K : PySem.W.Frag) (CW CO CC CL : Addr) : Sp := fun vs H Q E => ∃ (l wl bl : Addr) (line : Bd.Bytes) (ws ks : List Addr) (walls : List Bd.Wall) (cs : List Bd.Corner), vs = [.ref l, .ref wl, .ref bl] ∧ SqL K H l (iB line) ∧ line.length ≤ 10000 ∧
  H wl = some (.lst (ws.map V.ref)) ∧ Walls CW CO H ws walls ∧ walls.length ≤ 4 ∧ (∀ w ∈ walls, 1 ≤ w.long) ∧ H bl = some (.lst (ks.map V.ref)) ∧ Crs CC H ks cs ∧ cs.length ≤ 8 ∧ Bd.longEnough walls cs = true ∧
  match zhC walls cs line with
  | .error k => Fails CL E H k
  | .ok k => ∀ (H' : Hp) (p : Addr), Same H H' → CrAt CC H' p k → Q (.ref p) H'
theorem zwy {α : Type} (p : α → Bool) (f : α → List Int) (y : List Int) (hp : ∀ v, p v = true ↔ f v = y) (l : List α) : match l.findIdx? p with
    | none => (l.map f).contains y = false
    | some a => (l.map f).contains y = true ∧ (l.map f)[a]? = some y ∧ ∀ m, m < a → (l.map f)[m]? ≠ some y := by
  cases h : l.findIdx? p with
  | none =>
    rw [List.findIdx?_eq_none_iff] at h
    rw [Bool.eq_false_iff]
    intro z
    rw [List.contains_iff_mem, List.mem_map] at z
    obtain ⟨v, hv, e⟩ := z
    have := h v hv
    rw [(hp v).mpr e] at this
    cases this
  | some a =>
    rw [List.findIdx?_eq_some_iff_getElem] at h
    obtain ⟨hl, h1, h2⟩ := h
    have e : (l.map f)[a]? = some y := by rw [List.getElem?_map, List.getElem?_eq_getElem hl, Option.map_some, (hp _).mp h1]
    refine ⟨?_, e, fun m hm z => ?_⟩
    · rw [List.contains_iff_mem]
      exact List.mem_of_getElem? e
    · have hml : m < l.length := by omega
      rw [List.getElem?_map, List.getElem?_eq_getElem hml, Option.map_some] at z
      have := h2 m hm
      exact absurd ((hp _).mpr (Option.some.inj z)) this
def endNames : List Bd.Bytes := [Bd.ascii "left", Bd.ascii "right"]
theorem zDp (e : Bd.Bytes) : Bd.sideIn e = endNames.findIdx? fun w => w == e := by
  unfold Bd.sideIn endNames
  rw [List.findIdx?_cons, List.findIdx?_cons]
  by_cases h1 : e = Bd.ascii "left"
  · rw [if_pos h1, if_pos (by rw [h1]; exact beq_self_eq_true _)]
  · rw [if_neg h1, if_neg (fun z => h1 (beq_iff_eq.mp z).symm)]
    by_cases h2 : e = Bd.ascii "right"
    · rw [if_pos h2, if_pos (by rw [h2]; exact beq_self_eq_true _)]
      rfl
    · rw [if_neg h2, if_neg (fun z => h2 (beq_iff_eq.mp z).symm)]
      rfl
theorem Lsts.same {H H' : Hp} {as : List Addr} {l : List (List Int)} (s : Same H H') (r : Lsts H as l) : Lsts H' as l := Paired.mapP r fun _ _ h => s _ _ h
theorem Lsts.upd {H : Hp} {z : Addr} {o : HO} : ∀ {as : List Addr} {l : List (List Int)}, Lsts H as l → z ∉ as → Lsts (upd H z o) as l
  | _, _, .nil, _ => .nil
  | _, _, .cons h t, n => .cons (by rw [ze (fun q => n (by simp [q]))]; exact h) (Lsts.upd t fun q => n (by simp [q]))
section
variable {P : Program} {w : World} {K : PySem.W.Frag} {mg : Str → Option Value} {base : Heap} {a : Ad}
theorem zpx (T : Txt K mg a) : FnOk P w K mg base (CXo P w) true 1 a.yE a.zcC ["self", "first", "second"] (zzP a.zB) := by
  refine z9 T.zq8 zpG (fun vs H Q E h => ?_) (fun cdv A outer s0 H vs Q E hr h => ?_)
  · obtain ⟨p, dx, v0, v1, rfl, _⟩ := h
    rfl
  · obtain ⟨p, dx, v0, v1, rfl, hp, k⟩ := h
    refine ⟨_, (zo (zbo (pv 0) (pv 1) rfl)
      (zj (zbo (pv 0) (pv 2) rfl))), ?_⟩
    refine ⟨_, rfl, _, rfl, p, _, dx, _, rfl, hp, T.zak, T.yC, (by show 0 < 1000; decide), ?_⟩
    refine ⟨_, rfl, _, rfl, p, _, dx, _, rfl, zc, T.zak, T.yM, (by show 1 < 1000; decide), ?_⟩
    rw [zap]
    exact k _ zc fun b hb => ze hb
theorem zzI (T : Txt K mg a) : FnOk P w K mg base (CXo P w) true 3 a.zb1 a.zlL ["fields", "walls"] (zwJ a.zS a.zh a.zd) := by
  have zf : FnOk P w K mg base (CXo P w) true 1 a.zv a.zy ["self", "kind"] (zft a.zd "kind") := zJ T
  have zbQ : FnOk P w K mg base (CXo P w) true 1 a.ZO a.zcQ ["word"] zhN := zgC T
  refine z9 T.zpw zgJ (fun vs H Q E h => ?_) (fun cdv A outer s0 H vs Q E hr h => ?_)
  · obtain ⟨l, wl, f1, f2, ws, walls, n, e, rfl, _⟩ := h
    rfl
  · obtain ⟨l, wl, f1, f2, ws, walls, n, e, rfl, hl, h1, h2, hw, wls, w4, k⟩ := h
    have zl := szl
    have lws : ws.length = walls.length := Paired.length wls
    refine ⟨_, (zo (zn8 (i := 2) takes_cx rfl rfl (own := [("wall", 3)]) rfl zgJ.nd rfl rfl rfl (zb4 (pv 1)) (by show ze5 ["fields", "walls", "names", "wall", "words", "word"] (za zah) _ [("wall", 3)]; exact ⟨rfl, by decide +kernel, by decide +kernel, by decide +kernel, by decide +kernel⟩) (fun s H C cl fp xe tk => (ZF (i := 3) zgJ.nd rfl (by first | exact Or.inl rfl | exact Or.inr rfl))) (fun s H C cl fp xe tk => zdh) (fun s H C cl fp xe tk => (zq2 (K := K) rfl (pv 3) rfl)))
      (zo (zn8 (i := 4) takes_cx rfl rfl (own := [("word", 5)]) rfl zgJ.nd rfl rfl rfl (zER (zz (v := .ref a.ZU) rfl T.zvQ rfl)) (by show ze5 ["fields", "walls", "names", "wall", "words", "word"] (za zah) _ [("word", 5)]; exact ⟨rfl, by decide +kernel, by decide +kernel, by decide +kernel, by decide +kernel⟩) (fun s H C cl fp xe tk => (ZF (i := 5) zgJ.nd rfl (by first | exact Or.inl rfl | exact Or.inr rfl))) (fun s H C cl fp xe tk => zdh) (fun s H C cl fp xe tk => (zX zbQ (hr.mono (by decide)) rfl T.zhW T.zf5.kp T.zis .nil tk.passes (zb (pv 5) zg))))
      (zo (ZD (PW.pt (zwE (yl (zoV hr.units) (Zi yJ (pv 0) zD (fun _ _ => rfl)) (pv 2) rfl) (zrV (yl (zoV hr.units) (Zi yJ (pv 0) zD (fun _ _ => rfl)) (pv 4) rfl)))) (zj (yI takes_cx rfl (yB T.zM zf (hr.mono (by decide)) rfl T.zF T.zr takes_cx (zb (zz (v := .int 8) rfl T.zi2 ⟨_, rfl⟩) zg)))) yD)
      (zj (yx (zya (zb (zmb PySem.F.plainAttrs_list PySem.F.slot_list_index PySem.F.type_list_index (zwk hr.units) (pv 2) (zb (Zi yJ (pv 0) zD (fun _ _ => rfl)) zg)) (zb (zmb PySem.F.plainAttrs_list PySem.F.slot_list_index PySem.F.type_list_index (zwk hr.units) (pv 4) (zb (Zi yJ (pv 0) zD (fun _ _ => rfl)) zg)) zg)))))))), ?_⟩
    refine ⟨_, rfl, wl, rfl, ⟨_, SqL.of hw⟩, fun Dn hDn => zho (K := K) (a := wl) (xs := ws.map V.ref) (fun i H' => ∃ qs : List Addr, Same H H' ∧ H' Dn = some (.lst (qs.map V.ref)) ∧ Lsts H qs ((walls.take i).map fun v => jB v.name))
      ⟨[], (Same.refl _).new hDn, zc, .nil⟩ (fun i H' _ ⟨_, s, _⟩ => SqL.of (s _ _ hw)) ?_ ?_⟩
    · rintro i v H' hi ⟨qs, s1, hD, ls⟩
      rw [List.getElem?_map] at hi
      obtain ⟨f, hfi, rfl⟩ : ∃ f, ws[i]? = some f ∧ v = .ref f := by
        cases e : ws[i]? with
        | none => rw [e] at hi; cases hi
        | some f => rw [e] at hi; exact ⟨f, rfl, (Option.some.inj hi).symm⟩
      obtain ⟨u, hu, dx, op, v0, as, W, q, rfl, hq⟩ := Paired.get wls hfi
      have W1 := W.same s1
      have lq := Paired.length ls
      rw [List.length_map, List.length_take] at lq
      refine ⟨rfl, _, rfl, f, _, dx, _, _, rfl, W1.at_, T.zc5, T.zeq, rfl, _, hD, (by rw [List.length_map]; omega), qs ++ [q], s1.set hDn, ?_, ?_⟩
      · rw [zc, List.map_append]
        rfl
      · rw [ZC hu, List.map_append]
        refine Paired.snoc ls ?_
        rw [hq, zuA]
    · rintro H1 ⟨qs, s1, hD, ls⟩
      rw [List.length_map, lws, List.take_length] at ls
      have ls1 := Lsts.same s1 ls
      refine ⟨a.ZU, rfl, ⟨_, T.zoY _⟩, fun Dw hDw => zE3 (K := K) (a := a.ZU) (xs := [.str "left", .str "right"]) (fun i H' => ∃ us : List Addr, Same H1 H' ∧ H' Dw = some (.lst (us.map V.ref)) ∧ Lsts H' us ((endNames.take i).map jB) ∧ Dw ∉ us)
        ⟨[], (Same.refl _).new hDw, zc, .nil, by simp⟩ (fun i H' _ _ => T.zoY _) ?_ ?_⟩
      · rintro i v H' hi ⟨us, s2, hW, lu, nu⟩
        obtain ⟨z, b, rfl, hz, hb, bl⟩ : ∃ (z : Str) (b : Bd.Bytes), v = .str z ∧ z.cps.toList = b.map (·.toNat) ∧ endNames[i]? = some b ∧ b.length < 1000 := by
          match i, hi with
          | 0, hi => exact ⟨_, _, (Option.some.inj hi).symm, by decide, rfl, by decide⟩
          | 1, hi => exact ⟨_, _, (Option.some.inj hi).symm, by decide, rfl, by decide⟩
          | i + 2, hi => simp at hi
        refine ⟨rfl, _, rfl, z, rfl, (by rw [hz, List.length_map]; exact bl), fun H2 p2 s3 n2 e2 => ?_⟩
        have ez : (z.cps.toList.map fun n => V.int ((n : Nat) : Int)) = (jB b).map V.int := by
          rw [hz, List.map_map, ← zuA]
          rfl
        rw [ez] at e2
        have lu2 := Paired.length lu
        rw [List.length_map, List.length_take] at lu2
        have l2 : endNames.length = 2 := rfl
        have hW2 := s3 _ _ hW
        have pd : Dw ≠ p2 := zi hW n2
        refine ⟨_, hW2, (by rw [List.length_map]; omega), us ++ [p2], (s2.trans s3).set hDw, ?_, ?_, ?_⟩
        · rw [zc, List.map_append]
          rfl
        · rw [ZC hb, List.map_append]
          exact Paired.snoc (Lsts.upd (Lsts.same s3 lu) nu) (by rw [ze (Ne.symm pd)]; exact e2)
        · simp only [List.mem_append, List.mem_singleton, not_or]
          exact ⟨nu, pd⟩
      · rintro H2 ⟨us, s2, hW, lu, nu⟩
        have lu : Lsts H2 us (endNames.map jB) := lu
        have s12 := s1.trans s2
        have ls2 := Lsts.same s2 ls1
        have hD2 := s2 _ _ hD
        have c1 := zwy (fun (v : Bd.Wall) => v.name == n) (fun v => jB v.name) (jB n) (fun v => by rw [beq_iff_eq]; exact jB_inj.symm) walls
        have c2 := zwy (fun (v : Bd.Bytes) => v == e) jB (jB e) (fun v => by rw [beq_iff_eq]; exact jB_inj.symm) endNames
        rw [← zDp] at c2
        unfold zul at k
        have q1 : SqL K H2 f1 ((jB n).map V.int) := by rw [← zuA]; exact SqL.of (s12 _ _ h1)
        have q2 : SqL K H2 f2 ((jB e).map V.int) := by rw [← zuA]; exact SqL.of (s12 _ _ h2)
        have ql := s12 _ _ hl
        dsimp only [zmp, ztB, zwb]
        refine zEh (x := !(walls.map fun v => jB v.name).contains (jB n)) (y := !(endNames.map jB).contains (jB e))
          (fun R r => ⟨_, rfl, l, _, _, _, rfl, rfl, SqL.of ql, yj (j := 0) rfl, _, rfl, f1, Dn, jB n, qs, _, rfl, rfl, q1, SqL.of hD2, ls2, _, rfl, ?_⟩)
          (fun _ R r => ⟨_, rfl, l, _, _, _, rfl, rfl, SqL.of ql, yj (j := 1) rfl, _, rfl, f2, Dw, jB e, us, _, rfl, rfl, q2, SqL.of hW, lu, _, rfl, ?_⟩) ?_
        · rw [if_pos rfl]
          exact r
        · rw [if_pos rfl]
          exact r
        cases ha : walls.findIdx? (fun (v : Bd.Wall) => v.name == n) with
        | none =>
          rw [ha] at c1 k
          rw [c1]
          exact Z6 (zN T (k.same s12))
        | some a' =>
          rw [ha] at c1 k
          rw [c1.1]
          cases he : Bd.sideIn e with
          | none =>
            rw [he] at c2 k
            rw [c2]
            exact Z6 (zN T (k.same s12))
          | some ea =>
            rw [he] at c2 k
            rw [c2.1]
            refine zat ⟨_, rfl, .inl ⟨rfl, _, SqL.of hD2⟩, _, rfl, l, _, _, _, rfl, rfl, SqL.of ql, yj (j := 0) rfl, Dn, f1, jB n, qs, _, a', rfl, rfl, q1, SqL.of hD2, ls2, c1.2.1, c1.2.2,
              _, rfl, .inl ⟨rfl, _, SqL.of hW⟩, _, rfl, l, _, _, _, rfl, rfl, SqL.of ql, yj (j := 1) rfl, Dw, f2, jB e, us, _, ea, rfl, rfl, q2, SqL.of hW, lu, c2.2.1, c2.2.2, (by show 2 ≤ sizeLine; decide), fun t nt => ?_⟩
            exact k _ t (s12.new nt) zc
end
end Wb
end
section
set_option Elab.async false
set_option linter.all false
set_option maxRecDepth 100000
set_option maxHeartbeats 4000000
namespace Wb
open PySem PySem.Spec PyProof.Rows L2 Wm
open PySem.W (Codec)
def zuO (walls : List Bd.Wall) (n e m f : Bd.Bytes) : Option Bd.Corner := match zul walls n e, zul walls m f with
  | some x, some y => if x.1 < y.1 then some ⟨x.1, x.2, y.1, y.2⟩ else none
  | _, _ => none
def zyq (walls : List Bd.Wall) : List Bd.Bytes → Option Bd.Corner
  | [w, n, e, m, f] => if w = Bd.ascii "corner" then zuO walls n e m f else none
  | _ => none
theorem zuB (walls : List Bd.Wall) (x : Bd.Bytes) : Bd.cornerIn walls x = zyq walls (yK 32 x) := by
  unfold Bd.cornerIn
  rw [ziu]
  generalize yK 32 x = r
  match r with
  | [] => rfl
  | [_] => rfl
  | [_, _] => rfl
  | [_, _, _] => rfl
  | [_, _, _, _] => rfl
  | _ :: _ :: _ :: _ :: _ :: _ :: _ => rfl
  | [w, n, e, m, f] =>
    show (if w = Bd.ascii "corner" then _ else none) = if w = Bd.ascii "corner" then zuO walls n e m f else none
    by_cases h : w = Bd.ascii "corner"
    · rw [if_pos h, if_pos h]
      unfold zuO zul
      cases walls.findIdx? (fun (v : Bd.Wall) => v.name == n) <;> cases Bd.sideIn e <;> cases walls.findIdx? (fun (v : Bd.Wall) => v.name == m) <;> cases Bd.sideIn f <;> rfl
    · rw [if_neg h, if_neg h]
theorem zyr (walls : List Bd.Wall) : ∀ {r : List Bd.Bytes}, r.length ≠ 5 → zyq walls r = none
  | [], _ => rfl
  | [_], _ => rfl
  | [_, _], _ => rfl
  | [_, _, _], _ => rfl
  | [_, _, _, _], _ => rfl
  | [_, _, _, _, _], h => absurd rfl h
  | _ :: _ :: _ :: _ :: _ :: _ :: _, _ => rfl
theorem zEB (a e b f : Nat) : HT.lexLe (eI a e) (eI b f) = !(decide (b < a) || (b == a && decide (f < e))) := by
  unfold eI
  rw [HT.lexLe_cons, HT.lexLe_cons, HT.lexLe_nil_nil, Bool.eq_iff_iff, Bool.not_eq_true', Bool.or_eq_false_iff, Bool.and_eq_false_iff, decide_eq_false_iff_not, decide_eq_false_iff_not]
  by_cases h : ((a : Nat) : Int) = ((b : Nat) : Int)
  · rw [if_pos h]
    have h' : b = a := by omega
    by_cases h2 : ((e : Nat) : Int) = ((f : Nat) : Int)
    · rw [if_pos h2]
      simp only [true_iff]
      exact ⟨by omega, .inr (by omega)⟩
    · rw [if_neg h2, decide_eq_true_eq]
      constructor
      · intro q
        exact ⟨by omega, .inr (by omega)⟩
      · rintro ⟨_, q | q⟩
        · rw [h'] at q
          simp at q
        · omega
  · rw [if_neg h, decide_eq_true_eq]
    constructor
    · intro q
      refine ⟨by omega, .inl ?_⟩
      rw [Bool.eq_false_iff]
      intro z
      exact h (by rw [beq_iff_eq.mp z])
    · rintro ⟨q, _⟩
      omega
theorem zAB {x y : Int} {ns : List Int} (p : ns.Perm [x, y]) (s : ns.Pairwise (· ≤ ·)) : decide (ns = [1, 2]) = ((decide (x = 1) && decide (y = 2)) || (decide (x = 2) && decide (y = 1))) := by
  have l : ns.length = 2 := p.length_eq
  match ns, l, p, s with
  | [u, v], _, p, s =>
    have uv : u ≤ v := (List.pairwise_cons.mp s).1 v (by simp)
    have c : (u = x ∧ v = y) ∨ (u = y ∧ v = x) := by
      have q1 : u ∈ [x, y] := p.subset (by simp)
      simp only [List.mem_cons, List.mem_nil_iff, or_false] at q1
      rcases q1 with q | q
      · subst q
        have z := (List.perm_cons u).mp p
        have z2 := List.perm_singleton.mp z
        exact .inl ⟨rfl, (List.cons.inj z2).1⟩
      · subst q
        have z := (List.perm_cons u).mp (p.trans (List.Perm.swap u x []))
        have z2 := List.perm_singleton.mp z
        exact .inr ⟨rfl, (List.cons.inj z2).1⟩
    rw [Bool.eq_iff_iff]
    simp only [Bool.or_eq_true, Bool.and_eq_true, decide_eq_true_eq, List.cons.injEq, and_true]
    omega
section
variable {P : Program} {w : World} {K : PySem.W.Frag} {mg : Str → Option Value} {base : Heap} {a : Ad}
theorem zvg (T : Txt K mg a) : FnOk P w K mg base (CXo P w) true 4 a.ZP a.zgo ["line", "walls"] (zzT K a.zS a.zh a.zB a.zd) := by
  have zf : FnOk P w K mg base (CXo P w) true 1 a.zv a.zy ["self", "kind"] (zft a.zd "kind") := zJ T
  have zbQ : FnOk P w K mg base (CXo P w) true 1 a.ZO a.zcQ ["word"] zhN := zgC T
  have zic : FnOk P w K mg base (CXo P w) true 1 a.zaH a.zfV ["row", "sign"] (ztU K) := zn3 T
  have zuG : FnOk P w K mg base (CXo P w) true 3 a.zb1 a.zlL ["fields", "walls"] (zwJ a.zS a.zh a.zd) := zzI T
  have zqx : FnOk P w K mg base (CXo P w) true 1 a.yE a.zcC ["self", "first", "second"] (zzP a.zB) := zpx T
  refine z9 T.zoT zib (fun vs H Q E h => ?_) (fun cdv A outer s0 H vs Q E hr h => ?_)
  · obtain ⟨l, wl, line, ws, walls, rfl, _⟩ := h
    rfl
  · obtain ⟨l, wl, line, ws, walls, rfl, hS, hl, hw, wls, w4, k⟩ := h
    have zl := szl
    refine ⟨_, (zo (zai (i := 2) zib.nd rfl (by first | exact Or.inl rfl | exact Or.inr rfl) (zX zic (hr.mono (by decide)) rfl T.zp7 T.zlA.kp T.zpl .nil takes_cx.passes (zb (pv 0) (zb (zz (v := .int 32) rfl T.zA5 ⟨_, rfl⟩) zg))))
      (zo (ZD (PW.pt (zwE (yl zA6 (yL yz rfl T.z_len zc1 (zb (pv 2) zg)) zD (yp _)) (zrV (yl (zvn hr.units) (Zi yJ (pv 2) zD (fun _ _ => rfl)) (zX zbQ (hr.mono (by decide)) rfl T.zhW T.zf5.kp T.zis .nil takes_cx.passes (zb (zz (v := .str "corner") rfl T.zvF ⟨_, rfl⟩) zg)) (yp _))))) (zj (yI takes_cx rfl (yB T.zM zf (hr.mono (by decide)) rfl T.zF T.zr takes_cx (zb (zz (v := .int 8) rfl T.zi2 ⟨_, rfl⟩) zg)))) yD)
      (zo (zai (i := 3) zib.nd rfl (by first | exact Or.inl rfl | exact Or.inr rfl) (ztP T.zDs zqx (hr.mono (by decide)) rfl T.zDn T.zrd .nil takes_cx.passes (zb (zX zuG (hr.mono (by decide)) rfl T.zuW T.zpw.kp T.zuy .nil takes_cx.passes (zb (zm3 zqN (pv 2) (zlm zD) (zlm zD)) (zb (pv 1) zg))) (zb (zX zuG (hr.mono (by decide)) rfl T.zuW T.zpw.kp T.zuy .nil takes_cx.passes (zb (zm3 zqN (pv 2) (zlm zD) (zlm zD)) (zb (pv 1) zg))) zg))))
      (zo (ZD (yl zEp (Zi zig (zw (pv 3) rfl) zD (fun _ _ => rfl)) (Zi zig (zw (pv 3) rfl) zD (fun _ _ => rfl)) (yp _)) (zj (yI takes_cx rfl (yB T.zM zf (hr.mono (by decide)) rfl T.zF T.zr takes_cx (zb (zz (v := .int 8) rfl T.zi2 ⟨_, rfl⟩) zg)))) yD)
      (zj (yx (pv 3))))))), ?_⟩
    refine ⟨_, rfl, l, line, 32, rfl, hS, hl, fun H1 p as s1 np fr hp rows => ?_⟩
    have lr : as.length = (yK 32 line).length := Paired.length rows
    rw [zuB] at k
    generalize yK 32 line = r at rows lr k
    by_cases h5 : r.length = 5
    rotate_left
    · dsimp only [zmp, ztB, zwb]
      refine zx7 (x := true) (y := true) (fun H6 => Same H1 H6) (fun R r' => ⟨_, rfl, p, _, rfl, .inl (SqL.of hp), rfl, _, rfl, ?_⟩) (fun z => nomatch z) fun H6 s6 => ?_
      · rw [show (!decide (V.int (((as.map V.ref).length : Nat) : Int) = V.int 5)) = true by
          rw [decide_eq_false]
          · rfl
          · intro z
            have z' := V.int.inj z
            rw [List.length_map] at z'
            omega]
        exact r' _ (Same.refl _)
      · rw [zyr walls h5] at k
        exact Z6 (zN T (k.same (s1.trans s6)))
    obtain ⟨y0, y1, y2, y3, y4, rfl⟩ : ∃ y0 y1 y2 y3 y4, r = [y0, y1, y2, y3, y4] := by
      match r, h5 with
      | [y0, y1, y2, y3, y4], _ => exact ⟨_, _, _, _, _, rfl⟩
    match as, rows with
    | [f0, f1, f2, f3, f4], .cons g0 (.cons g1 (.cons g2 (.cons g3 (.cons g4 .nil)))) =>
      clear lr
      have ek : zyq walls [y0, y1, y2, y3, y4] = if y0 = Bd.ascii "corner" then zuO walls y1 y2 y3 y4 else none := rfl
      rw [ek] at k
      dsimp only [zmp, ztB, zwb]
      refine zx7 (x := false) (y := !decide (y0 = Bd.ascii "corner")) (fun H6 => Same H1 H6) (fun R r' => ⟨_, rfl, p, _, rfl, .inl (SqL.of hp), rfl, _, rfl, r' _ (Same.refl _)⟩) (fun _ H5 s5 R r' => ?_) fun H2 s2 => ?_
      · refine ⟨_, rfl, p, _, _, _, rfl, rfl, SqL.of (s5 _ _ hp), yj (j := 0) rfl, "corner", rfl, (by decide), fun H6 p2 s6 n2 e2 => ?_⟩
        have ez : (("corner" : Str).cps.toList.map fun n => V.int ((n : Nat) : Int)) = iB (Bd.ascii "corner") := by decide
        rw [ez] at e2
        refine ⟨_, _, zmq (SqL.of (s6 _ _ (s5 _ _ g0))), zmq (SqL.of e2), zac _, zac _, _, rfl, ?_⟩
        rw [zrZ]
        exact r' _ (s5.trans s6)
      · rw [Bool.false_or]
        by_cases hc : y0 = Bd.ascii "corner"
        rotate_left
        · rw [decide_eq_false hc]
          rw [if_neg hc] at k
          exact Z6 (zN T (k.same (s1.trans s2)))
        rw [decide_eq_true hc]
        rw [if_pos hc] at k
        refine zat ?_
        unfold zuO at k
        have s12 := s1.trans s2
        have hp2 := s2 _ _ hp
        refine ⟨_, rfl, 1, rfl, 3, rfl, p, _, rfl, SqL.of hp2, fun q1 nq1 => ?_⟩
        rw [show zqT ([f0, f1, f2, f3, f4].map V.ref) (some 1) (some 3) = [.ref f1, .ref f2] from rfl]
        have s3 := s12.new (o := .lst [.ref f1, .ref f2]) nq1
        have t3 := s2.new (o := .lst [.ref f1, .ref f2]) nq1
        refine ⟨_, rfl, q1, wl, f1, f2, ws, walls, y1, y2, rfl, zc, t3 _ _ g1, t3 _ _ g2, s3 _ _ hw, Walls.same s3 wls, w4, ?_⟩
        generalize upd H2 q1 (.lst [.ref f1, .ref f2]) = H3 at s3 t3
        cases e1 : zul walls y1 y2 with
        | none =>
          rw [e1] at k
          exact k.same s3
        | some z1 =>
            rw [e1] at k
            dsimp only at k ⊢
            intro H4 t1 s4 ht1
            refine ⟨_, rfl, 3, rfl, 5, rfl, p, _, rfl, SqL.of (s4 _ _ (t3 _ _ hp)), fun q2 nq2 => ?_⟩
            rw [show zqT ([f0, f1, f2, f3, f4].map V.ref) (some 3) (some 5) = [.ref f3, .ref f4] from rfl]
            have s5 := (s3.trans s4).new (o := .lst [.ref f3, .ref f4]) nq2
            have t5 := (t3.trans s4).new (o := .lst [.ref f3, .ref f4]) nq2
            have u5 := (Same.refl H4).new (o := .lst [.ref f3, .ref f4]) nq2
            refine ⟨_, rfl, q2, wl, f3, f4, ws, walls, y3, y4, rfl, zc, t5 _ _ g3, t5 _ _ g4, s5 _ _ hw, Walls.same s5 wls, w4, ?_⟩
            have ht1' := u5 _ _ ht1
            generalize upd H4 q2 (.lst [.ref f3, .ref f4]) = H5 at s5 t5 ht1'
            cases e3 : zul walls y3 y4 with
            | none =>
              rw [e3] at k
              exact k.same s5
            | some z2 =>
                rw [e3] at k
                dsimp only at k ⊢
                intro H6 t2 s6 ht2
                refine fun xc dc nx ndx dxx => ⟨xc, dc, _, _, rfl, zc, fun H7 e7 kp => ⟨rfl, ?_⟩⟩
                have s7 : Same H6 H7 := fun b o e => by
                  have z1 : b ≠ xc := zi e nx
                  have z2 : b ≠ dc := zi e ndx
                  rw [kp b z1, ze z1, ze z2]
                  exact e
                have ht1 := s7 _ _ (s6 _ _ ht1')
                have ht2 := s7 _ _ ht2
                have sA := (s5.trans s6).trans s7
                refine ⟨_, rfl, xc, _, dc, _, _, rfl, e7, T.zak, T.yC, rfl, t1, _, _, _, rfl, rfl, .inl (.inl ht1), yj (j := 0) rfl, _, rfl, xc, _, dc, _, _, rfl, e7, T.zak, T.yM, rfl, t2, _, _, _, rfl, rfl, .inl (.inl ht2), yj (j := 0) rfl, _, _, rfl, rfl, _, rfl, ?_⟩
                by_cases hac : z1.1 < z2.1
                · rw [if_pos hac] at k
                  rw [decide_eq_false (show ¬ ((z2.1 : Nat) : Int) ≤ ((z1.1 : Nat) : Int) by omega)]
                  exact zat ⟨_, rfl, k H7 xc sA ⟨dc, t1, t2, e7, ht1, ht2⟩⟩
                · rw [if_neg hac] at k
                  rw [decide_eq_true (show ((z2.1 : Nat) : Int) ≤ ((z1.1 : Nat) : Int) by omega)]
                  exact Z6 (zN T (k.same sA))
theorem zvA (T : Txt K mg a) : FnOk P w K mg base (CXo P w) true 1 a.zam a.zhu ["corners"] (zBh a.zB) := by
  refine z9 T.zqy zjF (fun vs H Q E h => ?_) (fun cdv A outer s0 H vs Q E hr h => ?_)
  · obtain ⟨l, ks, cs, rfl, _⟩ := h
    rfl
  · obtain ⟨l, ks, cs, rfl, hl, crs, c100, k⟩ := h
    have zl := szl
    have lk : ks.length = cs.length := Paired.length crs
    refine ⟨_, (zo (zai (i := 1) zjF.nd rfl (by first | exact Or.inl rfl | exact Or.inr rfl) (Zd zg))
      (zo (zpI takes_cx.po rfl (zb4 (pv 0)) (ZF (i := 2) zjF.nd rfl (by first | exact Or.inl rfl | exact Or.inr rfl)) (zj (ZT (zmb PySem.F.plainAttrs_list PySem.F.slot_list_extend PySem.F.type_list_extend zwS (pv 1) (zb (Zd (zb (zw (pv 2) rfl) (zb (zw (pv 2) rfl) zg))) zg)))))
      (zj (yx (pv 1))))), ?_⟩
    refine ⟨Nat.zero_le _, fun p np => ?_⟩
    have s1 : Same H (upd H p (.lst [])) := (Same.refl _).new np
    refine ⟨_, rfl, l, rfl, ⟨_, SqL.of (s1 _ _ hl)⟩, zni (K := K) (a := l) (xs := ks.map V.ref) (fun i σ H' => ∃ (v : Option V) (ts : List Addr), σ = [some (.ref l), some (.ref p), v] ∧ Same H H' ∧ H' p = some (.lst (ts.map V.ref)) ∧ Tups H' ts (zfZ (cs.take i)))
      ⟨none, [], rfl, s1, zc, .nil⟩ (fun i σ H' _ ⟨_, _, _, s, _⟩ => SqL.of (s _ _ hl)) ?_ ?_⟩
    · rintro i y σ H' hi ⟨v, ts, rfl, s2, hp, tt⟩
      rw [List.getElem?_map] at hi
      obtain ⟨q, hq, rfl⟩ : ∃ q, ks[i]? = some q ∧ y = .ref q := by
        cases e : ks[i]? with
        | none => rw [e] at hi; cases hi
        | some q => rw [e] at hi; exact ⟨q, rfl, (Option.some.inj hi).symm⟩
      obtain ⟨c, hc, dx, t1, t2, e1, e2, e3⟩ := Paired.get crs hq
      have il := (List.getElem?_eq_some_iff.mp hc).1
      have lt := Paired.length tt
      rw [zz3, List.length_take] at lt
      have e1' := s2 _ _ e1
      refine ⟨_, rfl, .inl ⟨rfl, _, SqL.of hp⟩, _, rfl, q, _, dx, _, _, rfl, e1', T.zak, T.yC, rfl, _, rfl, q, _, dx, _, _, rfl, e1', T.zak, T.yM, rfl, (by show 2 ≤ sizeLine; decide), fun l2 nl2 => ?_⟩
      have hp2 : upd H' l2 (.lst [.ref t1, .ref t2]) p = some (.lst (ts.map V.ref)) := by rw [ze (zi hp nl2)]; exact hp
      refine ⟨p, l2, _, [.ref t1, .ref t2], rfl, rfl, hp2, zc, (by rw [List.length_map]; show _ + 2 ≤ _; omega), ?_⟩
      have s3 : Same H' (upd H' l2 (.lst [.ref t1, .ref t2])) := (Same.refl _).new nl2
      refine ⟨_, ts ++ [t1, t2], rfl, (s2.trans s3).set np, ?_, ?_⟩
      · rw [zc, List.map_append]
        rfl
      · have ee : zfZ (cs.take (i + 1)) = zfZ (cs.take i) ++ [eI c.a c.ea, eI c.c c.ec] := by
          unfold zfZ
          rw [ZC hc, List.flatMap_append]
          simp
        rw [ee]
        have tt2 := Tups.upd (ys := ts.map V.ref ++ [.ref t1, .ref t2]) (Tups.same s3 tt) hp2
        have u : ∀ {q : Addr} {ms : List Int}, H q = some (.tup (ms.map V.int)) → upd (upd H' l2 (.lst [.ref t1, .ref t2])) p (.lst (ts.map V.ref ++ [.ref t1, .ref t2])) q = some (.tup (ms.map V.int)) := fun {q ms} e => by
          have e' := s3 _ _ (s2 _ _ e)
          rw [ze (zi3 e' hp2 (by intro z; cases z))]
          exact e'
        have : ts ++ [t1, t2] = (ts ++ [t1]) ++ [t2] := by simp
        rw [this, show zfZ (cs.take i) ++ [eI c.a c.ea, eI c.c c.ec] = (zfZ (cs.take i) ++ [eI c.a c.ea]) ++ [eI c.c c.ec] by simp]
        exact Paired.snoc (Paired.snoc tt2 (u e2)) (u e3)
    · rintro σ H' ⟨v, ts, rfl, s2, hp, tt⟩
      rw [List.length_map, lk, List.take_length] at tt
      exact ⟨_, rfl, k _ p ts s2 hp tt⟩
theorem zCp (T : Txt K mg a) : FnOk P w K mg base (CXo P w) true 1 a.zfe a.zqq ["wall", "side"] (zA0 a.zS a.zh) := by
  refine z9 T.zt4 zB0 (fun vs H Q E h => ?_) (fun cdv A outer s0 H vs Q E hr h => ?_)
  · obtain ⟨p, dx, op, v0, as, wl, e, rfl, _⟩ := h
    rfl
  · obtain ⟨p, dx, op, v0, as, wl, e, rfl, W, k⟩ := h
    refine ⟨_, (zj (yx (zzx (yl zoP (pv 1) (zz (v := .int 0) rfl T.zDa ⟨_, rfl⟩) (yp _)) (zw (pv 0) rfl) (zw (pv 0) rfl)))), ?_⟩
    refine ⟨_, rfl, rfl, _, rfl, ?_⟩
    unfold Bd.Wall.endOf at k
    by_cases h : e = 0
    · subst h
      rw [if_pos rfl] at k
      exact Z6 ⟨_, rfl, p, _, dx, _, _, rfl, W.at_, T.zc5, T.zes, rfl, k⟩
    · rw [if_neg h] at k
      rw [decide_eq_false (show ¬ V.int ((e : Nat) : Int) = V.int 0 from fun z => h (by have := V.int.inj z; omega))]
      exact zat ⟨_, rfl, p, _, dx, _, _, rfl, W.at_, T.zc5, T.zdg, rfl, k⟩
theorem zxp (T : Txt K mg a) : FnOk P w K mg base (CXo P w) true 1 a.zba a.zi4 ["wall", "side"] (zwv a.zS a.zh) := by
  refine z9 T.zsV zxO (fun vs H Q E h => ?_) (fun cdv A outer s0 H vs Q E hr h => ?_)
  · obtain ⟨p, dx, op, v0, as, wl, e, rfl, _⟩ := h
    rfl
  · obtain ⟨p, dx, op, v0, as, wl, e, rfl, W, l1, k⟩ := h
    refine ⟨_, (zj (yx (zzx (yl zoP (pv 1) (zz (v := .int 0) rfl T.zDa ⟨_, rfl⟩) (yp _)) zD (zgI zxb (zw (pv 0) rfl) zD)))), ?_⟩
    refine ⟨_, rfl, rfl, _, rfl, ?_⟩
    unfold zlP at k
    by_cases h : e = 0
    · subst h
      rw [if_pos rfl] at k
      exact Z6 k
    · rw [if_neg h] at k
      rw [decide_eq_false (show ¬ V.int ((e : Nat) : Int) = V.int 0 from fun z => h (by have := V.int.inj z; omega))]
      refine zat ⟨_, rfl, p, _, dx, _, _, rfl, W.at_, T.zc5, T.zbq, rfl, _, _, rfl, rfl, ?_⟩
      show Q (V.int (((wl.long : Nat) : Int) - 1)) H
      rw [show ((wl.long : Nat) : Int) - 1 = ((wl.long - 1 : Nat) : Int) by omega]
      exact k
end
end Wb
end
section
set_option Elab.async false
set_option linter.all false
set_option maxRecDepth 100000
set_option maxHeartbeats 4000000
namespace Wb
open PySem PySem.Spec PyProof.Rows L2 Wm
open PySem.W (Codec)
section
variable {P : Program} {w : World} {K : PySem.W.Frag} {mg : Str → Option Value} {base : Heap} {a : Ad}
theorem zpH (T : Txt K mg a) : FnOk P w K mg base (CXo P w) true 3 a.yS a.zcz ["end", "walls", "taken"] (zEl a.zS a.zh) := by
  have zuv : FnOk P w K mg base (CXo P w) true 2 a.Zj a.zfa ["self", "place", "course"] (zzQ a.zS a.zh) := zto T
  have zze : FnOk P w K mg base (CXo P w) true 1 a.zba a.zi4 ["wall", "side"] (zwv a.zS a.zh) := zxp T
  refine z9 T.ziV ZM (fun vs H Q E h => ?_) (fun cdv A outer s0 H vs Q E hr h => ?_)
  · obtain ⟨t, wl, tl, ws, ts, walls, cs, i, e, rfl, _⟩ := h
    rfl
  · obtain ⟨t, wl, tl, ws, ts, walls, cs, i, e, rfl, ht, hw, wls, htl, tt, hi, he, l1, k⟩ := h
    have zl := szl
    have hwi : walls[i]? = some walls[i] := List.getElem?_eq_getElem hi
    obtain ⟨p, hp, dx, op, v0, as, W, _⟩ := Paired.getR wls hwi
    have l1' := l1 walls[i] (List.getElem_mem hi)
    unfold zr9 at k
    rw [hwi] at k
    dsimp only at k
    have ro : zkQ walls cs i e = (decide (5 ≤ walls[i].long) || !(cs.any fun m => m.uses i (1 - e))) := by
      unfold zkQ
      rw [hwi]
      rfl
    rw [ro] at k
    generalize walls[i] = v at W l1' k
    refine ⟨_, (zo (zai (i := 3) ZM.nd rfl (by first | exact Or.inl rfl | exact Or.inr rfl) (Zi yJ (pv 1) (Zi zig (pv 0) zD (fun _ _ => rfl)) (fun _ _ => rfl)))
      (zo (zai (i := 4) ZM.nd rfl (by first | exact Or.inl rfl | exact Or.inr rfl) (zX zze (hr.mono (by decide)) rfl T.zy0 T.zsV.kp T.zy1 .nil takes_cx.passes (zb (pv 3) (zb (Zi zig (pv 0) zD (fun _ _ => rfl)) zg))))
      (zo (ZD (zf8 (yL (zAr rfl) rfl T.z_any zzW (zb (zx3 takes_cx rfl rfl (own := [("course", 5)]) rfl ZM.nd (zBF rfl T.z_range (zb (zw (pv 3) rfl) zg)) (by show ze5 ["end", "walls", "taken", "wall", "place", "course", "other_end"] (za yk) _ [("course", 5)]; exact ⟨rfl, by decide +kernel, by decide +kernel, by decide +kernel, by decide +kernel⟩) (fun s H C cl fp xe tk => (ZF (i := 5) ZM.nd rfl (by first | exact Or.inl rfl | exact Or.inr rfl))) (fun s H C cl fp xe tk => zdh) (fun s H C cl fp xe tk => (zd4 (pv 3) T.zc5 T.zuf zuv (hr.mono (by decide)) T.zt2 .nil tk.passes (zb (pv 4) (zb (pv 5) zg))))) zg))) (zj (yx zDl)) yD)
      (zo (zai (i := 6) ZM.nd rfl (by first | exact Or.inl rfl | exact Or.inr rfl) (zya (zb (Zi zig (pv 0) zD (fun _ _ => rfl)) (zb (zgI zxb zD (Zi zig (pv 0) zD (fun _ _ => rfl))) zg))))
      (zj (yx (zBD (zcK zEp (zw (pv 3) rfl) (zz (v := .int 5) rfl T.zkl ⟨_, rfl⟩) (yp _)) (zpc (zcK (zvP hr.units) (pv 6) (pv 2) rfl))))))))), ?_⟩
    refine ⟨_, rfl, _, rfl, t, _, _, _, rfl, rfl, .inl (.inl ht), yj (j := 0) rfl, wl, _, _, .ref p, rfl, rfl, SqL.of hw, yj (by rw [List.getElem?_map, hp]; rfl), ?_⟩
    refine ⟨_, rfl, _, rfl, t, _, _, _, rfl, rfl, .inl (.inl ht), yj (j := 1) rfl, p, dx, op, v0, as, v, e, rfl, W, l1', ?_⟩
    have h8 := W.h8
    refine ⟨_, rfl, p, _, dx, _, _, rfl, W.at_, T.zc5, T.zaA, rfl, _, rfl, by omega, by omega, fun D hD => ?_⟩
    rw [show (((v.high : Nat) : Int)).toNat = v.high by omega]
    refine zC6 (lo := 0) (n := v.high) (fun j H' => Same H H' ∧ H' D = some (.lst (((List.range j).map fun y => v.isOpen (zlP v e) y).map V.bl))) ⟨(Same.refl _).new hD, zc⟩ ?_ ?_
    · rintro j H' hj ⟨s1, hD1⟩
      rw [show (0 : Int) + ((j : Nat) : Int) = ((j : Nat) : Int) from Int.zero_add _]
      have W1 := W.same s1
      refine ⟨rfl, _, rfl, p, dx, _, rfl, W1.at_, rfl, _, rfl, _, rfl, p, dx, op, v0, as, v, zlP v e, j, rfl, W1, fun H2 s2 => ⟨_, s2 _ _ hD1, (by rw [List.length_map, List.length_map, List.length_range]; omega), (s1.trans s2).set hD, ?_⟩⟩
      rw [zc, zzY, List.map_append, List.map_append]
      rfl
    · rintro H1 ⟨s1, hD1⟩
      refine ⟨D, (List.range v.high).map fun y => v.isOpen (zlP v e) y, rfl, SqL.of hD1, _, rfl, ?_⟩
      have so : (((List.range v.high).map fun y => v.isOpen (zlP v e) y).any id) = !v.solidAt e := by
        unfold Bd.Wall.solidAt zlP
        rw [List.any_map, List.not_all_eq_any_not]
        simp
      rw [so]
      cases hs : v.solidAt e with
      | false =>
        rw [hs] at k
        exact Z6 (k _ s1)
      | true =>
        rw [hs, Bool.true_and] at k
        refine zat ?_
        have ht1 := s1 _ _ ht
        refine ⟨_, rfl, t, _, _, _, rfl, rfl, .inl (.inl ht1), yj (j := 0) rfl, _, rfl, t, _, _, _, rfl, rfl, .inl (.inl ht1), yj (j := 1) rfl, _, _, rfl, rfl, (by show 2 ≤ sizeLine; decide), fun o no => ?_⟩
        have eo : HO.tup [V.int ((i : Nat) : Int), (fun i j => V.int (i - j)) 1 ((e : Nat) : Int)] = .tup ((eI i (1 - e)).map V.int) := by
          show HO.tup [V.int ((i : Nat) : Int), V.int (1 - ((e : Nat) : Int))] = HO.tup [V.int ((i : Nat) : Int), V.int ((1 - e : Nat) : Int)]
          rw [show (1 : Int) - ((e : Nat) : Int) = ((1 - e : Nat) : Int) by omega]
        rw [eo]
        have s2 := s1.new (o := .tup ((eI i (1 - e)).map V.int)) no
        have ho : upd H1 o (.tup ((eI i (1 - e)).map V.int)) o = some (.tup ((eI i (1 - e)).map V.int)) := zc
        generalize upd H1 o (.tup ((eI i (1 - e)).map V.int)) = H2 at s2 ho
        have W2 := W.same s2
        dsimp only [zrF, zE5, zmp, ztB]
        refine zDq (x := decide (5 ≤ v.long)) (y := !(cs.any fun m => m.uses i (1 - e))) (fun R r => ⟨_, rfl, p, _, dx, _, _, rfl, W2.at_, T.zc5, T.zbq, rfl, _, _, rfl, rfl, ?_⟩) (fun _ R r => ⟨_, rfl, _, rfl, o, tl, eI i (1 - e), ts, _, rfl, rfl, ho, SqL.of (s2 _ _ htl), Tups.same s2 tt, ?_⟩) (k _ s2)
        · show R (V.bl (decide ((5 : Int) ≤ ((v.long : Nat) : Int)))) H2
          rw [show decide ((5 : Int) ≤ ((v.long : Nat) : Int)) = decide (5 ≤ v.long) from decide_eq_decide.mpr (by omega)]
          exact r
        · rw [if_pos rfl, zpK]
          exact r
theorem zuV (T : Txt K mg a) : FnOk P w K mg base (CXo P w) true 4 a.ZZ a.zgj ["corner", "walls", "taken"] (zFI a.zS a.zh a.zB) := by
  have zzJ : FnOk P w K mg base (CXo P w) true 1 a.zfe a.zqq ["wall", "side"] (zA0 a.zS a.zh) := zCp T
  have zqU : FnOk P w K mg base (CXo P w) true 3 a.yS a.zcz ["end", "walls", "taken"] (zEl a.zS a.zh) := zpH T
  refine z9 T.zo6 zcO (fun vs H Q E h => ?_) (fun cdv A outer s0 H vs Q E hr h => ?_)
  · obtain ⟨p, wl, tl, ws, ts, walls, cs, c, rfl, _⟩ := h
    rfl
  · obtain ⟨p, wl, tl, ws, ts, walls, cs, c, rfl, ⟨dx, t1, t2, hp, h1, h2⟩, hw, wls, htl, tt, ha, hc, hea, hec, l1, k⟩ := h
    have zl := szl
    have ga : walls[c.a]? = some walls[c.a] := List.getElem?_eq_getElem ha
    have gc : walls[c.c]? = some walls[c.c] := List.getElem?_eq_getElem hc
    obtain ⟨p1, hp1, dx1, op1, v01, as1, W1, _⟩ := Paired.getR wls ga
    obtain ⟨p2, hp2, dx2, op2, v02, as2, W2, _⟩ := Paired.getR wls gc
    unfold goB at k
    rw [ga, gc] at k
    dsimp only at k
    generalize walls[c.a] = v1 at W1 k
    generalize walls[c.c] = v2 at W2 k
    refine ⟨_, (zo (zai (i := 3) zcO.nd rfl (by first | exact Or.inl rfl | exact Or.inr rfl) (Zi yJ (pv 1) (Zi zig (zw (pv 0) rfl) zD (fun _ _ => rfl)) (fun _ _ => rfl)))
      (zo (zai (i := 4) zcO.nd rfl (by first | exact Or.inl rfl | exact Or.inr rfl) (Zi yJ (pv 1) (Zi zig (zw (pv 0) rfl) zD (fun _ _ => rfl)) (fun _ _ => rfl)))
      (zo (ZD (yl zA6 (zw (pv 3) rfl) (zw (pv 4) rfl) (yp _)) (zj (yx zDl)) yD)
      (zo (ZD (yl (zvn hr.units) (yL zBY rfl T.z_sorted zCd (zb (Zd (zb (zX zzJ (hr.mono (by decide)) rfl T.zzG T.zt4.kp T.zy2 .nil takes_cx.passes (zb (pv 3) (zb (Zi zig (zw (pv 0) rfl) zD (fun _ _ => rfl)) zg))) (zb (zX zzJ (hr.mono (by decide)) rfl T.zzG T.zt4.kp T.zy2 .nil takes_cx.passes (zb (pv 4) (zb (Zi zig (zw (pv 0) rfl) zD (fun _ _ => rfl)) zg))) zg))) zg)) (Zd (zb (zz (v := .int 1) rfl T.zED ⟨_, rfl⟩) (zb (zz (v := .int 2) rfl T.zFG ⟨_, rfl⟩) zg))) (yp _)) (zj (yx zDl)) yD)
      (zj (yx (yL (zAN rfl) rfl T.z_all zAy (zb (zx3 takes_cx rfl rfl (own := [("end", 5)]) rfl zcO.nd (zb4 (Zd (zb (zw (pv 0) rfl) (zb (zw (pv 0) rfl) zg)))) (by show ze5 ["corner", "walls", "taken", "one", "other", "end"] (za Zf) _ [("end", 5)]; exact ⟨rfl, by decide +kernel, by decide +kernel, by decide +kernel, by decide +kernel⟩) (fun s H C cl fp xe tk => (ZF (i := 5) zcO.nd rfl (by first | exact Or.inl rfl | exact Or.inr rfl))) (fun s H C cl fp xe tk => zdh) (fun s H C cl fp xe tk => (zX zqU (hr.mono (by decide)) rfl T.zro T.ziV.kp T.zqn .nil tk.passes (zb (pv 5) (zb (pv 1) (zb (pv 2) zg)))))) zg)))))))), ?_⟩
    refine ⟨_, rfl, _, rfl, p, _, dx, _, _, rfl, hp, T.zak, T.yC, rfl, t1, _, _, _, rfl, rfl, .inl (.inl h1), yj (j := 0) rfl, wl, _, _, .ref p1, rfl, rfl, SqL.of hw, yj (by rw [List.getElem?_map, hp1]; rfl), ?_⟩
    refine ⟨_, rfl, _, rfl, p, _, dx, _, _, rfl, hp, T.zak, T.yM, rfl, t2, _, _, _, rfl, rfl, .inl (.inl h2), yj (j := 0) rfl, wl, _, _, .ref p2, rfl, rfl, SqL.of hw, yj (by rw [List.getElem?_map, hp2]; rfl), ?_⟩
    refine ⟨_, rfl, p1, _, dx1, _, _, rfl, W1.at_, T.zc5, T.zaA, rfl, _, rfl, p2, _, dx2, _, _, rfl, W2.at_, T.zc5, T.zaA, rfl, rfl, _, rfl, ?_⟩
    by_cases hh : v1.high = v2.high
    rotate_left
    · rw [show (!decide (V.int ((v1.high : Nat) : Int) = V.int ((v2.high : Nat) : Int))) = true by
        rw [decide_eq_false]
        · rfl
        · intro z
          have := V.int.inj z
          omega]
      rw [show (v1.high == v2.high) = false from beq_eq_false_iff_ne.mpr hh, Bool.false_and] at k
      exact Z6 (k _ (Same.refl _))
    rw [show (!decide (V.int ((v1.high : Nat) : Int) = V.int ((v2.high : Nat) : Int))) = false by rw [hh, decide_eq_true rfl]; rfl]
    rw [show (v1.high == v2.high) = true from beq_iff_eq.mpr hh, Bool.true_and] at k
    refine zat ?_
    refine ⟨_, rfl, _, rfl, p, _, dx, _, _, rfl, hp, T.zak, T.yC, rfl, t1, _, _, _, rfl, rfl, .inl (.inl h1), yj (j := 1) rfl, p1, dx1, op1, v01, as1, v1, c.ea, rfl, W1,
      _, rfl, _, rfl, p, _, dx, _, _, rfl, hp, T.zak, T.yM, rfl, t2, _, _, _, rfl, rfl, .inl (.inl h2), yj (j := 1) rfl, p2, dx2, op2, v02, as2, v2, c.ec, rfl, W2, (by show 2 ≤ sizeLine; decide), fun q nq => ?_⟩
    have s1 : Same H (upd H q (.lst [.int ((v1.endOf c.ea : Nat) : Int), .int ((v2.endOf c.ec : Nat) : Int)])) := (Same.refl _).new nq
    refine ⟨q, [((v1.endOf c.ea : Nat) : Int), ((v2.endOf c.ec : Nat) : Int)], rfl, SqL.of zc, (by show 2 < 64; decide), fun ns q2 pm pw nq2 => ?_⟩
    generalize upd H q (.lst [.int ((v1.endOf c.ea : Nat) : Int), .int ((v2.endOf c.ec : Nat) : Int)]) = H1 at s1 nq2
    have s2 := s1.new (o := .lst (ns.map V.int)) nq2
    have e2 : upd H1 q2 (.lst (ns.map V.int)) q2 = some (.lst (ns.map V.int)) := zc
    generalize upd H1 q2 (.lst (ns.map V.int)) = H2 at s2 e2
    refine ⟨(by show 2 ≤ sizeLine; decide), fun q3 nq3 => ?_⟩
    have s3 := s2.new (o := .lst [.int 1, .int 2]) nq3
    have e3 : upd H2 q3 (.lst [.int 1, .int 2]) q2 = some (.lst (ns.map V.int)) := by rw [ze (zi e2 nq3)]; exact e2
    have e4 : upd H2 q3 (.lst [.int 1, .int 2]) q3 = some (.lst (([1, 2] : List Int).map V.int)) := zc
    generalize upd H2 q3 (.lst [.int 1, .int 2]) = H3 at s3 e3 e4
    refine ⟨_, _, zDh (SqL.of e3), zDh (SqL.of e4), zac _, zac _, _, rfl, ?_⟩
    rw [zC9, zAB pm pw]
    have es : ((decide (((v1.endOf c.ea : Nat) : Int) = 1) && decide (((v2.endOf c.ec : Nat) : Int) = 2)) || (decide (((v1.endOf c.ea : Nat) : Int) = 2) && decide (((v2.endOf c.ec : Nat) : Int) = 1))) = ((v1.endOf c.ea == 1 && v2.endOf c.ec == 2) || (v1.endOf c.ea == 2 && v2.endOf c.ec == 1)) := by
      rw [Bool.eq_iff_iff]
      simp only [Bool.or_eq_true, Bool.and_eq_true, decide_eq_true_eq, beq_iff_eq]
      omega
    rw [es]
    cases hq : ((v1.endOf c.ea == 1 && v2.endOf c.ec == 2) || (v1.endOf c.ea == 2 && v2.endOf c.ec == 1)) with
    | false =>
      rw [hq, Bool.false_and] at k
      exact Z6 (k _ s3)
    | true =>
      rw [hq, Bool.true_and] at k
      refine zat ?_
      have hp3 := s3 _ _ hp
      refine ⟨_, rfl, p, _, dx, _, _, rfl, hp3, T.zak, T.yC, rfl, _, rfl, p, _, dx, _, _, rfl, hp3, T.zak, T.yM, rfl, (by show 2 ≤ sizeLine; decide), fun q4 nq4 => ?_⟩
      have s4 := s3.new (o := .lst [.ref t1, .ref t2]) nq4
      have e4 : upd H3 q4 (.lst [.ref t1, .ref t2]) q4 = some (.lst [.ref t1, .ref t2]) := zc
      generalize upd H3 q4 (.lst [.ref t1, .ref t2]) = H4 at s4 e4
      refine ⟨q4, rfl, ⟨_, SqL.of e4⟩, fun D hD => zho (K := K) (a := q4) (xs := [.ref t1, .ref t2]) (fun i H' => Same H4 H' ∧ H' D = some (.lst ((([zr9 walls cs c.a c.ea, zr9 walls cs c.c c.ec] : List Bool).take i).map V.bl))) ⟨(Same.refl _).new hD, zc⟩ (fun i H' _ ⟨s, _⟩ => SqL.of (s _ _ e4)) ?_ ?_⟩
      · rintro i v H' hi ⟨s5, hD5⟩
        have s45 := s4.trans s5
        match i, hi with
        | 0, hi =>
          obtain rfl := Option.some.inj hi
          exact ⟨rfl, _, rfl, _, rfl, _, rfl, t1, wl, tl, ws, ts, walls, cs, c.a, c.ea, rfl, s45 _ _ h1, s45 _ _ hw, Walls.same s45 wls, s45 _ _ htl, Tups.same s45 tt, ha, hea, l1, fun H6 s6 => ⟨_, s6 _ _ hD5, (by show 0 < sizeLine; decide), (s5.trans s6).set hD, zc⟩⟩
        | 1, hi =>
          obtain rfl := Option.some.inj hi
          exact ⟨rfl, _, rfl, _, rfl, _, rfl, t2, wl, tl, ws, ts, walls, cs, c.c, c.ec, rfl, s45 _ _ h2, s45 _ _ hw, Walls.same s45 wls, s45 _ _ htl, Tups.same s45 tt, hc, hec, l1, fun H6 s6 => ⟨_, s6 _ _ hD5, (by show 1 < sizeLine; decide), (s5.trans s6).set hD, zc⟩⟩
        | i + 2, hi => simp at hi
      · rintro H5 ⟨s5, hD5⟩
        refine ⟨D, [zr9 walls cs c.a c.ea, zr9 walls cs c.c c.ec], rfl, SqL.of hD5, ?_⟩
        rw [show ([zr9 walls cs c.a c.ea, zr9 walls cs c.c c.ec].all id) = (zr9 walls cs c.a c.ea && zr9 walls cs c.c c.ec) by simp]
        exact k _ (s4.trans s5)
theorem zEu {walls : List Bd.Wall} {l : List Bd.Corner} {k : Bd.Corner} (le : Bd.longEnough walls l = true) (ha : k.a < k.c) (hc : k.c < walls.length) (hea : k.ea ≤ 1) (hec : k.ec ≤ 1) : Bd.cornersFit walls l k = goB walls l k := by
  have ga : walls[k.a]? = some (walls[k.a]'(by omega)) := List.getElem?_eq_getElem (by omega)
  have gc : walls[k.c]? = some walls[k.c] := List.getElem?_eq_getElem hc
  unfold Bd.cornersFit goB zr9 Bd.fitTogether
  rw [zCn le ha hc hea hec, ga, gc]
  dsimp only
  simp only [Bool.and_assoc]
  cases zkQ walls l k.a k.ea <;> cases zkQ walls l k.c k.ec <;> simp
theorem zxG (T : Txt K mg a) : FnOk P w K mg base (CXo P w) true 5 a.zbj a.ziE ["line", "walls", "before"] (zuD K a.zS a.zh a.zB a.zd) := by
  have zf : FnOk P w K mg base (CXo P w) true 1 a.zv a.zy ["self", "kind"] (zft a.zd "kind") := zJ T
  have zvT : FnOk P w K mg base (CXo P w) true 4 a.ZP a.zgo ["line", "walls"] (zzT K a.zS a.zh a.zB a.zd) := zvg T
  have zyC : FnOk P w K mg base (CXo P w) true 1 a.zam a.zhu ["corners"] (zBh a.zB) := zvA T
  have zvv : FnOk P w K mg base (CXo P w) true 4 a.ZZ a.zgj ["corner", "walls", "taken"] (zFI a.zS a.zh a.zB) := zuV T
  refine z9 T.zsG zlU (fun vs H Q E h => ?_) (fun cdv A outer s0 H vs Q E hr h => ?_)
  · obtain ⟨l, wl, bl, line, ws, ks, walls, cs, rfl, _⟩ := h
    rfl
  · obtain ⟨l, wl, bl, line, ws, ks, walls, cs, rfl, hS, hl, hw, wls, w4, l1, hb, crs, c8, le, k⟩ := h
    have zl := szl
    refine ⟨_, (zo (zai (i := 3) zlU.nd rfl (by first | exact Or.inl rfl | exact Or.inr rfl) (zX zvT (hr.mono (by decide)) rfl T.zwd T.zoT.kp T.zwa .nil takes_cx.passes (zb (pv 0) (zb (pv 1) zg))))
      (zo (ZD (PW.pt (zym (yl (zxg hr.units0) (pv 2) (Zd zg) (yp _)) (ztQ (yl (zEt hr.units0) (zw (pv 3) rfl) (zw (Zi yJ (pv 2) (zo2 zjx zD) (fun _ _ => rfl)) rfl) (yp _))))) (zj (yI takes_cx rfl (yB T.zM zf (hr.mono (by decide)) rfl T.zF T.zr takes_cx (zb (zz (v := .int 9) rfl T.zmE ⟨_, rfl⟩) zg)))) yD)
      (zo (zai (i := 4) zlU.nd rfl (by first | exact Or.inl rfl | exact Or.inr rfl) (zX zyC (hr.mono (by decide)) rfl T.zxk T.zqy.kp T.zxs .nil takes_cx.passes (zb (pv 2) zg)))
      (zo (ZD (PW.pt (zwE (yl (zu2 hr.units) (zw (pv 3) rfl) (pv 4) rfl) (zrV (yl (zu2 hr.units) (zw (pv 3) rfl) (pv 4) rfl)))) (zj (yI takes_cx rfl (yB T.zM zf (hr.mono (by decide)) rfl T.zF T.zr takes_cx (zb (zz (v := .int 10) rfl T.zzy ⟨_, rfl⟩) zg)))) yD)
      (zo (ZD (zqe (zf8 (zX zvv (hr.mono (by decide)) rfl T.zvZ T.zo6.kp T.zvU .nil takes_cx.passes (zb (pv 3) (zb (pv 1) (zb (pv 4) zg)))))) (zj (yI takes_cx rfl (yB T.zM zf (hr.mono (by decide)) rfl T.zF T.zr takes_cx (zb (zz (v := .int 11) rfl T.zyk ⟨_, rfl⟩) zg)))) yD)
      (zj (yx (pv 3)))))))), ?_⟩
    refine ⟨_, rfl, _, rfl, l, wl, line, ws, walls, rfl, hS, hl, hw, wls, w4, ?_⟩
    unfold zhC at k
    cases hc : Bd.cornerIn walls line with
    | none =>
      rw [hc] at k
      exact k
    | some c =>
      rw [hc] at k
      obtain ⟨g1, g2, g3, g4⟩ := zoO hc
      dsimp only at k
      rintro H1 p s1 ⟨dx, t1, t2, hp, h1, h2⟩
      have hb1 := s1 _ _ hb
      have crs1 := Crs.same s1 crs
      have lk : ks.length = cs.length := Paired.length crs
      dsimp only [zmp, ztB, zwb]
      refine zxf (x := !cs.isEmpty) (y := cs.getLast?.any fun m => !m.before c) (fun H6 => Same H1 H6) (fun R r => ?_) (fun hx H6 s6 R r => ?_) fun H2 s2 => ?_
      · refine ⟨_, rfl, Nat.zero_le _, fun q nq => ⟨bl, q, ks.map V.ref, rfl, rfl, SqL.of (by rw [ze (zi hb1 nq)]; exact hb1), SqL.of zc, _, rfl, ?_⟩⟩
        have ei : (!(ks.map V.ref).isEmpty) = !cs.isEmpty := by
          cases ks with
          | nil => cases cs with
            | nil => rfl
            | cons _ _ => cases lk
          | cons _ _ => cases cs with
            | nil => cases lk
            | cons _ _ => rfl
        rw [ei]
        exact r _ ((Same.refl _).new nq)
      · have ne : cs ≠ [] := fun z => by rw [z] at hx; cases hx
        obtain ⟨ki, kl, ci, cl, eks, ecs, hkl⟩ := Paired.last crs1 ne
        obtain ⟨dx2, u1, u2, e1, e2, e3⟩ := hkl
        have hb6 := s6 _ _ hb1
        rw [eks] at hb6
        refine ⟨_, rfl, p, _, dx, _, _, rfl, s6 _ _ hp, T.zak, T.yC, rfl, _, rfl, _, rfl, bl, _, _, .ref kl, rfl, rfl, SqL.of hb6, (by rw [List.map_append]; exact zif _ _), kl, _, dx2, _, _, rfl, s6 _ _ e1, T.zak, T.yC, rfl, t1, u1, eI c.a c.ea, eI cl.a cl.ea, rfl, rfl, .inl (.inl (s6 _ _ h1)), .inl (.inl (s6 _ _ e2)), _, rfl, ?_⟩
        rw [zEB]
        have el : (cs.getLast?.any fun m => !m.before c) = !(decide (cl.a < c.a) || (cl.a == c.a && decide (cl.ea < c.ea))) := by
          rw [ecs, List.getLast?_concat]
          rfl
        rw [← el]
        exact r _ s6
      · have ex : (!cs.isEmpty && cs.getLast?.any fun m => !m.before c) = cs.getLast?.any fun m => !m.before c := by
          cases cs with
          | nil => rfl
          | cons _ _ => rfl
        rw [ex]
        have s12 := s1.trans s2
        by_cases q9 : (cs.getLast?.any fun m => !m.before c) = true
        · rw [if_pos q9] at k
          rw [q9]
          exact Z6 (zN T (k.same s12))
        rw [if_neg q9] at k
        rw [Bool.eq_false_iff.mpr q9]
        refine zat ⟨_, rfl, bl, ks, cs, rfl, s2 _ _ hb1, Crs.same s2 crs1, by omega, fun H3 tl ts s3 htl tt => ?_⟩
        have s123 := s12.trans s3
        have hp3 := s3 _ _ (s2 _ _ hp)
        have h13 := s3 _ _ (s2 _ _ h1)
        have h23 := s3 _ _ (s2 _ _ h2)
        dsimp only [zrF, zmp, ztB, zwb]
        refine zEh (x := cs.any fun m => m.uses c.a c.ea) (y := cs.any fun m => m.uses c.c c.ec)
          (fun R r => ⟨_, rfl, p, _, dx, _, _, rfl, hp3, T.zak, T.yC, rfl, _, rfl, t1, tl, eI c.a c.ea, ts, _, rfl, rfl, h13, SqL.of htl, tt, _, rfl, ?_⟩)
          (fun _ R r => ⟨_, rfl, p, _, dx, _, _, rfl, hp3, T.zak, T.yM, rfl, _, rfl, t2, tl, eI c.c c.ec, ts, _, rfl, rfl, h23, SqL.of htl, tt, _, rfl, ?_⟩) ?_
        · rw [if_neg (by decide), zpK]
          exact r
        · rw [if_neg (by decide), zpK]
          exact r
        have eo : ((cs.any fun m => m.uses c.a c.ea) || (cs.any fun m => m.uses c.c c.ec)) = cs.any fun m => m.uses c.a c.ea || m.uses c.c c.ec := by
          rw [Bool.eq_iff_iff, Bool.or_eq_true, List.any_eq_true, List.any_eq_true, List.any_eq_true]
          constructor
          · rintro (⟨x, h1, h2⟩ | ⟨x, h1, h2⟩)
            · exact ⟨x, h1, by rw [h2, Bool.true_or]⟩
            · exact ⟨x, h1, by rw [h2, Bool.or_true]⟩
          · rintro ⟨x, h1, h2⟩
            rcases Bool.or_eq_true_iff.mp h2 with h | h
            · exact .inl ⟨x, h1, h⟩
            · exact .inr ⟨x, h1, h⟩
        rw [eo]
        by_cases q10 : (cs.any fun m => m.uses c.a c.ea || m.uses c.c c.ec) = true
        · rw [if_pos q10] at k
          rw [q10]
          exact Z6 (zN T (k.same s123))
        rw [if_neg q10] at k
        rw [Bool.eq_false_iff.mpr q10]
        refine zat ⟨_, rfl, _, rfl, _, rfl, p, wl, tl, ws, ts, walls, cs, c, rfl, ⟨dx, t1, t2, hp3, h13, h23⟩, s123 _ _ hw, Walls.same s123 wls, htl, tt, by omega, g2, g3, g4, l1, fun H4 s4 => ⟨_, rfl, ?_⟩⟩
        rw [← zEu le g1 g2 g3 g4]
        have sA := s123.trans s4
        cases hf : Bd.cornersFit walls cs c with
        | false =>
          rw [if_pos hf] at k
          exact Z6 (zN T (k.same sA))
        | true =>
          rw [if_neg (by rw [hf]; decide)] at k
          exact zat ⟨_, rfl, k H4 p sA ⟨dx, t1, t2, s4 _ _ hp3, s4 _ _ h13, s4 _ _ h23⟩⟩
end
end Wb
end
section
set_option Elab.async false
set_option linter.all false
set_option maxRecDepth 100000
set_option maxHeartbeats 4000000
namespace Wb
open PySem PySem.Spec PyProof.Rows L2 Wm
open PySem.W (Codec)
theorem zDN {line : Bd.Bytes} {x : HV} (e : zaG 0 line = .ok x) : ∃ b, x = .nm b := by
  rw [zsm] at e
  cases hf : zAh (Bd.ascii (zpf 0)) line with
  | none => rw [hf] at e; cases e
  | some z =>
    rw [hf] at e
    dsimp only at e
    unfold zcT at e
    rw [if_pos rfl] at e
    cases hn : zkG z with
    | error k => rw [hn] at e; cases e
    | ok b => rw [hn] at e; exact ⟨b, (Except.ok.inj e).symm⟩
theorem zCf {line : Bd.Bytes} {m : Nat} (e : zaG 1 line = .ok (.num m)) : 1 ≤ m := by
  rw [zsm] at e
  cases hf : zAh (Bd.ascii (zpf 1)) line with
  | none => rw [hf] at e; cases e
  | some z =>
    rw [hf] at e
    dsimp only at e
    unfold zcT at e
    rw [if_neg (by decide), if_pos rfl] at e
    unfold zcZ at e
    cases hn : Bd.readNumber z with
    | none => rw [hn] at e; cases e
    | some n =>
      rw [hn] at e
      dsimp only at e
      by_cases q : n < 1 ∨ 32 < n
      · rw [if_pos q] at e
        cases e
      · rw [if_neg q] at e
        have e' : HV.num n = HV.num m := Except.ok.inj e
        have := HV.num.inj e'
        omega
theorem zCv {h : List HV} (g : zAJ h) (h6 : h.length = 6) : 1 ≤ Wm.numAt h 1 := by
  have e : h[1]? = some h[1] := List.getElem?_eq_getElem (by omega)
  obtain ⟨line, hl⟩ := g 1 _ e
  obtain ⟨m, hm, _⟩ := zkn (by decide) hl
  rw [hm] at hl e
  have := zCf hl
  unfold Wm.numAt
  rw [e]
  exact this
theorem WallAt.is2 {CW CO : Addr} {H : Hp} {p : Addr} {h : List HV} {os : List Bd.Opening} (W : WallAt CW CO H p h os) (g : zAJ h) (o8 : os.length ≤ 1000) : ∃ dx op v0 as, WallIs CW CO H p dx op v0 as (ziU h os) ∧ ∃ q, v0 = .ref q ∧ H q = some (.lst (iB (ziU h os).name)) := by
  obtain ⟨dx, op, v0, as, W1⟩ := W.is g o8
  obtain ⟨dx', op', u0, v1, v2, v3, v4, v5, as', e, hv, ho, hos⟩ := W
  refine ⟨dx, op, v0, as, W1, ?_⟩
  have e2 := W1.at_
  rw [e] at e2
  have e3 : u0 = v0 := by
    injection e2 with e2
    injection e2 with _ _ e2
    unfold wlF at e2
    injection e2 with e2 _
    injection e2
  subst e3
  cases hv with
  | @cons _ x0 _ t a0 t0 =>
    obtain ⟨line, hl⟩ := g 0 _ rfl
    obtain ⟨b, rfl⟩ := zDN hl
    exact a0
theorem WRz.frame {Z Y : List Addr} {CR CO : Addr} {H H' : Hp} {X : List Addr} {r : Addr} {s : WS} (W : WRz Z CR CO H X r s) (f : ∀ b o, H b = some o → b ∉ Y → H' b = some o) (hy : ∀ y ∈ Y, y ∈ Z ∧ ∃ xs, H y = some (.lst xs)) (dj : ∀ x ∈ X, x ∉ Y) : WRz Z CR CO H' X r s := by
  obtain ⟨dx, pl, ph, po, hvs, as, las, rfl, U⟩ := W
  have ins : ∀ {q C d : Addr} {fs : List (Str × V)}, H q = some (.ins C d fs) → H' q = some (.ins C d fs) := fun {q C d fs} e => f _ _ e fun m => by
    obtain ⟨xs, e2⟩ := (hy _ m).2
    rw [e] at e2
    cases e2
  refine ⟨dx, pl, ph, po, hvs, as, las, rfl, ins U.ob, f _ _ U.hd (dj _ (by simp)), ?_, U.off, f _ _ U.op (dj _ (by simp)), Paired.mapP U.os fun q o ⟨dq, e⟩ => ⟨dq, ins e⟩, f _ _ U.ln (dj _ (by simp)), ?_, U.lo, U.z1, U.z2, U.z3, U.n1, U.n2, U.n3, U.h6, U.o8, U.l14, U.kd⟩
  · have pr : ∀ {l1 : List V} {l2 : List HV}, Paired (HvIs H) l1 l2 → (∀ v ∈ l1, zA1 v Z) → Paired (HvIs H') l1 l2 := fun r => by
      induction r with
      | nil => exact fun _ => .nil
      | @cons v z l1 l2 g t ih =>
        refine fun off => .cons ?_ (ih fun v hv => off v (by simp [hv]))
        cases z with
        | nm b =>
          obtain ⟨q, e, g⟩ := g
          exact ⟨q, e, f _ _ g fun m => off v (by simp) q e (hy _ m).1⟩
        | num n => exact g
    exact pr U.hv U.off
  · have pr : ∀ {A : List Addr} {B : List Bd.Bytes}, Rows H A B → (∀ x ∈ A, x ∉ Z) → Rows H' A B := fun r => by
      induction r with
      | nil => exact fun _ => .nil
      | cons g t ih => exact fun lo => .cons (f _ _ g fun m => lo _ (by simp) (hy _ m).1) (ih fun x hx => lo x (by simp [hx]))
    exact pr U.rows U.lo
theorem WRz.keep {Z : List Addr} {CR CO : Addr} {H H' : Hp} {X : List Addr} {r : Addr} {s : WS} (W : WRz Z CR CO H X r s) (k : Same H H') : WRz Z CR CO H' X r s := by
  obtain ⟨dx, pl, ph, po, hvs, as, las, rfl, U⟩ := W
  exact ⟨dx, pl, ph, po, hvs, as, las, rfl, U.keep k⟩
theorem WRz.grow {Z Z' : List Addr} {CR CO : Addr} {H : Hp} {X : List Addr} {r : Addr} {s : WS} (W : WRz Z CR CO H X r s) (g : ∀ z ∈ Z', z ∈ Z ∨ H z = none) (i : ∀ z ∈ Z, z ∈ Z') : WRz Z' CR CO H X r s := by
  obtain ⟨dx, pl, ph, po, hvs, as, las, rfl, U⟩ := W
  refine ⟨dx, pl, ph, po, hvs, as, las, rfl, U.ob, U.hd, U.hv, ?_, U.op, U.os, U.ln, U.rows, ?_, i _ U.z1, i _ U.z2, i _ U.z3, U.n1, U.n2, U.n3, U.h6, U.o8, U.l14, U.kd⟩
  · have pr : ∀ {l1 : List V} {l2 : List HV}, Paired (HvIs H) l1 l2 → ∀ v ∈ l1, ∀ p, v = .ref p → H p ≠ none := fun r => by
      induction r with
      | nil => intro v hv; cases hv
      | @cons v z l1 l2 f t ih =>
        intro u hu p e
        rcases List.mem_cons.mp hu with rfl | m
        · cases z with
          | nm b =>
            obtain ⟨q, e2, f⟩ := f
            rw [e] at e2
            obtain rfl := V.ref.inj e2
            rw [f]
            exact fun z => nomatch z
          | num n =>
            have f' : u = .int ((n : Nat) : Int) := f
            rw [e] at f'
            cases f'
        · exact ih u m p e
    intro v hv p e m
    rcases g p m with q | q
    · exact U.off v hv p e q
    · exact pr U.hv v hv p e q
  · have pr : ∀ {A : List Addr} {B : List Bd.Bytes}, Rows H A B → ∀ x ∈ A, H x ≠ none := fun r => by
      induction r with
      | nil => intro x hx; cases hx
      | cons g t ih =>
        intro x hx
        rcases List.mem_cons.mp hx with rfl | m
        · rw [g]
          exact fun z => nomatch z
        · exact ih x m
    intro x hx m
    rcases g x m with q | q
    · exact U.lo x hx q
    · exact pr U.rows x hx q
theorem WRz.first {Z Z' : List Addr} {CR CO : Addr} {H : Hp} {X : List Addr} {r : Addr} (W : WRz Z CR CO H X r ([], [], [])) (i : ∀ z ∈ X, z ∈ Z') : WRz Z' CR CO H X r ([], [], []) := by
  obtain ⟨dx, pl, ph, po, hvs, as, las, rfl, U⟩ := W
  have e1 : hvs = [] := by
    have q := U.hv
    cases q
    rfl
  have e2 : las = [] := by
    have q := U.rows
    cases q
    rfl
  subst e1 e2
  exact ⟨dx, pl, ph, po, [], as, [], rfl, U.ob, U.hd, U.hv, by simp, U.op, U.os, U.ln, U.rows, by simp, i _ (by simp), i _ (by simp), i _ (by simp), U.n1, U.n2, U.n3, U.h6, U.o8, U.l14, U.kd⟩
theorem WRz.nodup {Z : List Addr} {CR CO : Addr} {H : Hp} {X : List Addr} {r : Addr} {s : WS} (W : WRz Z CR CO H X r s) : X.Nodup := by
  obtain ⟨dx, pl, ph, po, hvs, as, las, rfl, U⟩ := W
  simp [U.n1, U.n2, U.n3]
def srF (pr pc : Addr) : List (Str × V) := [("readers", .ref pr), ("corners", .ref pc)]
structure SRd (CS CR CO CC : Addr) (H : Hp) (X : List Addr) (r dx pr pc : Addr) (rxs : List (Addr × List Addr)) (ks : List Addr) (s : SS) : Prop where
  eX : X = pr :: pc :: rxs.flatMap (·.2)
  ob : H r = some (.ins CS dx (srF pr pc))
  rd : H pr = some (.lst (rxs.map fun x => V.ref x.1))
  cr : H pc = some (.lst (ks.map V.ref))
  ws : Paired (fun x w => WRz X CR CO H x.2 x.1 w) rxs s.1
  cs : Crs CC H ks s.2
  nd : X.Nodup
  gd : SGood s
  gh : ∀ w ∈ s.1, zAJ w.1
def SR (CS CR CO CC : Addr) (H : Hp) (X : List Addr) (r : Addr) (s : SS) : Prop := ∃ (dx pr pc : Addr) (rxs : List (Addr × List Addr)) (ks : List Addr), SRd CS CR CO CC H X r dx pr pc rxs ks s
theorem SRd.keep {CS CR CO CC : Addr} {H H' : Hp} {X : List Addr} {r dx pr pc : Addr} {rxs : List (Addr × List Addr)} {ks : List Addr} {s : SS} (U : SRd CS CR CO CC H X r dx pr pc rxs ks s) (k : Same H H') : SRd CS CR CO CC H' X r dx pr pc rxs ks s :=
  ⟨U.eX, k _ _ U.ob, k _ _ U.rd, k _ _ U.cr, Paired.mapP U.ws fun _ _ h => h.keep k, Crs.same k U.cs, U.nd, U.gd, U.gh⟩
theorem SR.keep {CS CR CO CC : Addr} (H H' : Hp) (X : List Addr) (r : Addr) (s : SS) (h : SR CS CR CO CC H X r s) (k : Same H H') : SR CS CR CO CC H' X r s := by
  obtain ⟨dx, pr, pc, rxs, ks, U⟩ := h
  exact ⟨dx, pr, pc, rxs, ks, U.keep k⟩
theorem SR.obj {CS CR CO CC : Addr} (H : Hp) (X : List Addr) (r : Addr) (s : SS) (h : SR CS CR CO CC H X r s) : ∃ dx fs, H r = some (.ins CS dx fs) ∧ fs.lookup ("take" : Str) = none ∧ fs.lookup ("take_rest" : Str) = none := by
  obtain ⟨dx, pr, pc, rxs, ks, U⟩ := h
  exact ⟨dx, _, U.ob, rfl, rfl⟩
theorem SRd.lists {CS CR CO CC : Addr} {H : Hp} {X : List Addr} {r dx pr pc : Addr} {rxs : List (Addr × List Addr)} {ks : List Addr} {s : SS} (U : SRd CS CR CO CC H X r dx pr pc rxs ks s) : ∀ x ∈ X, ∃ xs, H x = some (.lst xs) := by
  intro x hx
  rw [U.eX] at hx
  rcases List.mem_cons.mp hx with rfl | hx
  · exact ⟨_, U.rd⟩
  rcases List.mem_cons.mp hx with rfl | hx
  · exact ⟨_, U.cr⟩
  obtain ⟨rx, m, hx⟩ := List.mem_flatMap.mp hx
  have pr : ∀ {A : List (Addr × List Addr)} {B : List WS}, Paired (fun x w => WRz X CR CO H x.2 x.1 w) A B → rx ∈ A → ∃ xs, H x = some (.lst xs) := fun r => by
    induction r with
    | nil => intro m; cases m
    | cons g t ih =>
      intro m
      rcases List.mem_cons.mp m with rfl | m
      · exact g.has x hx
      · exact ih m
  exact pr U.ws m
theorem SRd.has {CS CR CO CC : Addr} {H : Hp} {X : List Addr} {r dx pr pc : Addr} {rxs : List (Addr × List Addr)} {ks : List Addr} {s : SS} (U : SRd CS CR CO CC H X r dx pr pc rxs ks s) : ∀ x ∈ X, H x ≠ none := fun x hx e => by
  obtain ⟨xs, e2⟩ := U.lists x hx
  rw [e2] at e
  cases e
theorem SR.has {CS CR CO CC : Addr} {H : Hp} {X : List Addr} {r : Addr} {s : SS} (h : SR CS CR CO CC H X r s) : ∀ x ∈ X, H x ≠ none := by
  obtain ⟨dx, pr, pc, rxs, ks, U⟩ := h
  exact U.has
theorem Crs.frame {CC : Addr} {H H' : Hp} {Y : List Addr} (f : ∀ b o, H b = some o → b ∉ Y → H' b = some o) (hy : ∀ y ∈ Y, ∃ xs, H y = some (.lst xs)) {ks : List Addr} {cs : List Bd.Corner} (r : Crs CC H ks cs) : Crs CC H' ks cs := by
  have st : ∀ {q : Addr} {o : HO}, H q = some o → (∀ xs, o ≠ .lst xs) → H' q = some o := fun {q o} e n => f _ _ e fun m => by
    obtain ⟨xs, e2⟩ := hy _ m
    rw [e] at e2
    exact n xs (Option.some.inj e2)
  exact Paired.mapP r fun q k ⟨dx, t1, t2, e1, e2, e3⟩ => ⟨dx, t1, t2, st e1 (fun _ z => nomatch z), st e2 (fun _ z => nomatch z), st e3 (fun _ z => nomatch z)⟩
def zBj (CS CR CO CC : Addr) : Sp := fun vs H Q _ => ∃ (r dx : Addr), vs = [.ref r] ∧ H r = some (.ins CS dx []) ∧
  ∀ (H' : Hp) (X : List Addr), (∀ b o, H b = some o → b ≠ r → H' b = some o) → SR CS CR CO CC H' X r ([], []) → (∀ x ∈ X, H x = none) → Q .non H'
def zsl (CS CR CO CC : Addr) : Sp := fun vs H Q _ => ∃ (r : Addr) (X : List Addr) (s : SS), vs = [.ref r] ∧ SR CS CR CO CC H X r s ∧ ∀ H' : Hp, Same H H' → Q (.bl (zaq s)) H'
def zmW (CS CR CO CC CW : Addr) : Sp := fun vs H Q _ => ∃ (r : Addr) (X : List Addr) (s : SS), vs = [.ref r] ∧ SR CS CR CO CC H X r s ∧ (∀ x ∈ s.1, x.1.length = 6) ∧
  ∀ (H' : Hp) (p : Addr) (ws : List Addr), Same H H' → H p = none → H' p = some (.lst (ws.map V.ref)) → Walls CW CO H' ws (s.1.map Zp) → Q (.ref p) H'
def zBw (CS CR CO CC CL : Addr) : Sp := fun vs H Q E => ∃ (r l : Addr) (X : List Addr) (s : SS) (line : Bd.Bytes), vs = [.ref r, .ref l] ∧ SR CS CR CO CC H X r s ∧ H l = some (.lst (iB line)) ∧ l ∉ X ∧ line.length ≤ 10000 ∧ s.2 = [] ∧ (∀ x ∈ s.1, x.1.length = 6) ∧
  match zb3 s line with
  | .error k => Fails CL E H k
  | .ok s' => ∀ (H' : Hp) (X' : List Addr), (∀ b o, H b = some o → b ∉ X → H' b = some o) → SR CS CR CO CC H' X' r s' → (∀ x ∈ X', x ∈ X ∨ H x = none) → Q .non H'
theorem zqg {α β : Type} {F : α → β → Prop} {as : List α} {bs : List β} (p : Paired F as bs) (h : bs ≠ []) : ∃ ai x bi y, as = ai ++ [x] ∧ bs = bi ++ [y] ∧ Paired F ai bi ∧ F x y := by
  induction p with
  | nil => exact absurd rfl h
  | @cons a b as bs f t ih =>
    cases bs with
    | nil =>
      cases t
      exact ⟨[], a, [], b, rfl, rfl, .nil, f⟩
    | cons b' bs' =>
      obtain ⟨ai, x, bi, y, e1, e2, p1, p2⟩ := ih (by simp)
      exact ⟨a :: ai, x, b :: bi, y, by rw [e1]; rfl, by rw [e2]; rfl, .cons f p1, p2⟩
end Wb
end
section
set_option Elab.async false
set_option linter.all false
set_option maxRecDepth 100000
set_option maxHeartbeats 4000000
namespace Wb
open PySem PySem.Spec PyProof.Rows L2 Wm
open PySem.W (Codec)
section
variable {P : Program} {w : World} {K : PySem.W.Frag} {mg : Str → Option Value} {base : Heap} {a : Ad}
theorem zk5 (T : Txt K mg a) : FnOk P w K mg base (CXo P w) true 1 a.z7 a.zaS ["self"] (zBj a.zu a.zk a.zh a.zB) := by
  refine z9 T.zms zkS (fun vs H Q E h => ?_) (fun cdv A outer s0 H vs Q E hr h => ?_)
  · obtain ⟨r, dx, rfl, _⟩ := h
    rfl
  · obtain ⟨r, dx, rfl, hp, k⟩ := h
    refine ⟨_, (zo (zbo (pv 0) (Zd zg) rfl)
      (zj (zbo (pv 0) (Zd zg) rfl))), ?_⟩
    refine ⟨Nat.zero_le _, fun pr npr => ⟨_, rfl, r, _, dx, _, rfl, by rw [ze (zi hp npr)]; exact hp, T.zI, T.zx, (by show 0 < 1000; decide), ?_⟩⟩
    have rr : r ≠ pr := zi hp npr
    refine ⟨Nat.zero_le _, fun pc npc => ⟨_, rfl, r, _, dx, _, rfl, by rw [ze (zi zc npc)]; exact zc, T.zI, T.yd, (by show 1 < 1000; decide), ?_⟩⟩
    have rc : r ≠ pc := zi zc npc
    rw [ze (Ne.symm rc)] at npc
    have rpc : pr ≠ pc := fun e => by
      rw [← e, zc] at npc
      cases npc
    rw [ze (Ne.symm rpc)] at npc
    refine k _ [pr, pc] (fun b o e br => ?_) ⟨dx, pr, pc, [], [], rfl, ?_, ?_, ?_, .nil, .nil, by simp [rpc], SGood.start, fun w h => by simp at h⟩ ?_
    · rw [ze br, ze (zi e npc), ze br, ze (zi e npr)]
      exact e
    · rw [zc]
      rfl
    · rw [ze (Ne.symm rr), ze rpc, ze (Ne.symm rr), zc]
      rfl
    · rw [ze (Ne.symm rc), zc]
      rfl
    · intro x hx
      simp only [List.mem_cons, List.mem_nil_iff, or_false] at hx
      rcases hx with rfl | rfl
      · exact npr
      · exact npc
theorem zqm {CS CR CO CC : Addr} {H : Hp} {X : List Addr} {r dx pr pc : Addr} {rxs : List (Addr × List Addr)} {ks : List Addr} {s : SS} (U : SRd CS CR CO CC H X r dx pr pc rxs ks s) : (rxs.map fun x => V.ref x.1).isEmpty = s.1.isEmpty ∧ (ks.map V.ref).isEmpty = s.2.isEmpty := by
  have l1 := Paired.length U.ws
  have l2 := Paired.length U.cs
  constructor
  · cases rxs with
    | nil => cases h : s.1 with
      | nil => rfl
      | cons _ _ => rw [h] at l1; cases l1
    | cons _ _ => cases h : s.1 with
      | nil => rw [h] at l1; cases l1
      | cons _ _ => rfl
  · cases ks with
    | nil => cases h : s.2 with
      | nil => rfl
      | cons _ _ => rw [h] at l2; cases l2
    | cons _ _ => cases h : s.2 with
      | nil => rw [h] at l2; cases l2
      | cons _ _ => rfl
theorem zfH (T : Txt K mg a) : FnOk P w K mg base (CXo P w) true 2 a.zW a.Z4 ["self"] (zsl a.zu a.zk a.zh a.zB) := by
  have zcv : FnOk P w K mg base (CXo P w) true 1 a.zT a.ZG ["self"] (zsz a.zk a.zh) := zfw T
  refine z9 T.znZ zmv (fun vs H Q E h => ?_) (fun cdv A outer s0 H vs Q E hr h => ?_)
  · obtain ⟨r, X, s, rfl, _⟩ := h
    rfl
  · obtain ⟨r, X, s, rfl, ⟨dx, pr, pc, rxs, ks, U⟩, k⟩ := h
    refine ⟨_, (zj (yx (zBD (zcK (zCZ hr.units0) (zw (pv 0) rfl) (Zd zg) (yp _)) (zpc (zAu (zka (Zi yJ (zw (pv 0) rfl) (zo2 zjx zD) (fun _ _ => rfl)) T.zR T.zfz zcv (hr.mono (by decide)) T.zfF .nil takes_cx.passes)))))), ?_⟩
    refine ⟨_, rfl, r, _, dx, _, _, rfl, U.ob, T.zI, T.zx, rfl, Nat.zero_le _, fun q nq => ?_⟩
    have s1 : Same H (upd H q (.lst [])) := (Same.refl _).new nq
    have hq : upd H q (.lst []) q = some (.lst []) := zc
    generalize upd H q (.lst []) = H1 at s1 hq
    have U1 := U.keep s1
    refine ⟨pr, q, _, rfl, rfl, SqL.of U1.rd, SqL.of hq, _, rfl, ?_⟩
    rw [(zqm U).1]
    by_cases h0 : s.1 = []
    · rw [h0]
      have e : zaq s = true := by
        unfold zaq
        rw [h0]
        rfl
      rw [e] at k
      exact Z6 (k _ s1)
    · obtain ⟨ri, x, wi, y, e1, e2, p1, p2⟩ := zqg U1.ws h0
      rw [show s.1.isEmpty = false by rw [List.isEmpty_eq_false_iff]; exact h0]
      refine zat ?_
      obtain ⟨dx2, fs, ob, lk⟩ : ∃ dx2 fs, H1 x.1 = some (.ins a.zk dx2 fs) ∧ fs.lookup ("has_head" : Str) = none := by
        obtain ⟨dx2, pl, ph, po, hvs, as, las, _, V1⟩ := id p2
        exact ⟨dx2, _, V1.ob, rfl⟩
      have hrd := U1.rd
      rw [e1, List.map_append] at hrd
      refine ⟨_, rfl, r, _, dx, _, _, rfl, U1.ob, T.zI, T.zx, rfl, _, rfl, pr, _, _, .ref x.1, rfl, rfl, SqL.of hrd, zif _ _, x.1, dx2, fs, rfl, ob, lk, x.1, X, _, y, rfl, p2, ?_⟩
      have e : zaq s = !decide (y.1.length = 6) := by
        have z : s = (wi ++ [y], s.2) := by rw [← e2]
        rw [z, zgy]
        have m := U.gd.most y (by rw [e2]; simp)
        rw [Bool.eq_iff_iff, decide_eq_true_eq, Bool.not_eq_true', decide_eq_false_iff_not]
        omega
      rw [e] at k
      exact ⟨_, rfl, k _ s1⟩
theorem zdw (T : Txt K mg a) : FnOk P w K mg base (CXo P w) true 3 a.zH a.Zl ["self"] (zmW a.zu a.zk a.zh a.zB a.zS) := by
  have ztk : FnOk P w K mg base (CXo P w) true 1 a.y9 a.zd8 ["self", "head", "openings"] (zuX a.zS) := zr6 T
  refine z9 T.zkq zbp (fun vs H Q E h => ?_) (fun cdv A outer s0 H vs Q E hr h => ?_)
  · obtain ⟨r, X, s, rfl, _⟩ := h
    rfl
  · obtain ⟨r, X, s, rfl, ⟨dx, pr, pc, rxs, ks, U⟩, full, k⟩ := h
    have zl := szl
    have w4 := U.gd.w4
    have lr := Paired.length U.ws
    refine ⟨_, (zj (yx (zx3 takes_cx rfl rfl (own := [("reader", 1)]) rfl zbp.nd (zb4 (zw (pv 0) rfl)) (by show ze5 ["self", "reader"] (za zE) _ [("reader", 1)]; exact ⟨rfl, by decide +kernel, by decide +kernel, by decide +kernel, by decide +kernel⟩) (fun s H C cl fp xe tk => (ZF (i := 1) zbp.nd rfl (by first | exact Or.inl rfl | exact Or.inr rfl))) (fun s H C cl fp xe tk => zdh) (fun s H C cl fp xe tk => (ztP T.zE1 ztk (hr.mono (by decide)) rfl T.zEC T.ztC .nil tk.passes (zb (zq2 (K := K) rfl (pv 1) rfl) (zb (zq2 (K := K) rfl (pv 1) rfl) zg))))))), ?_⟩
    refine ⟨_, rfl, r, _, dx, _, _, rfl, U.ob, T.zI, T.zx, rfl, pr, rfl, ⟨_, SqL.of U.rd⟩, fun D hD => ?_⟩
    refine zho (K := K) (a := pr) (xs := rxs.map fun x => V.ref x.1) (fun i H' => ∃ (ws : List Addr) (Hm : Hp), Same H Hm ∧ Same Hm H' ∧ Hm D = none ∧ H' D = some (.lst (ws.map V.ref)) ∧ Walls a.zS a.zh Hm ws ((s.1.take i).map Zp))
      ⟨[], H, Same.refl _, (Same.refl _).new hD, hD, zc, .nil⟩ (fun i H' _ ⟨_, _, s1, s2, _⟩ => SqL.of (s2 _ _ (s1 _ _ U.rd))) ?_ ?_
    · rintro i v H' hi ⟨ws, Hm, sm, s1, nDm, hD1, wls⟩
      rw [List.getElem?_map] at hi
      obtain ⟨x, hx, rfl⟩ : ∃ x, rxs[i]? = some x ∧ v = .ref x.1 := by
        cases e : rxs[i]? with
        | none => rw [e] at hi; cases hi
        | some x => rw [e] at hi; exact ⟨x, rfl, (Option.some.inj hi).symm⟩
      obtain ⟨y, hy, Wz⟩ := Paired.get U.ws hx
      have il := (List.getElem?_eq_some_iff.mp hy).1
      obtain ⟨dx2, pl, ph, po, hvs, as, las, _, V0⟩ := Wz
      have V1 := V0.keep (sm.trans s1)
      have ym := List.mem_of_getElem? hy
      have y6 := full y ym
      have lenh : hvs.length = y.1.length := Paired.length V1.hv
      obtain ⟨v0, v1, v2, v3, v4, v5, rfl⟩ : ∃ v0 v1 v2 v3 v4 v5, hvs = [v0, v1, v2, v3, v4, v5] := by
        match hvs, lenh.trans y6 with
        | [v0, v1, v2, v3, v4, v5], _ => exact ⟨_, _, _, _, _, _, rfl⟩
      have lw := Paired.length wls
      rw [List.length_map, List.length_take] at lw
      refine ⟨rfl, _, rfl, x.1, _, dx2, _, _, rfl, V1.ob, T.zR, T.zY, rfl, _, rfl, x.1, _, dx2, _, _, rfl, V1.ob, T.zR, T.yy, rfl, fun xw dw nx ndw dxx => ⟨xw, dw, ph, po, v0, v1, v2, v3, v4, v5, rfl, zc, ?_, fun H7 e7 kp => ⟨rfl, ?_⟩⟩⟩
      · rw [ze (zi V1.hd nx), ze (zi V1.hd ndw)]
        exact V1.hd
      have s7 : Same H' H7 := fun b o e => by
        have q1 : b ≠ xw := zi e nx
        have q2 : b ≠ dw := zi e ndw
        rw [kp b q1, ze q1, ze q2]
        exact e
      have hD7 := s7 _ _ hD1
      have xD : xw ≠ D := fun e => by
        rw [e, hD1] at nx
        cases nx
      obtain ⟨Hn, hn1, hn2⟩ : ∃ Hn : Hp, Hn D = none ∧ ∀ b, b ≠ D → Hn b = H7 b := ⟨fun b => if b = D then none else H7 b, if_pos rfl, fun b h => if_neg h⟩
      have mn : Same Hm Hn := fun b o e => by
        rw [hn2 b (zi e nDm)]
        exact s7 _ _ (s1 _ _ e)
      have n7 : ∀ xs, Same Hn (upd H7 D (.lst xs)) := fun xs b o e => by
        have q := zi e hn1
        rw [ze q, ← hn2 b q]
        exact e
      have V7 := V0.keep (sm.trans mn)
      have WA : WallAt a.zS a.zh Hn xw y.1 y.2.1 := ⟨dw, po, v0, v1, v2, v3, v4, v5, as, by rw [hn2 xw xD]; exact e7, V7.hv, V7.op, V7.os⟩
      have o8 : y.2.1.length ≤ 8 := V0.o8
      have W2 := WA.is2 (U.gh y ym) (by omega)
      refine ⟨_, hD7, (by rw [List.length_map]; omega), ws ++ [xw], Hn, sm.trans mn, n7 _, hn1, ?_, ?_⟩
      · rw [zc, List.map_append]
        rfl
      · rw [ZC hy, List.map_append]
        exact Paired.snoc (Walls.same mn wls) W2
    · rintro H1 ⟨ws, Hm, sm, s1, nDm, hD1, wls⟩
      rw [List.length_map, lr, List.take_length] at wls
      exact k _ D ws (sm.trans s1) hD hD1 (Walls.same s1 wls)
end
end Wb
end
section
set_option Elab.async false
set_option linter.all false
set_option maxRecDepth 100000
set_option maxHeartbeats 4000000
namespace Wb
open PySem PySem.Spec PyProof.Rows L2 Wm
open PySem.W (Codec)
section
variable {P : Program} {w : World} {K : PySem.W.Frag} {mg : Str → Option Value} {base : Heap} {a : Ad}
theorem WRz.ob {Z : List Addr} {CR CO : Addr} {H : Hp} {X : List Addr} {r : Addr} {s : WS} (W : WRz Z CR CO H X r s) (f : Str) (hf : f ≠ "lines") (hf2 : f ≠ "head") (hf3 : f ≠ "openings") : ∃ dx fs, H r = some (.ins CR dx fs) ∧ fs.lookup f = none := by
  obtain ⟨dx, pl, ph, po, hvs, as, las, _, U⟩ := W
  refine ⟨dx, _, U.ob, ?_⟩
  unfold wrF
  rw [List.lookup_cons, List.lookup_cons, List.lookup_cons]
  rw [show (f == ("lines" : Str)) = false from beq_eq_false_iff_ne.mpr hf, show (f == ("head" : Str)) = false from beq_eq_false_iff_ne.mpr hf2, show (f == ("openings" : Str)) = false from beq_eq_false_iff_ne.mpr hf3]
  rfl
theorem WRd.name {Z : List Addr} {CR CO : Addr} {H : Hp} {r dx pl ph po : Addr} {hvs : List V} {as las : List Addr} {s : WS} (U : WRd Z CR CO H r dx pl ph po hvs as las s) (h : s.1 ≠ []) : ∃ q, hvs[0]? = some (.ref q) ∧ H q = some (.lst (iB (nameAt s.1))) := by
  have l0 : 0 < s.1.length := List.length_pos_iff.mpr h
  have e : s.1[0]? = some s.1[0] := List.getElem?_eq_getElem l0
  have z := U.kd 0 _ e
  rw [if_pos rfl] at z
  obtain ⟨b, z⟩ := z
  rw [z] at e
  obtain ⟨v, hv, q, rfl, hq⟩ := Paired.getR U.hv e
  refine ⟨q, hv, ?_⟩
  have en : nameAt s.1 = b := by
    unfold Wm.nameAt
    rw [e]
  rw [en]
  exact hq
theorem zjk (T : Txt K mg a) : FnOk P w K mg base (CXo P w) true 7 a.zP a.zae ["self", "line"] (zBw a.zu a.zk a.zh a.zB a.zd) := by
  have zf : FnOk P w K mg base (CXo P w) true 1 a.zv a.zy ["self", "kind"] (zft a.zd "kind") := zJ T
  have zmH : FnOk P w K mg base (CXo P w) true 1 a.z4 a.zaM ["self"] (zzC a.zk a.zh) := zkX T
  have zcM : FnOk P w K mg base (CXo P w) true 6 a.yn a.za6 ["self", "line"] (zxP a.zk a.zh a.zd) := zhf T
  refine z9 T.zkh ZS (fun vs H Q E h => ?_) (fun cdv A outer s0 H vs Q E hr h => ?_)
  · obtain ⟨r, l, X, s, line, rfl, _⟩ := h
    rfl
  · obtain ⟨r, l, X, s, line, rfl, ⟨dx, pr, pc, rxs, ks, U⟩, hL, nl, hl, hcs, full, k⟩ := h
    have zl := szl
    have w4 := U.gd.w4
    have lr := Paired.length U.ws
    refine ⟨_, (zo (zai (i := 2) ZS.nd rfl (by first | exact Or.inl rfl | exact Or.inr rfl) (zyL T.zyG zmH (hr.mono (by decide)) rfl T.zys T.zmM .nil takes_cx.passes))
      (zo (ZT (zd4 (pv 2) T.zR T.zeL zcM (hr.mono (by decide)) T.zfo .nil takes_cx.passes (zb (pv 1) zg)))
      (zo (ZD (yl (zAt hr.units) (Zi yJ (zw (pv 2) rfl) zD (fun _ _ => rfl)) (zzk (own := [("before", 3)]) rfl ZS.nd (zb4 (zw (pv 0) rfl)) (by show ze5 ["self", "line", "reader", "before"] (za zG) _ [("before", 3)]; exact ⟨rfl, by decide +kernel, by decide +kernel, by decide +kernel, by decide +kernel⟩) (fun s H C cl fp => (ZF (i := 3) ZS.nd rfl (by first | exact Or.inl rfl | exact Or.inr rfl))) (fun s H C cl fp => zdh) (fun s H C cl fp => (Zi (zzH (K := K) rfl) (zq2 (K := K) rfl (pv 3) rfl) zD (fun _ _ => rfl)))) rfl) (zj (yI takes_cx rfl (yB T.zM zf (hr.mono (by decide)) rfl T.zF T.zr takes_cx (zb (zz (v := .int 6) rfl T.zxR ⟨_, rfl⟩) zg)))) yD)
      (zo (ZD (yl zoP (yL yz rfl T.z_len zc1 (zb (zw (pv 0) rfl) zg)) (zz (v := .int 4) rfl T.zxJ ⟨_, rfl⟩) (yp _)) (zj (yI takes_cx rfl (yB T.zM zf (hr.mono (by decide)) rfl T.zF T.zr takes_cx (zb (zz (v := .int 7) rfl T.zxS ⟨_, rfl⟩) zg)))) yD)
      (zj (ZT (zmb PySem.F.plainAttrs_list PySem.F.slot_list_append PySem.F.type_list_append zeD (zw (pv 0) rfl) (zb (pv 2) zg)))))))), ?_⟩
    refine fun rn dn nrn ndn nnn => ⟨rn, dn, rfl, zc, fun H1 Xn f1 W0 fr => ⟨rfl, ?_⟩⟩
    have s1 : Same H H1 := fun b o e => f1 b o (by rw [ze (zi e nrn), ze (zi e ndn)]; exact e) (zi e nrn)
    have nX : ∀ x ∈ Xn, H x = none := fun x hx => by
      have e := fr x hx
      by_cases q : x = rn
      · rw [q]; exact nrn
      · rw [ze q] at e
        by_cases q2 : x = dn
        · rw [q2]; exact ndn
        · rw [ze q2] at e
          exact e
    have W1 : WRz (X ++ Xn) a.zk a.zh H1 Xn rn ([], [], []) := WRz.first W0 fun z hz => List.mem_append_right _ hz
    have hZ : ∀ z ∈ X ++ Xn, H1 z ≠ none := fun z hz => by
      rcases List.mem_append.mp hz with m | m
      · obtain ⟨xs, e⟩ := U.lists z m
        rw [s1 _ _ e]
        exact fun z => nomatch z
      · exact W0.has z m
    have nlZ : l ∉ X ++ Xn := fun m => (List.mem_append.mp m).elim nl fun m => by
      rw [nX l m] at hL
      cases hL
    obtain ⟨d1, fs1, ob1, lk1⟩ := W1.ob "take" (by decide) (by decide) (by decide)
    refine ⟨_, rfl, rn, d1, fs1, rfl, ob1, lk1, _, rfl, rn, l, X ++ Xn, Xn, _, line, rfl, W1, hZ, s1 _ _ hL, nlZ, hl, ?_⟩
    unfold zb3 at k
    cases hs : za1 ([], [], []) line with
    | error e =>
      rw [hs] at k
      exact k.same s1
    | ok rs =>
      rw [hs] at k
      dsimp only at k ⊢
      intro H2 f2 W2
      have s2 : Same H H2 := fun b o e => f2 b o (s1 b o e) fun m => by
        rw [nX b m] at e
        cases e
      have U2 := U.keep s2
      have rs1 : rs.1 ≠ [] := fun z => by
        rcases zp3 hs with ⟨_, q⟩ | ⟨q, _⟩
        · rw [z] at q
          cases q
        · exact q (by decide)
      obtain ⟨d2, pl, ph, po, hvs, as, las, eXn, V2⟩ := id W2
      obtain ⟨q0, g0, hq0⟩ := V2.name rs1
      refine ⟨_, rfl, rn, _, d2, _, _, rfl, V2.ob, T.zR, T.zY, rfl, ph, _, _, _, rfl, rfl, SqL.of V2.hd, yj (j := 0) g0, _, rfl, r, _, dx, _, _, rfl, U2.ob, T.zI, T.zx, rfl, pr, rfl, ⟨_, SqL.of U2.rd⟩, fun D hD => ?_⟩
      refine zho (K := K) (a := pr) (xs := rxs.map fun x => V.ref x.1) (fun i H' => ∃ qs : List Addr, Same H2 H' ∧ H' D = some (.lst (qs.map V.ref)) ∧ Lsts H2 qs ((s.1.take i).map fun y => jB (nameAt y.1)))
        ⟨[], (Same.refl _).new hD, zc, .nil⟩ (fun i H' _ ⟨_, s3, _⟩ => SqL.of (s3 _ _ U2.rd)) ?_ ?_
      · rintro i v H' hi ⟨qs, s3, hD3, ls⟩
        rw [List.getElem?_map] at hi
        obtain ⟨x, hx, rfl⟩ : ∃ x, rxs[i]? = some x ∧ v = .ref x.1 := by
          cases e : rxs[i]? with
          | none => rw [e] at hi; cases hi
          | some x => rw [e] at hi; exact ⟨x, rfl, (Option.some.inj hi).symm⟩
        obtain ⟨y, hy, Wz⟩ := Paired.get U2.ws hx
        obtain ⟨d3, pl3, ph3, po3, hvs3, as3, las3, _, V3⟩ := Wz
        have V4 := V3.keep s3
        have y6 := full y (List.mem_of_getElem? hy)
        obtain ⟨q3, g3, hq3⟩ := V3.name (fun z => by rw [z] at y6; cases y6)
        have il := (List.getElem?_eq_some_iff.mp hy).1
        have lq := Paired.length ls
        rw [List.length_map, List.length_take] at lq
        refine ⟨rfl, _, rfl, x.1, _, d3, _, _, rfl, V4.ob, T.zR, T.zY, rfl, ph3, _, _, _, rfl, rfl, SqL.of V4.hd, yj (j := 0) g3, _, hD3, (by rw [List.length_map]; omega), qs ++ [q3], s3.set hD, ?_, ?_⟩
        · rw [zc, List.map_append]
          rfl
        · rw [ZC hy, List.map_append]
          refine Paired.snoc ls ?_
          rw [hq3, zuA]
      · rintro H3 ⟨qs, s3, hD3, ls⟩
        rw [List.length_map, lr, List.take_length] at ls
        refine ⟨q0, D, jB (nameAt rs.1), qs, _, rfl, rfl, (by rw [← zuA]; exact SqL.of (s3 _ _ hq0)), SqL.of hD3, Lsts.same s3 ls, _, rfl, ?_⟩
        rw [if_neg (by decide)]
        have ec : (s.1.map fun y => jB (nameAt y.1)).contains (jB (nameAt rs.1)) = s.1.any fun q => nameAt q.1 == nameAt rs.1 := by
          rw [Bool.eq_iff_iff, List.contains_iff_mem, List.mem_map, List.any_eq_true]
          refine exists_congr fun y => and_congr_right fun _ => ?_
          rw [beq_iff_eq]
          exact jB_inj
        rw [ec]
        have s23 := s2.trans s3
        by_cases q6 : (s.1.any fun q => nameAt q.1 == nameAt rs.1) = true
        · rw [if_pos q6] at k
          rw [q6]
          exact Z6 (zN T (k.same s23))
        rw [if_neg q6] at k
        rw [Bool.eq_false_iff.mpr q6]
        refine zat ?_
        have U3 := U.keep s23
        refine ⟨_, rfl, r, _, dx, _, _, rfl, U3.ob, T.zI, T.zx, rfl, pr, _, rfl, .inl (SqL.of U3.rd), rfl, _, rfl, ?_⟩
        rw [List.length_map, lr]
        by_cases q7 : 4 ≤ s.1.length
        · rw [if_pos q7] at k
          rw [decide_eq_true (show V.int ((s.1.length : Nat) : Int) = V.int 4 by rw [show s.1.length = 4 by omega]; rfl)]
          exact Z6 (zN T (k.same s23))
        rw [if_neg q7] at k
        rw [decide_eq_false (show ¬ V.int ((s.1.length : Nat) : Int) = V.int 4 from fun z => q7 (by have := V.int.inj z; omega))]
        refine zat ⟨_, rfl, r, _, dx, _, _, rfl, U3.ob, T.zI, T.zx, rfl, .inl ⟨rfl, _, SqL.of U3.rd⟩, _, rfl, pr, _, _, rfl, rfl, U3.rd, (by rw [List.length_map]; omega), ?_⟩
        have hb : zb3 s line = .ok (s.1 ++ [rs], s.2) := by
          unfold zb3
          rw [hs]
          dsimp only
          rw [if_neg q6, if_neg q7]
        obtain ⟨gd', _⟩ := zAb U.gd hcs full hb
        have pX : pr ∈ X := by rw [U.eX]; simp
        have cX : pc ∈ X := by rw [U.eX]; simp
        have pc_ne : pr ≠ pc := by
          have nd := U.nd
          rw [U.eX] at nd
          simp at nd
          exact nd.1.1
        have pnx : ∀ x ∈ rxs, pr ∉ x.2 := fun x hx m => by
          have nd := U.nd
          rw [U.eX] at nd
          exact (List.nodup_cons.mp nd).1 (List.mem_cons_of_mem _ (List.mem_flatMap.mpr ⟨x, hx, m⟩))
        have fZ : ∀ b o, H3 b = some o → b ∉ [pr] → upd H3 pr (.lst ((rxs.map fun x => V.ref x.1) ++ [.ref rn])) b = some o := fun b o e n => by
          rw [ze (fun z => n (by simp [z]))]
          exact e
        have ins : ∀ {q C d : Addr} {fs : List (Str × V)}, H3 q = some (.ins C d fs) → upd H3 pr (.lst ((rxs.map fun x => V.ref x.1) ++ [.ref rn])) q = some (.ins C d fs) := fun {q C d fs} e => by
          rw [ze (zi3 e U3.rd (by intro z; cases z))]
          exact e
        have hy : ∀ y ∈ [pr], y ∈ X ++ Xn ∧ ∃ xs, H3 y = some (.lst xs) := fun y hy => by
          rw [List.mem_singleton.mp hy]
          exact ⟨List.mem_append_left _ pX, _, U3.rd⟩
        have eX' : X ++ Xn = pr :: pc :: (rxs ++ [(rn, Xn)]).flatMap (·.2) := by
          rw [U.eX, List.flatMap_append]
          simp
        refine k _ (X ++ Xn) (fun b o e n => ?_) ⟨dx, pr, pc, rxs ++ [(rn, Xn)], ks, eX', ins U3.ob, ?_, ?_, ?_, ?_, ?_, gd', ?_⟩ (fun x hx => ?_)
        · rw [ze (fun z => n (by rw [z]; exact pX))]
          exact s23 b o e
        · rw [zc, List.map_append]
          rfl
        · rw [ze (Ne.symm pc_ne)]
          exact U3.cr
        · have old : ∀ {A : List (Addr × List Addr)} {B : List WS}, Paired (fun x w => WRz X a.zk a.zh H x.2 x.1 w) A B → (∀ x ∈ A, pr ∉ x.2) → Paired (fun x w => WRz (X ++ Xn) a.zk a.zh (upd H3 pr (.lst ((rxs.map fun x => V.ref x.1) ++ [.ref rn]))) x.2 x.1 w) A B := fun rr => by
            induction rr with
            | nil => exact fun _ => .nil
            | @cons x y A B g t ih =>
              refine fun np => .cons ?_ (ih fun x hx => np x (by simp [hx]))
              have g1 : WRz (X ++ Xn) a.zk a.zh H x.2 x.1 y := g.grow (fun z hz => (List.mem_append.mp hz).imp_right (nX z)) fun z hz => List.mem_append_left _ hz
              exact (g1.keep s23).frame fZ hy fun z hz m => np x (by simp) (by rw [← List.mem_singleton.mp m]; exact hz)
          refine Paired.snoc (old U.ws pnx) ?_
          exact (W2.keep s3).frame fZ hy fun z hz m => by
            have e := nX z hz
            rw [List.mem_singleton.mp m] at e
            obtain ⟨xs, e2⟩ := U.lists pr pX
            rw [e2] at e
            cases e
        · exact Crs.frame fZ (fun y hy' => (hy y hy').2) U3.cs
        · refine List.nodup_append.mpr ⟨U.nd, W2.nodup, fun x hx y hy e => ?_⟩
          rw [← e] at hy
          exact U.has x hx (nX x hy)
        · intro w' hw'
          rcases List.mem_append.mp hw' with m | m
          · exact U.gh w' m
          · rw [List.mem_singleton.mp m]
            have tk : zcP [] [] line = .ok (rs.1, rs.2.1) := by
              unfold za1 at hs
              cases ht : zcP ([] : List HV) ([] : List Bd.Opening) line with
              | error e => rw [show zcP ([], [], []).1 ([], [], []).2.1 line = zcP ([] : List HV) ([] : List Bd.Opening) line from rfl, ht] at hs; cases hs
              | ok z =>
                rw [show zcP ([], [], []).1 ([], [], []).2.1 line = zcP ([] : List HV) ([] : List Bd.Opening) line from rfl, ht] at hs
                obtain rfl := Except.ok.inj hs
                rfl
            exact zwm (fun n x h => by simp at h) tk
        · rcases List.mem_append.mp hx with m | m
          · exact .inl m
          · exact .inr (nX x m)
end
end Wb
end
section
set_option Elab.async false
set_option linter.all false
set_option maxRecDepth 100000
set_option maxHeartbeats 4000000
namespace Wb
open PySem PySem.Spec PyProof.Rows L2 Wm
open PySem.W (Codec)
theorem zr5 (w : String) (wd line : Bd.Bytes) (h : Bd.ascii w ++ [32] = wd) : decide (line.take wd.length = wd) = Bd.begins w line := by
  unfold Bd.begins Bd.behind
  have l : (Bd.ascii w).length + 1 = wd.length := by
    rw [← h]
    simp
  rw [l, h]
  by_cases q : line.take wd.length = wd
  · rw [decide_eq_true q, if_pos q]
    rfl
  · rw [decide_eq_false q, if_neg q]
    rfl
theorem SRd.last {CS CR CO CC : Addr} {H H' : Hp} {X : List Addr} {r dx pr pc : Addr} {rxs ri : List (Addr × List Addr)} {x : Addr × List Addr} {ks : List Addr} {s : SS} {wi : List WS} {y y' : WS} {line : Bd.Bytes} (U : SRd CS CR CO CC H X r dx pr pc rxs ks s) (e1 : rxs = ri ++ [x]) (e2 : s.1 = wi ++ [y])
    (f : ∀ b o, H b = some o → b ∉ x.2 → H' b = some o) (W : WRz X CR CO H' x.2 x.1 y') (g : SGood (wi ++ [y'], s.2)) (hw : za1 y line = .ok y') {R : Prop} (k : SR CS CR CO CC H' X r (wi ++ [y'], s.2) → R) : R := by
  have nd := U.nd
  rw [U.eX, e1, List.flatMap_append] at nd
  have ex : [x].flatMap (·.2) = x.2 := by simp
  rw [ex] at nd
  have n1 := List.nodup_cons.mp nd
  have n2 := List.nodup_cons.mp n1.2
  have n3 := List.nodup_append.mp n2.2
  have sub : ∀ z ∈ x.2, z ∈ X := fun z hz => by
    rw [U.eX, e1, List.flatMap_append]
    simp [hz]
  have hy : ∀ z ∈ x.2, z ∈ X ∧ ∃ xs, H z = some (.lst xs) := fun z hz => ⟨sub z hz, U.lists z (sub z hz)⟩
  have ws := U.ws
  rw [e1, e2] at ws
  have li : ri.length = wi.length := by
    have := Paired.length ws
    simpa using this
  have split : ∀ {A : List (Addr × List Addr)} {B : List WS}, A.length = B.length → Paired (fun x w => WRz X CR CO H x.2 x.1 w) (A ++ [x]) (B ++ [y]) → (∀ z ∈ A, ∀ b ∈ z.2, b ∉ x.2) → Paired (fun x w => WRz X CR CO H' x.2 x.1 w) A B := fun {A} => by
    induction A with
    | nil =>
      intro B hl p _
      cases B with
      | nil => exact .nil
      | cons _ _ => cases hl
    | cons z A ih =>
      intro B hl p dj
      cases B with
      | nil => cases hl
      | cons u B =>
        cases p with
        | cons g t => exact .cons (g.frame f hy (dj z (by simp))) (ih (by simpa using hl) t fun z' hz' => dj z' (by simp [hz']))
  have ins : ∀ {q C d : Addr} {fs : List (Str × V)}, H q = some (.ins C d fs) → H' q = some (.ins C d fs) := fun {q C d fs} e => f _ _ e fun m => by
    obtain ⟨xs, e2⟩ := (hy _ m).2
    rw [e] at e2
    cases e2
  refine k ⟨dx, pr, pc, rxs, ks, U.eX, ins U.ob, f _ _ U.rd fun m => n1.1 (List.mem_cons_of_mem _ (List.mem_append_right _ m)), f _ _ U.cr fun m => n2.1 (List.mem_append_right _ m), ?_, Crs.frame f (fun z hz => (hy z hz).2) U.cs, U.nd, g, ?_⟩
  · rw [e1]
    exact Paired.snoc (split li ws fun z hz b hb m => n3.2.2 b (List.mem_flatMap.mpr ⟨z, hz, hb⟩) b m rfl) W
  · intro w hw'
    have gh := U.gh
    rw [e2] at gh
    rcases List.mem_append.mp hw' with m | m
    · exact gh w (by simp [m])
    · rw [List.mem_singleton.mp m]
      unfold za1 at hw
      cases ht : zcP y.1 y.2.1 line with
      | error e => rw [ht] at hw; cases hw
      | ok z =>
        rw [ht] at hw
        obtain rfl := Except.ok.inj hw
        exact zwm (h' := z.1) (o' := z.2) (gh y (by simp)) ht
theorem SRd.corner {CS CR CO CC : Addr} {H : Hp} {X : List Addr} {r dx pr pc : Addr} {rxs : List (Addr × List Addr)} {ks : List Addr} {s : SS} {p : Addr} {c : Bd.Corner} (U : SRd CS CR CO CC H X r dx pr pc rxs ks s) (hc : CrAt CC H p c) (g : SGood (s.1, s.2 ++ [c])) :
    SR CS CR CO CC (upd H pc (.lst (ks.map V.ref ++ [.ref p]))) X r (s.1, s.2 ++ [c]) := by
  have nd := U.nd
  rw [U.eX] at nd
  have n1 := List.nodup_cons.mp nd
  have n2 := List.nodup_cons.mp n1.2
  have pp : pr ≠ pc := fun e => n1.1 (by rw [e]; simp)
  have f : ∀ b o, H b = some o → b ∉ [pc] → upd H pc (.lst (ks.map V.ref ++ [.ref p])) b = some o := fun b o e n => by
    rw [ze (fun z => n (by simp [z]))]
    exact e
  have hy : ∀ z ∈ [pc], z ∈ X ∧ ∃ xs, H z = some (.lst xs) := fun z hz => by
    rw [List.mem_singleton.mp hz, U.eX]
    exact ⟨by simp, _, U.cr⟩
  refine ⟨dx, pr, pc, rxs, ks ++ [p], U.eX, ?_, ?_, ?_, ?_, ?_, U.nd, g, U.gh⟩
  · rw [ze (zi3 U.ob U.cr (by intro z; cases z))]
    exact U.ob
  · rw [ze pp]
    exact U.rd
  · rw [zc, List.map_append]
    rfl
  · have all : ∀ {A : List (Addr × List Addr)} {B : List WS}, Paired (fun x w => WRz X CR CO H x.2 x.1 w) A B → (∀ x ∈ A, pc ∉ x.2) → Paired (fun x w => WRz X CR CO (upd H pc (.lst (ks.map V.ref ++ [.ref p]))) x.2 x.1 w) A B := fun rr => by
      induction rr with
      | nil => exact fun _ => .nil
      | @cons x0 y0 A0 B0 g t ih => exact fun np => .cons (g.frame f hy fun z hz m => np x0 (by simp) (by rw [← List.mem_singleton.mp m]; exact hz)) (ih fun x hx => np x (by simp [hx]))
    exact all U.ws fun x hx m => n2.1 (List.mem_flatMap.mpr ⟨x, hx, m⟩)
  · exact Paired.snoc (Crs.frame f (fun z hz => (hy z hz).2) U.cs) (by
      have q : Crs CC H [p] [c] := .cons hc .nil
      have q2 := Crs.frame f (fun z hz => (hy z hz).2) q
      cases q2 with
      | cons h _ => exact h)
section
variable {P : Program} {w : World} {K : PySem.W.Frag} {mg : Str → Option Value} {base : Heap} {a : Ad}
theorem zpm (T : Txt K mg a) : FnOk P w K mg base (CXo P w) true 8 a.yR a.zeK ["self", "line"] (zxK (SR a.zu a.zk a.zh a.zB) zaZ a.zd) := by
  have zey : FnOk P w K mg base (CXo P w) true 7 a.zP a.zae ["self", "line"] (zBw a.zu a.zk a.zh a.zB a.zd) := zjk T
  have zcX : FnOk P w K mg base (CXo P w) true 2 a.zW a.Z4 ["self"] (zsl a.zu a.zk a.zh a.zB) := zfH T
  have zbM : FnOk P w K mg base (CXo P w) true 3 a.zH a.Zl ["self"] (zmW a.zu a.zk a.zh a.zB a.zS) := zdw T
  have zcM : FnOk P w K mg base (CXo P w) true 6 a.yn a.za6 ["self", "line"] (zxP a.zk a.zh a.zd) := zhf T
  have zgl : FnOk P w K mg base (CXo P w) true 2 a.Zu a.zdC ["line", "start"] (zvb K) := znK T
  have zzn : FnOk P w K mg base (CXo P w) true 5 a.zbj a.ziE ["line", "walls", "before"] (zuD K a.zS a.zh a.zB a.zd) := zxG T
  refine z9 T.zrf zpW (fun vs H Q E h => ?_) (fun cdv A outer s0 H vs Q E hr h => ?_)
  · obtain ⟨r, l, X, s, line, rfl, _⟩ := h
    rfl
  · obtain ⟨r, l, X, s, line, rfl, ⟨dx, pr, pc, rxs, ks, U⟩, hL, nl, hl, k⟩ := h
    have zl := szl
    have w4 := U.gd.w4
    refine ⟨_, (zj (ZD (yl (zCZ hr.units0) (zw (pv 0) rfl) (Zd zg) (yp _)) (zj (ZT (zd4 (pv 0) T.zI T.zew zey (hr.mono (by decide)) T.zem .nil takes_cx.passes (zb (pv 1) zg)))) (zj (ZD (zf8 (zka (pv 0) T.zI T.zgG zcX (hr.mono (by decide)) T.zgL .nil takes_cx.passes)) (zj (ZT (zd4 (Zi yJ (zw (pv 0) rfl) (zo2 zjx zD) (fun _ _ => rfl)) T.zR T.zeL zcM (hr.mono (by decide)) T.zfo .nil takes_cx.passes (zb (pv 1) zg)))) (zj (ZD (PW.pt (zwE (yl (zxg hr.units0) (zw (pv 0) rfl) (Zd zg) (yp _)) (zrV (zf8 (zX zgl (hr.mono (by decide)) rfl T.zjw T.zgk.kp T.zjy .nil takes_cx.passes (zb (pv 1) (zb (zz (v := .str "corner ") rfl T.zm2 ⟨_, rfl⟩) zg))))))) (zj (ZT (zmb PySem.F.plainAttrs_list PySem.F.slot_list_append PySem.F.type_list_append zeD (zw (pv 0) rfl) (zb (zX zzn (hr.mono (by decide)) rfl T.zzU T.zsG.kp T.zzc .nil takes_cx.passes (zb (pv 1) (zb (zka (pv 0) T.zI T.zep zbM (hr.mono (by decide)) T.zeC .nil takes_cx.passes) (zb (zw (pv 0) rfl) zg)))) zg)))) (zj (ZD (zf8 (zX zgl (hr.mono (by decide)) rfl T.zjw T.zgk.kp T.zjy .nil takes_cx.passes (zb (pv 1) (zb (zz (v := .str "wall ") rfl T.zxT ⟨_, rfl⟩) zg)))) (zj (ZT (zd4 (pv 0) T.zI T.zew zey (hr.mono (by decide)) T.zem .nil takes_cx.passes (zb (pv 1) zg)))) (zj (ZT (zd4 (Zi yJ (zw (pv 0) rfl) (zo2 zjx zD) (fun _ _ => rfl)) T.zR T.zeL zcM (hr.mono (by decide)) T.zfo .nil takes_cx.passes (zb (pv 1) zg)))))))))))), ?_⟩
    unfold zaZ at k
    refine ⟨_, rfl, r, _, dx, _, _, rfl, U.ob, T.zI, T.zx, rfl, Nat.zero_le _, fun q nq => ?_⟩
    have s1 : Same H (upd H q (.lst [])) := (Same.refl _).new nq
    have hq : upd H q (.lst []) q = some (.lst []) := zc
    generalize upd H q (.lst []) = H1 at s1 hq
    have U1 := U.keep s1
    refine ⟨pr, q, _, rfl, rfl, SqL.of U1.rd, SqL.of hq, _, rfl, ?_⟩
    rw [(zqm U).1]
    by_cases h0 : s.1 = []
    · rw [if_pos h0] at k
      have hcs : s.2 = [] := U.gd.hd (by unfold zaq; rw [h0]; rfl)
      have full : ∀ x ∈ s.1, x.1.length = 6 := fun x hx => by
        rw [h0] at hx
        cases hx
      rw [show s.1.isEmpty = true by rw [h0]; rfl]
      refine Z6 ?_
      refine ⟨_, rfl, r, dx, _, rfl, U1.ob, rfl, _, rfl, r, l, X, s, line, rfl, ⟨dx, pr, pc, rxs, ks, U1⟩, s1 _ _ hL, nl, hl, hcs, full, ?_⟩
      cases hb : zb3 s line with
      | error e =>
        rw [hb] at k
        exact k.same s1
      | ok s' =>
        rw [hb] at k
        exact fun H' X' f SR' fr => k H' X' (fun b o e n => f b o (s1 b o e) n) SR' fun z hz => (fr z hz).imp_right s1.free
    · rw [if_neg h0] at k
      rw [show s.1.isEmpty = false by rw [List.isEmpty_eq_false_iff]; exact h0]
      refine zat ⟨_, rfl, r, dx, _, rfl, U1.ob, rfl, r, X, s, rfl, ⟨dx, pr, pc, rxs, ks, U1⟩, fun H2 s12 => ⟨_, rfl, ?_⟩⟩
      have s2 := s1.trans s12
      cases hh : zaq s with
      | true =>
        rw [if_pos hh] at k
        have hcs : s.2 = [] := U.gd.hd hh
        refine Z6 ?_
        obtain ⟨ri, x, wi, y, e1, e2, p1, p2⟩ := zqg U.ws h0
        have U2 := U.keep s2
        have p2' := p2.keep s2
        obtain ⟨d1, fs1, ob1, lk1⟩ := p2'.ob "take" (by decide) (by decide) (by decide)
        have hrd := U2.rd
        rw [e1, List.map_append] at hrd
        refine ⟨_, rfl, r, _, dx, _, _, rfl, U2.ob, T.zI, T.zx, rfl, _, rfl, pr, _, _, .ref x.1, rfl, rfl, SqL.of hrd, zif _ _, x.1, d1, fs1, rfl, ob1, lk1, _, rfl, x.1, l, X, x.2, y, line, rfl, p2', U2.has, s2 _ _ hL, nl, hl, ?_⟩
        have hst : zfn s line = match za1 y line with
            | .error k => .error k
            | .ok y' => .ok (wi ++ [y'], s.2) := by
          have z : s = (wi ++ [y], s.2) := by rw [← e2]
          rw [z]
          exact zcf _ _ _ _
        rw [hst] at k
        cases hw : za1 y line with
        | error e =>
          rw [hw] at k
          exact k.same s2
        | ok y' =>
          rw [hw] at k hst
          dsimp only at k ⊢
          intro H3 f3 W3
          obtain ⟨gd', _⟩ := zoE U.gd h0 hcs hst
          exact SRd.last U2 e1 e2 f3 W3 gd' hw fun SR' => k H3 X (fun b o e n => f3 b o (s2 b o e) fun m => n (by rw [U.eX, e1, List.flatMap_append]; simp [m])) SR' fun z hz => .inl hz
      | false =>
        rw [if_neg (by rw [hh]; decide)] at k
        have full := zBy U.gd hh
        refine zat ?_
        have U2 := U.keep s2
        dsimp only [zrF, zmp, ztB, zwb]
        refine zx7 (x := !s.2.isEmpty) (y := Bd.begins "corner" line) (fun H6 => Same H2 H6) (fun R r' => ?_) (fun hx H6 s6 R r' => ?_) fun H3 s3 => ?_
        · refine ⟨_, rfl, r, _, dx, _, _, rfl, U2.ob, T.zI, T.yd, rfl, Nat.zero_le _, fun q2 nq2 => ⟨pc, q2, ks.map V.ref, rfl, rfl, SqL.of (by rw [ze (zi U2.cr nq2)]; exact U2.cr), SqL.of zc, _, rfl, ?_⟩⟩
          rw [(zqm U).2]
          exact r' _ ((Same.refl _).new nq2)
        · refine ⟨_, rfl, l, "corner ", line, Bd.ascii "corner ", rfl, (by decide), (by decide), SqL.of (s6 _ _ (s2 _ _ hL)), fun H7 s7 => ⟨_, rfl, ?_⟩⟩
          rw [zr5 "corner" (Bd.ascii "corner ") line (by decide)]
          exact r' _ (s6.trans s7)
        · have s23 := s2.trans s3
          have U3 := U.keep s23
          by_cases q8 : s.2 ≠ [] ∨ Bd.begins "corner" line = true
          · rw [if_pos q8] at k
            rw [show (!s.2.isEmpty || Bd.begins "corner" line) = true by
              rw [Bool.or_eq_true, Bool.not_eq_true', List.isEmpty_eq_false_iff]
              exact q8]
            refine Z6 ⟨_, rfl, r, _, dx, _, _, rfl, U3.ob, T.zI, T.yd, rfl, .inl ⟨rfl, _, SqL.of U3.cr⟩, _, rfl, _, rfl, r, dx, _, rfl, U3.ob, rfl, r, X, s, rfl, ⟨dx, pr, pc, rxs, ks, U3⟩, full, fun H4 pw ws s4 npw hpw wls => ?_⟩
            have s24 := s23.trans s4
            have U4 := U.keep s24
            have c8 : s.2.length ≤ 8 := by
              cases hl2 : s.2.getLast? with
              | none =>
                rw [List.getLast?_eq_none_iff] at hl2
                rw [hl2]
                decide
              | some m =>
                have := U.gd.c8 m hl2
                omega
            refine ⟨_, rfl, r, _, dx, _, _, rfl, U4.ob, T.zI, T.yd, rfl, l, pw, pc, line, ws, ks, s.1.map Zp, s.2, rfl, SqL.of (s24 _ _ hL), hl, hpw, wls, (by rw [List.length_map]; exact w4), ?_, U4.cr, U4.cs, c8, U.gd.le, ?_⟩
            · intro v hv
              obtain ⟨y, hy, rfl⟩ := List.mem_map.mp hv
              exact zCv (U.gh y hy) (full y hy)
            · cases hc : zhC (s.1.map Zp) s.2 line with
              | error e =>
                rw [hc] at k
                exact k.same s24
              | ok c =>
                rw [hc] at k
                intro H5 p s5 hcp
                obtain ⟨gd', lt8⟩ := zzf U.gd hh hc
                have s25 := s24.trans s5
                have U5 := U.keep s25
                have lk := Paired.length U.cs
                refine ⟨pc, _, _, rfl, rfl, U5.cr, (by rw [List.length_map]; omega), ?_⟩
                have pX : pc ∈ X := by rw [U.eX]; simp
                exact k _ X (fun b o e n => by rw [ze (fun z => n (by rw [z]; exact pX))]; exact s25 b o e) (U5.corner hcp gd') fun z hz => .inl hz
          · rw [if_neg q8] at k
            rw [show (!s.2.isEmpty || Bd.begins "corner" line) = false by
              rw [Bool.eq_false_iff]
              intro z
              rw [Bool.or_eq_true, Bool.not_eq_true', List.isEmpty_eq_false_iff] at z
              exact q8 z]
            have hcs : s.2 = [] := Classical.byContradiction fun z => q8 (.inl z)
            refine zat ⟨_, rfl, l, "wall ", line, Bd.ascii "wall ", rfl, (by decide), (by decide), SqL.of (s23 _ _ hL), fun H4 s4 => ⟨_, rfl, ?_⟩⟩
            rw [zr5 "wall" (Bd.ascii "wall ") line (by decide)]
            have s24 := s23.trans s4
            cases hw : Bd.begins "wall" line with
            | true =>
              rw [if_pos hw] at k
              refine Z6 ?_
              have U4 := U.keep s24
              refine ⟨_, rfl, r, dx, _, rfl, U4.ob, rfl, _, rfl, r, l, X, s, line, rfl, ⟨dx, pr, pc, rxs, ks, U4⟩, s24 _ _ hL, nl, hl, hcs, full, ?_⟩
              cases hb : zb3 s line with
              | error e =>
                rw [hb] at k
                exact k.same s24
              | ok s' =>
                rw [hb] at k
                exact fun H' X' f SR' fr => k H' X' (fun b o e n => f b o (s24 b o e) n) SR' fun z hz => (fr z hz).imp_right s24.free
            | false =>
              rw [if_neg (by rw [hw]; decide)] at k
              refine zat ?_
              clear U2
              have s2 := s24
              obtain ⟨ri, x, wi, y, e1, e2, p1, p2⟩ := zqg U.ws h0
              have U2 := U.keep s2
              have p2' := p2.keep s2
              obtain ⟨d1, fs1, ob1, lk1⟩ := p2'.ob "take" (by decide) (by decide) (by decide)
              have hrd := U2.rd
              rw [e1, List.map_append] at hrd
              refine ⟨_, rfl, r, _, dx, _, _, rfl, U2.ob, T.zI, T.zx, rfl, _, rfl, pr, _, _, .ref x.1, rfl, rfl, SqL.of hrd, zif _ _, x.1, d1, fs1, rfl, ob1, lk1, _, rfl, x.1, l, X, x.2, y, line, rfl, p2', U2.has, s2 _ _ hL, nl, hl, ?_⟩
              have hst : zfn s line = match za1 y line with
                  | .error k => .error k
                  | .ok y' => .ok (wi ++ [y'], s.2) := by
                have z : s = (wi ++ [y], s.2) := by rw [← e2]
                rw [z]
                exact zcf _ _ _ _
              rw [hst] at k
              cases hw : za1 y line with
              | error e =>
                rw [hw] at k
                exact k.same s2
              | ok y' =>
                rw [hw] at k hst
                dsimp only at k ⊢
                intro H3 f3 W3
                obtain ⟨gd', _⟩ := zoE U.gd h0 hcs hst
                exact SRd.last U2 e1 e2 f3 W3 gd' hw fun SR' => k H3 X (fun b o e n => f3 b o (s2 b o e) fun m => n (by rw [U.eX, e1, List.flatMap_append]; simp [m])) SR' fun z hz => .inl hz
theorem zko (T : Txt K mg a) : FnOk P w K mg base (CXo P w) true 3 a.yc a.zbP ["self", "rest"] (zxN (SR a.zu a.zk a.zh a.zB) zje a.zd) := by
  have zf : FnOk P w K mg base (CXo P w) true 1 a.zv a.zy ["self", "kind"] (zft a.zd "kind") := zJ T
  have zcX : FnOk P w K mg base (CXo P w) true 2 a.zW a.Z4 ["self"] (zsl a.zu a.zk a.zh a.zB) := zfH T
  have zgl : FnOk P w K mg base (CXo P w) true 2 a.Zu a.zdC ["line", "start"] (zvb K) := znK T
  refine z9 T.zll zkB (fun vs H Q E h => ?_) (fun cdv A outer s0 H vs Q E hr h => ?_)
  · obtain ⟨r, l, X, s, line, rfl, _⟩ := h
    rfl
  · obtain ⟨r, l, X, s, line, rfl, ⟨dx, pr, pc, rxs, ks, U⟩, hL, hl, k⟩ := h
    refine ⟨_, (zo (ZD (zf8 (zka (pv 0) T.zI T.zgG zcX (hr.mono (by decide)) T.zgL .nil takes_cx.passes)) (zj (yI takes_cx rfl (yB T.zM zf (hr.mono (by decide)) rfl T.zF T.zr takes_cx (zb (zz (v := .int 1) rfl T.ZX ⟨_, rfl⟩) zg)))) yD)
      (zo (ZD (PW.pt (zym (yl (zvn hr.units) (pv 1) (Zd zg) (yp _)) (ztQ (PW.pt (zwE (yl (zxg hr.units0) (zw (pv 0) rfl) (Zd zg) (yp _)) (zrV (zf8 (zX zgl (hr.mono (by decide)) rfl T.zjw T.zgk.kp T.zjy .nil takes_cx.passes (zb (pv 1) (zb (zz (v := .str "corner ") rfl T.zm2 ⟨_, rfl⟩) zg)))))))))) (zj (yI takes_cx rfl (yB T.zM zf (hr.mono (by decide)) rfl T.zF T.zr takes_cx (zb (zz (v := .int 8) rfl T.zi2 ⟨_, rfl⟩) zg)))) yD)
      (zj (ZD (yl (zvn hr.units) (pv 1) (Zd zg) (yp _)) (zj (yI takes_cx rfl (yB T.zM zf (hr.mono (by decide)) rfl T.zF T.zr takes_cx (zb (zz (v := .int 1) rfl T.ZX ⟨_, rfl⟩) zg)))) yD)))), ?_⟩
    unfold zje at k
    refine ⟨_, rfl, r, dx, _, rfl, U.ob, rfl, r, X, s, rfl, ⟨dx, pr, pc, rxs, ks, U⟩, fun H1 s1 => ⟨_, rfl, ?_⟩⟩
    cases hh : zaq s with
    | true =>
      rw [if_pos hh] at k
      exact Z6 (zN T (k.same s1))
    | false =>
      rw [if_neg (by rw [hh]; decide)] at k
      refine zat ?_
      have neL : ∀ {σ : L2.St} {H' : Hp} {R : Bool → Hp → Prop}, σ[1]? = some (some (.ref l)) → Same H H' → (∀ H6, Same H' H6 → R (!decide (line = [])) H6) → zBb (tOp (zFj K) (zjG 1) (zFh zAL)) σ H' R := fun hσ s' r' => by
        refine ⟨_, hσ, Nat.zero_le _, fun p1 n1 => ?_⟩
        have s6 := (Same.refl _).new (o := .lst []) n1
        refine ⟨_, _, zmq (SqL.of (s6 _ _ (s' _ _ hL))), zmq (b := []) (SqL.of zc), zac _, zac _, _, rfl, ?_⟩
        rw [zrZ]
        exact r' _ s6
      dsimp only [zrF, zmp, ztB, zwb]
      refine zxf (x := !decide (line = [])) (y := !s.2.isEmpty || Bd.begins "corner" line) (fun H6 => Same H1 H6) (fun R r' => neL rfl s1 r') (fun _ H2 s2 R r' => ?_) fun H3 s3 => ?_
      · have s12 := s1.trans s2
        have U2 := U.keep s12
        refine zx7 (x := !s.2.isEmpty) (y := Bd.begins "corner" line) (fun H6 => Same H1 H6) (fun R2 r2 => ?_) (fun hx H6 s6 R2 r2 => ?_) r'
        · refine ⟨_, rfl, r, _, dx, _, _, rfl, U2.ob, T.zI, T.yd, rfl, Nat.zero_le _, fun q2 nq2 => ⟨pc, q2, ks.map V.ref, rfl, rfl, SqL.of (by rw [ze (zi U2.cr nq2)]; exact U2.cr), SqL.of zc, _, rfl, ?_⟩⟩
          rw [(zqm U).2]
          exact r2 _ (s2.new nq2)
        · refine ⟨_, rfl, l, "corner ", line, Bd.ascii "corner ", rfl, (by decide), (by decide), SqL.of (s6 _ _ (s1 _ _ hL)), fun H7 s7 => ⟨_, rfl, ?_⟩⟩
          rw [zr5 "corner" (Bd.ascii "corner ") line (by decide)]
          exact r2 _ (s6.trans s7)
      · have s13 := s1.trans s3
        by_cases q8 : line ≠ [] ∧ (s.2 ≠ [] ∨ Bd.begins "corner" line = true)
        · rw [if_pos q8] at k
          rw [show (!decide (line = []) && (!s.2.isEmpty || Bd.begins "corner" line)) = true by
            rw [Bool.and_eq_true, Bool.or_eq_true, Bool.not_eq_true', Bool.not_eq_true', List.isEmpty_eq_false_iff, decide_eq_false_iff_not]
            exact q8]
          exact Z6 (zN T (k.same s13))
        · rw [if_neg q8] at k
          rw [show (!decide (line = []) && (!s.2.isEmpty || Bd.begins "corner" line)) = false by
            rw [Bool.eq_false_iff]
            intro z
            rw [Bool.and_eq_true, Bool.or_eq_true, Bool.not_eq_true', Bool.not_eq_true', List.isEmpty_eq_false_iff, decide_eq_false_iff_not] at z
            exact q8 z]
          refine zat (neL rfl s13 fun H4 s4 => ?_)
          have s14 := s13.trans s4
          by_cases q : line = []
          · rw [if_neg (fun z => z q)] at k
            rw [decide_eq_true q]
            exact zat (k _ s14)
          · rw [if_pos q] at k
            rw [decide_eq_false q]
            exact Z6 (zN T (k.same s14))
end
end Wb
end
section
set_option Elab.async false
set_option linter.all false
set_option maxRecDepth 100000
set_option maxHeartbeats 4000000
namespace Wb
open PySem PySem.Spec PyProof.Rows L2 Wm
open PySem.W (Codec)
def siF (pw pt pc : Addr) : List (Str × V) := [("walls", .ref pw), ("texts", .ref pt), ("corners", .ref pc)]
structure zEI (CSi CW CO CC : Addr) (H : Hp) (p dx pw pt pc : Addr) (ws ts ks : List Addr) (s : SS) : Prop where
  ob : H p = some (.ins CSi dx (siF pw pt pc))
  wl : H pw = some (.lst (ws.map V.ref))
  ws : Walls CW CO H ws (s.1.map Zp)
  tx : H pt = some (.lst (ts.map V.ref))
  ts : Rows H ts (s.1.map zA2)
  cl : H pc = some (.lst (ks.map V.ref))
  cs : Crs CC H ks s.2
  gd : SGood s
  st : STx 6000 s
  fl : ∀ x ∈ s.1, x.1.length = 6
  gh : ∀ w ∈ s.1, zAJ w.1
def zC1 (CSi CW CO CC : Addr) (H : Hp) (p : Addr) (s : SS) : Prop := ∃ (dx pw pt pc : Addr) (ws ts ks : List Addr), zEI CSi CW CO CC H p dx pw pt pc ws ts ks s
def zyM (C : Addr) : Sp := fun vs H Q _ => ∃ (p dx : Addr) (v0 v1 v2 : V), vs = [.ref p, v0, v1, v2] ∧ H p = some (.ins C dx []) ∧
  ∀ H' : Hp, H' p = some (.ins C dx [("walls", v0), ("texts", v1), ("corners", v2)]) → (∀ b, b ≠ p → H' b = H b) → Q .non H'
def ztg (t : Bd.Bytes) : Except Bd.Fault SS := zgD zaZ zje ([], []) (fl 10 t)
def zui (K : PySem.W.Frag) (CSi CW CO CC CF : Addr) : Sp := fun vs H Q E => ∃ (l : Addr) (t : Bd.Bytes), vs = [.ref l] ∧ SqL K H l (iB t) ∧ t.length ≤ 6000 ∧
  match ztg t with
  | .error e => FailsW CF E H e.1 e.2
  | .ok s => ∀ (H' : Hp) (p : Addr), Same H H' → zC1 CSi CW CO CC H' p s → Q (.ref p) H'
def zyT (K : PySem.W.Frag) (CSi CW CO CC CF CT : Addr) : Sp := fun vs H Q E => ∃ (l : Addr) (t : Bd.Bytes), vs = [.ref l] ∧ SqL K H l (iB t) ∧ t.length ≤ 6000 ∧
  if 4096 < t.length then FailsN CT (-1) E H else match ztg t with
  | .error e => FailsW CF E H e.1 e.2
  | .ok s => ∀ (H' : Hp) (p : Addr), Same H H' → zC1 CSi CW CO CC H' p s → Q (.ref p) H'
def zFL (CN : Addr) : Sp := fun vs H Q E => ∃ (l : Addr) (xs : List V) (n : Nat), vs = [.ref l, .int ((n : Nat) : Int)] ∧ H l = some (.lst xs) ∧
  match xs[n]? with
  | none => FailsN CN (-3) E H
  | some v => Q v H
theorem zC7 {w : WS} (h : ∀ x ∈ w.2.2, x.length ≤ 6000) (l : w.2.2.length ≤ 14) : (zA2 w).length ≤ 100000 := by
  have g : ∀ ls : List Bd.Bytes, (∀ x ∈ ls, x.length ≤ 6000) → (ls.flatMap fun b => b ++ [10]).length ≤ 6001 * ls.length := fun ls => by
    induction ls with
    | nil => intro _; exact Nat.le_refl _
    | cons x r ih =>
      intro h
      have h1 := h x (by simp)
      have h2 := ih fun y hy => h y (by simp [hy])
      simp only [List.flatMap_cons, List.length_append, List.length_cons, List.length_nil]
      omega
  have := g _ h
  unfold zA2
  omega
section
variable {P : Program} {w : World} {K : PySem.W.Frag} {mg : Str → Option Value} {base : Heap} {a : Ad}
theorem zrI (T : Txt K mg a) : FnOk P w K mg base (CXo P w) true 1 a.Za a.zd2 ["self", "walls", "texts", "corners"] (zyM a.zaj) := by
  refine z9 T.ztm zsD (fun vs H Q E h => ?_) (fun cdv A outer s0 H vs Q E hr h => ?_)
  · obtain ⟨p, dx, v0, v1, v2, rfl, _⟩ := h
    rfl
  · obtain ⟨p, dx, v0, v1, v2, rfl, hp, k⟩ := h
    refine ⟨_, (zo (zbo (pv 0) (pv 1) rfl)
      (zo (zbo (pv 0) (pv 2) rfl)
      (zj (zbo (pv 0) (pv 3) rfl)))), ?_⟩
    refine ⟨_, rfl, _, rfl, p, _, dx, _, rfl, hp, T.zxY, T.zc9, (by show 0 < 1000; decide), ?_⟩
    refine ⟨_, rfl, _, rfl, p, _, dx, _, rfl, zc, T.zxY, T.zfm, (by show 1 < 1000; decide), ?_⟩
    rw [zap]
    refine ⟨_, rfl, _, rfl, p, _, dx, _, rfl, zc, T.zxY, T.zcV, (by show 2 < 1000; decide), ?_⟩
    rw [zap]
    exact k _ zc fun b hb => ze hb
theorem zx8 (T : Txt K mg a) : FnOk P w K mg base (CXo P w) true 14 a.za5 a.ziI ["text"] (zui K a.zaj a.zS a.zh a.zB a.zq) := by
  have zyu : FnOk P w K mg base (CXo P w) true 13 a.zaw a.zhv ["text", "reader"] (zBt K (SR a.zu a.zk a.zh a.zB) zaZ zje a.zq) :=
    zv6 T T.zI T.zqv T.zlO T.zrm T.zk8 (zpm T) (zko T) (by decide) (by decide) SR.obj SR.keep
  have zmQ : FnOk P w K mg base (CXo P w) true 1 a.z7 a.zaS ["self"] (zBj a.zu a.zk a.zh a.zB) := zk5 T
  have zbM : FnOk P w K mg base (CXo P w) true 3 a.zH a.Zl ["self"] (zmW a.zu a.zk a.zh a.zB a.zS) := zdw T
  have zux : FnOk P w K mg base (CXo P w) true 1 a.Zw a.ze3 ["lines"] (zzL K) := ztK T
  have ztJ : FnOk P w K mg base (CXo P w) true 1 a.Za a.zd2 ["self", "walls", "texts", "corners"] (zyM a.zaj) := zrI T
  refine z9 T.zs4 zhG (fun vs H Q E h => ?_) (fun cdv A outer s0 H vs Q E hr h => ?_)
  · obtain ⟨l, t, rfl, _⟩ := h
    rfl
  · obtain ⟨l, t, rfl, hS, hl, k⟩ := h
    have zl := szl
    refine ⟨_, (zo (zai (i := 1) zhG.nd rfl (by first | exact Or.inl rfl | exact Or.inr rfl) (zyL T.zye zmQ (hr.mono (by decide)) rfl T.zxU T.zmt .nil takes_cx.passes))
      (zo (ZT (zX zyu (hr.mono (by decide)) rfl T.zx4 T.zry.kp T.zxX .nil takes_cx.passes (zb (pv 0) (zb (pv 1) zg))))
      (zo (zn8 (i := 2) takes_cx rfl rfl (own := [("wall_reader", 3)]) rfl zhG.nd rfl rfl rfl (zb4 (zw (pv 1) rfl)) (by show ze5 ["text", "reader", "texts", "wall_reader"] (za Z5) _ [("wall_reader", 3)]; exact ⟨rfl, by decide +kernel, by decide +kernel, by decide +kernel, by decide +kernel⟩) (fun s H C cl fp xe tk => (ZF (i := 3) zhG.nd rfl (by first | exact Or.inl rfl | exact Or.inr rfl))) (fun s H C cl fp xe tk => zdh) (fun s H C cl fp xe tk => (zX zux (hr.mono (by decide)) rfl T.zuI T.zns.kp T.zu3 .nil tk.passes (zb (zq2 (K := K) rfl (pv 3) rfl) zg))))
      (zj (yx (ztP T.zEN ztJ (hr.mono (by decide)) rfl T.zEz T.ztr .nil takes_cx.passes (zb (zka (pv 1) T.zI T.zep zbM (hr.mono (by decide)) T.zeC .nil takes_cx.passes) (zb (pv 2) (zb (zw (pv 1) rfl) zg))))))))), ?_⟩
    refine fun r dx nr ndx ndr => ⟨r, dx, rfl, zc, fun H1 X f1 W0 fr => ⟨rfl, ?_⟩⟩
    have s1 : Same H H1 := fun b o e => f1 b o (by rw [ze (zi e nr), ze (zi e ndx)]; exact e) (zi e nr)
    have nX : ∀ x ∈ X, H x = none := fun x hx => by
      have e := fr x hx
      by_cases q : x = r
      · rw [q]; exact nr
      · rw [ze q] at e
        by_cases q2 : x = dx
        · rw [q2]; exact ndx
        · rw [ze q2] at e
          exact e
    have offX : ∀ {b : Addr} {o : HO}, H b = some o → b ∉ X := fun e m => by
      rw [nX _ m] at e
      cases e
    refine ⟨_, rfl, _, rfl, l, r, X, _, t, rfl, s1.seq hS, hl, W0, W0.has, ?_⟩
    unfold ztg at k
    cases hb : zgD zaZ zje ([], []) (fl 10 t) with
    | error e =>
      rw [hb] at k
      exact fun fr d q H' m e1 e2 => k fr d q H' (fun b o e n => m b o (s1 b o e) (offX e) n) e1 e2
    | ok s =>
      rw [hb] at k
      intro H2 X2 f2 W2 hX2
      have s2 : Same H H2 := fun b o e => f2 b o (s1 b o e) (offX e)
      obtain ⟨dx2, pr, pc, rxs, ks, U⟩ := W2
      have fh := zBS hb
      have full := zBy U.gd fh
      have st : STx 6000 s := zDV (fun x hx => by
        have m := (zoa 10 t).2 x (by rw [← zqC 10 t]; exact List.mem_append_left _ hx)
        omega) hb
      have lr := Paired.length U.ws
      have w4 := U.gd.w4
      refine ⟨_, rfl, r, _, dx2, _, _, rfl, U.ob, T.zI, T.zx, rfl, pr, rfl, ⟨_, SqL.of U.rd⟩, fun D hD => ?_⟩
      refine zho (K := K) (a := pr) (xs := rxs.map fun x => V.ref x.1) (fun i H' => ∃ ts : List Addr, Same H2 H' ∧ H' D = some (.lst (ts.map V.ref)) ∧ Rows H' ts ((s.1.take i).map zA2) ∧ D ∉ ts)
        ⟨[], (Same.refl _).new hD, zc, .nil, by simp⟩ (fun i H' _ ⟨_, s3, _⟩ => SqL.of (s3 _ _ U.rd)) ?_ ?_
      · rintro i v H' hi ⟨ts, s3, hD3, rows, nD⟩
        rw [List.getElem?_map] at hi
        obtain ⟨x, hx, rfl⟩ : ∃ x, rxs[i]? = some x ∧ v = .ref x.1 := by
          cases e : rxs[i]? with
          | none => rw [e] at hi; cases hi
          | some x => rw [e] at hi; exact ⟨x, rfl, (Option.some.inj hi).symm⟩
        obtain ⟨y, hy, Wz⟩ := Paired.get U.ws hx
        have ym := List.mem_of_getElem? hy
        have il := (List.getElem?_eq_some_iff.mp hy).1
        obtain ⟨d3, pl3, ph3, po3, hvs3, as3, las3, _, V3⟩ := Wz
        have V4 := V3.keep s3
        have l14 : y.2.2.length = y.1.length + y.2.1.length := V3.l14
        have o8 : y.2.1.length ≤ 8 := V3.o8
        have h6 : y.1.length ≤ 6 := V3.h6
        have tl := zC7 (st.lb y ym) (by omega)
        have lt := Paired.length rows
        rw [List.length_map, List.length_take] at lt
        refine ⟨rfl, _, rfl, x.1, _, d3, _, _, rfl, V4.ob, T.zR, T.yU, rfl, pl3, las3, y.2.2, rfl, V4.ln, V4.rows, tl, fun H4 q s4 nq hq => ?_⟩
        have hD4 := s4 _ _ hD3
        have Dq : D ≠ q := zi hD3 nq
        refine ⟨_, hD4, (by rw [List.length_map]; omega), ts ++ [q], (s3.trans s4).set hD, ?_, ?_, ?_⟩
        · rw [zc, List.map_append]
          rfl
        · rw [ZC hy, List.map_append]
          exact Paired.snoc (Rows.upd (Rows.same s4 rows) nD) (by rw [ze (Ne.symm Dq)]; exact hq)
        · simp only [List.mem_append, List.mem_singleton, not_or]
          exact ⟨nD, Dq⟩
      · rintro H3 ⟨ts, s3, hD3, rows, nD⟩
        rw [List.length_map, lr, List.take_length] at rows
        have U3 := U.keep s3
        refine ⟨_, rfl, r, dx2, _, rfl, U3.ob, rfl, r, X2, s, rfl, ⟨dx2, pr, pc, rxs, ks, U3⟩, full, fun H4 pw ws s4 npw hpw wls => ?_⟩
        have U4 := U3.keep s4
        refine ⟨_, rfl, _, rfl, r, _, dx2, _, _, rfl, U4.ob, T.zI, T.yd, rfl, fun xs ds nx nds dxx => ⟨xs, ds, _, _, _, rfl, zc, fun H7 e7 kp => ⟨rfl, ?_⟩⟩⟩
        have s7 : Same H4 H7 := fun b o e => by
          have q1 : b ≠ xs := zi e nx
          have q2 : b ≠ ds := zi e nds
          rw [kp b q1, ze q1, ze q2]
          exact e
        have s37 := s4.trans s7
        exact k H7 xs ((s2.trans s3).trans s37) ⟨ds, pw, D, pc, ws, ts, ks, e7, s7 _ _ hpw, Walls.same s7 wls, s37 _ _ hD3, Rows.same s37 rows, s7 _ _ U4.cr, Crs.same s7 U4.cs, U.gd, st, full, U.gh⟩
theorem zAR (T : Txt K mg a) : FnOk P w K mg base (CXo P w) true 15 a.zc7 a.zob ["u"] (zyT K a.zaj a.zS a.zh a.zB a.zq a.zK) := by
  have zzt : FnOk P w K mg base (CXo P w) true 14 a.za5 a.ziI ["text"] (zui K a.zaj a.zS a.zh a.zB a.zq) := zx8 T
  have zvM : FnOk P w K mg base (CXo P w) true 4 a.ZQ a.zgd ["rows"] (zzr K a.zK) := zuE T
  refine z9 T.zwI zAw (fun vs H Q E h => ?_) (fun cdv A outer s0 H vs Q E hr h => ?_)
  · obtain ⟨l, t, rfl, _⟩ := h
    rfl
  · obtain ⟨l, t, rfl, hS, hl, k⟩ := h
    refine ⟨_, (zo (ZT (zX zvM (hr.mono (by decide)) rfl T.zvI T.zoG.kp T.zvY .nil takes_cx.passes (zb (Zd (zb (pv 0) zg)) zg)))
      (zj (yx (zX zzt (hr.mono (by decide)) rfl T.zzw T.zs4.kp T.zzK .nil takes_cx.passes (zb (pv 0) zg))))), ?_⟩
    refine ⟨_, rfl, (by show 1 ≤ sizeLine; decide), fun p1 n1 => ?_⟩
    have s1 : Same H (upd H p1 (.lst [.ref l])) := (Same.refl _).new n1
    refine ⟨p1, [l], [t], rfl, zc, .cons (s1.seq hS) .nil, ?_⟩
    show if ((decide (4096 < t.length) || false) = true) then _ else _
    by_cases q : 4096 < t.length
    · rw [if_pos q] at k
      rw [if_pos (by rw [decide_eq_true q]; rfl)]
      exact k.same s1
    · rw [if_neg q] at k
      rw [if_neg (by rw [decide_eq_false q]; decide)]
      refine ⟨_, rfl, l, t, rfl, s1.seq hS, hl, ?_⟩
      cases hb : ztg t with
      | error e =>
        rw [hb] at k
        exact k.same s1
      | ok x =>
        rw [hb] at k
        exact fun H' p s => k H' p (s1.trans s)
end
end Wb
end
section
set_option Elab.async false
set_option linter.all false
set_option maxRecDepth 100000
set_option maxHeartbeats 4000000
namespace Wb
open PySem PySem.Spec PyProof.Rows L2 Wm
open PySem.W (Codec)
theorem zD1 (ns : List Int) (hb : ∀ x ∈ ns, 0 ≤ x ∧ x ≤ 255) : ns.map V.int = iB (SiteNeutral.text ns) ∧ (SiteNeutral.text ns).length = ns.length := by
  refine ⟨?_, List.length_map _⟩
  unfold iB SiteNeutral.text
  rw [List.map_map]
  refine List.map_congr_left fun x hx => ?_
  obtain ⟨h0, h1⟩ := hb x hx
  show V.int x = V.int (((UInt8.ofNat x.toNat).toNat : Nat) : Int)
  rw [UInt8.toNat_ofNat', Nat.mod_eq_of_lt (by omega), Int.toNat_of_nonneg h0]
def zoc (t : Bd.Bytes) : List Int := if 4096 < t.length then [-1, 0, 0] else match ztg t with
  | .error e => [-6, 2, ((e.1 : Nat) : Int), ((e.2 : Nat) : Int), 0]
  | .ok s => [((s.1.length : Nat) : Int), 0, 0]
def zAn (K : PySem.W.Frag) : Sp := fun vs H Q _ => ∃ (l : Addr) (t : Bd.Bytes), vs = [.ref l] ∧ SqL K H l (iB t) ∧ t.length ≤ 6000 ∧ ∀ (H' : Hp) (p : Addr), H' p = some (.lst ((zoc t).map V.int)) → Q (.ref p) H'
def zwu (C : Addr) : Sp := fun vs H Q _ => ∃ (ea d q : Addr) (fr : Bool) (tb : Value) (i k : Int), vs = [.ref ea] ∧ H ea = some (xO C fr (some d) tb ea) ∧ H d = some (.xd (wfF q (.int i) (.int k))) ∧
  ∀ (H' : Hp) (p : Addr), Same H H' → H' p = some (.lst ([-6, 2, i, k, 0].map V.int)) → Q (.ref p) H'
section
variable {P : Program} {w : World} {K : PySem.W.Frag} {mg : Str → Option Value} {base : Heap} {a : Ad}
theorem znE {cm : Bool} (T : Txt K mg a) : FnOk P w K mg base (CXo P w) cm 2 a.yA a.zbu ["fault"] (zwu a.zq) := by
  have znq : FnOk P w K mg base (CXo P w) cm 1 a.zc3 a.zjZ ["number", "row", "signs"] zrz := zsg T
  refine z9 T.zg4 znb (fun vs H Q E h => ?_) (fun cdv A outer s0 H vs Q E hr h => ?_)
  · obtain ⟨ea, d, q, fr, tb, i, kk, rfl, _⟩ := h
    rfl
  · obtain ⟨ea, d, q, fr, tb, i, kk, rfl, l1, ed, k⟩ := h
    refine ⟨_, (zj (yx (zX znq (hr.mono (by decide)) rfl T.zun T.zrb.kp T.zu5 .nil takes_cx.passes (zb (zh0 (K := K) rfl (pv 0) rfl) (zb (Zd (zb (zh0 (K := K) rfl (pv 0) rfl) (zb (zh0 (K := K) rfl (pv 0) rfl) zg))) (zb (Zd zg) zg)))))), ?_⟩
    refine ⟨_, rfl, ea, _, fr, d, tb, _, _, rfl, l1, ed, T.zex, T.ZL, rfl, _, rfl, ea, _, fr, d, tb, _, _, rfl, l1, ed, T.zex, T.zaC, rfl, _, rfl, ea, _, fr, d, tb, _, _, rfl, l1, ed, T.zex, T.zaB, rfl, (by show 2 ≤ sizeLine; decide), fun r nr => ⟨Nat.zero_le _, fun s ns => ?_⟩⟩
    refine ⟨-6, r, s, [i, kk], [], rfl, by rw [ze (zi zc ns)]; exact zc, zc, by show 2 ≤ 100000; decide, by decide, fun H' p s1 e => k H' p (fun b o z => s1 b o ((((Same.refl H).new nr).new ns) b o z)) e⟩
theorem zDZ (T : Txt K mg a) : FnOk P w K mg base (CXo P w) true 16 a.zjp a.zso ["u"] (zAn K) := by
  have zCb : FnOk P w K mg base (CXo P w) true 15 a.zc7 a.zob ["u"] (zyT K a.zaj a.zS a.zh a.zB a.zq a.zK) := zAR T
  have znq : ∀ {cm : Bool}, FnOk P w K mg base (CXo P w) cm 1 a.zc3 a.zjZ ["number", "row", "signs"] zrz := zsg T
  have zCr : ∀ {cm : Bool}, FnOk P w K mg base (CXo P w) cm 2 a.zdd a.zn7 ["refusal"] (zwP K) := zz7 T
  have zot : ∀ {cm : Bool}, FnOk P w K mg base (CXo P w) cm 2 a.yA a.zbu ["fault"] (zwu a.zq) := znE T
  refine z9 T.zEx ztT (fun vs H Q E h => ?_) (fun cdv A outer s0 H vs Q E hr h => ?_)
  · obtain ⟨l, t, rfl, _⟩ := h
    rfl
  · obtain ⟨l, t, rfl, hS, hl, k⟩ := h
    obtain ⟨wt1, hwt1⟩ : ∃ wt1 : WX, wt1 = fun σ c dx m => σ.length = 4 ∧ ((∃ (fr : Bool) (d q : Addr) (i kk : Nat), c = (a.zq, fr) ∧ dx = some d ∧ m d = some (.xd (wfF q (.int ((i : Nat) : Int)) (.int ((kk : Nat) : Int)))) ∧ zoc t = [-6, 2, ((i : Nat) : Int), ((kk : Nat) : Int), 0]) ∨
      (∃ (d q : Addr), c = (a.zK, true) ∧ dx = some d ∧ m d = some (.xd (rfF (-1) q)) ∧ m q = some (.lst []) ∧ zoc t = [-1, 0, 0])) := ⟨_, rfl⟩
    refine ⟨_, (zo (zz0 (Wt := wt1) rfl rfl (fun pn xe tk1 => (zj (zai (i := 1) ztT.nd rfl (by first | exact Or.inl rfl | exact Or.inr rfl) (zX zCb (hr.mono (by decide)) rfl T.zBX T.zwI.kp T.zBK .nil tk1.passes (zb (pv 0) zg))))) (zA9 (i := 2) takes_cx rfl rfl ztT.nd rfl rfl rfl T.znw (fun ea pn xe th10 => (zj (yx (zX zot ((hr.mark).mono (by decide)) rfl T.zoA T.zg4.kp T.zow .nil th10.passes (zb (pv 2) zg))))) (zA9 (i := 3) takes_cx rfl rfl ztT.nd rfl rfl rfl T.zrT (fun ea pn xe th11 => (zj (yx (zX zCr ((hr.mark).mono (by decide)) rfl T.zBO T.zwi.kp T.zB5 .nil th11.passes (zb (pv 3) zg))))) (zz8 takes_cx))))
      (zj (yx (zX znq (hr.mono (by decide)) rfl T.zun T.zrb.kp T.zu5 .nil takes_cx.passes (zb (yL yz rfl T.z_len zc1 (zb (zw (pv 1) rfl) zg)) (zb (Zd zg) (zb (Zd zg) zg))))))), ?_⟩
    refine ⟨⟨_, rfl, l, t, rfl, hS, hl, ?_⟩, ?_⟩
    · by_cases q : 4096 < t.length
      · rw [if_pos q]
        intro d q' H' sm e e2
        rw [hwt1]
        exact ⟨rfl, .inr ⟨d, q', rfl, rfl, e, e2, if_pos q⟩⟩
      · rw [if_neg q]
        have dw : zoc t = match ztg t with
          | .error e => [-6, 2, ((e.1 : Nat) : Int), ((e.2 : Nat) : Int), 0]
          | .ok s => [((s.1.length : Nat) : Int), 0, 0] := if_neg q
        cases hr' : ztg t with
        | error e =>
          rw [hr'] at dw
          intro fr d q' H' sm ee _
          rw [hwt1]
          exact ⟨rfl, .inl ⟨fr, d, q', e.1, e.2, rfl, rfl, ee, dw⟩⟩
        | ok s =>
          rw [hr'] at dw
          intro H1 p s1 ⟨dx, pw, pt, pc, ws, ts, ks, S⟩
          refine ⟨_, rfl, p, _, dx, _, _, rfl, S.ob, T.zxY, T.zc9, rfl, pw, _, rfl, .inl (SqL.of S.wl), Nat.zero_le _, fun r nr => ⟨Nat.zero_le _, fun s ns => ⟨_, r, s, [], [], rfl, ?_, zc, by decide, by decide, fun H' q _ e => k H' q ?_⟩⟩⟩
          · rw [ze (zi zc ns)]
            exact zc
          · rw [e, dw, List.length_map, Paired.length S.ws, List.length_map]
            rfl
    · intro ea C fr dx σ' H6 live wt
      rw [hwt1] at wt
      obtain ⟨Tb, hT, l1, l2⟩ := live
      obtain ⟨ls, ⟨fr', d, q, i, kk, ec, rfl, ed, dw⟩ | ⟨d, q, ec, rfl, ed, eq', dw⟩⟩ := wt
      · obtain ⟨rfl, rfl⟩ := Prod.mk.inj ec
        refine ⟨true, T.ZI, ?_⟩
        rw [if_pos rfl]
        have g2 : (σ'.set 2 (some (.ref ea)))[2]? = some (some (.ref ea)) := List.getElem?_set_self (by omega)
        exact ⟨_, g2, ea, d, q, _, .ref Tb, _, _, rfl, l1, zfU ed, fun H' p _ e => k H' p (by rw [e, dw])⟩
      · obtain ⟨rfl, rfl⟩ := Prod.mk.inj ec
        refine ⟨false, T.zal, ?_⟩
        rw [if_neg (by decide)]
        refine ⟨true, T.zbh, ?_⟩
        rw [if_pos rfl]
        have g3 : (σ'.set 3 (some (.ref ea)))[3]? = some (some (.ref ea)) := List.getElem?_set_self (by omega)
        exact ⟨_, g3, ea, _, d, q, _, .ref Tb, _, -1, [], rfl, l1, zfU ed, T.zwz, T.zaD, T.zbH, rfl, rfl, zfU eq', by decide, fun H' p _ e => k H' p (by rw [e, dw]; rfl)⟩
end
theorem zE0 (t : List Int) : PyWqbnhd.site t = zoc (SiteNeutral.text t) := by
  show SiteNeutral.f [[8], t] = _
  unfold SiteNeutral.f
  show (let a := BdSiteCalls.answer (.site (SiteNeutral.text t)); a.ret :: (a.nums.length : Int) :: (a.nums ++ (a.bytes.length : Int) :: a.bytes.map fun (b : UInt8) => (b.toNat : Int))) = _
  generalize SiteNeutral.text t = t
  unfold zoc
  have e : BdSiteCalls.answer (.site t) = if BdSiteCalls.TEXT < t.length then BdSiteCalls.BAD else (match Bd.judgeSite t with
    | .error f => BdSiteCalls.tells (-6) [f.1, f.2]
    | .ok s => BdSiteCalls.says (s.walls.length : Nat)) := rfl
  rw [e]
  by_cases q : 4096 < t.length
  · rw [if_pos q, if_pos (show BdSiteCalls.TEXT < t.length from q)]
    rfl
  · rw [if_neg q, if_neg (show ¬ BdSiteCalls.TEXT < t.length from q), zDK]
    unfold ztg
    cases hr : zgD zaZ zje ([], []) (fl 10 t) with
    | error f => rfl
    | ok s =>
      show [(((s.1.map Zp).length : Nat) : Int), 0, 0] = _
      rw [List.length_map]
theorem zE9 {P : Program} {w : World} {K : PySem.W.Frag} {mg : Str → Option Value} {h : Heap} {fa : Addr} (KX : K.In h) (z : ∃ a : Ad, fa = a.zjp ∧ Txt K mg a ∧ ∀ (s : Shared) (us : List Value), us.length = (["u"] : List Str).length → BindsTo s a.zso ⟨us, []⟩ ((["u"] : List Str).zip us)) :
    ∃ fd : FuncData, (∀ (s : Shared) (us : List Value), us.length = (["u"] : List Str).length → BindsTo s fd ⟨us, []⟩ ((["u"] : List Str).zip us)) ∧ ∀ base : Heap, K.In base → base.Ns mainGlobals mg → FnOk P w K mg base (CXo P w) true 16 fa fd ["u"] (zAn K) := by
  obtain ⟨a, rfl, T, b⟩ := z
  exact ⟨a.zso, b, fun base _ _ => zDZ T⟩
end Wb
namespace PySem.W.Fast
def tw17423266074075827323 := ()
def tw13239532149493923797 := ()
def tw5162372456210560932 := ()
def tw7144188819242108481 := ()
def tw16417463914096751329 := ()
def tw608136291064964423 := ()
def tw16100714103623751602 := ()
def tw11850735499115817124 := ()
def tw380613313276186276 := ()
def tw11334545767841271488 := ()
def tw648602731919968161 := ()
def tw184296896167259842 := ()
def tw32132014383377222 := ()
def tw5055859739136081699 := ()
def tw6416753432355028117 := ()
def tw13149468204120379366 := ()
def tw14362606437685047527 := ()
def tw17966245525148382409 := ()
def tw7033497102193732557 := ()
def tw11936105357317169160 := ()
def tw5614520572470001026 := ()
def tw6199282767841394898 := ()
def tw2820664737305154912 := ()
def tw5325084910525523011 := ()
def tw5417641499719465623 := ()
def tw16557168163172952784 := ()
def tw18352418983701418861 := ()
def tw10800388300387445499 := ()
def tw9970899910640691282 := ()
def tw13865466589331778189 := ()
def tw17148275170197540848 := ()
def tw10487437166545269351 := ()
def tw3035777612621380018 := ()
def tw15071735120782059435 := ()
def tw7044883911042069047 := ()
def tw15368651426021006056 := ()
def tw2807211614526041227 := ()
def tw7944513192201994049 := ()
def tw10577869126425884526 := ()
def tw16699388817173175015 := ()
def tw3482352667576325210 := ()
def tw9222113143538845166 := ()
def tw13417710286610531806 := ()
def tw7747438511397353841 := ()
def tw16112316053973368947 := ()
def tw1088258566009591287 := ()
def tw7822737343326984295 := ()
def tw10065012918773904082 := ()
def tw14585221048403879948 := ()
def tw6460690715907787188 := ()
def tw11589541323019451428 := ()
def tw14482872029324283929 := ()
def tw2165651333905210279 := ()
def tw18323344024831551101 := ()
def tw5230864611929436136 := ()
def tw8876662665912888412 := ()
def tw15096237071144105383 := ()
def tw9426282087905994505 := ()
def tw13865177099483054689 := ()
def tw16312275662204321816 := ()
def tw16112546487722676568 := ()
def tw4323067811807177493 := ()
def tw10106953107863483941 := ()
def tw11652455096666519520 := ()
def tw3212705177594623468 := ()
def tw7917398371279992999 := ()
def tw11919766359066232550 := ()
def tw2548372272052164716 := ()
def tw14335656736908210932 := ()
def tw3950438838526218495 := ()
def tw4857289157324479689 := ()
def tw9492395540994135565 := ()
def tw10930287280649594131 := ()
def tw8239888893145333655 := ()
def tw759032699905569851 := ()
def tw10799294511054086364 := ()
def tw6262910836021145485 := ()
def tw4412671121539756482 := ()
def tw3622238981061993590 := ()
def tw13007125979062810701 := ()
def tw6234440538102147790 := ()
def tw15936817412361864130 := ()
def tw9697485079544881380 := ()
def tw1871360241710965178 := ()
def tw16358555726160052358 := ()
def tw10754731582942323999 := ()
def tw1995701663599277694 := ()
def tw13812458371467376043 := ()
end PySem.W.Fast
open PySem PySem.W PyProof.Rows L2 Wb
set_option maxRecDepth 100000 in
set_option maxHeartbeats 0 in
theorem PySem.Challenge.cw_wallbonds_s08_site_holds : PySem.Challenge.rw_wallbonds_s08_site.Holds := by
  w_on; k_headS; (case hw => exact ⟨[.list []], by decide +kernel, by decide +kernel⟩)
  k_fillS
  refine L2.walk_specX (r := PySem.Challenge.rw_wallbonds_s08_site) (cm := true) (k := 16) (ps := ["u"]) (sp := zAn) (by decide +kernel) rfl rfl ⟨fun _ => rfl, by decide, by decide⟩ (fun w h Y => PySem.W.kIn_of Y) ?F ?S
  case F =>
    intro w mg fa h Y KX G hmg
    refine zE9 KX ?_
    refine' txt_mk KX G hmg ?zse ?zee ?zej ?zbX ?zbS ?zaE ?zpO ?zpj ?zp9 ?zpi ?zpn ?zpM ?zpb ?zpL ?zp5 ?zda ?zeZ ?zrW ?zeb ?zed ?zb5 ?zca ?zbY ?zpY ?zpQ ?zpR ?zpu ?zpC ?zpD ?zpA ?zpS ?zph ?zaD ?zbH ?zmR ?zc4 ?zcR ?zbd ?za3 ?zbf ?zlW ?zlH ?zlk ?zlD ?zk7 ?zlr ?zlc ?zlu ?zk0 ?zaB ?zaC ?ZL ?zbI ?zm8 ?zcS ?zc6 ?zbc ?za7 ?zbi ?zkU ?zlV ?zl3 ?zlZ ?zkK ?zlE ?zlG ?zlR ?zl1 ?ZN ?zsx ?zei ?zek ?zbR ?zb6 ?zbT ?zcu ?zcn ?zaJ ?zaY ?ZH ?zbL ?zbO ?zag ?zab ?Zm ?zgO ?zgS ?zdY ?zd3 ?zcc ?zf1 ?zf9 ?zdl ?zdi ?zbE ?zpX ?zpt ?zpF ?zp0 ?zpZ ?zo8 ?Zy ?Zv ?Z3 ?Z1 ?zz5 ?zgW ?zgU ?zd5 ?zdS ?zdZ ?zh9 ?zhY ?zfs ?ze2 ?zc2 ?zxn ?zx6 ?zyp ?zyE ?zxQ ?zxE ?zaA ?zes ?zbq ?zeq ?za0 ?zdK ?zdg ?zlt ?zcx ?zcw ?zaQ ?zaR ?zaP ?zcl ?zck ?zaO ?zaL ?ZJ ?zeH ?zeM ?zcH ?zcA ?za9 ?zbU ?zb2 ?zan ?zao ?ZB ?zjR ?zjc ?zjK ?zjg ?zjm ?zjs ?zY ?yU ?yy ?zvj ?ze9 ?zfj ?zcD ?zcy ?zcI ?zst ?zsw ?zss ?zrR ?zsa ?zr1 ?yC ?yM ?zzZ ?zg3 ?zgV ?zd6 ?zdW ?zdU ?zxe ?zxC ?zxM ?zx9 ?zyF ?zxd ?zcV ?zfm ?zc9 ?zkW ?zcp ?zcs ?zaX ?zaU ?zaT ?zc0 ?zcU ?za2 ?zbb ?Z2 ?zbF ?zbD ?Z7 ?zaf ?Zn ?zeJ ?zeF ?zcE ?zcN ?zbg ?zbN ?zbK ?Z9 ?zaa ?Zo ?zb9 ?zbZ ?zar ?zas ?Zx ?zjB ?zjh ?zjP ?zjz ?zjW ?zjS ?yd ?zx ?zdq ?zdm ?zdu ?zcL ?zbh ?zbw ?zbv ?zbA ?zal ?ZI ?zaN ?zbx ?zbt ?zaW ?Ze ?zqf ?zkM ?zk2 ?zkV ?zqb ?zl0 ?zkY ?zlI ?zhO ?zeN ?zeS ?zeT ?zkT ?zhz ?zhq ?zhE ?zgX ?zd0 ?zdV ?zd7 ?ziq ?zfc ?zfi ?zeO ?znO ?ziJ ?ziT ?ziB ?zfS ?zde ?zdb ?zdf ?zsd ?zn9 ?zoe ?zn6 ?zln ?zhI ?zhA ?zhL ?zud ?zqS ?zq6 ?zrG ?zlN ?zhn ?zhB ?zhx ?zm9 ?ziG ?ziL ?zi9 ?zju ?zgv ?zgb ?zgf ?zn1 ?ziD ?ziP ?ziQ ?zjj ?zgg ?zga ?zgs ?zpo ?zlo ?zla ?zk9 ?zk3 ?zhr ?zhM ?zht ?zji ?zgi ?zge ?zgc ?zu9 ?zqu ?zqR ?zqF ?zm7 ?ziy ?ziK ?ziz ?ze8 ?zcB ?zcG ?zcJ ?zyK ?zyH ?zyb ?zyA ?zsi ?zn4 ?zoi ?zol ?zjM ?zgh ?zgt ?zgp ?zr0 ?zok ?zoh ?zof ?zds ?zby ?zbz ?zbr ?zva ?zq9 ?zrt ?zrA ?zk1 ?zgN ?zh1 ?zfd ?zqh ?zlY ?zk6 ?zm4 ?zco ?znC ?zlJ ?zna ?zyc ?ztY ?zz2 ?zir ?zjv ?zjY ?zdp ?zle ?zlp ?zhT ?znr ?znM ?zAx ?zDm ?zjL ?zjA ?zgR ?zlw ?zin ?zjo ?zjO ?zjQ ?zAj ?zkN ?zbJ ?zkL ?z_all ?z_any ?z_enumerate ?z_len ?z_ord ?z_range ?z_sorted
    (case zse => k_is)
    (case zee => k_is)
    (case zej => k_is)
    (case zbX => k_is)
    (case zbS => k_is)
    (case zaE => k_is)
    (case zpO => kernel_rfl)
    (case zpj => k_is)
    (case zp9 => k_is)
    (case zpi => k_is)
    (case zpn => k_is)
    (case zpM => kernel_rfl)
    (case zpb => k_is)
    (case zpL => k_is)
    (case zp5 => k_is)
    (case zda => k_is)
    (case zeZ => k_is)
    (case zrW => k_is)
    (case zeb => k_is)
    (case zed => k_is)
    (case zb5 => k_is)
    (case zca => k_is)
    (case zbY => k_is)
    (case zpY => kernel_rfl)
    (case zpQ => k_is)
    (case zpR => k_is)
    (case zpu => k_is)
    (case zpC => k_is)
    (case zpD => kernel_rfl)
    (case zpA => k_is)
    (case zpS => k_is)
    (case zph => k_is)
    (case zaD => k_is)
    (case zbH => k_is)
    (case zmR => k_is)
    (case zc4 => k_is)
    (case zcR => k_is)
    (case zbd => k_is)
    (case za3 => k_is)
    (case zbf => k_is)
    (case zlW => kernel_rfl)
    (case zlH => k_is)
    (case zlk => k_is)
    (case zlD => k_is)
    (case zk7 => k_is)
    (case zlr => kernel_rfl)
    (case zlc => k_is)
    (case zlu => k_is)
    (case zk0 => k_is)
    (case zaB => k_is)
    (case zaC => k_is)
    (case ZL => k_is)
    (case zbI => k_is)
    (case zm8 => k_is)
    (case zcS => k_is)
    (case zc6 => k_is)
    (case zbc => k_is)
    (case za7 => k_is)
    (case zbi => k_is)
    (case zkU => kernel_rfl)
    (case zlV => k_is)
    (case zl3 => k_is)
    (case zlZ => k_is)
    (case zkK => k_is)
    (case zlE => kernel_rfl)
    (case zlG => k_is)
    (case zlR => k_is)
    (case zl1 => k_is)
    (case ZN => k_is)
    (case zsx => k_is)
    (case zei => k_is)
    (case zek => k_is)
    (case zbR => k_is)
    (case zb6 => k_is)
    (case zbT => k_is)
    (case zcu => k_is)
    (case zcn => k_is)
    (case zaJ => k_is)
    (case zaY => k_is)
    (case ZH => k_is)
    (case zbL => k_is)
    (case zbO => k_is)
    (case zag => k_is)
    (case zab => k_is)
    (case Zm => k_is)
    (case zgO => k_is)
    (case zgS => k_is)
    (case zdY => k_is)
    (case zd3 => k_is)
    (case zcc => k_is)
    (case zf1 => k_is)
    (case zf9 => k_is)
    (case zdl => k_is)
    (case zdi => k_is)
    (case zbE => k_is)
    (case zpX => k_is)
    (case zpt => k_is)
    (case zpF => k_is)
    (case zp0 => k_is)
    (case zpZ => k_is)
    (case zo8 => k_is)
    (case Zy => k_is)
    (case Zv => k_is)
    (case Z3 => k_is)
    (case Z1 => k_is)
    (case zz5 => k_is)
    (case zgW => k_is)
    (case zgU => k_is)
    (case zd5 => k_is)
    (case zdS => k_is)
    (case zdZ => k_is)
    (case zh9 => k_is)
    (case zhY => k_is)
    (case zfs => k_is)
    (case ze2 => k_is)
    (case zc2 => k_is)
    (case zxn => k_is)
    (case zx6 => k_is)
    (case zyp => k_is)
    (case zyE => k_is)
    (case zxQ => k_is)
    (case zxE => k_is)
    (case zaA => k_is)
    (case zes => k_is)
    (case zbq => k_is)
    (case zeq => k_is)
    (case za0 => k_is)
    (case zdK => k_is)
    (case zdg => k_is)
    (case zlt => k_is)
    (case zcx => k_is)
    (case zcw => k_is)
    (case zaQ => k_is)
    (case zaR => k_is)
    (case zaP => k_is)
    (case zcl => k_is)
    (case zck => k_is)
    (case zaO => k_is)
    (case zaL => k_is)
    (case ZJ => k_is)
    (case zeH => k_is)
    (case zeM => k_is)
    (case zcH => k_is)
    (case zcA => k_is)
    (case za9 => k_is)
    (case zbU => k_is)
    (case zb2 => k_is)
    (case zan => k_is)
    (case zao => k_is)
    (case ZB => k_is)
    (case zjR => k_is)
    (case zjc => k_is)
    (case zjK => k_is)
    (case zjg => k_is)
    (case zjm => k_is)
    (case zjs => k_is)
    (case zY => k_is)
    (case yU => k_is)
    (case yy => k_is)
    (case zvj => k_is)
    (case ze9 => k_is)
    (case zfj => k_is)
    (case zcD => k_is)
    (case zcy => k_is)
    (case zcI => k_is)
    (case zst => k_is)
    (case zsw => k_is)
    (case zss => k_is)
    (case zrR => k_is)
    (case zsa => k_is)
    (case zr1 => k_is)
    (case yC => k_is)
    (case yM => k_is)
    (case zzZ => k_is)
    (case zg3 => k_is)
    (case zgV => k_is)
    (case zd6 => k_is)
    (case zdW => k_is)
    (case zdU => k_is)
    (case zxe => k_is)
    (case zxC => k_is)
    (case zxM => k_is)
    (case zx9 => k_is)
    (case zyF => k_is)
    (case zxd => k_is)
    (case zcV => k_is)
    (case zfm => k_is)
    (case zc9 => k_is)
    (case zkW => k_is)
    (case zcp => k_is)
    (case zcs => k_is)
    (case zaX => k_is)
    (case zaU => k_is)
    (case zaT => k_is)
    (case zc0 => k_is)
    (case zcU => k_is)
    (case za2 => k_is)
    (case zbb => k_is)
    (case Z2 => k_is)
    (case zbF => k_is)
    (case zbD => k_is)
    (case Z7 => k_is)
    (case zaf => k_is)
    (case Zn => k_is)
    (case zeJ => k_is)
    (case zeF => k_is)
    (case zcE => k_is)
    (case zcN => k_is)
    (case zbg => k_is)
    (case zbN => k_is)
    (case zbK => k_is)
    (case Z9 => k_is)
    (case zaa => k_is)
    (case Zo => k_is)
    (case zb9 => k_is)
    (case zbZ => k_is)
    (case zar => k_is)
    (case zas => k_is)
    (case Zx => k_is)
    (case zjB => k_is)
    (case zjh => k_is)
    (case zjP => k_is)
    (case zjz => k_is)
    (case zjW => k_is)
    (case zjS => k_is)
    (case yd => k_is)
    (case zx => k_is)
    (case zdq => k_is)
    (case zdm => k_is)
    (case zdu => k_is)
    (case zcL => kernel_rfl)
    (case zbh => kernel_rfl)
    (case zbw => kernel_rfl)
    (case zbv => kernel_rfl)
    (case zbA => kernel_rfl)
    (case zal => kernel_rfl)
    (case ZI => kernel_rfl)
    (case zaN => kernel_rfl)
    (case zbx => kernel_rfl)
    (case zbt => kernel_rfl)
    (case zaW => kernel_rfl)
    (case Ze => kernel_rfl)
    (case zqf => k_is)
    (case zkM => k_is)
    (case zk2 => k_is)
    (case zkV => k_is)
    (case zqb => k_is)
    (case zl0 => k_is)
    (case zkY => k_is)
    (case zlI => k_is)
    (case zhO => k_is)
    (case zeN => k_is)
    (case zeS => k_is)
    (case zeT => k_is)
    (case zkT => k_is)
    (case zhz => k_is)
    (case zhq => k_is)
    (case zhE => k_is)
    (case zgX => k_is)
    (case zd0 => k_is)
    (case zdV => k_is)
    (case zd7 => k_is)
    (case ziq => k_is)
    (case zfc => k_is)
    (case zfi => k_is)
    (case zeO => k_is)
    (case znO => k_is)
    (case ziJ => k_is)
    (case ziT => k_is)
    (case ziB => k_is)
    (case zfS => k_is)
    (case zde => k_is)
    (case zdb => k_is)
    (case zdf => k_is)
    (case zsd => k_is)
    (case zn9 => k_is)
    (case zoe => k_is)
    (case zn6 => k_is)
    (case zln => k_is)
    (case zhI => k_is)
    (case zhA => k_is)
    (case zhL => k_is)
    (case zud => k_is)
    (case zqS => k_is)
    (case zq6 => k_is)
    (case zrG => k_is)
    (case zlN => k_is)
    (case zhn => k_is)
    (case zhB => k_is)
    (case zhx => k_is)
    (case zm9 => k_is)
    (case ziG => k_is)
    (case ziL => k_is)
    (case zi9 => k_is)
    (case zju => k_is)
    (case zgv => k_is)
    (case zgb => k_is)
    (case zgf => k_is)
    (case zn1 => k_is)
    (case ziD => k_is)
    (case ziP => k_is)
    (case ziQ => k_is)
    (case zjj => k_is)
    (case zgg => k_is)
    (case zga => k_is)
    (case zgs => k_is)
    (case zpo => k_is)
    (case zlo => k_is)
    (case zla => k_is)
    (case zk9 => k_is)
    (case zk3 => k_is)
    (case zhr => k_is)
    (case zhM => k_is)
    (case zht => k_is)
    (case zji => k_is)
    (case zgi => k_is)
    (case zge => k_is)
    (case zgc => k_is)
    (case zu9 => k_is)
    (case zqu => k_is)
    (case zqR => k_is)
    (case zqF => k_is)
    (case zm7 => k_is)
    (case ziy => k_is)
    (case ziK => k_is)
    (case ziz => k_is)
    (case ze8 => k_is)
    (case zcB => k_is)
    (case zcG => k_is)
    (case zcJ => k_is)
    (case zyK => k_is)
    (case zyH => k_is)
    (case zyb => k_is)
    (case zyA => k_is)
    (case zsi => k_is)
    (case zn4 => k_is)
    (case zoi => k_is)
    (case zol => k_is)
    (case zjM => k_is)
    (case zgh => k_is)
    (case zgt => k_is)
    (case zgp => k_is)
    (case zr0 => k_is)
    (case zok => k_is)
    (case zoh => k_is)
    (case zof => k_is)
    (case zds => k_is)
    (case zby => k_is)
    (case zbz => k_is)
    (case zbr => k_is)
    (case zva => k_is)
    (case zq9 => k_is)
    (case zrt => k_is)
    (case zrA => k_is)
    (case zk1 => k_is)
    (case zgN => k_is)
    (case zh1 => k_is)
    (case zfd => k_is)
    (case zqh => k_is)
    (case zlY => k_is)
    (case zk6 => k_is)
    (case zm4 => k_is)
    (case zco => k_is)
    (case znC => k_is)
    (case zlJ => k_is)
    (case zna => k_is)
    (case zyc => k_is)
    (case ztY => k_is)
    (case zz2 => k_is)
    (case zir => k_is)
    (case zjv => k_is)
    (case zjY => k_is)
    (case zdp => k_is)
    (case zle => k_is)
    (case zlp => k_is)
    (case zhT => k_is)
    (case znr => k_is)
    (case znM => k_is)
    (case zAx => k_is)
    (case zDm => k_is)
    (case zjL => k_is)
    (case zjA => k_is)
    (case zgR => k_is)
    (case zlw => k_is)
    (case zin => k_is)
    (case zjo => k_is)
    (case zjO => k_is)
    (case zjQ => k_is)
    (case zAj => k_is)
    (case zkN => k_is)
    (case zbJ => k_is)
    (case zkL => k_is)
    (case z_all => k_is)
    (case z_any => k_is)
    (case z_enumerate => k_is)
    (case z_len => k_is)
    (case z_ord => k_is)
    (case z_range => k_is)
    (case z_sorted => k_is)
  case S =>
    intro K H xs a hO hwi hask hx
    cases hx with
    | cons h0 hx1 =>
      cases hx1
      cases h0 with
      | lst hs0 ha0 =>
        have e0 := L2.ints_dw a.1 _ ha0
        subst e0
        have q : ((Codec.inLen 0 6000 a.1 && a.1.all (Codec.inInt 0 255)) && true) = true := hwi
        simp only [Bool.and_eq_true] at q
        have hb0 : ∀ x ∈ a.1, 0 ≤ x ∧ x ≤ 255 := fun x hx => Codec.inInt_iff.mp (List.all_eq_true.mp q.1.2 x hx)
        obtain ⟨d0, l0⟩ := zD1 a.1 hb0
        rw [d0] at hs0
        have m0 : (SiteNeutral.text a.1).length ≤ 6000 := by rw [l0]; exact (Codec.inNat_iff.mp q.1.1).2
        refine ⟨_, SiteNeutral.text a.1, rfl, hs0, m0, fun H' p hp => ?_⟩
        show Dw _ H' (.ref p) (.list ((PyWqbnhd.site a.1).map WData.int))
        rw [zE0 a.1]
        exact .lst (L2.SqL.of hp) (L2.dw_ints _)
#print axioms PySem.Challenge.cw_wallbonds_s08_site_holds
end
