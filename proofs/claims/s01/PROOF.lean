import PyProof.Rows.All
import Wide.All
import OpenK.AllK
import Wide.FinOn
import PyProof.EqAt
import PyProof.EqKinds
import PyProof.TupleCall
import KE.BitLaws
import Open.SpecLaws
import KE.OsHead
import KE.OsGo
import PySem.Challenge.RW_duetimers_s01_answers
set_option Elab.async false
set_option linter.all false
set_option maxRecDepth 100000
/-! THE HAND LAYER, for ints, bools, texts, own classes, lists, tuples, dicts, comprehensions, walks over dicts, enumerate, zip, reversed, texts, calls, loops. Paste it whole ahead of your own text; what your proof does not reach may be deleted. -/
namespace L2
open PySem PySem.Spec PyProof.Rows
/-- a key: an int or a str -/
abbrev Key := Sum Int Str
def keyIs : Key → Value → Bool
  | .inl k, v => Value.isInt k v
  | .inr x, v => Value.isStrOf x v
def keyH (w : World) : Key → Int
  | .inl k => hashInt k
  | .inr x => hashStr w x
theorem keyIs_shape : ∀ {k : Key} {v : Value}, keyIs k v = true → (∃ i t, k = Sum.inl i ∧ v = Value.int i t) ∨ (∃ x t, k = Sum.inr x ∧ v = Value.str x t)
  | .inl i, v, h => by
    obtain ⟨t, e⟩ := Value.isInt_shape (k := i) (v := v) h
    exact .inl ⟨i, t, rfl, e⟩
  | .inr x, v, h => by
    obtain ⟨t, e⟩ := Value.isStrOf_shape (x := x) (v := v) h
    exact .inr ⟨x, t, rfl, e⟩
theorem keyIs_int (i : Int) (t : Tok) : keyIs (.inl i) (.int i t) = true := by simp [keyIs, Value.isInt]
theorem keyIs_str (x : Str) (t : Tok) : keyIs (.inr x) (.str x t) = true := by simp [keyIs, Value.isStrOf]
theorem key_ll (a b : Int) : decide ((Sum.inl a : Key) = Sum.inl b) = (a == b) := by
  by_cases e : a = b
  · subst e; simp
  · have h : ¬ (Sum.inl a : Key) = Sum.inl b := fun q => e (Sum.inl.inj q)
    rw [decide_eq_false h]
    exact (beq_eq_false_iff_ne.mpr e).symm
theorem key_rr (a b : Str) : decide ((Sum.inr a : Key) = Sum.inr b) = decide (a = b) := by
  by_cases e : a = b
  · subst e; simp
  · have h : ¬ (Sum.inr a : Key) = Sum.inr b := fun q => e (Sum.inr.inj q)
    rw [decide_eq_false h, decide_eq_false e]
theorem key_lr (a : Int) (b : Str) : decide ((Sum.inl a : Key) = Sum.inr b) = false := decide_eq_false (fun q => nomatch q)
theorem key_rl (a : Str) (b : Int) : decide ((Sum.inr a : Key) = Sum.inl b) = false := decide_eq_false (fun q => nomatch q)
def mixKind (prog : Program) (w : World) : PySem.KeyKind prog w Key where
  is := keyIs
  hash := keyH w
  inj := fun v a b ha hb => by
    rcases keyIs_shape ha with ⟨i, t, rfl, rfl⟩ | ⟨x, t, rfl, rfl⟩
    · rcases keyIs_shape hb with ⟨j, u, rfl, e⟩ | ⟨y, u, rfl, e⟩
      · injection e with e1 _; rw [e1]
      · exact nomatch e
    · rcases keyIs_shape hb with ⟨j, u, rfl, e⟩ | ⟨y, u, rfl, e⟩
      · exact nomatch e
      · injection e with e1 _; rw [e1]
  byValue := fun k v h => by
    rcases keyIs_shape h with ⟨i, t, rfl, rfl⟩ | ⟨x, t, rfl, rfl⟩ <;> rfl
  pyHash := fun hv h => by
    rcases keyIs_shape hv with ⟨i, t, rfl, rfl⟩ | ⟨x, t, rfl, rfl⟩
    · exact wpAny_pyHash_int h
    · exact wpAny_pyHash_str h
  eqBool := fun hu hv h => by
    rcases keyIs_shape hu with ⟨i, t, rfl, rfl⟩ | ⟨x, t, rfl, rfl⟩
    · rcases keyIs_shape hv with ⟨j, u, rfl, rfl⟩ | ⟨y, u, rfl, rfl⟩
      · rw [key_ll] at h; exact wpAny_eqBool_int h
      · rw [key_lr] at h; exact SeqAt.EqAt.int_str i t y u _ _ _ _ h
    · rcases keyIs_shape hv with ⟨j, u, rfl, rfl⟩ | ⟨y, u, rfl, rfl⟩
      · rw [key_rl] at h; exact SeqAt.EqAt.str_int x t j u _ _ _ _ h
      · rw [key_rr] at h; exact wpAny_eqBool_str h
  «strs» := fun k x t v h => by
    rcases keyIs_shape h with ⟨i, u, rfl, e⟩ | ⟨y, u, rfl, e⟩
    · exact nomatch e
    · injection e with e1 _
      subst e1
      cases v <;> rfl
theorem mixKind_int (prog : Program) (w : World) (i : Int) (t : Tok) : (mixKind prog w).is (.inl i) (.int i t) = true := keyIs_int i t
theorem mixKind_str (prog : Program) (w : World) (x : Str) (t : Tok) : (mixKind prog w).is (.inr x) (.str x t) = true := keyIs_str x t
end L2
namespace L2
open PySem PySem.Spec PyProof.Rows
/-- a value, without the heap -/
inductive V where
  | non | bl (b : Bool) | int (i : Int) | str (x : Str) | byt (b : Array UInt8) | flt (b : UInt64) | ref (a : Addr) | ty (n : String)
  deriving DecidableEq
def RelV : V → Value → Prop
  | .non, u => u = Value.none
  | .bl b, u => u = Value.bool b
  | .int i, u => ∃ t, u = Value.int i t
  | .str x, u => ∃ t, u = Value.str x t
  | .byt b, u => ∃ t, u = Value.bytes b t
  | .flt b, u => ∃ t, u = Value.float b t
  | .ref a, u => u = Value.ref a
  | .ty n, u => u = Value.type n
abbrev Vals : List V → List Value → Prop := Paired RelV
theorem Vals.length {xs : List V} {us : List Value} (r : Vals xs us) : xs.length = us.length := Paired.length r
theorem Vals.get : ∀ {xs : List V} {us : List Value} {i : Nat} {x : V}, Vals xs us → xs[i]? = some x → ∃ u, us[i]? = some u ∧ RelV x u
  | _, _, _, _, .nil, e => by simp at e
  | _, _, 0, _, .cons r _, e => by simp at e; subst e; exact ⟨_, rfl, r⟩
  | _, _, i + 1, x, .cons _ t, e => by
    obtain ⟨u, h1, h2⟩ := Vals.get (i := i) (x := x) t (by simpa using e)
    exact ⟨u, by simpa using h1, h2⟩
theorem Vals.append : ∀ {xs ys : List V} {us ws : List Value}, Vals xs us → Vals ys ws → Vals (xs ++ ys) (us ++ ws)
  | _, _, _, _, .nil, s => s
  | _, _, _, _, .cons r t, s => .cons r (Vals.append t s)
theorem Vals.take : ∀ {xs : List V} {us : List Value} (n : Nat), Vals xs us → Vals (xs.take n) (us.take n)
  | _, _, 0, _ => .nil
  | _, _, _ + 1, .nil => .nil
  | _, _, n + 1, .cons r t => .cons r (Vals.take n t)
theorem Vals.drop : ∀ {xs : List V} {us : List Value} (n : Nat), Vals xs us → Vals (xs.drop n) (us.drop n)
  | _, _, 0, r => r
  | _, _, _ + 1, .nil => .nil
  | _, _, n + 1, .cons _ t => Vals.drop n t
def RelO : Option V → Option Value → Prop
  | some v, some u => RelV v u
  | none, none => True
  | _, _ => False
def KV {κ : Type} : List (κ × V) → List (κ × Value) → Prop := Paired fun (p : κ × V) (q : κ × Value) => p.1 = q.1 ∧ RelV p.2 q.2
/-- a key of a dict (00_mix): an int or a text -/
def kV : Key → V
  | .inl i => .int i
  | .inr x => .str x
/-- what stands at a tracked address -/
inductive HO where
  /-- a list -/
  | lst (xs : List V)
  /-- a tuple (never changes) -/
  | tup (xs : List V)
  /-- a dict whose keys are ints and texts; one whose keys are tuples of ints and texts (the empty one is both) -/
  | dK (kvs : List (Key × V)) | dT (kvs : List (List Key × V))
  /-- a set of ints: its members, its size -/
  | set (S : Int → Bool) (n : Nat)
  /-- an instance of the class at C, its dict at dx, its attributes -/
  | ins (C dx : Addr) (fs : List (Str × V))
  /-- the dict of the instance at x -/
  | own (x : Addr)
  /-- the dict of an exception -/
  | xd (fs : List (Str × V))
  /-- a bound method, f of x -/
  | met (f x : Addr)
  /-- a range object lo, lo + 1, .. below hi -/
  | rng (lo hi : Int)
  /-- a thing that is known to the object (the script; a dict while a loop walks it): read, never written while it is so -/
  | frz (o : Obj) (u : HO)
  /-- a code object's table -/
  | tbl (ps : Array Value)
  /-- any other thing, by what is true of its one object (a def of one's own: SetO a S n := HO.ext fun h => ..) -/
  | ext (φ : Heap → Prop)
abbrev Hp := Addr → Option HO
def upd (H : Hp) (a : Addr) (o : HO) : Hp := fun b => if b = a then some o else H b
theorem upd_same {H : Hp} {a : Addr} {o : HO} : upd H a o a = some o := by unfold upd; rw [if_pos rfl]
theorem upd_ne {H : Hp} {a b : Addr} {o : HO} (h : b ≠ a) : upd H a o b = H b := by unfold upd; rw [if_neg h]
theorem upd_upd {H : Hp} {a : Addr} {o u : HO} : upd (upd H a o) a u = upd H a u := by
  funext b; unfold upd; split <;> rfl
/-- two objects of different content stand apart -/
theorem ne_of {H : Hp} {a b : Addr} {o u : HO} (h : H a = some o) (h' : H b = some u) (d : o ≠ u) : a ≠ b := by
  intro e; subst e; rw [h] at h'; exact d (Option.some.inj h')
theorem ne_of_none {H : Hp} {a b : Addr} {o : HO} (h : H a = some o) (h' : H b = none) : a ≠ b := by
  intro e; subst e; rw [h] at h'; cases h'
section
variable (P : Program) (w : World)
def ObjOk (H : Hp) (h : Heap) (a : Addr) : HO → Prop
  | .lst xs => xs.length ≤ sizeLine ∧ ∃ (its : List Value) (n : Nat), Vals xs its ∧ h.get? a = some { cls := .type "list", data := .seq its.toArray n }
  | .tup xs => xs.length ≤ sizeLine ∧ ∃ its : List Value, Vals xs its ∧ IsTup h a its.toArray
  | .dK kvs => kvs.length ≤ sizeLine ∧ (a == sysModules) = false ∧ ∃ vs, KV kvs vs ∧ h.DictOf (mixKind P w) a vs
  | .dT kvs => kvs.length ≤ sizeLine ∧ (a == sysModules) = false ∧ ∃ xs : List (List Key × Addr × Value),
      Paired (fun (p : List Key × V) (q : List Key × Addr × Value) => p.1 = q.1 ∧ H q.2.1 = some (.tup (p.1.map kV)) ∧ RelV p.2 q.2.2) kvs xs ∧
      ∃ o es ep, h.get? a = some o ∧ o.ExactDict ∧ o.data = .dict es ep ∧ es.toList = xs.map (entryOfKey (tupleKind (mixKind P w))) ∧ (xs.map (·.1)).Nodup
  | .set S n => h.SetOf (intKind P w) a S n
  | .ins C dx fs => H dx = some (.own a) ∧ fs.length ≤ 1000 ∧ dx ≠ a ∧ h.get? a = some (PySem.W.instObj C dx) ∧
      ∃ mA, h.Ns1 dx mA ∧ (∀ f, RelO (fs.lookup f) (mA f)) ∧ PySem.Within mA (fs.map (·.1))
  | .own _ => ∃ o, h.get? a = some o
  | .xd fs => ∃ mA, h.Ns1 a mA ∧ ∀ f, RelO (fs.lookup f) (mA f)
  | .rng lo hi => ∃ t u v, h.get? a = some { cls := .type "range", data := .fields #[.int lo t, .int hi u, .int 1 v] }
  | .frz o u => h.get? a = some o ∧ ObjOk H h a u
  | .tbl ps => h.get? a = some { cls := .none, data := .fields ps }
  | .met f x => h.get? a = some (PySem.W.methodObj (.ref f) (.ref x))
  | .ext φ => φ h ∧ (∃ o, h.get? a = some o) ∧ ∀ h1 h2 : Heap, φ h1 → (∀ o, h1.get? a = some o → h2.get? a = some o) → φ h2
/-- the abstract heap is held -/
def HOk (H : Hp) (h : Heap) : Prop := ∀ a o, H a = some o → ObjOk P w H h a o
end
section
variable {P : Program} {w : World} {H H' : Hp} {h h' : Heap} {a : Addr} {o : HO}
theorem ObjOk.lt (x : ObjOk P w H h a o) : a < h.objs.size := by
  cases o with
  | lst xs => obtain ⟨_, _, _, _, e⟩ := x; exact Heap.lt_size e
  | tup xs => obtain ⟨_, _, _, p⟩ := x; exact p.lt
  | dK kvs => obtain ⟨_, _, _, _, o, _, _, e, _⟩ := x; exact Heap.lt_size e
  | dT kvs => obtain ⟨_, _, _, _, o, _, _, e, _⟩ := x; exact Heap.lt_size e
  | set S n => obtain ⟨o, _, _, _, e, _⟩ := x; exact Heap.lt_size e
  | ins C dx fs => obtain ⟨_, _, _, e, _⟩ := x; exact Heap.lt_size e
  | own y => obtain ⟨_, e⟩ := x; exact Heap.lt_size e
  | xd fs => obtain ⟨_, ⟨_, _, _, e, _⟩, _⟩ := x; exact Heap.lt_size e
  | rng lo hi => obtain ⟨_, _, _, e⟩ := x; exact Heap.lt_size e
  | frz ob u => obtain ⟨e, _⟩ := x; exact Heap.lt_size e
  | tbl ps => exact Heap.lt_size (show h.get? a = some _ from x)
  | met f y => exact Heap.lt_size (show h.get? a = some _ from x)
  | ext φ => obtain ⟨_, ⟨_, e⟩, _⟩ := x; exact Heap.lt_size e
theorem Paired.mapP {α β : Type} {F G : α → β → Prop} : ∀ {l₁ : List α} {l₂ : List β}, Paired F l₁ l₂ → (∀ a b, F a b → G a b) → Paired G l₁ l₂
  | _, _, .nil, _ => .nil
  | _, _, .cons r t, f => .cons (f _ _ r) (Paired.mapP t f)
/-- what an object's description leans on: its own object, its own dict, the tuples -/
theorem ObjOk.stay (x : ObjOk P w H h a o) (k : ∀ b u, (b = a ∨ H b = some (.own a)) → h.get? b = some u → h'.get? b = some u)
    (ho : ∀ b, H b = some (.own a) → H' b = some (.own a)) (ht : ∀ b xs, H b = some (.tup xs) → H' b = some (.tup xs)) : ObjOk P w H' h' a o := by
  induction o with
  | lst xs => obtain ⟨z, its, n, r, e⟩ := x; exact ⟨z, its, n, r, k _ _ (.inl rfl) e⟩
  | tup xs => obtain ⟨z, its, r, ob, e, c⟩ := x; exact ⟨z, its, r, ob, k _ _ (.inl rfl) e, c⟩
  | dK kvs => obtain ⟨z, y, vs, r, ob, es, ep, e, c⟩ := x; exact ⟨z, y, vs, r, ob, es, ep, k _ _ (.inl rfl) e, c⟩
  | dT kvs =>
    obtain ⟨z, y, xs, r, ob, es, ep, e, c⟩ := x
    exact ⟨z, y, xs, Paired.mapP r fun p q z => ⟨z.1, ht _ _ z.2.1, z.2.2⟩, ob, es, ep, k _ _ (.inl rfl) e, c⟩
  | set S n => obtain ⟨ob, es, ep, t, e, c⟩ := x; exact ⟨ob, es, ep, t, k _ _ (.inl rfl) e, c⟩
  | ins C dx fs =>
    obtain ⟨d, z, ne, e, mA, ⟨od, es, ep, e2, c⟩, r⟩ := x
    exact ⟨ho _ d, z, ne, k _ _ (.inl rfl) e, mA, ⟨od, es, ep, k _ _ (.inr d) e2, c⟩, r⟩
  | own y => obtain ⟨ob, e⟩ := x; exact ⟨ob, k _ _ (.inl rfl) e⟩
  | xd fs => obtain ⟨mA, ⟨od, es, ep, e, c⟩, r⟩ := x; exact ⟨mA, ⟨od, es, ep, k _ _ (.inl rfl) e, c⟩, r⟩
  | rng lo hi => obtain ⟨t, u, v, e⟩ := x; exact ⟨t, u, v, k _ _ (.inl rfl) e⟩
  | frz ob u ih => obtain ⟨e, q⟩ := x; exact ⟨k _ _ (.inl rfl) e, ih q⟩
  | tbl ps =>
    have e : h.get? a = some { cls := .none, data := .fields ps } := x
    show h'.get? a = some { cls := .none, data := .fields ps }
    exact k a _ (.inl rfl) e
  | met f y =>
    have e : h.get? a = some (PySem.W.methodObj (.ref f) (.ref y)) := x
    show h'.get? a = some (PySem.W.methodObj (.ref f) (.ref y))
    exact k a _ (.inl rfl) e
  | ext φ => obtain ⟨p, ⟨o, e⟩, st⟩ := x; exact ⟨st _ _ p fun o q => k _ _ (.inl rfl) q, ⟨o, k _ _ (.inl rfl) e⟩, st⟩
theorem HOk.lt (x : HOk P w H h) (e : H a = some o) : a < h.objs.size := (x a o e).lt
theorem HOk.fresh (x : HOk P w H h) (e : h.objs.size ≤ a) : H a = none := by
  cases q : H a with
  | none => rfl
  | some u => exact absurd (Nat.lt_of_lt_of_le (x.lt q) e) (Nat.lt_irrefl _)
/-- every object of the heap is kept -/
theorem HOk.kept (x : HOk P w H h) (k : ∀ b u, h.get? b = some u → h'.get? b = some u) : HOk P w H h' := fun a o e =>
  (x a o e).stay (fun b u _ q => k b u q) (fun _ q => q) fun _ _ q => q
/-- a new object is laid and tracked -/
theorem HOk.laid (x : HOk P w H h) (k : ∀ b u, h.get? b = some u → h'.get? b = some u) (hp : h.objs.size ≤ a) (new : ObjOk P w (upd H a o) h' a o) : HOk P w (upd H a o) h' := fun b u e => by
  have hn := x.fresh hp
  by_cases hb : b = a
  · subst hb; rw [upd_same] at e; cases e; exact new
  · rw [upd_ne hb] at e
    exact (x b u e).stay (fun c v _ q => k c v q) (fun c q => by rw [upd_ne (ne_of_none q hn)]; exact q) fun c xs q => by rw [upd_ne (ne_of_none q hn)]; exact q
end
/-- what may be read as u: it is u, or a known u -/
def Rd (H : Hp) (a : Addr) (u : HO) : Prop := H a = some u ∨ ∃ o, H a = some (.frz o u)
theorem Rd.ok {P : Program} {w : World} {H : Hp} {h : Heap} {a : Addr} {u : HO} (r : Rd H a u) (x : HOk P w H h) : ObjOk P w H h a u := by
  rcases r with r | ⟨o, r⟩
  · exact x a u r
  · obtain ⟨_, q⟩ := x a _ r
    exact q
/-- what may be written -/
def Mut : Option HO → Prop
  | some (.lst _) => True
  | some (.dK _) => True
  | some (.dT _) => True
  | some (.set _ _) => True
  | some (.ins _ _ _) => True
  | some (.ext _) => True
  | _ => False
section
variable {P : Program} {w : World} {H : Hp} {h h' : Heap} {x e : Addr} {o' : HO}
/-- the object at e is changed: x itself, or the dict of the instance x -/
theorem HOk.write (ok : HOk P w H h) (mu : Mut (H x)) (he : e = x ∨ H e = some (.own x)) (k : ∀ b u, b ≠ e → h.get? b = some u → h'.get? b = some u) (heo : ∃ u, h'.get? e = some u)
    (new : ObjOk P w (upd H x o') h' x o') : HOk P w (upd H x o') h' := fun b u q => by
  have nown : ∀ c y, H c = some (.own y) → c ≠ x := fun c y r z => by subst z; rw [r] at mu; exact mu
  have ntup : ∀ c xs, H c = some (.tup xs) → c ≠ x := fun c xs r z => by subst z; rw [r] at mu; exact mu
  by_cases hb : b = x
  · subst hb; rw [upd_same] at q; cases q; exact new
  · rw [upd_ne hb] at q
    by_cases hbe : b = e
    · have q' : H b = some (.own x) := by
        rcases he with z | z
        · exact absurd (hbe.trans z) hb
        · rw [hbe]; exact z
      rw [q] at q'; cases q'
      obtain ⟨v, hv⟩ := heo
      exact ⟨v, by rw [hbe]; exact hv⟩
    · refine (ok b u q).stay (fun c v hc r => k c v ?_ r) (fun c r => by rw [upd_ne (nown c b r)]; exact r) fun c xs r => by rw [upd_ne (ntup c xs r)]; exact r
      rcases hc with rfl | hc
      · exact hbe
      · rintro rfl
        rcases he with z | z
        · exact nown c b hc z
        · rw [hc] at z; cases z; exact hb rfl
end
/-! ### kept unless tracked; of the frames at fs (the callers') the slots may change (an exception that passes writes there); of the records at ex (iterators) nothing is said -/
structure Un (fs ex : List Addr) (H H' : Hp) (h h' : Heap) : Prop where
  keep : ∀ b o, h.get? b = some o → H b = none → b ∉ fs → b ∉ ex → h'.get? b = some o
  slot : ∀ b o, h.get? b = some o → H b = none → b ∈ fs → b ∉ ex → ∃ sl, h'.get? b = some { o with slots := sl }
  free : ∀ b o, h.get? b = some o → H b = none → b ∉ ex → H' b = none
  there : ∀ b o, h.get? b = some o → b ∉ ex → ∃ o', h'.get? b = some o'
  tups : ∀ b xs, H b = some (.tup xs) → H' b = some (.tup xs)
  frzs : ∀ b o u, H b = some (.frz o u) → H' b = some (.frz o u)
  tbls : ∀ b ps, H b = some (.tbl ps) → ∃ more, H' b = some (.tbl (ps ++ more))
section
variable {fs fs' ex ex' : List Addr} {H H1 H2 : Hp} {h h1 h2 h' : Heap} {a x e : Addr} {o : HO}
theorem Un.any (u : Un fs ex H H1 h h1) {b : Addr} {ob : Obj} (q : h.get? b = some ob) (n : H b = none) (hx : b ∉ ex) : ∃ sl, h1.get? b = some { ob with slots := sl } := by
  by_cases hb : b ∈ fs
  · exact u.slot b ob q n hb hx
  · exact ⟨ob.slots, u.keep b ob q n hb hx⟩
theorem Un.kept (k : ∀ b u, h.get? b = some u → h'.get? b = some u) : Un fs ex H H h h' :=
  ⟨fun b ob q _ _ _ => k b ob q, fun b ob q _ _ _ => ⟨ob.slots, k b ob q⟩, fun _ _ _ n _ => n, fun b ob q _ => ⟨ob, k b ob q⟩, fun _ _ q => q, fun _ _ _ q => q, fun _ ps q => ⟨#[], by rw [q]; simp⟩⟩
theorem Un.refl : Un fs ex H H h h := Un.kept fun _ _ q => q
theorem Un.laid (k : ∀ b u, h.get? b = some u → h'.get? b = some u) (hp : h.objs.size ≤ a) (hn : H a = none) : Un fs ex H (upd H a o) h h' where
  keep := fun b u q _ _ _ => k b u q
  slot := fun b u q _ _ _ => ⟨u.slots, k b u q⟩
  free := fun b u q n _ => by rw [upd_ne (Nat.ne_of_lt (Nat.lt_of_lt_of_le (Heap.lt_size q) hp))]; exact n
  there := fun b u q _ => ⟨u, k b u q⟩
  tups := fun b xs q => by rw [upd_ne (ne_of_none q hn)]; exact q
  frzs := fun b u xs q => by rw [upd_ne (ne_of_none q hn)]; exact q
  tbls := fun b ps q => ⟨#[], by rw [upd_ne (ne_of_none q hn), q]; simp⟩
theorem Un.write (mu : Mut (H x)) (he : e = x ∨ H e = some (.own x)) (k : ∀ b u, b ≠ e → h.get? b = some u → h'.get? b = some u) (heo : ∃ u, h'.get? e = some u) : Un fs ex H (upd H x o) h h' := by
  have hx : ∀ b, H b = none → b ≠ x := fun b n z => by subst z; rw [n] at mu; exact mu
  have hb : ∀ b, H b = none → b ≠ e := fun b n z => by
    subst z
    rcases he with r | r
    · exact hx b n r
    · rw [n] at r; cases r
  have hm : ∀ b u, H b = some u → ¬ Mut (some u) → b ≠ x := fun b u q nm z => by subst z; rw [q] at mu; exact nm mu
  refine ⟨fun b u q n _ _ => k b u (hb b n) q, fun b u q n _ _ => ⟨u.slots, k b u (hb b n) q⟩, fun b u q n _ => by rw [upd_ne (hx b n)]; exact n, fun b u q _ => ?_,
    fun b xs q => by rw [upd_ne (hm b _ q fun z => z)]; exact q, fun b u xs q => by rw [upd_ne (hm b _ q fun z => z)]; exact q, fun b ps q => ⟨#[], by rw [upd_ne (hm b _ q fun z => z), q]; simp⟩⟩
  by_cases hbe : b = e
  · subst hbe; exact heo
  · exact ⟨u, k b u hbe q⟩
end
/-! ### the heap without what is tracked -/
def trk (h : Heap) (H : Hp) : List Addr := (List.range h.objs.size).filter fun a => (H a).isSome
def hidT (h : Heap) (H : Hp) : Heap := PySem.W.hideAll h (trk h H)
theorem hidT_size (h : Heap) (H : Hp) : (hidT h H).objs.size = h.objs.size := PySem.W.hideAll_size _ _
theorem hidT_get {h : Heap} {H : Hp} {b : Addr} {o : Obj} (e : h.get? b = some o) (n : H b = none) : (hidT h H).get? b = some o :=
  PySem.W.hideAll_get _ e fun hm => by
    have q : (H b).isSome = true := (List.mem_filter.mp hm).2
    rw [n] at q; simp at q
theorem of_hidT {h : Heap} {H : Hp} {b : Addr} {o : Obj} (e : (hidT h H).get? b = some o) : h.get? b = some o ∧ H b = none := by
  have e' : h.get? b = some o := PySem.W.of_hideAll (trk h H) e
  refine ⟨e', ?_⟩
  cases q : H b with
  | none => rfl
  | some x =>
    have hm : b ∈ trk h H := List.mem_filter.mpr ⟨List.mem_range.mpr (Heap.lt_size e'), by simp [q]⟩
    have z : (hidT h H).get? b = none := PySem.W.hideAll_none (trk h H) hm
    rw [z] at e; cases e
/-! ### OpenK's ledger, filled with every new object but one -/
end L2
namespace L2
open PySem PySem.Spec PyProof.Rows
/-- the module's facts, over the base: the heap at the law's entry without what is tracked there -/
structure Mod (K : PySem.W.Frag) (mg : Str → Option Value) (base : Heap) : Prop where
  kin : K.In base
  glob : base.Ns mainGlobals mg
  blt : ∃ mb, base.Ns builtinsNs mb ∧ ∀ x : Str, x ≠ "__name__" → mb x = bootBuiltins x
  nolimit : base.NoLimit
/-- the context: a def's body (or a comprehension's block) running. base: fixed through the whole law; s₀, H₀: the entry; outer: the frames whose slots others may change (a def's callers); stack: all frames that run;
   ex: iterators that were made ahead of the entry and are walked here (a comprehension's); fn: the names whose cells were made at the entry (a def: all; a comprehension's block: its own); calm: not within an except suite; pn: pins that every state bears; xe: what is wanted of an exception that leaves the code -/
structure Cx where
  prog : Program
  w : World
  K : PySem.W.Frag
  mg : Str → Option Value
  base : Heap
  A : Around
  N : List Str
  s_0 : Shared
  H_0 : Hp
  env : Env
  outer : List Env
  stack : List Env
  ex : List Addr
  fn : Str → Bool
  calm : Bool
  pn : List (Addr × Obj)
  xe : Value → Shared → Prop
/-- the callers' frames -/
def frs (l : List Env) : List Addr := l.filterMap (·.frame)
abbrev Cx.fs (X : Cx) : List Addr := frs X.outer
def Vis (sc : Scope) (x : Str) : Prop := sc.names.lookup x = some .local ∨ sc.names.lookup x = some .cell ∨ sc.names.lookup x = some .free
def Loc (sc : Scope) (x : Str) : Prop := sc.names.lookup x = some .local ∨ sc.names.lookup x = some .cell
def Look (env : Env) (h : Heap) (m : Str → Option Value) (x : Str) (u : Value) : Prop :=
  (env.kindOf x = some .local ∧ m x = some u) ∨ ((env.kindOf x = some .cell ∨ env.kindOf x = some .free) ∧ ∃ c, env.cells.lookup x = some c ∧ h.IsCell c (some u))
structure Cx.Ok (X : Cx) : Prop where
  mod : Mod X.K X.mg X.base
  kind : X.env.scope.kind = .function
  glob : X.env.globals = mainGlobals
  blt : X.env.builtins = builtinsNs
  above : X.s_0.heap.objs.size ≤ X.env.locals
  inj : ∀ x y c, X.env.cells.lookup x = some c → X.env.cells.lookup y = some c → x = y
  has : ∀ x, (X.env.kindOf x = some .cell ∨ X.env.kindOf x = some .free) → ∃ c, X.env.cells.lookup x = some c
  cab : ∀ x c, X.fn x = true → X.env.cells.lookup x = some c → X.s_0.heap.objs.size ≤ c
  hd : X.calm = true → X.A.handled = none
  frames : X.A.frames = some X.stack
  stk : X.stack = X.outer ∨ (X.stack = X.env :: X.outer ∧ X.env.frame = some X.env.locals)
  exf : ∀ b ∈ X.ex, b ≠ X.env.locals ∧ ∀ x c, X.env.cells.lookup x = some c → c ≠ b
  bs : ∀ b o, X.base.get? b = some o → X.s_0.heap.get? b = some o ∧ X.H_0 b = none
  bsz : X.base.objs.size ≤ X.s_0.heap.objs.size
  noex : ∀ b o, X.base.get? b = some o → b ∉ X.ex
  exfs : ∀ b ∈ X.ex, b ∉ X.fs
  funs : X.s_0.heap.FunFrames X.base X.outer
  frf : ∀ b ∈ X.fs, X.H_0 b = none
structure Inv (X : Cx) (pins : List (Addr × Obj)) (σ : List (Option V)) (H : Hp) (s : Shared) : Prop where
  ok : X.Ok
  os : s.os = X.s_0.os
  bare : AllBare s.gens
  base : Un X.fs X.ex X.H_0 H X.s_0.heap s.heap
  loc : ∃ m, s.heap.Ns X.env.locals m ∧ ∀ (i : Nat) (x : Str) (v : V), X.N[i]? = some x → σ[i]? = some (some v) → Vis X.env.scope x → ∃ u, RelV v u ∧ Look X.env s.heap m x u
  cell : ∀ x c, X.env.cells.lookup x = some c → ∃ v, s.heap.IsCell c v
  free : H X.env.locals = none
  freeC : ∀ x c, X.env.cells.lookup x = some c → H c = none
  pin : ∀ p ∈ X.pn ++ pins, s.heap.get? p.1 = some p.2 ∧ H p.1 = none ∧ p.1 ≠ X.env.locals ∧ p.1 ∉ X.fs ∧ ∀ v, p.2.data ≠ .cell v
  hok : HOk X.prog X.w H s.heap
  len : σ.length = X.N.length
section
variable {X : Cx} {pins : List (Addr × Obj)} {σ : List (Option V)} {H H' : Hp} {s : Shared} {h' : Heap}
theorem Cx.Ok.nofr (ok : X.Ok) {b : Addr} {o : Obj} (e : X.base.get? b = some o) : b ∉ X.fs := fun hb => by
  have := (ok.funs.mem hb).1
  rw [e] at this; cases this
theorem Inv.bs (I : Inv X pins σ H s) : ∀ b o, X.base.get? b = some o → s.heap.get? b = some o ∧ H b = none := fun b o e =>
  ⟨I.base.keep b o (I.ok.bs b o e).1 (I.ok.bs b o e).2 (I.ok.nofr e) (I.ok.noex b o e), I.base.free b o (I.ok.bs b o e).1 (I.ok.bs b o e).2 (I.ok.noex b o e)⟩
theorem Inv.bk (I : Inv X pins σ H s) : ∀ b o, X.base.get? b = some o → s.heap.get? b = some o := fun b o e => (I.bs b o e).1
theorem Inv.mod (I : Inv X pins σ H s) : Mod X.K X.mg X.base := I.ok.mod
theorem Inv.kIn (I : Inv X pins σ H s) : X.K.In s.heap := I.ok.mod.kin.keeps I.bk
theorem Inv.lt (I : Inv X pins σ H s) : X.env.locals < s.heap.objs.size := let ⟨_, hn, _⟩ := I.loc; hn.lt
theorem Inv.sz (I : Inv X pins σ H s) : X.s_0.heap.objs.size ≤ s.heap.objs.size := Nat.le_trans I.ok.above (Nat.le_of_lt I.lt)
theorem Inv.nofs (I : Inv X pins σ H s) {a : Addr} (h : s.heap.objs.size ≤ a) : a ∉ X.fs := fun hb => by
  obtain ⟨_, o, ho, _⟩ := I.ok.funs.mem hb
  exact absurd (Nat.lt_of_lt_of_le (Heap.lt_size ho) (Nat.le_trans I.sz h)) (Nat.lt_irrefl _)
theorem Inv.cne (I : Inv X pins σ H s) : ∀ x c, X.env.cells.lookup x = some c → c ≠ X.env.locals := fun x c e z => by
  obtain ⟨v, o, ho, hd⟩ := I.cell x c e
  obtain ⟨m, ⟨o', es, ep, ho', hd', _⟩, _⟩ := I.loc
  rw [z, ho'] at ho; cases ho; rw [hd'] at hd; cases hd
theorem Inv.funs (I : Inv X pins σ H s) : s.heap.FunFrames X.base X.outer := by
  have all : ∀ (l : List Env), (∀ b ∈ frs l, b ∈ X.fs) → X.s_0.heap.FunFrames X.base l → s.heap.FunFrames X.base l := by
    intro l
    induction l with
    | nil => intro _ _; trivial
    | cons env r ih =>
      intro hs hl
      obtain ⟨hk, ⟨L, o, hf, hn, ho, hd⟩, hr⟩ := hl
      have hL : L ∈ X.fs := hs L (by unfold frs; rw [List.filterMap_cons, hf]; exact List.mem_cons_self)
      obtain ⟨sl, e⟩ := I.base.slot L o ho (I.ok.frf L hL) hL fun z => I.ok.exfs L z hL
      exact ⟨hk, ⟨L, _, hf, hn, e, hd⟩, ih (fun b hb => hs b (by unfold frs; rw [List.filterMap_cons, hf]; exact List.mem_cons_of_mem _ hb)) hr⟩
  exact all X.outer (fun _ hb => hb) I.ok.funs
/-- the frames that run, for a call -/
theorem Inv.stack (I : Inv X pins σ H s) : s.heap.FunFrames X.base X.stack := by
  rcases I.ok.stk with e | ⟨e, hf⟩
  · rw [e]; exact I.funs
  · rw [e]
    obtain ⟨m, hn, _⟩ := I.loc
    refine .cons (by rw [I.ok.kind]; decide) hf hn ?_ I.funs
    exact Heap.get?_none_of_le (Nat.le_trans I.ok.bsz I.ok.above)
theorem Inv.stkSub (I : Inv X pins σ H s) : ∀ b ∈ frs X.stack, b ∈ X.env.locals :: X.fs := fun b hb => by
  rcases I.ok.stk with e | ⟨e, hf⟩
  · rw [e] at hb; exact List.mem_cons_of_mem _ hb
  · rw [e] at hb
    unfold frs at hb
    rw [List.filterMap_cons, hf] at hb
    exact hb
theorem Inv.stkFree (I : Inv X pins σ H s) : ∀ b ∈ frs X.stack, H b = none := fun b hb => by
  rcases List.mem_cons.mp (I.stkSub b hb) with e | hb
  · rw [e]; exact I.free
  · obtain ⟨_, o, ho, _⟩ := I.ok.funs.mem hb
    exact I.base.free b o ho (I.ok.frf b hb) fun z => I.ok.exfs b z hb
/-- THE STEP: the untracked objects but the frame and the records at ch are kept (the callers' frames up to slots), the frame's map is kept, the new abstract heap is held -/
theorem Inv.step {g' : Array GenState} {t' : Nat} {d' : Drawn} {ch : List Addr} (I : Inv X pins σ H s)
    (hch : ∀ b ∈ ch, (b ∈ X.ex ∨ X.s_0.heap.objs.size ≤ b) ∧ b ≠ X.env.locals ∧ (∀ x c, X.env.cells.lookup x = some c → c ≠ b) ∧ ∀ p ∈ X.pn ++ pins, p.1 ≠ b)
    (keep : ∀ b o, b ≠ X.env.locals → b ∉ X.fs → b ∉ ch → s.heap.get? b = some o → H b = none → h'.get? b = some o)
    (slot : ∀ b o, b ≠ X.env.locals → b ∈ X.fs → b ∉ ch → s.heap.get? b = some o → H b = none → ∃ sl, h'.get? b = some { o with slots := sl }) (free : ∀ b o, b ∉ ch → s.heap.get? b = some o → H b = none → H' b = none)
    (there : ∀ b o, b ∉ ch → s.heap.get? b = some o → ∃ o', h'.get? b = some o')
    (tups : ∀ b xs, H b = some (.tup xs) → H' b = some (.tup xs)) (frzs : ∀ b o u, H b = some (.frz o u) → H' b = some (.frz o u)) (tbls : ∀ b ps, H b = some (.tbl ps) → ∃ more, H' b = some (.tbl (ps ++ more)))
    (ns : ∀ m, s.heap.Ns X.env.locals m → h'.Ns X.env.locals m) (hok : HOk X.prog X.w H' h') (hg : AllBare g') :
    Inv X pins σ H' { s with heap := h', gens := g', drawn := d', toks := t' } := by
  have neL : ∀ b o, X.s_0.heap.get? b = some o → b ≠ X.env.locals := fun b o e => Nat.ne_of_lt (Nat.lt_of_lt_of_le (Heap.lt_size e) I.ok.above)
  have neC : ∀ b o, X.s_0.heap.get? b = some o → b ∉ X.ex → b ∉ ch := fun b o e hx hb => by
    rcases (hch b hb).1 with z | z
    · exact hx z
    · exact absurd (Nat.lt_of_lt_of_le (Heap.lt_size e) z) (Nat.lt_irrefl _)
  have cellK : ∀ x c, X.env.cells.lookup x = some c → ∀ v, s.heap.IsCell c v → h'.IsCell c v := fun x c e v ⟨o, ho, hd⟩ => by
    have nch : c ∉ ch := fun z => (hch c z).2.2.1 x c e rfl
    by_cases hc : c ∈ X.fs
    · obtain ⟨sl, q⟩ := slot c o (I.cne x c e) hc nch ho (I.freeC x c e)
      exact ⟨_, q, hd⟩
    · exact ⟨o, keep c o (I.cne x c e) hc nch ho (I.freeC x c e), hd⟩
  refine ⟨I.ok, I.os, hg, ⟨fun b o e n hb hx => ?_, fun b o e n hb hx => ?_, fun b o e n hx => ?_, fun b o e hx => ?_, fun b xs e => tups b xs (I.base.tups b xs e), fun b o xs e => frzs b o xs (I.base.frzs b o xs e), fun b ps e => ?_⟩, ?_, fun x c e => ?_, ?_, fun x c e => ?_, fun p hp => ?_, hok, I.len⟩
  · exact keep b o (neL b o e) hb (neC b o e hx) (I.base.keep b o e n hb hx) (I.base.free b o e n hx)
  · obtain ⟨sl, e1⟩ := I.base.slot b o e n hb hx
    obtain ⟨sl', e2⟩ := slot b _ (neL b o e) hb (neC b o e hx) e1 (I.base.free b o e n hx)
    exact ⟨sl', e2⟩
  · obtain ⟨o', e1⟩ := I.base.there b o e hx
    exact free b o' (neC b o e hx) e1 (I.base.free b o e n hx)
  · obtain ⟨o', e1⟩ := I.base.there b o e hx
    exact there b o' (neC b o e hx) e1
  · obtain ⟨m1, e1⟩ := I.base.tbls b ps e
    obtain ⟨m2, e2⟩ := tbls b _ e1
    exact ⟨m1 ++ m2, by rw [e2, Array.append_assoc]⟩
  · obtain ⟨m, hn, hl⟩ := I.loc
    refine ⟨m, ns m hn, fun i x v e1 e2 e3 => ?_⟩
    obtain ⟨u, r, l⟩ := hl i x v e1 e2 e3
    refine ⟨u, r, ?_⟩
    rcases l with l | ⟨k, c, e, z⟩
    · exact .inl l
    · exact .inr ⟨k, c, e, cellK x c e _ z⟩
  · obtain ⟨v, z⟩ := I.cell x c e
    exact ⟨v, cellK x c e v z⟩
  · obtain ⟨m, ⟨o, _, _, ho, _⟩, _⟩ := I.loc
    exact free _ o (fun z => (hch _ z).2.1 rfl) ho I.free
  · obtain ⟨v, o, ho, hd⟩ := I.cell x c e
    exact free c o (fun z => (hch c z).2.2.1 x c e rfl) ho (I.freeC x c e)
  · obtain ⟨e, n, ne, nf, d⟩ := I.pin p hp
    have nch : p.1 ∉ ch := fun z => (hch p.1 z).2.2.2 p hp rfl
    exact ⟨keep p.1 p.2 ne nf nch e n, free p.1 p.2 nch e n, ne, nf, d⟩
/-- .. where the frame's own object is kept too -/
theorem Inv.un {t' : Nat} (I : Inv X pins σ H s) (u : Un X.fs [] H H' s.heap h') (hok : HOk X.prog X.w H' h') : Inv X pins σ H' { s with heap := h', toks := t' } := by
  obtain ⟨m, ⟨o, es, ep, ho, r⟩, _⟩ := id I.loc
  obtain ⟨sl, hL⟩ := u.any ho I.free (by simp)
  exact I.step (g' := s.gens) (d' := s.drawn) (ch := []) (fun _ z => nomatch z) (fun b o _ hb _ e n => u.keep b o e n hb (by simp)) (fun b o _ hb _ e n => u.slot b o e n hb (by simp)) (fun b o _ e n => u.free b o e n (by simp)) (fun b o _ e => u.there b o e (by simp)) u.tups u.frzs u.tbls (fun m' hm => by
    obtain ⟨o', es', ep', ho', r'⟩ := hm
    rw [ho] at ho'; cases ho'
    exact ⟨_, es', ep', hL, r'⟩) hok I.bare
/-- behind a call (or a comprehension's block): the slots of this frame may have changed too, the records at ch may have turned -/
theorem Inv.call {g' : Array GenState} {t' : Nat} {d' : Drawn} {ch : List Addr} (I : Inv X pins σ H s) (u : Un (frs X.stack) ch H H' s.heap h') (hok : HOk X.prog X.w H' h') (hg : AllBare g')
    (hch : ∀ b ∈ ch, (b ∈ X.ex ∨ X.s_0.heap.objs.size ≤ b) ∧ b ≠ X.env.locals ∧ (∀ x c, X.env.cells.lookup x = some c → c ≠ b) ∧ ∀ p ∈ X.pn ++ pins, p.1 ≠ b) :
    Inv X pins σ H' { s with heap := h', gens := g', drawn := d', toks := t' } := by
  obtain ⟨m, ⟨o, es, ep, ho, r⟩, _⟩ := id I.loc
  obtain ⟨sl, hL⟩ := u.any ho I.free fun z => (hch _ z).2.1 rfl
  exact I.step (ch := ch) hch (fun b o hL hb hc e n => u.keep b o e n (fun z => (List.mem_cons.mp (I.stkSub b z)).elim hL hb) hc) (fun b o _ _ hc e n => u.any e n hc) (fun b o hc e n => u.free b o e n hc) (fun b o hc e => u.there b o e hc) u.tups u.frzs u.tbls (fun m' hm => by
    obtain ⟨o', es', ep', ho', r'⟩ := hm
    rw [ho] at ho'; cases ho'
    exact ⟨_, es', ep', hL, r'⟩) hok hg
/-- an untracked record of ours (an iterator) has turned -/
theorem Inv.turned {t' : Nat} {it : Addr} (I : Inv X pins σ H s) (k : ∀ b o, b ≠ it → s.heap.get? b = some o → h'.get? b = some o) (hn : H it = none) (hL : it ≠ X.env.locals)
    (h1 : it ∈ X.ex ∨ X.s_0.heap.objs.size ≤ it) (h2 : ∀ x c, X.env.cells.lookup x = some c → c ≠ it) (h3 : ∀ p ∈ X.pn ++ pins, p.1 ≠ it) : Inv X pins σ H { s with heap := h', toks := t' } := by
  have nit : ∀ b u, H b = some u → b ≠ it := fun b u e z => by rw [z, hn] at e; cases e
  refine I.step (g' := s.gens) (d' := s.drawn) (ch := [it]) (fun b hb => ?_) (fun b o _ _ hc e _ => k b o (fun z => hc (by simp [z])) e) (fun b o _ _ hc e _ => ⟨o.slots, k b o (fun z => hc (by simp [z])) e⟩) (fun _ _ _ _ n => n)
    (fun b o hc e => ⟨o, k b o (fun z => hc (by simp [z])) e⟩) (fun _ _ e => e) (fun _ _ _ e => e) (fun b ps e => ⟨#[], by rw [e]; simp⟩) (fun m hm => ?_) (fun b u e => ?_) I.bare
  · have e : b = it := by simpa using hb
    subst e
    exact ⟨h1, hL, h2, h3⟩
  · obtain ⟨o, es, ep, ho, r⟩ := hm
    exact ⟨o, es, ep, k _ o (Ne.symm hL) ho, r⟩
  · refine (I.hok b u e).stay (fun c v hc q => k c v ?_ q) (fun _ q => q) fun _ _ q => q
    rcases hc with z | z
    · rw [z]; exact nit b u e
    · exact nit c _ z
theorem Inv.tok (I : Inv X pins σ H s) (t : Nat) : Inv X pins σ H { s with toks := t } := I.un (h' := s.heap) (t' := t) Un.refl I.hok
/-- all objects kept -/
theorem Inv.kept {t' : Nat} (I : Inv X pins σ H s) (k : ∀ b u, s.heap.get? b = some u → h'.get? b = some u) : Inv X pins σ H { s with heap := h', toks := t' } := I.un (Un.kept k) (I.hok.kept k)
/-- a new object laid and tracked -/
theorem Inv.laid {a : Addr} {o : HO} {t' : Nat} (I : Inv X pins σ H s) (k : ∀ b u, s.heap.get? b = some u → h'.get? b = some u) (hp : s.heap.objs.size ≤ a) (new : ObjOk X.prog X.w (upd H a o) h' a o) :
    Inv X pins σ (upd H a o) { s with heap := h', toks := t' } := I.un (Un.laid k hp (I.hok.fresh hp)) (I.hok.laid k hp new)
/-- an object written -/
theorem Inv.write {x e : Addr} {o : HO} {t' : Nat} (I : Inv X pins σ H s) (mu : Mut (H x)) (he : e = x ∨ H e = some (.own x)) (k : ∀ b u, b ≠ e → s.heap.get? b = some u → h'.get? b = some u) (heo : ∃ u, h'.get? e = some u)
    (new : ObjOk X.prog X.w (upd H x o) h' x o) : Inv X pins σ (upd H x o) { s with heap := h', toks := t' } := I.un (Un.write mu he k heo) (I.hok.write mu he k heo new)
/-- forgetting slots, pins -/
theorem Inv.weak {σ' : List (Option V)} (I : Inv X pins σ H s) (hl : σ'.length = σ.length) (w : ∀ (i : Nat) v, σ'[i]? = some (some v) → σ[i]? = some (some v)) : Inv X pins σ' H s :=
  ⟨I.ok, I.os, I.bare, I.base, let ⟨m, hn, hl'⟩ := I.loc; ⟨m, hn, fun i x v e1 e2 e3 => hl' i x v e1 (w i v e2) e3⟩, I.cell, I.free, I.freeC, I.pin, I.hok, hl.trans I.len⟩
theorem Inv.pins_of {pins' : List (Addr × Obj)} (I : Inv X pins σ H s) (h : ∀ p ∈ pins', s.heap.get? p.1 = some p.2 ∧ H p.1 = none ∧ p.1 ≠ X.env.locals ∧ p.1 ∉ X.fs ∧ ∀ v, p.2.data ≠ .cell v) : Inv X pins' σ H s :=
  ⟨I.ok, I.os, I.bare, I.base, I.loc, I.cell, I.free, I.freeC, fun p hp => (List.mem_append.mp hp).elim (fun z => I.pin p (List.mem_append_left _ z)) (h p), I.hok, I.len⟩
theorem nodup_ix {N : List Str} (hN : N.Nodup) {i j : Nat} {x : Str} (a : N[i]? = some x) (b : N[j]? = some x) : i = j := by
  obtain ⟨h1, e1⟩ := List.getElem?_eq_some_iff.mp a
  obtain ⟨h2, e2⟩ := List.getElem?_eq_some_iff.mp b
  exact (List.getElem_inj hN).mp (e1.trans e2.symm)
/-- a name is stored; what changed -/
theorem store_ok2 {M : Model} {A : Around} {E : Value → Shared → Prop} {i : Nat} {x : Str} {v : V} {u : Value} {Q : Unit → Shared → Prop} (I : Inv X pins σ H s) (hN : X.N.Nodup) (hi : X.N[i]? = some x) (hx : Loc X.env.scope x) (r : RelV v u)
    (h : ∀ s', Inv X pins (σ.set i (some v)) H s' → (∃ a, Heap.SameBut a s.heap s'.heap ∧ (a = X.env.locals ∨ X.env.cells.lookup x = some a)) → Q () s') (hf : X.fn x = true ∨ X.env.scope.names.lookup x = some .local := by first | exact .inl rfl | exact .inr rfl | assumption) : wpAny M A (storeName X.env x u) Q E s := by
  obtain ⟨m, hn, hl⟩ := id I.loc
  have hcls : (X.env.scope.kind == .class || (X.env.scope.kind == .module && X.env.locals != X.env.globals)) = false := by rw [I.ok.kind]; rfl
  have hiσ : i < σ.length := by rw [I.len]; exact (List.getElem?_eq_some_iff.mp hi).1
  have cne := I.cne
  have tracked : ∀ {a : Addr} {h' : Heap}, (∃ o, s.heap.get? a = some o ∧ H a = none) → Heap.SameBut a s.heap h' → HOk X.prog X.w H h' := fun {a h'} ha hs b ob e => by
    obtain ⟨_, _, hfree⟩ := ha
    refine (I.hok b ob e).stay (fun c w' hc q => (hs.2 c ?_).trans q) (fun _ q => q) fun _ _ q => q
    rintro rfl
    rcases hc with rfl | hc
    · rw [hfree] at e; cases e
    · rw [hfree] at hc; cases hc
  rcases hx with hk | hk
  · refine wpAny_storeName_local hk hn (fun h' hn' hs => ?_) hcls
    obtain ⟨oL, _, _, hoL, _⟩ := id hn
    refine h _ ⟨I.ok, I.os, I.bare, ⟨fun b o e n hb hx => ?_, fun b o e n hb hx => ?_, I.base.free, fun b o e hx => ?_, I.base.tups, I.base.frzs, I.base.tbls⟩, ⟨_, hn', fun j y v' e1 e2 e3 => ?_⟩, fun y c e => ?_, I.free, I.freeC, fun p hp => ?_, tracked ⟨oL, hoL, I.free⟩ hs, by simpa using I.len⟩ ⟨_, hs, .inl rfl⟩
    · exact (hs.2 b (Nat.ne_of_lt (Nat.lt_of_lt_of_le (Heap.lt_size e) I.ok.above))).trans (I.base.keep b o e n hb hx)
    · obtain ⟨sl, e1⟩ := I.base.slot b o e n hb hx
      exact ⟨sl, (hs.2 b (Nat.ne_of_lt (Nat.lt_of_lt_of_le (Heap.lt_size e) I.ok.above))).trans e1⟩
    · obtain ⟨o', e1⟩ := I.base.there b o e hx
      exact ⟨o', (hs.2 b (Nat.ne_of_lt (Nat.lt_of_lt_of_le (Heap.lt_size e) I.ok.above))).trans e1⟩
    · by_cases hj : j = i
      · subst hj
        rw [hi] at e1; cases e1
        rw [List.getElem?_set_self hiσ] at e2
        cases e2
        exact ⟨u, r, .inl ⟨hk, by simp⟩⟩
      · rw [List.getElem?_set_ne (Ne.symm hj)] at e2
        obtain ⟨u', r', q⟩ := hl j y v' e1 e2 e3
        refine ⟨u', r', ?_⟩
        rcases q with ⟨k, e⟩ | ⟨k, c, e, z⟩
        · refine .inl ⟨k, ?_⟩
          have : y ≠ x := fun e => hj (nodup_ix hN e1 (e ▸ hi))
          simp [this, e]
        · exact .inr ⟨k, c, e, z.sameBut hs (cne y c e)⟩
    · obtain ⟨w', z⟩ := I.cell y c e
      exact ⟨w', z.sameBut hs (cne y c e)⟩
    · obtain ⟨e, n, ne, nf, d⟩ := I.pin p hp
      exact ⟨(hs.2 p.1 ne).trans e, n, ne, nf, d⟩
  · have hfn : X.fn x = true := by
      rcases hf with z | z
      · exact z
      · rw [z] at hk; cases hk
    obtain ⟨c, hc⟩ := I.ok.has x (.inl hk)
    obtain ⟨w', z⟩ := I.cell x c hc
    refine wpAny_storeName_cell I.ok.kind hk hc z (fun h' hc' hs => ?_)
    obtain ⟨oc, hoc, hocd⟩ := id z
    refine h { s with heap := h' } ⟨I.ok, I.os, I.bare, ⟨fun b o e n hb hx => ?_, fun b o e n hb hx => ?_, I.base.free, fun b o e hx => ?_, I.base.tups, I.base.frzs, I.base.tbls⟩, ⟨m, hn.sameBut hs (Ne.symm (cne x c hc)), fun j y v' e1 e2 e3 => ?_⟩, fun y c' e => ?_, I.free, I.freeC, fun p hp => ?_, tracked ⟨oc, hoc, I.freeC x c hc⟩ hs, by simpa using I.len⟩ ⟨c, hs, .inr hc⟩
    · exact (hs.2 b (Nat.ne_of_lt (Nat.lt_of_lt_of_le (Heap.lt_size e) (I.ok.cab x c hfn hc)))).trans (I.base.keep b o e n hb hx)
    · obtain ⟨sl, e1⟩ := I.base.slot b o e n hb hx
      exact ⟨sl, (hs.2 b (Nat.ne_of_lt (Nat.lt_of_lt_of_le (Heap.lt_size e) (I.ok.cab x c hfn hc)))).trans e1⟩
    · obtain ⟨o', e1⟩ := I.base.there b o e hx
      exact ⟨o', (hs.2 b (Nat.ne_of_lt (Nat.lt_of_lt_of_le (Heap.lt_size e) (I.ok.cab x c hfn hc)))).trans e1⟩
    · by_cases hj : j = i
      · subst hj
        rw [hi] at e1; cases e1
        rw [List.getElem?_set_self hiσ] at e2
        cases e2
        exact ⟨u, r, .inr ⟨.inl hk, c, hc, hc'⟩⟩
      · rw [List.getElem?_set_ne (Ne.symm hj)] at e2
        obtain ⟨u', r', q⟩ := hl j y v' e1 e2 e3
        refine ⟨u', r', ?_⟩
        rcases q with q | ⟨k, c', e, z'⟩
        · exact .inl q
        · refine .inr ⟨k, c', e, z'.sameBut hs ?_⟩
          rintro rfl
          exact hj (nodup_ix hN e1 (I.ok.inj _ _ _ e hc ▸ hi))
    · by_cases hcc : c' = c
      · subst hcc; exact ⟨_, hc'⟩
      · obtain ⟨w2, z2⟩ := I.cell y c' e
        exact ⟨w2, z2.sameBut hs hcc⟩
    · obtain ⟨e, n, ne, nf, d⟩ := I.pin p hp
      refine ⟨(hs.2 p.1 ?_).trans e, n, ne, nf, d⟩
      intro q
      rw [q, hoc] at e
      have q' : oc = p.2 := Option.some.inj e
      exact d w' (by rw [← q']; exact hocd)
theorem store_ok {M : Model} {A : Around} {E : Value → Shared → Prop} {i : Nat} {x : Str} {v : V} {u : Value} {Q : Unit → Shared → Prop} (I : Inv X pins σ H s) (hN : X.N.Nodup) (hi : X.N[i]? = some x) (hx : Loc X.env.scope x) (r : RelV v u)
    (h : ∀ s', Inv X pins (σ.set i (some v)) H s' → Q () s') (hf : X.fn x = true ∨ X.env.scope.names.lookup x = some .local := by first | exact .inl rfl | exact .inr rfl | assumption) : wpAny M A (storeName X.env x u) Q E s :=
  store_ok2 I hN hi hx r (fun s' I' _ => h s' I') hf
/-- behind a call or a block, the state as it is -/
theorem Inv.call' {s' : Shared} {ch : List Addr} (I : Inv X pins σ H s) (ho : s'.os = s.os) (u : Un (frs X.stack) ch H H' s.heap s'.heap) (hok : HOk X.prog X.w H' s'.heap) (hg : AllBare s'.gens)
    (hch : ∀ b ∈ ch, (b ∈ X.ex ∨ X.s_0.heap.objs.size ≤ b) ∧ b ≠ X.env.locals ∧ (∀ x c, X.env.cells.lookup x = some c → c ≠ b) ∧ ∀ p ∈ X.pn ++ pins, p.1 ≠ b) : Inv X pins σ H' s' := by
  obtain ⟨h', g', d', t', o'⟩ := s'
  have e : o' = s.os := ho
  subst e
  exact I.call (g' := g') (t' := t') (d' := d') u hok hg hch
end
/-! ### the judgements -/
/-- an exception: its class, its own dict's address (where it has one), the abstract heap behind it -/
abbrev XK := Value → Option Addr → Hp → Prop
abbrev St := List (Option V)
abbrev VK := V → Hp → Prop
/-- an expression's reading; a test's; an argument list's -/
abbrev TE := St → Hp → VK → Prop
abbrev TT := St → Hp → (Bool → Hp → Prop) → Prop
abbrev TA := St → Hp → (List V → Hp → Prop) → Prop
/-- what is wanted behind a statement -/
structure Ends where
  nx : St → Hp → Prop
  rt : VK
  bk : St → Hp → Prop := fun _ _ => False
  ct : St → Hp → Prop := fun _ _ => False
abbrev TS := Ends → St → Hp → Prop
def EP (X : Cx) (pins : List (Addr × Obj)) (σ : St) (Q : VK) (u : Value) (s' : Shared) : Prop := ∃ v H', Inv X pins σ H' s' ∧ RelV v u ∧ Q v H'
def TP (X : Cx) (pins : List (Addr × Obj)) (σ : St) (Q : Bool → Hp → Prop) (b : Bool) (s' : Shared) : Prop := ∃ H', Inv X pins σ H' s' ∧ Q b H'
def AP (X : Cx) (pins : List (Addr × Obj)) (σ : St) (Q : List V → Hp → Prop) (us : List Value) (s' : Shared) : Prop := ∃ vs H', Inv X pins σ H' s' ∧ Vals vs us ∧ Q vs H'
def SP (X : Cx) (pins : List (Addr × Obj)) (D : Ends) (f : Flow) (s' : Shared) : Prop :=
  match f with
  | .next => ∃ σ' H', Inv X pins σ' H' s' ∧ D.nx σ' H'
  | .brk => ∃ σ' H', Inv X pins σ' H' s' ∧ D.bk σ' H'
  | .cont => ∃ σ' H', Inv X pins σ' H' s' ∧ D.ct σ' H'
  | .ret u => ∃ v σ' H', Inv X pins σ' H' s' ∧ RelV v u ∧ D.rt v H'
def PE (X : Cx) (e : Expr) (t : TE) : Prop :=
  ∀ (pins : List (Addr × Obj)) (s : Shared) (σ : St) (H : Hp) (Q : VK), Inv X pins σ H s → t σ H Q → wpAny (model X.prog X.w) X.A (eval e X.env) (EP X pins σ Q) X.xe s
def PT (X : Cx) (e : Expr) (t : TT) : Prop :=
  ∀ (pins : List (Addr × Obj)) (s : Shared) (σ : St) (H : Hp) (Q : Bool → Hp → Prop), Inv X pins σ H s → t σ H Q → wpAny (model X.prog X.w) X.A (isTrue e X.env (eval e X.env)) (TP X pins σ Q) X.xe s
/-- a test whatever its 'whole' is (and, or) -/
def PW (X : Cx) (e : Expr) (t : TT) : Prop :=
  ∀ (whole : Sem Value) (pins : List (Addr × Obj)) (s : Shared) (σ : St) (H : Hp) (Q : Bool → Hp → Prop), Inv X pins σ H s → t σ H Q → wpAny (model X.prog X.w) X.A (isTrue e X.env whole) (TP X pins σ Q) X.xe s
theorem PW.pt {X : Cx} {e : Expr} {t : TT} (h : PW X e t) : PT X e t := h _
/-- an argument list (no star), from the left -/
def PA (X : Cx) (es : List Expr) (t : TA) : Prop :=
  ∀ (pos : Pos) (pins : List (Addr × Obj)) (s : Shared) (σ : St) (H : Hp) (Q : List V → Hp → Prop), Inv X pins σ H s → t σ H Q → wpAny (model X.prog X.w) X.A (spliced (backTo pos (starEach es X.env))) (AP X pins σ Q) X.xe s
def PS (X : Cx) (st : Stmt) (t : TS) : Prop :=
  ∀ (pins : List (Addr × Obj)) (s : Shared) (σ : St) (H : Hp) (D : Ends), Inv X pins σ H s → t D σ H → wpAny (model X.prog X.w) X.A (exec st X.env) (SP X pins D) X.xe s
def PSs (X : Cx) (st : List Stmt) (t : TS) : Prop :=
  ∀ (pins : List (Addr × Obj)) (s : Shared) (σ : St) (H : Hp) (D : Ends), Inv X pins σ H s → t D σ H → wpAny (model X.prog X.w) X.A (execs st X.env) (SP X pins D) X.xe s
/-- weaken the end -/
theorem thn {α : Type} {t : Sem α} {Q Q' : α → Shared → Prop} {M : Model} {A : Around} {E : Value → Shared → Prop} {s : Shared} (h : wpAny M A t Q E s) (hQ : ∀ a s, Q a s → Q' a s) : wpAny M A t Q' E s := wpAny_mono h hQ fun _ _ x => x
end L2
namespace L2
open PySem PySem.Spec PyProof.Rows
section
variable {X : Cx}
/-! ### names and constants -/
def tVar (i : Nat) : TE := fun σ H Q => ∃ v, σ[i]? = some (some v) ∧ Q v H
def tC (v : V) : TE := fun _ H Q => Q v H
theorem pe_var {i : Nat} {x : Str} {pos : Pos} (hN : X.N[i]? = some x) (hv : Vis X.env.scope x) (hd : (x == ("__debug__" : Str)) = false := by decide) (hcd : (x == ("__classdict__" : Str)) = false := by decide) : PE X (.Name x pos) (tVar i) := by
  intro pins s σ H Q I h
  obtain ⟨v, e, h⟩ := h
  obtain ⟨m, hn, hl⟩ := I.loc
  obtain ⟨u, r, l⟩ := hl i x v hN e hv
  have fin : EP X pins σ Q u s := ⟨v, H, I, r, h⟩
  rcases l with ⟨hk, hm⟩ | ⟨hk, c, hc, hcell⟩
  · exact wpAny_Name (wpAny_loadName_local I.ok.kind hk hn hm fin) hd
  · rcases hk with hk | hk
    · exact wpAny_Name (wpAny_loadName_cell I.ok.kind hk hc hcell fin) hd
    · exact wpAny_Name (wpAny_loadName_free I.ok.kind hk hc hcell fin hcd) hd
theorem pe_int {i j pos} : PE X (.Constant (.int i) j pos) (tC (.int i)) := fun _ _ _ H _ I h => wpAny_Constant_int ⟨.int i, H, I.tok _, ⟨_, rfl⟩, h⟩
theorem pe_bl {b j pos} : PE X (.Constant (.bool b) j pos) (tC (.bl b)) := fun _ _ _ H _ I h => Constant_bool ⟨.bl b, H, I, rfl, h⟩
/-- a global name of the def -/
def Gl (X : Cx) (x : Str) : Prop := X.env.kindOf x = some .globalImplicit
theorem ld_glob {E : Value → Shared → Prop} {pins : List (Addr × Obj)} {s : Shared} {σ : St} {H : Hp} {x : Str} {u : Value} {pos : Pos} {Q : Value → Shared → Prop} (I : Inv X pins σ H s) (hg : Gl X x) (hm : X.mg x = some u) (h : Q u s)
    (hd : (x == ("__debug__" : Str)) = false := by decide) : wpAny (model X.prog X.w) X.A (eval (.Name x pos) X.env) Q E s :=
  Calls.Name_function_global I.ok.kind hg (Calls.loadGlobal_global (by rw [I.ok.glob]; exact I.mod.glob.keeps I.bk) hm h) hd
theorem ld_blt {E : Value → Shared → Prop} {pins : List (Addr × Obj)} {s : Shared} {σ : St} {H : Hp} {x : Str} {u : Value} {pos : Pos} {Q : Value → Shared → Prop} (I : Inv X pins σ H s) (hg : Gl X x) (hm : X.mg x = none) (hv : bootBuiltins x = some u) (h : Q u s)
    (hn : x ≠ "__name__" := by decide) (hd : (x == ("__debug__" : Str)) = false := by decide) : wpAny (model X.prog X.w) X.A (eval (.Name x pos) X.env) Q E s := by
  obtain ⟨mb, h1, h2⟩ := I.mod.blt
  exact Calls.Name_function_global I.ok.kind hg (Calls.loadGlobal_builtin (by rw [I.ok.glob]; exact I.mod.glob.keeps I.bk) hm (by rw [I.ok.blt]; exact h1.keeps I.bk) ((h2 x hn).trans hv) h) hd
/-- a module's constant, a class, a function, as a value -/
theorem pe_glob {x : Str} {v : V} {u : Value} {pos : Pos} (hg : Gl X x) (hm : X.mg x = some u) (r : RelV v u) (hd : (x == ("__debug__" : Str)) = false := by decide) : PE X (.Name x pos) (tC v) :=
  fun _ _ _ H _ I h => ld_glob I hg hm ⟨v, H, I, r, h⟩ hd
/-! ### arithmetic -/
variable {a b : Expr} {ta tb : TE} {pos : Pos}
/-! ### comparisons -/
def PC (X : Cx) (op : CmpOp) (a b : Expr) (t : TE) : Prop :=
  ∀ (pins : List (Addr × Obj)) (s : Shared) (σ : St) (H : Hp) (Q : VK), Inv X pins σ H s → t σ H Q →
    wpAny (model X.prog X.w) X.A (eval a X.env) (fun v s₁ => wpAny (model X.prog X.w) X.A (eval b X.env) (fun u s₂ => wpAny (model X.prog X.w) X.A (compareOp op v u) (EP X pins σ Q) X.xe s₂) X.xe s₁) X.xe s
/-- a comparison as a value, as a test -/
def tB (t : TE) : TT := fun σ H Q => t σ H fun x H1 => ∃ c, x = .bl c ∧ Q c H1
theorem pe_cmp {op : CmpOp} {t : TE} (h : PC X op a b t) (h1 : behindInMarks op b = false := by first | exact nobehind _ (by decide) (by decide) | rfl) : PE X (.Compare a [op] [b] pos) t := fun pins s σ H Q I hw => wpAny_Compare1 (h pins s σ H Q I hw) h1
theorem pt_cmp {op : CmpOp} {t : TE} (h : PC X op a b t) (h1 : behindInMarks op b = false := by first | exact nobehind _ (by decide) (by decide) | rfl) : PT X (.Compare a [op] [b] pos) (tB t) := by
  intro pins s σ H Q I hw
  refine wpAny_isTrue_Compare1 (thn (h pins s σ H _ I hw) fun v s1 h1 => thn h1 fun u s2 h2 => thn h2 fun c s3 ⟨x, H1, I1, r1, q1⟩ => ?_) h1
  obtain ⟨d, rfl, q⟩ := q1
  cases r1
  exact wpAny_truthy_bool ⟨H1, I1, q⟩
/-- an expression whose value is a bool, as a test -/
theorem pt_val {e : Expr} {t : TE} (h : PE X e t) (he : ∀ whole, isTrue e X.env whole = (do let v ← whole; standAt e.pos; holding [v] (truthy v)) := by intro _; rfl) : PT X e (tB t) := by
  intro pins s σ H Q I hw
  refine isTrue_plain (thn (h pins s σ H _ I hw) fun v s1 ⟨x, H1, I1, r1, q1⟩ => ?_) (he _)
  obtain ⟨d, rfl, q⟩ := q1
  cases r1
  exact wpAny_truthy_bool ⟨H1, I1, q⟩
/-! ### and, or, not -/
variable {tA tB' : TT} {rest : List Expr}
def tAnd (t u : TT) : TT := fun σ H Q => t σ H fun c H1 => if c = true then u σ H1 Q else Q false H1
def tOr (t u : TT) : TT := fun σ H Q => t σ H fun c H1 => if c = true then Q true H1 else u σ H1 Q
def tNot (t : TT) : TT := fun σ H Q => t σ H fun c H1 => Q (!c) H1
theorem pw_and1 (ha : PT X a tA) : PW X (.BoolOp .And [a] pos) tA := by
  intro wh pins s σ H Q I h
  refine isTrue_and (thn (ha pins s σ H Q I h) fun c s1 e => ?_)
  cases c with
  | true => exact isTrue_and_nil e
  | false => exact e
theorem pw_or1 (ha : PT X a tA) : PW X (.BoolOp .Or [a] pos) tA := by
  intro wh pins s σ H Q I h
  refine isTrue_or (thn (ha pins s σ H Q I h) fun c s1 e => ?_)
  cases c with
  | false => exact isTrue_or_nil e
  | true => exact e
theorem pw_and (ha : PT X a tA) (hb : PW X (.BoolOp .And (b :: rest) pos) tB') : PW X (.BoolOp .And (a :: b :: rest) pos) (tAnd tA tB') := by
  intro wh pins s σ H Q I h
  refine isTrue_and (thn (ha pins s σ H _ I h) fun c s1 ⟨H1, I1, q1⟩ => ?_)
  cases c with
  | true => exact hb wh pins s1 σ H1 Q I1 q1
  | false => exact ⟨H1, I1, q1⟩
theorem pw_or (ha : PT X a tA) (hb : PW X (.BoolOp .Or (b :: rest) pos) tB') : PW X (.BoolOp .Or (a :: b :: rest) pos) (tOr tA tB') := by
  intro wh pins s σ H Q I h
  refine isTrue_or (thn (ha pins s σ H _ I h) fun c s1 ⟨H1, I1, q1⟩ => ?_)
  cases c with
  | true => exact ⟨H1, I1, q1⟩
  | false => exact hb wh pins s1 σ H1 Q I1 q1
theorem pt_not (ha : PT X a tA) : PT X (.UnaryOp .Not a pos) (tNot tA) := by
  intro pins s σ H Q I h
  exact isTrue_not (ha pins s σ H (fun c H1 => Q (!c) H1) I h)
/-- a if t else b -/
def tIf (t : TT) (ta tb : TE) : TE := fun σ H Q => t σ H fun c H1 => if c = true then ta σ H1 Q else tb σ H1 Q
theorem pe_ifExp {c : Expr} (hc : PT X c tA) (ha : PE X a ta) (hb : PE X b tb) : PE X (.IfExp c a b pos) (tIf tA ta tb) := by
  intro pins s σ H Q I h
  refine wpAny_IfExp (thn (hc pins s σ H _ I h) fun d s1 ⟨H1, I1, q1⟩ => ?_)
  cases d with
  | true => exact ha pins s1 σ H1 Q I1 q1
  | false => exact hb pins s1 σ H1 Q I1 q1
end
end L2
namespace L2
open PySem PySem.Spec PyProof.Rows
/-! ### a list, a tuple that is read: tracked, frozen, or an object of the module -/
def SqL (K : PySem.W.Frag) (H : Hp) (a : Addr) (xs : List V) : Prop :=
  Rd H a (.lst xs) ∨
    ∃ (o : Obj) (its : Array Value) (n : Nat), K.lookup a = some o ∧ o.cls = .type "list" ∧ o.dict = none ∧ o.data = .seq its n ∧ its.size ≤ sizeLine ∧ Vals xs its.toList
def SqT (K : PySem.W.Frag) (H : Hp) (a : Addr) (xs : List V) : Prop :=
  Rd H a (.tup xs) ∨
    ∃ (o : Obj) (its : Array Value) (n : Nat), K.lookup a = some o ∧ o.cls = .type "tuple" ∧ o.data = .seq its n ∧ its.size ≤ sizeLine ∧ Vals xs its.toList
def absV : Value → Option V
  | .none => some .non
  | .bool b => some (.bl b)
  | .int i _ => some (.int i)
  | .str x _ => some (.str x)
  | .bytes b _ => some (.byt b)
  | .float b _ => some (.flt b)
  | .ref a => some (.ref a)
  | .type n => some (.ty n)
  | _ => none
theorem RelV.abs {x : V} {u : Value} (r : RelV x u) : absV u = some x := by
  cases x with
  | non => cases r; rfl
  | bl _ => cases r; rfl
  | int _ => obtain ⟨t, rfl⟩ := r; rfl
  | str _ => obtain ⟨t, rfl⟩ := r; rfl
  | byt _ => obtain ⟨t, rfl⟩ := r; rfl
  | flt _ => obtain ⟨t, rfl⟩ := r; rfl
  | ref _ => cases r; rfl
  | ty _ => cases r; rfl
theorem RelV.inj {x y : V} {u : Value} (r : RelV x u) (q : RelV y u) : x = y := Option.some.inj (r.abs.symm.trans q.abs)
theorem Vals.inj : ∀ {xs ys : List V} {us : List Value}, Vals xs us → Vals ys us → xs = ys
  | _, _, _, .nil, .nil => rfl
  | _, _, _, .cons r t, .cons r' t' => by rw [r.inj r', Vals.inj t t']
section
variable {X : Cx} {pins : List (Addr × Obj)} {σ : St} {H : Hp} {s : Shared} {a : Addr} {xs ys : List V}
theorem SqL.of {K : PySem.W.Frag} (h : H a = some (.lst xs)) : SqL K H a xs := .inl (.inl h)
theorem SqT.of {K : PySem.W.Frag} (h : H a = some (.tup xs)) : SqT K H a xs := .inl (.inl h)
theorem Inv.list (I : Inv X pins σ H s) (h : SqL X.K H a xs) : ∃ its : List Value, Vals xs its ∧ PlainL s.heap a its.toArray ∧ xs.length ≤ sizeLine := by
  rcases h with h | ⟨o, its, n, hk, hc, hd, hs, hz, r⟩
  · obtain ⟨z, its, n, r, e⟩ := h.ok I.hok
    exact ⟨its, r, ⟨_, n, e, rfl, rfl, rfl⟩, z⟩
  · refine ⟨its.toList, r, ⟨o, n, I.kIn a o hk, hc, hd, by simpa using hs⟩, ?_⟩
    have e := r.length
    simp only [Array.length_toList] at e
    omega
theorem Inv.tuple (I : Inv X pins σ H s) (h : SqT X.K H a xs) : ∃ its : List Value, Vals xs its ∧ IsTup s.heap a its.toArray ∧ xs.length ≤ sizeLine := by
  rcases h with h | ⟨o, its, n, hk, hc, hs, hz, r⟩
  · obtain ⟨z, its, r, p⟩ := h.ok I.hok
    exact ⟨its, r, p, z⟩
  · refine ⟨its.toList, r, ⟨o, I.kIn a o hk, hc, n, by simpa using hs⟩, ?_⟩
    have e := r.length
    simp only [Array.length_toList] at e
    omega
theorem Inv.list_inj (I : Inv X pins σ H s) (h : SqL X.K H a xs) (h' : SqL X.K H a ys) : xs = ys := by
  obtain ⟨its, r, ⟨o, n, e, _, _, d⟩, _⟩ := I.list h
  obtain ⟨its', r', ⟨o', n', e', _, _, d'⟩, _⟩ := I.list h'
  rw [e] at e'; cases e'
  rw [d] at d'
  injection d' with d1 _
  have : its = its' := by simpa using congrArg Array.toList d1
  subst this
  exact r.inj r'
end
/-! ### another wish about exceptions -/
abbrev Cx.wish (X : Cx) (E : Value → Shared → Prop) : Cx := { X with xe := E }
/-- no exception leaves -/
abbrev Cx.nox (X : Cx) : Cx := X.wish fun _ _ => False
theorem Cx.Ok.wish {X : Cx} (ok : X.Ok) (E : Value → Shared → Prop) : (X.wish E).Ok :=
  ⟨ok.mod, ok.kind, ok.glob, ok.blt, ok.above, ok.inj, ok.has, ok.cab, ok.hd, ok.frames, ok.stk, ok.exf, ok.bs, ok.bsz, ok.noex, ok.exfs, ok.funs, ok.frf⟩
theorem Cx.Ok.unwish {X : Cx} {E : Value → Shared → Prop} (ok : (X.wish E).Ok) : X.Ok :=
  ⟨ok.mod, ok.kind, ok.glob, ok.blt, ok.above, ok.inj, ok.has, ok.cab, ok.hd, ok.frames, ok.stk, ok.exf, ok.bs, ok.bsz, ok.noex, ok.exfs, ok.funs, ok.frf⟩
section
variable {X : Cx} {pins : List (Addr × Obj)} {σ : St} {H : Hp} {s : Shared} {E : Value → Shared → Prop}
theorem Inv.wish (I : Inv X pins σ H s) (E : Value → Shared → Prop) : Inv (X.wish E) pins σ H s := ⟨I.ok.wish E, I.os, I.bare, I.base, I.loc, I.cell, I.free, I.freeC, I.pin, I.hok, I.len⟩
theorem Inv.unwish (I : Inv (X.wish E) pins σ H s) : Inv X pins σ H s := ⟨I.ok.unwish, I.os, I.bare, I.base, I.loc, I.cell, I.free, I.freeC, I.pin, I.hok, I.len⟩
theorem SP.unwish {D : Ends} {f : Flow} {s' : Shared} (h : SP (X.wish E) pins D f s') : SP X pins D f s' := by
  cases f with
  | next => obtain ⟨σ', H', I, q⟩ := h; exact ⟨σ', H', I.unwish, q⟩
  | brk => obtain ⟨σ', H', I, q⟩ := h; exact ⟨σ', H', I.unwish, q⟩
  | cont => obtain ⟨σ', H', I, q⟩ := h; exact ⟨σ', H', I.unwish, q⟩
  | ret u => obtain ⟨v, σ', H', I, r, q⟩ := h; exact ⟨v, σ', H', I.unwish, r, q⟩
theorem PSs.nox {st : List Stmt} {t : TS} (h : PSs X.nox st t) : PSs X st t := fun pins s σ H D I hw =>
  wpAny_mono (h pins s σ H D (I.wish _) hw) (fun _ _ q => q.unwish) fun _ _ z => False.elim z
end
/-! ### blocks and small statements -/
section
variable {X : Cx} {st : Stmt} {rest : List Stmt} {t u : TS} {e : Expr} {te : TE} {pos : Pos}
def tNext : TS := fun D σ H => D.nx σ H
def tSeq (t u : TS) : TS := fun D σ H => t { D with nx := u D } σ H
theorem pss_nil : PSs X [] tNext := fun _ _ σ H _ I h => wpAny_execs_nil ⟨σ, H, I, h⟩
theorem pss_cons (h1 : PS X st t) (h2 : PSs X rest u) : PSs X (st :: rest) (tSeq t u) := by
  intro pins s σ H D I h
  refine wpAny_execs_cons (thn (h1 pins s σ H { D with nx := u D } I h) fun f s1 q => ?_)
  cases f with
  | next =>
    obtain ⟨σ', H', I', q⟩ := q
    exact h2 pins s1 σ' H' D I' q
  | ret v => exact q
  | brk => exact q
  | cont => exact q
theorem pss_one (h1 : PS X st t) : PSs X [st] t := by
  intro pins s σ H D I h
  refine wpAny_execs_cons (thn (h1 pins s σ H D I h) fun f s1 q => ?_)
  cases f with
  | next => exact wpAny_execs_nil q
  | ret v => exact q
  | brk => exact q
  | cont => exact q
/-- in a def's body nothing is shown -/
theorem Inv.quiet {pins : List (Addr × Obj)} {σ : St} {H : Hp} {s : Shared} (I : Inv X pins σ H s) : interactive X.env = false := by simp [interactive, I.ok.kind]
/-- an expression whose value is dropped -/
def tDrop (te : TE) : TS := fun D σ H => te σ H fun _ H1 => D.nx σ H1
theorem ps_expr (he : PE X e te) (hs : swapsWith e none pos.line X.env = pure false := by rfl) : PS X (.Expr e pos) (tDrop te) := by
  intro pins s σ H D I h
  exact wpAny_Expr_any (thn (he pins s σ H _ I h) fun v s1 ⟨x, H1, I1, r1, q1⟩ => ⟨σ, H1, I1, q1⟩) I.quiet hs
def tRet (te : TE) : TS := fun D σ H => te σ H D.rt
theorem ps_ret (he : PE X e te) : PS X (.Return (some e) pos) (tRet te) := by
  intro pins s σ H D I h
  exact wpAny_Return_some (thn (he pins s σ H _ I h) fun v s1 ⟨x, H1, I1, r1, q1⟩ => ⟨x, σ, H1, I1, r1, q1⟩)
def tIfS (c : TT) (t u : TS) : TS := fun D σ H => c σ H fun b H1 => if b = true then t D σ H1 else u D σ H1
theorem ps_if {c : Expr} {a b : List Stmt} {tc : TT} (hc : PT X c tc) (ha : PSs X a t) (hb : PSs X b u) : PS X (.If c a b pos) (tIfS tc t u) := by
  intro pins s σ H D I h
  refine wpAny_If (thn (hc pins s σ H _ I h) fun d s1 ⟨H1, I1, q1⟩ => ?_)
  cases d with
  | true => exact ha pins s1 σ H1 D I1 q1
  | false => exact hb pins s1 σ H1 D I1 q1
end
/-! ### targets -/
abbrev TG := V → St → Hp → (St → Hp → Prop) → Prop
def PG (X : Cx) (target : Expr) (t : TG) : Prop :=
  ∀ (pins : List (Addr × Obj)) (s : Shared) (σ : St) (H : Hp) (v : V) (u : Value) (Q : St → Hp → Prop), Inv X pins σ H s → RelV v u → t v σ H Q →
    wpAny (model X.prog X.w) X.A (assign target X.env u) (fun _ s' => ∃ σ' H', Inv X pins σ' H' s' ∧ Q σ' H') X.xe s
section
variable {X : Cx} {pos : Pos}
def gName (i : Nat) : TG := fun v σ H Q => Q (σ.set i (some v)) H
theorem pg_name {i : Nat} {x : Str} (hN : X.N.Nodup) (hi : X.N[i]? = some x) (hx : Loc X.env.scope x) (hf : X.fn x = true ∨ X.env.scope.names.lookup x = some .local := by first | exact .inl rfl | exact .inr rfl | assumption) : PG X (.Name x pos) (gName i) := by
  intro pins s σ H v u Q I r h
  exact wpAny_assign_Name (store_ok I hN hi hx r (fun s' I' => ⟨_, H, I', h⟩) hf)
/-- target = value -/
def tAsg (te : TE) (g : TG) : TS := fun D σ H => te σ H fun x H1 => g x σ H1 D.nx
/-- name = value -/
theorem ps_set {i : Nat} {x : Str} {e : Expr} {te : TE} {pos' : Pos} (hN : X.N.Nodup) (hi : X.N[i]? = some x) (hx : Loc X.env.scope x) (he : PE X e te) (hs : swapsWith e (some (.Name x pos')) pos.line X.env = pure false := by rfl) (hf : X.fn x = true ∨ X.env.scope.names.lookup x = some .local := by first | exact .inl rfl | exact .inr rfl | assumption) :
    PS X (.Assign [.Name x pos'] e pos) (tAsg te (gName i)) := by
  intro pins s σ H D I h
  refine wpAny_Assign_Name (thn (he pins s σ H _ I h) fun v s1 ⟨y, H1, I1, r1, q1⟩ => ?_) hs
  exact store_ok I1 hN hi hx r1 (fun s2 I2 => ⟨_, H1, I2, q1⟩) hf
end
/-! ### while -/
section
variable {X : Cx} {pos : Pos}
/-- the invariant W with its measure -/
def tWhile (c : TT) (tb : TS) : TS := fun D σ H => ∃ W : Nat → St → Hp → Prop, (∃ m, W m σ H) ∧ ∀ m σ H, W m σ H →
  c σ H fun b H1 => if b = true then ∃ N : St → Hp → Prop, (∀ σ' H', N σ' H' → ∃ m', m' < m ∧ W m' σ' H') ∧ tb { D with nx := N, ct := N, bk := D.nx } σ H1 else D.nx σ H1
theorem ps_while {c : Expr} {body : List Stmt} {tc : TT} {tb : TS} (hp : PassesOwn (model X.prog X.w) X.A X.env X.xe) (hc : PT X c tc) (hb : PSs X body tb) : PS X (.While c body [] pos) (tWhile tc tb) := by
  intro pins s σ H D I h
  obtain ⟨W, ⟨m0, w0⟩, turn⟩ := h
  refine wpAny_While (codeAny_whileLoop (fun n s' => ∃ σ' H', Inv X pins σ' H' s' ∧ W n σ' H') ?_ m0 ⟨σ, H, I, w0⟩)
  rintro n s1 ⟨σ1, H1, I1, w1⟩
  refine wpAny_passesOwn hp (thn (hc pins s1 σ1 H1 _ I1 (turn n σ1 H1 w1)) fun b s2 ⟨H2, I2, q2⟩ => ?_)
  cases b with
  | true =>
    obtain ⟨N, hN, q2⟩ := q2
    rw [if_pos rfl]
    refine wpAny_passesOwn hp (thn (hb pins s2 σ1 H2 _ I2 q2) fun f s3 q3 => ?_)
    cases f with
    | next =>
      obtain ⟨σ3, H3, I3, n3⟩ := q3
      obtain ⟨m', hm, w3⟩ := hN σ3 H3 n3
      exact ⟨m', hm, σ3, H3, I3, w3⟩
    | cont =>
      obtain ⟨σ3, H3, I3, n3⟩ := q3
      obtain ⟨m', hm, w3⟩ := hN σ3 H3 n3
      exact ⟨m', hm, σ3, H3, I3, w3⟩
    | brk => exact q3
    | ret v => exact q3
  | false =>
    rw [if_neg Bool.false_ne_true]
    exact wpAny_execs_nil ⟨σ1, H2, I2, q2⟩
end
/-! ### what a loop or a comprehension walks -/
/-- at turn i: it yields x (the heap may grow), or it stops -/
structure It where
  go : Nat → Hp → Prop
  yld : Nat → Hp → V → Hp → Prop
  stop : Nat → Hp → Prop
/-- the iterator's own objects may turn: they are not the frame's, not pinned, younger than the entry (or a comprehension's own) -/
def FpOk (X : Cx) (pins : List (Addr × Obj)) (H : Hp) (b : Addr) : Prop :=
  H b = none ∧ b ≠ X.env.locals ∧ b ∉ X.fs ∧ (b ∈ X.ex ∨ X.s_0.heap.objs.size ≤ b) ∧ (∀ x c, X.env.cells.lookup x = some c → c ≠ b) ∧ ∀ p ∈ X.pn ++ pins, p.1 ≠ b
theorem Inv.fpOk {X : Cx} {pins : List (Addr × Obj)} {σ : St} {H H' : Hp} {s : Shared} {b : Addr} (I : Inv X pins σ H s) (hb : s.heap.objs.size ≤ b) (hn : H' b = none) : FpOk X pins H' b := by
  refine ⟨hn, Nat.ne_of_gt (Nat.lt_of_lt_of_le I.lt hb), I.nofs hb, .inr (Nat.le_trans I.sz hb), fun x c e z => ?_, fun p hp z => ?_⟩
  · obtain ⟨v, q⟩ := I.cell x c e
    exact absurd (Nat.lt_of_lt_of_le q.lt (by rw [z]; exact hb)) (Nat.lt_irrefl _)
  · exact absurd (Nat.lt_of_lt_of_le (Heap.lt_size (I.pin p hp).1) (by rw [z]; exact hb)) (Nat.lt_irrefl _)
structure Turn (P : Program) (w : World) (K : PySem.W.Frag) (tg : Expr) (J : It) (fp : List Addr) (it : Addr) (tn : Nat → Heap → Prop) : Prop where
  mem : it ∈ fp
  obj : ∀ i h, tn i h → ∀ b ∈ fp, ∃ o, h.get? b = some o ∧ ∀ v, o.data ≠ .cell v
  keep : ∀ i h h', tn i h → (∀ b ∈ fp, ∀ o, h.get? b = some o → h'.get? b = some o) → tn i h'
  item : ∀ (X : Cx), X.prog = P → X.w = w → X.K = K → X.calm = true → ∀ (i : Nat) (pins : List (Addr × Obj)) (s : Shared) (σ : St) (H : Hp) (E : Value → Shared → Prop), Inv X pins σ H s → (∀ b ∈ fp, FpOk X pins H b) → tn i s.heap → J.go i H →
    wpAny (model P w) X.A (pyNext (.ref it)) (fun r s1 => ∃ u, r = some u ∧
      wpAny (model P w) X.A (letOwnedTupleGo tg (.ref it) u) (fun _ s2 => ∃ x H', Inv X pins σ H' s2 ∧ RelV x u ∧ J.yld i H x H' ∧ tn (i + 1) s2.heap ∧ ∀ b ∈ fp, H' b = none) E s1) E s
  done : ∀ (X : Cx), X.prog = P → X.w = w → X.K = K → X.calm = true → ∀ (i : Nat) (pins : List (Addr × Obj)) (s : Shared) (σ : St) (H : Hp) (E : Value → Shared → Prop), Inv X pins σ H s → (∀ b ∈ fp, FpOk X pins H b) → tn i s.heap → J.stop i H →
    wpAny (model P w) X.A (pyNext (.ref it)) (fun r s1 => r = none ∧ Inv X pins σ H s1) E s
  self : ∀ (A : Around) (i : Nat) (s : Shared) (Q : Value → Shared → Prop) (E : Value → Shared → Prop), tn i s.heap → Q (.ref it) s → wpAny (model P w) A (pyIter (.ref it)) Q E s
abbrev TI := St → Hp → (It → Hp → Prop) → Prop
/-- an iterator has come -/
def PIE (X : Cx) (pins : List (Addr × Obj)) (σ : St) (tg : Expr) (R : It → Hp → Prop) (itv : Value) (s2 : Shared) : Prop :=
  ∃ (it : Addr) (fp : List Addr) (tn : Nat → Heap → Prop) (J : It) (H' : Hp), itv = .ref it ∧ Inv X pins σ H' s2 ∧ Turn X.prog X.w X.K tg J fp it tn ∧ tn 0 s2.heap ∧ (∀ b ∈ fp, FpOk X pins H' b) ∧ R J H'
def PI (X : Cx) (tg iter : Expr) (wi : TI) : Prop :=
  ∀ (pins : List (Addr × Obj)) (s : Shared) (σ : St) (H : Hp) (R : It → Hp → Prop), Inv X pins σ H s → wi σ H R →
    wpAny (model X.prog X.w) X.A (eval iter X.env) (fun v s1 => wpAny (model X.prog X.w) X.A (pyIter v) (PIE X pins σ tg R) X.xe s1) X.xe s
/-- the step ahead of the store is nothing for an iterator that keeps no tuple -/
theorem go_of {M : Model} {A : Around} {E : Value → Shared → Prop} {s : Shared} {tg : Expr} {it : Addr} {u : Value} {o : Obj} {n : String} {vs : Array Value} {Q : Unit → Shared → Prop} (ho : s.heap.get? it = some o) (hc : o.cls = .type n) (hd : o.data = .fields vs)
    (hn : ["enumerate", "zip", "dict_itemiterator", "dict_reverseitemiterator", "odict_iterator", "itertools.zip_longest", "itertools.pairwise"].contains n = false) (hQ : Q () s) : wpAny M A (letOwnedTupleGo tg (.ref it) u) Q E s := by
  unfold letOwnedTupleGo
  cases tg <;> first
    | exact wpAny_pure hQ
    | (cases u <;> first
        | exact wpAny_pure hQ
        | (refine wpAny_bind (wpAny_load ho ?_)
           rw [hc, hd]
           show wpAny M A (if (["enumerate", "zip", "dict_itemiterator", "dict_reverseitemiterator", "odict_iterator", "itertools.zip_longest", "itertools.pairwise"].contains n && vs[0]? == some (rawInt _)) = true then _ else _) Q E s
           rw [if_neg (by intro h; rw [hn, Bool.false_and] at h; cases h)]
           exact wpAny_pure hQ))
/-- the list at a, as it stands at each turn (a loop may append to it) -/
def Itl (K : PySem.W.Frag) (a : Addr) : It :=
  ⟨fun i H => ∃ xs x, SqL K H a xs ∧ xs[i]? = some x, fun i H x H' => H' = H ∧ ∀ xs, SqL K H a xs → xs[i]? = some x, fun i H => ∃ xs, SqL K H a xs ∧ xs.length ≤ i⟩
theorem turn_list {P : Program} {w : World} {K : PySem.W.Frag} {tg : Expr} (a it : Addr) : Turn P w K tg (Itl K a) [it] it (fun i h => h.IsListIter it a i) where
  mem := by simp
  obj := fun i h st b hb => by
    have e : b = it := by simpa using hb
    subst e
    obtain ⟨o, e, c, d⟩ := st
    exact ⟨o, e, fun v z => by rw [d] at z; cases z⟩
  keep := fun i h h' st k => st.at fun o e => k it (by simp) o e
  item := by
    intro X hP hw hK hc i pins s σ H E I hf st hg
    subst hP hw hK
    obtain ⟨xs, x, hq, hx⟩ := hg
    obtain ⟨its, rv, p, hz⟩ := I.list hq
    obtain ⟨u, hu, ru⟩ := rv.get hx
    obtain ⟨f0, f1, f2, f3, f4, f5⟩ := hf it (by simp)
    refine wpAny_pyNext_list_item st p.isList (x := u) (by simpa using hu) fun h' st' sb => ?_
    have I1 : Inv X pins σ H { s with heap := h' } := I.turned (t' := s.toks) (fun b o hb e => (sb.2 b hb).trans e) f0 f1 f3 f4 f5
    obtain ⟨o, e, c, d⟩ := id st'
    exact ⟨u, rfl, go_of (s := { s with heap := h' }) e c d (by decide) ⟨x, H, I1, ru, ⟨rfl, fun ys hy => by rw [I.list_inj hy hq]; exact hx⟩, st', fun b hb => (hf b hb).1⟩⟩
  done := by
    intro X hP hw hK hc i pins s σ H E I hf st hg
    subst hP hw hK
    obtain ⟨xs, hq, hx⟩ := hg
    obtain ⟨its, rv, p, hz⟩ := I.list hq
    obtain ⟨f0, f1, f2, f3, f4, f5⟩ := hf it (by simp)
    have hl := rv.length
    exact wpAny_pyNext_list_end (I.ok.hd hc) st p.isList (by simp; omega) fun h' eb => ⟨rfl, I.turned (t' := s.toks) (fun b o hb e => eb b o hb e) f0 f1 f3 f4 f5⟩
  self := fun _ _ _ _ _ st h => wpAny_pyIter_listiter st h
end L2
namespace L2
open PySem PySem.Spec PyProof.Rows
section
variable {X : Cx} {tg : Expr}
def iList (K : PySem.W.Frag) (tl : TE) : TI := fun σ H R => tl σ H fun x H1 => ∃ a, x = .ref a ∧ (∃ xs, SqL K H1 a xs) ∧ R (Itl K a) H1
theorem pi_list {l : Expr} {tl : TE} (hl : PE X l tl) : PI X tg l (iList X.K tl) := by
  intro pins s σ H R I h
  refine thn (hl pins s σ H _ I h) fun v s1 ⟨x, H1, I1, r1, q1⟩ => ?_
  obtain ⟨a, e, ⟨xs, hq⟩, q⟩ := q1
  subst e
  cases r1
  obtain ⟨its, rv, p, hz⟩ := I1.list hq
  refine wpAny_pyIter_list p.isList ?_
  refine ⟨s1.heap.objs.size, [s1.heap.objs.size], _, _, H1, rfl, I1.kept (t' := s1.toks) fun b o e => Heap.get?_push_of_some _ e, turn_list a _, ⟨_, Heap.get?_push_size _ rfl, rfl, rfl⟩, fun b hb => ?_, q⟩
  have e : b = s1.heap.objs.size := by simpa using hb
  subst e
  exact I1.fpOk (Nat.le_refl _) (I1.hok.fresh (Nat.le_refl _))
/-! ### for -/
/-- W: the invariant by the turn and a measure; N: what the body is to reach -/
def tFor (wi : TI) (g : TG) (tb : TS) : TS := fun D σ H => wi σ H fun J H1 => ∃ W : Nat → Nat → St → Hp → Prop, (∃ m, W 0 m σ H1) ∧ ∀ i m σ H, W i m σ H →
  (J.stop i H ∧ D.nx σ H) ∨ (J.go i H ∧ ∃ N : St → Hp → Prop, (∀ σ' H', N σ' H' → ∃ m', m' < m ∧ W (i + 1) m' σ' H') ∧ ∀ x H', J.yld i H x H' → g x σ H' fun σ2 H2 => tb { D with nx := N, ct := N, bk := D.nx } σ2 H2)
/-- the records at fp as they stand -/
def pinsAt (fp : List Addr) (h : Heap) : List (Addr × Obj) := fp.filterMap fun b => (h.get? b).map fun o => (b, o)
theorem mem_pinsAt {fp : List Addr} {h : Heap} {b : Addr} {o : Obj} (hb : b ∈ fp) (e : h.get? b = some o) : (b, o) ∈ pinsAt fp h := List.mem_filterMap.mpr ⟨b, hb, by rw [e]; rfl⟩
theorem of_pinsAt {fp : List Addr} {h : Heap} {p : Addr × Obj} (hp : p ∈ pinsAt fp h) : p.1 ∈ fp ∧ h.get? p.1 = some p.2 := by
  obtain ⟨b, hb, e⟩ := List.mem_filterMap.mp hp
  cases q : h.get? b with
  | none => rw [q] at e; cases e
  | some o =>
    rw [q] at e
    have e' : (b, o) = p := Option.some.inj e
    subst e'
    exact ⟨hb, q⟩
theorem Inv.pinned {pins : List (Addr × Obj)} {σ : St} {H : Hp} {s : Shared} {fp : List Addr} (I : Inv X pins σ H s) (hf : ∀ b ∈ fp, FpOk X pins H b) (ho : ∀ b ∈ fp, ∃ o, s.heap.get? b = some o ∧ ∀ v, o.data ≠ .cell v) : Inv X (pins ++ pinsAt fp s.heap) σ H s :=
  I.pins_of fun p hp => (List.mem_append.mp hp).elim (fun z => I.pin p (List.mem_append_right _ z)) fun z => by
    obtain ⟨hb, e⟩ := of_pinsAt z
    obtain ⟨f0, f1, f2, _⟩ := hf p.1 hb
    obtain ⟨o, e', d⟩ := ho p.1 hb
    rw [e] at e'; cases e'
    exact ⟨e, f0, f1, f2, d⟩
theorem Inv.unpinned {pins pl : List (Addr × Obj)} {σ : St} {H : Hp} {s : Shared} (I : Inv X (pins ++ pl) σ H s) : Inv X pins σ H s := I.pins_of fun p hp => I.pin p (List.mem_append_right _ (List.mem_append_left _ hp))
theorem ps_for {iter : Expr} {body : List Stmt} {wi : TI} {g : TG} {tb : TS} {pos : Pos} (hp : PassesOwn (model X.prog X.w) X.A X.env X.xe) (hc : X.calm = true) (hi : PI X tg iter wi) (hg : PG X tg g) (hb : PSs X body tb)
    (hs : ∀ x, foldedSetIterable iter X.env x = pure x := by intro _; rfl) : PS X (.For tg iter body [] pos) (tFor wi g tb) := by
  intro pins s σ H D I h
  refine wpAny_For (thn (hi pins s σ H _ I h) fun v s1 h1 => thn h1 fun itv s2 h2 => ?_) hs
  obtain ⟨it, fp, tn, J, H2, e, I2, T, st2, f2, W, ⟨m0, w0⟩, turn⟩ := h2
  subst e
  -- what stays true of the iterator's objects through the loop
  have stat : ∀ {H' : Hp}, (∀ b ∈ fp, H' b = none) → ∀ b ∈ fp, FpOk X pins H' b := fun hn b hb => ⟨hn b hb, (f2 b hb).2⟩
  refine codeAny_forLoop_any (fun n s' => ∃ i σ' H', Inv X pins σ' H' s' ∧ tn i s'.heap ∧ (∀ b ∈ fp, H' b = none) ∧ W i n σ' H') ?_ m0 ⟨0, σ, H2, I2, st2, fun b hb => (f2 b hb).1, w0⟩
  rintro n s3 ⟨i, σ3, H3, I3, st3, fr3, w3⟩
  rcases turn i n σ3 H3 w3 with ⟨stop, qn⟩ | ⟨go, N, hN, step⟩
  · refine wpAny_passesOwn hp (thn (T.done X rfl rfl rfl hc i pins s3 σ3 H3 X.xe I3 (stat fr3) st3 stop) fun r s4 ⟨hr, I4⟩ => ?_)
    subst hr
    exact wpAny_execs_nil ⟨σ3, H3, I4, qn⟩
  · refine wpAny_passesOwn hp (thn (T.item X rfl rfl rfl hc i pins s3 σ3 H3 X.xe I3 (stat fr3) st3 go) fun r s4 ⟨u, hr, h4⟩ => ?_)
    subst hr
    refine wpAny_passesOwn hp (thn h4 fun _ s5 ⟨x, H5, I5, r5, y5, st5, fr5⟩ => ?_)
    have I5' := I5.pinned (stat fr5) (T.obj _ _ st5)
    refine wpAny_passesOwn hp (thn (hg _ s5 σ3 H5 x u _ I5' r5 (step x H5 y5)) fun _ s6 ⟨σ6, H6, I6, q6⟩ => ?_)
    refine wpAny_passesOwn hp (thn (hb _ s6 σ6 H6 _ I6 q6) fun f s7 q7 => ?_)
    have again : ∀ {σ7 : St} {H7 : Hp}, Inv X (pins ++ pinsAt fp s5.heap) σ7 H7 s7 → N σ7 H7 → ∃ m, m < n ∧ ∃ i σ' H', Inv X pins σ' H' s7 ∧ tn i s7.heap ∧ (∀ b ∈ fp, H' b = none) ∧ W i m σ' H' := fun {σ7 H7} I7 n7 => by
      obtain ⟨m', hm, w7⟩ := hN σ7 H7 n7
      refine ⟨m', hm, i + 1, σ7, H7, I7.unpinned, T.keep _ _ _ st5 fun b hb o e => (I7.pin (b, o) (List.mem_append_right _ (List.mem_append_right _ (mem_pinsAt hb e)))).1, fun b hb => ?_, w7⟩
      obtain ⟨o, e, d⟩ := T.obj _ _ st5 b hb
      exact (I7.pin (b, o) (List.mem_append_right _ (List.mem_append_right _ (mem_pinsAt hb e)))).2.1
    cases f with
    | next => obtain ⟨σ7, H7, I7, n7⟩ := q7; exact again I7 n7
    | cont => obtain ⟨σ7, H7, I7, n7⟩ := q7; exact again I7 n7
    | brk => obtain ⟨σ7, H7, I7, q7⟩ := q7; exact ⟨σ7, H7, I7.unpinned, q7⟩
    | ret v => obtain ⟨x7, σ7, H7, I7, r7, q7⟩ := q7; exact ⟨x7, σ7, H7, I7.unpinned, r7, q7⟩
end
/-! ### the forms one uses -/
/-- over a list that the body leaves as it is -/
theorem for_list {K : PySem.W.Frag} {a : Addr} {xs : List V} {g : TG} {tb : TS} {D : Ends} {σ : St} {H : Hp} (Pv : Nat → St → Hp → Prop) (h0 : Pv 0 σ H) (hl : ∀ i σ H, i ≤ xs.length → Pv i σ H → SqL K H a xs)
    (hs : ∀ i x σ H, xs[i]? = some x → Pv i σ H → g x σ H fun σ2 H2 => tb { D with nx := Pv (i + 1), ct := Pv (i + 1), bk := D.nx } σ2 H2) (hd : ∀ σ H, Pv xs.length σ H → D.nx σ H) :
    ∃ W : Nat → Nat → St → Hp → Prop, (∃ m, W 0 m σ H) ∧ ∀ i m σ H, W i m σ H →
      ((Itl K a).stop i H ∧ D.nx σ H) ∨ ((Itl K a).go i H ∧ ∃ N : St → Hp → Prop, (∀ σ' H', N σ' H' → ∃ m', m' < m ∧ W (i + 1) m' σ' H') ∧ ∀ x H', (Itl K a).yld i H x H' → g x σ H' fun σ2 H2 => tb { D with nx := N, ct := N, bk := D.nx } σ2 H2) := by
  refine ⟨fun i m σ H => m = xs.length - i ∧ i ≤ xs.length ∧ Pv i σ H, ⟨xs.length, by simp, Nat.zero_le _, h0⟩, ?_⟩
  rintro i m σ H ⟨rfl, hi, p⟩
  have q := hl i σ H hi p
  by_cases hlt : i < xs.length
  · refine .inr ⟨⟨xs, xs[i], q, by simp [hlt]⟩, Pv (i + 1), fun σ' H' p' => ⟨xs.length - (i + 1), by omega, rfl, hlt, p'⟩, fun x H' y => ?_⟩
    obtain ⟨e, y⟩ := y
    subst e
    exact hs i x σ _ (y xs q) p
  · have e : i = xs.length := by omega
    subst e
    exact .inl ⟨⟨xs, q, Nat.le_refl _⟩, hd σ H p⟩
/-- while, by a word and a measure of the state -/
theorem while_by {c : TT} {tb : TS} {D : Ends} {σ : St} {H : Hp} (Pv : St → Hp → Prop) (μ : St → Hp → Nat) (h0 : Pv σ H)
    (hs : ∀ σ H, Pv σ H → c σ H fun b H1 => if b = true then tb { D with nx := fun σ' H' => Pv σ' H' ∧ μ σ' H' < μ σ H, ct := fun σ' H' => Pv σ' H' ∧ μ σ' H' < μ σ H, bk := D.nx } σ H1 else D.nx σ H1)
    (mono : ∀ σ H Q Q', (∀ b H1, Q b H1 → Q' b H1) → c σ H Q → c σ H Q') : tWhile c tb D σ H := by
  refine ⟨fun m σ H => m = μ σ H ∧ Pv σ H, ⟨_, rfl, h0⟩, ?_⟩
  rintro m σ H ⟨rfl, p⟩
  refine mono σ H _ _ (fun b H1 q => ?_) (hs σ H p)
  cases b with
  | true => exact ⟨_, fun σ' H' ⟨p', l⟩ => ⟨_, l, rfl, p'⟩, q⟩
  | false => exact q
end L2
namespace L2
open PySem PySem.Spec PyProof.Rows
abbrev R2 := V → V → Hp → VK → Prop
/-- a two-place operation on values: f is binaryOp op, inplaceOp op or compareOp op -/
def OpR (X : Cx) (f : Value → Value → Sem Value) (r : R2) : Prop :=
  ∀ (pins : List (Addr × Obj)) (s : Shared) (σ : St) (H : Hp) (x y : V) (v u : Value) (Q : VK), Inv X pins σ H s → RelV x v → RelV y u → r x y H Q →
    wpAny (model X.prog X.w) X.A (f v u) (EP X pins σ Q) X.xe s
/-- a call of a value that is known (a builtin, a type) with values -/
def CallR (X : Cx) (f : Value) (r : List V → Hp → VK → Prop) : Prop :=
  ∀ (pins : List (Addr × Obj)) (s : Shared) (σ : St) (H : Hp) (xs : List V) (us : List Value) (Q : VK), Inv X pins σ H s → Vals xs us → r xs H Q →
    wpAny (model X.prog X.w) X.A (call f us) (EP X pins σ Q) X.xe s
def tOp (r : R2) (ta tb : TE) : TE := fun σ H Q => ta σ H fun x H1 => tb σ H1 fun y H2 => r x y H2 Q
/-- ints in, under C, and a value out -/
def rI (C : Int → Int → Prop) (g : Int → Int → V) : R2 := fun x y H Q => ∃ i j, x = .int i ∧ y = .int j ∧ C i j ∧ Q (g i j) H
def rI0 (g : Int → Int → V) : R2 := fun x y H Q => ∃ i j, x = .int i ∧ y = .int j ∧ Q (g i j) H
section
variable {X : Cx} {a b c : Expr} {ta tb tc : TE} {pos : Pos}
theorem binT (ha : PE X a ta) (hb : PE X b tb) {pins : List (Addr × Obj)} {s : Shared} {σ : St} {H : Hp} {R : V → V → Hp → Prop} (I : Inv X pins σ H s)
    (h : ta σ H fun x H1 => tb σ H1 fun y H2 => R x y H2) {Q : Value → Shared → Prop} {f : Value → Value → Sem Value}
    (hf : ∀ v u s2 x y H2, Inv X pins σ H2 s2 → RelV x v → RelV y u → R x y H2 → wpAny (model X.prog X.w) X.A (f v u) Q X.xe s2) :
    wpAny (model X.prog X.w) X.A (eval a X.env) (fun v s₁ => wpAny (model X.prog X.w) X.A (eval b X.env) (fun u s₂ => wpAny (model X.prog X.w) X.A (f v u) Q X.xe s₂) X.xe s₁) X.xe s := by
  refine thn (ha pins s σ H _ I h) fun v s1 ⟨x, H1, I1, r1, q1⟩ => ?_
  refine thn (hb pins s1 σ H1 _ I1 q1) fun u s2 ⟨y, H2, I2, r2, q2⟩ => ?_
  exact hf v u s2 x y H2 I2 r1 r2 q2
theorem pe_op {op : Operator} {r : R2} (ho : OpR X (binaryOp op) r) (ha : PE X a ta) (hb : PE X b tb) : PE X (.BinOp a op b pos) (tOp r ta tb) := by
  intro pins s σ H Q I h
  exact wpAny_BinOp (binT ha hb I h fun v u s2 x y H2 I2 rx ry q => ho pins s2 σ H2 x y v u Q I2 rx ry q)
/-! ### ints -/
theorem opI {f : Value → Value → Sem Value} {C : Int → Int → Prop} {g : Int → Int → Int}
    (rule : ∀ (i j : Int) (t u : Tok) (s : Shared) (Q : Value → Shared → Prop) (E : Value → Shared → Prop), C i j → Q (.int (g i j) s.toks) { s with toks := s.toks + 1 } → wpAny (model X.prog X.w) X.A (f (.int i t) (.int j u)) Q E s) :
    OpR X f (rI C fun i j => .int (g i j)) := by
  intro pins s σ H x y v u Q I rx ry h
  obtain ⟨i, j, rfl, rfl, hc, q⟩ := h
  obtain ⟨t, rfl⟩ := rx
  obtain ⟨t', rfl⟩ := ry
  exact rule i j t t' s _ _ hc ⟨.int (g i j), H, I.tok _, ⟨_, rfl⟩, q⟩
theorem opI0 {f : Value → Value → Sem Value} {g : Int → Int → Int}
    (rule : ∀ (i j : Int) (t u : Tok) (s : Shared) (Q : Value → Shared → Prop) (E : Value → Shared → Prop), Q (.int (g i j) s.toks) { s with toks := s.toks + 1 } → wpAny (model X.prog X.w) X.A (f (.int i t) (.int j u)) Q E s) :
    OpR X f (rI0 fun i j => .int (g i j)) := by
  intro pins s σ H x y v u Q I rx ry h
  obtain ⟨i, j, rfl, rfl, q⟩ := h
  obtain ⟨t, rfl⟩ := rx
  obtain ⟨t', rfl⟩ := ry
  exact rule i j t t' s _ _ ⟨.int (g i j), H, I.tok _, ⟨_, rfl⟩, q⟩
theorem opB0 {f : Value → Value → Sem Value} {g : Int → Int → Bool}
    (rule : ∀ (i j : Int) (t u : Tok) (s : Shared) (Q : Value → Shared → Prop) (E : Value → Shared → Prop), Q (.bool (g i j)) s → wpAny (model X.prog X.w) X.A (f (.int i t) (.int j u)) Q E s) :
    OpR X f (rI0 fun i j => .bl (g i j)) := by
  intro pins s σ H x y v u Q I rx ry h
  obtain ⟨i, j, rfl, rfl, q⟩ := h
  obtain ⟨t, rfl⟩ := rx
  obtain ⟨t', rfl⟩ := ry
  exact rule i j t t' s _ _ ⟨.bl (g i j), H, I, rfl, q⟩
def CDiv (i j : Int) : Prop := 0 < j ∧ j < 1073741824
def CMul (i j : Int) : Prop := (-(2 ^ 64) < i ∧ i < 2 ^ 64) ∨ (-(2 ^ 64) < j ∧ j < 2 ^ 64)
theorem CMul.ok {i j : Int} (h : CMul i j) : IntMulOk i j := by
  rcases h with ⟨h1, h2⟩ | ⟨h1, h2⟩
  · exact .of_left (intBits_le_64 h1 h2)
  · exact .of_right (intBits_le_64 h1 h2)
theorem op_add : OpR X (binaryOp .Add) (rI0 fun i j => .int (i + j)) := opI0 fun _ _ _ _ _ _ _ q => add_int q
theorem op_sub : OpR X (binaryOp .Sub) (rI0 fun i j => .int (i - j)) := opI0 fun _ _ _ _ _ _ _ q => sub_int q
theorem op_mul : OpR X (binaryOp .Mult) (rI CMul fun i j => .int (i * j)) := opI fun _ _ _ _ _ _ _ hc q => mul_int q hc.ok
/-- // by a positive divisor -/
theorem op_fdiv : OpR X (binaryOp .FloorDiv) (rI CDiv fun i j => .int (i / j)) := opI fun i j _ _ _ _ _ hc q => by
  have h1 : (0 : Int) < j := hc.1
  have h2 : j < 1073741824 := hc.2
  exact floordiv_int (by omega) (by rw [Int.fdiv_eq_ediv_of_nonneg i (by omega)]; exact q) (.inl (PyProof.noPylong_small (by omega)))
/-! ### bools among ints: n += (a < b) -/
end
/-! ### comparisons -/
/-- the scalars that == tells apart as data does -/
def scal : V → V → Bool
  | .non, .non => true | .non, .int _ => true | .int _, .non => true | .non, .bl _ => true | .bl _, .non => true | .non, .str _ => true | .str _, .non => true
  | .int _, .int _ => true | .bl _, .bl _ => true | .str _, .str _ => true | .byt _, .byt _ => true
  | .int _, .str _ => true | .str _, .int _ => true | .bl _, .str _ => true | .str _, .bl _ => true
  | _, _ => false
def rEq : R2 := fun x y H Q => scal x y = true ∧ Q (.bl (decide (x = y))) H
theorem dec_int {i j : Int} : decide (V.int i = V.int j) = (i == j) := by
  rw [Bool.eq_iff_iff]
  simp
theorem dec_bl {i j : Bool} : decide (V.bl i = V.bl j) = (i == j) := by
  rw [Bool.eq_iff_iff]
  simp
theorem dec_str {i j : Str} : decide (V.str i = V.str j) = (i == j) := by
  rw [Bool.eq_iff_iff]
  simp
theorem dec_byt {i j : Array UInt8} : decide (V.byt i = V.byt j) = (i.toList == j.toList) := by
  rw [Bool.eq_iff_iff]
  cases i
  cases j
  simp
section
variable {X : Cx} {a b c : Expr} {ta tb tc : TE} {pos : Pos}
theorem fin_bl {pins : List (Addr × Obj)} {σ : St} {H : Hp} {s : Shared} {Q : VK} {k k' : Bool} (I : Inv X pins σ H s) (q : Q (.bl k) H) (e : k = k') : EP X pins σ Q (.bool k') s := by
  subst e
  exact ⟨.bl k, H, I, rfl, q⟩
theorem op_eq : OpR X (compareOp .Eq) rEq := by
  intro pins s σ H x y v u Q I rx ry h
  obtain ⟨hs, q⟩ := h
  cases x with
  | non =>
    cases rx
    cases y with
    | non => cases ry; exact PySem.EqNone.eq_none_none (fin_bl I q (by simp))
    | bl j => cases ry; exact PySem.EqNone.eq_none_bool (fin_bl I q (by simp))
    | int j => obtain ⟨t', rfl⟩ := ry; exact PySem.EqNone.eq_none_int (fin_bl I q (by simp))
    | str j => obtain ⟨t', rfl⟩ := ry; exact PySem.EqNone.eq_none_str (fin_bl I q (by simp))
    | _ => exact absurd (show false = true from hs) Bool.false_ne_true
  | bl i =>
    cases rx
    cases y with
    | non => cases ry; exact PySem.EqNone.eq_bool_none (fin_bl I q (by simp))
    | bl j => cases ry; exact eq_bool (fin_bl I q dec_bl)
    | str j => obtain ⟨t', rfl⟩ := ry; exact PySem.EqMixed.eq_bool_str (fin_bl I q (by simp))
    | _ => exact absurd (show false = true from hs) Bool.false_ne_true
  | int i =>
    obtain ⟨t, rfl⟩ := rx
    cases y with
    | non => cases ry; exact PySem.EqNone.eq_int_none (fin_bl I q (by simp))
    | int j => obtain ⟨t', rfl⟩ := ry; exact eq_int (fin_bl I q dec_int)
    | str j => obtain ⟨t', rfl⟩ := ry; exact PySem.EqMixed.eq_int_str (fin_bl I q (by simp))
    | _ => exact absurd (show false = true from hs) Bool.false_ne_true
  | str i =>
    obtain ⟨t, rfl⟩ := rx
    cases y with
    | non => cases ry; exact PySem.EqNone.eq_str_none (fin_bl I q (by simp))
    | bl j => cases ry; exact PySem.EqMixed.eq_str_bool (fin_bl I q (by simp))
    | int j => obtain ⟨t', rfl⟩ := ry; exact PySem.EqMixed.eq_str_int (fin_bl I q (by simp))
    | str j => obtain ⟨t', rfl⟩ := ry; exact eq_str (fin_bl I q dec_str)
    | _ => exact absurd (show false = true from hs) Bool.false_ne_true
  | byt i =>
    obtain ⟨t, rfl⟩ := rx
    cases y with
    | byt j => obtain ⟨t', rfl⟩ := ry; exact PySem.W.eq_bytes (fin_bl I q dec_byt)
    | _ => exact absurd (show false = true from hs) Bool.false_ne_true
  | _ => cases y <;> exact absurd (show false = true from hs) Bool.false_ne_true
theorem op_lt : OpR X (compareOp .Lt) (rI0 fun i j => .bl (decide (i < j))) := opB0 fun _ _ _ _ _ _ _ q => lt_int q
theorem op_le : OpR X (compareOp .LtE) (rI0 fun i j => .bl (decide (i ≤ j))) := opB0 fun _ _ _ _ _ _ _ q => le_int q
theorem op_gt : OpR X (compareOp .Gt) (rI0 fun i j => .bl (decide (j < i))) := opB0 fun _ _ _ _ _ _ _ q => gt_int q
theorem op_ge : OpR X (compareOp .GtE) (rI0 fun i j => .bl (decide (j ≤ i))) := opB0 fun _ _ _ _ _ _ _ q => ge_int q
/-- is, is not of two objects that are tracked lists or instances -/
def isObj : HO → Bool
  | .lst _ => true
  | .ins _ _ _ => true
  | _ => false
theorem nomark (b : Expr) {op : CmpOp} (h : op ≠ .In := by decide) (h2 : op ≠ .NotIn := by decide) : behindInMarks op b = false := by
  have e1 : (op == CmpOp.In) = false := by cases op <;> first | rfl | exact absurd rfl h
  have e2 : (op == CmpOp.NotIn) = false := by cases op <;> first | rfl | exact absurd rfl h2
  cases b <;> simp [behindInMarks, e1, e2]
/-- a reading of a value as a test -/
def tTest (t : TE) : TT := fun σ H Q => t σ H fun x H' => ∃ k, x = .bl k ∧ Q k H'
theorem pt_cmpR {op : CmpOp} {r : R2} (ho : OpR X (compareOp op) r) (ha : PE X a ta) (hb : PE X b tb) (hm : behindInMarks op b = false) : PT X (.Compare a [op] [b] pos) (tTest (tOp r ta tb)) := by
  intro pins s σ H Q I h
  refine wpAny_isTrue_Compare1 (thn (ha pins s σ H _ I h) fun v s1 ⟨x, H1, I1, r1, q1⟩ => thn (hb pins s1 σ H1 _ I1 q1) fun u s2 ⟨y, H2, I2, r2, q2⟩ =>
    thn (ho pins s2 σ H2 x y v u _ I2 r1 r2 q2) fun c s3 ⟨z, H3, I3, r3, k, e, q3⟩ => ?_) hm
  subst e
  cases r3
  exact wpAny_truthy_bool ⟨H3, I3, q3⟩
/-! ### truth -/
theorem line63 : (sizeLine : Nat) < 2 ^ 63 := by rw [sizeLine_eq]; decide
/-! ### strs and bytes -/
/-! ### scalar builtins, by CallR -/
theorem vals1 {x : V} {us : List Value} (r : Vals [x] us) : ∃ u, us = [u] ∧ RelV x u := by
  cases r with
  | cons r1 r2 => cases r2; exact ⟨_, rfl, r1⟩
theorem vals2 {x y : V} {us : List Value} (r : Vals [x, y] us) : ∃ u w', us = [u, w'] ∧ RelV x u ∧ RelV y w' := by
  cases r with
  | cons r1 r2 =>
    cases r2 with
    | cons r3 r4 => cases r4; exact ⟨_, _, rfl, r1, r3⟩
theorem call_max2 (hc : X.calm = true) : CallR X (.builtin "max") (fun xs H Q => ∃ i j, xs = [.int i, .int j] ∧ Q (.int (if j > i then j else i)) H) := by
  intro pins s σ H xs us Q I r h
  obtain ⟨i, j, rfl, q⟩ := h
  obtain ⟨u, w', rfl, ⟨t, rfl⟩, ⟨t', rfl⟩⟩ := vals2 r
  refine max_two_ints (I.ok.hd hc) fun h' tk k => ⟨_, H, I.kept k, ?_, q⟩
  by_cases hj : j > i
  · rw [if_pos hj, if_pos hj]; exact ⟨_, rfl⟩
  · rw [if_neg hj, if_neg hj]; exact ⟨_, rfl⟩
theorem call_min2 (hc : X.calm = true) : CallR X (.builtin "min") (fun xs H Q => ∃ i j, xs = [.int i, .int j] ∧ Q (.int (if j < i then j else i)) H) := by
  intro pins s σ H xs us Q I r h
  obtain ⟨i, j, rfl, q⟩ := h
  obtain ⟨u, w', rfl, ⟨t, rfl⟩, ⟨t', rfl⟩⟩ := vals2 r
  refine min_two_ints (I.ok.hd hc) fun h' tk k => ⟨_, H, I.kept k, ?_, q⟩
  by_cases hj : j < i
  · rw [if_pos hj, if_pos hj]; exact ⟨_, rfl⟩
  · rw [if_neg hj, if_neg hj]; exact ⟨_, rfl⟩
end
end L2
namespace L2
open PySem PySem.Spec PyProof.Rows
/-! ### an instance, its attributes a map -/
structure ObjM (h : Heap) (x dx C : Addr) (mA : Str → Option Value) : Prop where
  obj : h.get? x = some (PySem.W.instObj C dx)
  ns : h.Ns1 dx mA
  ne : dx ≠ x
theorem lookIn_ns {h : Heap} {dx : Addr} {mA : Str → Option Value} (n : h.Ns1 dx mA) : ∃ od, h.get? dx = some od ∧ ∀ name, PySem.W.lookIn name od = some (mA name) := by
  obtain ⟨o, es, ep, ho, hd, hk, _, hm⟩ := n
  refine ⟨o, ho, fun name => ?_⟩
  have e := hm name
  unfold nsFind findBy at e
  rw [← Array.find?_toList] at e
  unfold PySem.W.lookIn
  rw [hd]
  dsimp only
  split
  · rename_i y q
    rw [q] at e
    exact congrArg some e
  · rename_i q
    rw [q] at e
    have a : es.toList.any (·.refKey) = false := by
      rw [List.any_eq_false]
      intro y hy
      obtain ⟨z, t, hkey⟩ := hk y (Array.mem_toList_iff.mp hy)
      simp [DictEntry.refKey, hkey]
    have a' : ¬ es.toList.any (·.refKey) = true := by rw [a]; exact Bool.false_ne_true
    rw [if_neg a']
    exact congrArg some e
theorem ObjM.look {h : Heap} {x dx C : Addr} {mA : Str → Option Value} (I : ObjM h x dx C mA) : ∃ od, PySem.W.InstAt h x (PySem.W.instObj C dx) C (some od) ∧ ∀ name, PySem.W.lookIn name od = some (mA name) :=
  let ⟨od, ho, hl⟩ := lookIn_ns I.ns
  ⟨od, ⟨I.obj, rfl, rfl, ho⟩, hl⟩
section
variable {prog : Program} {w : World} {A : Around} {E : Value → Shared → Prop} {s : Shared} {K : PySem.W.Frag} {x dx C f : Addr} {mA : Str → Option Value} {name : Str} {v : Value}
theorem get_map {expr : Bool} {Q : Value → Shared → Prop} (X : K.In s.heap) (I : ObjM s.heap x dx C mA) (hg : PySem.W.plainGet K C name = true) (hh : PySem.W.hasDictIn K C = true)
    (ha : PySem.W.findIn K (.ref C) name = some none) (hv : mA name = some v) (hv' : PySem.W.handedIn v = true) (h : Q v { s with toks := s.toks + 1 }) :
    wpAny (model prog w) A (getAttr (.ref x) name expr) Q E s := by
  obtain ⟨od, J, hl⟩ := I.look
  exact PySem.W.get_value X J (PySem.W.plainGet_of hg).1 (PySem.W.findObj_own hh ha rfl (by rw [hl, hv])) hv' h
theorem get_meth {pl : Sem Bool} {Q : Value × List Value → Shared → Prop} (X : K.In s.heap) (I : ObjM s.heap x dx C mA) (hg : PySem.W.plainGet K C name = true)
    (hf : PySem.W.findIn K (.ref C) name = some (some (.ref f))) (ht : PySem.W.isFn K (.ref f) = true) (hv : mA name = none) (h : Q (.ref f, [.ref x]) s) :
    wpAny (model prog w) A (getMethod (.ref x) name pl) Q E s := by
  obtain ⟨od, J, hl⟩ := I.look
  exact PySem.W.method_fn X J (PySem.W.plainGet_of hg).1 (PySem.W.plainGet_of hg).2 hf (beq_iff_eq.mp ht) (by show (PySem.W.lookIn name od).map (·.isSome) = some false; rw [hl, hv]; rfl) h
theorem set_map {ns : List Str} {Q : Unit → Shared → Prop} (X : K.In s.heap) (I : ObjM s.heap x dx C mA)
    (hs : PySem.W.findIn K (.ref C) "__setattr__" = some (some (.builtin "object.__setattr__"))) (hp : PySem.W.plainOver K C = true) (ht : PySem.W.takerIn K C name = some none) (hh : PySem.W.hasDictIn K C = true)
    (hw : PySem.Within mA ns) (hsz : ns.length ≤ sizeLine)
    (h : ∀ h', ObjM h' x dx C (fun y => if y = name then some v else mA y) → Heap.SameBut dx s.heap h' → Q () { s with heap := h', toks := s.toks + 2 }) :
    wpAny (model prog w) A (setAttr (.ref x) name v) Q E s := by
  obtain ⟨od, J, hl⟩ := I.look
  refine PySem.W.set_plain X J hs (PySem.W.osa_open (s := { s with toks := s.toks + 1 }) (r := none) X J hp ht fun b => ?_)
  obtain ⟨cd, hc, hd'⟩ := PySem.W.any_some hh
  have hx : s.heap.get? x = some ⟨.ref C, some dx, .plain, #[]⟩ := I.obj
  refine wpAny_bind (wpAny_pure (wpAny_bind (wpAny_bind (wpAny_loadPart hx (wpAny_bind (PySem.W.Looks.here (s := { s with toks := s.toks + 1 }) (PySem.W.looks_clsIn X hc) ?_))))))
  rw [hd']
  refine wpAny_pure (a := some dx) (wpAny_bind (wpAny_pure (wpAny_bind ?_)))
  refine wpAny_nsSet1 (s := { s with toks := s.toks + 1 }) I.ns fun h' hn2 hs2 => ?_
  obtain ⟨oD, esD, epD, hoD, hdD, hcD⟩ := hn2.count (PySem.Within.cons name v hw)
  refine wpAny_bind (wpAny_lookBehind hoD (by rw [hdD]; exact pastItsLine_dict (Nat.le_trans hcD (by rw [List.length_cons]; omega))) ?_)
  exact wpAny_pure (h _ ⟨(hs2.2 _ (Ne.symm I.ne)).trans I.obj, hn2, I.ne⟩ hs2)
/-- C(..): the dict at the heap's end, the instance behind it; then its __init__ -/
theorem make_map {R : Result → Shared → Prop} {vs : List Value} {kw : List (Str × Value)} (X : K.In s.heap) (hm : PySem.W.makesIn K C = true)
    (hi : PySem.W.findIn K (.ref C) "__init__" = some (some (.ref f))) (hf : PySem.W.typeIn K (.ref f) = some (.type "function"))
    (h : codeAny (model prog w) (A.under (.builtin "type.__call__" ⟨.ref C :: vs, kw⟩)) (.call (.ref f) ⟨.ref (s.heap.objs.size + 1) :: vs, kw⟩) (PySem.W.InitBack (s.heap.objs.size + 1) R)
      { s with heap := (s.heap.push PySem.W.emptyDict).push (PySem.W.instObj C s.heap.objs.size) }) :
    codeAny (model prog w) A (.call (.ref C) ⟨vs, kw⟩) R s := by
  obtain ⟨hh, g, d, t, os⟩ := s
  exact PySem.W.make_core (PySem.W.makes_of X hm) (PySem.W.looks_findIn X hi) (fun self => PySem.W.bind_fn X self hf) (.inl rfl) h
end
/-! ### the attributes as a list of pairs -/
def putF (f : Str) (v : V) : List (Str × V) → List (Str × V)
  | [] => [(f, v)]
  | (g, x) :: r => if g = f then (g, v) :: r else (g, x) :: putF f v r
theorem lookup_putF (f g : Str) (v : V) : ∀ fs : List (Str × V), (putF f v fs).lookup g = if g = f then some v else fs.lookup g
  | [] => by
    show List.lookup g [(f, v)] = _
    by_cases h : g = f
    · have hb : (g == f) = true := beq_iff_eq.mpr h
      simp only [List.lookup, hb, if_pos h]
    · have hb : (g == f) = false := beq_eq_false_iff_ne.mpr h
      simp only [List.lookup, hb, if_neg h]
  | (k, x) :: r => by
    have ih := lookup_putF f g v r
    rw [show putF f v ((k, x) :: r) = (if k = f then (k, v) :: r else (k, x) :: putF f v r) from rfl]
    by_cases hk : k = f
    · rw [if_pos hk]
      by_cases h : g = k
      · have hb : (g == k) = true := beq_iff_eq.mpr h
        simp only [List.lookup, hb, if_pos (h.trans hk)]
      · have hb : (g == k) = false := beq_eq_false_iff_ne.mpr h
        simp only [List.lookup, hb, if_neg (fun e : g = f => h (e.trans hk.symm))]
    · rw [if_neg hk]
      by_cases h : g = k
      · have hb : (g == k) = true := beq_iff_eq.mpr h
        simp only [List.lookup, hb, if_neg (fun e : g = f => hk (h.symm.trans e))]
      · have hb : (g == k) = false := beq_eq_false_iff_ne.mpr h
        simp only [List.lookup, hb]
        exact ih
theorem keys_putF (f : Str) (v : V) : ∀ fs : List (Str × V), f ∈ (putF f v fs).map (·.1) ∧ ∀ g, g ∈ fs.map (·.1) → g ∈ (putF f v fs).map (·.1)
  | [] => ⟨by simp [putF], fun g h => by simp at h⟩
  | (k, x) :: r => by
    obtain ⟨i1, i2⟩ := keys_putF f v r
    rw [show putF f v ((k, x) :: r) = (if k = f then (k, v) :: r else (k, x) :: putF f v r) from rfl]
    by_cases hk : k = f
    · rw [if_pos hk]
      subst hk
      exact ⟨by simp, fun g h => by simpa using h⟩
    · rw [if_neg hk]
      refine ⟨?_, fun g h => ?_⟩
      · rw [List.map_cons]
        exact List.mem_cons_of_mem _ i1
      · rw [List.map_cons] at h ⊢
        rcases List.mem_cons.mp h with e | e
        · exact List.mem_cons.mpr (.inl e)
        · exact List.mem_cons_of_mem _ (i2 g e)
theorem length_putF (f : Str) (v : V) : ∀ fs : List (Str × V), (putF f v fs).length ≤ fs.length + 1
  | [] => by simp [putF]
  | (k, x) :: r => by
    have ih := length_putF f v r
    rw [show putF f v ((k, x) :: r) = (if k = f then (k, v) :: r else (k, x) :: putF f v r) from rfl]
    by_cases hk : k = f
    · rw [if_pos hk, List.length_cons, List.length_cons]; omega
    · rw [if_neg hk, List.length_cons, List.length_cons]; omega
theorem RelO.some_of {v : V} {o : Option Value} (r : RelO (some v) o) : ∃ u, o = some u ∧ RelV v u := by
  cases o with
  | none => exact (show False from r).elim
  | some u => exact ⟨u, rfl, r⟩
theorem RelO.none_of {o : Option Value} (r : RelO none o) : o = none := by
  cases o with
  | none => rfl
  | some u => exact (show False from r).elim
theorem handed_of {v : V} {u : Value} (r : RelV v u) : PySem.W.handedIn u = true := by
  cases v with
  | non => cases (show u = Value.none from r); rfl
  | bl b => cases (show u = Value.bool b from r); rfl
  | int i => obtain ⟨t, e⟩ := (show ∃ t, u = Value.int i t from r); cases e; rfl
  | str x => obtain ⟨t, e⟩ := (show ∃ t, u = Value.str x t from r); cases e; rfl
  | byt b => obtain ⟨t, e⟩ := (show ∃ t, u = Value.bytes b t from r); cases e; rfl
  | flt b => obtain ⟨t, e⟩ := (show ∃ t, u = Value.float b t from r); cases e; rfl
  | ref a => cases (show u = Value.ref a from r); rfl
  | ty n => cases (show u = Value.type n from r); rfl
section
variable {P : Program} {w : World} {H H' : Hp} {h h' : Heap} {a C dx : Addr} {fs fs' : List (Str × V)}
theorem ins_get (hok : HOk P w H h) (e : H a = some (.ins C dx fs)) : ∃ mA, ObjM h a dx C mA ∧ (∀ f, RelO (fs.lookup f) (mA f)) ∧ PySem.Within mA (fs.map (·.1)) ∧ fs.length ≤ 1000 ∧ H dx = some (.own a) := by
  obtain ⟨d, z, ne, ob, mA, n, r, q⟩ := (show ObjOk P w H h a (.ins C dx fs) from hok a _ e)
  exact ⟨mA, ⟨ob, n, ne⟩, r, q, z, d⟩
end
/-! ### what of the text a class must have -/
structure Cls (K : PySem.W.Frag) (C : Addr) : Prop where
  pg : PySem.W.plainGet K C Str.empty = true
  hd : PySem.W.hasDictIn K C = true
  po : PySem.W.plainOver K C = true
  sa : PySem.W.findIn K (.ref C) "__setattr__" = some (some (.builtin "object.__setattr__"))
theorem Cls.get {K : PySem.W.Frag} {C : Addr} (c : Cls K C) (f : Str) : PySem.W.plainGet K C f = true := c.pg
/-- no class of it has the name -/
def NoAttr (K : PySem.W.Frag) (C : Addr) (f : Str) : Prop := PySem.W.findIn K (.ref C) f = some none
theorem NoAttr.taker {K : PySem.W.Frag} {C : Addr} {f : Str} (n : NoAttr K C f) : PySem.W.takerIn K C f = some none := by
  unfold PySem.W.takerIn
  rw [show PySem.W.findIn K (.ref C) f = some none from n]
  rfl
/-- a constant of the class -/
structure Con (K : PySem.W.Frag) (C : Addr) (f : Str) (v : V) (u : Value) : Prop where
  at_ : PySem.W.findIn K (.ref C) f = some (some u)
  rel : RelV v u
  get : PySem.W.specialIn K u "__get__" = some none
  cp : PySem.W.copiedNames.contains f = false
/-- a method: a plain def of the class or of one above it -/
structure Meth (K : PySem.W.Frag) (C : Addr) (m : Str) (f : Addr) : Prop where
  at_ : PySem.W.findIn K (.ref C) m = some (some (.ref f))
  fn : PySem.W.isFn K (.ref f) = true
  kp : PySem.W.keepIn K (.ref f) = true
section
variable {X : Cx} {pins : List (Addr × Obj)} {σ : St} {H : Hp} {s : Shared} {a C dx : Addr} {fs : List (Str × V)} {f : Str} {v : V} {A : Around} {E : Value → Shared → Prop}
theorem getattr_ok {b : Bool} {Q : Value → Shared → Prop} (I : Inv X pins σ H s) (e : H a = some (.ins C dx fs)) (c : Cls X.K C) (n : NoAttr X.K C f) (l : fs.lookup f = some v)
    (h : ∀ u s', Inv X pins σ H s' → RelV v u → Q u s') : wpAny (model X.prog X.w) A (getAttr (.ref a) f b) Q E s := by
  obtain ⟨mA, O, r, _, _, _⟩ := ins_get I.hok e
  obtain ⟨u, hu, ru⟩ := RelO.some_of (v := v) (o := mA f) (by rw [← l]; exact r f)
  exact get_map I.kIn O (c.get f) c.hd n hu (handed_of ru) (h u _ (I.tok _) ru)
theorem getmeth_ok {m : Str} {g : Addr} {pl : Sem Bool} {Q : Value × List Value → Shared → Prop} (I : Inv X pins σ H s) (e : H a = some (.ins C dx fs)) (c : Cls X.K C) (k : Meth X.K C m g) (l : fs.lookup m = none)
    (h : Q (.ref g, [.ref a]) s) : wpAny (model X.prog X.w) A (getMethod (.ref a) m pl) Q E s := by
  obtain ⟨mA, O, r, _, _, _⟩ := ins_get I.hok e
  have hn : mA m = none := RelO.none_of (by rw [← l]; exact r m)
  exact get_meth I.kIn O (c.get m) k.at_ k.fn hn h
theorem setattr_ok {y : V} {u : Value} {Q : Unit → Shared → Prop} (I : Inv X pins σ H s) (e : H a = some (.ins C dx fs)) (c : Cls X.K C) (n : NoAttr X.K C f) (hl : fs.length < 1000) (ry : RelV y u)
    (h : ∀ s', Inv X pins σ (upd H a (.ins C dx (putF f y fs))) s' → Q () s') : wpAny (model X.prog X.w) A (setAttr (.ref a) f u) Q E s := by
  obtain ⟨mA, O, r, wi, _, ho⟩ := ins_get I.hok e
  have hz : (fs.map (·.1)).length ≤ sizeLine := by rw [List.length_map, sizeLine_eq]; omega
  refine set_map I.kIn O c.sa c.po n.taker c.hd wi hz fun h' O' sb => h _ ?_
  have hd : ∃ o, h'.get? dx = some o := let ⟨o, _, _, e', _⟩ := O'.ns; ⟨o, e'⟩
  refine I.write (x := a) (e := dx) (by rw [e]; exact True.intro) (.inr ho) (fun b q hb z => (sb.2 b hb).trans z) hd ?_
  refine ⟨by rw [upd_ne O.ne]; exact ho, ?_, O.ne, O'.obj, _, O'.ns, fun g => ?_, fun g hg => ?_⟩
  · have := length_putF f y fs; omega
  · show RelO ((putF f y fs).lookup g) (if g = f then some u else mA g)
    rw [lookup_putF]
    by_cases q : g = f
    · rw [if_pos q, if_pos q]; exact ry
    · rw [if_neg q, if_neg q]; exact r g
  · by_cases q : g = f
    · rw [q]; exact (keys_putF f y fs).1
    · refine (keys_putF f y fs).2 g (wi g fun z => hg ?_)
      show (if g = f then some u else mA g) = none
      rw [if_neg q]; exact z
/-- a new instance, tracked, without attributes -/
theorem Inv.made (I : Inv X pins σ H s) : Inv X pins σ (upd (upd H s.heap.objs.size (.own (s.heap.objs.size + 1))) (s.heap.objs.size + 1) (.ins C s.heap.objs.size []))
    { s with heap := (s.heap.push PySem.W.emptyDict).push (PySem.W.instObj C s.heap.objs.size) } := by
  have e1 : (s.heap.push PySem.W.emptyDict).get? s.heap.objs.size = some PySem.W.emptyDict := Heap.get?_push_size s.heap rfl
  have e2 : ((s.heap.push PySem.W.emptyDict).push (PySem.W.instObj C s.heap.objs.size)).get? (s.heap.objs.size + 1) = some (PySem.W.instObj C s.heap.objs.size) := by
    have := Heap.get?_push_size (s.heap.push PySem.W.emptyDict) (o := PySem.W.instObj C s.heap.objs.size) rfl
    rwa [Heap.size_push] at this
  have e3 : (s.heap.push PySem.W.emptyDict).Ns s.heap.objs.size (fun _ => none) := ⟨PySem.W.emptyDict, #[], _, e1, rfl, (fun e he => absurd he (by simp)), fun _ => rfl⟩
  have I1 := I.laid (a := s.heap.objs.size) (o := .own (s.heap.objs.size + 1)) (h' := s.heap.push PySem.W.emptyDict) (t' := s.toks) (fun b u q => Heap.get?_push_of_some _ q) (Nat.le_refl _) ⟨_, e1⟩
  refine I1.laid (a := s.heap.objs.size + 1) (o := .ins C s.heap.objs.size []) (t' := s.toks) (fun b u q => Heap.get?_push_of_some _ q) (Nat.le_of_eq (Heap.size_push _ _)) ?_
  have ne : s.heap.objs.size ≠ s.heap.objs.size + 1 := Nat.ne_of_lt (Nat.lt_succ_self _)
  refine ⟨by rw [upd_ne ne, upd_same], Nat.zero_le _, ne, e2, fun _ => none, (Heap.Ns1.of_empty e3).at fun o q => Heap.get?_push_of_some _ q, fun _ => True.intro, fun y hy => absurd rfl hy⟩
/-- e.f where nothing but the object is asked: through attributeBase (super) and the last hold -/
theorem attr_of {prog : Program} {w : World} {env : Env} {e : Expr} {f : Str} {pos : Pos} {s : Shared} {Q : Value → Shared → Prop} (hb : attributeBase e f env (eval e env) = eval e env)
    (h : wpAny (model prog w) A (eval e env) (fun o s₁ => wpAny (model prog w) A (getAttr o f true) Q E s₁) E s) : wpAny (model prog w) A (eval (.Attribute e f pos) env) Q E s :=
  Attribute_any_ h (by rw [arm_eval_Attribute, hb])
end
/-! ### readings and rules -/
/-- e.f, an attribute of the instance -/
def tFld (K : PySem.W.Frag) (ta : TE) (f : Str) : TE := fun σ H Q => ta σ H fun x H1 => ∃ a C dx fs v, x = .ref a ∧ H1 a = some (.ins C dx fs) ∧ Cls K C ∧ NoAttr K C f ∧ fs.lookup f = some v ∧ Q v H1
/-- e.f = value -/
def sFld (K : PySem.W.Frag) (ta tv : TE) (f : Str) : TS := fun D σ H => tv σ H fun y H1 => ta σ H1 fun x H2 => ∃ a C dx fs, x = .ref a ∧ H2 a = some (.ins C dx fs) ∧ Cls K C ∧ NoAttr K C f ∧ fs.length < 1000 ∧
  D.nx σ (upd H2 a (.ins C dx (putF f y fs)))
section
variable {X : Cx} {o e value : Expr} {f : Str} {pos pos' tpos : Pos} {ta tv : TE}
theorem pe_fld (he : PE X e ta) (hb : attributeBase e f X.env (eval e X.env) = eval e X.env) : PE X (.Attribute e f pos) (tFld X.K ta f) := by
  intro pins s σ H Q I h
  refine attr_of hb (thn (he pins s σ H _ I h) fun u s1 ⟨x, H1, I1, rx, a, C, dx, fs, v, ex, ea, c, n, l, q⟩ => ?_)
  subst ex
  obtain rfl : u = Value.ref a := rx
  exact getattr_ok I1 ea c n l fun u' s2 I2 ru => ⟨v, H1, I2, ru, q⟩
theorem ps_fld (ha : PE X o ta) (hv : PE X value tv) (hs : swapsWith value (some (.Attribute o f pos')) pos.line X.env = pure false) : PS X (.Assign [.Attribute o f pos'] value pos) (sFld X.K ta tv f) := by
  intro pins s σ H D I h
  refine plainObj_wpAny_Assign_Attribute (thn (hv pins s σ H _ I h) fun u s1 ⟨y, H1, I1, ry, q⟩ => thn (ha pins s1 σ H1 _ I1 q) fun ov s2 ⟨x, H2, I2, rx, a, C, dx, fs, ex, ea, c, n, l, q2⟩ => ?_) hs
  subst ex
  obtain rfl : ov = Value.ref a := rx
  exact setattr_ok I2 ea c n l ry fun s3 I3 => ⟨σ, _, I3, q2⟩
/-- what is between an instance and its method: the tree of a method call -/
theorem methcall_of {pl : Sem Bool} {m : Str} {apos : Pos} {args : List Expr} {pins : List (Addr × Obj)} {s : Shared} {σ : St} {H : Hp} {Q : Value → Shared → Prop} {te : TE} (he : PE X e te) (I : Inv X pins σ H s)
    (h : te σ H fun x H1 => ∃ a C dx fs g, x = .ref a ∧ H1 a = some (.ins C dx fs) ∧ Cls X.K C ∧ Meth X.K C m g ∧ fs.lookup m = none ∧
      ∀ s1, Inv X pins σ H1 s1 → wpAny (model X.prog X.w) X.A (callWith pos (.ref g) [.ref a] (backTo pos (starEach args X.env)) (backToKw pos (keywordEach [] X.env))) Q X.xe s1)
    (ht : eval (.Call (.Attribute e m apos) args [] pos) X.env = (do
      let ov ← eval e X.env
      standAt apos.atName
      let (f, first) ← holding [ov] (getMethod ov m pl)
      callWith pos f first (backTo pos (starEach args X.env)) (backToKw pos (keywordEach [] X.env)))) :
    wpAny (model X.prog X.w) X.A (eval (.Call (.Attribute e m apos) args [] pos) X.env) Q X.xe s := by
  refine PySem.W.methodCall_KW (pl := pl) (thn (he pins s σ H _ I h) fun u s1 ⟨x, H1, I1, rx, a, C, dx, fs, g, ex, ea, c, k, l, q⟩ => ?_) ht
  subst ex
  obtain rfl : u = Value.ref a := rx
  exact getmeth_ok I1 ea c k l (q s1 I1)
end
/-! ### isinstance -/
section
variable {X : Cx} {pins : List (Addr × Obj)} {σ : St} {H : Hp} {s : Shared} {A : Around} {E : Value → Shared → Prop} {Q : Value → Shared → Prop} {c : Value} {b : Bool}
/-- the type of a value, as the fragment's deciders take it; for an instance its class -/
inductive TyOf (K : PySem.W.Frag) (H : Hp) : V → Value → Prop where
  | non : TyOf K H .non (.type "NoneType")
  | bl (x : Bool) : TyOf K H (.bl x) (.type "bool")
  | int (i : Int) : TyOf K H (.int i) (.type "int")
  | str (x : Str) : TyOf K H (.str x) (.type "str")
  | flt (x : UInt64) : TyOf K H (.flt x) (.type "float")
  | lst {a : Addr} {xs : List V} (e : H a = some (.lst xs)) : TyOf K H (.ref a) (.type "list")
  | frz {a : Addr} {o : Obj} {xs : List V} (e : H a = some (.frz o (.lst xs))) : TyOf K H (.ref a) (.type "list")
  | tup {a : Addr} {xs : List V} (e : H a = some (.tup xs)) : TyOf K H (.ref a) (.type "tuple")
  | dK {a : Addr} {kvs : List (Key × V)} (e : H a = some (.dK kvs)) : TyOf K H (.ref a) (.type "dict")
  | dT {a : Addr} {kvs : List (List Key × V)} (e : H a = some (.dT kvs)) : TyOf K H (.ref a) (.type "dict")
  | ins {a C dx : Addr} {fs : List (Str × V)} (e : H a = some (.ins C dx fs)) (cl : Cls K C) (ha : PySem.W.findIn K (.ref C) "__class__" = some (some (.builtin "object.__class__")))
      (hn : PySem.W.specialIn K (.builtin "object.__class__") "__get__" = some (some (.builtin "getset_descriptor.__get__"))) (htk : PySem.W.takesIn K (.builtin "object.__class__") = some true)
      (hm : PySem.W.mroIn K C (.type "object") = some true) : TyOf K H (.ref a) (.ref C)
/-- isinstance(x, c) for one class c, a built-in or an own one: kitOne's answer -/
theorem isinst_ok {x : V} {u t : Value} (I : Inv X pins σ H s) (rx : RelV x u) (ty : TyOf X.K H x t) (e : PySem.W.kitOne X.K t c = some b) (h : ∀ tk, Q (.bool b) { s with toks := tk }) :
    wpAny (model X.prog X.w) A (call (.builtin "isinstance") [u, c]) Q E s := by
  cases ty with
  | non => cases (show u = Value.none from rx); exact PySem.W.kia_one PySem.W.kitx_none I.kIn True.intro e (fun z => nomatch z) h
  | bl y => cases (show u = Value.bool y from rx); exact PySem.W.kia_one PySem.W.kitx_bool I.kIn True.intro e (fun z => nomatch z) h
  | int i => obtain ⟨t, q⟩ := (show ∃ t, u = Value.int i t from rx); cases q; exact PySem.W.kia_one PySem.W.kitx_int I.kIn True.intro e (fun z => nomatch z) h
  | str y => obtain ⟨t, q⟩ := (show ∃ t, u = Value.str y t from rx); cases q; exact PySem.W.kia_one PySem.W.kitx_str I.kIn True.intro e (fun z => nomatch z) h
  | flt y => obtain ⟨t, q⟩ := (show ∃ t, u = Value.float y t from rx); cases q; exact PySem.W.kia_one PySem.W.kitx_float I.kIn True.intro e (fun z => nomatch z) h
  | @lst a xs ea =>
    cases (show u = Value.ref a from rx)
    obtain ⟨_, _, n, _, h1⟩ := (show ObjOk X.prog X.w H s.heap a (.lst xs) from I.hok a _ ea)
    exact PySem.W.kia_one PySem.W.kitx_list I.kIn ⟨_, h1, rfl⟩ e (fun z => nomatch z) h
  | @frz a ob xs ea =>
    cases (show u = Value.ref a from rx)
    obtain ⟨_, _, _, n, _, h1⟩ := (show ObjOk X.prog X.w H s.heap a (.frz ob (.lst xs)) from I.hok a _ ea)
    exact PySem.W.kia_one PySem.W.kitx_list I.kIn ⟨_, h1, rfl⟩ e (fun z => nomatch z) h
  | @tup a xs ea =>
    cases (show u = Value.ref a from rx)
    obtain ⟨_, _, _, p⟩ := (show ObjOk X.prog X.w H s.heap a (.tup xs) from I.hok a _ ea)
    obtain ⟨o, h1, h2, _⟩ := p
    exact PySem.W.kia_one PySem.W.kitx_tuple I.kIn ⟨o, h1, h2⟩ e (fun z => nomatch z) h
  | @dK a kvs ea =>
    cases (show u = Value.ref a from rx)
    obtain ⟨_, _, vs, _, p⟩ := (show ObjOk X.prog X.w H s.heap a (.dK kvs) from I.hok a _ ea)
    obtain ⟨o, es, ep, h1, h2, _⟩ := p
    exact PySem.W.kia_one PySem.W.kitx_dict I.kIn ⟨o, h1, h2.1⟩ e (fun z => nomatch z) h
  | @dT a kvs ea =>
    cases (show u = Value.ref a from rx)
    obtain ⟨_, _, xs, _, o, es, ep, h1, h2, _⟩ := (show ObjOk X.prog X.w H s.heap a (.dT kvs) from I.hok a _ ea)
    exact PySem.W.kia_one PySem.W.kitx_dict I.kIn ⟨o, h1, h2.1⟩ e (fun z => nomatch z) h
  | @ins a C dx fs ea cl ha hn htk hm =>
    cases (show u = Value.ref a from rx)
    obtain ⟨mA, O, _⟩ := ins_get I.hok ea
    obtain ⟨od, J, _⟩ := O.look
    exact PySem.W.kia_one (PySem.W.kitx_own (cl.get _) cl.hd ha hn htk hm) I.kIn J e (fun z => nomatch z) h
end
end L2
namespace L2
open PySem PySem.Spec PyProof.Rows
/-! ### room -/
structure Room (k : Nat) (A : Around) : Prop where
  hd : A.handled = none
  dp : A.depth + 3 * k + 5 < recursionLimit
  un : A.units + 16 * k + 200 < cLine
theorem Room.mono {j k : Nat} {A : Around} (r : Room k A) (h : j ≤ k) : Room j A := ⟨r.hd, by have := r.dp; omega, by have := r.un; omega⟩
theorem Room.deeper {k : Nat} {A : Around} (r : Room (k + 1) A) (env : Env) : Room k (A.deeper env) :=
  ⟨r.hd, by have := r.dp; show A.depth + 1 + 3 * k + 5 < _; omega, by have := r.un; show A.units + 3 + 16 * k + 200 < _; omega⟩
theorem make_depth {A : Around} {C : Addr} {us : List Value} {kw : List (Str × Value)} : (A.under (.builtin "type.__call__" ⟨.ref C :: us, kw⟩)).depth = A.depth + 1 := by
  first | rfl | simp [Around.under, Code.weight, Code.isCreation, Code.isGuard, Code.isCaller, Code.frames, Code.isFrame, guardIds]
theorem make_units {A : Around} {C : Addr} {us : List Value} {kw : List (Str × Value)} : (A.under (.builtin "type.__call__" ⟨.ref C :: us, kw⟩)).units = A.units + 1 := by
  first | rfl | simp [Around.under, Code.cUnits, Code.frames, Code.isFrame]
theorem Room.make {k : Nat} {A : Around} (r : Room (k + 1) A) (C : Addr) (us : List Value) (kw : List (Str × Value)) : Room k (A.under (.builtin "type.__call__" ⟨.ref C :: us, kw⟩)) :=
  ⟨r.hd, by have := r.dp; rw [make_depth]; omega, by have := r.un; rw [make_units]; omega⟩
theorem Room.depth {k : Nat} {A : Around} (r : Room k A) : A.depth < recursionLimit := by have := r.dp; omega
theorem Room.units {k : Nat} {A : Around} (r : Room k A) : A.units + 64 < cLine := by have := r.un; omega
theorem Room.units0 {k : Nat} {A : Around} (r : Room k A) : A.units < cLine := by have := r.un; omega
/-! ### argument lists and displays -/
def tNil : TA := fun _ H Q => Q [] H
def tCons (ta : TE) (tr : TA) : TA := fun σ H Q => ta σ H fun x H1 => tr σ H1 fun xs H2 => Q (x :: xs) H2
section
variable {X : Cx} {e : Expr} {es : List Expr} {te : TE} {t : TA} {pos : Pos}
theorem pa_nil : PA X [] tNil := fun _ _ _ _ H Q I h => Calls.spliced_nil ⟨[], H, I, .nil, h⟩
theorem pa_cons (ha : PE X e te) (hr : PA X es t) (hs : starEach (e :: es) X.env = (false, eval e X.env) :: starEach es X.env := by rfl) : PA X (e :: es) (tCons te t) := by
  intro pos pins s σ H Q I h
  rw [hs]
  show wpAny _ _ (spliced ((false, eval e X.env) :: backTo pos (starEach es X.env))) _ _ s
  refine Calls.spliced_cons (thn (ha pins s σ H _ I h) fun u s1 ⟨x, H1, I1, r1, q1⟩ => ?_)
  exact thn (hr pos pins s1 σ H1 _ I1 q1) fun us s2 ⟨xs, H2, I2, r2, q2⟩ => ⟨x :: xs, H2, I2, .cons r1 r2, q2⟩
/-- a tuple, a list of written items -/
def tTup (t : TA) : TE := fun σ H Q => t σ H fun xs H1 => xs.length ≤ sizeLine ∧ ∀ p, H1 p = none → Q (.ref p) (upd H1 p (.tup xs))
def tLst (t : TA) : TE := fun σ H Q => t σ H fun xs H1 => xs.length ≤ sizeLine ∧ ∀ p, H1 p = none → Q (.ref p) (upd H1 p (.lst xs))
theorem pe_tup {x1} (h : PA X es t) : PE X (.Tuple es x1 pos) (tTup t) := by
  intro pins s σ H Q I hq
  refine wpAny_Tuple_spliced (thn (h pos pins s σ H _ I hq) fun us s1 ⟨xs, H1, I1, r, z, q⟩ => ⟨by rw [← r.length]; exact z, ?_⟩)
  have hf : H1 s1.heap.objs.size = none := I1.hok.fresh (Nat.le_refl _)
  refine ⟨.ref s1.heap.objs.size, upd H1 s1.heap.objs.size (.tup xs), I1.laid (t' := s1.toks) (fun b u e => Heap.get?_push_of_some _ e) (Nat.le_refl _) ?_, rfl, q _ hf⟩
  exact ⟨z, us, r, ⟨_, Heap.get?_push_size _ rfl, rfl, _, rfl⟩⟩
theorem pe_lst (h : PA X es t) : PE X (.List es pos) (tLst t) := by
  intro pins s σ H Q I hq
  refine wpAny_List_spliced (thn (h pos pins s σ H _ I hq) fun us s1 ⟨xs, H1, I1, r, z, q⟩ => ⟨by rw [← r.length]; exact z, ?_⟩)
  have hf : H1 s1.heap.objs.size = none := I1.hok.fresh (Nat.le_refl _)
  refine ⟨.ref s1.heap.objs.size, upd H1 s1.heap.objs.size (.lst xs), I1.laid (t' := s1.toks) (fun b u e => Heap.get?_push_of_some _ e) (Nat.le_refl _) ?_, rfl, q _ hf⟩
  exact ⟨z, us, 0, r, Heap.get?_push_size _ rfl⟩
end
/-! ### what a def promises -/
/-- a def's promise: the bound arguments in the parameters' order, the heap, the wanted end, the wanted exception -/
abbrev Sp := List V → Hp → VK → XK → Prop
/-- how an exception lies behind a call (file 08 gives it): the callers' frames, abstract heap and state ahead of the call, the wish, the exception, the state -/
abbrev CXT := List Env → Hp → Shared → XK → Value → Shared → Prop
/-- the state at a call -/
structure Env0 (P : Program) (w : World) (K : PySem.W.Frag) (mg : Str → Option Value) (base : Heap) (A : Around) (outer : List Env) (s : Shared) (H : Hp) : Prop where
  frames : A.frames = some outer
  mod : Mod K mg base
  bs : ∀ b o, base.get? b = some o → s.heap.get? b = some o ∧ H b = none
  bsz : base.objs.size ≤ s.heap.objs.size
  funs : s.heap.FunFrames base outer
  frf : ∀ b ∈ frs outer, H b = none
  hok : HOk P w H s.heap
  bare : AllBare s.gens
/-- a call's end -/
def CE (outer : List Env) (P : Program) (w : World) (H : Hp) (s : Shared) (Q : VK) (u : Value) (s' : Shared) : Prop :=
  ∃ v H', s'.os = s.os ∧ AllBare s'.gens ∧ Un (frs outer) [] H H' s.heap s'.heap ∧ HOk P w H' s'.heap ∧ RelV v u ∧ Q v H'
def CR (CX : CXT) (outer : List Env) (P : Program) (w : World) (H : Hp) (s : Shared) (Q : VK) (E : XK) (r : Result) (s' : Shared) : Prop :=
  match r with
  | .ok (.ret u) => CE outer P w H s Q u s'
  | .ok _ => False
  | .error e => CX outer H s E e s'
structure FnOk (P : Program) (w : World) (K : PySem.W.Frag) (mg : Str → Option Value) (base : Heap) (CX : CXT) (k : Nat) (f : Addr) (fd : FuncData) (ps : List Str) (sp : Sp) : Prop where
  len : ∀ vs H Q E, sp vs H Q E → vs.length = ps.length
  run : ∀ (A : Around) (outer : List Env) (s : Shared) (H : Hp) (args : Args) (us : List Value) (vs : List V) (Q : VK) (E : XK), Room k A → Env0 P w K mg base A outer s H → BindsTo s fd args (ps.zip us) → Vals vs us → sp vs H Q E →
    codeAny (model P w) A (.call (.ref f) args) (CR CX outer P w H s Q E) s
theorem Env0.make {P : Program} {w : World} {K : PySem.W.Frag} {mg : Str → Option Value} {base : Heap} {A : Around} {outer : List Env} {s : Shared} {H : Hp} (e : Env0 P w K mg base A outer s H) (C : Addr) (us : List Value) (kw : List (Str × Value)) :
    Env0 P w K mg base (A.under (.builtin "type.__call__" ⟨.ref C :: us, kw⟩)) outer s H := ⟨by first | exact e.frames | (simpa [Around.under, Code.envs, Code.isFrame, pushEnvs] using e.frames), e.mod, e.bs, e.bsz, e.funs, e.frf, e.hok, e.bare⟩
section
variable {X : Cx} {pins : List (Addr × Obj)} {σ : St} {H : Hp} {s s' : Shared}
/-- from a body: what a callee wants -/
theorem Inv.env0 (I : Inv X pins σ H s) : Env0 X.prog X.w X.K X.mg X.base X.A X.stack s H :=
  ⟨I.ok.frames, I.ok.mod, I.bs, Nat.le_trans I.ok.bsz I.sz, I.stack, I.stkFree, I.hok, I.bare⟩
/-- behind a call -/
theorem Inv.after {Q : VK} {u : Value} (I : Inv X pins σ H s) (h : CE X.stack X.prog X.w H s Q u s') : EP X pins σ Q u s' := by
  obtain ⟨v, H', os, bare, un, hok, r, q⟩ := h
  obtain ⟨hh, g, d, t, os'⟩ := s'
  obtain rfl : os' = s.os := os
  exact ⟨v, H', I.call (h' := hh) (g' := g) (d' := d) (t' := t) (ch := []) un hok bare (fun b z => absurd z (by simp)), r, q⟩
end
/-! ### calls -/
/-- f(..): the written arguments, then the defaults dvs; E: what is wanted of an exception -/
def tCall (sp : Sp) (dvs : List V) (E : XK) (t : TA) : TE := fun σ H Q => t σ H fun vs H1 => sp (vs ++ dvs) H1 Q E
/-- o.m(..) of an instance of the class at C -/
def tMeth (C : Addr) (m : Str) (sp : Sp) (dvs : List V) (E : XK) (ta : TE) (t : TA) : TE := fun σ H Q => ta σ H fun x H1 => ∃ a dx fs, x = .ref a ∧ H1 a = some (.ins C dx fs) ∧ fs.lookup m = none ∧
  t σ H1 fun vs H2 => sp (x :: (vs ++ dvs)) H2 Q E
/-- C(..): a new instance and its dict, then __init__ -/
def tMake (C : Addr) (sp : Sp) (dvs : List V) (E : XK) (t : TA) : TE := fun σ H Q => t σ H fun vs H1 => ∀ x dx, H1 x = none → H1 dx = none → dx ≠ x →
  sp (.ref x :: (vs ++ dvs)) (upd (upd H1 dx (.own x)) x (.ins C dx [])) (fun v H2 => v = .non ∧ Q (.ref x) H2) E
/-- how the parameters are bound: us the positional arguments, kw the keywords' values by name, ds the defaults that fill up -/
def Binds (K : PySem.W.Frag) (fd : FuncData) (ps : List Str) (ds : List Value) : Prop :=
  ∀ (s : Shared) (us : List Value), K.In s.heap → (us ++ ds).length = ps.length → BindsTo s fd ⟨us, []⟩ (ps.zip (us ++ ds))
/-- every parameter is given -/
theorem Binds.all {K : PySem.W.Frag} {fd : FuncData} {ps : List Str} (h : ∀ us : List Value, us.length = ps.length → bindArgs fd ⟨us, []⟩ = pure (ps.zip us)) : Binds K fd ps [] := fun s us _ hl => by
  rw [List.append_nil] at hl ⊢
  exact .of_eq (h us hl)
/-- an exception of a callee reaches what this body wants of exceptions -/
def Passes (CX : CXT) (X : Cx) (E : XK) : Prop := ∀ (pins : List (Addr × Obj)) (σ : St) (H : Hp) (s : Shared) (e : Value) (s' : Shared), Inv X pins σ H s → CX X.stack H s E e s' → X.xe e s'
section
variable {X : Cx} {CX : CXT} {k : Nat} {f C : Addr} {fd : FuncData} {ps : List Str} {sp : Sp} {dvs : List V} {ds : List Value} {E : XK} {x m : Str} {p pos apos : Pos} {e o : Expr} {es : List Expr} {ta : TE} {t : TA}
/-- the callee runs -/
theorem run_fn {pins : List (Addr × Obj)} {σ : St} {H : Hp} {s : Shared} {Q : VK} {us : List Value} {vs : List V} (F : FnOk X.prog X.w X.K X.mg X.base CX k f fd ps sp) (hr : Room k X.A) (hb : Binds X.K fd ps ds) (hd : Vals dvs ds) (hx : Passes CX X E)
    (I : Inv X pins σ H s) (r : Vals vs us) (h : sp (vs ++ dvs) H Q E) : wpAny (model X.prog X.w) X.A (call (.ref f) us) (EP X pins σ Q) X.xe s := by
  have r2 : Vals (vs ++ dvs) (us ++ ds) := r.append hd
  have hl : (us ++ ds).length = ps.length := by rw [← r2.length]; exact F.len _ _ _ _ h
  refine wpAny_call (codeAny_mono (F.run X.A X.stack s H ⟨us, []⟩ (us ++ ds) (vs ++ dvs) Q E hr I.env0 (hb s us I.kIn hl) r2 h) fun r s' hq => ?_)
  cases r with
  | error e => exact hx pins σ H s e s' I hq
  | ok fl =>
    cases fl with
    | ret u => exact I.after hq
    | next => exact False.elim hq
    | brk => exact False.elim hq
    | cont => exact False.elim hq
theorem pe_call (F : FnOk X.prog X.w X.K X.mg X.base CX k f fd ps sp) (hr : Room k X.A) (hg : Gl X x) (hm : X.mg x = some (.ref f)) (hk : PySem.W.keepIn X.K (.ref f) = true) (hb : Binds X.K fd ps ds) (hd : Vals dvs ds) (hx : Passes CX X E)
    (ha : PA X (e :: es) t) (hdb : (x == ("__debug__" : Str)) = false := by decide) (he : starEach (e :: es) X.env = (false, eval e X.env) :: starEach es X.env := by rfl) (hpl : (backTo pos (starEach es X.env)).any (·.1) = false := by rfl) :
    PE X (.Call (.Name x p) (e :: es) [] pos) (tCall sp dvs E t) := by
  intro pins s σ H Q I h
  refine wpAny_Call_Name_kw (ld_glob I hg hm ?_ hdb)
  refine PySem.W.callWith_K (h₀ := X.base) I.ok.mod.kin hk (thn (ha pos pins s σ H _ I h) fun us s1 ⟨vs, H1, I1, r, q⟩ => ⟨I1.kIn, ?_⟩) he hpl
  exact run_fn F hr hb hd hx I1 r q
/-- o.m(e, ..) -/
theorem pe_meth {pl : Sem Bool} (he : PE X o ta) (c : Cls X.K C) (hm : Meth X.K C m f) (F : FnOk X.prog X.w X.K X.mg X.base CX k f fd ps sp) (hr : Room k X.A) (hb : Binds X.K fd ps ds) (hd : Vals dvs ds) (hx : Passes CX X E) (ha : PA X (e :: es) t)
    (hst : starEach (e :: es) X.env = (false, eval e X.env) :: starEach es X.env := by rfl) (hpl : (backTo pos (starEach es X.env)).any (·.1) = false := by rfl)
    (ht : eval (.Call (.Attribute o m apos) (e :: es) [] pos) X.env = (do
      let ov ← eval o X.env
      standAt apos.atName
      let (f, first) ← holding [ov] (getMethod ov m pl)
      callWith pos f first (backTo pos (starEach (e :: es) X.env)) (backToKw pos (keywordEach [] X.env))) := by rfl) :
    PE X (.Call (.Attribute o m apos) (e :: es) [] pos) (tMeth C m sp dvs E ta t) := by
  intro pins s σ H Q I h
  refine PySem.W.methodCall_KW (pl := pl) (thn (he pins s σ H _ I h) fun u s1 ⟨x, H1, I1, rx, a, dx, fs, ex, ea, l, q⟩ => ?_) ht
  subst ex
  obtain rfl : u = Value.ref a := rx
  refine getmeth_ok I1 ea c hm l ?_
  refine PySem.W.callWith_K (first := [.ref a]) (h₀ := X.base) I.ok.mod.kin hm.kp (thn (ha pos pins s1 σ H1 _ I1 q) fun us s2 ⟨vs, H2, I2, r, q2⟩ => ⟨I2.kIn, ?_⟩) hst hpl
  exact run_fn (us := .ref a :: us) (vs := .ref a :: vs) F hr hb hd hx I2 (.cons rfl r) q2
/-- o.m() -/
theorem pe_meth0 {pl : Sem Bool} (he : PE X o ta) (c : Cls X.K C) (hm : Meth X.K C m f) (F : FnOk X.prog X.w X.K X.mg X.base CX k f fd ps sp) (hr : Room k X.A) (hb : Binds X.K fd ps ds) (hd : Vals dvs ds) (hx : Passes CX X E)
    (ht : eval (.Call (.Attribute o m apos) [] [] pos) X.env = (do
      let ov ← eval o X.env
      standAt apos.atName
      let (f, first) ← holding [ov] (getMethod ov m pl)
      callWith pos f first (backTo pos (starEach [] X.env)) (backToKw pos (keywordEach [] X.env))) := by rfl) :
    PE X (.Call (.Attribute o m apos) [] [] pos) (tMeth C m sp dvs E ta tNil) := by
  intro pins s σ H Q I h
  refine PySem.W.methodCall_KW (pl := pl) (thn (he pins s σ H _ I h) fun u s1 ⟨x, H1, I1, rx, a, dx, fs, ex, ea, l, q⟩ => ?_) ht
  subst ex
  obtain rfl : u = Value.ref a := rx
  refine getmeth_ok I1 ea c hm l ?_
  exact PySem.W.callWith_K0 (first := [.ref a]) I1.kIn hm.kp (run_fn (us := [.ref a]) (vs := [.ref a]) F hr hb hd hx I1 (.cons rfl .nil) q)
/-- what a class must have to be made -/
structure Mk (K : PySem.W.Frag) (C f : Addr) : Prop where
  makes : PySem.W.makesIn K C = true
  init : PySem.W.findIn K (.ref C) "__init__" = some (some (.ref f))
  fn : PySem.W.isFn K (.ref f) = true
  kp : PySem.W.keepIn K (.ref C) = true
theorem run_make {pins : List (Addr × Obj)} {σ : St} {H : Hp} {s : Shared} {Q : VK} {us : List Value} {vs : List V} (M : Mk X.K C f) (F : FnOk X.prog X.w X.K X.mg X.base CX k f fd ps sp) (hr : Room (k + 1) X.A) (hb : Binds X.K fd ps ds) (hd : Vals dvs ds)
    (hx : Passes CX X E) (I : Inv X pins σ H s) (r : Vals vs us)
    (h : ∀ x dx, H x = none → H dx = none → dx ≠ x → sp (.ref x :: (vs ++ dvs)) (upd (upd H dx (.own x)) x (.ins C dx [])) (fun v H2 => v = .non ∧ Q (.ref x) H2) E) :
    wpAny (model X.prog X.w) X.A (call (.ref C) us) (EP X pins σ Q) X.xe s := by
  have hq := h (s.heap.objs.size + 1) s.heap.objs.size (I.hok.fresh (Nat.le_succ _)) (I.hok.fresh (Nat.le_refl _)) (Nat.ne_of_lt (Nat.lt_succ_self _))
  have I2 := Inv.made (C := C) I
  have r2 : Vals (V.ref (s.heap.objs.size + 1) :: (vs ++ dvs)) (Value.ref (s.heap.objs.size + 1) :: (us ++ ds)) := .cons rfl (r.append hd)
  have hl : (Value.ref (s.heap.objs.size + 1) :: us ++ ds).length = ps.length := by
    have e := r2.length
    rw [F.len _ _ _ _ hq] at e
    exact e.symm
  refine wpAny_call (make_map (f := f) I.kIn M.makes M.init (beq_iff_eq.mp M.fn) (codeAny_mono (F.run _ X.stack _ _ ⟨Value.ref (s.heap.objs.size + 1) :: us, []⟩ (Value.ref (s.heap.objs.size + 1) :: (us ++ ds)) _ _ E (hr.make C us [])
    (I2.env0.make C us []) (hb _ (Value.ref (s.heap.objs.size + 1) :: us) I2.kIn hl) r2 hq) fun r s' hq' => ?_))
  cases r with
  | error e => exact hx pins σ _ _ e s' I2 hq'
  | ok fl =>
    cases fl with
    | ret u =>
      obtain ⟨v, H', I3, rv, ev, q3⟩ := I2.after hq'
      subst ev
      exact ⟨rv, ⟨V.ref (s.heap.objs.size + 1), H', I3, rfl, q3⟩⟩
    | next => exact False.elim hq'
    | brk => exact False.elim hq'
    | cont => exact False.elim hq'
theorem pe_make (M : Mk X.K C f) (F : FnOk X.prog X.w X.K X.mg X.base CX k f fd ps sp) (hr : Room (k + 1) X.A) (hg : Gl X x) (hm : X.mg x = some (.ref C)) (hb : Binds X.K fd ps ds) (hd : Vals dvs ds) (hx : Passes CX X E)
    (ha : PA X (e :: es) t) (hdb : (x == ("__debug__" : Str)) = false := by decide) (he : starEach (e :: es) X.env = (false, eval e X.env) :: starEach es X.env := by rfl) (hpl : (backTo pos (starEach es X.env)).any (·.1) = false := by rfl) :
    PE X (.Call (.Name x p) (e :: es) [] pos) (tMake C sp dvs E t) := by
  intro pins s σ H Q I h
  refine wpAny_Call_Name_kw (ld_glob I hg hm ?_ hdb)
  refine PySem.W.callWith_K (h₀ := X.base) I.ok.mod.kin M.kp (thn (ha pos pins s σ H _ I h) fun us s1 ⟨vs, H1, I1, r, q⟩ => ⟨I1.kIn, ?_⟩) he hpl
  exact run_make M F hr hb hd hx I1 r q
theorem pe_make0 (M : Mk X.K C f) (F : FnOk X.prog X.w X.K X.mg X.base CX k f fd ps sp) (hr : Room (k + 1) X.A) (hg : Gl X x) (hm : X.mg x = some (.ref C)) (hb : Binds X.K fd ps ds) (hd : Vals dvs ds) (hx : Passes CX X E)
    (hdb : (x == ("__debug__" : Str)) = false := by decide) : PE X (.Call (.Name x p) [] [] pos) (tMake C sp dvs E tNil) := by
  intro pins s σ H Q I h
  refine wpAny_Call_Name_kw (ld_glob I hg hm ?_ hdb)
  exact PySem.W.callWith_K0 I.kIn M.kp (run_make (us := []) M F hr hb hd hx I .nil h)
end
/-! ### keywords -/
section
variable {X : Cx} {CX : CXT} {k : Nat} {f C : Addr} {fd : FuncData} {ps ks : List Str} {sp : Sp} {E : XK} {x m : Str} {p pos apos kpos : Pos} {e o : Expr} {es : List Expr} {kws : List Keyword} {te ta : TE} {t tk : TA} {nm : Option Str}
/-- how a call with keywords binds: g puts the positional values us and the keywords' values ws (names ks) in the parameters' order, defaults among them -/
structure KBinds (K : PySem.W.Frag) (fd : FuncData) (ps ks : List Str) (g : List Value → List Value → List Value) (gV : List V → List V → List V) : Prop where
  to : ∀ (s : Shared) (us ws : List Value), K.In s.heap → (g us ws).length = ps.length → BindsTo s fd ⟨us, ks.zip ws⟩ (ps.zip (g us ws))
  rel : ∀ {vs : List V} {us : List Value} {zs : List V} {ws : List Value}, Vals vs us → Vals zs ws → Vals (gV vs zs) (g us ws)
variable {g : List Value → List Value → List Value} {gV : List V → List V → List V}
end
/-! ### a def's body keeps its promise -/
/-- names: the parameters first -/
structure FnScope (N P : List Str) (sc : Scope) : Prop where
  kind : sc.kind = .function
  co : sc.isCoroutine = false
  gen : sc.isGenerator = false
  nd : N.Nodup
  pre : N.take P.length = P
  par : ∀ x ∈ P, sc.names.lookup x = some .local ∨ sc.names.lookup x = some .cell
  nofree : ∀ y ∈ sc.names, y.2 ≠ .free
theorem bindL_out {kindOf : Str → Option NameKind} {x : Str} : ∀ {binds : List (Str × Value)} {m : Str → Option Value}, (∀ v, (x, v) ∉ binds) → bindL kindOf binds m x = m x
  | [], _, _ => rfl
  | (n, v) :: r, m, h => by
    unfold bindL
    rw [bindL_out fun w hw => h w (List.mem_cons_of_mem _ hw)]
    split
    · have : x ≠ n := by rintro rfl; exact h v List.mem_cons_self
      simp [this]
    · rfl
theorem bindC_out {kindOf : Str → Option NameKind} {x : Str} : ∀ {binds : List (Str × Value)} {m : Str → Option Value}, (∀ v, (x, v) ∉ binds) → bindC kindOf binds m x = m x
  | [], _, _ => rfl
  | (n, v) :: r, m, h => by
    unfold bindC
    rw [bindC_out fun w hw => h w (List.mem_cons_of_mem _ hw)]
    split
    · rfl
    · have : x ≠ n := by rintro rfl; exact h v List.mem_cons_self
      simp [this]
theorem bindL_get {kindOf : Str → Option NameKind} {x : Str} {v : Value} : ∀ {P : List Str} {vs : List Value} {i : Nat} {m : Str → Option Value}, P.Nodup → P[i]? = some x → vs[i]? = some v → kindOf x = some .local →
    bindL kindOf (P.zip vs) m x = some v
  | [], _, _, _, _, h, _, _ => by simp at h
  | _ :: _, [], _, _, _, _, h, _ => by simp at h
  | p :: P, w :: vs, 0, m, nd, h1, h2, hk => by
    simp at h1 h2; subst h1; subst h2
    show bindL kindOf ((p, w) :: P.zip vs) m p = _
    unfold bindL
    rw [bindL_out fun v hv => (List.nodup_cons.mp nd).1 (List.of_mem_zip hv).1, if_pos hk]
    simp
  | p :: P, w :: vs, i + 1, m, nd, h1, h2, hk => by
    show bindL kindOf ((p, w) :: P.zip vs) m x = _
    unfold bindL
    exact bindL_get (i := i) (List.nodup_cons.mp nd).2 (by simpa using h1) (by simpa using h2) hk
theorem bindC_get {kindOf : Str → Option NameKind} {x : Str} {v : Value} : ∀ {P : List Str} {vs : List Value} {i : Nat} {m : Str → Option Value}, P.Nodup → P[i]? = some x → vs[i]? = some v → kindOf x ≠ some .local →
    bindC kindOf (P.zip vs) m x = some v
  | [], _, _, _, _, h, _, _ => by simp at h
  | _ :: _, [], _, _, _, _, h, _ => by simp at h
  | p :: P, w :: vs, 0, m, nd, h1, h2, hk => by
    simp at h1 h2; subst h1; subst h2
    show bindC kindOf ((p, w) :: P.zip vs) m p = _
    unfold bindC
    rw [bindC_out fun v hv => (List.nodup_cons.mp nd).1 (List.of_mem_zip hv).1, if_neg hk]
    simp
  | p :: P, w :: vs, i + 1, m, nd, h1, h2, hk => by
    show bindC kindOf ((p, w) :: P.zip vs) m x = _
    unfold bindC
    exact bindC_get (i := i) (List.nodup_cons.mp nd).2 (by simpa using h1) (by simpa using h2) hk
/-- the names' values at the entry -/
def start (N : List Str) (vs : List V) : St := vs.map some ++ List.replicate (N.length - vs.length) none
/-- the context of a def's body, at its entry; an exception leaves the frame, then lies as CX says -/
def cxOf (CX : CXT) (P : Program) (w : World) (K : PySem.W.Frag) (mg : Str → Option Value) (base : Heap) (N : List Str) (qual : Str) (scope : Scope) (f : Addr) (cd : Value) (A : Around) (outer : List Env) (s : Shared) (H : Hp) (E : XK) : Cx where
  prog := P
  w := w
  K := K
  mg := mg
  base := base
  A := A.deeper (envOfC qual scope s.heap.objs.size f cd)
  N := N
  s_0 := s
  H_0 := H
  env := envOfC qual scope s.heap.objs.size f cd
  outer := outer
  stack := envOfC qual scope s.heap.objs.size f cd :: outer
  ex := []
  calm := true
  fn := fun _ => true
  pn := []
  xe := fun e s' => wpAny (model P w) (A.deeper (envOfC qual scope s.heap.objs.size f cd)) (leaving (envOfC qual scope s.heap.objs.size f cd) e) (fun _ s'' => CX outer H s E e s'') (fun e' s'' => CX outer H s E e' s'') s'
theorem cell_has {sc : Scope} {n : Nat} {x : Str} (h : sc.names.lookup x = some .cell) : ∃ c, (cellsFrom n sc.names []).lookup x = some c := by
  have q := PySem.W.cellsFrom_some sc.names n [] (.inl h)
  exact Option.isSome_iff_exists.mp q
theorem inv_start {CX : CXT} {P : Program} {w : World} {K : PySem.W.Frag} {mg : Str → Option Value} {base : Heap} {N ps : List Str} {qual : Str} {scope : Scope} {f : Addr} {cd : Value} {A : Around} {outer : List Env} {s s1 : Shared} {H : Hp} {E : XK} {us : List Value} {vs : List V}
    (S : FnScope N ps scope) (hd : A.handled = none) (e0 : Env0 P w K mg base A outer s H) (hl : vs.length = ps.length) (r : Vals vs us)
    (x : InCallC s s.heap.objs.size (bindL (envOfC qual scope s.heap.objs.size f cd).kindOf (ps.zip us) fun _ => none) (cellsFrom (s.heap.objs.size + 1) scope.names []) (bindC (envOfC qual scope s.heap.objs.size f cd).kindOf (ps.zip us) fun _ => none) s1) :
    Inv (cxOf CX P w K mg base N qual scope f cd A outer s H E) [] (start N vs) H s1 := by
  have hpl : ps.length ≤ N.length := by have := congrArg List.length S.pre; rw [List.length_take] at this; omega
  obtain ⟨h1, tk, rfl, hk⟩ := x.done
  have noA : ∀ b : Addr, b ∉ (cxOf CX P w K mg base N qual scope f cd A outer s H E).ex := fun b z => absurd (show b ∈ ([] : List Addr) from z) (by simp)
  refine ⟨⟨e0.mod, S.kind, rfl, rfl, Nat.le_refl _, fun y z c h1 h2 => ?_, fun y hy => ?_, fun y c _ h => ?_, fun _ => hd, Around.frames_deeper e0.frames, .inr ⟨rfl, rfl⟩, fun b z => absurd z (noA b), e0.bs, e0.bsz, fun b _ _ => noA b, fun b z => absurd z (noA b), e0.funs, e0.frf⟩,
    rfl, e0.bare, Un.kept hk, ⟨_, x.toInCall.ns, fun i y v h1 h2 h3 => ?_⟩, fun y c h => ⟨_, x.cell y c h⟩, e0.hok.fresh (Nat.le_refl _), fun y c h => ?_, fun p hp => absurd (show p ∈ ([] : List (Addr × Obj)) from hp) (by simp), e0.hok.kept hk, ?_⟩
  · exact name_of_addr x.apart (PySem.mem_of_lookup h1) (PySem.mem_of_lookup h2)
  · have hy : scope.names.lookup y = some .cell ∨ scope.names.lookup y = some .free := hy
    rcases hy with hy | hy
    · exact cell_has hy
    · exact absurd rfl (S.nofree _ (PySem.mem_of_lookup hy))
  · exact Nat.le_of_lt (x.above y c (PySem.mem_of_lookup h))
  · have hi : i < vs.length := by
      unfold start at h2
      by_cases hi : i < vs.length
      · exact hi
      · rw [List.getElem?_append_right (by simpa using hi)] at h2
        rw [List.getElem?_replicate] at h2
        split at h2 <;> cases h2
    have ha : vs[i]? = some v := by
      unfold start at h2
      rw [List.getElem?_append_left (by simpa using hi), List.getElem?_map] at h2
      cases e : vs[i]? with
      | none => rw [e] at h2; cases h2
      | some a => rw [e] at h2; cases h2; rfl
    obtain ⟨u, hu, rv⟩ := r.get ha
    have hp : ps[i]? = some y := by
      rw [← S.pre, List.getElem?_take_of_lt (by omega)]; exact h1
    have ndP : ps.Nodup := by rw [← S.pre]; exact S.nd.sublist (List.take_sublist _ _)
    refine ⟨u, rv, ?_⟩
    rcases S.par y (List.mem_of_getElem? hp) with k | k
    · exact .inl ⟨k, bindL_get ndP hp hu k⟩
    · obtain ⟨c, e⟩ := cell_has (n := s.heap.objs.size + 1) k
      refine .inr ⟨.inl k, c, e, ?_⟩
      have q := x.cell y c e
      rw [bindC_get ndP hp hu (by show scope.names.lookup y ≠ _; rw [k]; decide)] at q
      exact q
  · exact e0.hok.fresh (Nat.le_of_lt (x.above y c (PySem.mem_of_lookup h)))
  · unfold start
    show _ = N.length
    rw [List.length_append, List.length_map, List.length_replicate]
    omega
/-- THE RULE: a def (or a method) of the text, by its body. The body's reading t is chosen for each entry; it is run at the parameters' values -/
theorem fn_of {CX : CXT} {P : Program} {w : World} {K : PySem.W.Frag} {mg : Str → Option Value} {base : Heap} {k : Nat} {f : Addr} {name qual : Str} {params : Arguments} {body : List Stmt} {scope : Scope} {dV kV doc pm cdv ct oc : Value} {an od : Option Addr}
    {osl : Array (Option Value)} {N ps : List Str} {sp : Sp} (lk : K.lookup f = some ⟨oc, od, .func (PySem.W.fnOf name qual params body scope dV kV doc pm an cdv ct), osl⟩) (hcd : PySem.W.codeIn K cdv qual = true) (S : FnScope N ps scope)
    (len : ∀ vs H Q E, sp vs H Q E → vs.length = ps.length)
    (hbody : ∀ (A : Around) (outer : List Env) (s : Shared) (H : Hp) (vs : List V) (Q : VK) (E : XK), Room k (A.deeper (envOfC qual scope s.heap.objs.size f cdv)) → sp vs H Q E →
      ∃ t, PSs (cxOf CX P w K mg base N qual scope f cdv A outer s H E) body t ∧ t { nx := fun _ H' => Q .non H', rt := Q } (start N vs) H) :
    FnOk P w K mg base CX (k + 1) f (PySem.W.fnOf name qual params body scope dV kV doc pm an cdv ct) ps sp := by
  refine ⟨len, fun A outer s H args us vs Q E hr e0 hb r hsp => ?_⟩
  have hl := len _ _ _ _ hsp
  have KX : K.In s.heap := e0.mod.kin.keeps fun b o e => (e0.bs b o e).1
  have lim : s.heap.NoLimit := e0.mod.nolimit.keeps fun b o e => (e0.bs b o e).1
  have hkind : ∀ y ∈ ps.zip us, scope.names.lookup y.1 = some .local ∨ (scope.names.lookup y.1 = some .cell ∧ ((cellsFrom (s.heap.objs.size + 1) scope.names []).lookup y.1).isSome = true) := fun ⟨n, v⟩ hy => by
    rcases S.par n (List.of_mem_zip hy).1 with q | q
    · exact .inl q
    · exact .inr ⟨q, PySem.W.cellsFrom_some _ _ _ (.inl q)⟩
  refine codeAny_call_function hr.depth (KX _ _ lk) rfl S.co S.gen rfl (PySem.W.codeRec_of KX hcd) (hb _ _ _ _ ?_)
  refine wpAny_newFunctionEnv_cells S.kind hkind fun env he s1 x => ?_
  subst he
  refine ⟨lim.keeps x.toInCall.keep, codeAny_func ?_⟩
  obtain ⟨t, ht, hq⟩ := hbody A outer s H vs Q E (hr.deeper _) hsp
  have I : Inv (cxOf CX P w K mg base N qual scope f cdv A outer s H E) [] (start N vs) H s1 := inv_start S hr.hd e0 hl r x
  refine wpAny_mono (ht [] s1 (start N vs) H _ I hq) (fun fl s' hs => ?_) fun e s' hs => hs
  have fin : ∀ {σ' : St} {H' : Hp} {v : V} {u : Value}, Inv (cxOf CX P w K mg base N qual scope f cdv A outer s H E) [] σ' H' s' → RelV v u → Q v H' → CE outer P w H s Q u s' :=
    fun {σ' H' v u} J rv q => ⟨v, H', J.os, J.bare, J.base, J.hok, rv, q⟩
  cases fl with
  | ret u =>
    obtain ⟨v, σ', H', J, rv, q⟩ := hs
    exact fin J rv q
  | next =>
    obtain ⟨σ', H', J, q⟩ := hs
    exact fin (v := V.non) (u := Value.none) J rfl q
  | brk =>
    obtain ⟨_, _, _, q⟩ := hs
    exact False.elim q
  | cont =>
    obtain ⟨_, _, _, q⟩ := hs
    exact False.elim q
end L2
namespace L2
open PySem PySem.Spec PyProof.Rows
section
variable {X : Cx} {x : Str} {p pos : Pos} {e : Expr} {es : List Expr} {t : TA} {id T : String} {r : List V → Hp → VK → Prop}
def tCB (r : List V → Hp → VK → Prop) (t : TA) : TE := fun σ H Q => t σ H fun vs H1 => r vs H1 Q
/-- f(e, ..), f a built-in function -/
theorem pe_callB (hc : CallR X (.builtin id) r) (hg : Gl X x) (hm : X.mg x = none) (hv : bootBuiltins x = some (.builtin id)) (ha : PA X (e :: es) t) (hn : x ≠ "__name__" := by decide) (hdb : (x == ("__debug__" : Str)) = false := by decide)
    (he : starEach (e :: es) X.env = (false, eval e X.env) :: starEach es X.env := by rfl) (hpl : (backTo pos (starEach es X.env)).any (·.1) = false := by rfl) : PE X (.Call (.Name x p) (e :: es) [] pos) (tCB r t) := by
  intro pins s σ H Q I h
  refine wpAny_Call_Name_kw (ld_blt I hg hm hv ?_ hn hdb)
  exact PyProof.Rows.callWith_builtin1 (thn (ha pos pins s σ H _ I h) fun us s1 ⟨vs, H1, I1, r1, q1⟩ => hc pins s1 σ H1 vs us Q I1 r1 q1) he hpl
end
end L2
namespace HT
open PySem PyProof.Rows
/-- t < u of tuples of ints -/
def lexLt : List Int → List Int → Bool
  | [], [] => false
  | [], _ :: _ => true
  | _ :: _, [] => false
  | x :: xs, y :: ys => if x = y then lexLt xs ys else decide (x < y)
theorem lexLt_cons (x y : Int) (xs ys : List Int) : lexLt (x :: xs) (y :: ys) = if x = y then lexLt xs ys else decide (x < y) := rfl
theorem lexLt_nil_nil : lexLt [] [] = false := rfl
theorem lexLt_nil_cons (y : Int) (ys : List Int) : lexLt [] (y :: ys) = true := rfl
theorem lexLt_cons_nil (x : Int) (xs : List Int) : lexLt (x :: xs) [] = false := rfl
theorem eqAt_int (A : Around) (s : Shared) (a : Int) (t : Tok) (c : Int) (u : Tok) : ∃ e, SeqAt.EqAt A s (.int a t) (.int c u) e ∧ (e = true ↔ a = c) :=
  ⟨(a == c), SeqAt.EqAt.int_int a t c u, by simp⟩
theorem rcLt_int (A : Around) (s : Shared) (a : Int) (t : Tok) (c : Int) (u : Tok) (prog : Program) (w : World) (E : Value → Shared → Prop) (Q : Value → Shared → Prop) (h : Q (.bool (decide (a < c))) s) :
    wpAny (model prog w) A (richCompare .Lt (.int a t) (.int c u)) Q E s :=
  (PyProof.Rows.lt_int h : wpAny (model prog w) A (compareOp .Lt (.int a t) (.int c u)) Q E s)
section
open PySem.SeqAt
open PySem.AutoSeq1 (wpAny_loadPart')
open PySem.MeetsSeq PySem.MeetsSeq2 PySem.MeetsSeq3
theorem tuple_lt_ints (l b : Addr) (items items2 : Array Value) (n n2 : Nat) (dd dd2 : Option Addr) (sl sl2 : Array (Option Value)) (ns ms : List Int) (hi : IntsAre items.toList ns) (hj : IntsAre items2.toList ms) :
    Meets (Builtin.«tuple.__lt__» ⟨[.ref l, .ref b], []⟩)
      (fun _ R s => s.heap.get? l = some { cls := .type "tuple", dict := dd, data := .seq items n, slots := sl } ∧ s.heap.get? b = some { cls := .type "tuple", dict := dd2, data := .seq items2 n2, slots := sl2 } ∧
        R (.ok (.ret (.bool (lexLt ns ms)))) s) :=
  .of_wp fun prog w A R s h => by
    obtain ⟨hp, g, d, tk, os⟩ := s; obtain ⟨hl, hb, h⟩ := h
    have f2 := AutoSeq1.sub_tuple_tuple
    have z1 : items.size = ns.length := by rw [← hi.length]; simp
    have z2 : items2.size = ms.length := by rw [← hj.length]; simp
    wp_walk using wpAny_loadPart' hl, wpAny_loadPart' hb, wpAny_forIn_list _ (fun rest b s' => b.1 = none ∧ s' = ⟨hp, g, d, tk, os⟩ ∧ ∃ (vs ws : List Value) (ns' ms' : List Int), rest = vs.zip ws ∧
      IntsAre vs ns' ∧ IntsAre ws ms' ∧ ns'.length + items2.size = ms'.length + items.size ∧ R (.ok (.ret (.bool (lexLt ns' ms')))) ⟨hp, g, d, tk, os⟩) _
    case turn =>
      rintro ⟨y, x⟩ rest b s' ⟨hb', rfl, vs, ws, ns', ms', hz, hvi, hwi, hlen, hR⟩
      cases hvi with
      | nil => rw [List.zip_nil_left] at hz; cases hz
      | cons a t hvi' =>
        cases hwi with
        | nil => rw [List.zip_nil_right] at hz; cases hz
        | cons c u hwi' =>
          rw [List.zip_cons_cons] at hz
          injection hz with hyx hrest
          injection hyx with hy hx
          subst hy hx
          rw [lexLt_cons] at hR
          simp only [List.length_cons] at hlen
          obtain ⟨e, he, hiff⟩ := eqAt_int A.in1 ⟨hp, g, d, tk, os⟩ a t c u
          refine wpAny_bind (he prog w _ _ ?_)
          cases e with
          | true =>
            rw [if_pos (hiff.mp rfl)] at hR
            wp_walk
            exact ⟨rfl, rfl, _, _, _, _, hrest, hvi', hwi', by omega, hR⟩
          | false =>
            rw [if_neg (fun q => absurd (hiff.mpr q) Bool.false_ne_true)] at hR
            have hri := rcLt_int A.in1 ⟨hp, g, d, tk, os⟩ a t c u prog w
            wp_walk using hri
            exact ⟨_, rfl, by simpa using hR⟩
    case fin =>
      rintro ⟨b1, b2⟩ s' ⟨hb', rfl, vs, ws, ns', ms', hz, hvi, hwi, hlen, hR⟩
      simp only at hb'
      subst hb'
      have hv : lexLt ns' ms' = decide (items.size < items2.size) := by
        cases hvi with
        | nil =>
          cases hwi with
          | nil =>
            simp only [List.length_nil] at hlen
            rw [lexLt_nil_nil]
            exact (decide_eq_false (by omega)).symm
          | cons c u hw =>
            simp only [List.length_nil, List.length_cons] at hlen
            rw [lexLt_nil_cons]
            exact (decide_eq_true (by omega)).symm
        | cons a t hv =>
          cases hwi with
          | nil =>
            simp only [List.length_nil, List.length_cons] at hlen
            rw [lexLt_cons_nil]
            exact (decide_eq_false (by omega)).symm
          | cons c u hw =>
            rw [List.zip_cons_cons] at hz
            cases hz
      rw [hv] at hR
      wp_walk
      exact ⟨_, rfl, by simpa [Builtin.Tuple.tupleCompareSizes] using hR⟩
    case h =>
      exact ⟨rfl, rfl, items.toList, items2.toList, ns, ms, rfl, hi, hj, by omega, h⟩
end
section
variable {prog : Program} {w : World} {A : Around} {E : Value → Shared → Prop} {s : Shared}
theorem lt_tupInts {l b : Addr} {items items2 : Array Value} {ns ms : List Int} {Q : Value → Shared → Prop} (hl : IsTup s.heap l items) (hb : IsTup s.heap b items2) (hi : IntsAre items.toList ns) (hj : IntsAre items2.toList ms)
    (hu : A.units < cLine) (h : Q (.bool (lexLt ns ms)) s) : wpAny (model prog w) A (compareOp .Lt (.ref l) (.ref b)) Q E s := by
  obtain ⟨⟨cls, dd, data, sl⟩, ho, hc, n, hd⟩ := id hl
  obtain ⟨⟨cls2, dd2, data2, sl2⟩, ho2, hc2, n2, hd2⟩ := id hb
  simp only at hc hd hc2 hd2
  subst hc hd hc2 hd2
  exact richCompare_meets_room (op := .Lt) ⟨_, ho, rfl⟩ ⟨_, ho2, rfl⟩ PySem.F.slot_tuple_lt PySem.F.entry_tuple_lt (PySem.F.args_tuple_lt_2 _ _) (tuple_lt_ints l b items items2 n n2 dd dd2 sl sl2 ns ms hi hj)
    ⟨ho, ho2, show Value.bool (lexLt ns ms) ≠ Value.notImplemented ∧ Q (.bool (lexLt ns ms)) s from ⟨(fun x => nomatch x), h⟩⟩ hu
/-! ### t[a:b], not the whole -/
/-- a slice's bound as a place among n (d where it is left out) -/
def sIx (n d : Nat) : Option Int → Nat
  | none => d
  | some v => if v < 0 then (v + (n : Int)).toNat else min v.toNat n
theorem sIx_nat (n d k : Nat) : sIx n d (some (k : Int)) = min k n := by
  show (if (k : Int) < 0 then ((k : Int) + (n : Int)).toNat else min (k : Int).toNat n) = min k n
  rw [if_neg (by omega), Int.toNat_natCast]
end
end HT
namespace L2
open PySem PySem.Spec PyProof.Rows
/-! ### the parts of a slice -/
abbrev TO := St → Hp → (Option Int → Hp → Prop) → Prop
/-- a slice's part (left out, or an int) -/
def PO (X : Cx) (e : Option Expr) (t : TO) : Prop :=
  ∀ (pins : List (Addr × Obj)) (s : Shared) (σ : St) (H : Hp) (Q : Option Int → Hp → Prop), Inv X pins σ H s → t σ H Q →
    wpAny (model X.prog X.w) X.A (evalPart e X.env) (fun u s' => ∃ o H', Inv X pins σ H' s' ∧ IsPart u o ∧ Q o H') X.xe s
def tNoPart : TO := fun _ H Q => Q none H
def tPart (t : TE) : TO := fun σ H Q => t σ H fun x H1 => ∃ i, x = .int i ∧ Q (some i) H1
theorem intsAre_of {ns : List Int} : ∀ {us : List Value}, Vals (ns.map V.int) us → IntsAre us ns := by
  induction ns with
  | nil => intro us r; rw [List.map_nil] at r; cases r; exact .nil
  | cons n ns ih =>
    intro us r
    rw [List.map_cons] at r
    cases r with
    | cons r1 r2 =>
      obtain ⟨t, e⟩ := r1
      subst e
      exact .cons n t (ih r2)
section
variable {X : Cx} {e : Expr} {te : TE} {lo hi : Option Expr} {tl th : TO} {pos p2 : Pos}
theorem po_none : PO X none tNoPart := by
  intro pins s σ H Q I h
  rw [evalPart_none]
  exact wpAny_pure ⟨none, H, I, .none, h⟩
theorem po_some (h : PE X e te) : PO X (some e) (tPart te) := by
  intro pins s σ H Q I hw
  rw [evalPart_some]
  refine thn (h pins s σ H _ I hw) fun u s1 ⟨x, H1, I1, r1, q1⟩ => ?_
  obtain ⟨i, rfl, q⟩ := q1
  obtain ⟨t, rfl⟩ := r1
  exact ⟨some i, H1, I1, .int i t, q⟩
/-- what a slice of a value is, by values: the slice object stands at sl -/
def SlR (X : Cx) (r : V → Option Int → Option Int → Hp → VK → Prop) : Prop :=
  ∀ (pins : List (Addr × Obj)) (s : Shared) (σ : St) (H : Hp) (x : V) (v vl vu : Value) (lo hi : Option Int) (sl : Addr) (Q : VK), Inv X pins σ H s → RelV x v → s.heap.IsSliceOf sl vl vu .none → IsPart vl lo → IsPart vu hi → r x lo hi H Q →
    ∃ T id, typeLookup (.type T) "__getitem__" = pure (some (.builtin id)) ∧ s.TypeIs v T ∧ wpAny (model X.prog X.w) X.A (getItem v (.ref sl)) (EP X pins σ Q) X.xe s
def tSl (r : V → Option Int → Option Int → Hp → VK → Prop) (te : TE) (tl th : TO) : TE := fun σ H Q => te σ H fun x H1 => tl σ H1 fun l H2 => th σ H2 fun u H3 => r x l u H3 Q
/-- a[lo:hi], any a -/
theorem pe_slice {r : V → Option Int → Option Int → Hp → VK → Prop} (hr : SlR X r) (he : PE X e te) (hl : PO X lo tl) (hu : PO X hi th) : PE X (.Subscript e (.Slice lo hi none p2) pos) (tSl r te tl th) := by
  intro pins s σ H Q I h
  refine Subscript_ (thn (he pins s σ H _ I h) fun v s1 ⟨x, H1, I1, r1, q1⟩ => ?_)
  refine wpAny_Slice (thn (hl pins s1 σ H1 _ I1 q1) fun vl s2 ⟨l, H2, I2, pl, q2⟩ => thn (hu pins s2 σ H2 _ I2 q2) fun vu s3 ⟨u, H3, I3, pu, q3⟩ => ?_)
  rw [evalPart_none]
  refine wpAny_pure ?_
  have I4 : Inv X pins σ H3 { s3 with heap := s3.heap.push { cls := .type "slice", data := .fields #[vl, vu, .none] } } := I3.kept (t' := s3.toks) fun b ob q => Heap.get?_push_of_some _ q
  obtain ⟨T, id, hT, ht, hg⟩ := hr pins { s3 with heap := s3.heap.push { cls := .type "slice", data := .fields #[vl, vu, .none] } } σ H3 x v vl vu l u s3.heap.objs.size Q I4 r1 (Heap.IsSliceOf.new ..) pl pu q3
  show wpAny (model X.prog X.w) X.A (subscriptTail e (.Slice lo hi none p2) v (.ref s3.heap.objs.size)) (EP X pins σ Q) X.xe { s3 with heap := s3.heap.push { cls := .type "slice", data := .fields #[vl, vu, .none] } }
  exact tail_any (ops := [.ref s3.heap.objs.size, v]) ht hT hg (by with_unfolding_all rfl)
/-- the items of xs[lo:hi] -/
def cutV (xs : List V) (lo hi : Option Int) : List V := (xs.drop (HT.sIx xs.length 0 lo)).take (HT.sIx xs.length xs.length hi - HT.sIx xs.length 0 lo)
theorem cutV_length (xs : List V) (lo hi : Option Int) : (cutV xs lo hi).length ≤ xs.length := by
  unfold cutV
  rw [List.length_take, List.length_drop]
  omega
/-! ### t < u, t + u -/
def rLtT (K : PySem.W.Frag) : R2 := fun x y H Q => ∃ a b ns ms, x = .ref a ∧ y = .ref b ∧ SqT K H a (ns.map V.int) ∧ SqT K H b (ms.map V.int) ∧ Q (.bl (HT.lexLt ns ms)) H
theorem op_ltT (hu : X.A.units < cLine) : OpR X (compareOp .Lt) (rLtT X.K) := by
  intro pins s σ H x y v u Q I rx ry h
  obtain ⟨a, b, ns, ms, rfl, rfl, ha, hb, q⟩ := h
  cases rx
  cases ry
  obtain ⟨its, r1, p1, _⟩ := I.tuple ha
  obtain ⟨its2, r2, p2, _⟩ := I.tuple hb
  have i1 : IntsAre its.toArray.toList ns := intsAre_of r1
  have i2 : IntsAre its2.toArray.toList ms := intsAre_of r2
  exact HT.lt_tupInts p1 p2 i1 i2 hu ⟨.bl (HT.lexLt ns ms), H, I, rfl, q⟩
end
end L2
namespace L2
open PySem PySem.Spec PyProof.Rows
/-! ### places -/
/-- the place that an index of any sign means -/
def ixN (n : Nat) (i : Int) : Option Nat := if 0 ≤ i then (if i < n then some i.toNat else none) else if -(n : Int) ≤ i then some (i + n).toNat else none
def atI {α : Type} (xs : List α) (i : Int) : Option α := (ixN xs.length i).bind fun j => xs[j]?
theorem ixN_seq {n : Nat} {i : Int} {j : Nat} (h : ixN n i = some j) : seqIndex? i n = some j ∧ j < n ∧ -(n : Int) ≤ i ∧ i < n := by
  unfold ixN at h
  by_cases h0 : 0 ≤ i
  · rw [if_pos h0] at h
    by_cases h1 : i < n
    · rw [if_pos h1] at h
      have e : i.toNat = j := Option.some.inj h
      exact ⟨by rw [seqIndex_of h0 h1, e], by omega, by omega, h1⟩
    · rw [if_neg h1] at h; cases h
  · rw [if_neg h0] at h
    by_cases h1 : -(n : Int) ≤ i
    · rw [if_pos h1] at h
      have e : (i + n).toNat = j := Option.some.inj h
      exact ⟨by rw [seqIndex_neg (by omega) h1, e], by omega, h1, by omega⟩
    · rw [if_neg h1] at h; cases h
theorem atI_get {α : Type} {xs : List α} {i : Int} {v : α} (h : atI xs i = some v) : ∃ j, seqIndex? i xs.length = some j ∧ xs[j]? = some v ∧ j < xs.length ∧ -(xs.length : Int) ≤ i ∧ i < xs.length := by
  unfold atI at h
  cases e : ixN xs.length i with
  | none => rw [e] at h; cases h
  | some j =>
    rw [e] at h
    obtain ⟨h1, h2, h3, h4⟩ := ixN_seq e
    exact ⟨j, h1, h, h2, h3, h4⟩
theorem atI_nat {α : Type} {xs : List α} {j : Nat} {v : α} (h : xs[j]? = some v) : atI xs (j : Int) = some v := by
  have hj : j < xs.length := (List.getElem?_eq_some_iff.mp h).1
  have e : ixN xs.length (j : Int) = some j := by
    unfold ixN
    rw [if_pos (by omega), if_pos (by omega)]; simp
  unfold atI; rw [e]; exact h
/-! ### what may be subscripted -/
/-- what stands as an index of a plain subscript -/
def PlainIx (b : Expr) : Prop := ∀ o i, subscripted b false o i = operate [o, i] (getItem o i)
/-- a subscript by values -/
def IxR (X : Cx) (r : R2) : Prop :=
  ∀ (value slice : Expr) (pins : List (Addr × Obj)) (s : Shared) (σ : St) (H : Hp) (x y : V) (v u : Value) (Q : VK), Inv X pins σ H s → RelV x v → RelV y u → r x y H Q →
    subscripted slice false v u = operate [v, u] (getItem v u) → wpAny (model X.prog X.w) X.A (subscriptTail value slice v u) (EP X pins σ Q) X.xe s
/-- a call of a builtin's method by values: the receiver, the arguments -/
def MtR (X : Cx) (id : String) (r : V → List V → Hp → VK → Prop) : Prop :=
  ∀ (pins : List (Addr × Obj)) (s : Shared) (σ : St) (H : Hp) (x : V) (xs : List V) (v : Value) (us : List Value) (Q : VK), Inv X pins σ H s → RelV x v → Vals xs us → r x xs H Q →
    wpAny (model X.prog X.w) X.A (call (.builtin id) (v :: us)) (EP X pins σ Q) X.xe s
section
variable {X : Cx} {a b : Expr} {ta tb : TE} {pos : Pos}
/-- a[b] -/
theorem pe_ix {r : R2} (hr : IxR X r) (ha : PE X a ta) (hb : PE X b tb) (hs : PlainIx b) : PE X (.Subscript a b pos) (tOp r ta tb) := by
  intro pins s σ H Q I h
  exact Subscript_ (binT ha hb I h fun v u s2 x y H2 I2 rx ry q => hr a b pins s2 σ H2 x y v u Q I2 rx ry q (hs _ _))
def rIxL (K : PySem.W.Frag) : R2 := fun x y H Q => ∃ p xs i v, x = .ref p ∧ y = .int i ∧ SqL K H p xs ∧ atI xs i = some v ∧ Q v H
def rIxT (K : PySem.W.Frag) : R2 := fun x y H Q => ∃ p xs i v, x = .ref p ∧ y = .int i ∧ SqT K H p xs ∧ atI xs i = some v ∧ Q v H
theorem ix_list : IxR X (rIxL X.K) := by
  intro value slice pins s σ H x y v u Q I rx ry h hs
  obtain ⟨p, xs, i, z, rfl, rfl, hq, he, q⟩ := h
  cases rx
  obtain ⟨t, rfl⟩ := ry
  obtain ⟨its, r, pl, hz⟩ := I.list hq
  obtain ⟨j, h1, h2, h3, h4, h5⟩ := atI_get he
  obtain ⟨w, ew, rw'⟩ := r.get h2
  have hl := r.length
  have hn := line63
  have fin : EP X pins σ Q w s := ⟨z, H, I, rw', q⟩
  by_cases h0 : 0 ≤ i
  · have hj : i.toNat = j := by
      rw [seqIndex_of h0 h5] at h1
      exact Option.some.inj h1
    exact item_listR pl.isList h0 (by omega) (by rw [hj]; simpa using ew) fin hs
  · have hj : (i + (its.toArray.size : Int)).toNat = j := by
      rw [seqIndex_neg (by omega) h4] at h1
      rw [List.size_toArray, ← hl]
      exact Option.some.inj h1
    exact subscriptTail_builtinR (x := w) pl.isList.typeIs slot_list_getitem.lookup
      (wpAny_getItem_list_neg (Q := fun r s' => r = w ∧ EP X pins σ Q r s') pl.isList (by omega) (by rw [List.size_toArray] <;> omega) (by omega) (by rw [hj]; simpa using ew) ⟨rfl, fin⟩) hs
theorem ix_tup : IxR X (rIxT X.K) := by
  intro value slice pins s σ H x y v u Q I rx ry h hs
  obtain ⟨p, xs, i, z, rfl, rfl, hq, he, q⟩ := h
  cases rx
  obtain ⟨t, rfl⟩ := ry
  obtain ⟨its, r, pl, hz⟩ := I.tuple hq
  obtain ⟨j, h1, h2, h3, h4, h5⟩ := atI_get he
  obtain ⟨w, ew, rw'⟩ := r.get h2
  have hl := r.length
  have hn := line63
  have fin : EP X pins σ Q w s := ⟨z, H, I, rw', q⟩
  exact subscriptTail_builtinR (x := w) pl.typeIs slot_tuple_getitem.lookup
    (getItem_tuple (j := j) (Q := fun r s' => r = w ∧ EP X pins σ Q r s') pl (by omega) (by omega) (by rw [List.size_toArray, ← hl]; exact h1) (by simpa using ew) ⟨rfl, fin⟩) hs
/-! ### xs[i] = v, any sign -/
/-! ### slices -/
theorem slice_bounds (lo hi : Option Int) (n : Nat) : (sliceBounds lo hi none n).1 = ((HT.sIx n 0 lo : Nat) : Int) ∧ (sliceBounds lo hi none n).2.1 = ((HT.sIx n n hi : Nat) : Int) ∧ (sliceBounds lo hi none n).2.2 = 1 := by
  refine ⟨?_, ?_, rfl⟩
  · cases lo with
    | none => simp [sliceBounds, HT.sIx]
    | some i =>
      simp only [sliceBounds, HT.sIx, Option.getD_none, show (1 : Int) > 0 by decide, if_true]
      by_cases h : i < 0
      · simp only [h, if_true] <;> omega
      · simp only [h, if_false] <;> omega
  · cases hi with
    | none => simp [sliceBounds, HT.sIx]
    | some i =>
      simp only [sliceBounds, HT.sIx, Option.getD_none, show (1 : Int) > 0 by decide, if_true]
      by_cases h : i < 0
      · simp only [h, if_true] <;> omega
      · simp only [h, if_false] <;> omega
theorem slicePick_cut (its : List Value) (lo hi : Option Int) : slicePick its.toArray lo hi none = ((its.drop (HT.sIx its.length 0 lo)).take (HT.sIx its.length its.length hi - HT.sIx its.length 0 lo)).toArray := by
  obtain ⟨h1, h2, h3⟩ := slice_bounds lo hi its.toArray.size
  unfold slicePick
  rw [h1, h2, h3]
  simp only [sliceRange_one, pick_run, List.size_toArray] <;> rfl
/-- xs[lo:hi] of a list: a new list -/
def rSlL (K : PySem.W.Frag) : V → Option Int → Option Int → Hp → VK → Prop := fun x lo hi H Q => ∃ a xs, x = .ref a ∧ SqL K H a xs ∧ ∀ p, H p = none → Q (.ref p) (upd H p (.lst (cutV xs lo hi)))
theorem sl_list : SlR X (rSlL X.K) := by
  intro pins s σ H x v vl vu lo hi sl Q I rx hs pl pu h
  obtain ⟨a, xs, rfl, hx, q⟩ := h
  cases rx
  obtain ⟨its, r, ht, hz⟩ := I.list hx
  have hlen := r.length
  refine ⟨"list", _, slot_list_getitem.lookup, ht.isList.typeIs, ?_⟩
  refine wpAny_getItem_list_slice ht.isList hs pl pu .none (by simp) ?_ (by rw [List.size_toArray] <;> omega)
  rw [slicePick_cut, ← hlen]
  refine ⟨.ref s.heap.objs.size, _, I.laid (t' := s.toks) (o := .lst (cutV xs lo hi)) (fun b ob q => Heap.get?_push_of_some _ q) (Nat.le_refl _) ?_, rfl, q _ (I.hok.fresh (Nat.le_refl _))⟩
  exact ⟨Nat.le_trans (cutV_length xs lo hi) hz, _, 0, (r.drop (HT.sIx xs.length 0 lo)).take (HT.sIx xs.length xs.length hi - HT.sIx xs.length 0 lo), Heap.get?_push_size _ rfl⟩
/-! ### in, not in: flat items -/
/-! ### len, list(x), tuple(x) of any list or tuple that is read -/
theorem call_len_seq : CallR X (.builtin "len") (fun xs H Q => ∃ p ys, xs = [.ref p] ∧ (SqL X.K H p ys ∨ SqT X.K H p ys) ∧ Q (.int ys.length) H) := by
  intro pins s σ H xs us Q I r h
  obtain ⟨p, ys, rfl, hq, q⟩ := h
  obtain ⟨u, rfl, rx⟩ := vals1 r
  cases rx
  have hn := line63
  rcases hq with hq | hq
  · obtain ⟨its, r', pl, hz⟩ := I.list hq
    have hlen := r'.length
    exact Calls.call_len_list pl.isList (by simp only [List.size_toArray] <;> omega) ⟨.int ys.length, H, I.tok _, ⟨s.toks + 1, by rw [List.size_toArray, hlen]⟩, q⟩
  · obtain ⟨its, r', pl, hz⟩ := I.tuple hq
    have hlen := r'.length
    exact len_tuple pl (by simp only [List.size_toArray] <;> omega) ⟨.int ys.length, H, I.tok _, ⟨s.toks + 1, by rw [List.size_toArray, hlen]⟩, q⟩
/-! ### the call of a builtin's method: o.m(..) -/
/-- the value is of that builtin type -/
def tyV (K : PySem.W.Frag) (T : String) (x : V) (H : Hp) : Prop := match x with
  | .str _ => T = "str"
  | .int _ => T = "int"
  | .ref p => (T = "list" ∧ ∃ xs, SqL K H p xs) ∨ (T = "tuple" ∧ ∃ o, K.lookup p = some o ∧ o.cls = .type "tuple" ∧ o.dict = none) ∨
      (T = "dict" ∧ ((∃ kvs, H p = some (.dK kvs)) ∨ ∃ kvs, H p = some (.dT kvs))) ∨ (T = "set" ∧ ∃ S n, H p = some (.set S n))
  | _ => False
theorem tyV_is {pins : List (Addr × Obj)} {σ : St} {H : Hp} {s : Shared} {T : String} {x : V} {v : Value} (I : Inv X pins σ H s) (r : RelV x v) (ty : tyV X.K T x H) :
    s.TypeIs v T ∧ ∀ a, v = .ref a → ∃ ob, s.heap.get? a = some ob ∧ ob.dict = none := by
  cases x with
  | str z =>
    obtain ⟨t, rfl⟩ := r
    cases (show T = "str" from ty)
    exact ⟨typeIs_str s z t, fun _ e => nomatch e⟩
  | int i =>
    obtain ⟨t, rfl⟩ := r
    cases (show T = "int" from ty)
    exact ⟨typeIs_int s i t, fun _ e => nomatch e⟩
  | ref p =>
    cases r
    rcases ty with ⟨rfl, xs, hq⟩ | ⟨rfl, o, hk, hc, hd⟩ | ⟨rfl, hk⟩ | ⟨rfl, S, n, hk⟩
    · obtain ⟨its, _, pl, _⟩ := I.list hq
      refine ⟨pl.isList.typeIs, fun a e => ?_⟩
      cases e
      obtain ⟨o, n, e, c, hd, _⟩ := pl
      exact ⟨o, e, hd⟩
    · refine ⟨⟨o, I.kIn p o hk, hc⟩, fun a e => ?_⟩
      cases e
      exact ⟨o, I.kIn _ o hk, hd⟩
    · have z : ∃ o, s.heap.get? p = some o ∧ o.ExactDict := by
        rcases hk with ⟨kvs, hk⟩ | ⟨kvs, hk⟩
        · obtain ⟨_, _, _, _, o, _, _, e, ex, _⟩ := I.hok p _ hk
          exact ⟨o, e, ex⟩
        · obtain ⟨_, _, _, _, o, _, _, e, ex, _⟩ := I.hok p _ hk
          exact ⟨o, e, ex⟩
      obtain ⟨o, e, ex⟩ := z
      refine ⟨⟨o, e, ex.1⟩, fun a e2 => ?_⟩
      cases e2
      exact ⟨o, e, ex.2.1⟩
    · obtain ⟨o, _, _, _, e, ex, _⟩ := I.hok p _ hk
      refine ⟨⟨o, e, ex.1⟩, fun a e2 => ?_⟩
      cases e2
      exact ⟨o, e, ex.2.1⟩
  | _ => exact False.elim ty
def tBM (K : PySem.W.Frag) (T : String) (r : V → List V → Hp → VK → Prop) (to : TE) (t : TA) : TE := fun σ H Q => to σ H fun x H1 => tyV K T x H1 ∧ t σ H1 fun xs H2 => r x xs H2 Q
variable {o e : Expr} {es : List Expr} {to : TE} {t : TA} {name : Str} {apos cpos : Pos} {T id : String} {r : V → List V → Hp → VK → Prop}
theorem pe_bm (pa : PlainAttrs T) (slot : Slot T name id) (hty : typeOf (.builtin id) = pure (.type "method_descriptor")) (hm : MtR X id r) (ho : PE X o to) (ha : PA X (e :: es) t)
    (hbase : attributeBase o name X.env (eval o X.env) = eval o X.env := by rfl)
    (hfew : ((backTo cpos (starEach (e :: es) X.env)).all (fun x => !x.1) && (backToKw cpos (keywordEach [] X.env)).all (fun x => x.1.isSome)
      && decide ((e :: es).length + ([] : List Keyword).length + (if ([] : List Keyword).isEmpty then 0 else 1) < 30)) = true := by rfl)
    (hline : (apos.endLine == cpos.line) = true := by rfl) (hs : starEach (e :: es) X.env = (false, eval e X.env) :: starEach es X.env := by rfl) (hplain : (backTo cpos (starEach es X.env)).any (·.1) = false := by rfl) :
    PE X (.Call (.Attribute o name apos) (e :: es) [] cpos) (tBM X.K T r to t) := by
  intro pins s σ H Q I h
  refine wpAny_Call_method_late hbase hfew hline rfl (thn (ho pins s σ H _ I h) fun v s1 ⟨x, H1, I1, r1, ty, q1⟩ => ?_)
  obtain ⟨h1, h2⟩ := tyV_is I1 r1 ty
  refine ⟨T, id, pa, slot, hty, h1, h2, ?_⟩
  have hA := ha cpos pins s1 σ H1 _ I1 q1
  rw [hs] at hA ⊢
  refine Calls.callWith_builtin (by show (false || (backTo cpos (starEach es X.env)).any (·.1)) = false; rw [hplain] <;> rfl) (Calls.evalArgs_plain ?_)
  exact thn hA fun us s2 ⟨vs, H2, I2, r2, q2⟩ => hm pins s2 σ H2 x vs v us Q I2 r1 r2 q2
/- xs.append(e), list.index on a module's tuple .. are MtR facts of 06m -/
end
end L2
namespace L2
open PySem PySem.Spec PyProof.Rows
def MtM (X : Cx) (id : String) (r : V → List V → Hp → VK → Prop) : Prop :=
  ∀ (pins : List (Addr × Obj)) (s : Shared) (σ : St) (H : Hp) (x : V) (xs : List V) (v : Value) (us : List Value) (Q : VK), Inv X pins σ H s → RelV x v → Vals xs us → r x xs H Q →
    wpAny (model X.prog X.w) X.A (call (.builtin id) (v :: us)) (EP X pins σ Q) X.xe s
/-! ### lists of values -/
theorem Vals.one : ∀ {x : V} {us : List Value}, Vals [x] us → ∃ u, us = [u] ∧ RelV x u
  | _, _, .cons r .nil => ⟨_, rfl, r⟩
theorem Vals.two : ∀ {x y : V} {us : List Value}, Vals [x, y] us → ∃ u v, us = [u, v] ∧ RelV x u ∧ RelV y v
  | _, _, _, .cons r (.cons q .nil) => ⟨_, _, rfl, r, q⟩
theorem Vals.eraseIdx : ∀ {xs : List V} {us : List Value} (i : Nat), Vals xs us → Vals (xs.eraseIdx i) (us.eraseIdx i)
  | _, _, _, .nil => .nil
  | _, _, 0, .cons _ t => t
  | _, _, i + 1, .cons r t => .cons r (Vals.eraseIdx i t)
theorem len_erase {α : Type} : ∀ (l : List α) (i : Nat), (l.eraseIdx i).length ≤ l.length
  | [], _ => Nat.le_refl _
  | _ :: _, 0 => Nat.le_succ _
  | _ :: r, i + 1 => Nat.succ_le_succ (len_erase r i)
section
variable {X : Cx} {pins : List (Addr × Obj)} {σ : St} {H : Hp} {s : Shared} {l b : Addr} {xs ys zs : List V}
/-! ### the two steps: a tracked list is rewritten, a new list is laid -/
theorem Inv.lset {its its' : List Value} {n : Nat} {f : Array Value → Array Value} {t' : Nat} (I : Inv X pins σ H s) (hH : H l = some (.lst xs))
    (e : s.heap.get? l = some { cls := .type "list", data := .seq its.toArray n }) (hf : f its.toArray = its'.toArray) (hv : Vals ys its') (hz : ys.length ≤ sizeLine) :
    Inv X pins σ (upd H l (.lst ys)) { s with heap := s.heap.update l (Obj.mapSeq f), toks := t' } := by
  have q := PySem.IsL.update e f
  rw [hf] at q
  refine I.write (x := l) (e := l) (by rw [hH]; exact trivial) (.inl rfl) (fun b' u hb hu => (Heap.get?_update_other s.heap (Obj.mapSeq f) (Ne.symm hb)).trans hu) ⟨_, q⟩ ?_
  exact ⟨hz, its', _, hv, q⟩
theorem Inv.lstM (I : Inv X pins σ H s) (hH : H l = some (.lst xs)) : xs.length ≤ sizeLine ∧ ∃ (its : List Value) (n : Nat), Vals xs its ∧ xs.length = its.length ∧ s.heap.get? l = some { cls := .type "list", data := .seq its.toArray n } := by
  obtain ⟨z, its, n, r, e⟩ := I.hok l _ hH
  exact ⟨z, its, n, r, r.length, e⟩
theorem notLongL {n : Nat} (h : n ≤ sizeLine) : Builtin.List.listTooLong n = false := by
  unfold Builtin.List.listTooLong
  exact decide_eq_false (by omega)
end
section
variable {X : Cx}
/-! ### methods -/
def rAppend : V → List V → Hp → VK → Prop := fun x vs H Q => ∃ l xs y, x = .ref l ∧ vs = [y] ∧ H l = some (.lst xs) ∧ xs.length < sizeLine ∧ Q .non (upd H l (.lst (xs ++ [y])))
theorem mt_append : MtM X "list.append" rAppend := by
  intro pins s σ H x vs v us Q I rx rv h
  obtain ⟨l, xs, y, rfl, rfl, hH, hz, q⟩ := h
  cases rx
  obtain ⟨u, rfl, ru⟩ := rv.one
  obtain ⟨z, its, n, r, hl, e⟩ := I.lstM hH
  refine call_meets F.slot_list_append ⟨_, e, rfl⟩ F.entry_list_append (F.args_list_append_2 _ _) (PySem.list_append l its.toArray n u (by rw [List.size_toArray]; omega)) ⟨e, ?_⟩
  refine ⟨.non, _, I.lset (its' := its ++ [u]) hH e (by simp) (r.append (.cons ru .nil)) ?_, rfl, q⟩
  rw [List.length_append, List.length_singleton]
  omega
def rExtend : V → List V → Hp → VK → Prop := fun x vs H Q => ∃ l b xs zs, x = .ref l ∧ vs = [.ref b] ∧ H l = some (.lst xs) ∧ H b = some (.lst zs) ∧ xs.length + zs.length ≤ sizeLine ∧ Q .non (upd H l (.lst (xs ++ zs)))
theorem mt_extend : MtM X "list.extend" rExtend := by
  intro pins s σ H x vs v us Q I rx rv h
  obtain ⟨l, b, xs, zs, rfl, rfl, hH, hB, hz, q⟩ := h
  cases rx
  obtain ⟨u, rfl, ru⟩ := rv.one
  cases ru
  obtain ⟨z, its, n, r, hl, e⟩ := I.lstM hH
  obtain ⟨z2, its2, n2, r2, hl2, e2⟩ := I.lstM hB
  have hsz : its.toArray.size + its2.toArray.size ≤ sizeLine := by rw [List.size_toArray, List.size_toArray]; omega
  have hlong : ¬ (!its.toArray.isEmpty && Builtin.List.listTooLong (its.toArray.size + its2.toArray.size)) = true := by
    rw [notLongL hsz, Bool.and_false]
    exact Bool.false_ne_true
  refine call_meets F.slot_list_extend ⟨_, e, rfl⟩ F.entry_list_extend (F.args_list_extend_2 _ _)
    (AutoSeq1.list_extend_list_list_0 l its.toArray n b its2.toArray n2 hlong (by rw [List.size_toArray]; omega) (by omega)) ⟨e, e2, ?_⟩
  refine ⟨.non, _, I.lset (its' := its ++ its2) hH e (by simp) (r.append r2) ?_, rfl, q⟩
  rw [List.length_append]
  omega
def rPopAt : V → List V → Hp → VK → Prop := fun x vs H Q => ∃ l xs i k y, x = .ref l ∧ vs = [.int i] ∧ H l = some (.lst xs) ∧ -(2 ^ 63) ≤ i ∧ i < 2 ^ 63 ∧ seqIndex? i xs.length = some k ∧ xs[k]? = some y ∧ Q y (upd H l (.lst (xs.eraseIdx k)))
theorem mt_popAt : MtM X "list.pop" rPopAt := by
  intro pins s σ H x vs v us Q I rx rv h
  obtain ⟨l, xs, i, k, y, rfl, rfl, hH, h1, h2, hk, hy, q⟩ := h
  cases rx
  obtain ⟨u, rfl, ru⟩ := rv.one
  obtain ⟨t, rfl⟩ := ru
  obtain ⟨z, its, n, r, hl, e⟩ := I.lstM hH
  obtain ⟨w, hw, rw'⟩ := r.get hy
  refine call_meets F.slot_list_pop ⟨_, e, rfl⟩ F.entry_list_pop (F.args_list_pop_2 _ _)
    (MeetsSeq.list_pop_at l its.toArray n i t k w (fitsIndex_both h1 h2) (by rw [List.size_toArray, ← hl]; exact hk) (by rw [← Array.getElem?_toList]; exact hw) (by rw [List.size_toArray]; omega)) ⟨e, ?_⟩
  refine ⟨y, _, I.lset (its' := its.eraseIdx k) hH e ?_ (r.eraseIdx k) ?_, rw', q⟩
  · show its.toArray.eraseIdxIfInBounds k = (its.eraseIdx k).toArray
    rw [List.eraseIdxIfInBounds_toArray]
  · have := len_erase xs k
    omega
/-! ### list + list, list += list, list * int -/
/-! ### del xs[i] -/
end
/-! ### xs[a:b] = ys -/
section
variable {prog : Program} {w : World} {A : Around} {E : Value → Shared → Prop} {s : Shared}
set_option maxRecDepth 100000 in
end
section
variable {X : Cx}
end
end L2
namespace L2
open PySem PySem.Spec PyProof.Rows
/-! ### the library's walks over a list of ints, kept objects alone -/
section
variable {prog : Program} {w : World} {A : Around} {E : Value → Shared → Prop} {s : Shared} {l : Addr} {its : List Value} {ns : List Int} {Q : Value → Shared → Prop}
end
/-! ### the calls, by values (CallR of 03t; MtR of 06l) -/
section
variable {X : Cx}
/-! sorted, sort (fewer than 64 items: the library's own bound) -/
end
/-! ### list.index, flat items -/
section
variable {X : Cx}
end
/-! ### type(x) of an own instance; is, is not of a module's class -/
section
variable {X : Cx}
end
/-! ### any(xs), all(xs) of a list of bools -/
section
variable {X : Cx}
end
/-! ### == and != of data at any depth: none, bools, ints, texts, lists, tuples -/
mutual
inductive Dp (K : PySem.W.Frag) (H : Hp) : V → PyData → Prop
  | non : Dp K H .non .none
  | bl (b : Bool) : Dp K H (.bl b) (.bool b)
  | int (i : Int) : Dp K H (.int i) (.int i)
  | str (x : Str) : Dp K H (.str x) (.str x)
  | lst {a : Addr} {xs : List V} {ds : List PyData} : SqL K H a xs → DpAll K H xs ds → Dp K H (.ref a) (.list ds)
  | tup {a : Addr} {xs : List V} {ds : List PyData} : SqT K H a xs → DpAll K H xs ds → Dp K H (.ref a) (.tuple ds)
inductive DpAll (K : PySem.W.Frag) (H : Hp) : List V → List PyData → Prop
  | nil : DpAll K H [] []
  | cons {v : V} {vs : List V} {d : PyData} {ds : List PyData} : Dp K H v d → DpAll K H vs ds → DpAll K H (v :: vs) (d :: ds)
end
section
variable {X : Cx} {pins : List (Addr × Obj)} {σ : St} {H : Hp} {s : Shared}
mutual
theorem Dp.reads (I : Inv X pins σ H s) : ∀ (d : PyData) (v : V) (u : Value), Dp X.K H v d → RelV v u → ∃ as, Reads s.heap u d as
  | .none, _, _, h, r => by
    cases h
    cases r
    exact ⟨_, Reads.none⟩
  | .bool b, _, _, h, r => by
    cases h
    cases r
    exact ⟨_, Reads.bool b⟩
  | .int i, _, _, h, r => by
    cases h
    obtain ⟨t, rfl⟩ := r
    exact ⟨_, Reads.int i t⟩
  | .str x, _, _, h, r => by
    cases h
    obtain ⟨t, rfl⟩ := r
    exact ⟨_, Reads.str x t⟩
  | .list ds, _, _, h, r => by
    cases h with
    | lst hs ha =>
      cases r
      obtain ⟨its, rv, ⟨o, n, ho, hc, _, hd⟩, _⟩ := I.list hs
      obtain ⟨as, hr⟩ := Dp.readsAll I ds _ its ha rv
      exact ⟨_, Reads.list ho hc hd hr⟩
  | .tuple ds, _, _, h, r => by
    cases h with
    | tup hs ha =>
      cases r
      obtain ⟨its, rv, ⟨o, ho, hc, n, hd⟩, _⟩ := I.tuple hs
      obtain ⟨as, hr⟩ := Dp.readsAll I ds _ its ha rv
      exact ⟨_, Reads.tuple ho hc hd hr⟩
  | .dict _, _, _, h, _ => by cases h
theorem Dp.readsAll (I : Inv X pins σ H s) : ∀ (ds : List PyData) (vs : List V) (us : List Value), DpAll X.K H vs ds → Vals vs us → ∃ as, ReadsAll s.heap us ds as
  | [], _, _, h, r => by
    cases h
    cases r
    exact ⟨_, ReadsAll.nil⟩
  | d :: ds, _, _, h, r => by
    cases h with
    | cons h1 h2 =>
      cases r with
      | cons r1 r2 =>
        obtain ⟨as, q1⟩ := Dp.reads I d _ _ h1 r1
        obtain ⟨bs, q2⟩ := Dp.readsAll I ds _ _ h2 r2
        exact ⟨_, ReadsAll.cons q1 q2⟩
end
end
section
variable {X : Cx}
end
end L2
namespace L2
open PySem PySem.Spec PyProof.Rows
abbrev CellAt (h : Heap) (c : Addr) (v : Option Value) : Prop := h.IsCell c v
def relS (scope sc : Scope) : Scope :=
  { scope with names := scope.names.map fun (n, k) => if (k == .free && sc.kind == .function && sc.names.lookup n == some .cell) then (n, .cell) else (n, k) }
def cloFrom (cells : List (Str × Addr)) : List (Str × NameKind) → List (Str × Addr) → List (Str × Addr)
  | [], acc => acc
  | (n, k) :: r, acc => if k == .free then cloFrom cells r ((n, (cells.lookup n).getD 0) :: acc) else cloFrom cells r acc
theorem closure_loop (env : Env) (f : Str × NameKind → List (Str × Addr) → Sem (ForInStep (List (Str × Addr))))
    (hf : ∀ n k c, f (n, k) c = if k == .free then (do let a ← cellOf env n; pure (.yield ((n, a) :: c))) else pure (.yield c)) :
    ∀ (names : List (Str × NameKind)) (acc : List (Str × Addr)), (∀ y ∈ names, y.2 = .free → ∃ c, env.cells.lookup y.1 = some c) → forIn names acc f = pure (cloFrom env.cells names acc)
  | [], acc, _ => by rw [List.forIn_nil]; rfl
  | (n, k) :: r, acc, h => by
    rw [List.forIn_cons, hf]
    have ih := fun acc => closure_loop env f hf r acc fun y hy => h y (List.mem_cons_of_mem _ hy)
    unfold cloFrom
    by_cases hk : (k == NameKind.free) = true
    · rw [if_pos hk, if_pos hk]
      obtain ⟨c, hc⟩ := h (n, k) List.mem_cons_self (by simpa using hk)
      have e : cellOf env n = pure c := by unfold cellOf; rw [hc]
      rw [e]
      have e2 : (env.cells.lookup n).getD 0 = c := by rw [hc]; rfl
      rw [e2]
      exact ih _
    · rw [if_neg hk, if_neg hk]
      exact ih _
theorem closure_ok {scope : Scope} {env : Env} (h : ∀ y ∈ scope.names, y.2 = .free → ∃ c, env.cells.lookup y.1 = some c) : closureFor scope env = pure (cloFrom env.cells scope.names []) := by
  simp only [closureFor]
  rw [closure_loop env _ (fun n k c => rfl) scope.names [] h]
  rfl
theorem mem_lookup {α : Type} : ∀ {l : List (Str × α)} {n : Str} {c : α}, (n, c) ∈ l → ∃ c', l.lookup n = some c'
  | (k, v) :: r, n, c, h => by
    rw [List.lookup_cons]
    cases hb : n == k with
    | true => exact ⟨_, rfl⟩
    | false =>
      rcases List.mem_cons.mp h with e | h
      · cases e; simp at hb
      · exact mem_lookup h
theorem cloFrom_mem {cells : List (Str × Addr)} : ∀ {names : List (Str × NameKind)} {acc : List (Str × Addr)} {n : Str} {c : Addr}, (n, c) ∈ cloFrom cells names acc → (n, c) ∈ acc ∨ ((n, .free) ∈ names ∧ c = (cells.lookup n).getD 0)
  | [], _, _, _, h => .inl h
  | (m, k) :: r, acc, n, c, h => by
    unfold cloFrom at h
    split at h
    · rename_i hk
      have hk : k = .free := by simpa using hk
      rcases cloFrom_mem h with h | ⟨h1, h2⟩
      · rcases List.mem_cons.mp h with e | h
        · cases e; exact .inr ⟨hk ▸ List.mem_cons_self, rfl⟩
        · exact .inl h
      · exact .inr ⟨List.mem_cons_of_mem _ h1, h2⟩
    · rcases cloFrom_mem h with h | ⟨h1, h2⟩
      · exact .inl h
      · exact .inr ⟨List.mem_cons_of_mem _ h1, h2⟩
theorem cloFrom_acc {cells : List (Str × Addr)} : ∀ {names : List (Str × NameKind)} {acc : List (Str × Addr)} {p : Str × Addr}, p ∈ acc → p ∈ cloFrom cells names acc
  | [], _, _, h => h
  | (m, k) :: r, acc, p, h => by
    unfold cloFrom
    split
    · exact cloFrom_acc (List.mem_cons_of_mem _ h)
    · exact cloFrom_acc h
theorem cloFrom_has {cells : List (Str × Addr)} : ∀ {names : List (Str × NameKind)} {acc : List (Str × Addr)} {n : Str}, (n, .free) ∈ names → (n, (cells.lookup n).getD 0) ∈ cloFrom cells names acc
  | (m, k) :: r, acc, n, h => by
    unfold cloFrom
    rcases List.mem_cons.mp h with e | h
    · cases e
      exact cloFrom_acc List.mem_cons_self
    · split
      · exact cloFrom_has h
      · exact cloFrom_has h
theorem cells_mem : ∀ {names : List (Str × NameKind)} {h : Heap} {acc : List (Str × Addr)} {x : Str} {c : Addr}, (x, c) ∈ cellsFrom h.objs.size names acc →
    (x, c) ∈ acc ∨ ((x, .cell) ∈ names ∧ h.objs.size ≤ c ∧ CellAt (pushCells h names) c none)
  | [], _, _, _, _, h => .inl h
  | (n, k) :: r, h, acc, x, c, hm => by
    unfold cellsFrom at hm
    unfold pushCells
    split at hm
    · rename_i hk
      rw [if_pos hk]
      have hk : k = .cell := by simpa using hk
      rw [← Heap.size_push h { cls := .type "cell", data := .cell none }] at hm
      rcases cells_mem hm with hm | ⟨h1, h2, h3⟩
      · rcases List.mem_cons.mp hm with e | hm
        · cases e
          exact .inr ⟨hk ▸ List.mem_cons_self, Nat.le_refl _, _, pushCells_keeps r _ _ _ (Heap.get?_push_size _ rfl), rfl⟩
        · exact .inl hm
      · rw [Heap.size_push] at h2
        exact .inr ⟨List.mem_cons_of_mem _ h1, Nat.le_of_succ_le h2, h3⟩
    · rename_i hk
      rw [if_neg hk]
      rcases cells_mem hm with hm | ⟨h1, h2, h3⟩
      · exact .inl hm
      · exact .inr ⟨List.mem_cons_of_mem _ h1, h2, h3⟩
theorem cells_acc : ∀ {names : List (Str × NameKind)} {n : Nat} {acc : List (Str × Addr)} {p : Str × Addr}, p ∈ acc → p ∈ cellsFrom n names acc
  | [], _, _, _, h => h
  | (m, k) :: r, n, acc, p, h => by
    unfold cellsFrom
    split
    · exact cells_acc (List.mem_cons_of_mem _ h)
    · exact cells_acc h
theorem cells_has : ∀ {names : List (Str × NameKind)} {n : Nat} {acc : List (Str × Addr)} {x : Str}, (x, .cell) ∈ names → ∃ c, (x, c) ∈ cellsFrom n names acc
  | (m, k) :: r, n, acc, x, h => by
    unfold cellsFrom
    rcases List.mem_cons.mp h with e | h
    · cases e
      exact ⟨n, cells_acc List.mem_cons_self⟩
    · split
      · exact cells_has h
      · exact cells_has h
theorem cells_inj : ∀ {names : List (Str × NameKind)} {h : Heap} {acc : List (Str × Addr)} {x y : Str} {c : Addr}, (∀ p ∈ acc, p.2 < h.objs.size) → (∀ x y c, (x, c) ∈ acc → (y, c) ∈ acc → x = y) →
    (x, c) ∈ cellsFrom h.objs.size names acc → (y, c) ∈ cellsFrom h.objs.size names acc → x = y
  | [], _, _, _, _, _, _, hi, h1, h2 => hi _ _ _ h1 h2
  | (n, k) :: r, h, acc, x, y, c, hl, hi, h1, h2 => by
    unfold cellsFrom at h1 h2
    split at h1
    · rename_i hk
      rw [if_pos hk] at h2
      rw [← Heap.size_push h { cls := .type "cell", data := .cell none }] at h1 h2
      refine cells_inj (h := h.push _) (fun p hp => ?_) (fun x y c a b => ?_) h1 h2
      · rw [Heap.size_push]
        rcases List.mem_cons.mp hp with rfl | hp
        · exact Nat.lt_succ_self _
        · exact Nat.lt_succ_of_lt (hl p hp)
      · rcases List.mem_cons.mp a with e | a <;> rcases List.mem_cons.mp b with e' | b
        · cases e; cases e'; rfl
        · cases e; exact absurd (hl _ b) (Nat.lt_irrefl _)
        · cases e'; exact absurd (hl _ a) (Nat.lt_irrefl _)
        · exact hi _ _ _ a b
    · rename_i hk
      rw [if_neg hk] at h2
      exact cells_inj hl hi h1 h2
theorem newEnv_comp {M : Model} {A : Around} {E : Value → Shared → Prop} {s : Shared} {scope : Scope} {globals : Addr} {closure : List (Str × Addr)} {qual : Str} {func : Option Addr} {code : Value} {around : Env} {builtins : Addr} {Q : Env → Shared → Prop}
    (h : Q (newEnv scope s.heap.objs.size globals (cellsFrom (s.heap.objs.size + 1) scope.names closure) qual func code (some around) builtins)
      { s with heap := pushCells (s.heap.push { cls := .type "dict", data := .dict #[] }) scope.names }) :
    wpAny M A (newFunctionEnv scope globals closure [] qual func code (some around) builtins) Q E s := by
  simp only [newFunctionEnv, Option.isSome_some, if_true]
  refine wpAny_bind (wpAny_alloc ?_)
  refine wpAny_bind (wpAny_layCells _ (fun n k c => rfl) scope.names closure _ _ ?_)
  rw [show ({ s with heap := s.heap.push { cls := .type "dict", data := .dict #[] } } : Shared).heap.objs.size = s.heap.objs.size + 1 from Heap.size_push ..]
  rw [List.forIn_nil]
  exact wpAny_bind (wpAny_pure (wpAny_pure h))
/-- every name of the written scope, in the scope that runs -/
theorem lookup_relS {sc : Scope} : ∀ {names : List (Str × NameKind)} {x : Str} {k : NameKind},
    (names.map fun (n, k) => if (k == NameKind.free && sc.kind == .function && sc.names.lookup n == some .cell) then (n, NameKind.cell) else (n, k)).lookup x = some k →
    ∃ k', names.lookup x = some k' ∧ (k = k' ∨ (k' = .free ∧ k = .cell))
  | [], _, _, h => by simp at h
  | (n, k₀) :: r, x, k, h => by
    have ih := @lookup_relS sc r x k
    have h' : List.lookup x ((if (k₀ == NameKind.free && sc.kind == .function && sc.names.lookup n == some .cell) = true then (n, NameKind.cell) else (n, k₀)) :: (r.map _)) = some k := h
    cases hx : x == n with
    | true =>
      simp only [List.lookup_cons, hx]
      by_cases hc : (k₀ == NameKind.free && sc.kind == .function && sc.names.lookup n == some .cell) = true
      · rw [if_pos hc] at h'
        simp only [List.lookup_cons, hx] at h'
        cases h'
        simp only [Bool.and_eq_true, beq_iff_eq] at hc
        exact ⟨k₀, rfl, .inr ⟨hc.1.1, rfl⟩⟩
      · rw [if_neg hc] at h'
        simp only [List.lookup_cons, hx] at h'
        cases h'
        exact ⟨_, rfl, .inl rfl⟩
    | false =>
      simp only [List.lookup_cons, hx]
      by_cases hc : (k₀ == NameKind.free && sc.kind == .function && sc.names.lookup n == some .cell) = true
      · rw [if_pos hc] at h'
        simp only [List.lookup_cons, hx] at h'
        exact ih h'
      · rw [if_neg hc] at h'
        simp only [List.lookup_cons, hx] at h'
        exact ih h'
/-- the names of a comprehension's block: its own (with their places in N), or captured -/
structure BlkOk (N : List Str) (sc scope : Scope) (own : List (Str × Nat)) : Prop where
  kind : scope.kind = .function
  uniq : ∀ y ∈ scope.names, scope.names.lookup y.1 = some y.2
  ix : ∀ p ∈ own, N[p.2]? = some p.1
  free : ∀ y ∈ scope.names, y.2 = .free → sc.names.lookup y.1 = some .cell ∨ sc.names.lookup y.1 = some .free
  own : ∀ y ∈ scope.names, y.2 = .local ∨ y.2 = .cell → y.1 ∈ own.map (·.1) ∨ y.1 ∉ N
/-- the slots of the block's own names forgotten -/
def wipe (σ : St) : List Nat → St
  | [] => σ
  | v :: vs => (wipe σ vs).set v none
theorem wipe_length (σ : St) : ∀ vs : List Nat, (wipe σ vs).length = σ.length
  | [] => rfl
  | v :: vs => by unfold wipe; rw [List.length_set, wipe_length σ vs]
theorem wipe_some {σ : St} {i : Nat} {x : V} : ∀ {vs : List Nat}, (wipe σ vs)[i]? = some (some x) → σ[i]? = some (some x) ∧ i ∉ vs
  | [], h => ⟨h, by simp⟩
  | v :: vs, h => by
    unfold wipe at h
    by_cases hi : v = i
    · subst hi
      by_cases hv : v < (wipe σ vs).length
      · rw [List.getElem?_set_self hv] at h; cases h
      · rw [List.getElem?_eq_none (by simpa using hv)] at h; cases h
    · rw [List.getElem?_set_ne hi] at h
      obtain ⟨h1, h2⟩ := wipe_some h
      exact ⟨h1, by simp only [List.mem_cons, not_or]; exact ⟨fun e => hi e.symm, h2⟩⟩
/-- the context of a block that starts at s, its iterator's objects at fp -/
abbrev Cx.blk (X : Cx) (s : Shared) (H : Hp) (scope : Scope) (cenv : Env) (fp : List Addr) : Cx := { X with s_0 := s, H_0 := H, env := cenv, outer := X.stack, ex := fp, fn := fun x => scope.names.lookup x == some .cell, pn := [], xe := fun _ _ => False }
section
variable {X : Cx} {pins : List (Addr × Obj)} {σ : St} {H : Hp} {s : Shared}
theorem block_start {scope : Scope} {own : List (Str × Nat)} {fp : List Addr} (I : Inv X pins σ H s) (ok : BlkOk X.N X.env.scope scope own) (hN : X.N.Nodup) (hfp : ∀ b ∈ fp, FpOk X pins H b ∧ b < s.heap.objs.size) :
    Inv (X.blk s H scope (compEnvC scope (cellsFrom (s.heap.objs.size + 1) scope.names (cloFrom X.env.cells scope.names [])) s.heap.objs.size X.env) fp) [] (wipe σ (own.map (·.2))) H { s with heap := pushCells (s.heap.push { cls := .type "dict", data := .dict #[] }) scope.names } := by
  have hfree : ∀ y ∈ scope.names, y.2 = .free → ∃ c, X.env.cells.lookup y.1 = some c := fun y hy e => by
    rcases ok.free y hy e with k | k
    · exact I.ok.has _ (.inl k)
    · exact I.ok.has _ (.inr k)
  generalize hcenv : compEnvC scope (cellsFrom (s.heap.objs.size + 1) scope.names (cloFrom X.env.cells scope.names [])) s.heap.objs.size X.env = cenv
  have kp : ∀ b o, s.heap.get? b = some o → (pushCells (s.heap.push { cls := .type "dict", data := .dict #[] }) scope.names).get? b = some o := fun b o e => pushCells_keeps _ _ _ _ (Heap.get?_push_of_some _ e)
  have hL : cenv.locals = s.heap.objs.size := by rw [← hcenv]; rfl
  have hcl : cenv.cells = cellsFrom (s.heap.objs.size + 1) scope.names (cloFrom X.env.cells scope.names []) := by rw [← hcenv]; rfl
  have hsc : cenv.scope = relS scope X.env.scope := by rw [← hcenv]; rfl
  rw [← Heap.size_push s.heap { cls := .type "dict", data := .dict #[] }] at hcl
  have cm : ∀ {y c}, (y, c) ∈ cloFrom X.env.cells scope.names [] → X.env.cells.lookup y = some c ∧ c < s.heap.objs.size := fun {y c} hm => by
    rcases cloFrom_mem hm with hm | ⟨h1, rfl⟩
    · cases hm
    · obtain ⟨c, hc⟩ := hfree _ h1 rfl
      rw [hc]
      obtain ⟨w, z⟩ := I.cell _ _ hc
      exact ⟨rfl, z.lt⟩
  have mem : ∀ {y c}, cenv.cells.lookup y = some c → (X.env.cells.lookup y = some c ∧ c < s.heap.objs.size) ∨ (s.heap.objs.size + 1 ≤ c ∧ CellAt (pushCells (s.heap.push { cls := .type "dict", data := .dict #[] }) scope.names) c none) := fun {y c} e => by
    rw [hcl] at e
    rcases cells_mem (PySem.mem_of_lookup e) with hm | ⟨_, h2, h3⟩
    · exact .inl (cm hm)
    · rw [Heap.size_push] at h2; exact .inr ⟨h2, h3⟩
  have look : ∀ {y}, scope.names.lookup y = some .free → ∃ c, cenv.cells.lookup y = some c ∧ X.env.cells.lookup y = some c := fun {y} hl => by
    have hy : (y, NameKind.free) ∈ scope.names := PySem.mem_of_lookup hl
    obtain ⟨c', e'⟩ := mem_lookup (cells_acc (names := scope.names) (n := (s.heap.push { cls := .type "dict", data := .dict #[] }).objs.size) (cloFrom_has (cells := X.env.cells) (acc := []) hy))
    rw [← hcl] at e'
    refine ⟨c', e', ?_⟩
    rw [hcl] at e'
    rcases cells_mem (PySem.mem_of_lookup e') with hm | ⟨h1, _, _⟩
    · exact (cm hm).1
    · have := ok.uniq _ h1
      rw [hl] at this; cases this
  have okB : (X.blk s H scope cenv fp).Ok := by
    refine ⟨I.ok.mod, by show cenv.scope.kind = _; rw [hsc]; exact ok.kind, by show cenv.globals = _; rw [← hcenv]; exact I.ok.glob, by show cenv.builtins = _; rw [← hcenv]; exact I.ok.blt, by show s.heap.objs.size ≤ cenv.locals; rw [hL]; exact Nat.le_refl _,
      fun y z c e1 e2 => ?_, fun y hy => ?_, fun y c z e => ?_, I.ok.hd, I.ok.frames, .inl rfl, fun b hb => ⟨?_, fun y c e z => ?_⟩, I.bs, Nat.le_trans I.ok.bsz I.sz, fun b o e hb => ?_, fun b hb z => ?_, I.stack, I.stkFree⟩
    · have e1 : cenv.cells.lookup y = some c := e1
      have e2 : cenv.cells.lookup z = some c := e2
      rw [hcl] at e1 e2
      refine cells_inj (fun p hp => ?_) (fun y z c a b => I.ok.inj y z c (cm a).1 (cm b).1) (PySem.mem_of_lookup e1) (PySem.mem_of_lookup e2)
      rw [Heap.size_push]
      exact Nat.lt_succ_of_lt (cm (y := p.1) (c := p.2) hp).2
    · show ∃ c, cenv.cells.lookup y = some c
      have key : ∀ k, cenv.kindOf y = some k → (k = .cell ∨ k = .free) → ∃ c, cenv.cells.lookup y = some c := fun k hk hk' => by
        unfold Env.kindOf at hk
        rw [hsc] at hk
        obtain ⟨k', e, r⟩ := lookup_relS hk
        have : k' = .cell ∨ k' = .free := by
          rcases r with rfl | ⟨rfl, _⟩
          · exact hk'
          · exact .inr rfl
        rcases this with rfl | rfl
        · obtain ⟨c, hm⟩ := cells_has (n := (s.heap.push { cls := .type "dict", data := .dict #[] }).objs.size) (acc := cloFrom X.env.cells scope.names []) (PySem.mem_of_lookup e)
          obtain ⟨c', e'⟩ := mem_lookup hm
          exact ⟨c', by rw [hcl]; exact e'⟩
        · obtain ⟨c, h1, _⟩ := look e
          exact ⟨c, h1⟩
      rcases hy with hy | hy
      · exact key _ hy (.inl rfl)
      · exact key _ hy (.inr rfl)
    · have z : (scope.names.lookup y == some NameKind.cell) = true := z
      have z : scope.names.lookup y = some .cell := by simpa using z
      have e : cenv.cells.lookup y = some c := e
      rw [hcl] at e
      rcases cells_mem (PySem.mem_of_lookup e) with hm | ⟨_, h2, _⟩
      · rcases cloFrom_mem hm with hm | ⟨h1, _⟩
        · cases hm
        · have q := ok.uniq _ h1
          rw [z] at q; cases q
      · rw [Heap.size_push] at h2
        exact Nat.le_of_succ_le h2
    · show b ≠ cenv.locals
      rw [hL]; exact Nat.ne_of_lt (hfp b hb).2
    · have e : cenv.cells.lookup y = some c := e
      rcases mem e with ⟨h1, _⟩ | ⟨h1, _⟩
      · exact (hfp b hb).1.2.2.2.2.1 y c h1 z
      · have h2 : s.heap.objs.size + 1 ≤ b := by rw [← z]; exact h1
        exact absurd (Nat.lt_of_lt_of_le (hfp b hb).2 (Nat.le_of_succ_le h2)) (Nat.lt_irrefl _)
    · rcases (hfp b hb).1.2.2.2.1 with z | z
      · exact I.ok.noex b o e z
      · exact absurd (Nat.lt_of_lt_of_le (Heap.lt_size e) (Nat.le_trans I.ok.bsz z)) (Nat.lt_irrefl _)
    · rcases List.mem_cons.mp (I.stkSub b z) with z | z
      · exact (hfp b hb).1.2.1 z
      · exact (hfp b hb).1.2.2.1 z
  refine ⟨okB, rfl, I.bare, Un.kept kp, ⟨fun _ => none, ?_, fun i y av e1 e2 e3 => ?_⟩, fun y c e => ?_, ?_, fun y c e => ?_, fun p hp => ?_, I.hok.kept kp, by rw [wipe_length]; exact I.len⟩
  · show Heap.Ns _ cenv.locals _
    rw [hL]
    exact Heap.Ns.keeps (Heap.Ns.new ..) fun b o e => pushCells_keeps _ _ _ _ e
  · obtain ⟨e2, hne⟩ := wipe_some e2
    have hfr : scope.names.lookup y = some .free ∧ (cenv.kindOf y = some .cell ∨ cenv.kindOf y = some .free) := by
      have key : ∀ k, cenv.scope.names.lookup y = some k → k = .local ∨ k = .cell ∨ k = .free → scope.names.lookup y = some .free ∧ (cenv.kindOf y = some .cell ∨ cenv.kindOf y = some .free) := fun k hk hk' => by
        have hk0 := hk
        rw [hsc] at hk
        obtain ⟨k', e, r⟩ := lookup_relS hk
        have no : ¬ (k' = .local ∨ k' = .cell) := fun hh => by
          rcases ok.own _ (PySem.mem_of_lookup e) hh with e' | e'
          · obtain ⟨p, hp, hpy⟩ := List.mem_map.mp e'
            have e3 := ok.ix p hp
            have : p.1 = y := hpy
            rw [this] at e3
            exact hne (List.mem_map.mpr ⟨p, hp, nodup_ix hN e3 e1⟩)
          · exact e' (List.mem_of_getElem? e1)
        rcases r with rfl | ⟨rfl, rfl⟩
        · rcases hk' with rfl | rfl | rfl
          · exact absurd (.inl rfl) no
          · exact absurd (.inr rfl) no
          · exact ⟨e, .inr hk0⟩
        · exact ⟨e, .inl hk0⟩
      have e3 : Vis cenv.scope y := e3
      rcases e3 with e3 | e3 | e3
      · exact key _ e3 (.inl rfl)
      · exact key _ e3 (.inr (.inl rfl))
      · exact key _ e3 (.inr (.inr rfl))
    obtain ⟨m, hn, hl⟩ := I.loc
    have hvis : Vis X.env.scope y := (ok.free _ (PySem.mem_of_lookup hfr.1) rfl).elim (fun k => .inr (.inl k)) (fun k => .inr (.inr k))
    obtain ⟨w, r, q⟩ := hl i y av e1 e2 hvis
    refine ⟨w, r, .inr ⟨hfr.2, ?_⟩⟩
    obtain ⟨c, h1, h2⟩ := look hfr.1
    rcases q with ⟨k, _⟩ | ⟨_, c', e', z⟩
    · have k : X.env.scope.names.lookup y = some .local := k
      rcases ok.free _ (PySem.mem_of_lookup hfr.1) rfl with k' | k' <;> rw [show X.env.scope.names.lookup y = _ from k'] at k <;> cases k
    · rw [h2] at e'; cases e'
      exact ⟨c, h1, z.keeps kp⟩
  · have e : cenv.cells.lookup y = some c := e
    rcases mem e with ⟨h1, _⟩ | ⟨_, z⟩
    · obtain ⟨w, z⟩ := I.cell y c h1
      exact ⟨w, z.keeps kp⟩
    · exact ⟨_, z⟩
  · show H cenv.locals = none
    rw [hL]; exact I.hok.fresh (Nat.le_refl _)
  · have e : cenv.cells.lookup y = some c := e
    rcases mem e with ⟨h1, _⟩ | ⟨h1, _⟩
    · exact I.freeC y c h1
    · exact I.hok.fresh (Nat.le_of_succ_le h1)
  · exact absurd (show p ∈ ([] : List (Addr × Obj)) ++ [] from hp) (by simp)
/-- an item appended to a tracked list -/
theorem app_ok {E : Value → Shared → Prop} {D : Addr} {xs : List V} {y : V} {v : Value} {Q : Value → Shared → Prop} (I : Inv X pins σ H s) (hD : H D = some (.lst xs)) (hz : xs.length < sizeLine) (r : RelV y v)
    (h : ∀ s', Inv X pins σ (upd H D (.lst (xs ++ [y]))) s' → Q .none s') : wpAny (model X.prog X.w) X.A (call (.builtin "list.append") [.ref D, v]) Q E s := by
  obtain ⟨hz', its, n, ri, e⟩ := I.hok D _ hD
  have hl := ri.length
  refine append_at (hsz := by rw [List.size_toArray]; omega) e fun h' sb ho' => ?_
  refine h { s with heap := h' } (I.write (t' := s.toks) (by rw [hD]; trivial) (.inl rfl) (fun b u hb q => (sb.2 b hb).trans q) ⟨_, ho'⟩ ⟨by rw [List.length_append]; exact hz, its ++ [v], n + 1, ri.append (.cons r .nil), ?_⟩)
  rw [ho']
  simp
/-- a clause's tests -/
def PTs (X : Cx) (ifs : List Expr) (t : TT) : Prop :=
  ∀ (pins : List (Addr × Obj)) (s : Shared) (σ : St) (H : Hp) (Q : Bool → Hp → Prop), Inv X pins σ H s → t σ H Q →
    wpAny (model X.prog X.w) X.A (forIn ifs true fun c r => if r = true then do let ok ← isTrue c X.env (eval c X.env); pure (ForInStep.yield ok) else pure (ForInStep.yield r)) (TP X pins σ Q) X.xe s
theorem pts_one {c : Expr} {t : TT} (h : PT X c t) : PTs X [c] t := fun pins s σ H Q I hw => wpAny_tests_one (h pins s σ H Q I hw)
end
theorem thnF {α : Type} {t : Sem α} {Q Q' : α → Shared → Prop} {M : Model} {A : Around} {E : Value → Shared → Prop} {s : Shared} (h : wpAny M A t Q (fun _ _ => False) s) (hQ : ∀ a s, Q a s → Q' a s) : wpAny M A t Q' E s := wpAny_mono h hQ fun _ _ z => False.elim z
/-- the loop of a list comprehension's block, the target of any form (codeAny_compLoop_tests asks a target that no tuple goes to; statement and proof follow it, PyProof/CompMap.lean:41-61, with the step letOwnedTupleGo kept) -/
theorem compLoop_any {prog : Program} {w : World} {A : Around} {R : Result → Shared → Prop} {s : Shared} {elt target iter : Expr} {ifs : List Expr} {scope : Scope} {pos : Pos} {it acc : Value} {env : Env} (I : Nat → Shared → Prop)
    (turn : ∀ n s, I n s → wpAny (model prog w) A (pyNext it) (fun r s₁ => match r with
      | none => R (.ok .next) s₁
      | some v => wpAny (model prog w) A (letOwnedTupleGo target it v) (fun _ s₁' => wpAny (model prog w) A (assign target env v) (fun _ s₂ =>
          wpAny (model prog w) A (forIn ifs true fun c r => if r = true then do let ok ← isTrue c env (eval c env); pure (ForInStep.yield ok) else pure (ForInStep.yield r)) (fun ok s₃ =>
            if ok = true then wpAny (model prog w) A (eval elt env) (fun x s₄ =>
              wpAny (model prog w) A (call (.builtin "list.append") [acc, x]) (fun _ s₅ => ∃ m, m < n ∧ I m s₅) (notedBy (model prog w) A env fun e s' => R (.error e) s') s₄) (notedBy (model prog w) A env fun e s' => R (.error e) s') s₃
            else ∃ m, m < n ∧ I m s₃) (notedBy (model prog w) A env fun e s' => R (.error e) s') s₂) (notedBy (model prog w) A env fun e s' => R (.error e) s') s₁') (notedBy (model prog w) A env fun e s' => R (.error e) s') s₁) (notedBy (model prog w) A env fun e s' => R (.error e) s') s)
    (n : Nat) (h : I n s) :
    codeAny (model prog w) A (.compLoop (.ListComp elt [⟨target, iter, ifs, 0⟩] scope pos) 0 it acc env) R s := by
  refine codeAny_loop rfl I (fun n s hI => ?_) n h
  show wpAny _ A ((compTurn (.ListComp elt [⟨target, iter, ifs, 0⟩] scope pos) 0 it acc env).onRaise (fun x => do noteFrame x env; theTreesLotGoes x)) _ _ s
  refine wpAny_noted ?_
  rw [compTurn_list]
  refine wpAny_bind (wpAny_standAt (wpAny_bind (wpAny_mono (turn n s hI) (fun r s₁ h₁ => ?_) fun _ _ h' => h')))
  cases r with
  | none => exact wpAny_pure h₁
  | some v =>
    refine wpAny_bind (wpAny_mono h₁ (fun _ s₁' h₁' => ?_) fun _ _ h' => h')
    refine wpAny_bind (wpAny_mono h₁' (fun _ s₂ h₂ => wpAny_bind (wpAny_mono h₂ (fun ok s₃ h₃ => ?_) fun _ _ h' => h')) fun _ _ h' => h')
    cases ok with
    | false => exact wpAny_pure ⟨rfl, h₃⟩
    | true =>
      exact wpAny_bind (wpAny_bind (wpAny_mono h₃ (fun x s₄ h₄ => wpAny_bind (wpAny_mono h₄ (fun _ s₅ h₅ => wpAny_pure (wpAny_pure ⟨rfl, h₅⟩)) fun _ _ h' => h')) fun _ _ h' => h'))
section
variable {X : Cx}
/-- [elt for target in iter if ..]: D the new list; W by the turn and a measure, Nx what a turn is to reach -/
def tLc (wi : TI) (g : TG) (tt : TT) (te : TE) (vs : List Nat) : TE := fun σ H Q => wi σ H fun J H1 => ∀ D, H1 D = none → ∃ W : Nat → Nat → Hp → Prop, (∃ m, W 0 m (upd H1 D (.lst []))) ∧ ∀ i m H, W i m H →
  (J.stop i H ∧ Q (.ref D) H) ∨ (J.go i H ∧ ∃ Nx : Hp → Prop, (∀ H', Nx H' → ∃ m', m' < m ∧ W (i + 1) m' H') ∧ ∀ x H', J.yld i H x H' → g x (wipe σ vs) H' fun σ2 H2 => wipe σ2 vs = wipe σ vs ∧ tt σ2 H2 fun b H3 =>
    if b = true then te σ2 H3 fun y H4 => ∃ acc, H4 D = some (.lst acc) ∧ acc.length < sizeLine ∧ Nx (upd H4 D (.lst (acc ++ [y]))) else Nx H3)
theorem lc_core {pins : List (Addr × Obj)} {s : Shared} {σ : St} {H : Hp} {Q : VK} {elt tg iter : Expr} {ifs : List Expr} {scope : Scope} {own : List (Str × Nat)} {pos pos' : Pos} {wi : TI} {g : TG} {tt : TT} {te : TE} {use : Option (Value → Sem Unit)} {Qf : Value → Shared → Prop}
    (hc : X.calm = true) (hN : X.N.Nodup) (I : Inv X pins σ H s) (hi : PI X tg iter wi) (ok : BlkOk X.N X.env.scope scope own)
    (hg : ∀ (s : Shared) (H : Hp) (C : Addr) (cl : List (Str × Addr)) (fp : List Addr), PG (X.blk s H scope (compEnvC scope cl C X.env) fp) tg g) (ht : ∀ (s : Shared) (H : Hp) (C : Addr) (cl : List (Str × Addr)) (fp : List Addr), PTs (X.blk s H scope (compEnvC scope cl C X.env) fp) ifs tt)
    (he : ∀ (s : Shared) (H : Hp) (C : Addr) (cl : List (Str × Addr)) (fp : List Addr), PE (X.blk s H scope (compEnvC scope cl C X.env) fp) elt te) (hs : ∀ x, foldedSetIterable iter X.env x = pure x)
    (h : tLc wi g tt te (own.map (·.2)) σ H Q)
    (hRR : ∀ D C s' m H', Inv X pins σ H' s' → Q (.ref D) H' → s'.heap.Ns C m → FpOk X pins H' C → compPost (model X.prog X.w) X.A X.xe use Qf (.ref D) C (.ok .next) s') :
    wpAny (model X.prog X.w) X.A (comprehension (.ListComp elt [⟨tg, iter, ifs, 0⟩] scope pos) scope X.env pos' (newList []) false (eval iter X.env) use) Qf X.xe s := by
  have hfree : ∀ y ∈ scope.names, y.2 = .free → ∃ c, X.env.cells.lookup y.1 = some c := fun y hy e => by
    rcases ok.free y hy e with k | k
    · exact I.ok.has _ (.inl k)
    · exact I.ok.has _ (.inr k)
  refine wpAny_comprehension_free (use := use) rfl hs (closure_ok hfree) ok.kind (fun y hy e => by rw [ok.uniq y hy, e])
    (thn (hi pins s σ H _ I h) fun xv s1 hx => thn hx fun itv s2 h2 => ?_)
  obtain ⟨it, fp, tn, J, H2, e, I2, T, st2, f2, q⟩ := h2
  subst e
  refine wpAny_newObj_type (newEnv_comp ?_) (by show 0 ≤ sizeLine; decide)
  generalize hD : s2.heap.objs.size = D
  have hDn : H2 D = none := I2.hok.fresh (Nat.le_of_eq hD)
  obtain ⟨W, ⟨m0, w0⟩, turn⟩ := q D hDn
  -- the new list
  generalize hs3 : ({ s2 with heap := s2.heap.push { cls := .type "list", data := .seq ([] : List Value).toArray } } : Shared) = s3
  have I3 : Inv X pins σ (upd H2 D (.lst [])) s3 := by
    rw [← hs3]
    refine I2.laid (t' := s2.toks) (fun b o e => Heap.get?_push_of_some _ e) (Nat.le_of_eq hD) ⟨Nat.zero_le _, [], 0, .nil, ?_⟩
    rw [← hD]
    exact Heap.get?_push_size _ rfl
  have h3 : s3.heap = s2.heap.push { cls := .type "list", data := .seq ([] : List Value).toArray } := by rw [← hs3]
  have sz : ∀ b ∈ fp, b < s2.heap.objs.size := fun b hb => by
    obtain ⟨o, e, _⟩ := T.obj _ _ st2 b hb
    exact Heap.lt_size e
  have f3 : ∀ b ∈ fp, FpOk X pins (upd H2 D (.lst [])) b ∧ b < s3.heap.objs.size := fun b hb => by
    have hlt := sz b hb
    refine ⟨⟨?_, (f2 b hb).2⟩, by rw [h3, Heap.size_push]; exact Nat.lt_succ_of_lt hlt⟩
    rw [upd_ne (by rw [← hD]; exact Nat.ne_of_lt hlt)]
    exact (f2 b hb).1
  have st3 : tn 0 s3.heap := T.keep _ _ _ st2 fun b _ o e => by rw [h3]; exact Heap.get?_push_of_some _ e
  have I4 := block_start I3 ok hN f3
  have pg := hg s3 (upd H2 D (.lst [])) s3.heap.objs.size (cellsFrom (s3.heap.objs.size + 1) scope.names (cloFrom X.env.cells scope.names [])) fp
  have pt := ht s3 (upd H2 D (.lst [])) s3.heap.objs.size (cellsFrom (s3.heap.objs.size + 1) scope.names (cloFrom X.env.cells scope.names [])) fp
  have pe := he s3 (upd H2 D (.lst [])) s3.heap.objs.size (cellsFrom (s3.heap.objs.size + 1) scope.names (cloFrom X.env.cells scope.names [])) fp
  show codeAny _ _ (.compStart (.ListComp elt [⟨tg, iter, ifs, 0⟩] scope pos) 0 (.ref it) (.ref D) (compEnvC scope (cellsFrom (s3.heap.objs.size + 1) scope.names (cloFrom X.env.cells scope.names [])) s3.heap.objs.size X.env)) (compPost (model X.prog X.w) X.A X.xe use Qf (.ref D) s3.heap.objs.size) { s3 with heap := pushCells (s3.heap.push { cls := .type "dict", data := .dict #[] }) scope.names }
  have nfp : ∀ b ∈ fp, (upd H2 D (.lst [])) b = none := fun b hb => (f3 b hb).1.1
  generalize hce : compEnvC scope (cellsFrom (s3.heap.objs.size + 1) scope.names (cloFrom X.env.cells scope.names [])) s3.heap.objs.size X.env = ce at I4 pg pt pe ⊢
  have cL : ce.locals = s3.heap.objs.size := by subst hce; rfl
  generalize hH3 : upd H2 D (.lst []) = H3 at I3 I4 pg pt pe w0 nfp f3
  generalize hs4 : ({ s3 with heap := pushCells (s3.heap.push { cls := .type "dict", data := .dict #[] }) scope.names } : Shared) = s4 at I4 ⊢
  have st4 : tn 0 s4.heap := T.keep _ _ _ st3 fun b _ o e => by rw [← hs4]; exact pushCells_keeps _ _ _ _ (Heap.get?_push_of_some _ e)
  have stat : ∀ {σ' : St} {H' : Hp} {s' : Shared}, Inv (X.blk s3 H3 scope ce fp) [] σ' H' s' → (∀ b ∈ fp, H' b = none) → ∀ b ∈ fp, FpOk (X.blk s3 H3 scope ce fp) [] H' b := fun {σ' H' s'} I' hn b hb =>
    ⟨hn b hb, (I'.ok.exf b hb).1, I'.ok.exfs b hb, .inl hb, fun x c e => (I'.ok.exf b hb).2 x c e, fun p hp => absurd (show p ∈ ([] : List (Addr × Obj)) ++ [] from hp) (by simp)⟩
  have loop : codeAny (model X.prog X.w) X.A (.compLoop (.ListComp elt [⟨tg, iter, ifs, 0⟩] scope pos) 0 (.ref it) (.ref D) ce) (compPost (model X.prog X.w) X.A X.xe use Qf (.ref D) s3.heap.objs.size) s4 := by
    refine compLoop_any (fun n s' => ∃ i H', Inv (X.blk s3 H3 scope ce fp) [] (wipe σ (own.map (·.2))) H' s' ∧ tn i s'.heap ∧ (∀ b ∈ fp, H' b = none) ∧ W i n H') ?_ m0 ⟨0, H3, I4, st4, nfp, w0⟩
    rintro n s5 ⟨i, H5, I5, st5, n5, w5⟩
    rcases turn i n H5 w5 with ⟨stop, qq⟩ | ⟨go, Nx, hNx, step⟩
    · have td := T.done (X.blk s3 H3 scope ce fp) rfl rfl rfl hc i [] s5 _ H5 (fun _ _ => False) I5 (stat I5 n5) st5 stop
      refine thnF td fun r s6 ⟨hr, I6⟩ => ?_
      subst hr
      -- back in the def's context
      have I7 : Inv X pins σ H5 s6 := I3.call' (ch := fp) I6.os I6.base I6.hok I6.bare fun b hb => ⟨(f3 b hb).1.2.2.2.1, (f3 b hb).1.2.1, (f3 b hb).1.2.2.2.2.1, (f3 b hb).1.2.2.2.2.2⟩
      have nC : H5 s3.heap.objs.size = none := by
        have z : H5 ce.locals = none := I6.free
        rw [cL] at z
        exact z
      obtain ⟨m, hn, _⟩ := I6.loc
      have hn : s6.heap.Ns ce.locals m := hn
      rw [cL] at hn
      exact hRR D s3.heap.objs.size s6 m H5 I7 qq hn (I3.fpOk (Nat.le_refl _) nC)
    · have ti := T.item (X.blk s3 H3 scope ce fp) rfl rfl rfl hc i [] s5 _ H5 (fun _ _ => False) I5 (stat I5 n5) st5 go
      refine thnF ti fun r s6 ⟨u, hr, h6⟩ => ?_
      subst hr
      refine thnF h6 fun _ s7 ⟨x, H7, I7, r7, y7, st7, n7⟩ => ?_
      have I7' := I7.pinned (stat I7 n7) (T.obj _ _ st7)
      refine thnF (pg _ s7 _ H7 x u _ I7' r7 (step x H7 y7)) fun _ s8 ⟨σ8, H8, I8, hw8, q8⟩ => ?_
      refine thnF (pt _ s8 σ8 H8 _ I8 q8) fun b s9 ⟨H9, I9, q9⟩ => ?_
      -- the turn's end
      have fin : ∀ {s' : Shared} {H' : Hp}, Inv (X.blk s3 H3 scope ce fp) ([] ++ pinsAt fp s7.heap) σ8 H' s' → Nx H' → ∃ m, m < n ∧ ∃ i H', Inv (X.blk s3 H3 scope ce fp) [] (wipe σ (own.map (·.2))) H' s' ∧ tn i s'.heap ∧ (∀ b ∈ fp, H' b = none) ∧ W i m H' := fun {s' H'} I' nx => by
        obtain ⟨m', hm, w'⟩ := hNx H' nx
        have pin' : ∀ b ∈ fp, ∀ o, s7.heap.get? b = some o → s'.heap.get? b = some o ∧ H' b = none := fun b hb o e =>
          let z := I'.pin (b, o) (List.mem_append_right _ (List.mem_append_right _ (mem_pinsAt hb e)))
          ⟨z.1, z.2.1⟩
        have hl : (wipe σ (own.map (·.2))).length = σ8.length := by rw [← hw8, wipe_length]
        refine ⟨m', hm, i + 1, H', (I'.unpinned (pins := [])).weak hl (fun j v e => ?_), T.keep _ _ _ st7 fun b hb o e => (pin' b hb o e).1, fun b hb => ?_, w'⟩
        · rw [← hw8] at e
          exact (wipe_some e).1
        · obtain ⟨o, e, _⟩ := T.obj _ _ st7 b hb
          exact (pin' b hb o e).2
      cases b with
      | false =>
        simp only [Bool.false_eq_true, if_false] at q9 ⊢
        exact fin I9 q9
      | true =>
        simp only [if_true] at q9 ⊢
        refine thnF (pe _ s9 σ8 H9 _ I9 q9) fun z s10 ⟨yv, H10, I10, r10, acc, hD10, hz10, nx⟩ => ?_
        exact app_ok (X := X.blk s3 H3 scope ce fp) I10 hD10 hz10 r10 fun s11 I11 => fin I11 nx
  exact codeAny_compStart_list loop (T.self X.A 0 _ _ _ st4 loop)
/-- name = [..] on one line, the name a local -/
theorem ps_setLc {i : Nat} {y : Str} {py : Pos} {elt tg iter : Expr} {ifs : List Expr} {scope : Scope} {own : List (Str × Nat)} {pos spos : Pos} {wi : TI} {g : TG} {tt : TT} {te : TE} (hc : X.calm = true) (hN : X.N.Nodup) (hy : X.N[i]? = some y) (hyl : X.env.scope.names.lookup y = some .local)
    (hsw : swapsWith (.ListComp elt [⟨tg, iter, ifs, 0⟩] scope pos) (some (.Name y py)) spos.line X.env = pure true) (hi : PI X tg iter wi) (ok : BlkOk X.N X.env.scope scope own)
    (hg : ∀ (s : Shared) (H : Hp) (C : Addr) (cl : List (Str × Addr)) (fp : List Addr), PG (X.blk s H scope (compEnvC scope cl C X.env) fp) tg g) (ht : ∀ (s : Shared) (H : Hp) (C : Addr) (cl : List (Str × Addr)) (fp : List Addr), PTs (X.blk s H scope (compEnvC scope cl C X.env) fp) ifs tt)
    (he : ∀ (s : Shared) (H : Hp) (C : Addr) (cl : List (Str × Addr)) (fp : List Addr), PE (X.blk s H scope (compEnvC scope cl C X.env) fp) elt te) (hs : ∀ x, foldedSetIterable iter X.env x = pure x := by intro _; rfl) :
    PS X (.Assign [.Name y py] (.ListComp elt [⟨tg, iter, ifs, 0⟩] scope pos) spos) (tAsg (tLc wi g tt te (own.map (·.2))) (gName i)) := by
  intro pins s σ H D I h
  rw [exec_Assign_Name_used _ _ _ _ hsw]
  refine wpAny_bind (wpAny_standAt (wpAny_bind ?_))
  show wpAny _ X.A (do let _ ← comprehension (.ListComp elt [⟨tg, iter, ifs, 0⟩] scope pos) scope X.env (firstIterPos [⟨tg, iter, ifs, 0⟩] pos) (newList []) false (eval iter X.env) (some (assign (.Name y py) X.env))) _ _ s
  have h : tLc wi g tt te (own.map (·.2)) σ H (fun x H1 => gName i x σ H1 D.nx) := h
  refine wpAny_bind (thn (lc_core (Qf := fun _ s' => SP X pins D .next s') hc hN I hi ok hg ht he hs h fun L C s' m H' I' q hn f => ?_) fun _ s' hq => wpAny_pure (wpAny_pure hq))
  show wpAny _ _ (assign (.Name y py) X.env (.ref L)) _ _ _
  refine wpAny_assign_Name (store_ok2 (v := V.ref L) I' hN hy (.inl hyl) rfl (fun s2 I2 ⟨a, sb, ha⟩ => ?_) (.inr hyl))
  obtain ⟨f0, f1, f2, f3, f4, f5⟩ := f
  have haC : C ≠ a := by
    rcases ha with z | z
    · rw [z]; exact f1
    · exact fun e => f4 y a z e.symm
  refine ⟨m, hn.sameBut sb haC, fun h3 sb3 => ?_⟩
  exact ⟨_, H', I2.turned (t' := s2.toks) (fun b o hb e => (sb3.2 b hb).trans e) f0 f1 f3 f4 f5, q⟩
theorem sw_true {elt : Expr} {gs : List Comprehension} {scope : Scope} {pos py : Pos} {y : Str} {l : Nat} {env : Env} (hk : env.scope.kind = .function) (hy : env.scope.names.lookup y = some .local) (hl : (py.line == pos.line) = true)
    (ha : (scope.names.any fun (n, k) => n == y && (k == .local || k == .cell)) = false) : swapsWith (.ListComp elt gs scope pos) (some (.Name y py)) l env = pure true := by
  have ky : env.kindOf y = some .local := hy
  have hb : env.blockKind = .function := by unfold Env.blockKind; rw [hk]; rfl
  unfold swapsWith
  simp only [hb, ky, ha, Expr.pos, hl]
  rfl
end
/-! ### the forms one uses -/
def blkC (N : List Str) (sc scope : Scope) (own : List (Str × Nat)) : Bool :=
  (match scope.kind with | .function => true | _ => false) && (scope.names.all fun y => decide (scope.names.lookup y.1 = some y.2)) && (own.all fun p => decide (N[p.2]? = some p.1)) &&
    (scope.names.all fun y => match y.2 with
      | .free => (match sc.names.lookup y.1 with | some .cell => true | some .free => true | _ => false)
      | .local => decide (y.1 ∈ own.map (·.1)) || decide (y.1 ∉ N)
      | .cell => decide (y.1 ∈ own.map (·.1)) || decide (y.1 ∉ N)
      | _ => true)
theorem blkOk_by {N : List Str} {sc scope : Scope} {own : List (Str × Nat)} (h : blkC N sc scope own = true) : BlkOk N sc scope own := by
  unfold blkC at h
  simp only [Bool.and_eq_true, List.all_eq_true, decide_eq_true_eq] at h
  obtain ⟨⟨⟨h1, h2⟩, h3⟩, h4⟩ := h
  refine ⟨?_, h2, h3, fun y hy e => ?_, fun y hy e => ?_⟩
  · split at h1
    · assumption
    · cases h1
  · have q := h4 y hy
    simp only [e] at q
    split at q <;> first | exact .inl (by assumption) | exact .inr (by assumption) | cases q
  · have q := h4 y hy
    rcases e with e | e <;> (simp only [e, Bool.or_eq_true, decide_eq_true_eq] at q; exact q)
end L2
namespace L2
open PySem PySem.Spec PyProof.Rows
section
variable {prog : Program} {w : World} {A : Around} {R : Result → Shared → Prop} {s : Shared} {elt t0 i0 t1 i1 : Expr} {ifs0 ifs1 : List Expr} {scope : Scope} {pos : Pos} {it acc : Value} {env : Env}
end
section
variable {X : Cx}
end
end L2
namespace L2
open PySem PySem.Spec PyProof.Rows
/-! ### lists of pairs as tables -/
section
variable {κ : Type} [DecidableEq κ]
def valV (kvs : List (κ × V)) (k : κ) : Option V := (kvs.find? fun kv => decide (kv.1 = k)).map (·.2)
/-- in its place, or at the end -/
def putK (kvs : List (κ × V)) (k : κ) (v : V) : List (κ × V) :=
  if (kvs.any fun kv => decide (kv.1 = k)) = true then kvs.map (fun kv => if kv.1 = k then (kv.1, v) else kv) else kvs ++ [(k, v)]
def dropK (kvs : List (κ × V)) (k : κ) : List (κ × V) := kvs.filter fun kv => decide (kv.1 ≠ k)
theorem valV_pos {p : κ × V} {r : List (κ × V)} {k : κ} (e : p.1 = k) : valV (p :: r) k = some p.2 := by simp [valV, List.find?_cons, e]
theorem valV_neg {p : κ × V} {r : List (κ × V)} {k : κ} (e : ¬ p.1 = k) : valV (p :: r) k = valV r k := by simp [valV, List.find?_cons, e]
theorem valV_any (k : κ) : ∀ kvs : List (κ × V), (kvs.any fun kv => decide (kv.1 = k)) = (valV kvs k).isSome
  | [] => rfl
  | p :: r => by
    rw [List.any_cons]
    by_cases e : p.1 = k
    · simp only [valV_pos e, decide_eq_true e, Bool.true_or, Option.isSome_some]
    · rw [valV_neg e, decide_eq_false e, Bool.false_or]; exact valV_any k r
theorem length_putK (kvs : List (κ × V)) (k : κ) (v : V) : (putK kvs k v).length ≤ kvs.length + 1 := by
  unfold putK
  split
  · rw [List.length_map]; omega
  · rw [List.length_append, List.length_cons, List.length_nil]; omega
theorem putK_new {kvs : List (κ × V)} {k : κ} (v : V) (h : valV kvs k = none) : putK kvs k v = kvs ++ [(k, v)] := by
  unfold putK
  rw [valV_any, h]
  exact if_neg (by decide)
theorem RelO.isSome_eq {o : Option V} {u : Option Value} (r : RelO o u) : o.isSome = u.isSome := by
  cases o with
  | none => cases u with
    | none => rfl
    | some _ => exact (show False from r).elim
  | some _ => cases u with
    | none => exact (show False from r).elim
    | some _ => rfl
/-- raw tables of the same keys -/
theorem KV.val {kvs : List (κ × V)} {vs : List (κ × Value)} (r : KV kvs vs) (k : κ) : RelO (valV kvs k) (valueAt vs k) := by
  unfold KV at r
  induction r with
  | nil => exact True.intro
  | @cons p q ps qs h t ih =>
    obtain ⟨h1, h2⟩ := h
    by_cases e : p.1 = k
    · have e' : q.1 = k := h1.symm.trans e
      have b : valueAt (q :: qs) k = some q.2 := by simp [valueAt, List.find?_cons, e']
      rw [valV_pos e, b]; exact h2
    · have e' : ¬ q.1 = k := fun z => e (h1.trans z)
      have b : valueAt (q :: qs) k = valueAt qs k := by simp [valueAt, List.find?_cons, e']
      rw [valV_neg e, b]; exact ih
theorem KV.any {kvs : List (κ × V)} {vs : List (κ × Value)} (r : KV kvs vs) (k : κ) : (kvs.any fun kv => decide (kv.1 = k)) = vs.any fun kv => decide (kv.1 = k) := by
  unfold KV at r
  induction r with
  | nil => rfl
  | cons h t ih => rw [List.any_cons, List.any_cons, ih, h.1]
theorem KV.repl {kvs : List (κ × V)} {vs : List (κ × Value)} (r : KV kvs vs) (k : κ) {y : V} {u : Value} (ry : RelV y u) :
    KV (kvs.map fun kv => if kv.1 = k then (kv.1, y) else kv) (vs.map fun kv => if kv.1 = k then (kv.1, u) else kv) := by
  unfold KV at r ⊢
  induction r with
  | nil => exact .nil
  | @cons p q ps qs h t ih =>
    rw [List.map_cons, List.map_cons]
    refine .cons ?_ ih
    obtain ⟨h1, h2⟩ := h
    by_cases e : p.1 = k
    · rw [if_pos e, if_pos (h1.symm.trans e)]; exact ⟨h1, ry⟩
    · rw [if_neg e, if_neg (fun z => e (h1.trans z))]; exact ⟨h1, h2⟩
theorem KV.put {kvs : List (κ × V)} {vs : List (κ × Value)} (r : KV kvs vs) (k : κ) {y : V} {u : Value} (ry : RelV y u) : KV (putK kvs k y) (stored vs k u) := by
  unfold putK stored
  rw [r.any k]
  by_cases e : (vs.any fun kv => decide (kv.1 = k)) = true
  · rw [if_pos e, if_pos e]; exact r.repl k ry
  · rw [if_neg e, if_neg e]; exact Paired.snoc r ⟨rfl, ry⟩
theorem KV.drop {kvs : List (κ × V)} {vs : List (κ × Value)} (r : KV kvs vs) (k : κ) : KV (dropK kvs k) (without vs k) := by
  unfold KV at r ⊢
  unfold dropK without
  induction r with
  | nil => exact .nil
  | @cons p q ps qs h t ih =>
    obtain ⟨h1, h2⟩ := h
    rw [List.filter_cons, List.filter_cons]
    by_cases e : p.1 = k
    · have a : ¬ decide (p.1 ≠ k) = true := by simp [e]
      have b : ¬ decide (q.1 ≠ k) = true := by simp [h1.symm.trans e]
      rw [if_neg a, if_neg b]; exact ih
    · have e' : ¬ q.1 = k := fun z => e (h1.trans z)
      have a : decide (p.1 ≠ k) = true := by simp [e]
      have b : decide (q.1 ≠ k) = true := by simp [e']
      rw [if_pos a, if_pos b]; exact .cons ⟨h1, h2⟩ ih
theorem KV.keys {kvs : List (κ × V)} {vs : List (κ × Value)} (r : KV kvs vs) : kvs.map (·.1) = vs.map (·.1) := by
  unfold KV at r
  induction r with
  | nil => rfl
  | cons h t ih => rw [List.map_cons, List.map_cons, ih, h.1]
theorem KV.length {kvs : List (κ × V)} {vs : List (κ × Value)} (r : KV kvs vs) : kvs.length = vs.length := Paired.length r
theorem dropK_le (kvs : List (κ × V)) (k : κ) : (dropK kvs k).length ≤ kvs.length := List.length_filter_le _ _
end
/-! ### a tracked dict, its keys ints and texts or tuples of these -/
theorem kV_is {P : Program} {w : World} {k : Key} {u : Value} (r : RelV (kV k) u) : (mixKind P w).is k u = true := by
  cases k with
  | inl i => obtain ⟨t, e⟩ := (show ∃ t, u = Value.int i t from r); subst e; exact mixKind_int P w i t
  | inr x => obtain ⟨t, e⟩ := (show ∃ t, u = Value.str x t from r); subst e; exact mixKind_str P w x t
theorem items_are {P : Program} {w : World} : ∀ {ks : List Key} {us : List Value}, Vals (ks.map kV) us → ItemsAre (mixKind P w) ks us
  | [], _, r => by rw [List.map_nil] at r; cases r; exact .nil
  | k :: ks, _, r => by
    rw [List.map_cons] at r
    cases r with
    | cons h t => exact .cons (kV_is h) (items_are t)
/-- raw entries of a dict with tuple keys -/
abbrev KT (H : Hp) : List (List Key × V) → List (List Key × Addr × Value) → Prop := Paired fun p q => p.1 = q.1 ∧ H q.2.1 = some (.tup (p.1.map kV)) ∧ RelV p.2 q.2.2
theorem KT.val {H : Hp} {kvs : List (List Key × V)} {xs : List (List Key × Addr × Value)} (r : KT H kvs xs) (k : List Key) : RelO (valV kvs k) ((atKey xs k).map (·.2)) := by
  induction r with
  | nil => exact True.intro
  | @cons p q ps qs h t ih =>
    obtain ⟨h1, _, h2⟩ := h
    by_cases e : p.1 = k
    · have e' : q.1 = k := h1.symm.trans e
      have b : atKey (q :: qs) k = some q.2 := by simp [atKey, List.find?_cons, e']
      rw [valV_pos e, b]; exact h2
    · have e' : ¬ q.1 = k := fun z => e (h1.trans z)
      have b : atKey (q :: qs) k = atKey qs k := by simp [atKey, List.find?_cons, e']
      rw [valV_neg e, b]; exact ih
theorem KT.repl {H : Hp} {kvs : List (List Key × V)} {xs : List (List Key × Addr × Value)} (r : KT H kvs xs) (k : List Key) {y : V} {u : Value} (ry : RelV y u) :
    KT H (kvs.map fun kv => if kv.1 = k then (kv.1, y) else kv) (xs.map (putAt k u)) := by
  induction r with
  | nil => exact .nil
  | @cons p q ps qs h t ih =>
    rw [List.map_cons, List.map_cons]
    refine .cons ?_ ih
    obtain ⟨h1, h2, h3⟩ := h
    unfold putAt
    by_cases e : p.1 = k
    · rw [if_pos e, if_pos (h1.symm.trans e)]; exact ⟨h1, h2, ry⟩
    · rw [if_neg e, if_neg (fun z => e (h1.trans z))]; exact ⟨h1, h2, h3⟩
theorem KT.put {H : Hp} {kvs : List (List Key × V)} {xs : List (List Key × Addr × Value)} (r : KT H kvs xs) (k : List Key) {b : Addr} {y : V} {u : Value} (hb : H b = some (.tup (k.map kV))) (ry : RelV y u) :
    KT H (putK kvs k y) (storedH xs k b u) := by
  have e : (kvs.any fun kv => decide (kv.1 = k)) = (atKey xs k).isSome := by
    rw [valV_any, (r.val k).isSome_eq, Option.isSome_map]
  unfold putK storedH
  rw [e]
  by_cases q : (atKey xs k).isSome = true
  · rw [if_pos q, if_pos q]; exact r.repl k ry
  · rw [if_neg q, if_neg q]; exact Paired.snoc r ⟨rfl, hb, ry⟩
theorem KT.keeps {H H' : Hp} {kvs : List (List Key × V)} {xs : List (List Key × Addr × Value)} (r : KT H kvs xs) (ht : ∀ b ys, H b = some (.tup ys) → H' b = some (.tup ys)) : KT H' kvs xs :=
  Paired.mapP r fun _ _ z => ⟨z.1, ht _ _ z.2.1, z.2.2⟩
section
variable {P : Program} {w : World} {H : Hp} {h : Heap} {a : Addr}
theorem rd_of {u : HO} (ok : HOk P w H h) (e : Rd H a u) : ObjOk P w H h a u := e.ok ok
theorem dk_rd {kvs : List (Key × V)} (ok : HOk P w H h) (e : Rd H a (.dK kvs)) : kvs.length ≤ sizeLine ∧ (a == sysModules) = false ∧ ∃ vs, KV kvs vs ∧ h.DictOf (mixKind P w) a vs :=
  show ObjOk P w H h a (.dK kvs) from rd_of ok e
theorem dk_of {kvs : List (Key × V)} (ok : HOk P w H h) (e : H a = some (.dK kvs)) : kvs.length ≤ sizeLine ∧ (a == sysModules) = false ∧ ∃ vs, KV kvs vs ∧ h.DictOf (mixKind P w) a vs := dk_rd ok (.inl e)
/-- a tracked tuple of ints and texts is a key -/
theorem key_of {ks : List Key} (ok : HOk P w H h) (e : H a = some (.tup (ks.map kV))) : (tupleKind (mixKind P w)).is h ks a := by
  obtain ⟨_, its, r, o, h1, h2, n, h3⟩ := (show ObjOk P w H h a (.tup (ks.map kV)) from ok a _ e)
  exact ⟨o, its.toArray, n, h1, h2, h3, by simpa using items_are r⟩
theorem dt_rd {kvs : List (List Key × V)} (ok : HOk P w H h) (e : Rd H a (.dT kvs)) : kvs.length ≤ sizeLine ∧ (a == sysModules) = false ∧
    ∃ xs, KT H kvs xs ∧ h.DictOfH (tupleKind (mixKind P w)) a xs := by
  obtain ⟨z, y, xs, r, o, es, ep, h1, h2, h3, h4, h5⟩ := (show ObjOk P w H h a (.dT kvs) from rd_of ok e)
  refine ⟨z, y, xs, r, o, es, ep, h1, h2, h3, h4, fun x hx => ?_, h5⟩
  have all : ∀ {l : List (List Key × V)} {m : List (List Key × Addr × Value)}, KT H l m → ∀ x ∈ m, (tupleKind (mixKind P w)).is h x.1 x.2.1 := by
    intro l m q
    induction q with
    | nil => intro x hx; exact nomatch hx
    | @cons p q ps qs hq t ih =>
      intro x hx
      rcases List.mem_cons.mp hx with e | hx
      · subst e
        exact key_of ok (by rw [← hq.1]; exact hq.2.1)
      · exact ih x hx
  exact all r x hx
theorem dt_of {kvs : List (List Key × V)} (ok : HOk P w H h) (e : H a = some (.dT kvs)) : kvs.length ≤ sizeLine ∧ (a == sysModules) = false ∧
    ∃ xs, KT H kvs xs ∧ h.DictOfH (tupleKind (mixKind P w)) a xs := dt_rd ok (.inl e)
end
/-- what the dict at a holds at the key y -/
def DGet (H : Hp) (a : Addr) (y : V) (r : Option V) : Prop :=
  (∃ kvs k, Rd H a (.dK kvs) ∧ y = kV k ∧ r = valV kvs k) ∨ ∃ kvs k b, Rd H a (.dT kvs) ∧ y = .ref b ∧ H b = some (.tup (k.map kV)) ∧ r = valV kvs k
/-- the heap behind a[y] = v -/
def DPut (H : Hp) (a : Addr) (y v : V) (H' : Hp) : Prop :=
  (∃ kvs k, H a = some (.dK kvs) ∧ y = kV k ∧ kvs.length < sizeLine ∧ H' = upd H a (.dK (putK kvs k v))) ∨
  ∃ kvs k b, H a = some (.dT kvs) ∧ y = .ref b ∧ H b = some (.tup (k.map kV)) ∧ kvs.length < sizeLine ∧ H' = upd H a (.dT (putK kvs k v))
theorem DGet.k {H : Hp} {a : Addr} {kvs : List (Key × V)} {k : Key} (e : H a = some (.dK kvs)) : DGet H a (kV k) (valV kvs k) := .inl ⟨kvs, k, .inl e, rfl, rfl⟩
theorem DPut.k {H : Hp} {a : Addr} {kvs : List (Key × V)} {k : Key} {v : V} (e : H a = some (.dK kvs)) (hl : kvs.length < sizeLine) : DPut H a (kV k) v (upd H a (.dK (putK kvs k v))) := .inl ⟨kvs, k, e, rfl, hl, rfl⟩
section
variable {X : Cx} {pins : List (Addr × Obj)} {σ : St} {H : Hp} {s : Shared} {a : Addr} {y v : V} {u r : Value} {o : Option V} {A : Around} {E : Value → Shared → Prop}
theorem Inv.big (I : Inv X pins σ H s) : sysModules < s.heap.objs.size := by
  have h : mainGlobals < s.heap.objs.size := (I.mod.glob.keeps I.bk).lt
  exact Nat.lt_trans (by decide) h
/-- d[y], there -/
theorem d_getItem {Q : Value → Shared → Prop} (hu : A.units + 1 < cLine) (I : Inv X pins σ H s) (g : DGet H a y (some v)) (ry : RelV y u) (h : ∀ w' s', Inv X pins σ H s' → RelV v w' → Q w' s') :
    wpAny (model X.prog X.w) A (getItem (.ref a) u) Q E s := by
  rcases g with ⟨kvs, k, e, ey, l⟩ | ⟨kvs, k, b, e, ey, eb, l⟩
  · subst ey
    obtain ⟨z, hd, vs, rel, dd⟩ := dk_rd I.hok e
    obtain ⟨w', hw, rw'⟩ := RelO.some_of (v := v) (o := valueAt vs k) (by rw [l]; exact rel.val k)
    exact wpAny_getItem_of (kV_is ry) dd.mapOf hw (h w' _ (I.tok _) rw')
  · subst ey
    cases (show u = Value.ref b from ry)
    obtain ⟨z, hd, xs, rel, dd⟩ := dt_rd I.hok e
    obtain ⟨w', hw, rw'⟩ := RelO.some_of (v := v) (o := (atKey xs k).map (·.2)) (by rw [l]; exact rel.val k)
    obtain ⟨p, hp, hp2⟩ := Option.map_eq_some_iff.mp hw
    refine wpAny_getItem_heap (tupleKind_room_in1 hu) (key_of I.hok eb) dd hp ?_
    rw [hp2]
    exact h w' _ (I.tok _) rw'
/-- y in d -/
theorem d_in {Q : Value → Shared → Prop} (hu : A.units + 1 < cLine) (I : Inv X pins σ H s) (g : DGet H a y o) (ry : RelV y u) (h : ∀ s', Inv X pins σ H s' → Q (.bool o.isSome) s') :
    wpAny (model X.prog X.w) A (compareOp .In u (.ref a)) Q E s := by
  rcases g with ⟨kvs, k, e, ey, l⟩ | ⟨kvs, k, b, e, ey, eb, l⟩
  · subst ey
    obtain ⟨z, hd, vs, rel, dd⟩ := dk_rd I.hok e
    refine wpAny_in_of (kV_is ry) hd dd.mapOf ?_
    rw [← (rel.val k).isSome_eq, ← l]
    exact h _ (I.tok _)
  · subst ey
    cases (show u = Value.ref b from ry)
    obtain ⟨z, hd, xs, rel, dd⟩ := dt_rd I.hok e
    refine wpAny_in_heap (tupleKind_room_in1 hu) (key_of I.hok eb) hd dd ?_
    have q := (rel.val k).isSome_eq
    rw [Option.isSome_map] at q
    rw [← q, ← l]
    exact h _ (I.tok _)
theorem d_notIn {Q : Value → Shared → Prop} (hu : A.units + 1 < cLine) (I : Inv X pins σ H s) (g : DGet H a y o) (ry : RelV y u) (h : ∀ s', Inv X pins σ H s' → Q (.bool (!o.isSome)) s') :
    wpAny (model X.prog X.w) A (compareOp .NotIn u (.ref a)) Q E s := by
  rcases g with ⟨kvs, k, e, ey, l⟩ | ⟨kvs, k, b, e, ey, eb, l⟩
  · subst ey
    obtain ⟨z, hd, vs, rel, dd⟩ := dk_rd I.hok e
    refine wpAny_notIn_of (kV_is ry) hd dd.mapOf ?_
    rw [← (rel.val k).isSome_eq, ← l]
    exact h _ (I.tok _)
  · subst ey
    cases (show u = Value.ref b from ry)
    obtain ⟨z, hd, xs, rel, dd⟩ := dt_rd I.hok e
    refine wpAny_notIn_heap (tupleKind_room_in1 hu) (key_of I.hok eb) hd dd ?_
    have q := (rel.val k).isSome_eq
    rw [Option.isSome_map] at q
    rw [← q, ← l]
    exact h _ (I.tok _)
/-- a dict's object is replaced -/
theorem d_write {h' : Heap} {t' : Nat} {ob : HO} (I : Inv X pins σ H s) (mu : Mut (H a)) (hs : Heap.SameBut a s.heap h') (he : ∃ q, h'.get? a = some q) (new : ObjOk X.prog X.w (upd H a ob) h' a ob) :
    Inv X pins σ (upd H a ob) { s with heap := h', toks := t' } :=
  I.write (x := a) (e := a) mu (.inl rfl) (fun b q hb z => (hs.2 b hb).trans z) he new
theorem dk_new {P : Program} {w : World} {H' : Hp} {h' : Heap} {kvs : List (Key × V)} {vs : List (Key × Value)} (z : kvs.length ≤ sizeLine) (hd : (a == sysModules) = false) (rel : KV kvs vs) (dd : h'.DictOf (mixKind P w) a vs) :
    ObjOk P w H' h' a (.dK kvs) := ⟨z, hd, vs, rel, dd⟩
/-- d[y] = v -/
theorem d_setItem {H' : Hp} {Q : Unit → Shared → Prop} (hu : A.units + 1 < cLine) (I : Inv X pins σ H s) (g : DPut H a y v H') (ry : RelV y u) (rv : RelV v r) (h : ∀ s', Inv X pins σ H' s' → Q () s') :
    wpAny (model X.prog X.w) A (setItem (.ref a) u r) Q E s := by
  rcases g with ⟨kvs, k, e, ey, l, eH⟩ | ⟨kvs, k, b, e, ey, eb, l, eH⟩
  · subst ey eH
    obtain ⟨z, hd, vs, rel, dd⟩ := dk_of I.hok e
    have hz : vs.length ≤ sizeLine := by rw [← rel.length]; exact z
    have hl : (putK kvs k v).length ≤ sizeLine := by have := length_putK kvs k v; omega
    refine wpAny_setItem_pairs (hsz := hz) (kV_is ry) dd fun h' dd' hs => h _ ?_
    have he : ∃ q, h'.get? a = some q := let ⟨q, _, _, hq, _⟩ := dd'; ⟨q, hq⟩
    exact d_write I (by rw [e]; exact True.intro) hs he (dk_new hl hd (rel.put k rv) dd')
  · subst ey eH
    cases (show u = Value.ref b from ry)
    obtain ⟨z, hd, xs, rel, dd⟩ := dt_of I.hok e
    have hz : xs.length ≤ sizeLine := by rw [← Paired.length rel]; exact z
    have hl : (putK kvs k v).length ≤ sizeLine := by have := length_putK kvs k v; omega
    refine wpAny_setItem_heap (hsz := hz) (tupleKind_room_in1 hu) (key_of I.hok eb) dd fun h' dd' hs => h _ ?_
    obtain ⟨q, es, ep, hq, h2, h3, h4, _, h5⟩ := dd'
    refine d_write I (by rw [e]; exact True.intro) hs ⟨q, hq⟩ ⟨hl, hd, _, (rel.put k eb rv).keeps fun c ys ec => ?_, q, es, ep, hq, h2, h3, h4, h5⟩
    rw [upd_ne (ne_of ec e (fun z => nomatch z))]
    exact ec
end
section
variable {X : Cx} {pins : List (Addr × Obj)} {σ : St} {H : Hp} {s : Shared} {a : Addr} {kvs : List (Key × V)} {k : Key} {u : Value} {A : Around} {E : Value → Shared → Prop}
/-- d.pop(k[, x]), there -/
theorem d_pop {v : V} {more : List Value} {Q : Value → Shared → Prop} (I : Inv X pins σ H s) (e : H a = some (.dK kvs)) (ry : RelV (kV k) u) (l : valV kvs k = some v) (hm : more = [] ∨ ∃ x, more = [x])
    (h : ∀ w' s', Inv X pins σ (upd H a (.dK (dropK kvs k))) s' → RelV v w' → Q w' s') : wpAny (model X.prog X.w) A (call (.builtin "dict.pop") (.ref a :: u :: more)) Q E s := by
  obtain ⟨z, hd, vs, rel, dd⟩ := dk_of I.hok e
  obtain ⟨w', hw, rw'⟩ := RelO.some_of (v := v) (o := valueAt vs k) (by rw [← l]; exact rel.val k)
  have hp : (keyPart u).isSome = true := by
    cases k with
    | inl i => obtain ⟨t, q⟩ := (show ∃ t, u = Value.int i t from ry); subst q; rfl
    | inr x => obtain ⟨t, q⟩ := (show ∃ t, u = Value.str x t from ry); subst q; rfl
  have ha : argsOk "dict.pop" ⟨.ref a :: u :: more, []⟩ := by
    rcases hm with q | ⟨x, q⟩
    · subst q; exact PySem.F.args_dict_pop_2 _ _
    · subst q; exact PySem.F.args_dict_pop_3 _ _ _
  refine call_meetsIn PySem.F.slot_dict_pop dd.typeIs PySem.F.entry_dict_pop ha (meets_dict_pop_there (mixKind X.prog X.w) a (kV_is ry) more hm hp)
    ⟨vs, w', dd, by rw [← rel.length]; exact z, hw, fun h' dd' hs => h w' _ ?_ rw'⟩
  have he : ∃ q, h'.get? a = some q := let ⟨q, _, _, hq, _⟩ := dd'; ⟨q, hq⟩
  exact d_write I (by rw [e]; exact True.intro) hs he (dk_new (Nat.le_trans (dropK_le kvs k) z) hd (rel.drop k) dd')
/-- len(d) -/
theorem d_len {Q : Value → Shared → Prop} (I : Inv X pins σ H s) (e : Rd H a (.dK kvs)) (h : ∀ t s', Inv X pins σ H s' → Q (.int kvs.length t) s') : wpAny (model X.prog X.w) A (call (.builtin "len") [.ref a]) Q E s := by
  obtain ⟨z, hd, vs, rel, dd⟩ := dk_rd I.hok e
  refine call_len_dict hd dd (by rw [← rel.length]; rw [sizeLine_eq] at z; omega) ?_
  rw [← rel.length]
  exact h _ _ (I.tok _)
end
/-! ### readings and rules -/
/-- the element of a subscription, not a slice -/
def NoSl (i : Expr) : Prop := ∀ ov iv, subscripted i false ov iv = operate [ov, iv] (getItem ov iv)
theorem subD_of {prog : Program} {w : World} {A : Around} {E : Value → Shared → Prop} {s : Shared} {env : Env} {value slice : Expr} {pos : Pos} {T id : String} {Q : Value → Shared → Prop}
    (hl : typeLookup (.type T) "__getitem__" = pure (some (.builtin id))) (hs : NoSl slice)
    (h : wpAny (model prog w) A (eval value env) (fun o s₁ => wpAny (model prog w) A (eval slice env) (fun i s₂ => s₂.TypeIs o T ∧ wpAny (model prog w) A (getItem o i) Q E s₂) E s₁) E s) :
    wpAny (model prog w) A (eval (.Subscript value slice pos) env) Q E s := by
  refine Subscript_ (wpAny_mono h (fun o s₁ h₁ => wpAny_mono h₁ (fun i s₂ h₂ => ?_) fun _ _ x => x) fun _ _ x => x)
  obtain ⟨hT, h₂⟩ := h₂
  unfold subscriptTail
  refine wpAny_bind ?_
  rw [getitemInPython_of_ne hT.not_modules]
  refine wpAny_bind (wpAny_specialOf hT hl ?_)
  have fin : wpAny (model prog w) A (subscripted slice false o i) (fun r s₃ => wpAny (model prog w) A (letTemporaryGo value o r >>= fun _ => pure r) Q E s₃) E s₂ := by
    rw [hs o i]
    exact wpAny_operating (wpAny_mono h₂ (fun r s₃ h₃ => wpAny_bind (wpAny_letTemporaryGo (wpAny_pure h₃))) fun _ _ x => x)
  first
    | exact wpAny_pure (wpAny_bind fin)
    | exact wpAny_bind (wpAny_pure (wpAny_bind fin))
    | exact wpAny_bind fin
theorem dict_typeIs {X : Cx} {pins : List (Addr × Obj)} {σ : St} {H : Hp} {s : Shared} {a : Addr} {y : V} {o : Option V} (I : Inv X pins σ H s) (g : DGet H a y o) : s.TypeIs (.ref a) "dict" := by
  rcases g with ⟨kvs, k, e, _, _⟩ | ⟨kvs, k, b, e, _, _, _⟩
  · obtain ⟨_, _, vs, _, dd⟩ := dk_rd I.hok e
    exact dd.typeIs
  · obtain ⟨_, _, xs, _, dd⟩ := dt_rd I.hok e
    exact dd.typeIs
/-- d[y] -/
def tDGet (td ty : TE) : TE := fun σ H Q => td σ H fun x H1 => ty σ H1 fun y H2 => ∃ a v, x = .ref a ∧ DGet H2 a y (some v) ∧ Q v H2
/-- y in d, y not in d -/
def tDIn (ty td : TE) : TE := fun σ H Q => ty σ H fun y H1 => td σ H1 fun x H2 => ∃ a o, x = .ref a ∧ DGet H2 a y o ∧ Q (.bl o.isSome) H2
def tDNotIn (ty td : TE) : TE := fun σ H Q => ty σ H fun y H1 => td σ H1 fun x H2 => ∃ a o, x = .ref a ∧ DGet H2 a y o ∧ Q (.bl (!o.isSome)) H2
/-- d[y] = v -/
def sDPut (td ty tv : TE) : TS := fun D σ H => tv σ H fun v H1 => td σ H1 fun x H2 => ty σ H2 fun y H3 => ∃ a H4, x = .ref a ∧ DPut H3 a y v H4 ∧ D.nx σ H4
section
variable {X : Cx} {o i e value : Expr} {pos pos' tpos : Pos} {td ty tv : TE}
theorem pe_dget (hu : X.A.units + 1 < cLine) (ho : PE X o td) (hi : PE X i ty) (hs : NoSl i) : PE X (.Subscript o i pos) (tDGet td ty) := by
  intro pins s σ H Q I h
  refine subD_of PySem.F.slot_dict_getitem.lookup hs (thn (ho pins s σ H _ I h) fun u s1 ⟨x, H1, I1, rx, q1⟩ => thn (hi pins s1 σ H1 _ I1 q1) fun iv s2 ⟨y, H2, I2, ry, a, v, ex, g, q2⟩ => ?_)
  subst ex
  obtain rfl : u = Value.ref a := rx
  exact ⟨dict_typeIs I2 g, d_getItem hu I2 g ry fun w' s3 I3 rw' => ⟨v, H2, I3, rw', q2⟩⟩
theorem pc_din (hu : X.A.units + 1 < cLine) (hi : PE X i ty) (ho : PE X o td) : PC X .In i o (tDIn ty td) := by
  intro pins s σ H Q I h
  refine thn (hi pins s σ H _ I h) fun iv s1 ⟨y, H1, I1, ry, q1⟩ => thn (ho pins s1 σ H1 _ I1 q1) fun u s2 ⟨x, H2, I2, rx, a, ov, ex, g, q2⟩ => ?_
  subst ex
  obtain rfl : u = Value.ref a := rx
  exact d_in hu I2 g ry fun s3 I3 => ⟨.bl ov.isSome, H2, I3, rfl, q2⟩
theorem pc_dnotin (hu : X.A.units + 1 < cLine) (hi : PE X i ty) (ho : PE X o td) : PC X .NotIn i o (tDNotIn ty td) := by
  intro pins s σ H Q I h
  refine thn (hi pins s σ H _ I h) fun iv s1 ⟨y, H1, I1, ry, q1⟩ => thn (ho pins s1 σ H1 _ I1 q1) fun u s2 ⟨x, H2, I2, rx, a, ov, ex, g, q2⟩ => ?_
  subst ex
  obtain rfl : u = Value.ref a := rx
  exact d_notIn hu I2 g ry fun s3 I3 => ⟨.bl (!ov.isSome), H2, I3, rfl, q2⟩
theorem ps_dput (hu : X.A.units + 1 < cLine) (ho : PE X o td) (hi : PE X i ty) (hv : PE X value tv) (hs : swapsWith value (some (.Subscript o i pos')) pos.line X.env = pure false) :
    PS X (.Assign [.Subscript o i pos'] value pos) (sDPut td ty tv) := by
  intro pins s σ H D I h
  refine wpAny_Assign_Subscript (thn (hv pins s σ H _ I h) fun r s1 ⟨v, H1, I1, rv, q1⟩ => thn (ho pins s1 σ H1 _ I1 q1) fun u s2 ⟨x, H2, I2, rx, q2⟩ => thn (hi pins s2 σ H2 _ I2 q2) fun iv s3 ⟨y, H3, I3, ry, a, H4, ex, g, q3⟩ => ?_) hs
  subst ex
  obtain rfl : u = Value.ref a := rx
  exact d_setItem hu I3 g ry rv fun s4 I4 => ⟨σ, H4, I4, q3⟩
end
/-! ### displays -/
theorem dk_empty {P : Program} {w : World} {H : Hp} (h : Heap) (hb : sysModules < h.objs.size) : ObjOk P w H (h.push { cls := .type "dict", data := .dict #[] }) h.objs.size (.dK []) :=
  ⟨Nat.zero_le _, beq_eq_false_iff_ne.mpr (Ne.symm (Nat.ne_of_lt hb)), [], .nil, Heap.DictOf.new h⟩
/-- {}, to be a dict of the kind that is wanted -/
def tDNewK : TE := fun _ H Q => ∀ p, H p = none → Q (.ref p) (upd H p (.dK []))
section
variable {X : Cx} {pos : Pos}
theorem pe_dnewK : PE X (.Dict [] [] pos) tDNewK := fun pins s σ H Q I h =>
  wpAny_Dict_empty ⟨.ref s.heap.objs.size, _, I.laid (a := s.heap.objs.size) (o := .dK []) (t' := s.toks) (fun _ _ q => Heap.get?_push_of_some _ q) (Nat.le_refl _) (dk_empty s.heap I.big), rfl, h _ (I.hok.fresh (Nat.le_refl _))⟩
end
/-! ### methods -/
/-- a method call o.m(e) of a built-in, with one argument: what must be seen of the text -/
structure M1 (X : Cx) (o : Expr) (m : Str) (apos : Pos) (e : Expr) (cpos : Pos) : Prop where
  base : attributeBase o m X.env (eval o X.env) = eval o X.env
  few : ((backTo cpos (starEach [e] X.env)).all (fun x => !x.1) && (backToKw cpos (keywordEach [] X.env)).all (fun x => x.1.isSome)
    && decide (([e] : List Expr).length + ([] : List Keyword).length + (if ([] : List Keyword).isEmpty then 0 else 1) < 30)) = true
  line : (apos.endLine == cpos.line) = true
  trees : backTo cpos (starEach [e] X.env) = [(false, eval e X.env)]
structure M2 (X : Cx) (o : Expr) (m : Str) (apos : Pos) (e f : Expr) (cpos : Pos) : Prop where
  base : attributeBase o m X.env (eval o X.env) = eval o X.env
  few : ((backTo cpos (starEach [e, f] X.env)).all (fun x => !x.1) && (backToKw cpos (keywordEach [] X.env)).all (fun x => x.1.isSome)
    && decide (([e, f] : List Expr).length + ([] : List Keyword).length + (if ([] : List Keyword).isEmpty then 0 else 1) < 30)) = true
  line : (apos.endLine == cpos.line) = true
  trees : backTo cpos (starEach [e, f] X.env) = [(false, eval e X.env), (false, eval f X.env)]
/-- a is a dict, whatever its keys -/
def IsD (H : Hp) (a : Addr) : Prop := (∃ kvs, Rd H a (.dK kvs)) ∨ ∃ kvs, Rd H a (.dT kvs)
theorem isD_at {X : Cx} {pins : List (Addr × Obj)} {σ : St} {H : Hp} {s : Shared} {a : Addr} (I : Inv X pins σ H s) (d : IsD H a) :
    s.TypeIs (.ref a) "dict" ∧ (∀ b, Value.ref a = .ref b → ∃ ob, s.heap.get? b = some ob ∧ ob.dict = none) ∧ (a == sysModules) = false := by
  rcases d with ⟨kvs, e⟩ | ⟨kvs, e⟩
  · obtain ⟨_, hd, vs, _, dd⟩ := dk_rd I.hok e
    refine ⟨dd.typeIs, fun b q => ?_, hd⟩
    cases q
    obtain ⟨ob, _, _, h1, h2, _⟩ := dd
    exact ⟨ob, h1, h2.2.1⟩
  · obtain ⟨_, hd, xs, _, dd⟩ := dt_rd I.hok e
    refine ⟨dd.typeIs, fun b q => ?_, hd⟩
    cases q
    obtain ⟨ob, _, _, h1, h2, _⟩ := dd
    exact ⟨ob, h1, h2.2.1⟩
section
variable {X : Cx} {pins : List (Addr × Obj)} {σ : St} {H : Hp} {s : Shared} {a : Addr} {y d : V} {u r : Value} {o : Option V} {A : Around} {E : Value → Shared → Prop}
end
/-- d.pop(k): there; d.pop(k, x): there or not -/
def tDPop1 (td ty : TE) : TE := fun σ H Q => td σ H fun x H1 => ∃ a, x = .ref a ∧ IsD H1 a ∧ ty σ H1 fun y H2 => ∃ kvs k v, H2 a = some (.dK kvs) ∧ y = kV k ∧ valV kvs k = some v ∧ Q v (upd H2 a (.dK (dropK kvs k)))
section
variable {X : Cx} {o e f : Expr} {apos cpos : Pos} {td ty tx : TE}
theorem pe_dpop1 (ho : PE X o td) (he : PE X e ty) (m : M1 X o "pop" apos e cpos) : PE X (.Call (.Attribute o "pop" apos) [e] [] cpos) (tDPop1 td ty) := by
  intro pins s σ H Q I h
  refine wpAny_Call_method m.base m.few m.line PySem.F.plainAttrs_dict PySem.F.slot_dict_pop PySem.F.type_dict_pop (thn (ho pins s σ H _ I h) fun u s1 ⟨x, H1, I1, rx, a, ex, d, q1⟩ => ?_)
  subst ex
  obtain rfl : u = Value.ref a := rx
  obtain ⟨t1, t2, _⟩ := isD_at I1 d
  refine ⟨t1, t2, ?_⟩
  rw [m.trees]
  refine Calls.callWith_builtin rfl (Calls.evalArgs_plain (Calls.spliced_cons (thn (he pins s1 σ H1 _ I1 q1) fun iv s2 ⟨y, H2, I2, ry, kvs, k, v, ea, ey, l, q2⟩ => Calls.spliced_nil ?_)))
  subst ey
  exact d_pop I2 ea ry l (.inl rfl) fun w' s3 I3 rw' => ⟨v, _, I3, rw', q2⟩
end
/-! ### dict(d): a copy -/
section
variable {X : Cx} {pins : List (Addr × Obj)} {σ : St} {H : Hp} {s : Shared} {a : Addr} {kvs : List (Key × V)} {A : Around} {E : Value → Shared → Prop}
end
section
variable {X : Cx} {pins : List (Addr × Obj)} {σ : St} {H : Hp} {s : Shared} {a : Addr} {y : V} {u : Value} {A : Around} {E : Value → Shared → Prop}
end
end L2
namespace L2
open PySem PySem.Spec PyProof.Rows
section
variable {prog : Program} {w : World} {A : Around} {E : Value → Shared → Prop}
end
section
variable {X : Cx}
end
end L2
namespace L2
open PySem PySem.Spec PyProof.Rows
section
variable {X : Cx} {pins : List (Addr × Obj)} {σ : St} {H : Hp} {s : Shared} {h' : Heap}
/-! ### locking a thing while a statement runs -/
theorem Inv.lock {d : Addr} {u : HO} (I : Inv X pins σ H s) (h : H d = some u) (mu : Mut (some u)) : ∃ od, Inv X pins σ (upd H d (.frz od u)) s := by
  have x := I.hok d u h
  have ex : ∃ od, s.heap.get? d = some od := by
    cases u with
    | lst xs => obtain ⟨_, _, _, _, e⟩ := x; exact ⟨_, e⟩
    | dK kvs => obtain ⟨_, _, _, _, o, _, _, e, _⟩ := x; exact ⟨o, e⟩
    | dT kvs => obtain ⟨_, _, _, _, o, _, _, e, _⟩ := x; exact ⟨o, e⟩
    | set S n => obtain ⟨o, _, _, _, e, _⟩ := x; exact ⟨o, e⟩
    | ins C dx fs => obtain ⟨_, _, _, e, _⟩ := x; exact ⟨_, e⟩
    | ext φ => obtain ⟨_, ⟨_, e⟩, _⟩ := x; exact ⟨_, e⟩
    | _ => exact False.elim mu
  obtain ⟨od, e⟩ := ex
  have new : ObjOk X.prog X.w (upd H d (.frz od u)) s.heap d (.frz od u) := by
    refine ⟨e, x.stay (fun b v _ q => q) (fun b q => ?_) fun b xs q => ?_⟩
    · rw [upd_ne (fun z => by rw [z, h] at q; cases q; exact mu)]; exact q
    · rw [upd_ne (fun z => by rw [z, h] at q; cases q; exact mu)]; exact q
  exact ⟨od, I.write (x := d) (e := d) (t' := s.toks) (h' := s.heap) (by rw [h]; exact mu) (.inl rfl) (fun b v _ q => q) ⟨od, e⟩ new⟩
theorem Inv.nofrz {d : Addr} {u : HO} (I : Inv X pins σ H s) (h : H d = some u) (mu : Mut (some u)) : ∀ o' u', X.H_0 d ≠ some (.frz o' u') := fun o' u' e => by
  have q := I.base.frzs d o' u' e
  rw [h] at q
  cases q
  exact mu
theorem Inv.unlock {d : Addr} {od : Obj} {u : HO} (I : Inv X pins σ H s) (h : H d = some (.frz od u)) (hn : ∀ o' u', X.H_0 d ≠ some (.frz o' u')) : Inv X pins σ (upd H d u) s := by
  have neH : ∀ b o, H b = some o → (∀ o' u', o ≠ .frz o' u') → b ≠ d := fun b o e hne z => by
    rw [z, h] at e
    cases e
    exact hne _ _ rfl
  have neN : ∀ b, H b = none → b ≠ d := fun b e z => by rw [z, h] at e; cases e
  refine ⟨I.ok, I.os, I.bare, ⟨I.base.keep, I.base.slot, fun b o e n hx => ?_, I.base.there, fun b xs e => ?_, fun b o x e => ?_, fun b ps e => ?_⟩, I.loc, I.cell, ?_, fun x c e => ?_, fun p hp => ?_, fun b o e => ?_, I.len⟩
  · rw [upd_ne (neN b (I.base.free b o e n hx))]; exact I.base.free b o e n hx
  · have q := I.base.tups b xs e
    rw [upd_ne (neH b _ q (fun _ _ z => nomatch z))]; exact q
  · have q := I.base.frzs b o x e
    rw [upd_ne (fun z => by rw [z] at e; exact hn _ _ e)]; exact q
  · obtain ⟨m, q⟩ := I.base.tbls b ps e
    exact ⟨m, by rw [upd_ne (neH b _ q (fun _ _ z => nomatch z))]; exact q⟩
  · rw [upd_ne (neN _ I.free)]; exact I.free
  · rw [upd_ne (neN c (I.freeC x c e))]; exact I.freeC x c e
  · obtain ⟨e, n, r⟩ := I.pin p hp
    exact ⟨e, by rw [upd_ne (neN _ n)]; exact n, r⟩
  · by_cases hb : b = d
    · rw [hb, upd_same] at e
      cases e
      rw [hb]
      obtain ⟨_, x⟩ := I.hok d _ h
      exact x.stay (fun c v _ q => q) (fun c q => by rw [upd_ne (neH c _ q (fun _ _ z => nomatch z))]; exact q) fun c xs q => by rw [upd_ne (neH c _ q (fun _ _ z => nomatch z))]; exact q
    · rw [upd_ne hb] at e
      exact (I.hok b o e).stay (fun c v _ q => q) (fun c q => by rw [upd_ne (neH c _ q (fun _ _ z => nomatch z))]; exact q) fun c xs q => by rw [upd_ne (neH c _ q (fun _ _ z => nomatch z))]; exact q
end
/-- the statement runs while the thing at d is locked (read, not written); d and what stands there are the reading's choice -/
def tLock (t : TS) : TS := fun D σ H => ∃ d u, H d = some u ∧ Mut (some u) ∧ ∀ od, t ⟨fun σ' H' => H' d = some (.frz od u) ∧ D.nx σ' (upd H' d u), fun v H' => H' d = some (.frz od u) ∧ D.rt v (upd H' d u), fun σ' H' => H' d = some (.frz od u) ∧ D.bk σ' (upd H' d u), fun σ' H' => H' d = some (.frz od u) ∧ D.ct σ' (upd H' d u)⟩ σ (upd H d (.frz od u))
section
variable {X : Cx}
theorem ps_lock {st : Stmt} {t : TS} (h : PS X st t) : PS X st (tLock t) := by
  intro pins s σ H D I hw
  obtain ⟨d, u, hd, mu, hw⟩ := hw
  obtain ⟨od, I1⟩ := I.lock hd mu
  refine thn (h pins s σ _ _ I1 (hw od)) fun f s1 q => ?_
  cases f with
  | next => obtain ⟨σ', H', I2, e, q⟩ := q; exact ⟨σ', _, I2.unlock e (I.nofrz hd mu), q⟩
  | brk => obtain ⟨σ', H', I2, e, q⟩ := q; exact ⟨σ', _, I2.unlock e (I.nofrz hd mu), q⟩
  | cont => obtain ⟨σ', H', I2, e, q⟩ := q; exact ⟨σ', _, I2.unlock e (I.nofrz hd mu), q⟩
  | ret v => obtain ⟨x, σ', H', I2, r, e, q⟩ := q; exact ⟨x, σ', _, I2.unlock e (I.nofrz hd mu), r, q⟩
/-! ### one iterator just laid -/
theorem pi_one {tg : Expr} {pins : List (Addr × Obj)} {σ : St} {H : Hp} {s : Shared} {R : It → Hp → Prop} {J : It} {tn : Nat → Heap → Prop} {tk : Nat} (I : Inv X pins σ H s) (o : Obj)
    (T : Turn X.prog X.w X.K tg J [s.heap.objs.size] s.heap.objs.size tn) (st : tn 0 (s.heap.push o)) (q : R J H) : PIE X pins σ tg R (.ref s.heap.objs.size) { s with heap := s.heap.push o, toks := tk } := by
  refine ⟨s.heap.objs.size, [s.heap.objs.size], tn, J, H, rfl, I.kept fun b ob e => Heap.get?_push_of_some _ e, T, st, fun b hb => ?_, q⟩
  have e : b = s.heap.objs.size := by simpa using hb
  subst e
  exact I.fpOk (Nat.le_refl _) (I.hok.fresh (Nat.le_refl _))
end
/-! ### range with a step -/
section
variable {X : Cx} {tg : Expr}
end
/-! ### reversed(list) -/
section
variable {X : Cx} {tg : Expr}
end
/-! ### a str -/
/-! ### a dict's keys: any dict's entries -/
section
variable {prog : Program} {w : World} {A : Around} {E : Value → Shared → Prop} {s : Shared}
theorem iter_keys {d : Addr} {o : Obj} {es : Array DictEntry} {ep : Nat} {Q : Value → Shared → Prop} (hd : (d == sysModules) = false) (ho : s.heap.get? d = some o) (hc : o.ExactDict) (hdat : o.data = .dict es ep)
    (hQ : Q (.ref s.heap.objs.size) { s with heap := s.heap.push { cls := .type "dict_keyiterator", data := .fields #[.ref d, .int 0 0, .int es.size 0, .int ep 0] } }) :
    wpAny (model prog w) A (pyIter (.ref d)) Q E s := by
  have hT : s.TypeIs (.ref d) "dict" := ⟨o, ho, hc.1⟩
  refine wpAny_pyIter_slot hT F.slot_dict_iter (wpAny_call_entry F.slot_dict_iter hT F.entry_dict_iter ?_ (F.args_dict_iter_1 _))
  unfold Builtin.«dict.__iter__»
  refine wpAny_bind ?_
  unfold Builtin.Dict.dictSlotNone
  refine wpAny_bind (wpAny_notOrdered_dict hT ?_)
  show wpAny _ _ (pure (Value.ref d)) _ _ s
  refine wpAny_pure ?_
  show wpAny _ _ (Builtin.Dict.showsAll d >>= _) _ _ s
  unfold Builtin.Dict.showsAll
  rw [if_neg (by rw [hd]; exact Bool.false_ne_true)]
  refine wpAny_bind (wpAny_pure ?_)
  refine wpAny_bind (wpAny_dictEntries ho hdat ?_)
  refine wpAny_bind (wpAny_dictEpoch ho hdat ?_)
  refine wpAny_bind (wpAny_newObj_type (wpAny_pure ⟨_, rfl, "dict_keyiterator", _, ⟨_, Heap.get?_push_size _ rfl, rfl⟩, F.slot_dict_keyiterator_next.lookup, ?_⟩))
  simpa [rawInt] using hQ
theorem next_key_item {it d : Addr} {i n ep : Nat} {od : Obj} {es : Array DictEntry} {en : DictEntry} {Q : Option Value → Shared → Prop} (hit : s.heap.IsKeyIter it d i n ep) (hod : s.heap.get? d = some od) (hdd : od.data = .dict es ep)
    (hsz : es.size = n) (hx : es[i]? = some en) (hQ : ∀ h', h'.IsKeyIter it d (i + 1) n ep → Heap.SameBut it s.heap h' → Q (some en.key) { s with heap := h' }) : wpAny (model prog w) A (pyNext (.ref it)) Q E s := by
  obtain ⟨o, ho, hc, hd⟩ := id hit
  unfold pyNext
  refine wpAny_bind (wpAny_attempt (wpAny_callSpecial?_slot (name := Str.ofString "__next__") hit.typeIs F.slot_dict_keyiterator_next
    (wpAny_call_entry F.slot_dict_keyiterator_next hit.typeIs F.entry_dict_keyiterator_next ?_ (F.args_dict_keyiterator_next_1 _))))
  refine wpAny_bind (wpAny_pure ?_)
  refine wpAny_bind ?_
  refine wpAny_bind ?_
  first | refine wpAny_bind (wpAny_typeNameOfWhole_keyiter hit.typeIs (wpAny_pure ?_)) | refine wpAny_bind (wpAny_typeNameOf_keyiter hit.typeIs (wpAny_pure ?_))
  refine wpAny_bind (wpAny_fieldsOf ho hd ?_)
  have hown : Builtin.Dict_items.ownsTuple "dict_keyiterator" = false := by decide
  simp only [hown, Bool.false_eq_true, if_false]
  show wpAny _ _ (if (Value.ref d == Value.none) = true then _ else _) _ _ s
  rw [if_neg (show ¬ ((Value.ref d == Value.none) = true) from Bool.false_ne_true)]
  refine wpAny_bind (wpAny_pure ?_)
  refine wpAny_bind (wpAny_dictEntries hod hdd ?_)
  rw [if_neg (by rw [hsz]; simp)]
  refine wpAny_bind (wpAny_pure ?_)
  refine wpAny_bind (wpAny_dictEpoch hod hdd ?_)
  rw [if_neg (by simp)]
  refine wpAny_pure ?_
  obtain ⟨hlt', hen⟩ := Array.getElem?_eq_some_iff.mp hx
  simp only [show ¬ ((i : Int) < 0) from by omega, if_false, Int.toNat_natCast, Array.getElem?_eq_getElem hlt']
  refine wpAny_bind ?_
  first | refine wpAny_bind (wpAny_typeNameOfWhole_keyiter hit.typeIs (wpAny_pure ?_)) | refine wpAny_bind (wpAny_typeNameOf_keyiter hit.typeIs (wpAny_pure ?_))
  refine wpAny_bind (wpAny_isOneOf_keyiter hit.typeIs ?_)
  show wpAny _ _ (setField (.ref it) 1 (rawInt ((i : Int) + 1)) >>= _) _ _ s
  refine wpAny_bind (wpAny_setField ho hd (by simp) ?_)
  have hit' : (s.heap.update it (Obj.mapFields (·.setIfInBounds 1 (rawInt ((i : Int) + 1))))).IsKeyIter it d (i + 1) n ep :=
    ⟨_, Heap.get?_update_self _ ho (Obj.isFreed_of_fields (Obj.data_mapFields hd _)), (Obj.cls_mapFields ..).trans hc, by rw [Obj.data_mapFields hd]; simp [rawInt]⟩
  refine wpAny_bind (wpAny_holding ?_)
  refine wpAny_bind (wpAny_isOneOf_keyiter (s := { s with heap := s.heap.update it (Obj.mapFields (·.setIfInBounds 1 (rawInt ((i : Int) + 1)))) }) hit'.typeIs ?_)
  show wpAny _ _ (pure es[i].key) _ _ _
  rw [hen]
  exact wpAny_pure (wpAny_pure ⟨_, rfl, wpAny_pure (hQ _ hit' (Heap.SameBut.update ..))⟩)
theorem next_key_end {it d : Addr} {i n ep : Nat} {od : Obj} {es : Array DictEntry} {Q : Option Value → Shared → Prop} (hh : A.handled = none) (hit : s.heap.IsKeyIter it d i n ep) (hod : s.heap.get? d = some od) (hdd : od.data = .dict es ep)
    (hsz : es.size = n) (hge : n ≤ i) (hQ : ∀ h', Heap.ExtBut it s.heap h' → Q none { s with heap := h' }) : wpAny (model prog w) A (pyNext (.ref it)) Q E s := by
  obtain ⟨o, ho, hc, hd⟩ := id hit
  unfold pyNext
  refine wpAny_bind (wpAny_attempt (wpAny_callSpecial?_slot (name := Str.ofString "__next__") hit.typeIs F.slot_dict_keyiterator_next
    (wpAny_call_entry F.slot_dict_keyiterator_next hit.typeIs F.entry_dict_keyiterator_next ?_ (F.args_dict_keyiterator_next_1 _))))
  refine wpAny_bind (wpAny_pure ?_)
  refine wpAny_bind ?_
  refine wpAny_bind ?_
  first | refine wpAny_bind (wpAny_typeNameOfWhole_keyiter hit.typeIs (wpAny_pure ?_)) | refine wpAny_bind (wpAny_typeNameOf_keyiter hit.typeIs (wpAny_pure ?_))
  refine wpAny_bind (wpAny_fieldsOf ho hd ?_)
  have hown : Builtin.Dict_items.ownsTuple "dict_keyiterator" = false := by decide
  simp only [hown, Bool.false_eq_true, if_false]
  show wpAny _ _ (if (Value.ref d == Value.none) = true then _ else _) _ _ s
  rw [if_neg (show ¬ ((Value.ref d == Value.none) = true) from Bool.false_ne_true)]
  refine wpAny_bind (wpAny_pure ?_)
  refine wpAny_bind (wpAny_dictEntries hod hdd ?_)
  rw [if_neg (by rw [hsz]; simp)]
  refine wpAny_bind (wpAny_pure ?_)
  refine wpAny_bind (wpAny_dictEpoch hod hdd ?_)
  rw [if_neg (by simp)]
  refine wpAny_pure ?_
  have hge' : es.size ≤ i := by rw [hsz]; exact hge
  simp only [show ¬ ((i : Int) < 0) from by omega, if_false, Int.toNat_natCast, Array.getElem?_eq_none hge']
  refine wpAny_bind ?_
  first | refine wpAny_bind (wpAny_typeNameOfWhole_keyiter hit.typeIs (wpAny_pure ?_)) | refine wpAny_bind (wpAny_typeNameOf_keyiter hit.typeIs (wpAny_pure ?_))
  show wpAny _ _ (setField (.ref it) 0 .none >>= _) _ _ s
  refine wpAny_bind (wpAny_setField ho hd (by simp) ?_)
  show wpAny _ _ (newExc (.type "StopIteration") [] >>= _) _ _ _
  refine wpAny_bind ?_
  simp only [newExc, newTuple]
  refine wpAny_bind (wpAny_newObj_type ?_ (by size_fits))
  refine wpAny_bind (m := firstArgMember _ _) (wpAny_of_eq (a := Value.none) (by first | rfl | (simp only [firstArgMember]; rfl)) ?_)
  refine wpAny_newObj_type ?_ (by size_fits)
  simp only [raiseNew]
  refine wpAny_bind (wpAny_handled ?_)
  rw [show A.in1.handled = none from hh]
  refine wpAny_bind (wpAny_pure (wpAny_throw ?_))
  refine wpAny_bind (wpAny_isInstance (T := "StopIteration") (b := true) ⟨_, Heap.get?_push_size _ rfl, rfl⟩ isSubtype_stop ?_)
  exact wpAny_pure (hQ _ (((Heap.SameBut.update ..).extBut.push _).push _))
end
/-! ### a locked dict -/
theorem kv_get {κ : Type} {kvs : List (κ × V)} {vs : List (κ × Value)} (h : KV kvs vs) : ∀ {i : Nat} {k : κ} {v : V}, kvs[i]? = some (k, v) → ∃ u, vs[i]? = some (k, u) ∧ RelV v u := by
  unfold KV at h
  induction h with
  | nil => intro i k v e; simp at e
  | @cons a b l₁ l₂ r t ih =>
    intro i k v e
    cases i with
    | zero =>
      simp only [List.getElem?_cons_zero, Option.some.injEq] at e
      subst e
      refine ⟨b.2, ?_, r.2⟩
      simp only [List.getElem?_cons_zero]
      exact congrArg some (Prod.ext r.1.symm rfl)
    | succ j =>
      simp only [List.getElem?_cons_succ] at e ⊢
      exact ih e
theorem paired_get {α β : Type} {G : α → β → Prop} {l₁ : List α} {l₂ : List β} (h : Paired G l₁ l₂) : ∀ {i : Nat} {a : α}, l₁[i]? = some a → ∃ b, l₂[i]? = some b ∧ G a b := by
  induction h with
  | nil => intro i a e; simp at e
  | @cons a b l₁ l₂ r t ih =>
    intro i a' e
    cases i with
    | zero =>
      simp only [List.getElem?_cons_zero, Option.some.injEq] at e
      subst e
      exact ⟨b, rfl, r⟩
    | succ j =>
      simp only [List.getElem?_cons_succ] at e ⊢
      exact ih e
theorem relV_key {k : Key} {u : Value} (h : keyIs k u = true) : RelV (kV k) u := by
  rcases keyIs_shape h with ⟨i, t, rfl, rfl⟩ | ⟨x, t, rfl, rfl⟩
  · exact ⟨t, rfl⟩
  · exact ⟨t, rfl⟩
section
variable {X : Cx} {pins : List (Addr × Obj)} {σ : St} {H : Hp} {s : Shared} {d : Addr} {o : Obj}
theorem Inv.frzK {kvs : List (Key × V)} (I : Inv X pins σ H s) (h : H d = some (.frz o (.dK kvs))) :
    (d == sysModules) = false ∧ s.heap.get? d = some o ∧ o.ExactDict ∧ ∃ (es : Array DictEntry) (ep : Nat) (vs : List (Key × Value)), o.data = .dict es ep ∧ es.size = kvs.length ∧ KV kvs vs ∧ s.heap.DictAt (mixKind X.prog X.w) d vs ep := by
  obtain ⟨hd, z, hs, vs, kv, o', es, ep, ho, hx, hdt, r⟩ := I.hok d _ h
  rw [hd] at ho
  cases ho
  refine ⟨hs, hd, hx, es, ep, vs, hdt, ?_, kv, o, es, hd, hx, hdt, r⟩
  have l1 := r.2.1.length
  have l2 : kvs.length = vs.length := Paired.length kv
  rw [Array.length_toList] at l1
  omega
/-- the same for tuple keys -/
theorem Inv.frzT {kvs : List (List Key × V)} (I : Inv X pins σ H s) (h : H d = some (.frz o (.dT kvs))) :
    (d == sysModules) = false ∧ s.heap.get? d = some o ∧ o.ExactDict ∧ ∃ (es : Array DictEntry) (ep : Nat), o.data = .dict es ep ∧ es.size = kvs.length ∧
      ∀ (i : Nat) (k : List Key) (v : V), kvs[i]? = some (k, v) → ∃ (en : DictEntry) (q : Addr), es[i]? = some en ∧ en.key = .ref q ∧ H q = some (.tup (k.map kV)) := by
  obtain ⟨hd, z, hs, xs, pr, o', es, ep, ho, hx, hdt, he, _⟩ := I.hok d _ h
  rw [hd] at ho
  cases ho
  refine ⟨hs, hd, hx, es, ep, hdt, ?_, fun i k v e => ?_⟩
  · have l1 : es.size = xs.length := size_of_entries he
    have l2 : kvs.length = xs.length := Paired.length pr
    omega
  · obtain ⟨b, hb, e1, e2, _⟩ := paired_get pr e
    have q := entry_at he i
    rw [hb] at q
    exact ⟨_, b.2.1, q, rfl, e2⟩
end
/-- the keys of the locked dict at d, in their order -/
def Itk (d : Addr) (o : Obj) (kvs : List (Key × V)) : It :=
  ⟨fun i H => H d = some (.frz o (.dK kvs)) ∧ i < kvs.length, fun i H x H' => H' = H ∧ ∃ k v, kvs[i]? = some (k, v) ∧ x = kV k, fun i H => H d = some (.frz o (.dK kvs)) ∧ kvs.length ≤ i⟩
/-- .. of tuple keys: the key's own tuple -/
def Itkt (d : Addr) (o : Obj) (kvs : List (List Key × V)) : It :=
  ⟨fun i H => H d = some (.frz o (.dT kvs)) ∧ i < kvs.length, fun i H x H' => H' = H ∧ ∃ (k : List Key) (v : V) (q : Addr), kvs[i]? = some (k, v) ∧ x = .ref q ∧ H q = some (.tup (k.map kV)), fun i H => H d = some (.frz o (.dT kvs)) ∧ kvs.length ≤ i⟩
theorem dict_ep {o : Obj} {es es' : Array DictEntry} {ep ep' : Nat} (h : o.data = .dict es ep) (h' : o.data = .dict es' ep') : es' = es ∧ ep' = ep := by
  rw [h] at h'
  cases h'
  exact ⟨rfl, rfl⟩
section
variable {P : Program} {w : World} {K : PySem.W.Frag} {tg : Expr} {d : Addr} {o : Obj} {es : Array DictEntry} {ep : Nat}
theorem turn_keys {kvs : List (Key × V)} (it : Addr) (hod : o.data = .dict es ep) : Turn P w K tg (Itk d o kvs) [it] it (fun i h => h.IsKeyIter it d i kvs.length ep) where
  mem := by simp
  obj := fun i h st b hb => by
    have e : b = it := by simpa using hb
    subst e
    obtain ⟨oi, e, c, dd⟩ := st
    exact ⟨oi, e, fun v z => by rw [dd] at z; cases z⟩
  keep := fun i h h' st k => st.at fun oi e => k it (by simp) oi e
  item := by
    intro X hP hw hK hc i pins s σ H E I hf st hg
    subst hP hw hK
    obtain ⟨hd, hi⟩ := hg
    obtain ⟨f0, f1, f2, f3, f4, f5⟩ := hf it (by simp)
    obtain ⟨hs, hgd, hx, es', ep', vs, hdt, hsz, kv, hm⟩ := I.frzK hd
    obtain ⟨rfl, rfl⟩ := dict_ep hod hdt
    obtain ⟨⟨k, v⟩, hkv⟩ : ∃ p, kvs[i]? = some p := ⟨kvs[i], List.getElem?_eq_getElem hi⟩
    obtain ⟨u, hu, ru⟩ := kv_get kv hkv
    have hl : kvs.length = vs.length := Paired.length kv
    rw [hl] at st
    refine wpAny_pyNext_dict_item st hm hu fun key h' hkey st' sb => ?_
    have I1 : Inv X pins σ H { s with heap := h' } := I.turned (t' := s.toks) (fun b ob hb e => (sb.2 b hb).trans e) f0 f1 f3 f4 f5
    obtain ⟨oi, e, c, dd⟩ := id st'
    refine ⟨key, rfl, go_of (s := { s with heap := h' }) e c dd (by decide) ⟨kV k, H, I1, relV_key (show keyIs k key = true from hkey), ⟨rfl, k, v, hkv, rfl⟩, ?_, fun b hb => (hf b hb).1⟩⟩
    show h'.IsKeyIter it d (i + 1) kvs.length _
    rw [hl]
    exact st'
  done := by
    intro X hP hw hK hc i pins s σ H E I hf st hg
    subst hP hw hK
    obtain ⟨hd, hi⟩ := hg
    obtain ⟨f0, f1, f2, f3, f4, f5⟩ := hf it (by simp)
    obtain ⟨hs, hgd, hx, es', ep', vs, hdt, hsz, kv, hm⟩ := I.frzK hd
    obtain ⟨rfl, rfl⟩ := dict_ep hod hdt
    exact next_key_end (I.ok.hd hc) st hgd hdt hsz hi fun h' eb => ⟨rfl, I.turned (t' := s.toks) (fun b ob hb e => eb b ob hb e) f0 f1 f3 f4 f5⟩
  self := fun A i s Q E st h => wpAny_pyIter_keyiter st h
theorem turn_keysT {kvs : List (List Key × V)} (it : Addr) (hod : o.data = .dict es ep) : Turn P w K tg (Itkt d o kvs) [it] it (fun i h => h.IsKeyIter it d i kvs.length ep) where
  mem := by simp
  obj := fun i h st b hb => by
    have e : b = it := by simpa using hb
    subst e
    obtain ⟨oi, e, c, dd⟩ := st
    exact ⟨oi, e, fun v z => by rw [dd] at z; cases z⟩
  keep := fun i h h' st k => st.at fun oi e => k it (by simp) oi e
  item := by
    intro X hP hw hK hc i pins s σ H E I hf st hg
    subst hP hw hK
    obtain ⟨hd, hi⟩ := hg
    obtain ⟨f0, f1, f2, f3, f4, f5⟩ := hf it (by simp)
    obtain ⟨hs, hgd, hx, es', ep', hdt, hsz, ent⟩ := I.frzT hd
    obtain ⟨rfl, rfl⟩ := dict_ep hod hdt
    obtain ⟨⟨k, v⟩, hkv⟩ : ∃ p, kvs[i]? = some p := ⟨kvs[i], List.getElem?_eq_getElem hi⟩
    obtain ⟨en, q, hen, hkey, hq⟩ := ent i k v hkv
    refine next_key_item st hgd hdt hsz hen fun h' st' sb => ?_
    have I1 : Inv X pins σ H { s with heap := h' } := I.turned (t' := s.toks) (fun b ob hb e => (sb.2 b hb).trans e) f0 f1 f3 f4 f5
    obtain ⟨oi, e, c, dd⟩ := id st'
    exact ⟨en.key, rfl, go_of (s := { s with heap := h' }) e c dd (by decide) ⟨.ref q, H, I1, hkey, ⟨rfl, k, v, q, hkv, rfl, hq⟩, st', fun b hb => (hf b hb).1⟩⟩
  done := by
    intro X hP hw hK hc i pins s σ H E I hf st hg
    subst hP hw hK
    obtain ⟨hd, hi⟩ := hg
    obtain ⟨f0, f1, f2, f3, f4, f5⟩ := hf it (by simp)
    obtain ⟨hs, hgd, hx, es', ep', hdt, hsz, ent⟩ := I.frzT hd
    obtain ⟨rfl, rfl⟩ := dict_ep hod hdt
    exact next_key_end (I.ok.hd hc) st hgd hdt hsz hi fun h' eb => ⟨rfl, I.turned (t' := s.toks) (fun b ob hb e => eb b ob hb e) f0 f1 f3 f4 f5⟩
  self := fun A i s Q E st h => by
    refine wpAny_pyIter_slot st.typeIs F.slot_dict_keyiterator_iter (wpAny_call_entry F.slot_dict_keyiterator_iter st.typeIs F.entry_dict_keyiterator_iter ?_ (F.args_dict_keyiterator_iter_1 _))
    show wpAny _ _ (ret (.ref it)) _ _ s
    exact wpAny_pure ⟨_, rfl, "dict_keyiterator", _, st.typeIs, F.slot_dict_keyiterator_next.lookup, h⟩
end
/-! ### for k in d, d.keys(), d.values(), d.items() -/
/-- the dict is locked (tLock, or by the caller) -/
def iKeys (td : TE) : TI := fun σ H R => td σ H fun x H1 => ∃ d o, x = .ref d ∧ ((∃ kvs, H1 d = some (.frz o (.dK kvs)) ∧ R (Itk d o kvs) H1) ∨ ∃ kvs, H1 d = some (.frz o (.dT kvs)) ∧ R (Itkt d o kvs) H1)
section
variable {X : Cx} {tg e : Expr} {td : TE} {apos cpos : Pos}
theorem pi_keys (he : PE X e td) : PI X tg e (iKeys td) := by
  intro pins s σ H R I h
  refine thn (he pins s σ H _ I h) fun u s1 ⟨x, H1, I1, rx, d, o, ex, q⟩ => ?_
  subst ex
  obtain rfl : u = Value.ref d := rx
  rcases q with ⟨kvs, hd, q⟩ | ⟨kvs, hd, q⟩
  · obtain ⟨hs, hgd, hx, es, ep, vs, hdt, hsz, kv, hm⟩ := I1.frzK hd
    refine iter_keys hs hgd hx hdt (pi_one (tk := s1.toks) I1 _ (turn_keys _ hdt) ⟨_, Heap.get?_push_size _ rfl, rfl, ?_⟩ q)
    rw [hsz] <;> rfl
  · obtain ⟨hs, hgd, hx, es, ep, hdt, hsz, ent⟩ := I1.frzT hd
    refine iter_keys hs hgd hx hdt (pi_one (tk := s1.toks) I1 _ (turn_keysT _ hdt) ⟨_, Heap.get?_push_size _ rfl, rfl, ?_⟩ q)
    rw [hsz] <;> rfl
end
/-! ### enumerate(list) -/
/-! ### zip(list, list) -/
end L2
section 
namespace Bits
open PySem PyProof.Rows
end Bits
end 
section 
namespace TL
open PySem PySem.Builtin PySem.Builtin.Str PySem.StrLaws
/-! ### the list functions -/
/-! ### the model's split and partition are these -/
/-! ### computing spl and par -/
/-! ### digits -/
/-! ### words: x.split() -/
end TL
end 
namespace L2
open PySem PySem.Spec PyProof.Rows
section
variable {X : Cx} {pins : List (Addr × Obj)} {σ : St} {H : Hp} {s : Shared} {Q : VK}
end
section
variable {X : Cx}
/-! ### of a text alone -/
/-! ### of a text and a text -/
end
section
variable {X : Cx} {o e : Expr} {to te : TE}
end
end L2
namespace L2
open PySem PySem.Spec PyProof.Rows
section
variable {X : Cx}
end
/-! ### slices of a text -/
end L2
namespace Att
open PySem PySem.W PySem.Calls PyProof.Rows
/-! ### the script -/
/-! ### the attachment: holds_open's last premise (the goal 'hc' behind k_head) from a wpAny of the law's body -/
/-! ### rules over ANY heap (no ledger) from facts about the written part K: the library's own take a ledger (News) for what they write -/
section
variable {prog : Program} {w : World} {A : Around} {E : Value → Shared → Prop} {s : Shared} {K : Frag}
/-- C(..): dict at size, instance at size + 1, then __init__ -/
theorem make_obj {R : Result → Shared → Prop} {C fI : Addr} {rest : List Value} {kw : List (Str × Value)}
    (X : K.In s.heap) (hm : makesIn K C = true) (hi : findIn K (.ref C) "__init__" = some (some (.ref fI))) (hf : isFn K (.ref fI) = true)
    (h : codeAny (model prog w) (A.under (.builtin "type.__call__" ⟨.ref C :: rest, kw⟩)) (.call (.ref fI) ⟨.ref (s.heap.objs.size + 1) :: rest, kw⟩) (InitBack (s.heap.objs.size + 1) R)
      { s with heap := (s.heap.push emptyDict).push (instObj C s.heap.objs.size) }) : codeAny (model prog w) A (.call (.ref C) ⟨rest, kw⟩) R s := by
  obtain ⟨hh, g, d, t, os⟩ := s
  exact make_core (makes_of X hm) (looks_findIn X hi) (fun self => bind_fn X self (beq_iff_eq.mp hf)) (.inl rfl) h
/-- x.name where the instance's dict holds the name and the class does not -/
theorem get_field {x C : Addr} {ox : Obj} {es : List DictEntry} {n : Nat} {name : Str} {expr : Bool} {v : Value} {Q : Value → Shared → Prop}
    (X : K.In s.heap) (I : PySem.W.InstAt s.heap x ox C (some (dictOf es n))) (hg : plainGet K C name = true) (hh : hasDictIn K C = true) (ha : findIn K (.ref C) name = some none)
    (hl : getL name es = some (some v)) (hv : handedIn v = true) (h : Q v { s with toks := s.toks + 1 }) : wpAny (model prog w) A (getAttr (.ref x) name expr) Q E s :=
  get_value X I (plainGet_of hg).1 (findObj_own hh ha rfl hl) hv h
/-! the whole heap as the ledger: makes every rule that writes through a ledger a rule over any heap -/
end
end Att
namespace L2
open PySem PySem.Spec PyProof.Rows
end L2
namespace L2
open PySem PySem.Spec PyProof.Rows
end L2
/- THE LAST THEOREM (shape; LID, My.* are yours):
   My.Adr: a structure of the addresses that your layer names (classes, functions); My.Txt K t: a structure (Prop) of the equations over K;
   My.txt_mk : {K} {implicit addresses ..} (e1 : nsIn K mainGlobals "law" = some (some (.ref f))) (e2 : K.lookup f = some ⟨oc, od, .func (fnOf "law" "law" params body scope dV kV doc pm an cdv ct), sl⟩) (e3 : codeIn K cdv "law" = true) .. : ∃ t, My.Txt K t
set_option maxRecDepth 100000 in
set_option maxHeartbeats 0 in
theorem PySem.Challenge.cw_LID_holds : PySem.Challenge.rw_LID.Holds := by
  w_on; o_law; k_head; (case hw => w_witness2)
  k_fill
  refine L2.walk_of (l := PySem.Challenge.rw_LID) (n := 63) (k := 40) (x := "script") (CX := fun w => ..) (sp := fun _ => My.sp_law) rfl (by decide) rfl ⟨rfl, by decide, by decide⟩ (fun w h Y => PySem.W.kIn_of Y) ?F ?S ?C
  case F =>
    intro w mg fa h KX G hmg
    have T : ∃ t, My.Txt (L2.KOf KX) t := by
      dsimp only [L2.KOf]                          -- K must stand as «<heap const> w.params» for k_is
      refine' My.txt_mk ?e1 ?e2 ?e3 ..
      (case e1 => PySem.W.k_is)                    -- in the order: a name -> its address -> its object -> its parts
      (case e2 => PySem.W.k_is)
      ..
    obtain ⟨t, T⟩ := T
    have e0 := hmg.symm.trans (PySem.W.mg_of KX G T.law)
    cases e0                                       -- fa is the law's own address
    exact ⟨_, fun s u => .of_eq rfl, fun base kb nb => My.law_fn T kb nb⟩     -- if «.of_eq rfl» comes too early: refine' ⟨_, ?b, fun base kb nb => My.law_fn T kb nb⟩; exact fun s u => .of_eq rfl
  case S => exact fun w H a ns hl hO hS => ..
  case C => exact ..
(the tactic k_is has no namespace: write k_is) -/
/-! SHORT WORDS over the layer: a def of the text, its body, what a loop and a test want. -/
namespace L2
open PySem PySem.Spec PyProof.Rows
/-! ### the text by places -/
/-- the j-th statement of a class's body -/
def inClass (s : Stmt) (j : Nat) : Stmt := match s with
  | .ClassDef _ _ _ body _ _ _ _ _ _ _ => body.getD j (.Pass ⟨0, 0, 0, 0⟩)
  | _ => .Pass ⟨0, 0, 0, 0⟩
def defArgs (s : Stmt) : Arguments := match s with
  | .FunctionDef _ a _ _ _ _ _ _ _ _ => a
  | _ => { posonlyargs := [], args := [], vararg := none, kwonlyargs := [], kw_defaults := [], kwarg := none, defaults := [] }
def defBody (s : Stmt) : List Stmt := match s with
  | .FunctionDef _ _ b _ _ _ _ _ _ _ => b
  | _ => []
def defScope (s : Stmt) : Scope := match s with
  | .FunctionDef _ _ _ _ _ _ sc _ _ _ => sc
  | _ => { kind := .function, names := [], isGenerator := false, isCoroutine := false }
/-! ### no exception leaves a def -/
abbrev CX0 : CXT := fun _ _ _ _ _ _ => False
abbrev E0 : XK := fun _ _ _ => False
theorem pass0 {X : Cx} : Passes CX0 X E0 := fun _ _ _ _ _ _ _ h => h.elim
/-! ### a def (or method) of the text as it stands behind the top -/
structure Fun (K : PySem.W.Frag) (x qual : Str) (st : Stmt) (f : Addr) (fd : FuncData) : Prop where
  ex : ∃ (oc : Value) (od : Option Addr) (kV doc pm : Value) (an : Option Addr) (cdv ct : Value) (osl : Array (Option Value)),
    fd = PySem.W.fnOf x qual (defArgs st) (defBody st) (defScope st) .none kV doc pm an cdv ct ∧ K.lookup f = some ⟨oc, od, .func fd, osl⟩ ∧ PySem.W.codeIn K cdv qual = true
  kp : PySem.W.keepIn K (.ref f) = true
section
variable {P : Program} {w : World} {K : PySem.W.Frag} {mg : Str → Option Value} {base : Heap}
/-- THE RULE for a def: its body as a term of rules, and the reading of that term -/
theorem Fun.ok {x qual : Str} {st : Stmt} {f : Addr} {fd : FuncData} {N ps : List Str} {k : Nat} {sp : Sp} (F : Fun K x qual st f fd) (S : FnScope N ps (defScope st)) (len : ∀ vs H Q E, sp vs H Q E → vs.length = ps.length)
    (hbody : ∀ (cdv : Value) (A : Around) (outer : List Env) (s : Shared) (H : Hp) (vs : List V) (Q : VK) (E : XK), Room k (A.deeper (envOfC qual (defScope st) s.heap.objs.size f cdv)) → sp vs H Q E →
      ∃ t, PSs (cxOf CX0 P w K mg base N qual (defScope st) f cdv A outer s H E).nox (defBody st) t ∧ t { nx := fun _ H' => Q .non H', rt := Q } (start N vs) H) : FnOk P w K mg base CX0 (k + 1) f fd ps sp := by
  obtain ⟨oc, od, kV, doc, pm, an, cdv, ct, osl, rfl, lk, hcd⟩ := F.ex
  refine fn_of lk hcd S len fun A outer s H vs Q E hr hsp => ?_
  obtain ⟨t, h, q⟩ := hbody cdv A outer s H vs Q E hr hsp
  exact ⟨t, h.nox, q⟩
/-- how its arguments bind (no defaults): h is «fun _ _ _ _ _ _ us hl => match us, hl with | [_, _], _ => rfl», one _ a parameter -/
theorem Fun.binds {x qual : Str} {st : Stmt} {f : Addr} {fd : FuncData} {ps : List Str} (F : Fun K x qual st f fd)
    (h : ∀ (kV doc pm : Value) (an : Option Addr) (cdv ct : Value) (us : List Value), us.length = ps.length → bindArgs (PySem.W.fnOf x qual (defArgs st) (defBody st) (defScope st) .none kV doc pm an cdv ct) ⟨us, []⟩ = pure (ps.zip us)) : Binds K fd ps [] := by
  obtain ⟨oc, od, kV, doc, pm, an, cdv, ct, osl, rfl, lk, hcd⟩ := F.ex
  exact .all (h kV doc pm an cdv ct)
theorem fun_mk {x qual : Str} {st : Stmt} {f : Addr} {oc : Value} {od an : Option Addr} {osl : Array (Option Value)} {kV doc pm cdv ct : Value} (l : K.lookup f = some ⟨oc, od, .func (PySem.W.fnOf x qual (defArgs st) (defBody st) (defScope st) .none kV doc pm an cdv ct), osl⟩)
    (c : PySem.W.codeIn K cdv qual = true) (k : PySem.W.keepIn K (.ref f) = true) : Fun K x qual st f (PySem.W.fnOf x qual (defArgs st) (defBody st) (defScope st) .none kV doc pm an cdv ct) := ⟨⟨oc, od, kV, doc, pm, an, cdv, ct, osl, rfl, l, c⟩, k⟩
end
theorem hu_of {A : Around} {k : Nat} (hr : Room k A) : A.units + 1 < cLine := Nat.lt_of_le_of_lt (Nat.add_le_add_left (by decide : 1 ≤ 64) _) hr.units
/-! ### expressions in short: the name that stands in the i-th slot -/
section
variable {X : Cx}
theorem pv (i : Nat) {x : Str} {pos : Pos} (hN : X.N[i]? = some x := by rfl) (hv : Vis X.env.scope x := by first | exact Or.inl rfl | exact Or.inr (Or.inl rfl) | exact Or.inr (Or.inr rfl)) (hd : (x == ("__debug__" : Str)) = false := by decide)
    (hcd : (x == ("__classdict__" : Str)) = false := by decide) : PE X (.Name x pos) (tVar i) := pe_var hN hv hd hcd
/-- len of a dict -/
theorem call_lenD : CallR X (.builtin "len") (fun xs H Q => ∃ a kvs, xs = [V.ref a] ∧ H a = some (.dK kvs) ∧ Q (.int kvs.length) H) := by
  intro pins s σ H xs us Q I r h
  obtain ⟨a, kvs, rfl, ha, q⟩ := h
  obtain ⟨u, rfl, ru⟩ := vals1 r
  cases ru
  exact d_len I (.inl ha) fun t s' I' => ⟨.int kvs.length, H, I', ⟨t, rfl⟩, q⟩
end
/-! ### tests -/
theorem iteF {A B : Prop} (h : B) : if false = true then A else B := by
  rw [if_neg Bool.false_ne_true]
  exact h
theorem iteT {A B : Prop} (h : A) : if true = true then A else B := by
  rw [if_pos rfl]
  exact h
theorem ite2 {c A B : Prop} [Decidable c] (h1 : c → A) (h2 : ¬ c → B) : if c then A else B := by
  by_cases h : c
  · rw [if_pos h]
    exact h1 h
  · rw [if_neg h]
    exact h2 h
/-! ### heaps -/
/-- all that was tracked is as it was -/
def Same (H H' : Hp) : Prop := ∀ b o, H b = some o → H' b = some o
theorem Same.refl (H : Hp) : Same H H := fun _ _ h => h
theorem Same.free {H H' : Hp} (e : Same H H') {l : Addr} (h : H' l = Option.none) : H l = Option.none := by
  cases q : H l with
  | none => rfl
  | some o =>
    rw [e l o q] at h
    cases h
theorem Same.seq {K : PySem.W.Frag} {H H' : Hp} {a : Addr} {xs : List V} (e : Same H H') (h : SqL K H a xs) : SqL K H' a xs := by
  rcases h with (h | ⟨o, h⟩) | h
  · exact .inl (.inl (e _ _ h))
  · exact .inl (.inr ⟨o, e _ _ h⟩)
  · exact .inr h
/-! ### a dict's pairs: keys that differ -/
section
variable {κ : Type} [DecidableEq κ]
theorem nd_snoc : ∀ {l : List κ} {k : κ}, l.Nodup → ¬ k ∈ l → (l ++ [k]).Nodup
  | [], k, _, _ => by simp
  | a :: r, k, h, hk => by
    obtain ⟨h1, h2⟩ := List.nodup_cons.mp h
    show (a :: (r ++ [k])).Nodup
    refine List.nodup_cons.mpr ⟨fun m => ?_, nd_snoc h2 fun m => hk (List.mem_cons.mpr (Or.inr m))⟩
    rcases List.mem_append.mp m with q | q
    · exact h1 q
    · exact hk (List.mem_cons.mpr (Or.inl (List.mem_singleton.mp q).symm))
theorem dropK_pos {p : κ × V} {r : List (κ × V)} {k : κ} (e : p.1 = k) : dropK (p :: r) k = dropK r k := by
  unfold dropK
  rw [List.filter_cons, if_neg (by simp [e])]
theorem dropK_neg {p : κ × V} {r : List (κ × V)} {k : κ} (e : ¬ p.1 = k) : dropK (p :: r) k = p :: dropK r k := by
  unfold dropK
  rw [List.filter_cons, if_pos (by simp [e])]
end
/-! ### lists -/
theorem at_of {xs : List V} {z : Int} {j : Nat} {v : V} (e : z = (j : Int)) (h : xs[j]? = some v) : atI xs z = some v := by
  rw [e]
  exact atI_nat h
theorem nd_ix {α : Type} {l : List α} (hN : l.Nodup) {i j : Nat} {x : α} (a : l[i]? = some x) (b : l[j]? = some x) : i = j := by
  obtain ⟨h1, e1⟩ := List.getElem?_eq_some_iff.mp a
  obtain ⟨h2, e2⟩ := List.getElem?_eq_some_iff.mp b
  exact (List.getElem_inj hN).mp (e1.trans e2.symm)
/-- a new instance and its __init__ leave all that was tracked as it was -/
theorem Same.made {H H1 : Hp} {x dx C : Addr} (nx : H x = Option.none) (nd : H dx = Option.none) (k : ∀ b o, (upd (upd H dx (.own x)) x (.ins C dx [])) b = some o → b ≠ x → H1 b = some o) : Same H H1 := fun b o e =>
  k b o (by rw [upd_ne (ne_of_none e nx), upd_ne (ne_of_none e nd)]; exact e) (ne_of_none e nx)
end L2
section
set_option Elab.async false
set_option linter.all false
set_option maxRecDepth 100000
set_option maxHeartbeats 2000000
namespace L2
open PySem PySem.Spec PyProof.Rows
open PySem.W (WData Codec OpenSpec Well WellAll ReadsW ReadsAllW)
/-! ### an answer as data -/
mutual
/-- x stands for the datum d, lists and tuples all the way -/
inductive Dw (K : PySem.W.Frag) (H : Hp) : V → WData → Prop
  | non : Dw K H .non .none
  | bl (b : Bool) : Dw K H (.bl b) (.bool b)
  | int (i : Int) : Dw K H (.int i) (.int i)
  | str (x : Str) : Dw K H (.str x) (.str x)
  | byt (b : Array UInt8) : Dw K H (.byt b) (.bytes b.toList)
  | lst {a : Addr} {xs : List V} {ds : List WData} : SqL K H a xs → DwAll K H xs ds → Dw K H (.ref a) (.list ds)
  | tup {a : Addr} {xs : List V} {ds : List WData} : SqT K H a xs → DwAll K H xs ds → Dw K H (.ref a) (.tuple ds)
inductive DwAll (K : PySem.W.Frag) (H : Hp) : List V → List WData → Prop
  | nil : DwAll K H [] []
  | cons {v : V} {vs : List V} {d : WData} {ds : List WData} : Dw K H v d → DwAll K H vs ds → DwAll K H (v :: vs) (d :: ds)
end
theorem dw_ints {K : PySem.W.Frag} {H : Hp} : ∀ ns : List Int, DwAll K H (ns.map V.int) (ns.map WData.int)
  | [] => .nil
  | n :: r => .cons (.int n) (dw_ints r)
theorem ints_dw {K : PySem.W.Frag} {H : Hp} : ∀ (ns : List Int) (xs : List V), DwAll K H xs (ns.map WData.int) → xs = ns.map V.int
  | [], xs, h => by
    cases h
    rfl
  | n :: r, xs, h => by
    cases h with
    | cons h1 h2 =>
      cases h1
      rw [ints_dw r _ h2] <;> rfl
section
variable {P : Program} {w : World} {K : PySem.W.Frag} {H : Hp} {h : Heap} {R : PySem.W.WRecords} {cl : Str → Option Addr}
theorem sqL_at {a : Addr} {xs : List V} (hok : HOk P w H h) (KX : K.In h) (q : SqL K H a xs) : ∃ (its : List Value) (o : Obj) (n : Nat), Vals xs its ∧ h.get? a = some o ∧ o.cls = .type "list" ∧ o.data = .seq its.toArray n := by
  rcases q with q | ⟨o, its, n, e, hc, _, hd, _, hv⟩
  · obtain ⟨_, its, n, hv, e⟩ := (show ObjOk P w H h a (.lst xs) from q.ok hok)
    exact ⟨its, _, n, hv, e, rfl, rfl⟩
  · exact ⟨its.toList, o, n, hv, KX _ _ e, hc, by simp [hd]⟩
theorem sqT_at {a : Addr} {xs : List V} (hok : HOk P w H h) (KX : K.In h) (q : SqT K H a xs) : ∃ (its : List Value) (o : Obj) (n : Nat), Vals xs its ∧ h.get? a = some o ∧ o.cls = .type "tuple" ∧ o.data = .seq its.toArray n := by
  rcases q with q | ⟨o, its, n, e, hc, hd, _, hv⟩
  · obtain ⟨_, its, hv, o, e, hc, n, hd⟩ := (show ObjOk P w H h a (.tup xs) from q.ok hok)
    exact ⟨its, o, n, hv, e, hc, hd⟩
  · exact ⟨its.toList, o, n, hv, KX _ _ e, hc, by simp [hd]⟩
mutual
theorem Dw.reads (hok : HOk P w H h) (KX : K.In h) : ∀ (d : WData) (v : V) (u : Value), Dw K H v d → RelV v u → ∃ as, ReadsW R cl h u d as
  | .none, _, _, x, r => by
    cases x
    cases r
    exact ⟨_, ReadsW.none⟩
  | .bool b, _, _, x, r => by
    cases x
    cases r
    exact ⟨_, ReadsW.bool b⟩
  | .int i, _, _, x, r => by
    cases x
    obtain ⟨t, rfl⟩ := r
    exact ⟨_, ReadsW.int i t⟩
  | .str s, _, _, x, r => by
    cases x
    obtain ⟨t, rfl⟩ := r
    exact ⟨_, ReadsW.str s t⟩
  | .bytes b, _, _, x, r => by
    cases x
    obtain ⟨t, rfl⟩ := r
    exact ⟨_, ReadsW.bytes _ t⟩
  | .list ds, _, _, x, r => by
    cases x with
    | lst hs ha =>
      cases r
      obtain ⟨its, o, n, rv, ho, hc, hd⟩ := sqL_at hok KX hs
      obtain ⟨as, hr⟩ := Dw.readsAll hok KX ds _ its ha rv
      exact ⟨_, ReadsW.list ho hc hd hr⟩
  | .tuple ds, _, _, x, r => by
    cases x with
    | tup hs ha =>
      cases r
      obtain ⟨its, o, n, rv, ho, hc, hd⟩ := sqT_at hok KX hs
      obtain ⟨as, hr⟩ := Dw.readsAll hok KX ds _ its ha rv
      exact ⟨_, ReadsW.tuple ho hc hd hr⟩
  | .float _, _, _, x, _ => by cases x
  | .dict _, _, _, x, _ => by cases x
  | .bytearray _, _, _, x, _ => by cases x
  | .set _, _, _, x, _ => by cases x
  | .frozenset _, _, _, x, _ => by cases x
  | .obj _ _, _, _, x, _ => by cases x
theorem Dw.readsAll (hok : HOk P w H h) (KX : K.In h) : ∀ (ds : List WData) (vs : List V) (us : List Value), DwAll K H vs ds → Vals vs us → ∃ as, ReadsAllW R cl h us ds as
  | [], _, _, x, r => by
    cases x
    cases r
    exact ⟨_, ReadsAllW.nil⟩
  | d :: ds, _, _, x, r => by
    cases x with
    | cons h1 h2 =>
      cases r with
      | cons r1 r2 =>
        obtain ⟨as, q1⟩ := Dw.reads hok KX d _ _ h1 r1
        obtain ⟨bs, q2⟩ := Dw.readsAll hok KX ds _ _ h2 r2
        exact ⟨_, ReadsAllW.cons q1 q2⟩
end
end
/-! ### the arguments -/
mutual
/-- data that a codec tells -/
def plW : WData → Bool
  | .none => true
  | .bool _ => true
  | .int _ => true
  | .str _ => true
  | .bytes _ => true
  | .list xs => plWs xs
  | .tuple xs => plWs xs
  | _ => false
def plWs : List WData → Bool
  | [] => true
  | x :: r => plW x && plWs r
end
theorem plWs_map {α : Type} {f : α → WData} (h : ∀ a, plW (f a) = true) : ∀ l : List α, plWs (l.map f) = true
  | [] => rfl
  | x :: r => by
    show (plW (f x) && plWs (r.map f)) = true
    rw [h x, plWs_map h r] <;> rfl
theorem pl_enc : ∀ (c : Codec) (a : c.denote), plW (c.enc a) = true
  | .unit, _ => rfl
  | .bool, _ => rfl
  | .int _ _, _ => rfl
  | .nat _ _, _ => rfl
  | .u8, _ => rfl
  | .bytes _ _, _ => rfl
  | .text _ _ _ _, _ => rfl
  | .list _ _ c, a => plWs_map (fun x => pl_enc c x) a
  | .pair c d, a => by
    show (plW (c.enc a.1) && (plW (d.enc a.2) && true)) = true
    rw [pl_enc c a.1, pl_enc d a.2] <;> rfl
  | .triple c d e, a => by
    show (plW (c.enc a.1) && (plW (d.enc a.2.1) && (plW (e.enc a.2.2) && true))) = true
    rw [pl_enc c a.1, pl_enc d a.2.1, pl_enc e a.2.2] <;> rfl
  | .option c, none => rfl
  | .option c, some x => pl_enc c x
theorem pl_encAll : ∀ (cs : List Codec) (a : Codec.denoteAll cs), plWs (Codec.encAll cs a) = true
  | [], _ => rfl
  | c :: cs, a => by
    show (plW (c.enc a.1) && plWs (Codec.encAll cs a.2)) = true
    rw [pl_enc c a.1, pl_encAll cs a.2] <;> rfl
theorem weight_mem : ∀ {xs : List WData} {d : WData}, d ∈ xs → d.weight ≤ WData.weightAll xs
  | [], d, h => absurd h (by simp)
  | x :: r, d, h => by
    show d.weight ≤ x.weight + 1 + WData.weightAll r
    rcases List.mem_cons.mp h with e | m
    · rw [e]
      omega
    · have z := weight_mem m
      omega
def toV : Value → V
  | .none => .non
  | .bool b => .bl b
  | .int i _ => .int i
  | .str x _ => .str x
  | .bytes b _ => .byt b
  | .ref a => .ref a
  | _ => .non
/-- a value of the arguments, its objects among A -/
def OkU (A : List Addr) : Value → Prop
  | .none => True
  | .bool _ => True
  | .int _ _ => True
  | .str _ _ => True
  | .bytes _ _ => True
  | .ref a => a ∈ A
  | _ => False
theorem OkU.mono {A B : List Addr} (h : ∀ a ∈ A, a ∈ B) : ∀ {u : Value}, OkU A u → OkU B u := fun {u} x => by
  cases u with
  | ref a => exact h a x
  | none => trivial
  | bool b => trivial
  | int i t => trivial
  | str s t => trivial
  | bytes b t => trivial
  | _ => exact False.elim x
theorem relV_toV {A : List Addr} {u : Value} (x : OkU A u) : RelV (toV u) u := by
  cases u with
  | ref a => rfl
  | none => rfl
  | bool b => rfl
  | int i t => exact ⟨t, rfl⟩
  | str s t => exact ⟨t, rfl⟩
  | bytes b t => exact ⟨t, rfl⟩
  | _ => exact False.elim x
theorem vals_toV {A : List Addr} : ∀ {vs : List Value}, (∀ u ∈ vs, OkU A u) → Vals (vs.map toV) vs
  | [], _ => .nil
  | u :: r, h => .cons (relV_toV (h u (List.mem_cons_self ..))) (vals_toV fun x hx => h x (List.mem_cons_of_mem _ hx))
/-- an object of the arguments -/
def ArgOb (h : Heap) (A : List Addr) (a : Addr) : Prop := ∃ vs : List Value, vs.length ≤ sizeLine ∧ (∀ u ∈ vs, OkU A u) ∧
  (h.get? a = some { cls := .type "list", data := .seq vs.toArray } ∨ h.get? a = some { cls := .type "tuple", data := .seq vs.toArray })
theorem ArgOb.mono {h : Heap} {A B : List Addr} {a : Addr} (k : ∀ a ∈ A, a ∈ B) (x : ArgOb h A a) : ArgOb h B a := by
  obtain ⟨vs, h1, h2, h3⟩ := x
  exact ⟨vs, h1, fun u hu => (h2 u hu).mono k, h3⟩
theorem wellAll_len {P : Params} {h : Heap} : ∀ {vs : List Value} {ds : List WData}, WellAll P h vs ds → vs.length = ds.length
  | _, _, .nil => rfl
  | _, _, .cons _ b => by
    show _ + 1 = _ + 1
    rw [wellAll_len b]
theorem well_list {P : Params} {h : Heap} {v : Value} {ds : List WData} (x : Well P h v (.list ds)) : ∃ (a : Addr) (vs : List Value), v = .ref a ∧ h.get? a = some { cls := .type "list", data := .seq vs.toArray } ∧ WellAll P h vs ds := by
  cases x with
  | list ho hall => exact ⟨_, _, rfl, ho, hall⟩
theorem well_tuple {P : Params} {h : Heap} {v : Value} {ds : List WData} (x : Well P h v (.tuple ds)) : ∃ (a : Addr) (vs : List Value), v = .ref a ∧ h.get? a = some { cls := .type "tuple", data := .seq vs.toArray } ∧ WellAll P h vs ds := by
  cases x with
  | tuple ho hall => exact ⟨_, _, rfl, ho, hall⟩
theorem well_cons {P : Params} {h : Heap} {us : List Value} {d : WData} {ds : List WData} (x : WellAll P h us (d :: ds)) : ∃ (v : Value) (vs : List Value), us = v :: vs ∧ Well P h v d ∧ WellAll P h vs ds := by
  cases x with
  | cons a b => exact ⟨_, _, rfl, a, b⟩
theorem line_of {n : Nat} (h : n ≤ 1048576) : n ≤ sizeLine := Nat.le_trans h (by decide)
section
variable {P : Params} {h : Heap}
mutual
theorem area_one : ∀ (d : WData) (v : Value), Well P h v d → plW d = true → d.weight ≤ 1048576 → ∃ A : List Addr, OkU A v ∧ ∀ a ∈ A, ArgOb h A a
  | .none, _, x, _, _ => by
    cases x
    exact ⟨[], trivial, fun a m => absurd m (by simp)⟩
  | .bool b, _, x, _, _ => by
    cases x
    exact ⟨[], trivial, fun a m => absurd m (by simp)⟩
  | .int i, _, x, _, _ => by
    cases x
    exact ⟨[], trivial, fun a m => absurd m (by simp)⟩
  | .str s, _, x, _, _ => by
    cases x
    exact ⟨[], trivial, fun a m => absurd m (by simp)⟩
  | .bytes b, _, x, _, _ => by
    cases x
    exact ⟨[], trivial, fun a m => absurd m (by simp)⟩
  | .list ds, _, x, p, z => by
    obtain ⟨a, vs, rfl, ho, hall⟩ := well_list x
    have z2 : WData.weightAll ds ≤ 1048576 := z
    obtain ⟨A, h1, h2⟩ := area_all ds _ hall p fun d hd => Nat.le_trans (weight_mem hd) z2
    have k : ∀ b ∈ A, b ∈ a :: A := fun b hb => List.mem_cons_of_mem _ hb
    refine ⟨a :: A, List.mem_cons_self .., fun b hb => ?_⟩
    rcases List.mem_cons.mp hb with e | m
    · rw [e]
      exact ⟨vs, line_of (by rw [wellAll_len hall]; exact Nat.le_trans (PySem.W.length_le_weightAllW ds) z2), fun u hu => (h1 u hu).mono k, .inl ho⟩
    · exact (h2 b m).mono k
  | .tuple ds, _, x, p, z => by
    obtain ⟨a, vs, rfl, ho, hall⟩ := well_tuple x
    have z2 : WData.weightAll ds ≤ 1048576 := z
    obtain ⟨A, h1, h2⟩ := area_all ds _ hall p fun d hd => Nat.le_trans (weight_mem hd) z2
    have k : ∀ b ∈ A, b ∈ a :: A := fun b hb => List.mem_cons_of_mem _ hb
    refine ⟨a :: A, List.mem_cons_self .., fun b hb => ?_⟩
    rcases List.mem_cons.mp hb with e | m
    · rw [e]
      exact ⟨vs, line_of (by rw [wellAll_len hall]; exact Nat.le_trans (PySem.W.length_le_weightAllW ds) z2), fun u hu => (h1 u hu).mono k, .inr ho⟩
    · exact (h2 b m).mono k
  | .float _, _, _, p, _ => Bool.noConfusion (show false = true from p)
  | .dict _, _, _, p, _ => Bool.noConfusion (show false = true from p)
  | .bytearray _, _, _, p, _ => Bool.noConfusion (show false = true from p)
  | .set _, _, _, p, _ => Bool.noConfusion (show false = true from p)
  | .frozenset _, _, _, p, _ => Bool.noConfusion (show false = true from p)
  | .obj _ _, _, _, p, _ => Bool.noConfusion (show false = true from p)
theorem area_all : ∀ (ds : List WData) (vs : List Value), WellAll P h vs ds → plWs ds = true → (∀ d ∈ ds, d.weight ≤ 1048576) → ∃ A : List Addr, (∀ u ∈ vs, OkU A u) ∧ ∀ a ∈ A, ArgOb h A a
  | [], _, x, _, _ => by
    cases x
    exact ⟨[], fun u m => absurd m (by simp), fun a m => absurd m (by simp)⟩
  | d :: ds, _, x, p, z => by
    obtain ⟨v, vs, rfl, x1, x2⟩ := well_cons x
    have q : plW d = true ∧ plWs ds = true := Bool.and_eq_true_iff.mp p
    obtain ⟨A, a1, a2⟩ := area_one d v x1 q.1 (z d (List.mem_cons_self ..))
    obtain ⟨B, b1, b2⟩ := area_all ds vs x2 q.2 fun e he => z e (List.mem_cons_of_mem _ he)
    have kA : ∀ b ∈ A, b ∈ A ++ B := fun b hb => List.mem_append.mpr (.inl hb)
    have kB : ∀ b ∈ B, b ∈ A ++ B := fun b hb => List.mem_append.mpr (.inr hb)
    refine ⟨A ++ B, fun u hu => ?_, fun b hb => ?_⟩
    · rcases List.mem_cons.mp hu with e | m
      · rw [e]
        exact a1.mono kA
      · exact (b1 u m).mono kB
    · rcases List.mem_append.mp hb with m | m
      · exact (a2 b m).mono kA
      · exact (b2 b m).mono kB
end
end
/-- what is tracked of an argument's object -/
def hoOf (o : Obj) : Option HO := match o.data with
  | .seq vs _ => if (o.cls == Value.type "list") = true then some (.frz o (.lst (vs.toList.map toV))) else some (.frz o (.tup (vs.toList.map toV)))
  | _ => none
def argH (K : PySem.W.Frag) (h : Heap) (A : List Addr) : Hp := fun b => if b ∈ A then (if (K.lookup b).isNone = true then (h.get? b).bind hoOf else none) else none
/-- nothing is tracked but what is known to the object -/
def OnlyF (H : Hp) : Prop := ∀ b, H b = none ∨ ∃ o u, H b = some (.frz o u)
theorem hoOf_lst (vs : List Value) : hoOf { cls := .type "list", data := .seq vs.toArray } = some (.frz { cls := .type "list", data := .seq vs.toArray } (.lst (vs.map toV))) := by
  show (if (Value.type "list" == Value.type "list") = true then some (HO.frz { cls := .type "list", data := .seq vs.toArray } (.lst (vs.toArray.toList.map toV))) else some (HO.frz { cls := .type "list", data := .seq vs.toArray } (.tup (vs.toArray.toList.map toV)))) = _
  rw [if_pos (beq_self_eq_true _)]
theorem hoOf_tup (vs : List Value) : hoOf { cls := .type "tuple", data := .seq vs.toArray } = some (.frz { cls := .type "tuple", data := .seq vs.toArray } (.tup (vs.map toV))) := by
  show (if (Value.type "tuple" == Value.type "list") = true then some (HO.frz { cls := .type "tuple", data := .seq vs.toArray } (.lst (vs.toArray.toList.map toV))) else some (HO.frz { cls := .type "tuple", data := .seq vs.toArray } (.tup (vs.toArray.toList.map toV)))) = _
  rw [if_neg (by decide)]
section
variable {P : Program} {w : World} {K : PySem.W.Frag} {h : Heap} {A : List Addr}
theorem argH_at {b : Addr} {o : Obj} (hb : b ∈ A) (hk : K.lookup b = none) (e : h.get? b = some o) : argH K h A b = hoOf o := by
  unfold argH
  rw [if_pos hb, hk, if_pos (show (none : Option Obj).isNone = true from rfl), e] <;> rfl
theorem of_argH {b : Addr} {u : HO} (q : argH K h A b = some u) : b ∈ A ∧ K.lookup b = none := by
  unfold argH at q
  by_cases hb : b ∈ A
  · rw [if_pos hb] at q
    cases hk : K.lookup b with
    | none => exact ⟨hb, rfl⟩
    | some o =>
      rw [hk, if_neg (by simp)] at q
      cases q
  · rw [if_neg hb] at q
    cases q
/-- what stands tracked -/
theorem argH_is (ar : ∀ a ∈ A, ArgOb h A a) {b : Addr} {u : HO} (q : argH K h A b = some u) : K.lookup b = none ∧ ∃ vs : List Value, vs.length ≤ sizeLine ∧ (∀ u ∈ vs, OkU A u) ∧
    ((h.get? b = some { cls := .type "list", data := .seq vs.toArray } ∧ u = .frz { cls := .type "list", data := .seq vs.toArray } (.lst (vs.map toV))) ∨
     (h.get? b = some { cls := .type "tuple", data := .seq vs.toArray } ∧ u = .frz { cls := .type "tuple", data := .seq vs.toArray } (.tup (vs.map toV)))) := by
  obtain ⟨hb, hk⟩ := of_argH q
  obtain ⟨vs, h1, h2, h3⟩ := ar b hb
  refine ⟨hk, vs, h1, h2, ?_⟩
  rcases h3 with e | e
  · rw [argH_at hb hk e, hoOf_lst] at q
    exact .inl ⟨e, (Option.some.inj q).symm⟩
  · rw [argH_at hb hk e, hoOf_tup] at q
    exact .inr ⟨e, (Option.some.inj q).symm⟩
theorem argH_only (ar : ∀ a ∈ A, ArgOb h A a) : OnlyF (argH K h A) := fun b => by
  cases q : argH K h A b with
  | none => exact .inl rfl
  | some u =>
    obtain ⟨_, vs, _, _, ⟨_, e⟩ | ⟨_, e⟩⟩ := argH_is ar q
    · exact .inr ⟨_, _, by rw [e]⟩
    · exact .inr ⟨_, _, by rw [e]⟩
theorem argH_ok (ar : ∀ a ∈ A, ArgOb h A a) : HOk P w (argH K h A) h := fun b u q => by
  obtain ⟨_, vs, h1, h2, ⟨e, rfl⟩ | ⟨e, rfl⟩⟩ := argH_is ar q
  · exact ⟨e, by rw [List.length_map]; exact h1, vs, _, vals_toV h2, e⟩
  · exact ⟨e, by rw [List.length_map]; exact h1, vs, vals_toV h2, _, e, rfl, _, rfl⟩
theorem seq_inj {c c' : Value} {vs us : List Value} (e : (some { cls := c, data := .seq vs.toArray } : Option Obj) = some { cls := c', data := .seq us.toArray }) : c = c' ∧ vs = us := by
  have e1 := Option.some.inj e
  have e2 : c = c' := congrArg Obj.cls e1
  have e3 : Data.seq vs.toArray = Data.seq us.toArray := congrArg Obj.data e1
  injection e3 with e4
  refine ⟨e2, ?_⟩
  have e5 := congrArg Array.toList e4
  simpa using e5
/-- a list argument -/
theorem argL (KX : K.In h) (ar : ∀ a ∈ A, ArgOb h A a) {a : Addr} {vs : List Value} (ha : a ∈ A) (e : h.get? a = some { cls := .type "list", data := .seq vs.toArray }) : (∀ u ∈ vs, OkU A u) ∧ SqL K (argH K h A) a (vs.map toV) := by
  obtain ⟨us, h1, h2, h3⟩ := ar a ha
  have hu : us = vs := by
    rcases h3 with q | q
    · rw [e] at q
      exact (seq_inj q).2.symm
    · rw [e] at q
      exact absurd (Value.type.inj (seq_inj q).1) (by decide)
  subst hu
  refine ⟨h2, ?_⟩
  cases hk : K.lookup a with
  | none => exact .inl (.inr ⟨_, by rw [argH_at ha hk e, hoOf_lst]⟩)
  | some o =>
    have e2 := KX a o hk
    rw [e] at e2
    obtain rfl := Option.some.inj e2
    exact .inr ⟨_, us.toArray, _, hk, rfl, rfl, rfl, by rw [List.size_toArray]; exact h1, by simpa using vals_toV h2⟩
theorem argT (KX : K.In h) (ar : ∀ a ∈ A, ArgOb h A a) {a : Addr} {vs : List Value} (ha : a ∈ A) (e : h.get? a = some { cls := .type "tuple", data := .seq vs.toArray }) : (∀ u ∈ vs, OkU A u) ∧ SqT K (argH K h A) a (vs.map toV) := by
  obtain ⟨us, h1, h2, h3⟩ := ar a ha
  have hu : us = vs := by
    rcases h3 with q | q
    · rw [e] at q
      exact absurd (Value.type.inj (seq_inj q).1) (by decide)
    · rw [e] at q
      exact (seq_inj q).2.symm
  subst hu
  refine ⟨h2, ?_⟩
  cases hk : K.lookup a with
  | none => exact .inl (.inr ⟨_, by rw [argH_at ha hk e, hoOf_tup]⟩)
  | some o =>
    have e2 := KX a o hk
    rw [e] at e2
    obtain rfl := Option.some.inj e2
    exact .inr ⟨_, us.toArray, _, hk, rfl, rfl, by rw [List.size_toArray]; exact h1, by simpa using vals_toV h2⟩
mutual
theorem dw_one {Pm : Params} (KX : K.In h) (ar : ∀ a ∈ A, ArgOb h A a) : ∀ (d : WData) (v : Value), Well Pm h v d → plW d = true → OkU A v → Dw K (argH K h A) (toV v) d
  | .none, _, x, _, _ => by
    cases x
    exact .non
  | .bool b, _, x, _, _ => by
    cases x
    exact .bl b
  | .int i, _, x, _, _ => by
    cases x
    exact .int i
  | .str s, _, x, _, _ => by
    cases x
    exact .str s
  | .bytes b, _, x, _, _ => by
    cases x
    have z := Dw.byt (K := K) (H := argH K h A) b.toArray
    exact z
  | .list ds, _, x, p, hu => by
    obtain ⟨a, vs, rfl, ho, hall⟩ := well_list x
    obtain ⟨h2, hs⟩ := argL KX ar hu ho
    exact .lst hs (dw_all KX ar ds _ hall p h2)
  | .tuple ds, _, x, p, hu => by
    obtain ⟨a, vs, rfl, ho, hall⟩ := well_tuple x
    obtain ⟨h2, hs⟩ := argT KX ar hu ho
    exact .tup hs (dw_all KX ar ds _ hall p h2)
  | .float _, _, _, p, _ => Bool.noConfusion (show false = true from p)
  | .dict _, _, _, p, _ => Bool.noConfusion (show false = true from p)
  | .bytearray _, _, _, p, _ => Bool.noConfusion (show false = true from p)
  | .set _, _, _, p, _ => Bool.noConfusion (show false = true from p)
  | .frozenset _, _, _, p, _ => Bool.noConfusion (show false = true from p)
  | .obj _ _, _, _, p, _ => Bool.noConfusion (show false = true from p)
theorem dw_all {Pm : Params} (KX : K.In h) (ar : ∀ a ∈ A, ArgOb h A a) : ∀ (ds : List WData) (vs : List Value), WellAll Pm h vs ds → plWs ds = true → (∀ u ∈ vs, OkU A u) → DwAll K (argH K h A) (vs.map toV) ds
  | [], _, x, _, _ => by
    cases x
    exact .nil
  | d :: ds, _, x, p, hu => by
    obtain ⟨v, vs, rfl, x1, x2⟩ := well_cons x
    have q : plW d = true ∧ plWs ds = true := Bool.and_eq_true_iff.mp p
    exact .cons (dw_one KX ar d v x1 q.1 (hu _ (List.mem_cons_self ..))) (dw_all KX ar ds vs x2 q.2 fun u m => hu u (List.mem_cons_of_mem _ m))
end
end
/-! ### the call -/
theorem spec_call {P : Program} {w : World} {K : PySem.W.Frag} {mg mb : Str → Option Value} {CX : CXT} {k : Nat} {fa : Addr} {fd : FuncData} {ps : List Str} {sp : Sp} {s₁ : Shared} {vals : List Value} {ds : List WData} {R : PySem.W.WRecords} {cl : Str → Option Addr} {d0 : WData}
    (KX : K.In s₁.heap) (hns : s₁.heap.Ns mainGlobals mg) (hb : s₁.heap.Ns builtinsNs mb) (hbb : ∀ x : Str, x ≠ "__name__" → mb x = bootBuiltins x) (hlim : s₁.heap.NoLimit) (hg : s₁.gens = #[])
    (hwl : WellAll w.params s₁.heap vals ds) (hpl : plWs ds = true) (hwt : ∀ d ∈ ds, d.weight ≤ 1048576) (hr : Room k callerA)
    (F : ∀ base : Heap, K.In base → base.Ns mainGlobals mg → FnOk P w K mg base CX k fa fd ps sp) (hbind : ∀ (s : Shared) (us : List Value), us.length = ps.length → BindsTo s fd ⟨us, []⟩ (ps.zip us)) (hlen : ds.length = ps.length)
    (hsp : ∀ (H : Hp) (xs : List V), OnlyF H → DwAll K H xs ds → sp xs H (fun v H' => Dw K H' v d0) fun _ _ _ => False)
    (hCX : ∀ H e s', CX [] H s₁ (fun _ _ _ => False) e s' → False) :
    codeAny (model P w) callerA (.call (.ref fa) ⟨vals, []⟩) (fun r s' => ∃ u as, r = .ok (.ret u) ∧ ReadsW R cl s'.heap u d0 as ∧ OldK s₁.heap s'.heap ∧ s'.os = s₁.os ∧ AllBare s'.gens) s₁ := by
  obtain ⟨A, ho, ar⟩ := area_all ds vals hwl hpl hwt
  have hO : OnlyF (argH K s₁.heap A) := argH_only ar
  have hok : HOk P w (argH K s₁.heap A) s₁.heap := argH_ok ar
  have hS := dw_all KX ar ds vals hwl hpl ho
  have hV := vals_toV ho
  have hK : ∀ b u, argH K s₁.heap A b = some u → K.lookup b = none := fun b u q => (argH_is ar q).1
  have noA : ∀ {b : Addr} {o : Obj} {es : Array DictEntry} {ep : Nat}, s₁.heap.get? b = some o → o.data = .dict es ep → argH K s₁.heap A b = none := fun {b o es ep} e d => by
    cases q : argH K s₁.heap A b with
    | none => rfl
    | some u =>
      obtain ⟨_, vs, _, _, ⟨e2, _⟩ | ⟨e2, _⟩⟩ := argH_is ar q
      · rw [e2] at e
        cases e
        have d' : Data.seq vs.toArray _ = Data.dict es ep := d
        cases d'
      · rw [e2] at e
        cases e
        have d' : Data.seq vs.toArray _ = Data.dict es ep := d
        cases d'
  generalize argH K s₁.heap A = H at hO hok hS hK noA
  have base_of : ∀ {b : Addr} {o : Obj}, s₁.heap.get? b = some o → H b = none → (hidT s₁.heap H).get? b = some o := fun e n => hidT_get e n
  have nsK : ∀ {b : Addr} {m : Str → Option Value}, s₁.heap.Ns b m → (hidT s₁.heap H).Ns b m := fun {b m} ⟨o, es, ep, e, d, r⟩ => ⟨o, es, ep, base_of e (noA e d), d, r⟩
  have nK : ∀ b o, K.lookup b = some o → H b = none := fun b o e => by
    cases q : H b with
    | none => rfl
    | some u =>
      rw [hK b u q] at e
      cases e
  have hKb : K.In (hidT s₁.heap H) := fun b o e => base_of (KX b o e) (nK b o e)
  have hM : Mod K mg (hidT s₁.heap H) := ⟨hKb, nsK hns, ⟨mb, nsK hb, hbb⟩, let ⟨mc, h1, h2⟩ := hlim; ⟨mc, nsK h1, h2⟩⟩
  have e0 : Env0 P w K mg (hidT s₁.heap H) callerA [] s₁ H := ⟨rfl, hM, fun b o e => of_hidT e, Nat.le_of_eq (hidT_size _ _), trivial, fun b hb => absurd (show b ∈ ([] : List Addr) from hb) (by simp), hok, .of_eq hg⟩
  have hl : vals.length = ps.length := by rw [wellAll_len hwl]; exact hlen
  refine codeAny_mono ((F _ hKb (nsK hns)).run callerA [] s₁ H ⟨vals, []⟩ vals (vals.map toV) _ _ hr e0 (hbind s₁ vals hl) hV (hsp H _ hO hS)) fun r s' x => ?_
  cases r with
  | error e => exact (hCX H e s' x).elim
  | ok fl =>
    cases fl with
    | next => exact False.elim x
    | brk => exact False.elim x
    | cont => exact False.elim x
    | ret u =>
      obtain ⟨v, H', os, bare, un, hok', r', q⟩ := x
      have kept : ∀ b o, s₁.heap.get? b = some o → s'.heap.get? b = some o := fun b o e => by
        cases q2 : H b with
        | none => exact un.keep b o e q2 (by intro z; exact absurd (show b ∈ ([] : List Addr) from z) (by simp)) (by simp)
        | some u2 =>
          rcases hO b with z | ⟨ob, u3, z⟩
          · rw [q2] at z
            cases z
          · have z2 := un.frzs b ob _ z
            obtain ⟨e1, _⟩ := hok b _ z
            obtain ⟨e2, _⟩ := hok' b _ z2
            rw [e] at e1
            cases e1
            exact e2
      have KX' : K.In s'.heap := fun b o e => kept b o (KX b o e)
      obtain ⟨as, hrd⟩ := Dw.reads (R := R) (cl := cl) hok' KX' d0 v u q r'
      exact ⟨u, as, rfl, hrd, OldK.of_keep kept, os, bare⟩
/-! ### the row -/
theorem layable_weight {ds : List WData} (h : WData.layableAll ds = true) : ∀ d ∈ ds, d.weight ≤ 1048576 := fun d hd =>
  (PySem.W.layableW_iff.mp (List.all_eq_true.mp h d hd)).2.2
theorem encAll_len : ∀ (cs : List Codec) (a : Codec.denoteAll cs), (Codec.encAll cs a).length = cs.length
  | [], _ => rfl
  | c :: cs, a => by
    show (Codec.encAll cs a.2).length + 1 = cs.length + 1
    rw [encAll_len cs a.2]
/-- the goal that k_headS leaves (case hc), from the promise of the row's def: whatever the arguments that the codecs let and the row asks for, the def gives what stands for enc (f ..) -/
theorem walk_spec {r : OpenSpec} {k : Nat} {q : Program} {loose : List Str} {XP : (Str → Option Value) → Heap → Prop} {YP : World → Heap → Prop} {d : DefRec} {K : Params → PySem.W.Frag} {CX : World → CXT} {ps : List Str} {sp : World → Sp}
    (hwell : r.wellSaid = true) (hdf : d.params.defaults = []) (hlen : r.args.length = ps.length) (hr : Room k callerA)
    (hY : ∀ (w : World) (h : Heap), YP w h → (K w.params).In h)
    (F : ∀ (w : World) (mg : Str → Option Value) (fa : Addr) (h : Heap), YP w h → (K w.params).In h → h.Ns mainGlobals mg → mg d.name = some (.ref fa) →
      ∃ fd : FuncData, (∀ (s : Shared) (us : List Value), us.length = ps.length → BindsTo s fd ⟨us, []⟩ (ps.zip us)) ∧
        ∀ base : Heap, (K w.params).In base → base.Ns mainGlobals mg → FnOk r.prog w (K w.params) mg base (CX w) k fa fd ps (sp w))
    (hsp : ∀ (w : World) (H : Hp) (xs : List V) (a : Codec.denoteAll r.args), OnlyF H → Codec.withinAll r.args a = true → Codec.app r.args r.asked a = true → DwAll (K w.params) H xs (Codec.encAll r.args a) →
      sp w xs H (fun v H' => Dw (K w.params) H' v (r.ret.enc (Codec.app r.args r.f a))) fun _ _ _ => False)
    (hCX : ∀ (w : World) (H : Hp) (s : Shared) (e : Value) (s' : Shared), CX w [] H s (fun _ _ _ => False) e s' → False) :
    PySem.W.WalkOS q loose XP YP r d [] (fun f vs => PySem.call f vs) := by
  intro w s_0 s₁ mg mb G Y fa o pm cd doc dV kV ho hd hcd hD hmg hg args vals as hpre hlay hrd hwl hlo
  obtain ⟨a, e1, e2⟩ := PySem.W.os_pre_some hpre
  obtain ⟨e3, hwi⟩ := Codec.encAll_of_decAll r.args args a e1
  subst e3
  have KX := hY w _ Y
  obtain ⟨fd, hb, hF⟩ := F w mg fa _ Y KX G.T.g hmg
  refine PySem.W.enter_call (codeAny_mono (spec_call (R := []) (cl := classAt s_0.heap) (d0 := r.ret.enc (Codec.app r.args r.f a)) KX G.T.g G.T.b G.T.builtins G.T.nolimit hg hwl (pl_encAll _ _) (layable_weight hlay) hr hF hb (by rw [encAll_len]; exact hlen)
    (fun H xs hO hS => hsp w H xs a hO hwi e2 hS) fun H e s' => hCX w H s₁ e s') fun r' s' hq => ?_)
  obtain ⟨u, as', rfl, h1, h2, h3, h4⟩ := hq
  exact ⟨.inl ⟨u, _, as', rfl, fun _ => rfl, h1, (OpenSpec.post_iff hwell hwi _ _).mpr rfl, fun z => Bool.noConfusion (show false = true from z)⟩, h2, h3, h4⟩
/-- the same where the promise hangs on the written part alone -/
theorem walk_specK {r : OpenSpec} {k : Nat} {q : Program} {loose : List Str} {XP : (Str → Option Value) → Heap → Prop} {YP : World → Heap → Prop} {d : DefRec} {K : Params → PySem.W.Frag} {CX : CXT} {ps : List Str} {sp : PySem.W.Frag → Sp}
    (hwell : r.wellSaid = true) (hdf : d.params.defaults = []) (hlen : r.args.length = ps.length) (hr : Room k callerA)
    (hY : ∀ (w : World) (h : Heap), YP w h → (K w.params).In h)
    (F : ∀ (w : World) (mg : Str → Option Value) (fa : Addr) (h : Heap), YP w h → (K w.params).In h → h.Ns mainGlobals mg → mg d.name = some (.ref fa) →
      ∃ fd : FuncData, (∀ (s : Shared) (us : List Value), us.length = ps.length → BindsTo s fd ⟨us, []⟩ (ps.zip us)) ∧
        ∀ base : Heap, (K w.params).In base → base.Ns mainGlobals mg → FnOk r.prog w (K w.params) mg base CX k fa fd ps (sp (K w.params)))
    (hsp : ∀ (K : PySem.W.Frag) (H : Hp) (xs : List V) (a : Codec.denoteAll r.args), OnlyF H → Codec.withinAll r.args a = true → Codec.app r.args r.asked a = true → DwAll K H xs (Codec.encAll r.args a) →
      sp K xs H (fun v H' => Dw K H' v (r.ret.enc (Codec.app r.args r.f a))) fun _ _ _ => False)
    (hCX : ∀ (H : Hp) (s : Shared) (e : Value) (s' : Shared), CX [] H s (fun _ _ _ => False) e s' → False) :
    PySem.W.WalkOS q loose XP YP r d [] (fun f vs => PySem.call f vs) :=
  walk_spec (K := K) (CX := fun _ => CX) (sp := fun w => sp (K w.params)) hwell hdf hlen hr hY F (fun w H xs a h1 h2 h3 h4 => hsp (K w.params) H xs a h1 h2 h3 h4) fun _ H s e s' => hCX H s e s'
end L2
end
set_option Elab.async false
set_option linter.all false
namespace TM
open Sn98
/-! ### the program's own data, plainly -/
/-- what a Timer object holds -/
structure Rec where
  name : Int
  every : Int
  tag : Int
  due : Int
  turn : Int
  held : Bool
  left : Int
abbrev K3 := Int × Int × Int
def Rec.key (r : Rec) : K3 := (r.due, r.turn, r.name)
/-- the order of tuples of three whole numbers -/
def klt (x y : K3) : Bool := decide (x.1 < y.1 ∨ (x.1 = y.1 ∧ (x.2.1 < y.2.1 ∨ (x.2.1 = y.2.1 ∧ x.2.2 < y.2.2))))
theorem klt_iff {x y : K3} : klt x y = true ↔ (x.1 < y.1 ∨ (x.1 = y.1 ∧ (x.2.1 < y.2.1 ∨ (x.2.1 = y.2.1 ∧ x.2.2 < y.2.2)))) := by
  unfold klt
  exact decide_eq_true_iff
theorem klt_trans {x y z : K3} (h : klt x y = true) (g : klt y z = true) : klt x z = true := by
  rw [klt_iff] at *
  omega
theorem klt_irrefl (x : K3) : klt x x = false := by
  cases e : klt x x with
  | false => rfl
  | true =>
    rw [klt_iff] at e
    omega
theorem klt_asymm {x y : K3} (h : klt x y = true) : klt y x = false := by
  cases e : klt y x with
  | false => rfl
  | true =>
    rw [klt_iff] at e h
    omega
abbrev Srt (l : List K3) : Prop := l.Pairwise fun x y => klt x y = true
/-- how many stand before a place -/
def before (l : List K3) (p : K3) : Nat := l.countP fun x => klt x p
theorem before_nil (p : K3) : before [] p = 0 := rfl
theorem before_cons (x : K3) (l : List K3) (p : K3) : before (x :: l) p = before l p + if klt x p = true then 1 else 0 := by
  unfold before
  rw [List.countP_cons]
theorem before_le (l : List K3) (p : K3) : before l p ≤ l.length := List.countP_le_length
theorem before_zero : ∀ {l : List K3} {p : K3}, (∀ x ∈ l, klt x p = false) → before l p = 0
  | [], _, _ => rfl
  | x :: l, p, h => by
    rw [before_cons, before_zero fun y hy => h y (List.mem_cons_of_mem _ hy), h x (List.mem_cons_self ..)]
    rfl
theorem before_spec : ∀ {l : List K3} {p : K3}, Srt l → ∀ {i : Nat} {x : K3}, l[i]? = some x → (klt x p = true ↔ i < before l p)
  | [], p, _, i, x, e => by simp at e
  | y :: l, p, h, i, x, e => by
    obtain ⟨h1, h2⟩ := List.pairwise_cons.mp h
    rw [before_cons]
    by_cases hy : klt y p = true
    · rw [if_pos hy]
      cases i with
      | zero =>
        have e' : y = x := by simpa using e
        subst e'
        exact ⟨fun _ => by omega, fun _ => hy⟩
      | succ i =>
        have ih := before_spec (p := p) h2 (i := i) (x := x) (by simpa using e)
        rw [ih]
        omega
    · have h0 : before l p = 0 := before_zero fun z hz => by
        cases q : klt z p with
        | false => rfl
        | true => exact absurd (klt_trans (h1 z hz) q) hy
      rw [if_neg hy, h0]
      cases i with
      | zero =>
        have e' : y = x := by simpa using e
        subst e'
        exact ⟨fun q => absurd q hy, fun q => by omega⟩
      | succ i =>
        have hx : x ∈ l := List.mem_of_getElem? (show l[i]? = some x by simpa using e)
        exact ⟨fun q => absurd (klt_trans (h1 x hx) q) hy, fun q => by omega⟩
/-- where it stands -/
theorem before_at {l : List K3} {i : Nat} {x : K3} (h : Srt l) (e : l[i]? = some x) : before l x = i := by
  have hi : i < l.length := (List.getElem?_eq_some_iff.mp e).1
  have a1 : ¬ i < before l x := fun q => by
    have := (before_spec (p := x) h e).mpr q
    rw [klt_irrefl] at this
    cases this
  by_cases a2 : before l x = i
  · exact a2
  · have lt : before l x < i := by omega
    have hb : before l x < l.length := by omega
    have e2 : l[before l x]? = some l[before l x] := List.getElem?_eq_getElem hb
    have e3 : l[i] = x := (List.getElem?_eq_some_iff.mp e).2
    have h3 := List.pairwise_iff_getElem.mp h _ _ hb hi lt
    rw [e3] at h3
    have := (before_spec (p := x) h e2).mp h3
    omega
/-- put in its place -/
def ins (l : List K3) (p : K3) : List K3 := l.take (before l p) ++ p :: l.drop (before l p)
theorem insW_sorted : ∀ {l : List K3} {p : K3}, Srt l → (∀ x ∈ l, x ≠ p) → Srt (ins l p)
  | [], p, _, _ => by
    unfold ins
    simp
  | x :: l, p, h, hp => by
    obtain ⟨h1, h2⟩ := List.pairwise_cons.mp h
    have ih := insW_sorted (p := p) h2 fun y hy => hp y (List.mem_cons_of_mem _ hy)
    unfold ins at ih ⊢
    rw [before_cons]
    by_cases hx : klt x p = true
    · rw [if_pos hx, List.take_succ_cons, List.drop_succ_cons, List.cons_append]
      refine List.pairwise_cons.mpr ⟨fun y hy => ?_, ih⟩
      rcases List.mem_append.mp hy with q | q
      · exact h1 y (List.mem_of_mem_take q)
      · rcases List.mem_cons.mp q with q | q
        · rw [q]; exact hx
        · exact h1 y (List.mem_of_mem_drop q)
    · have h0 : before l p = 0 := before_zero fun z hz => by
        cases q : klt z p with
        | false => rfl
        | true => exact absurd (klt_trans (h1 z hz) q) hx
      rw [if_neg hx, h0]
      show Srt (p :: x :: l)
      have hxp : klt p x = true := by
        have ne := hp x (List.mem_cons_self ..)
        rw [klt_iff] at hx ⊢
        have ne' : ¬ (x.1 = p.1 ∧ x.2.1 = p.2.1 ∧ x.2.2 = p.2.2) := fun q => ne (Prod.ext q.1 (Prod.ext q.2.1 q.2.2))
        omega
      refine List.pairwise_cons.mpr ⟨fun y hy => ?_, h⟩
      rcases List.mem_cons.mp hy with q | q
      · rw [q]; exact hxp
      · exact klt_trans hxp (h1 y q)
theorem mem_ins {l : List K3} {p x : K3} : x ∈ ins l p ↔ x = p ∨ x ∈ l := by
  unfold ins
  rw [List.mem_append, List.mem_cons]
  constructor
  · rintro (q | q | q)
    · exact .inr (List.mem_of_mem_take q)
    · exact .inl q
    · exact .inr (List.mem_of_mem_drop q)
  · rintro (q | q)
    · exact .inr (.inl q)
    · rw [← List.take_append_drop (before l p) l] at q
      rcases List.mem_append.mp q with q | q
      · exact .inl q
      · exact .inr (.inr q)
/-! ### the specification's state beside the program's -/
abbrev K4 := Int × Int × Int × Int
def tpr (t : Timer) : K4 := (t.at_, t.name, t.every, t.tag)
def rpr (r : Rec) : K4 := (r.due, r.name, r.every, r.tag)
def hpr (h : Held) : K4 := (h.left, h.name, h.every, h.tag)
def lpr (r : Rec) : K4 := (r.left, r.name, r.every, r.tag)
structure Book where
  now : Int
  turns : Int
  recs : List Rec
  line : List K3
structure Good (B : Book) (s : State) (W Hd : List Rec) : Prop where
  perm : B.recs.Perm (W ++ Hd)
  line : B.line = W.map Rec.key
  tim : s.timers.map tpr = W.map rpr
  hel : s.held.map hpr = Hd.map lpr
  wh : ∀ r ∈ W, r.held = false
  hh : ∀ r ∈ Hd, r.held = true
  nd : (B.recs.map Rec.name).Nodup
  srt : Srt B.line
  trn : ∀ k ∈ B.line, k.2.1 ≤ B.turns
  strn : ∀ t ∈ s.timers, t.turn < s.turns
  now : B.now = s.now
  size : B.recs.length ≤ 65536
  lnow : s.now ≤ LAST
  lim : ∀ t ∈ s.timers, t.at_ ≤ LAST ∧ t.every ≤ LAST
  limh : ∀ h ∈ s.held, h.left ≤ LAST ∧ h.every ≤ LAST
section
variable {B : Book} {s : State} {W Hd : List Rec}
theorem Good.mem (g : Good B s W Hd) {r : Rec} : r ∈ B.recs ↔ r ∈ W ∨ r ∈ Hd := by
  rw [g.perm.mem_iff, List.mem_append]
theorem Good.sizeEq (g : Good B s W Hd) : s.size = B.recs.length := by
  have h1 := congrArg List.length g.tim
  have h2 := congrArg List.length g.hel
  have h3 := g.perm.length_eq
  rw [List.length_map, List.length_map] at h1 h2
  rw [List.length_append] at h3
  unfold State.size
  omega
theorem Good.lenW (g : Good B s W Hd) : s.timers.length = W.length := by
  have h1 := congrArg List.length g.tim
  rwa [List.length_map, List.length_map] at h1
theorem Good.lenH (g : Good B s W Hd) : s.held.length = Hd.length := by
  have h1 := congrArg List.length g.hel
  rwa [List.length_map, List.length_map] at h1
theorem Good.lenL (g : Good B s W Hd) : B.line.length = W.length := by rw [g.line, List.length_map]
/-- two of one name are one -/
theorem Good.inj (g : Good B s W Hd) {r q : Rec} (hr : r ∈ B.recs) (hq : q ∈ B.recs) (e : r.name = q.name) : r = q := by
  have key : ∀ {l : List Rec}, (l.map Rec.name).Nodup → r ∈ l → q ∈ l → r = q := by
    intro l
    induction l with
    | nil => intro _ h _; cases h
    | cons x l ih =>
      intro hn h1 h2
      rw [List.map_cons, List.nodup_cons] at hn
      rcases List.mem_cons.mp h1 with a | a
      · rcases List.mem_cons.mp h2 with b | b
        · rw [a, b]
        · exact absurd (List.mem_map.mpr ⟨q, b, by rw [← e, a]⟩) hn.1
      · rcases List.mem_cons.mp h2 with b | b
        · exact absurd (List.mem_map.mpr ⟨r, a, by rw [e, b]⟩) hn.1
        · exact ih hn.2 a b
  exact key g.nd hr hq
theorem any_map {α β : Type} (f : α → β) (p : β → Bool) (l : List α) : (l.map f).any p = l.any fun x => p (f x) := by
  rw [List.any_map]
  rfl
theorem Good.has (g : Good B s W Hd) (n : Nat) : s.has n = B.recs.any fun r => r.name == (n : Int) := by
  have e1 : (s.timers.any fun t => t.name == n) = W.any fun r => r.name == (n : Int) := by
    have h1 : (s.timers.any fun t => t.name == n) = (s.timers.map tpr).any fun k => k.2.1 == (n : Int) := by
      rw [any_map]
      congr 1
      funext t
      show (t.name == n) = ((t.name : Int) == (n : Int))
      rw [Bool.eq_iff_iff, beq_iff_eq, beq_iff_eq]
      omega
    rw [h1, g.tim, any_map]
    rfl
  have e2 : (s.held.any fun t => t.name == n) = Hd.any fun r => r.name == (n : Int) := by
    have h1 : (s.held.any fun t => t.name == n) = (s.held.map hpr).any fun k => k.2.1 == (n : Int) := by
      rw [any_map]
      congr 1
      funext t
      show (t.name == n) = ((t.name : Int) == (n : Int))
      rw [Bool.eq_iff_iff, beq_iff_eq, beq_iff_eq]
      omega
    rw [h1, g.hel, any_map]
    rfl
  unfold State.has
  rw [e1, e2, ← List.any_append, Bool.eq_iff_iff, List.any_eq_true, List.any_eq_true]
  constructor
  · rintro ⟨x, h1, h2⟩
    exact ⟨x, g.perm.mem_iff.mpr h1, h2⟩
  · rintro ⟨x, h1, h2⟩
    exact ⟨x, g.perm.mem_iff.mp h1, h2⟩
theorem Good.has_iff (g : Good B s W Hd) (n : Nat) : s.has n = true ↔ ∃ r ∈ B.recs, r.name = (n : Int) := by
  rw [g.has, List.any_eq_true]
  constructor
  · rintro ⟨r, h1, h2⟩
    exact ⟨r, h1, eq_of_beq h2⟩
  · rintro ⟨r, h1, h2⟩
    exact ⟨r, h1, beq_iff_eq.mpr h2⟩
theorem Good.has_not (g : Good B s W Hd) (n : Nat) : s.has n = false ↔ ∀ r ∈ B.recs, r.name ≠ (n : Int) := by
  constructor
  · intro h r hr e
    rw [(g.has_iff n).mpr ⟨r, hr, e⟩] at h
    cases h
  · intro h
    cases q : s.has n with
    | false => rfl
    | true =>
      obtain ⟨r, h1, h2⟩ := (g.has_iff n).mp q
      exact absurd h2 (h r h1)
/-! ### some are taken away, by name and tag -/
theorem filter_maps {α β γ : Type} {f : α → γ} {h : β → γ} {p : α → Bool} {q : β → Bool} {k : γ → Bool} (hp : ∀ x, p x = k (f x)) (hq : ∀ x, q x = k (h x)) {l : List α} {m : List β} (e : l.map f = m.map h) :
    (l.filter p).map f = (m.filter q).map h := by
  have h1 : (l.filter p).map f = (l.map f).filter k := by
    rw [List.filter_map]
    congr 1
    congr 1
    funext x
    exact hp x
  have h2 : (m.filter q).map h = (m.map h).filter k := by
    rw [List.filter_map]
    congr 1
    congr 1
    funext x
    exact hq x
  rw [h1, h2, e]
theorem nodup_filter_map {α β : Type} {f : α → β} (p : α → Bool) : ∀ {l : List α}, (l.map f).Nodup → ((l.filter p).map f).Nodup
  | [], _ => List.nodup_nil
  | x :: l, h => by
    rw [List.map_cons, List.nodup_cons] at h
    rw [List.filter_cons]
    by_cases e : p x = true
    · rw [if_pos e, List.map_cons, List.nodup_cons]
      refine ⟨fun m => h.1 ?_, nodup_filter_map p h.2⟩
      obtain ⟨y, hy, ey⟩ := List.mem_map.mp m
      exact List.mem_map.mpr ⟨y, (List.mem_filter.mp hy).1, ey⟩
    · rw [if_neg e]
      exact nodup_filter_map p h.2
/-- those that p lets stay -/
def State.keep (s : State) (p : Int → Int → Bool) : State := { s with timers := s.timers.filter (fun t => p t.name t.tag), held := s.held.filter fun h => p h.name h.tag }
theorem Good.keep (g : Good B s W Hd) (p : Int → Int → Bool) {B' : Book} (e1 : B'.recs = B.recs.filter fun r => p r.name r.tag) (e2 : B'.line = (W.filter fun r => p r.name r.tag).map Rec.key) (e3 : B'.now = B.now) (e4 : B'.turns = B.turns) :
    Good B' (State.keep s p) (W.filter fun r => p r.name r.tag) (Hd.filter fun r => p r.name r.tag) where
  perm := by
    rw [e1, ← List.filter_append]
    exact g.perm.filter _
  line := e2
  tim := filter_maps (p := fun t : Timer => p t.name t.tag) (q := fun r : Rec => p r.name r.tag) (k := fun k : K4 => p k.2.1 k.2.2.2) (fun _ => rfl) (fun _ => rfl) g.tim
  hel := filter_maps (p := fun t : Held => p t.name t.tag) (q := fun r : Rec => p r.name r.tag) (k := fun k : K4 => p k.2.1 k.2.2.2) (fun _ => rfl) (fun _ => rfl) g.hel
  wh := fun r hr => g.wh r (List.mem_filter.mp hr).1
  hh := fun r hr => g.hh r (List.mem_filter.mp hr).1
  nd := by
    rw [e1]
    exact nodup_filter_map _ g.nd
  srt := by
    rw [e2]
    have h := g.srt
    rw [g.line] at h
    exact List.Pairwise.sublist (List.Sublist.map _ List.filter_sublist) h
  trn := fun k hk => by
    rw [e2] at hk
    rw [e4]
    refine g.trn k ?_
    rw [g.line]
    obtain ⟨r, hr, e⟩ := List.mem_map.mp hk
    exact List.mem_map.mpr ⟨r, (List.mem_filter.mp hr).1, e⟩
  strn := fun t ht => g.strn t (List.mem_filter.mp ht).1
  now := by rw [e3]; exact g.now
  size := by
    rw [e1]
    exact Nat.le_trans (List.length_filter_le _ _) g.size
  lnow := g.lnow
  lim := fun t ht => g.lim t (List.mem_filter.mp ht).1
  limh := fun t ht => g.limh t (List.mem_filter.mp ht).1
theorem without_keep (s : State) (n : Nat) : s.without n = State.keep s fun m _ => m != (n : Int) := by
  unfold State.without State.keep
  have e : ∀ m : Nat, (m != n) = ((m : Int) != (n : Int)) := fun m => by
    rw [Bool.eq_iff_iff, bne_iff_ne, bne_iff_ne]
    omega
  simp only [e]
/-- the line without one of a name, by its place -/
theorem erase_before {r : Rec} : ∀ {W : List Rec}, Srt (W.map Rec.key) → (W.map Rec.name).Nodup → r ∈ W → (W.map Rec.key).eraseIdx (before (W.map Rec.key) r.key) = (W.filter fun q => q.name != r.name).map Rec.key := by
  intro W h hn hr
  obtain ⟨i, hi, e⟩ := List.getElem_of_mem hr
  have e' : (W.map Rec.key)[i]? = some r.key := by
    rw [List.getElem?_map, List.getElem?_eq_getElem hi, e]
    rfl
  rw [before_at h e']
  clear h e'
  induction W generalizing i with
  | nil => cases hr
  | cons w W ih =>
    rw [List.map_cons, List.nodup_cons] at hn
    cases i with
    | zero =>
      have e0 : w = r := e
      subst e0
      rw [List.map_cons, List.eraseIdx_cons_zero, List.filter_cons, if_neg (by simp)]
      congr 1
      symm
      rw [List.filter_eq_self]
      intro q hq
      rw [bne_iff_ne]
      intro c
      exact hn.1 (List.mem_map.mpr ⟨q, hq, c⟩)
    | succ i =>
      have hi' : i < W.length := by simpa using hi
      have e0 : W[i] = r := by simpa using e
      have hm : r ∈ W := by
        rw [← e0]
        exact List.getElem_mem hi'
      have ne : (w.name != r.name) = true := by
        rw [bne_iff_ne]
        intro c
        exact hn.1 (List.mem_map.mpr ⟨r, hm, c.symm⟩)
      rw [List.map_cons, List.eraseIdx_cons_succ, List.filter_cons, if_pos ne, List.map_cons]
      congr 1
      exact ih hn.2 hm i hi' e0
theorem Good.ndW (g : Good B s W Hd) : (W.map Rec.name).Nodup := by
  have h := (g.perm.map Rec.name).nodup_iff.mp g.nd
  rw [List.map_append] at h
  exact (List.nodup_append.mp h).1
theorem Good.ndH (g : Good B s W Hd) : (Hd.map Rec.name).Nodup := by
  have h := (g.perm.map Rec.name).nodup_iff.mp g.nd
  rw [List.map_append] at h
  exact (List.nodup_append.mp h).2.1
theorem Good.inW (g : Good B s W Hd) {r : Rec} (hr : r ∈ B.recs) (h : r.held = false) : r ∈ W := by
  rcases g.mem.mp hr with q | q
  · exact q
  · rw [g.hh r q] at h
    cases h
theorem Good.inH (g : Good B s W Hd) {r : Rec} (hr : r ∈ B.recs) (h : r.held = true) : r ∈ Hd := by
  rcases g.mem.mp hr with q | q
  · rw [g.wh r q] at h
    cases h
  · exact q
/-- one is dropped -/
theorem Good.dropped (g : Good B s W Hd) {r : Rec} {n : Nat} (hr : r ∈ B.recs) (e : r.name = n) {B' : Book} (e1 : B'.recs = B.recs.filter fun q => q.name != (n : Int))
    (e2 : B'.line = if r.held = true then B.line else B.line.eraseIdx (before B.line r.key)) (e3 : B'.now = B.now) (e4 : B'.turns = B.turns) :
    Good B' (s.without n) (W.filter fun q => q.name != (n : Int)) (Hd.filter fun q => q.name != (n : Int)) := by
  rw [without_keep]
  refine g.keep (fun m _ => m != (n : Int)) e1 ?_ e3 e4
  rw [e2]
  cases hh : r.held with
  | false =>
    rw [if_neg Bool.false_ne_true]
    have hs := g.srt
    rw [g.line] at hs ⊢
    rw [erase_before hs g.ndW (g.inW hr hh), e]
  | true =>
    rw [if_pos rfl, g.line]
    congr 1
    symm
    rw [List.filter_eq_self]
    intro q hq
    rw [bne_iff_ne]
    intro c
    have := g.inj hr (g.mem.mpr (.inl hq)) (e.trans c.symm)
    subst this
    rw [g.wh r hq] at hh
    cases hh
theorem Good.without_self (g : Good B s W Hd) {n : Nat} (h : s.has n = false) : s.without n = s := by
  unfold State.has at h
  rw [Bool.or_eq_false_iff, List.any_eq_false, List.any_eq_false] at h
  unfold State.without
  have e1 : s.timers.filter (fun t => t.name != n) = s.timers := by
    rw [List.filter_eq_self]
    intro t ht
    have := h.1 t ht
    rw [bne_iff_ne]
    intro c
    exact this (beq_iff_eq.mpr c)
  have e2 : s.held.filter (fun t => t.name != n) = s.held := by
    rw [List.filter_eq_self]
    intro t ht
    have := h.2 t ht
    rw [bne_iff_ne]
    intro c
    exact this (beq_iff_eq.mpr c)
  rw [e1, e2]
/-! ### one is set -/
theorem put_map : ∀ {ts : List Timer} {W : List Rec} {t : Timer} {r : Rec}, ts.map tpr = W.map rpr → (∀ x ∈ ts, x.turn < t.turn) → tpr t = rpr r → (∀ w ∈ W, w.turn < r.turn) → Srt (W.map Rec.key) →
    (put t ts).map tpr = (W.take (before (W.map Rec.key) r.key) ++ r :: W.drop (before (W.map Rec.key) r.key)).map rpr
  | [], [], t, r, _, _, e, _, _ => by
    show [tpr t] = [rpr r]
    rw [e]
  | [], _ :: _, _, _, h, _, _, _, _ => by simp at h
  | _ :: _, [], _, _, h, _, _, _, _ => by simp at h
  | x :: ts, w :: W, t, r, h, ht, e, hw, hs => by
    rw [List.map_cons, List.map_cons] at h
    injection h with h1 h2
    rw [List.map_cons] at hs
    obtain ⟨s1, s2⟩ := List.pairwise_cons.mp hs
    have a1 : (x.at_ : Int) = w.due := congrArg (·.1) h1
    have a2 : (t.at_ : Int) = r.due := congrArg (·.1) e
    have a3 := ht x (List.mem_cons_self ..)
    have a4 := hw w (List.mem_cons_self ..)
    rw [List.map_cons, before_cons]
    show (if t.before x = true then t :: x :: ts else x :: put t ts).map tpr = _
    have hb : t.before x = true ↔ t.at_ < x.at_ := by
      unfold Timer.before
      rw [Bool.or_eq_true, Bool.and_eq_true, decide_eq_true_iff, decide_eq_true_iff, beq_iff_eq]
      omega
    have hk : klt w.key r.key = true ↔ ¬ t.at_ < x.at_ := by
      rw [klt_iff]
      show (w.due < r.due ∨ (w.due = r.due ∧ (w.turn < r.turn ∨ (w.turn = r.turn ∧ w.name < r.name)))) ↔ _
      omega
    by_cases c : t.at_ < x.at_
    · have h0 : before (W.map Rec.key) r.key = 0 := before_zero fun z hz => by
        cases q : klt z r.key with
        | false => rfl
        | true => exact absurd c (hk.mp (klt_trans (s1 z hz) q))
      rw [if_pos (hb.mpr c), if_neg (fun q => hk.mp q c), h0]
      show tpr t :: tpr x :: ts.map tpr = rpr r :: rpr w :: W.map rpr
      rw [e, h1, h2]
    · rw [if_neg (fun q => c (hb.mp q)), if_pos (hk.mpr c), List.take_succ_cons, List.drop_succ_cons, List.cons_append, List.map_cons, List.map_cons, h1]
      congr 1
      exact put_map h2 (fun y hy => ht y (List.mem_cons_of_mem _ hy)) e (fun y hy => hw y (List.mem_cons_of_mem _ hy)) s2
theorem mem_put {t x : Timer} : ∀ {l : List Timer}, x ∈ put t l → x = t ∨ x ∈ l
  | [], h => by
    have h : x ∈ [t] := h
    exact .inl (List.mem_singleton.mp h)
  | y :: l, h => by
    have h : x ∈ (if t.before y = true then t :: y :: l else y :: put t l) := h
    by_cases c : t.before y = true
    · rw [if_pos c] at h
      exact List.mem_cons.mp h
    · rw [if_neg c] at h
      rcases List.mem_cons.mp h with q | q
      · exact .inr (List.mem_cons.mpr (.inl q))
      · rcases mem_put q with q | q
        · exact .inl q
        · exact .inr (List.mem_cons_of_mem _ q)
/-- one that isn't there is set -/
theorem Good.setNew (g : Good B s W Hd) {r : Rec} {name at_ every tag : Nat} (hn : s.has name = false) (e1 : r.name = name) (e2 : r.due = at_) (e3 : r.every = every) (e4 : r.tag = tag) (e5 : r.held = false) (e6 : r.turn = B.turns + 1)
    (l1 : at_ ≤ LAST) (l2 : every ≤ LAST) {B' : Book} (b1 : B'.recs.Perm (r :: B.recs)) (b2 : B'.line = ins B.line r.key) (b3 : B'.now = B.now) (b4 : B'.turns = B.turns + 1) (b5 : B'.recs.length ≤ 65536) :
    Good B' { s with turns := s.turns + 1, timers := put ⟨name, at_, s.turns, every, tag⟩ s.timers } (W.take (before B.line r.key) ++ r :: W.drop (before B.line r.key)) Hd where
  perm := by
    refine b1.trans ?_
    refine (List.Perm.cons r g.perm).trans ?_
    have h1 : (W.take (before B.line r.key) ++ r :: W.drop (before B.line r.key)).Perm (r :: W) := by
      refine List.perm_middle.trans ?_
      rw [List.take_append_drop]
    exact (h1.append_right Hd).symm
  line := by
    rw [b2]
    unfold ins
    rw [List.map_append, List.map_cons, List.map_take, List.map_drop, g.line]
  tim := by
    have hs := g.srt
    have ht := g.trn
    rw [g.line] at hs ht ⊢
    refine put_map g.tim (fun x hx => g.strn x hx) ?_ (fun w hw => ?_) hs
    · show ((at_ : Int), (name : Int), (every : Int), (tag : Int)) = (r.due, r.name, r.every, r.tag)
      rw [e1, e2, e3, e4]
    · have := ht w.key (List.mem_map.mpr ⟨w, hw, rfl⟩)
      have : w.turn ≤ B.turns := this
      omega
  hel := g.hel
  wh := fun q hq => by
    rcases List.mem_append.mp hq with q' | q'
    · exact g.wh q (List.mem_of_mem_take q')
    · rcases List.mem_cons.mp q' with q' | q'
      · rw [q']; exact e5
      · exact g.wh q (List.mem_of_mem_drop q')
  hh := g.hh
  nd := by
    refine (b1.map Rec.name).nodup_iff.mpr ?_
    rw [List.map_cons, List.nodup_cons]
    refine ⟨fun m => ?_, g.nd⟩
    obtain ⟨q, hq, e⟩ := List.mem_map.mp m
    exact (g.has_not name).mp hn q hq (e.trans e1)
  srt := by
    rw [b2]
    refine insW_sorted g.srt fun x hx e => ?_
    have := g.trn x hx
    rw [e] at this
    have : r.turn ≤ B.turns := this
    omega
  trn := fun k hk => by
    rw [b2, mem_ins] at hk
    rw [b4]
    rcases hk with q | q
    · rw [q]
      show r.turn ≤ _
      omega
    · have := g.trn k q
      omega
  strn := fun t ht => by
    rcases mem_put ht with q | q
    · rw [q]
      exact Nat.lt_succ_self _
    · exact Nat.lt_succ_of_lt (g.strn t q)
  now := by rw [b3]; exact g.now
  size := b5
  lnow := g.lnow
  lim := fun t ht => by
    rcases mem_put ht with q | q
    · rw [q]
      exact ⟨l1, l2⟩
    · exact g.lim t q
  limh := g.limh
/-- one that isn't there is held -/
theorem Good.heldNew (g : Good B s W Hd) {r : Rec} {name left every tag : Nat} (hn : s.has name = false) (e1 : r.name = name) (e2 : r.left = left) (e3 : r.every = every) (e4 : r.tag = tag) (e5 : r.held = true)
    (l1 : left ≤ LAST) (l2 : every ≤ LAST) {B' : Book} (b1 : B'.recs.Perm (r :: B.recs)) (b2 : B'.line = B.line) (b3 : B'.now = B.now) (b4 : B'.turns = B.turns) (b5 : B'.recs.length ≤ 65536) :
    Good B' { s with held := s.held ++ [⟨name, left, every, tag⟩] } W (Hd ++ [r]) where
  perm := by
    refine b1.trans ?_
    refine (List.Perm.cons r g.perm).trans ?_
    rw [← List.append_assoc]
    exact (List.perm_append_singleton r (W ++ Hd)).symm
  line := by rw [b2]; exact g.line
  tim := g.tim
  hel := by
    show (s.held ++ [_]).map hpr = _
    rw [List.map_append, List.map_append, g.hel]
    congr 1
    show [((left : Int), (name : Int), (every : Int), (tag : Int))] = [(r.left, r.name, r.every, r.tag)]
    rw [e1, e2, e3, e4]
  wh := g.wh
  hh := fun q hq => by
    rcases List.mem_append.mp hq with q' | q'
    · exact g.hh q q'
    · rw [List.mem_singleton.mp q']; exact e5
  nd := by
    refine (b1.map Rec.name).nodup_iff.mpr ?_
    rw [List.map_cons, List.nodup_cons]
    refine ⟨fun m => ?_, g.nd⟩
    obtain ⟨q, hq, e⟩ := List.mem_map.mp m
    exact (g.has_not name).mp hn q hq (e.trans e1)
  srt := by rw [b2]; exact g.srt
  trn := fun k hk => by
    rw [b2] at hk
    rw [b4]
    exact g.trn k hk
  strn := g.strn
  now := by rw [b3]; exact g.now
  size := b5
  lnow := g.lnow
  lim := g.lim
  limh := fun t ht => by
    rcases List.mem_append.mp ht with q | q
    · exact g.limh t q
    · rw [List.mem_singleton.mp q]
      exact ⟨l1, l2⟩
theorem good_begun {B : Book} {now : Nat} (h : now ≤ LAST) (e1 : B.now = now) (e2 : B.recs = []) (e3 : B.line = []) : Good B (begun now) [] [] where
  perm := by rw [e2]; exact .nil
  line := e3
  tim := rfl
  hel := rfl
  wh := fun r hr => nomatch hr
  hh := fun r hr => nomatch hr
  nd := by rw [e2]; exact List.nodup_nil
  srt := by rw [e3]; exact List.Pairwise.nil
  trn := fun k hk => by rw [e3] at hk; cases hk
  strn := fun t ht => nomatch ht
  now := e1
  size := by rw [e2]; exact Nat.zero_le _
  lnow := h
  lim := fun t ht => nomatch ht
  limh := fun t ht => nomatch ht
end
end TM
set_option Elab.async false
set_option linter.all false
namespace TM
open Sn98
section
variable {B : Book} {s : State} {W Hd : List Rec}
theorem idx_nodup {r : Rec} : ∀ {W : List Rec} {i : Nat}, (W.map Rec.name).Nodup → W[i]? = some r → W.findIdx? (fun q => q.name == r.name) = some i
  | [], i, _, e => by simp at e
  | w :: W, 0, _, e => by
    have e' : w = r := by simpa using e
    subst e'
    rw [List.findIdx?_cons, if_pos (beq_self_eq_true _)]
  | w :: W, i + 1, hn, e => by
    rw [List.map_cons, List.nodup_cons] at hn
    have e' : W[i]? = some r := by simpa using e
    have ne : ¬ (w.name == r.name) = true := fun z => hn.1 (List.mem_map.mpr ⟨r, List.mem_of_getElem? e', (eq_of_beq z).symm⟩)
    rw [List.findIdx?_cons, if_neg ne, idx_nodup hn.2 e']
    rfl
theorem idx_none {n : Int} : ∀ {W : List Rec}, (∀ r ∈ W, r.name ≠ n) → W.findIdx? (fun q => q.name == n) = none
  | [], _ => rfl
  | w :: W, h => by
    rw [List.findIdx?_cons, if_neg (fun z => h w (List.mem_cons_self ..) (eq_of_beq z)), idx_none fun r hr => h r (List.mem_cons_of_mem _ hr)]
    rfl
theorem tim_idx : ∀ {ts : List Timer} {W : List Rec} (n : Nat), ts.map tpr = W.map rpr → ts.findIdx? (fun t => t.name == n) = W.findIdx? fun q => q.name == (n : Int)
  | [], [], _, _ => rfl
  | [], _ :: _, _, h => by simp at h
  | _ :: _, [], _, h => by simp at h
  | t :: ts, w :: W, n, h => by
    rw [List.map_cons, List.map_cons] at h
    obtain ⟨h1, h2⟩ := List.cons.inj h
    have e : (t.name : Int) = w.name := congrArg (fun k : K4 => k.2.1) h1
    rw [List.findIdx?_cons, List.findIdx?_cons, tim_idx n h2]
    have eb : (t.name == n) = (w.name == (n : Int)) := by
      rw [Bool.eq_iff_iff, beq_iff_eq, beq_iff_eq]
      omega
    rw [eb]
theorem hel_find : ∀ {hs : List Held} {W : List Rec} (n : Nat), hs.map hpr = W.map lpr → (hs.find? fun t => t.name == n).map hpr = (W.find? fun q => q.name == (n : Int)).map lpr
  | [], [], _, _ => rfl
  | [], _ :: _, _, h => by simp at h
  | _ :: _, [], _, h => by simp at h
  | t :: ts, w :: W, n, h => by
    rw [List.map_cons, List.map_cons] at h
    obtain ⟨h1, h2⟩ := List.cons.inj h
    have e : (t.name : Int) = w.name := congrArg (fun k : K4 => k.2.1) h1
    have eb : (t.name == n) = (w.name == (n : Int)) := by
      rw [Bool.eq_iff_iff, beq_iff_eq, beq_iff_eq]
      omega
    rw [List.find?_cons, List.find?_cons, eb]
    cases w.name == (n : Int) with
    | true => exact congrArg some h1
    | false => exact hel_find n h2
theorem tim_find : ∀ {hs : List Timer} {W : List Rec} (n : Nat), hs.map tpr = W.map rpr → (hs.find? fun t => t.name == n).map tpr = (W.find? fun q => q.name == (n : Int)).map rpr
  | [], [], _, _ => rfl
  | [], _ :: _, _, h => by simp at h
  | _ :: _, [], _, h => by simp at h
  | t :: ts, w :: W, n, h => by
    rw [List.map_cons, List.map_cons] at h
    obtain ⟨h1, h2⟩ := List.cons.inj h
    have e : (t.name : Int) = w.name := congrArg (fun k : K4 => k.2.1) h1
    have eb : (t.name == n) = (w.name == (n : Int)) := by
      rw [Bool.eq_iff_iff, beq_iff_eq, beq_iff_eq]
      omega
    rw [List.find?_cons, List.find?_cons, eb]
    cases w.name == (n : Int) with
    | true => exact congrArg some h1
    | false => exact tim_find n h2
theorem find_nodup {r : Rec} {n : Int} : ∀ {W : List Rec}, (W.map Rec.name).Nodup → r ∈ W → r.name = n → W.find? (fun q => q.name == n) = some r
  | [], _, h, _ => nomatch h
  | w :: W, hn, h, e => by
    rw [List.map_cons, List.nodup_cons] at hn
    rw [List.find?_cons]
    rcases List.mem_cons.mp h with q | q
    · subst q
      rw [beq_iff_eq.mpr e]
    · have ne : (w.name == n) = false := beq_eq_false_iff_ne.mpr fun z => hn.1 (List.mem_map.mpr ⟨r, q, e.trans z.symm⟩)
      rw [ne]
      exact find_nodup hn.2 q e
theorem find_none {n : Int} : ∀ {W : List Rec}, (∀ r ∈ W, r.name ≠ n) → W.find? (fun q => q.name == n) = none
  | [], _ => rfl
  | w :: W, h => by
    rw [List.find?_cons, beq_eq_false_iff_ne.mpr (h w (List.mem_cons_self ..))]
    exact find_none fun r hr => h r (List.mem_cons_of_mem _ hr)
theorem map_none {α β : Type} {f : α → β} {o : Option α} (h : o.map f = none) : o = none := by
  cases o with
  | none => rfl
  | some x => cases h
/-- one that waits -/
theorem Good.find_wait (g : Good B s W Hd) {r : Rec} {n : Nat} (hr : r ∈ B.recs) (e : r.name = n) (hh : r.held = false) : ∃ t, s.timers.find? (fun t => t.name == n) = some t ∧ tpr t = rpr r := by
  have h := tim_find n g.tim
  rw [find_nodup g.ndW (g.inW hr hh) e] at h
  obtain ⟨t, h1, h2⟩ := Option.map_eq_some_iff.mp h
  exact ⟨t, h1, h2⟩
theorem Good.find_held (g : Good B s W Hd) {r : Rec} {n : Nat} (hr : r ∈ B.recs) (e : r.name = n) (hh : r.held = true) : ∃ t, s.held.find? (fun t => t.name == n) = some t ∧ hpr t = lpr r := by
  have h := hel_find n g.hel
  rw [find_nodup g.ndH (g.inH hr hh) e] at h
  obtain ⟨t, h1, h2⟩ := Option.map_eq_some_iff.mp h
  exact ⟨t, h1, h2⟩
theorem Good.no_wait (g : Good B s W Hd) {n : Nat} (h : ∀ r ∈ B.recs, r.name = n → r.held = true) : ∀ r ∈ W, r.name ≠ (n : Int) := fun r hr e => by
  have := h r (g.mem.mpr (.inl hr)) e
  rw [g.wh r hr] at this
  cases this
theorem Good.no_held (g : Good B s W Hd) {n : Nat} (h : ∀ r ∈ B.recs, r.name = n → r.held = false) : ∀ r ∈ Hd, r.name ≠ (n : Int) := fun r hr e => by
  have := h r (g.mem.mpr (.inr hr)) e
  rw [g.hh r hr] at this
  cases this
theorem Good.find_nowait (g : Good B s W Hd) {n : Nat} (h : ∀ r ∈ B.recs, r.name = n → r.held = true) : s.timers.find? (fun t => t.name == n) = none := by
  have h' := tim_find n g.tim
  rw [find_none (g.no_wait h)] at h'
  exact map_none h'
theorem Good.find_noheld (g : Good B s W Hd) {n : Nat} (h : ∀ r ∈ B.recs, r.name = n → r.held = false) : s.held.find? (fun t => t.name == n) = none := by
  have h' := hel_find n g.hel
  rw [find_none (g.no_held h)] at h'
  exact map_none h'
def ans (a : Ans) : List Int := a.value :: Sn98Neutral.ints a.out
theorem Good.look_none (g : Good B s W Hd) {n : Nat} (h : ∀ r ∈ B.recs, r.name ≠ (n : Int)) : step s (.look n) = (s, says (-2)) := by
  have e1 : s.timers.findIdx? (fun t => t.name == n) = none := by
    rw [tim_idx n g.tim]
    exact idx_none fun r hr => h r (g.mem.mpr (.inl hr))
  have e2 := g.find_noheld (n := n) fun r hr e => absurd e (h r hr)
  show (s, match s.timers.findIdx? (fun t => t.name == n) with
    | some i => (match s.timers[i]? with
      | some t => (⟨0, [i, t.at_, t.every, t.tag]⟩ : Ans)
      | none => says (-2))
    | none => (match s.held.find? fun (h : Held) => h.name == n with
      | some h => ⟨1, [h.left, h.every, h.tag]⟩
      | none => says (-2))) = _
  rw [e1]
  show (s, match s.held.find? fun (h : Held) => h.name == n with
      | some h => (⟨1, [h.left, h.every, h.tag]⟩ : Ans)
      | none => says (-2)) = _
  rw [e2]
theorem Good.look_held (g : Good B s W Hd) {r : Rec} {n : Nat} (hr : r ∈ B.recs) (e : r.name = n) (hh : r.held = true) : (step s (.look n)).1 = s ∧ ans (step s (.look n)).2 = [1, r.left, r.every, r.tag] := by
  have e1 : s.timers.findIdx? (fun t => t.name == n) = none := by
    rw [tim_idx n g.tim]
    refine idx_none (g.no_wait fun q hq eq => ?_)
    rw [g.inj hq hr (eq.trans e.symm)]
    exact hh
  obtain ⟨t, e2, e3⟩ := g.find_held hr e hh
  refine ⟨rfl, ?_⟩
  show ans (match s.timers.findIdx? (fun t => t.name == n) with
    | some i => (match s.timers[i]? with
      | some t => (⟨0, [i, t.at_, t.every, t.tag]⟩ : Ans)
      | none => says (-2))
    | none => (match s.held.find? fun (h : Held) => h.name == n with
      | some h => ⟨1, [h.left, h.every, h.tag]⟩
      | none => says (-2))) = _
  rw [e1]
  show ans (match s.held.find? fun (h : Held) => h.name == n with
      | some h => (⟨1, [h.left, h.every, h.tag]⟩ : Ans)
      | none => says (-2)) = _
  rw [e2]
  have a1 : (t.left : Int) = r.left := congrArg (fun k : K4 => k.1) e3
  have a2 : (t.every : Int) = r.every := congrArg (fun k : K4 => k.2.2.1) e3
  have a3 : (t.tag : Int) = r.tag := congrArg (fun k : K4 => k.2.2.2) e3
  show [(1 : Int), (t.left : Int), (t.every : Int), (t.tag : Int)] = _
  rw [a1, a2, a3]
theorem Good.line_at (g : Good B s W Hd) {r : Rec} (hr : r ∈ B.recs) (hh : r.held = false) : W[before B.line r.key]? = some r := by
  obtain ⟨i, hi, e⟩ := List.getElem_of_mem (g.inW hr hh)
  have e' : B.line[i]? = some r.key := by
    rw [g.line, List.getElem?_map, List.getElem?_eq_getElem hi, e]
    rfl
  rw [before_at g.srt e', List.getElem?_eq_getElem hi, e]
theorem Good.look_wait (g : Good B s W Hd) {r : Rec} {n : Nat} (hr : r ∈ B.recs) (e : r.name = n) (hh : r.held = false) : (step s (.look n)).1 = s ∧ ans (step s (.look n)).2 = [0, (before B.line r.key : Int), r.due, r.every, r.tag] := by
  have h0 := g.line_at hr hh
  have e1 : s.timers.findIdx? (fun t => t.name == n) = some (before B.line r.key) := by
    rw [tim_idx n g.tim, ← e]
    exact idx_nodup g.ndW h0
  have e2 : (s.timers.map tpr)[before B.line r.key]? = some (rpr r) := by
    rw [g.tim, List.getElem?_map, h0]
    rfl
  rw [List.getElem?_map] at e2
  obtain ⟨t, e3, e4⟩ := Option.map_eq_some_iff.mp e2
  refine ⟨rfl, ?_⟩
  show ans (match s.timers.findIdx? (fun t => t.name == n) with
    | some i => (match s.timers[i]? with
      | some t => (⟨0, [i, t.at_, t.every, t.tag]⟩ : Ans)
      | none => says (-2))
    | none => (match s.held.find? fun (h : Held) => h.name == n with
      | some h => ⟨1, [h.left, h.every, h.tag]⟩
      | none => says (-2))) = _
  rw [e1]
  show ans (match s.timers[before B.line r.key]? with
      | some t => (⟨0, [before B.line r.key, t.at_, t.every, t.tag]⟩ : Ans)
      | none => says (-2)) = _
  rw [e3]
  have a1 : (t.at_ : Int) = r.due := congrArg (fun k : K4 => k.1) e4
  have a2 : (t.every : Int) = r.every := congrArg (fun k : K4 => k.2.2.1) e4
  have a3 : (t.tag : Int) = r.tag := congrArg (fun k : K4 => k.2.2.2) e4
  show [(0 : Int), (before B.line r.key : Int), (t.at_ : Int), (t.every : Int), (t.tag : Int)] = _
  rw [a1, a2, a3]
/-! ### all of a tag are taken away -/
theorem awayAll_keep (s : State) (tag : Nat) : (step s (.awayAll tag)).1 = State.keep s fun _ g => g != (tag : Int) := by
  show ({ s with timers := s.timers.filter (fun t => t.tag != tag), held := s.held.filter fun h => h.tag != tag } : State) = _
  unfold State.keep
  have e : ∀ m : Nat, (m != tag) = ((m : Int) != (tag : Int)) := fun m => by
    rw [Bool.eq_iff_iff, bne_iff_ne, bne_iff_ne]
    omega
  simp only [e]
theorem keep_keep (s : State) (p q : Int → Int → Bool) : State.keep (State.keep s p) q = State.keep s fun n g => q n g && p n g := by
  unfold State.keep
  simp only [List.filter_filter]
theorem keep_congr (g : Good B s W Hd) {p q : Int → Int → Bool} (h : ∀ r ∈ B.recs, p r.name r.tag = q r.name r.tag) : State.keep s p = State.keep s q := by
  unfold State.keep
  have e1 : s.timers.filter (fun t => p t.name t.tag) = s.timers.filter fun t => q t.name t.tag := by
    apply List.filter_congr
    intro t ht
    have m : tpr t ∈ W.map rpr := by
      rw [← g.tim]
      exact List.mem_map.mpr ⟨t, ht, rfl⟩
    obtain ⟨r, hr, e⟩ := List.mem_map.mp m
    have a1 : r.name = (t.name : Int) := congrArg (fun k : K4 => k.2.1) e
    have a2 : r.tag = (t.tag : Int) := congrArg (fun k : K4 => k.2.2.2) e
    have := h r (g.mem.mpr (.inl hr))
    rwa [a1, a2] at this
  have e2 : s.held.filter (fun t => p t.name t.tag) = s.held.filter fun t => q t.name t.tag := by
    apply List.filter_congr
    intro t ht
    have m : hpr t ∈ Hd.map lpr := by
      rw [← g.hel]
      exact List.mem_map.mpr ⟨t, ht, rfl⟩
    obtain ⟨r, hr, e⟩ := List.mem_map.mp m
    have a1 : r.name = (t.name : Int) := congrArg (fun k : K4 => k.2.1) e
    have a2 : r.tag = (t.tag : Int) := congrArg (fun k : K4 => k.2.2.2) e
    have := h r (g.mem.mpr (.inr hr))
    rwa [a1, a2] at this
  rw [e1, e2]
theorem filter_split {α : Type} (p : α → Bool) : ∀ l : List α, (l.filter p).length + (l.filter fun x => !p x).length = l.length
  | [] => rfl
  | x :: l => by
    have ih := filter_split p l
    rw [List.filter_cons, List.filter_cons]
    cases p x with
    | true =>
      show (x :: l.filter p).length + (l.filter fun x => !p x).length = _
      rw [List.length_cons, List.length_cons]
      omega
    | false =>
      show (l.filter p).length + (x :: l.filter fun x => !p x).length = _
      rw [List.length_cons, List.length_cons]
      omega
theorem Good.awayAll_ans (g : Good B s W Hd) (tag : Nat) : ans (step s (.awayAll tag)).2 = [((B.recs.filter fun r => r.tag == (tag : Int)).length : Int)] := by
  have e0 : (step s (.awayAll tag)).2 = says ((s.size : Int) - (((step s (.awayAll tag)).1).size : Int)) := rfl
  rw [e0, awayAll_keep]
  have g' := g.keep (fun _ t => t != (tag : Int)) (B' := ⟨B.now, B.turns, B.recs.filter fun r => r.tag != (tag : Int), (W.filter fun r => r.tag != (tag : Int)).map Rec.key⟩) rfl rfl rfl rfl
  rw [g.sizeEq, g'.sizeEq]
  have h := filter_split (fun r : Rec => r.tag == (tag : Int)) B.recs
  show [((B.recs.length : Int) - ((B.recs.filter fun r => r.tag != (tag : Int)).length : Int))] = _
  have e : (B.recs.filter fun r => r.tag != (tag : Int)) = B.recs.filter fun r => !(r.tag == (tag : Int)) := rfl
  rw [e]
  congr 1
  omega
end
end TM
set_option Elab.async false
set_option linter.all false
/-! Mathematics of the calls time, count, later, hold, go on, list -/
namespace TM
open Sn98
section
variable {B : Book} {s : State} {W Hd : List Rec}
/-- the whole numbers of one that waits -/
theorem Good.nats (g : Good B s W Hd) {r : Rec} {n : Nat} (hr : r ∈ B.recs) (e : r.name = n) (hh : r.held = false) :
    ∃ t : Timer, s.timers.find? (fun t => t.name == n) = some t ∧ t ∈ s.timers ∧ t.name = n ∧ r.due = t.at_ ∧ r.every = t.every ∧ r.tag = t.tag := by
  obtain ⟨t, h1, h2⟩ := g.find_wait hr e hh
  have a0 : (t.name : Int) = r.name := congrArg (fun k : K4 => k.2.1) h2
  refine ⟨t, h1, List.mem_of_find?_eq_some h1, by omega, (congrArg (fun k : K4 => k.1) h2).symm, (congrArg (fun k : K4 => k.2.2.1) h2).symm, (congrArg (fun k : K4 => k.2.2.2) h2).symm⟩
theorem Good.natsH (g : Good B s W Hd) {r : Rec} {n : Nat} (hr : r ∈ B.recs) (e : r.name = n) (hh : r.held = true) :
    ∃ t : Held, s.held.find? (fun t => t.name == n) = some t ∧ t ∈ s.held ∧ t.name = n ∧ r.left = t.left ∧ r.every = t.every ∧ r.tag = t.tag := by
  obtain ⟨t, h1, h2⟩ := g.find_held hr e hh
  have a0 : (t.name : Int) = r.name := congrArg (fun k : K4 => k.2.1) h2
  refine ⟨t, h1, List.mem_of_find?_eq_some h1, by omega, (congrArg (fun k : K4 => k.1) h2).symm, (congrArg (fun k : K4 => k.2.2.1) h2).symm, (congrArg (fun k : K4 => k.2.2.2) h2).symm⟩
/-! later -/
theorem Good.later_none (g : Good B s W Hd) {n by_ : Nat} (h : s.has n = false) : step s (.later n by_) = (s, says (-2)) := by
  have e := g.find_nowait (n := n) fun r hr er => absurd er ((g.has_not n).mp h r hr)
  show (match s.timers.find? fun (t : Timer) => t.name == n with
    | none => (s, says (if s.has n = true then -4 else -2))
    | some t => if LAST < t.at_ + by_ then (s, says (-1)) else (s.set n (t.at_ + by_) t.every t.tag, says 0)) = _
  rw [e, h]
  rfl
theorem Good.later_held (g : Good B s W Hd) {r : Rec} {n by_ : Nat} (hr : r ∈ B.recs) (e : r.name = n) (hh : r.held = true) : step s (.later n by_) = (s, says (-4)) := by
  have e1 := g.find_nowait (n := n) fun q hq eq => by rw [g.inj hq hr (eq.trans e.symm)]; exact hh
  show (match s.timers.find? fun (t : Timer) => t.name == n with
    | none => (s, says (if s.has n = true then -4 else -2))
    | some t => if LAST < t.at_ + by_ then (s, says (-1)) else (s.set n (t.at_ + by_) t.every t.tag, says 0)) = _
  rw [e1, (g.has_iff n).mpr ⟨r, hr, e⟩]
  rfl
theorem Good.later_wait (g : Good B s W Hd) {r : Rec} {n by_ : Nat} (hr : r ∈ B.recs) (e : r.name = n) (hh : r.held = false) :
    ∃ d ev tg : Nat, r.due = d ∧ r.every = ev ∧ r.tag = tg ∧ ev ≤ LAST ∧ step s (.later n by_) = if LAST < d + by_ then (s, says (-1)) else (s.set n (d + by_) ev tg, says 0) := by
  obtain ⟨t, h1, h2, h3, h4, h5, h6⟩ := g.nats hr e hh
  refine ⟨t.at_, t.every, t.tag, h4, h5, h6, (g.lim t h2).2, ?_⟩
  show (match s.timers.find? fun (t : Timer) => t.name == n with
    | none => (s, says (if s.has n = true then -4 else -2))
    | some t => if LAST < t.at_ + by_ then (s, says (-1)) else (s.set n (t.at_ + by_) t.every t.tag, says 0)) = _
  rw [h1]
/-! hold -/
theorem Good.hold_none (g : Good B s W Hd) {n : Nat} (h : s.has n = false) : step s (.hold n) = (s, says (-2)) := by
  have e := g.find_nowait (n := n) fun r hr er => absurd er ((g.has_not n).mp h r hr)
  show (match s.timers.find? fun (t : Timer) => t.name == n with
    | none => (s, says (if s.has n = true then -4 else -2))
    | some t => (({ s.without n with held := (s.without n).held ++ [(⟨n, t.at_ - s.now, t.every, t.tag⟩ : Held)] } : State), says 0)) = _
  rw [e, h]
  rfl
theorem Good.hold_held (g : Good B s W Hd) {r : Rec} {n : Nat} (hr : r ∈ B.recs) (e : r.name = n) (hh : r.held = true) : step s (.hold n) = (s, says (-4)) := by
  have e1 := g.find_nowait (n := n) fun q hq eq => by rw [g.inj hq hr (eq.trans e.symm)]; exact hh
  show (match s.timers.find? fun (t : Timer) => t.name == n with
    | none => (s, says (if s.has n = true then -4 else -2))
    | some t => (({ s.without n with held := (s.without n).held ++ [(⟨n, t.at_ - s.now, t.every, t.tag⟩ : Held)] } : State), says 0)) = _
  rw [e1, (g.has_iff n).mpr ⟨r, hr, e⟩]
  rfl
theorem Good.hold_wait (g : Good B s W Hd) {r : Rec} {n : Nat} (hr : r ∈ B.recs) (e : r.name = n) (hh : r.held = false) :
    ∃ d ev tg : Nat, r.due = d ∧ r.every = ev ∧ r.tag = tg ∧ d ≤ LAST ∧ ev ≤ LAST ∧ step s (.hold n) = ({ s.without n with held := (s.without n).held ++ [⟨n, d - s.now, ev, tg⟩] }, says 0) := by
  obtain ⟨t, h1, h2, h3, h4, h5, h6⟩ := g.nats hr e hh
  refine ⟨t.at_, t.every, t.tag, h4, h5, h6, (g.lim t h2).1, (g.lim t h2).2, ?_⟩
  show (match s.timers.find? fun (t : Timer) => t.name == n with
    | none => (s, says (if s.has n = true then -4 else -2))
    | some t => (({ s.without n with held := (s.without n).held ++ [(⟨n, t.at_ - s.now, t.every, t.tag⟩ : Held)] } : State), says 0)) = _
  rw [h1]
/-! go on -/
theorem Good.go_none (g : Good B s W Hd) {n : Nat} (h : s.has n = false) : step s (.goOn n) = (s, says (-2)) := by
  have e := g.find_noheld (n := n) fun r hr er => absurd er ((g.has_not n).mp h r hr)
  show (match s.held.find? fun (h : Held) => h.name == n with
    | none => (s, says (if s.has n = true then -4 else -2))
    | some h => if LAST < s.now + h.left then (s, says (-1)) else (s.set n (s.now + h.left) h.every h.tag, says 0)) = _
  rw [e, h]
  rfl
theorem Good.go_wait (g : Good B s W Hd) {r : Rec} {n : Nat} (hr : r ∈ B.recs) (e : r.name = n) (hh : r.held = false) : step s (.goOn n) = (s, says (-4)) := by
  have e1 := g.find_noheld (n := n) fun q hq eq => by rw [g.inj hq hr (eq.trans e.symm)]; exact hh
  show (match s.held.find? fun (h : Held) => h.name == n with
    | none => (s, says (if s.has n = true then -4 else -2))
    | some h => if LAST < s.now + h.left then (s, says (-1)) else (s.set n (s.now + h.left) h.every h.tag, says 0)) = _
  rw [e1, (g.has_iff n).mpr ⟨r, hr, e⟩]
  rfl
theorem Good.go_held (g : Good B s W Hd) {r : Rec} {n : Nat} (hr : r ∈ B.recs) (e : r.name = n) (hh : r.held = true) :
    ∃ l ev tg : Nat, r.left = l ∧ r.every = ev ∧ r.tag = tg ∧ ev ≤ LAST ∧ step s (.goOn n) = if LAST < s.now + l then (s, says (-1)) else (s.set n (s.now + l) ev tg, says 0) := by
  obtain ⟨t, h1, h2, h3, h4, h5, h6⟩ := g.natsH hr e hh
  refine ⟨t.left, t.every, t.tag, h4, h5, h6, (g.limh t h2).2, ?_⟩
  show (match s.held.find? fun (h : Held) => h.name == n with
    | none => (s, says (if s.has n = true then -4 else -2))
    | some h => if LAST < s.now + h.left then (s, says (-1)) else (s.set n (s.now + h.left) h.every h.tag, says 0)) = _
  rw [h1]
/-! one record in the place of another -/
def repl (n : Int) (r' : Rec) (l : List Rec) : List Rec := l.map fun q => if q.name = n then r' else q
theorem repl_no {n : Int} {r' : Rec} : ∀ {l : List Rec}, (∀ q ∈ l, q.name ≠ n) → repl n r' l = l
  | [], _ => rfl
  | q :: l, h => by
    show (if q.name = n then r' else q) :: repl n r' l = q :: l
    rw [if_neg (h q (List.mem_cons_self ..)), repl_no fun x hx => h x (List.mem_cons_of_mem _ hx)]
theorem repl_perm {n : Int} {r r' : Rec} : ∀ {l : List Rec}, (l.map Rec.name).Nodup → r ∈ l → r.name = n → (repl n r' l).Perm (r' :: l.filter fun q => q.name != n)
  | [], _, h, _ => nomatch h
  | q :: l, hn, h, e => by
    rw [List.map_cons, List.nodup_cons] at hn
    show ((if q.name = n then r' else q) :: repl n r' l).Perm _
    rw [List.filter_cons]
    rcases List.mem_cons.mp h with z | z
    · subst z
      have no : ∀ x ∈ l, x.name ≠ n := fun x hx ex => hn.1 (List.mem_map.mpr ⟨x, hx, ex.trans e.symm⟩)
      rw [if_pos e, repl_no no, if_neg (by rw [e]; simp)]
      have e2 : (l.filter fun q => q.name != n) = l := by
        rw [List.filter_eq_self]
        intro x hx
        rw [bne_iff_ne]
        exact no x hx
      rw [e2]
    · have ne : q.name ≠ n := fun c => hn.1 (List.mem_map.mpr ⟨r, z, e.trans c.symm⟩)
      rw [if_neg ne, if_pos (by rw [bne_iff_ne]; exact ne)]
      exact (List.Perm.cons q (repl_perm hn.2 z e)).trans (List.Perm.swap ..)
theorem repl_len (n : Int) (r' : Rec) (l : List Rec) : (repl n r' l).length = l.length := List.length_map _
theorem Good.has_without (g : Good B s W Hd) {n : Nat} : (s.without n).has n = false := by
  unfold State.has State.without
  rw [Bool.or_eq_false_iff, List.any_eq_false, List.any_eq_false]
  constructor
  · intro x hx z
    have := (List.mem_filter.mp hx).2
    rw [bne_iff_ne] at this
    exact this (eq_of_beq z)
  · intro x hx z
    have := (List.mem_filter.mp hx).2
    rw [bne_iff_ne] at this
    exact this (eq_of_beq z)
/-- one that's there is set anew, its record changed in its place -/
theorem Good.reset (g : Good B s W Hd) {r r' : Rec} {n at_ every tag : Nat} (hr : r ∈ B.recs) (e : r.name = n) (e1 : r'.name = n) (e2 : r'.due = at_) (e3 : r'.every = every) (e4 : r'.tag = tag) (e5 : r'.held = false) (e6 : r'.turn = B.turns + 1)
    (l1 : at_ ≤ LAST) (l2 : every ≤ LAST) {B' : Book} (b1 : B'.recs = repl n r' B.recs) (b2 : B'.line = ins (if r.held = true then B.line else B.line.eraseIdx (before B.line r.key)) r'.key) (b3 : B'.now = B.now) (b4 : B'.turns = B.turns + 1) :
    ∃ W' Hd', Good B' (s.set n at_ every tag) W' Hd' := by
  have g1 := g.dropped hr e (B' := ⟨B.now, B.turns, B.recs.filter fun q => q.name != (n : Int), if r.held = true then B.line else B.line.eraseIdx (before B.line r.key)⟩) rfl rfl rfl rfl
  refine ⟨_, _, g1.setNew (r := r') g.has_without e1 e2 e3 e4 e5 e6 l1 l2 ?_ b2 b3 b4 ?_⟩
  · rw [b1]
    exact repl_perm g.nd hr e
  · rw [b1, repl_len]
    exact g.size
/-- one that waits is held, its record changed in its place -/
theorem Good.holds (g : Good B s W Hd) {r r' : Rec} {n left every tag : Nat} (hr : r ∈ B.recs) (e : r.name = n) (hh : r.held = false) (e1 : r'.name = n) (e2 : r'.left = left) (e3 : r'.every = every) (e4 : r'.tag = tag) (e5 : r'.held = true)
    (l1 : left ≤ LAST) (l2 : every ≤ LAST) {B' : Book} (b1 : B'.recs = repl n r' B.recs) (b2 : B'.line = B.line.eraseIdx (before B.line r.key)) (b3 : B'.now = B.now) (b4 : B'.turns = B.turns) :
    ∃ W' Hd', Good B' { s.without n with held := (s.without n).held ++ [⟨n, left, every, tag⟩] } W' Hd' := by
  have g1 := g.dropped hr e (B' := ⟨B.now, B.turns, B.recs.filter fun q => q.name != (n : Int), B.line.eraseIdx (before B.line r.key)⟩) rfl (by rw [if_neg (by rw [hh]; exact Bool.false_ne_true)]) rfl rfl
  refine ⟨_, _, g1.heldNew (r := r') g.has_without e1 e2 e3 e4 e5 l1 l2 ?_ b2 b3 b4 ?_⟩
  · rw [b1]
    exact repl_perm g.nd hr e
  · rw [b1, repl_len]
    exact g.size
/-! count, list -/
theorem Good.count_ans (g : Good B s W Hd) : ans (step s .count).2 = [(B.line.length : Int), (B.recs.length : Int) - (B.line.length : Int)] := by
  show [(s.timers.length : Int), (s.held.length : Int)] = _
  have h1 := g.lenW
  have h2 := g.lenH
  have h3 := g.lenL
  have h4 := g.perm.length_eq
  rw [List.length_append] at h4
  rw [h1, h2, h3]
  congr 2
  omega
def row4 (r : Rec) : List Int := [r.name, r.due, r.every, r.tag]
theorem ints_append (l m : List Nat) : Sn98Neutral.ints (l ++ m) = Sn98Neutral.ints l ++ Sn98Neutral.ints m := List.map_append
theorem ints_told : ∀ {ts : List Timer} {W : List Rec}, ts.map tpr = W.map rpr → Sn98Neutral.ints (ts.flatMap told) = W.flatMap row4
  | [], [], _ => rfl
  | [], _ :: _, h => by simp at h
  | _ :: _, [], h => by simp at h
  | t :: ts, w :: W, h => by
    rw [List.map_cons, List.map_cons] at h
    obtain ⟨h1, h2⟩ := List.cons.inj h
    rw [List.flatMap_cons, List.flatMap_cons, ints_append, ints_told h2]
    congr 1
    have a0 : (t.at_ : Int) = w.due := congrArg (fun k : K4 => k.1) h1
    have a1 : (t.name : Int) = w.name := congrArg (fun k : K4 => k.2.1) h1
    have a2 : (t.every : Int) = w.every := congrArg (fun k : K4 => k.2.2.1) h1
    have a3 : (t.tag : Int) = w.tag := congrArg (fun k : K4 => k.2.2.2) h1
    show [(t.name : Int), (t.at_ : Int), (t.every : Int), (t.tag : Int)] = [w.name, w.due, w.every, w.tag]
    rw [a0, a1, a2, a3]
theorem Good.list_ans (g : Good B s W Hd) (f m : Nat) : ans (step s (.list f m)).2 = (((W.drop f).take m).length : Int) :: ((W.drop f).take m).flatMap row4 := by
  have h : ((s.timers.drop f).take m).map tpr = ((W.drop f).take m).map rpr := by rw [List.map_take, List.map_take, List.map_drop, List.map_drop, g.tim]
  have hl : ((s.timers.drop f).take m).length = ((W.drop f).take m).length := by
    have := congrArg List.length h
    rwa [List.length_map, List.length_map] at this
  show ((((s.timers.drop f).take m).length : Nat) : Int) :: Sn98Neutral.ints (((s.timers.drop f).take m).flatMap told) = _
  rw [hl, ints_told h]
/-! time -/
theorem Good.tick (g : Good B s W Hd) {now : Nat} (h : now ≤ LAST) {B' : Book} (b1 : B'.recs = B.recs) (b2 : B'.line = B.line) (b3 : B'.now = now) (b4 : B'.turns = B.turns) : Good B' { s with now := now } W Hd where
  perm := by rw [b1]; exact g.perm
  line := by rw [b2]; exact g.line
  tim := g.tim
  hel := g.hel
  wh := g.wh
  hh := g.hh
  nd := by rw [b1]; exact g.nd
  srt := by rw [b2]; exact g.srt
  trn := fun k hk => by rw [b2] at hk; rw [b4]; exact g.trn k hk
  strn := g.strn
  now := b3
  size := by rw [b1]; exact g.size
  lnow := h
  lim := g.lim
  limh := g.limh
/-- the first -/
theorem Good.head (g : Good B s W Hd) {r : Rec} {W' : List Rec} (h : W = r :: W') : ∃ t ts, s.timers = t :: ts ∧ tpr t = rpr r := by
  have e := g.tim
  rw [h] at e
  cases ht : s.timers with
  | nil => rw [ht] at e; cases e
  | cons t ts =>
    rw [ht] at e
    exact ⟨t, ts, rfl, (List.cons.inj e).1⟩
/-- what the first leaves when it comes -/
theorem Good.came_eq (g : Good B s W Hd) {r : Rec} {W' : List Rec} (h : W = r :: W') {t : Timer} {ts : List Timer} (ht : s.timers = t :: ts) :
    s.came t = if t.every = 0 ∨ LAST < t.at_ + t.every * (missed t s.now + 1) then s.without t.name else s.set t.name (t.at_ + t.every * (missed t s.now + 1)) t.every t.tag := by
  have en : (t.name : Int) = r.name := by
    have e := g.tim
    rw [h, ht] at e
    exact congrArg (fun k : K4 => k.2.1) (List.cons.inj e).1
  have e1 : s.timers.erase t = ts := by rw [ht, List.erase_cons_head]
  have hts : ∀ x ∈ ts, x.name ≠ t.name := fun x hx z => by
    have e := g.tim
    rw [h, ht] at e
    have m : tpr x ∈ W'.map rpr := by
      have := (List.cons.inj e).2
      rw [← this]
      exact List.mem_map.mpr ⟨x, hx, rfl⟩
    obtain ⟨q, hq, eq⟩ := List.mem_map.mp m
    have en2 : q.name = (x.name : Int) := congrArg (fun k : K4 => k.2.1) eq
    have nd := g.ndW
    rw [h, List.map_cons, List.nodup_cons] at nd
    exact nd.1 (List.mem_map.mpr ⟨q, hq, by rw [en2, z]; exact en⟩)
  have hhe : ∀ x ∈ s.held, x.name ≠ t.name := fun x hx z => by
    have m : hpr x ∈ Hd.map lpr := by
      rw [← g.hel]
      exact List.mem_map.mpr ⟨x, hx, rfl⟩
    obtain ⟨q, hq, eq⟩ := List.mem_map.mp m
    have en2 : q.name = (x.name : Int) := congrArg (fun k : K4 => k.2.1) eq
    have hrW : r ∈ W := by rw [h]; exact List.mem_cons_self ..
    have e3 : q = r := g.inj (g.mem.mpr (.inr hq)) (g.mem.mpr (.inl hrW)) (by rw [en2, z]; exact en)
    have h1 := g.hh q hq
    rw [e3, g.wh r hrW] at h1
    cases h1
  have ew : s.without t.name = { s with timers := s.timers.erase t } := by
    unfold State.without
    have a1 : s.timers.filter (fun x => x.name != t.name) = ts := by
      rw [ht, List.filter_cons, if_neg (by simp), List.filter_eq_self]
      intro x hx
      rw [bne_iff_ne]
      exact hts x hx
    have a2 : s.held.filter (fun x => x.name != t.name) = s.held := by
      rw [List.filter_eq_self]
      intro x hx
      rw [bne_iff_ne]
      exact hhe x hx
    rw [a1, a2, e1]
  have ew2 : (s.without t.name).without t.name = s.without t.name := by
    unfold State.without
    simp only [List.filter_filter, Bool.and_self]
  unfold State.came
  rw [← ew]
  by_cases c : t.every = 0 ∨ LAST < t.at_ + t.every * (missed t s.now + 1)
  · rw [if_pos c, if_pos c]
  · rw [if_neg c, if_neg c]
    unfold State.set
    rw [ew2]
theorem due_stop {n : Nat} (h : s.timers = [] ∨ ∃ t ts, s.timers = t :: ts ∧ s.now < t.at_) : due n s = ([], s) := by
  cases n with
  | zero => rfl
  | succ n =>
    rcases h with h | ⟨t, ts, h, lt⟩
    · unfold due
      rw [h]
    · unfold due
      rw [h]
      show (if s.now < t.at_ then ([], s) else _) = _
      rw [if_pos lt]
theorem due_go {n : Nat} {t : Timer} {ts : List Timer} (h : s.timers = t :: ts) (hl : ¬ s.now < t.at_) : due (n + 1) s = ((t, missed t s.now) :: (due n (s.came t)).1, (due n (s.came t)).2) := by
  show (match s.timers with
    | [] => ([], s)
    | t :: _ => if s.now < t.at_ then ([], s) else ((t, missed t s.now) :: (due n (s.came t)).1, (due n (s.came t)).2)) = _
  rw [h]
  show (if s.now < t.at_ then ([], s) else _) = _
  rw [if_neg hl]
def come4 (x : Timer × Nat) : List Int := [(x.1.name : Int), (x.1.tag : Int), (x.1.at_ : Int), (x.2 : Int)]
theorem ints_come (l : List (Timer × Nat)) : Sn98Neutral.ints (l.flatMap fun x => [x.1.name, x.1.tag, x.1.at_, x.2]) = l.flatMap come4 := by
  induction l with
  | nil => rfl
  | cons x l ih =>
    rw [List.flatMap_cons, List.flatMap_cons, ints_append, ih]
    rfl
theorem time_high {now most : Nat} (h : LAST < now) : step s (.time now most) = (s, says (-1)) := by
  show (if LAST < now then (s, says (-1)) else _) = _
  rw [if_pos h]
theorem time_back {now most : Nat} (h : ¬ LAST < now) (h2 : now < s.now) : step s (.time now most) = (s, says (-4)) := by
  show (if LAST < now then (s, says (-1)) else if now < s.now then (s, says (-4)) else _) = _
  rw [if_neg h, if_pos h2]
theorem time_on {now most : Nat} (h : ¬ LAST < now) (h2 : ¬ now < s.now) : (step s (.time now most)).1 = (due (min most MOST) { s with now := now }).2 ∧
    ans (step s (.time now most)).2 = ((due (min most MOST) { s with now := now }).1.length : Int) :: (due (min most MOST) { s with now := now }).1.flatMap come4 := by
  have e : step s (.time now most) = ((due (min most MOST) { s with now := now }).2, ⟨(due (min most MOST) { s with now := now }).1.length, (due (min most MOST) { s with now := now }).1.flatMap fun x => [x.1.name, x.1.tag, x.1.at_, x.2]⟩) := by
    show (if LAST < now then (s, says (-1)) else if now < s.now then (s, says (-4)) else _) = _
    rw [if_neg h, if_neg h2]
  rw [e]
  refine ⟨rfl, ?_⟩
  show _ :: Sn98Neutral.ints _ = _
  rw [ints_come]
end
end TM
set_option Elab.async false
set_option linter.all false
/-! Mathematics of the call time: those that come have left the line, and come one after another -/
namespace TM
open Sn98
def leftOut (now : Int) (r : Rec) : Int := if r.every = 0 then 0 else (now - r.due) / r.every
def dueAgain (now : Int) (r : Rec) : Int := r.due + (leftOut now r + 1) * r.every
def goneB (B : Book) (r : Rec) : Book := { B with recs := B.recs.filter fun q => q.name != r.name }
def anew (B : Book) (r : Rec) : Rec := { r with due := dueAgain B.now r, turn := B.turns + 1 }
def againB (B : Book) (r : Rec) : Book := { B with turns := B.turns + 1, recs := repl r.name (anew B r) B.recs, line := ins B.line (dueAgain B.now r, B.turns + 1, r.name) }
/-- it's for once, or would be due too late -/
def Ends1 (now : Int) (r : Rec) : Prop := r.every = 0 ∨ (9223372036854775807 : Int) < dueAgain now r
structure Coming (B : Book) (s : State) (C W Hd : List Rec) : Prop where
  good : Good { B with line := C.map Rec.key ++ B.line } s (C ++ W) Hd
  now : ∀ r ∈ C, r.due ≤ B.now
section
variable {B : Book} {s : State} {C W Hd : List Rec}
theorem before_app : ∀ (A L : List K3) {p : K3}, (∀ x ∈ A, klt x p = true) → before (A ++ L) p = A.length + before L p
  | [], L, p, _ => by simp
  | x :: A, L, p, h => by
    rw [List.cons_append, before_cons, before_app A L fun y hy => h y (List.mem_cons_of_mem _ hy), if_pos (h x (List.mem_cons_self ..)), List.length_cons]
    omega
theorem ins_app {A L : List K3} {p : K3} (h : ∀ x ∈ A, klt x p = true) : ins (A ++ L) p = A ++ ins L p := by
  unfold ins
  rw [before_app A L h, List.take_length_add_append, List.drop_length_add_append, List.append_assoc]
theorem Coming.mem (c : Coming B s C W Hd) {r : Rec} (h : r ∈ C) : r ∈ B.recs := c.good.mem.mpr (.inl (List.mem_append_left _ h))
theorem Coming.line (c : Coming B s C W Hd) : B.line = W.map Rec.key := by
  have h : C.map Rec.key ++ B.line = (C ++ W).map Rec.key := c.good.line
  rw [List.map_append] at h
  exact List.append_cancel_left h
theorem Coming.srt (c : Coming B s C W Hd) : Srt B.line := (List.pairwise_append.mp (show Srt (C.map Rec.key ++ B.line) from c.good.srt)).2.1
theorem Coming.small (c : Coming B s C W Hd) : B.line.length ≤ 65536 := by
  have h1 := c.good.perm.length_eq
  have h2 := c.good.size
  rw [c.line, List.length_map]
  rw [List.length_append, List.length_append] at h1
  omega
theorem Coming.head (c : Coming B s (r :: C) W Hd) : ∃ t ts, s.timers = t :: ts ∧ (t.at_ : Int) = r.due ∧ (t.name : Int) = r.name ∧ (t.every : Int) = r.every ∧ (t.tag : Int) = r.tag ∧ t.every ≤ LAST ∧ t.at_ ≤ s.now := by
  obtain ⟨t, ts, h1, h2⟩ := c.good.head (r := r) (W' := C ++ W) rfl
  have a0 : (t.at_ : Int) = r.due := congrArg (fun k : K4 => k.1) h2
  refine ⟨t, ts, h1, a0, congrArg (fun k : K4 => k.2.1) h2, congrArg (fun k : K4 => k.2.2.1) h2, congrArg (fun k : K4 => k.2.2.2) h2, (c.good.lim t (by rw [h1]; exact List.mem_cons_self ..)).2, ?_⟩
  have h3 := c.now r (List.mem_cons_self ..)
  have h4 : B.now = (s.now : Int) := c.good.now
  omega
theorem missed_eq {t : Timer} {r : Rec} {now : Nat} {z : Int} (hz : z = (now : Int)) (h1 : (t.at_ : Int) = r.due) (h2 : (t.every : Int) = r.every) (h : t.at_ ≤ now) : (missed t now : Int) = leftOut z r := by
  unfold missed leftOut
  by_cases c : t.every = 0
  · rw [if_pos (.inl c), if_pos (by omega)]
    rfl
  · rw [if_neg (fun q => q.elim c fun q => by omega), if_neg (by omega), Int.natCast_ediv, Int.natCast_sub h, hz, h1, h2]
theorem again_eq {t : Timer} {r : Rec} {now : Nat} {z : Int} (hz : z = (now : Int)) (h1 : (t.at_ : Int) = r.due) (h2 : (t.every : Int) = r.every) (h : t.at_ ≤ now) : ((t.at_ + t.every * (missed t now + 1) : Nat) : Int) = dueAgain z r := by
  unfold dueAgain
  rw [Int.natCast_add, Int.natCast_mul, Int.natCast_add, missed_eq hz h1 h2 h, h1, h2, Int.mul_comm]
  rfl
theorem again_late {r : Rec} {now : Int} (h : 0 < r.every) : now < dueAgain now r := by
  unfold dueAgain leftOut
  rw [if_neg (by omega)]
  have := Int.lt_ediv_add_one_mul_self (now - r.due) h
  omega
theorem filter_first {r : Rec} {l : List Rec} (h : ((r :: l).map Rec.name).Nodup) : ((r :: l).filter fun q => q.name != r.name) = l := by
  rw [List.map_cons, List.nodup_cons] at h
  rw [List.filter_cons, if_neg (by simp), List.filter_eq_self]
  intro q hq
  rw [bne_iff_ne]
  intro e
  exact h.1 (List.mem_map.mpr ⟨q, hq, e⟩)
/-- the first of those that come is taken out -/
theorem Coming.out (c : Coming B s (r :: C) W Hd) {n : Nat} (e : r.name = (n : Int)) : ∃ Hd', Good { goneB B r with line := C.map Rec.key ++ B.line } (s.without n) (C ++ W) Hd' := by
  have hr : r ∈ B.recs := c.mem (List.mem_cons_self ..)
  have hh : r.held = false := c.good.wh r (List.mem_append_left _ (List.mem_cons_self ..))
  have h0 : before ((r :: C).map Rec.key ++ B.line) r.key = 0 := before_at (i := 0) (show Srt ((r :: C).map Rec.key ++ B.line) from c.good.srt) rfl
  have g1 := c.good.dropped (r := r) (n := n) hr e (B' := { goneB B r with line := C.map Rec.key ++ B.line }) (by rw [← e]; rfl) (by
    rw [if_neg (by rw [hh]; exact Bool.false_ne_true)]
    show _ = List.eraseIdx ((r :: C).map Rec.key ++ B.line) (before ((r :: C).map Rec.key ++ B.line) r.key)
    rw [h0]
    rfl) rfl rfl
  have ew : ((r :: C ++ W).filter fun q => q.name != (n : Int)) = C ++ W := by
    rw [← e]
    exact filter_first (l := C ++ W) (show ((r :: C ++ W).map Rec.name).Nodup from c.good.ndW)
  rw [ew] at g1
  exact ⟨_, g1⟩
/-- it's for once, or would be due too late: it's gone -/
theorem Coming.gone (c : Coming B s (r :: C) W Hd) (h : Ends1 B.now r) : ∃ t ts Hd', s.timers = t :: ts ∧ ¬ s.now < t.at_ ∧ come4 (t, missed t s.now) = [r.name, r.tag, r.due, leftOut B.now r] ∧ Coming (goneB B r) (s.came t) C W Hd' := by
  obtain ⟨t, ts, h1, a0, a1, a2, a3, l1, l2⟩ := c.head
  have hn : B.now = (s.now : Int) := c.good.now
  obtain ⟨Hd', g1⟩ := c.out a1.symm
  refine ⟨t, ts, Hd', h1, by omega, ?_, ?_, fun q hq => c.now q (List.mem_cons_of_mem _ hq)⟩
  · show [(t.name : Int), (t.tag : Int), (t.at_ : Int), (missed t s.now : Int)] = _
    rw [missed_eq hn a0 a2 l2, a0, a1, a3]
  · have e := c.good.came_eq (r := r) (W' := C ++ W) rfl h1
    have ea := again_eq hn a0 a2 l2
    have eL : LAST = 9223372036854775807 := by decide
    rw [if_pos (h.imp (fun z => by omega) fun z => by omega)] at e
    rw [e]
    exact g1
/-- it's due again: it's set -/
theorem Coming.again (c : Coming B s (r :: C) W Hd) (h : ¬ Ends1 B.now r) : ∃ t ts W' Hd', s.timers = t :: ts ∧ ¬ s.now < t.at_ ∧ come4 (t, missed t s.now) = [r.name, r.tag, r.due, leftOut B.now r] ∧ Coming (againB B r) (s.came t) C W' Hd' := by
  obtain ⟨t, ts, h1, a0, a1, a2, a3, l1, l2⟩ := c.head
  have hn : B.now = (s.now : Int) := c.good.now
  have ea := again_eq hn a0 a2 l2
  have eL : LAST = 9223372036854775807 := by decide
  have ne : ¬ (t.every = 0 ∨ LAST < t.at_ + t.every * (missed t s.now + 1)) := fun z => h (z.imp (fun z => by omega) fun z => by omega)
  obtain ⟨Hd', g1⟩ := c.out a1.symm
  have hr : r ∈ B.recs := c.mem (List.mem_cons_self ..)
  have hh : r.held = false := c.good.wh r (List.mem_append_left _ (List.mem_cons_self ..))
  have late : B.now < dueAgain B.now r := again_late (by have : ¬ t.every = 0 := fun z => ne (.inl z); omega)
  have hk : ∀ x ∈ C.map Rec.key, klt x (anew B r).key = true := fun x hx => by
    obtain ⟨q, hq, rfl⟩ := List.mem_map.mp hx
    have := c.now q (List.mem_cons_of_mem _ hq)
    rw [klt_iff]
    left
    show q.due < dueAgain B.now r
    omega
  have hnd : (B.recs.map Rec.name).Nodup := c.good.nd
  have g2 := g1.setNew (r := anew B r) (name := t.name) (at_ := t.at_ + t.every * (missed t s.now + 1)) (every := t.every) (tag := t.tag) c.good.has_without a1.symm ea.symm a2.symm a3.symm hh rfl (Nat.le_of_not_lt fun z => ne (.inr z)) l1
    (B' := { againB B r with line := C.map Rec.key ++ (againB B r).line }) (repl_perm hnd hr rfl) (ins_app hk).symm rfl rfl (by
      show (repl r.name (anew B r) B.recs).length ≤ 65536
      rw [repl_len]
      exact c.good.size)
  have eb : before (C.map Rec.key ++ B.line) (anew B r).key = C.length + before B.line (anew B r).key := by
    rw [before_app _ _ hk, List.length_map]
  have ew : ((C ++ W).take (before (C.map Rec.key ++ B.line) (anew B r).key) ++ anew B r :: (C ++ W).drop (before (C.map Rec.key ++ B.line) (anew B r).key)) = C ++ (W.take (before B.line (anew B r).key) ++ anew B r :: W.drop (before B.line (anew B r).key)) := by
    rw [eb, List.take_length_add_append, List.drop_length_add_append, List.append_assoc]
  have e := c.good.came_eq (r := r) (W' := C ++ W) rfl h1
  rw [if_neg ne] at e
  refine ⟨t, ts, W.take (before B.line (anew B r).key) ++ anew B r :: W.drop (before B.line (anew B r).key), Hd', h1, by omega, ?_, ?_, fun q hq => c.now q (List.mem_cons_of_mem _ hq)⟩
  · show [(t.name : Int), (t.tag : Int), (t.at_ : Int), (missed t s.now : Int)] = _
    rw [missed_eq hn a0 a2 l2, a0, a1, a3]
  · rw [e, ← ew]
    exact g2
theorem again_lates (c : Coming B s (r :: C) W Hd) (h : ¬ Ends1 B.now r) (hl : ∀ k ∈ B.line, B.now < k.1) : ∀ k ∈ (againB B r).line, B.now < k.1 := fun k hk => by
  rcases mem_ins.mp hk with q | q
  · rw [q]
    obtain ⟨t, ts, h1, a0, a1, a2, a3, l1, l2⟩ := c.head
    exact again_late (by have : ¬ r.every = 0 := fun z => h (.inl z); omega)
  · exact hl k q
/-! the specification's run, by steps -/
structure Run (n : Nat) (s0 : State) (i : Nat) (dn : List (Timer × Nat)) (s : State) : Prop where
  len : dn.length = i
  out : (due n s0).1 = dn ++ (due (n - i) s).1
  st : (due n s0).2 = (due (n - i) s).2
theorem Run.zero (n : Nat) (s0 : State) : Run n s0 0 [] s0 := ⟨rfl, rfl, rfl⟩
theorem Run.next {n i : Nat} {s0 : State} {dn : List (Timer × Nat)} (R : Run n s0 i dn s) (hi : i < n) {t : Timer} {ts : List Timer} (h : s.timers = t :: ts) (hl : ¬ s.now < t.at_) : Run n s0 (i + 1) (dn ++ [(t, missed t s.now)]) (s.came t) := by
  have e : n - i = (n - (i + 1)) + 1 := by omega
  have h1 := R.out
  have h2 := R.st
  rw [e, due_go h hl] at h1 h2
  refine ⟨by rw [List.length_append, R.len]; rfl, ?_, h2⟩
  rw [h1, List.append_assoc]
  rfl
theorem Run.stop {n i : Nat} {s0 : State} {dn : List (Timer × Nat)} (R : Run n s0 i dn s) (c : Coming B s [] W Hd) (h : i = n ∨ ∀ k ∈ B.line, B.now < k.1) : due n s0 = (dn, s) := by
  have e : due (n - i) s = ([], s) := by
    rcases h with h | h
    · rw [h, Nat.sub_self]
      rfl
    · refine due_stop ?_
      cases hw : W with
      | nil =>
        have := c.good.lenW
        rw [hw] at this
        exact .inl (List.eq_nil_of_length_eq_zero this)
      | cons w W' =>
        obtain ⟨t, ts, h1, h2⟩ := c.good.head (r := w) (W' := W') hw
        refine .inr ⟨t, ts, h1, ?_⟩
        have a0 : (t.at_ : Int) = w.due := congrArg (fun k : K4 => k.1) h2
        have h3 := h w.key (by rw [c.line, hw]; exact List.mem_cons_self ..)
        have h3 : B.now < w.due := h3
        have h4 : B.now = (s.now : Int) := c.good.now
        omega
  have h1 := R.out
  have h2 := R.st
  rw [e] at h1 h2
  have h1 : (due n s0).1 = dn := h1.trans (List.append_nil dn)
  have h2 : (due n s0).2 = s := h2
  rw [← h1, ← h2]
theorem Coming.done (c : Coming B s [] W Hd) : Good B s W Hd := c.good
/-- those that come leave the line -/
theorem Good.coming (g : Good B s W Hd) {k : Nat} (h : ∀ x ∈ B.line.take k, x.1 ≤ B.now) {B' : Book} (b1 : B'.recs = B.recs) (b2 : B'.line = B.line.drop k) (b3 : B'.now = B.now) (b4 : B'.turns = B.turns) : Coming B' s (W.take k) (W.drop k) Hd := by
  have e : ({ B' with line := (W.take k).map Rec.key ++ B'.line } : Book) = B := by
    show (⟨B'.now, B'.turns, B'.recs, (W.take k).map Rec.key ++ B'.line⟩ : Book) = ⟨B.now, B.turns, B.recs, B.line⟩
    rw [b1, b2, b3, b4, List.map_take, ← g.line, List.take_append_drop]
  refine ⟨?_, fun r hr => ?_⟩
  · rw [e, List.take_append_drop]
    exact g
  · rw [b3]
    refine h r.key ?_
    rw [g.line, ← List.map_take]
    exact List.mem_map.mpr ⟨r, hr, rfl⟩
/-- where the counting stops, all that come have been counted -/
theorem srt_late {l : List K3} (h : Srt l) {k : Nat} {x : K3} (e : l[k]? = some x) {now : Int} (hx : now < x.1) : ∀ y ∈ l.drop k, now < y.1 := fun y hy => by
  obtain ⟨i, hi, ei⟩ := List.getElem_of_mem hy
  rw [List.getElem_drop] at ei
  rw [List.length_drop] at hi
  obtain ⟨hk, ek⟩ := List.getElem?_eq_some_iff.mp e
  by_cases z : i = 0
  · subst z
    have : y = x := by rw [← ei, ← ek]; rfl
    rw [this]
    exact hx
  · have := List.pairwise_iff_getElem.mp h k (k + i) hk (by omega) (by omega)
    rw [ek, ei, klt_iff] at this
    omega
end
end TM
set_option Elab.async false
set_option linter.all false
/-! The flat list of calls, call by call -/
namespace TF
open PySn98
theorem shape_rows {p : Int} {n k : Nat} (h : shape p = some (n, k)) : k = 0 := by
  unfold shape at h
  by_cases h1 : p = 1
  · rw [if_pos h1] at h
    cases h
    rfl
  rw [if_neg h1] at h
  by_cases h2 : p = 2
  · rw [if_pos h2] at h
    cases h
    rfl
  rw [if_neg h2] at h
  by_cases h3 : p = 3
  · rw [if_pos h3] at h
    cases h
    rfl
  rw [if_neg h3] at h
  by_cases h4 : p = 4
  · rw [if_pos h4] at h
    cases h
    rfl
  rw [if_neg h4] at h
  by_cases h5 : p = 5
  · rw [if_pos h5] at h
    cases h
    rfl
  rw [if_neg h5] at h
  by_cases h6 : p = 6
  · rw [if_pos h6] at h
    cases h
    rfl
  rw [if_neg h6] at h
  by_cases h7 : p = 7
  · rw [if_pos h7] at h
    cases h
    rfl
  rw [if_neg h7] at h
  by_cases h8 : p = 8
  · rw [if_pos h8] at h
    cases h
    rfl
  rw [if_neg h8] at h
  by_cases h9 : p = 9
  · rw [if_pos h9] at h
    cases h
    rfl
  rw [if_neg h9] at h
  by_cases h10 : p = 10
  · rw [if_pos h10] at h
    cases h
    rfl
  rw [if_neg h10] at h
  by_cases h11 : p = 11
  · rw [if_pos h11] at h
    cases h
    rfl
  rw [if_neg h11] at h
  by_cases h12 : p = 12
  · rw [if_pos h12] at h
    cases h
    rfl
  rw [if_neg h12] at h
  by_cases h13 : p = 13
  · rw [if_pos h13] at h
    cases h
    rfl
  rw [if_neg h13] at h
  cases h
theorem parse {f : Nat} {p : Int} {r : List Int} {cs : List (List (List Int))} (h : PyFlat.calls shape f (p :: r) = some cs) :
    ∃ (n f' : Nat) (cs' : List (List (List Int))), shape p = some (n, 0) ∧ n ≤ r.length ∧ cs = [p :: r.take n] :: cs' ∧ PyFlat.calls shape f' (r.drop n) = some cs' := by
  cases f with
  | zero => cases h
  | succ f =>
    have h : (match PyFlat.call shape (p :: r) with
      | none => none
      | some (c, t) => match PyFlat.calls shape f t with
        | none => none
        | some cs => some (c :: cs)) = some cs := h
    have hc : PyFlat.call shape (p :: r) = (match shape p with
      | none => none
      | some (n, k) => if r.length < n then none else match PyFlat.rows k (r.drop n) with
        | none => none
        | some (xs, t) => some ((p :: r.take n) :: xs, t)) := rfl
    cases hs : shape p with
    | none =>
      rw [hc, hs] at h
      cases h
    | some q =>
      obtain ⟨n, k⟩ := q
      have hk := shape_rows hs
      subst hk
      rw [hc, hs] at h
      by_cases hl : r.length < n
      · have e : (match (some (n, 0) : Option (Nat × Nat)) with
          | none => none
          | some (n, k) => if r.length < n then none else match PyFlat.rows k (r.drop n) with
            | none => none
            | some (xs, t) => some ((p :: r.take n) :: xs, t)) = none := by
          show (if r.length < n then none else _) = none
          rw [if_pos hl]
        rw [e] at h
        cases h
      · have e : (match (some (n, 0) : Option (Nat × Nat)) with
          | none => none
          | some (n, k) => if r.length < n then none else match PyFlat.rows k (r.drop n) with
            | none => none
            | some (xs, t) => some ((p :: r.take n) :: xs, t)) = some ([p :: r.take n], r.drop n) := by
          show (if r.length < n then none else some ([p :: r.take n], r.drop n)) = _
          rw [if_neg hl]
        rw [e] at h
        have h : (match PyFlat.calls shape f (r.drop n) with
          | none => none
          | some cs => some ([p :: r.take n] :: cs)) = some cs := h
        cases hr : PyFlat.calls shape f (r.drop n) with
        | none =>
          rw [hr] at h
          cases h
        | some cs' =>
          rw [hr] at h
          exact ⟨n, f, cs', rfl, by omega, (Option.some.inj h).symm, hr⟩
theorem parse_nil {f : Nat} {cs : List (List (List Int))} (h : PyFlat.calls shape f [] = some cs) : cs = [] := by
  cases f with
  | zero => exact (Option.some.inj h).symm
  | succ f => exact (Option.some.inj h).symm
theorem whole_id (c : List (List Int)) : whole c = c := by
  unfold whole
  split <;> rfl
theorem calls_eq {l : List Int} {cs : List (List (List Int))} (h : calls l = some cs) : PyFlat.calls shape l.length l = some cs := by
  unfold calls at h
  cases e : PyFlat.calls shape l.length l with
  | none =>
    rw [e] at h
    cases h
  | some cs' =>
    rw [e] at h
    have h : some (cs'.map whole) = some cs := h
    have e2 : cs'.map whole = cs' := by
      rw [show whole = id from funext whole_id, List.map_id]
    rw [e2] at h
    exact h
abbrev S := Sn98Neutral.S
abbrev stepN := Sn98Neutral.step
/-- what is told from a state on -/
def rest (s : S) (cs : List (List (List Int))) : List Int := PyFlat.told (PyFlat.played stepN s cs)
theorem rest_nil (s : S) : rest s [] = [] := rfl
theorem rest_cons (s : S) (c : List (List Int)) (cs : List (List (List Int))) : rest s (c :: cs) = ((stepN s c).2.length : Int) :: (stepN s c).2 ++ rest (stepN s c).1 cs := by
  unfold rest
  rfl
theorem outs_cons (s : S) (c : List (List Int)) (cs : List (List (List Int))) : Sn98Neutral.outs s (c :: cs) = (stepN s c).2.length + Sn98Neutral.outs (stepN s c).1 cs := rfl
/-- what is asked of a list of calls -/
theorem asked_of {l : List Int} (h : answers_asked l = true) : ∃ cs, PyFlat.calls shape l.length l = some cs ∧ answers l = rest Sn98Neutral.start cs ∧ cs.length ≤ 3000 ∧ cs.all Sn98Neutral.asked1 = true ∧ Sn98Neutral.outs Sn98Neutral.start cs < 1000000 := by
  unfold answers_asked at h
  cases e : calls l with
  | none =>
    rw [e] at h
    cases h
  | some cs =>
    rw [e] at h
    have h : (PyFlat.atMost 3000 cs && Sn98Neutral.asked cs) = true := h
    rw [Bool.and_eq_true] at h
    obtain ⟨h1, h2⟩ := h
    unfold Sn98Neutral.asked at h2
    rw [Bool.and_eq_true, Bool.and_eq_true] at h2
    refine ⟨cs, calls_eq e, ?_, of_decide_eq_true h1, h2.2.1, of_decide_eq_true h2.2.2⟩
    unfold answers
    rw [e]
    rfl
end TF
set_option Elab.async false
set_option linter.all false
set_option maxRecDepth 100000
set_option maxHeartbeats 2000000
/-! Rules beside the layer's: list.insert; tuples of three ints by their order -/
namespace L2
open PySem PySem.Spec PyProof.Rows
section
variable {X : Cx}
theorem ins_arr (its : List Value) (i : Int) (k : Nat) (w : Value) (hi : i = (k : Int)) (hk : k ≤ its.length) :
    (its.toArray.extract 0 (if i < 0 then (i + (its.toArray.size : Int)).toNat else min i.toNat its.toArray.size)).push w ++ its.toArray.extract (if i < 0 then (i + (its.toArray.size : Int)).toNat else min i.toNat its.toArray.size)
      = (its.take k ++ w :: its.drop k).toArray := by
  have e : i.toNat = k := by omega
  rw [if_neg (by omega), List.size_toArray, e, Nat.min_eq_left hk]
  apply Array.toList_inj.mp
  simp
  exact List.take_of_length_le (by rw [List.length_drop]; exact Nat.le_refl _)
def rInsert : V → List V → Hp → VK → Prop := fun x vs H Q => ∃ (l : Addr) (xs : List V) (i : Int) (k : Nat) (y : V), x = .ref l ∧ vs = [.int i, y] ∧ i = (k : Int) ∧ H l = some (.lst xs) ∧ k ≤ xs.length ∧ xs.length < sizeLine ∧ Q .non (upd H l (.lst (xs.take k ++ y :: xs.drop k)))
theorem mt_insert : MtM X "list.insert" rInsert := by
  intro pins s σ H x vs v us Q I rx rv h
  obtain ⟨l, xs, i, k, y, rfl, rfl, hi, hH, hk, hz, q⟩ := h
  cases rx
  obtain ⟨u, w, rfl, ru, rw'⟩ := rv.two
  obtain ⟨t, rfl⟩ := ru
  obtain ⟨z, its, n, r, hl, e⟩ := I.lstM hH
  have hn := line63
  have h0 : -(2 ^ 63 : Int) ≤ i := by omega
  have h1 : i < 2 ^ 63 := by omega
  have hf : ¬ (!Builtin.List.listFitsIndex i) = true := by
    rw [fitsIndex_both h0 h1]
    exact Bool.false_ne_true
  have hs1 : its.toArray.size ≤ sizeLine := by rw [List.size_toArray]; omega
  refine call_meets F.slot_list_insert ⟨_, e, rfl⟩ F.entry_list_insert (F.args_list_insert_3 _ _ _) (AutoSeq1.list_insert_list_int_val_1 l its.toArray n i t w hf hs1) ⟨e, ?_⟩
  refine ⟨.non, _, I.lset (its' := its.take k ++ w :: its.drop k) hH e ?_ ((r.take k).append (.cons rw' (r.drop k))) ?_, rfl, q⟩
  · exact ins_arr its i k w hi (by omega)
  · rw [List.length_append, List.length_take, List.length_cons, List.length_drop]
    omega
theorem lex3 (x y : TM.K3) : HT.lexLt [x.1, x.2.1, x.2.2] [y.1, y.2.1, y.2.2] = TM.klt x y := by
  rw [HT.lexLt_cons, HT.lexLt_cons, HT.lexLt_cons, HT.lexLt_nil_nil, Bool.eq_iff_iff, TM.klt_iff]
  by_cases h1 : x.1 = y.1
  · rw [if_pos h1]
    by_cases h2 : x.2.1 = y.2.1
    · rw [if_pos h2]
      by_cases h3 : x.2.2 = y.2.2
      · rw [if_pos h3]
        constructor
        · intro h; cases h
        · intro h; omega
      · rw [if_neg h3, decide_eq_true_iff]
        omega
    · rw [if_neg h2, decide_eq_true_iff]
      omega
  · rw [if_neg h1, decide_eq_true_iff]
    omega
/-- a tuple of three ints -/
def t3 (x : TM.K3) : List V := [.int x.1, .int x.2.1, .int x.2.2]
end
end L2
set_option Elab.async false
set_option linter.all false
set_option maxRecDepth 100000
set_option maxHeartbeats 2000000
/-! d[k] where d is a dict of the module's top, whole numbers to whole numbers -/
namespace L2
open PySem PySem.Spec PyProof.Rows
def entOk (e : DictEntry) (p : Int × Int) : Bool := match e.key, e.val with
  | .int i _, .int j _ => decide (i = p.1) && (decide (j = p.2) && decide (e.hash = hashInt i))
  | _, _ => false
theorem entOk_shape {e : DictEntry} {p : Int × Int} (h : entOk e p = true) : ∃ t u, e.key = .int p.1 t ∧ e.val = .int p.2 u ∧ e.hash = hashInt p.1 := by
  obtain ⟨hh, k, v⟩ := e
  unfold entOk at h
  cases k with
  | int i t =>
    cases v with
    | int j u =>
      simp only [Bool.and_eq_true, decide_eq_true_eq] at h
      obtain ⟨rfl, rfl, h3⟩ := h
      exact ⟨t, u, rfl, rfl, h3⟩
    | _ => cases h
  | _ => cases h
def tblOk : List DictEntry → List (Int × Int) → Bool
  | [], [] => true
  | e :: es, p :: l => entOk e p && tblOk es l
  | _, _ => false
def tblObj (o : Obj) (l : List (Int × Int)) : Bool := (match o.cls with | .type n => n == "dict" | _ => false) && ((match o.dict with | none => true | _ => false) && (o.slots.isEmpty && match o.data with | .dict es _ => tblOk es.toList l | _ => false))
def tblV (l : List (Int × Int)) : List (Key × V) := l.map fun p => (Sum.inl p.1, V.int p.2)
section
variable {P : Program} {w : World}
theorem tbl_pairs : ∀ {es : List DictEntry} {l : List (Int × Int)}, tblOk es l = true → ∃ vs : List (Key × Value), (∀ e ∈ es, ∃ k, (mixKind P w).is k e.key = true ∧ e.hash = (mixKind P w).hash k) ∧ Pairs (mixKind P w) es vs ∧ KV (tblV l) vs
  | [], [], _ => ⟨[], (fun e he => nomatch he), .nil, Paired.nil⟩
  | [], _ :: _, h => nomatch h
  | _ :: _, [], h => nomatch h
  | e :: es, p :: l, h => by
    obtain ⟨h1, h2⟩ := Bool.and_eq_true_iff.mp (show (entOk e p && tblOk es l) = true from h)
    obtain ⟨t, u, e1, e2, e3⟩ := entOk_shape h1
    obtain ⟨vs, a1, a2, a3⟩ := tbl_pairs h2
    refine ⟨(Sum.inl p.1, e.val) :: vs, fun e' he' => ?_, .cons ?_ rfl a2, .cons ⟨rfl, ⟨u, e2⟩⟩ a3⟩
    · rcases List.mem_cons.mp he' with q | q
      · rw [q]
        refine ⟨Sum.inl p.1, ?_, e3⟩
        rw [e1]
        exact keyIs_int p.1 t
      · exact a1 e' q
    · rw [e1]
      exact keyIs_int p.1 t
theorem tblObj_dict {o : Obj} {l : List (Int × Int)} {h : Heap} {a : Addr} (ho : tblObj o l = true) (nd : (l.map (·.1)).Nodup) (hg : h.get? a = some o) : ∃ vs, KV (tblV l) vs ∧ h.DictOf (mixKind P w) a vs := by
  unfold tblObj at ho
  rw [Bool.and_eq_true, Bool.and_eq_true, Bool.and_eq_true] at ho
  obtain ⟨h1, h2, h3, h4⟩ := ho
  have c1 : o.cls = .type "dict" := by
    split at h1
    · rename_i n e
      rw [e, eq_of_beq h1]
    · cases h1
  have c2 : o.dict = none := by
    split at h2
    · assumption
    · cases h2
  have c3 : o.slots = #[] := by simpa using h3
  split at h4
  · rename_i es ep e
    obtain ⟨vs, a1, a2, a3⟩ := tbl_pairs (P := P) (w := w) h4
    refine ⟨vs, a3, o, es, ep, hg, ⟨c1, c2, c3⟩, e, fun x hx => a1 x (by simpa using hx), a2, ?_⟩
    have k := KV.keys a3
    rw [← k]
    unfold tblV
    rw [List.map_map]
    have e2 : (l.map ((fun x : Key × V => x.1) ∘ fun p : Int × Int => (Sum.inl p.1, V.int p.2))) = (l.map (·.1)).map (Sum.inl : Int → Key) := by
      rw [List.map_map]
      rfl
    rw [e2]
    exact List.Pairwise.map _ (fun x y hxy z => hxy (Sum.inl.inj z)) nd
  · cases h4
end
/-- a whole number's value in such a dict -/
def DTbl (K : PySem.W.Frag) (a : Addr) (l : List (Int × Int)) : Prop := (∃ o, K.lookup a = some o ∧ tblObj o l = true) ∧ (l.map (·.1)).Nodup
def tDGetM (K : PySem.W.Frag) (td ty : TE) : TE := fun σ H Q => td σ H fun x H1 => ty σ H1 fun y H2 => ∃ a l i v, x = .ref a ∧ DTbl K a l ∧ y = .int i ∧ valV (tblV l) (Sum.inl i) = some v ∧ Q v H2
section
variable {X : Cx} {o i : Expr} {pos : Pos} {td ty : TE}
theorem pe_dgetM (ho : PE X o td) (hi : PE X i ty) (hs : NoSl i) : PE X (.Subscript o i pos) (tDGetM X.K td ty) := by
  intro pins s σ H Q I h
  refine subD_of PySem.F.slot_dict_getitem.lookup hs (thn (ho pins s σ H _ I h) fun u s1 ⟨x, H1, I1, rx, q1⟩ => thn (hi pins s1 σ H1 _ I1 q1) fun iv s2 ⟨y, H2, I2, ry, a, l, n, v, ex, ⟨⟨ob, lk, ok⟩, nd⟩, ey, hv, q2⟩ => ?_)
  subst ex ey
  obtain rfl : u = Value.ref a := rx
  obtain ⟨vs, rel, dd⟩ := tblObj_dict (P := X.prog) (w := X.w) ok nd (I2.kIn a ob lk)
  obtain ⟨w', hw, rw'⟩ := RelO.some_of (v := v) (o := valueAt vs (Sum.inl n)) (by rw [← hv]; exact rel.val (Sum.inl n))
  exact ⟨dd.typeIs, wpAny_getItem_of (kV_is (k := Sum.inl n) ry) dd.mapOf hw ⟨v, H2, I2.tok _, rw', q2⟩⟩
end
end L2
set_option Elab.async false
set_option linter.all false
set_option maxRecDepth 100000
set_option maxHeartbeats 2000000
namespace TD
open PySem PySem.Spec PyProof.Rows L2 TM
/-! ### the text by places -/
def top (i : Nat) : Stmt := PySem.Challenge.pw_duetimers_s01_answers.main.body.getD i (.Pass ⟨0, 0, 0, 0⟩)
abbrev sTInit : Stmt := inClass (top 8) 0
abbrev sBInit : Stmt := inClass (top 9) 0
abbrev sBegin : Stmt := inClass (top 9) 1
abbrev sPut : Stmt := inClass (top 9) 2
abbrev sPutAfter : Stmt := inClass (top 9) 3
abbrev sAway : Stmt := inClass (top 9) 4
abbrev sAwayAll : Stmt := inClass (top 9) 5
abbrev sLook : Stmt := inClass (top 9) 6
abbrev sFirst : Stmt := inClass (top 9) 7
abbrev sComeDue : Stmt := inClass (top 9) 8
abbrev sHowMany : Stmt := inClass (top 9) 9
abbrev sLater : Stmt := inClass (top 9) 10
abbrev sHold : Stmt := inClass (top 9) 11
abbrev sGoOn : Stmt := inClass (top 9) 12
abbrev sInOrder : Stmt := inClass (top 9) 13
abbrev sHowCome : Stmt := inClass (top 9) 14
abbrev sCome : Stmt := inClass (top 9) 15
abbrev sLineUp : Stmt := inClass (top 9) 16
abbrev sLeave : Stmt := inClass (top 9) 17
abbrev sDrop : Stmt := inClass (top 9) 18
abbrev sHow : Stmt := inClass (top 9) 19
abbrev sAnswers : Stmt := top 24
abbrev sOne : Stmt := top 25
/-! ### the objects -/
def recF (r : Rec) : List (Str × V) := [("name", .int r.name), ("every", .int r.every), ("tag", .int r.tag), ("due", .int r.due), ("turn", .int r.turn), ("held", .bl r.held), ("left", .int r.left)]
theorem recF_name (r : Rec) : (recF r).lookup ("name" : Str) = some (.int r.name) := by rfl
theorem recF_every (r : Rec) : (recF r).lookup ("every" : Str) = some (.int r.every) := by rfl
theorem recF_tag (r : Rec) : (recF r).lookup ("tag" : Str) = some (.int r.tag) := by rfl
theorem recF_due (r : Rec) : (recF r).lookup ("due" : Str) = some (.int r.due) := by rfl
theorem recF_turn (r : Rec) : (recF r).lookup ("turn" : Str) = some (.int r.turn) := by rfl
theorem recF_held (r : Rec) : (recF r).lookup ("held" : Str) = some (.bl r.held) := by rfl
theorem recF_left (r : Rec) : (recF r).lookup ("left" : Str) = some (.int r.left) := by rfl
theorem putF_due (r : Rec) (x : Int) : putF "due" (.int x) (recF r) = recF { r with due := x } := by rfl
theorem putF_turn (r : Rec) (x : Int) : putF "turn" (.int x) (recF r) = recF { r with turn := x } := by rfl
theorem putF_held (r : Rec) (x : Bool) : putF "held" (.bl x) (recF r) = recF { r with held := x } := by rfl
theorem putF_left (r : Rec) (x : Int) : putF "left" (.int x) (recF r) = recF { r with left := x } := by rfl
def bookF (now : Int) (D L : Addr) (turns : Int) : List (Str × V) := [("now", .int now), ("by_name", .ref D), ("waiting", .ref L), ("turns", .int turns)]
section
variable (now : Int) (D L : Addr) (turns : Int)
theorem bookF_now : (bookF now D L turns).lookup ("now" : Str) = some (.int now) := by rfl
theorem bookF_by : (bookF now D L turns).lookup ("by_name" : Str) = some (.ref D) := by rfl
theorem bookF_wait : (bookF now D L turns).lookup ("waiting" : Str) = some (.ref L) := by rfl
theorem bookF_turns : (bookF now D L turns).lookup ("turns" : Str) = some (.int turns) := by rfl
theorem putB_now (x : Int) : putF "now" (.int x) (bookF now D L turns) = bookF x D L turns := by rfl
theorem putB_by (x : Addr) : putF "by_name" (.ref x) (bookF now D L turns) = bookF now x L turns := by rfl
theorem putB_wait (x : Addr) : putF "waiting" (.ref x) (bookF now D L turns) = bookF now D x turns := by rfl
theorem putB_turns (x : Int) : putF "turns" (.int x) (bookF now D L turns) = bookF now D L x := by rfl
end
/-! ### the heap -/
def TupsAt (H : Hp) (ps : List Addr) (line : List K3) : Prop := ps.map H = line.map fun k => some (HO.tup (t3 k))
theorem TupsAt.len {H : Hp} {ps : List Addr} {line : List K3} (t : TupsAt H ps line) : ps.length = line.length := by
  have h := congrArg List.length t
  rwa [List.length_map, List.length_map] at h
theorem TupsAt.get {H : Hp} {ps : List Addr} {line : List K3} (t : TupsAt H ps line) {i : Nat} {k : K3} (h : line[i]? = some k) : ∃ p, ps[i]? = some p ∧ H p = some (.tup (t3 k)) := by
  have e : (ps.map H)[i]? = some (some (.tup (t3 k))) := by
    rw [show ps.map H = _ from t, List.getElem?_map, h]
    rfl
  rw [List.getElem?_map] at e
  cases q : ps[i]? with
  | none =>
    rw [q] at e
    cases e
  | some p =>
    rw [q] at e
    exact ⟨p, rfl, Option.some.inj e⟩
theorem TupsAt.mem {H : Hp} {ps : List Addr} {line : List K3} (t : TupsAt H ps line) {p : Addr} (h : p ∈ ps) : ∃ k, H p = some (.tup (t3 k)) := by
  have e : H p ∈ ps.map H := List.mem_map.mpr ⟨p, h, rfl⟩
  rw [show ps.map H = _ from t] at e
  obtain ⟨k, _, q⟩ := List.mem_map.mp e
  exact ⟨k, q.symm⟩
theorem TupsAt.keep {H H' : Hp} {ps : List Addr} {line : List K3} (t : TupsAt H ps line) (h : ∀ p xs, H p = some (.tup xs) → H' p = some (.tup xs)) : TupsAt H' ps line := by
  have e : ps.map H' = ps.map H := by
    apply List.map_congr_left
    intro p hp
    obtain ⟨k, q⟩ := t.mem hp
    rw [q, h p _ q]
  exact e.trans t
theorem TupsAt.ins {H : Hp} {ps : List Addr} {line : List K3} (t : TupsAt H ps line) (n : Nat) {p : Addr} {k : K3} (h : H p = some (.tup (t3 k))) : TupsAt H (ps.take n ++ p :: ps.drop n) (line.take n ++ k :: line.drop n) := by
  unfold TupsAt at *
  rw [List.map_append, List.map_append, List.map_cons, List.map_cons, List.map_take, List.map_take, List.map_drop, List.map_drop, t, h]
theorem map_erase {α β : Type} (f : α → β) : ∀ (l : List α) (n : Nat), (l.eraseIdx n).map f = (l.map f).eraseIdx n
  | [], _ => rfl
  | _ :: _, 0 => rfl
  | a :: l, n + 1 => congrArg (List.cons (f a)) (map_erase f l n)
theorem TupsAt.erase {H : Hp} {ps : List Addr} {line : List K3} (t : TupsAt H ps line) (n : Nat) : TupsAt H (ps.eraseIdx n) (line.eraseIdx n) := by
  unfold TupsAt at *
  rw [map_erase, map_erase, t]
structure Ad where
  db : Addr
  D : Addr
  L : Addr
  ars : List (Addr × Rec)
  ps : List Addr
def Ad.has (ad : Ad) (b c : Addr) : Prop := c = b ∨ c = ad.D ∨ c = ad.L ∨ c ∈ ad.ars.map (·.1)
def kvs (ars : List (Addr × Rec)) : List (Key × V) := ars.map fun x => (Sum.inl x.2.name, V.ref x.1)
structure BookAt (CT CB : Addr) (H : Hp) (b : Addr) (ad : Ad) (B : Book) : Prop where
  self : H b = some (.ins CB ad.db (bookF B.now ad.D ad.L B.turns))
  dict : H ad.D = some (.dK (kvs ad.ars))
  lst : H ad.L = some (.lst (ad.ps.map V.ref))
  recs : ad.ars.map (·.2) = B.recs
  at_ : ∀ x ∈ ad.ars, ∃ dx, H x.1 = some (.ins CT dx (recF x.2))
  nd : (ad.ars.map (·.1)).Nodup
  tups : TupsAt H ad.ps B.line
def BookRel (CT CB : Addr) (H : Hp) (b : Addr) (ad : Ad) (s : Sn98.State) : Prop := ∃ B W Hd, BookAt CT CB H b ad B ∧ Good B s W Hd
def Frame (H : Hp) (b : Addr) (ad : Ad) (H' : Hp) (ad' : Ad) : Prop := ∀ c o, H c = some o → ¬ ad.has b c → H' c = some o ∧ ¬ ad'.has b c
theorem Frame.trans {H H1 H2 : Hp} {b : Addr} {a0 a1 a2 : Ad} (f : Frame H b a0 H1 a1) (g : Frame H1 b a1 H2 a2) : Frame H b a0 H2 a2 := fun c o h n =>
  let ⟨h1, n1⟩ := f c o h n
  g c o h1 n1
theorem Frame.same {H H' : Hp} {b : Addr} {ad : Ad} (s : Same H H') : Frame H b ad H' ad := fun c o h n => ⟨s c o h, n⟩
theorem BookAt.same {CT CB : Addr} {H H' : Hp} {b : Addr} {ad : Ad} {B : Book} (A : BookAt CT CB H b ad B) (s : Same H H') : BookAt CT CB H' b ad B where
  self := s _ _ A.self
  dict := s _ _ A.dict
  lst := s _ _ A.lst
  recs := A.recs
  at_ := fun x hx => let ⟨dx, h⟩ := A.at_ x hx; ⟨dx, s _ _ h⟩
  nd := A.nd
  tups := A.tups.keep fun p xs h => s _ _ h
/-! ### what of the text is needed -/
structure Txt (K : PySem.W.Frag) (mg : Str → Option Value) (CT CB : Addr) : Prop where
  clT : Cls K CT
  clB : Cls K CB
  tName : NoAttr K CT "name"
  tEvery : NoAttr K CT "every"
  tTag : NoAttr K CT "tag"
  tDue : NoAttr K CT "due"
  tTurn : NoAttr K CT "turn"
  tHeld : NoAttr K CT "held"
  tLeft : NoAttr K CT "left"
  bNow : NoAttr K CB "now"
  bBy : NoAttr K CB "by_name"
  bWait : NoAttr K CB "waiting"
  bTurns : NoAttr K CB "turns"
  len : mg "len" = none
  mx : mg "max" = none
  mn : mg "min" = none
  mT : mg "Timer" = some (.ref CT)
  mB : mg "TimerBook" = some (.ref CB)
  hn : ∃ u, mg "HIGHEST_NAME" = some u ∧ RelV (.int 4294967295) u
  ht : ∃ u, mg "HIGHEST_TIME" = some u ∧ RelV (.int 9223372036854775807) u
  mt : ∃ u, mg "MOST_TIMERS" = some u ∧ RelV (.int 65536) u
  e1 : ∃ u, mg "TOO_HIGH" = some u ∧ RelV (.int (-1)) u
  e2 : ∃ u, mg "NOT_THERE" = some u ∧ RelV (.int (-2)) u
  e4 : ∃ u, mg "NOT_FITTING" = some u ∧ RelV (.int (-4)) u
  e5 : ∃ u, mg "NO_ROOM" = some u ∧ RelV (.int (-5)) u
/-! ### the promises of the inner defs -/
def spHow (CT CB : Addr) : Sp := fun vs H Q _ => ∃ (b a db D L : Addr) (now turns : Int) (ps : List Addr) (line : List K3) (da : Addr) (r : Rec), vs = [.ref b, .ref a] ∧ H b = some (.ins CB db (bookF now D L turns)) ∧
  H L = some (.lst (ps.map V.ref)) ∧ TupsAt H ps line ∧ Srt line ∧ H a = some (.ins CT da (recF r)) ∧ ∀ H', Same H H' → Q (.int (before line r.key)) H'
section
variable {P : Program} {w : World} {K : PySem.W.Frag} {mg : Str → Option Value} {base : Heap} {CT CB : Addr}
theorem scHow : FnScope ["self", "timer", "place", "low", "high", "middle"] ["self", "timer"] (defScope sHow) := ⟨rfl, rfl, rfl, by decide +kernel, rfl, by decide +kernel, by decide +kernel⟩
theorem ok_how {f : Addr} {fd : FuncData} (F : Fun K "how_many_before" "TimerBook.how_many_before" sHow f fd) (T : Txt K mg CT CB) : FnOk P w K mg base CX0 1 f fd ["self", "timer"] (spHow CT CB) := by
  refine F.ok scHow (fun vs H Q E h => ?_) (fun cdv A outer s H vs Q E hr h => ?_)
  · obtain ⟨b, a, db, D, L, now, turns, ps, line, da, r, rfl, _⟩ := h
    rfl
  · obtain ⟨b, a, db, D, L, now, turns, ps, line, da, r, rfl, hb, hL, hT, hs, ha, k⟩ := h
    refine ⟨_, pss_cons (ps_set (i := 2) scHow.nd rfl (Or.inl rfl) (pe_tup (pa_cons (pe_fld (pv 1) rfl) (pa_cons (pe_fld (pv 1) rfl) (pa_cons (pe_fld (pv 1) rfl) pa_nil)))))
      (pss_cons (ps_set (i := 3) scHow.nd rfl (Or.inl rfl) pe_int)
      (pss_cons (ps_set (i := 4) scHow.nd rfl (Or.inl rfl) (pe_callB call_len_seq (by rfl) T.len PySem.boot_len (pa_cons (pe_fld (pv 0) rfl) pa_nil)))
      (pss_cons (ps_while PassesOwn.never (pt_cmpR op_lt (pv 3) (pv 4) (nomark _))
        (pss_cons (ps_set (i := 5) scHow.nd rfl (Or.inl rfl) (pe_op op_fdiv (pe_op op_add (pv 3) (pv 4)) pe_int))
        (pss_one (ps_if (pt_cmpR (op_ltT hr.units0) (pe_ix ix_list (pe_fld (pv 0) rfl) (pv 5) (fun _ _ => rfl)) (pv 2) (nomark _))
          (pss_one (ps_set (i := 3) scHow.nd rfl (Or.inl rfl) (pe_op op_add (pv 5) pe_int)))
          (pss_one (ps_set (i := 4) scHow.nd rfl (Or.inl rfl) (pv 5)))))))
      (pss_one (ps_ret (pv 3)))))), ?_⟩
    refine ⟨_, rfl, a, CT, da, _, _, rfl, ha, T.clT, T.tDue, recF_due r, ?_⟩
    refine ⟨_, rfl, a, CT, da, _, _, rfl, ha, T.clT, T.tTurn, recF_turn r, ?_⟩
    refine ⟨_, rfl, a, CT, da, _, _, rfl, ha, T.clT, T.tName, recF_name r, ?_⟩
    refine ⟨(by show 3 ≤ sizeLine; decide), fun t ht => ?_⟩
    have s1 : Same H (upd H t (.tup (t3 r.key))) := fun c o e => by
      rw [upd_ne (ne_of_none e ht)]
      exact e
    refine ⟨_, rfl, b, CB, db, _, _, rfl, s1 _ _ hb, T.clB, T.bWait, bookF_wait _ _ _ _, L, ps.map V.ref, rfl, .inl (SqL.of (s1 _ _ hL)), ?_⟩
    have hlen := hT.len
    have hT1 : TupsAt (upd H t (.tup (t3 r.key))) ps line := hT.keep fun p xs h => s1 _ _ h
    have hc := before_le line r.key
    rw [List.length_map, hlen]
    refine while_by (fun σ H' => ∃ (lo hi : Int) (m : Option V), σ = [some (.ref b), some (.ref a), some (.ref t), some (.int lo), some (.int hi), m] ∧ H' = upd H t (.tup (t3 r.key)) ∧ 0 ≤ lo ∧ lo ≤ (before line r.key : Int) ∧ (before line r.key : Int) ≤ hi ∧ hi ≤ (line.length : Int))
      (fun σ _ => match σ with | [_, _, _, some (.int lo), some (.int hi), _] => (hi - lo).toNat | _ => 0) ⟨0, line.length, none, rfl, rfl, by omega, by omega, by omega, by omega⟩ ?_ ?_
    · rintro σ H' ⟨lo, hi, m, rfl, rfl, h0, h1, h2, h3⟩
      refine ⟨_, rfl, _, rfl, _, _, rfl, rfl, _, rfl, ?_⟩
      refine ite2 (fun q => ?_) (fun q => ?_)
      · have lt : lo < hi := of_decide_eq_true q
        obtain ⟨j, ej⟩ : ∃ j : Nat, (lo + hi) / 2 = (j : Int) := ⟨((lo + hi) / 2).toNat, by omega⟩
        have hm : j < line.length := by omega
        obtain ⟨p, hp, hpt⟩ := hT1.get (List.getElem?_eq_getElem hm)
        refine ⟨_, rfl, _, rfl, _, _, rfl, rfl, _, _, rfl, rfl, ⟨by decide, by decide⟩, ?_⟩
        refine ⟨_, rfl, b, CB, db, _, _, rfl, s1 _ _ hb, T.clB, T.bWait, bookF_wait _ _ _ _, _, rfl, L, _, _, _, rfl, rfl, SqL.of (s1 _ _ hL), at_of (j := j) ej (by rw [List.getElem?_map, hp]; rfl), ?_⟩
        refine ⟨_, rfl, p, t, [line[j].1, line[j].2.1, line[j].2.2], [r.key.1, r.key.2.1, r.key.2.2], rfl, rfl, SqT.of hpt, SqT.of upd_same, _, rfl, ?_⟩
        have hsp := before_spec (p := r.key) hs (List.getElem?_eq_getElem hm)
        rw [lex3]
        refine ite2 (fun q => ?_) (fun q => ?_)
        · have hq := hsp.mp q
          refine ⟨_, rfl, _, _, rfl, rfl, ?_⟩
          refine ⟨⟨(lo + hi) / 2 + 1, hi, _, rfl, rfl, by omega, by omega, h2, h3⟩, ?_⟩
          show (hi - ((lo + hi) / 2 + 1)).toNat < (hi - lo).toNat
          omega
        · have hq : ¬ j < before line r.key := fun z => q (hsp.mpr z)
          refine ⟨_, rfl, ?_⟩
          refine ⟨⟨lo, (lo + hi) / 2, _, rfl, rfl, h0, h1, by omega, by omega⟩, ?_⟩
          show ((lo + hi) / 2 - lo).toNat < (hi - lo).toNat
          omega
      · have e : lo = (before line r.key : Int) := by
          have : ¬ (lo < hi) := fun z => q (decide_eq_true z)
          omega
        refine ⟨_, rfl, ?_⟩
        rw [e]
        exact k _ s1
    · rintro σ H' Q1 Q2 hq ⟨x, hx, y, hy, i, j, ex, ey, z, ez, q⟩
      exact ⟨x, hx, y, hy, i, j, ex, ey, z, ez, hq _ _ q⟩
end
end TD
set_option Elab.async false
set_option linter.all false
set_option maxRecDepth 100000
set_option maxHeartbeats 2000000
namespace TD
open PySem PySem.Spec PyProof.Rows L2 TM
/-! ### pairs -/
theorem book_ne_rec {CB db CT da : Addr} {now turns : Int} {D L : Addr} {r : Rec} : HO.ins CB db (bookF now D L turns) ≠ HO.ins CT da (recF r) := by
  intro z
  injection z with _ _ z
  have := congrArg List.length z
  exact absurd this (by show ¬ (4 = 7); decide)
theorem kvs_any (n : Int) : ∀ ars : List (Addr × Rec), (valV (kvs ars) (Sum.inl n) : Option V) = none ↔ ∀ x ∈ ars, x.2.name ≠ n
  | [] => by
    constructor
    · intro _ x hx
      cases hx
    · intro _
      rfl
  | y :: ars => by
    show valV ((Sum.inl y.2.name, V.ref y.1) :: kvs ars) (Sum.inl n) = none ↔ _
    by_cases e : y.2.name = n
    · rw [valV_pos (show (Sum.inl y.2.name : Key) = Sum.inl n by rw [e])]
      constructor
      · intro h; cases h
      · intro h; exact absurd e (h y (List.mem_cons_self ..))
    · rw [valV_neg (show ¬ (Sum.inl y.2.name : Key) = Sum.inl n from fun q => e (Sum.inl.inj q)), kvs_any n ars]
      constructor
      · intro h x hx
        rcases List.mem_cons.mp hx with q | q
        · rw [q]; exact e
        · exact h x q
      · intro h x hx
        exact h x (List.mem_cons_of_mem _ hx)
theorem kvs_val {n : Int} : ∀ {ars : List (Addr × Rec)}, (ars.map (·.2.name)).Nodup → ∀ {x : Addr × Rec}, x ∈ ars → x.2.name = n → valV (kvs ars) (Sum.inl n) = some (.ref x.1)
  | [], _, _, h, _ => nomatch h
  | y :: ars, hn, x, h, e => by
    rw [List.map_cons, List.nodup_cons] at hn
    show valV ((Sum.inl y.2.name, V.ref y.1) :: kvs ars) (Sum.inl n) = _
    rcases List.mem_cons.mp h with q | q
    · subst q
      exact valV_pos (show (Sum.inl x.2.name : Key) = Sum.inl n by rw [e])
    · have ne : ¬ (Sum.inl y.2.name : Key) = Sum.inl n := fun z => hn.1 (List.mem_map.mpr ⟨x, q, e.trans (Sum.inl.inj z).symm⟩)
      rw [valV_neg ne]
      exact kvs_val hn.2 q e
theorem kvs_drop (n : Int) : ∀ ars : List (Addr × Rec), dropK (kvs ars) (Sum.inl n) = kvs (ars.filter fun x => x.2.name != n)
  | [] => rfl
  | y :: ars => by
    show dropK ((Sum.inl y.2.name, V.ref y.1) :: kvs ars) (Sum.inl n) = _
    rw [List.filter_cons]
    by_cases e : y.2.name = n
    · rw [dropK_pos (show (Sum.inl y.2.name : Key) = Sum.inl n by rw [e]), if_neg (by rw [e]; simp), kvs_drop n ars]
    · rw [dropK_neg (show ¬ (Sum.inl y.2.name : Key) = Sum.inl n from fun q => e (Sum.inl.inj q)), if_pos (by rw [bne_iff_ne]; exact e), kvs_drop n ars]
      rfl
theorem recs_filter (p : Rec → Bool) (ars : List (Addr × Rec)) : (ars.filter fun x => p x.2).map (·.2) = (ars.map (·.2)).filter p := by
  rw [List.filter_map]
  rfl
theorem names_eq (ars : List (Addr × Rec)) : ars.map (·.2.name) = (ars.map (·.2)).map Rec.name := by
  rw [List.map_map]
  rfl
def dropB (B : Book) (r : Rec) : Book := { B with recs := B.recs.filter fun q => q.name != r.name, line := if r.held = true then B.line else B.line.eraseIdx (before B.line r.key) }
theorem bookF_how (now : Int) (D L : Addr) (turns : Int) : (bookF now D L turns).lookup ("how_many_before" : Str) = none := by rfl
/-! ### promises -/
def spTInit (CT : Addr) : Sp := fun vs H Q _ => ∃ (x dx : Addr) (name every tag : Int), vs = [.ref x, .int name, .int every, .int tag] ∧ H x = some (.ins CT dx []) ∧
  ∀ H', H' x = some (.ins CT dx (recF ⟨name, every, tag, 0, 0, false, 0⟩)) → (∀ c o, H c = some o → c ≠ x → H' c = some o) → Q .non H'
def spBInit (CB : Addr) : Sp := fun vs H Q _ => ∃ (x dx : Addr), vs = [.ref x] ∧ H x = some (.ins CB dx []) ∧
  ∀ H' D L, H D = none → H L = none → H' x = some (.ins CB dx (bookF 0 D L 0)) → H' D = some (.dK []) → H' L = some (.lst []) → (∀ c o, H c = some o → c ≠ x → H' c = some o) → Q .non H'
def spLineUp (CT CB : Addr) : Sp := fun vs H Q _ => ∃ (b a db D L : Addr) (now turns : Int) (ps : List Addr) (line : List K3) (da : Addr) (r : Rec) (due : Int), vs = [.ref b, .ref a, .int due] ∧ H b = some (.ins CB db (bookF now D L turns)) ∧
  H L = some (.lst (ps.map V.ref)) ∧ TupsAt H ps line ∧ Srt line ∧ line.length < sizeLine ∧ H a = some (.ins CT da (recF r)) ∧
  ∀ H' ps', H' b = some (.ins CB db (bookF now D L (turns + 1))) → H' L = some (.lst (ps'.map V.ref)) → TupsAt H' ps' (ins line (due, turns + 1, r.name)) → H' a = some (.ins CT da (recF { r with due := due, turn := turns + 1 })) →
    (∀ c o, H c = some o → c ≠ b → c ≠ L → c ≠ a → H' c = some o) → Q .non H'
def spLeave (CT CB : Addr) : Sp := fun vs H Q _ => ∃ (b a db D L : Addr) (now turns : Int) (ps : List Addr) (line : List K3) (da : Addr) (r : Rec), vs = [.ref b, .ref a] ∧ H b = some (.ins CB db (bookF now D L turns)) ∧
  H L = some (.lst (ps.map V.ref)) ∧ TupsAt H ps line ∧ Srt line ∧ H a = some (.ins CT da (recF r)) ∧ r.key ∈ line ∧ line.length < sizeLine ∧
  ∀ H' ps', H' L = some (.lst (ps'.map V.ref)) → TupsAt H' ps' (line.eraseIdx (before line r.key)) → (∀ c o, H c = some o → c ≠ L → H' c = some o) → Q .non H'
def spDrop (CT CB : Addr) : Sp := fun vs H Q _ => ∃ (b : Addr) (ad : Ad) (B : Book) (x : Addr × Rec), vs = [.ref b, .int x.2.name] ∧ BookAt CT CB H b ad B ∧ Srt B.line ∧ (B.recs.map Rec.name).Nodup ∧ x ∈ ad.ars ∧ (x.2.held = false → x.2.key ∈ B.line) ∧ B.line.length < sizeLine ∧
  ∀ H' ad', BookAt CT CB H' b ad' (dropB B x.2) → ad'.D = ad.D → ad'.L = ad.L → ad'.db = ad.db → ad'.ars = (ad.ars.filter fun y => y.2.name != x.2.name) → (∀ c o, H c = some o → c ≠ ad.D → c ≠ ad.L → H' c = some o) → Q .non H'
section
variable {P : Program} {w : World} {K : PySem.W.Frag} {mg : Str → Option Value} {base : Heap} {CT CB : Addr}
theorem scTInit : FnScope ["self", "name", "every", "tag"] ["self", "name", "every", "tag"] (defScope sTInit) := ⟨rfl, rfl, rfl, by decide +kernel, rfl, by decide +kernel, by decide +kernel⟩
theorem ok_tinit {f : Addr} {fd : FuncData} (F : Fun K "__init__" "Timer.__init__" sTInit f fd) (T : Txt K mg CT CB) : FnOk P w K mg base CX0 1 f fd ["self", "name", "every", "tag"] (spTInit CT) := by
  refine F.ok scTInit (fun vs H Q E h => ?_) (fun cdv A outer s H vs Q E hr h => ?_)
  · obtain ⟨x, dx, name, every, tag, rfl, _⟩ := h
    rfl
  · obtain ⟨x, dx, name, every, tag, rfl, hx, k⟩ := h
    refine ⟨_, pss_cons (ps_fld (pv 0) (pv 1) rfl) (pss_cons (ps_fld (pv 0) (pv 2) rfl) (pss_cons (ps_fld (pv 0) (pv 3) rfl) (pss_cons (ps_fld (pv 0) pe_int rfl)
      (pss_cons (ps_fld (pv 0) pe_int rfl) (pss_cons (ps_fld (pv 0) pe_bl rfl) (pss_one (ps_fld (pv 0) pe_int rfl))))))), ?_⟩
    refine ⟨_, rfl, _, rfl, x, CT, dx, _, rfl, hx, T.clT, T.tName, (by decide), ?_⟩
    refine ⟨_, rfl, _, rfl, x, CT, dx, _, rfl, upd_same, T.clT, T.tEvery, (by show 1 < 1000; decide), ?_⟩
    refine ⟨_, rfl, _, rfl, x, CT, dx, _, rfl, upd_same, T.clT, T.tTag, (by show 2 < 1000; decide), ?_⟩
    refine ⟨_, rfl, x, CT, dx, _, rfl, upd_same, T.clT, T.tDue, (by show 3 < 1000; decide), ?_⟩
    refine ⟨_, rfl, x, CT, dx, _, rfl, upd_same, T.clT, T.tTurn, (by show 4 < 1000; decide), ?_⟩
    refine ⟨_, rfl, x, CT, dx, _, rfl, upd_same, T.clT, T.tHeld, (by show 5 < 1000; decide), ?_⟩
    refine ⟨_, rfl, x, CT, dx, _, rfl, upd_same, T.clT, T.tLeft, (by show 6 < 1000; decide), ?_⟩
    refine k _ upd_same fun c o e hc => ?_
    rw [upd_ne hc, upd_ne hc, upd_ne hc, upd_ne hc, upd_ne hc, upd_ne hc, upd_ne hc]
    exact e
theorem scBInit : FnScope ["self"] ["self"] (defScope sBInit) := ⟨rfl, rfl, rfl, by decide +kernel, rfl, by decide +kernel, by decide +kernel⟩
theorem ok_binit {f : Addr} {fd : FuncData} (F : Fun K "__init__" "TimerBook.__init__" sBInit f fd) (T : Txt K mg CT CB) : FnOk P w K mg base CX0 1 f fd ["self"] (spBInit CB) := by
  refine F.ok scBInit (fun vs H Q E h => ?_) (fun cdv A outer s H vs Q E hr h => ?_)
  · obtain ⟨x, dx, rfl, _⟩ := h
    rfl
  · obtain ⟨x, dx, rfl, hx, k⟩ := h
    refine ⟨_, pss_cons (ps_fld (pv 0) pe_int rfl) (pss_cons (ps_fld (pv 0) pe_dnewK rfl) (pss_cons (ps_fld (pv 0) (pe_lst pa_nil) rfl) (pss_one (ps_fld (pv 0) pe_int rfl)))), ?_⟩
    refine ⟨_, rfl, x, CB, dx, _, rfl, hx, T.clB, T.bNow, (by decide), ?_⟩
    intro D hD
    have hDx : D ≠ x := fun e => by rw [e, upd_same] at hD; cases hD
    refine ⟨_, rfl, x, CB, dx, _, rfl, (by rw [upd_ne (Ne.symm hDx), upd_same]), T.clB, T.bBy, (by show 1 < 1000; decide), ?_⟩
    refine ⟨Nat.zero_le _, fun L hL => ?_⟩
    have hLx : L ≠ x := fun e => by rw [e, upd_same] at hL; cases hL
    have hLD : L ≠ D := fun e => by rw [e, upd_ne hDx, upd_same] at hL; cases hL
    refine ⟨_, rfl, x, CB, dx, _, rfl, (by rw [upd_ne (Ne.symm hLx), upd_same]), T.clB, T.bWait, (by show 2 < 1000; decide), ?_⟩
    refine ⟨_, rfl, x, CB, dx, _, rfl, upd_same, T.clB, T.bTurns, (by show 3 < 1000; decide), ?_⟩
    rw [upd_ne hDx] at hD
    rw [upd_ne hLx, upd_ne hLD, upd_ne hLx] at hL
    refine k _ D L hD hL upd_same ?_ ?_ fun c o e hc => ?_
    · rw [upd_ne hDx, upd_ne hDx, upd_ne (Ne.symm hLD), upd_ne hDx, upd_same]
    · rw [upd_ne hLx, upd_ne hLx, upd_same]
    · have cD : c ≠ D := ne_of_none e hD
      have cL : c ≠ L := ne_of_none e hL
      rw [upd_ne hc, upd_ne hc, upd_ne cL, upd_ne hc, upd_ne cD, upd_ne hc]
      exact e
theorem scLineUp : FnScope ["self", "timer", "due"] ["self", "timer", "due"] (defScope sLineUp) := ⟨rfl, rfl, rfl, by decide +kernel, rfl, by decide +kernel, by decide +kernel⟩
theorem ok_lineup {f fH : Addr} {fd fdH : FuncData} (F : Fun K "line_up" "TimerBook.line_up" sLineUp f fd) (T : Txt K mg CT CB) (FH : Fun K "how_many_before" "TimerBook.how_many_before" sHow fH fdH) (bH : Binds K fdH ["self", "timer"] []) (mH : Meth K CB "how_many_before" fH) :
    FnOk P w K mg base CX0 2 f fd ["self", "timer", "due"] (spLineUp CT CB) := by
  have GH : FnOk P w K mg base CX0 1 fH fdH ["self", "timer"] (spHow CT CB) := ok_how FH T
  refine F.ok scLineUp (fun vs H Q E h => ?_) (fun cdv A outer s H vs Q E hr h => ?_)
  · obtain ⟨b, a, db, D, L, now, turns, ps, line, da, r, due, rfl, _⟩ := h
    rfl
  · obtain ⟨b, a, db, D, L, now, turns, ps, line, da, r, due, rfl, hb, hL, hT, hs, hz, ha, k⟩ := h
    refine ⟨_, pss_cons (ps_fld (pv 0) (pe_op op_add (pe_fld (pv 0) rfl) pe_int) rfl) (pss_cons (ps_fld (pv 1) (pv 2) rfl) (pss_cons (ps_fld (pv 1) (pe_fld (pv 0) rfl) rfl)
      (pss_one (ps_expr (pe_bm PySem.F.plainAttrs_list PySem.F.slot_list_insert PySem.F.type_list_insert mt_insert (pe_fld (pv 0) rfl)
        (pa_cons (pe_meth (pv 0) T.clB mH GH hr bH .nil pass0 (pa_cons (pv 1) pa_nil)) (pa_cons (pe_tup (pa_cons (pe_fld (pv 1) rfl) (pa_cons (pe_fld (pv 1) rfl) (pa_cons (pe_fld (pv 1) rfl) pa_nil)))) pa_nil))))))), ?_⟩
    have hab : a ≠ b := ne_of ha hb fun z => book_ne_rec z.symm
    have hLb : L ≠ b := ne_of hL hb (by intro z; cases z)
    have hLa : L ≠ a := ne_of hL ha (by intro z; cases z)
    refine ⟨_, rfl, b, CB, db, _, _, rfl, hb, T.clB, T.bTurns, bookF_turns _ _ _ _, _, _, rfl, rfl, _, rfl, b, CB, db, _, rfl, hb, T.clB, T.bTurns, (by show 4 < 1000; decide), ?_⟩
    refine ⟨_, rfl, _, rfl, a, CT, da, _, rfl, (by rw [upd_ne hab]; exact ha), T.clT, T.tDue, (by show 7 < 1000; decide), ?_⟩
    refine ⟨_, rfl, b, CB, db, _, _, rfl, (by rw [upd_ne (Ne.symm hab), upd_same]), T.clB, T.bTurns, (by rw [putB_turns]; exact bookF_turns _ _ _ _), _, rfl, a, CT, da, _, rfl, upd_same, T.clT, T.tTurn, (by rw [putF_due]; show 7 < 1000; decide), ?_⟩
    rw [putB_turns, putF_due, putF_turn]
    generalize hr' : ({ r with due := due, turn := turns + 1 } : Rec) = r' 
    generalize hH1 : upd (upd (upd H b (HO.ins CB db (bookF now D L (turns + 1)))) a (HO.ins CT da (recF { r with due := due }))) a (HO.ins CT da (recF r')) = H1
    have fr : ∀ c o, H c = some o → c ≠ b → c ≠ a → H1 c = some o := fun c o e h1 h2 => by rw [← hH1, upd_ne h2, upd_ne h2, upd_ne h1]; exact e
    have hb1 : H1 b = some (.ins CB db (bookF now D L (turns + 1))) := by rw [← hH1, upd_ne (Ne.symm hab), upd_ne (Ne.symm hab), upd_same]
    have ha1 : H1 a = some (.ins CT da (recF r')) := by rw [← hH1, upd_same]
    have hL1 : H1 L = some (.lst (ps.map V.ref)) := fr _ _ hL hLb hLa
    have hT1 : TupsAt H1 ps line := hT.keep fun p xs h => fr _ _ h (ne_of h hb (by intro z; cases z)) (ne_of h ha (by intro z; cases z))
    clear hH1
    refine ⟨_, rfl, b, CB, db, _, _, rfl, hb1, T.clB, T.bWait, bookF_wait _ _ _ _, .inl ⟨rfl, _, SqL.of hL1⟩, ?_⟩
    refine ⟨_, rfl, b, db, _, rfl, hb1, bookF_how _ _ _ _, _, rfl, b, a, db, D, L, now, turns + 1, ps, line, da, r', rfl, hb1, hL1, hT1, hs, ha1, fun H2 s2 => ?_⟩
    refine ⟨_, rfl, a, CT, da, _, _, rfl, s2 _ _ ha1, T.clT, T.tDue, recF_due r', ?_⟩
    refine ⟨_, rfl, a, CT, da, _, _, rfl, s2 _ _ ha1, T.clT, T.tTurn, recF_turn r', ?_⟩
    refine ⟨_, rfl, a, CT, da, _, _, rfl, s2 _ _ ha1, T.clT, T.tName, recF_name r', ?_⟩
    refine ⟨(by show 3 ≤ sizeLine; decide), fun t ht => ?_⟩
    have s3 : Same H1 (upd H2 t (.tup (t3 r'.key))) := fun c o e => by
      have e2 := s2 _ _ e
      rw [upd_ne (ne_of_none e2 ht)]
      exact e2
    have hT3 := (hT1.keep fun p xs h => s3 _ _ h).ins (before line r'.key) (p := t) (k := r'.key) upd_same
    refine ⟨L, ps.map V.ref, _, before line r'.key, _, rfl, rfl, rfl, s3 _ _ hL1, (by rw [List.length_map, hT.len]; exact before_le _ _), (by rw [List.length_map, hT.len]; exact hz), ?_⟩
    have eL : (ps.map V.ref).take (before line r'.key) ++ V.ref t :: (ps.map V.ref).drop (before line r'.key) = (ps.take (before line r'.key) ++ t :: ps.drop (before line r'.key)).map V.ref := by
      rw [List.map_append, List.map_cons, List.map_take, List.map_drop]
    have ek : r'.key = (due, turns + 1, r.name) := by rw [← hr']; rfl
    have h3L := s3 _ _ hL1
    refine k _ (ps.take (before line r'.key) ++ t :: ps.drop (before line r'.key)) ?_ ?_ ?_ ?_ fun c o e h1 h2 h3 => ?_
    · rw [upd_ne (Ne.symm hLb)]
      exact s3 _ _ hb1
    · rw [← eL]
      exact upd_same
    · have q : TupsAt (upd H2 t (.tup (t3 r'.key))) (ps.take (before line r'.key) ++ t :: ps.drop (before line r'.key)) (ins line r'.key) := hT3
      rw [← ek]
      exact q.keep fun p xs h => by rw [upd_ne (ne_of h h3L (by intro z; cases z))]; exact h
    · rw [upd_ne (Ne.symm hLa), hr']
      exact s3 _ _ ha1
    · rw [upd_ne h2]
      exact s3 _ _ (fr _ _ e h1 h3)
theorem scLeave : FnScope ["self", "timer"] ["self", "timer"] (defScope sLeave) := ⟨rfl, rfl, rfl, by decide +kernel, rfl, by decide +kernel, by decide +kernel⟩
theorem ok_leave {f fH : Addr} {fd fdH : FuncData} (F : Fun K "leave_line" "TimerBook.leave_line" sLeave f fd) (T : Txt K mg CT CB) (FH : Fun K "how_many_before" "TimerBook.how_many_before" sHow fH fdH) (bH : Binds K fdH ["self", "timer"] []) (mH : Meth K CB "how_many_before" fH) :
    FnOk P w K mg base CX0 2 f fd ["self", "timer"] (spLeave CT CB) := by
  have GH : FnOk P w K mg base CX0 1 fH fdH ["self", "timer"] (spHow CT CB) := ok_how FH T
  refine F.ok scLeave (fun vs H Q E h => ?_) (fun cdv A outer s H vs Q E hr h => ?_)
  · obtain ⟨b, a, db, D, L, now, turns, ps, line, da, r, rfl, _⟩ := h
    rfl
  · obtain ⟨b, a, db, D, L, now, turns, ps, line, da, r, rfl, hb, hL, hT, hs, ha, hm, hz, k⟩ := h
    refine ⟨_, pss_one (ps_expr (pe_bm PySem.F.plainAttrs_list PySem.F.slot_list_pop PySem.F.type_list_pop mt_popAt (pe_fld (pv 0) rfl) (pa_cons (pe_meth (pv 0) T.clB mH GH hr bH .nil pass0 (pa_cons (pv 1) pa_nil)) pa_nil))), ?_⟩
    obtain ⟨i, hi, ei⟩ := List.getElem_of_mem hm
    have ei' : line[i]? = some r.key := by rw [List.getElem?_eq_getElem hi, ei]
    have hbf : before line r.key = i := before_at hs ei'
    obtain ⟨p, hp, hpt⟩ := hT.get ei'
    have hn := line63
    refine ⟨_, rfl, b, CB, db, _, _, rfl, hb, T.clB, T.bWait, bookF_wait _ _ _ _, .inl ⟨rfl, _, SqL.of hL⟩, ?_⟩
    refine ⟨_, rfl, b, db, _, rfl, hb, bookF_how _ _ _ _, _, rfl, b, a, db, D, L, now, turns, ps, line, da, r, rfl, hb, hL, hT, hs, ha, fun H2 s2 => ?_⟩
    refine ⟨L, ps.map V.ref, _, i, V.ref p, rfl, rfl, s2 _ _ hL, by omega, by omega, ?_, ?_, ?_⟩
    · rw [hbf, List.length_map, hT.len, seqIndex_of (by omega) (by omega)]
      rfl
    · rw [List.getElem?_map, hp]
      rfl
    · refine k _ (ps.eraseIdx i) ?_ ?_ fun c o e h1 => ?_
      · rw [upd_same, map_erase]
      · rw [hbf]
        exact ((hT.keep fun p xs h => s2 _ _ h).erase i).keep fun p xs h => by rw [upd_ne (ne_of h (s2 _ _ hL) (by intro z; cases z))]; exact h
      · rw [upd_ne h1]
        exact s2 _ _ e
end
end TD
set_option Elab.async false
set_option linter.all false
set_option maxRecDepth 100000
set_option maxHeartbeats 2000000
namespace TD
open PySem PySem.Spec PyProof.Rows L2 TM
theorem bookF_leave (now : Int) (D L : Addr) (turns : Int) : (bookF now D L turns).lookup ("leave_line" : Str) = none := by rfl
theorem bookF_drop (now : Int) (D L : Addr) (turns : Int) : (bookF now D L turns).lookup ("drop" : Str) = none := by rfl
theorem bookF_lineup (now : Int) (D L : Addr) (turns : Int) : (bookF now D L turns).lookup ("line_up" : Str) = none := by rfl
theorem bookF_put (now : Int) (D L : Addr) (turns : Int) : (bookF now D L turns).lookup ("put" : Str) = none := by rfl
section
variable {CT CB : Addr} {H : Hp} {b : Addr} {ad : Ad} {B : Book}
theorem BookAt.ndn (A : BookAt CT CB H b ad B) (h : (B.recs.map Rec.name).Nodup) : (ad.ars.map (·.2.name)).Nodup := by
  rw [names_eq, A.recs]
  exact h
theorem BookAt.Db (A : BookAt CT CB H b ad B) : b ≠ ad.D := ne_of A.self A.dict (by intro z; cases z)
theorem BookAt.Lb (A : BookAt CT CB H b ad B) : b ≠ ad.L := ne_of A.self A.lst (by intro z; cases z)
theorem BookAt.LD (A : BookAt CT CB H b ad B) : ad.L ≠ ad.D := ne_of A.lst A.dict (by intro z; cases z)
theorem BookAt.xD (A : BookAt CT CB H b ad B) {x : Addr × Rec} (hx : x ∈ ad.ars) : x.1 ≠ ad.D := by
  obtain ⟨dx, h⟩ := A.at_ x hx
  exact ne_of h A.dict (by intro z; cases z)
theorem BookAt.xL (A : BookAt CT CB H b ad B) {x : Addr × Rec} (hx : x ∈ ad.ars) : x.1 ≠ ad.L := by
  obtain ⟨dx, h⟩ := A.at_ x hx
  exact ne_of h A.lst (by intro z; cases z)
theorem BookAt.xb (A : BookAt CT CB H b ad B) {x : Addr × Rec} (hx : x ∈ ad.ars) : x.1 ≠ b := by
  obtain ⟨dx, h⟩ := A.at_ x hx
  exact ne_of h A.self fun z => book_ne_rec z.symm
theorem BookAt.new (A : BookAt CT CB H b ad B) {q : Addr} (hq : H q = none) : ¬ ad.has b q := by
  rintro (h | h | h | h)
  · rw [h, A.self] at hq; cases hq
  · rw [h, A.dict] at hq; cases hq
  · rw [h, A.lst] at hq; cases hq
  · obtain ⟨x, hx, e⟩ := List.mem_map.mp h
    obtain ⟨dx, h1⟩ := A.at_ x hx
    rw [← e, h1] at hq
    cases hq
end
section
variable {P : Program} {w : World} {K : PySem.W.Frag} {mg : Str → Option Value} {base : Heap} {CT CB : Addr}
theorem scDrop : FnScope ["self", "name", "timer"] ["self", "name"] (defScope sDrop) := ⟨rfl, rfl, rfl, by decide +kernel, rfl, by decide +kernel, by decide +kernel⟩
theorem ok_drop {f fV : Addr} {fd fdV : FuncData} (F : Fun K "drop" "TimerBook.drop" sDrop f fd) (T : Txt K mg CT CB) (GV : FnOk P w K mg base CX0 2 fV fdV ["self", "timer"] (spLeave CT CB)) (bV : Binds K fdV ["self", "timer"] []) (mV : Meth K CB "leave_line" fV) :
    FnOk P w K mg base CX0 3 f fd ["self", "name"] (spDrop CT CB) := by
  refine F.ok scDrop (fun vs H Q E h => ?_) (fun cdv A outer s H vs Q E hr h => ?_)
  · obtain ⟨b, ad, B, x, rfl, _⟩ := h
    rfl
  · obtain ⟨b, ad, B, x, rfl, hA, hs, hn, hx, hk, hz, k⟩ := h
    refine ⟨_, pss_cons (ps_set (i := 2) scDrop.nd rfl (Or.inl rfl) (pe_dpop1 (pe_fld (pv 0) rfl) (pv 1) ⟨rfl, rfl, rfl, rfl⟩))
      (pss_one (ps_if (pt_not (pt_val (pe_fld (pv 2) rfl))) (pss_one (ps_expr (pe_meth (pv 0) T.clB mV GV hr bV .nil pass0 (pa_cons (pv 2) pa_nil)))) pss_nil)), ?_⟩
    refine ⟨_, rfl, b, CB, ad.db, _, _, rfl, hA.self, T.clB, T.bBy, bookF_by _ _ _ _, ad.D, rfl, .inl ⟨_, .inl hA.dict⟩, _, rfl, kvs ad.ars, Sum.inl x.2.name, V.ref x.1, hA.dict, rfl, kvs_val (hA.ndn hn) hx rfl, ?_⟩
    rw [kvs_drop]
    obtain ⟨dx, hdx⟩ := hA.at_ x hx
    generalize hH1 : upd H ad.D (HO.dK (kvs (ad.ars.filter fun y => y.2.name != x.2.name))) = H1
    have fr : ∀ c o, H c = some o → c ≠ ad.D → H1 c = some o := fun c o e h1 => by rw [← hH1, upd_ne h1]; exact e
    have hD1 : H1 ad.D = some (.dK (kvs (ad.ars.filter fun y => y.2.name != x.2.name))) := by rw [← hH1, upd_same]
    have hb1 := fr _ _ hA.self hA.Db
    have hL1 := fr _ _ hA.lst hA.LD
    have hx1 := fr _ _ hdx (hA.xD hx)
    have hT1 : TupsAt H1 ad.ps B.line := hA.tups.keep fun p xs h => fr _ _ h (ne_of h hA.dict (by intro z; cases z))
    clear hH1
    have fin : ∀ (H2 : Hp) (ps' : List Addr), H2 ad.L = some (.lst (ps'.map V.ref)) → TupsAt H2 ps' (dropB B x.2).line → (∀ c o, H1 c = some o → c ≠ ad.L → H2 c = some o) → Q .non H2 := fun H2 ps' hL2 hT2 fr2 => by
      refine k H2 { ad with ars := ad.ars.filter fun y => y.2.name != x.2.name, ps := ps' } ⟨fr2 _ _ hb1 hA.Lb, fr2 _ _ hD1 (Ne.symm hA.LD), hL2, ?_, fun y hy => ?_, nodup_filter_map _ hA.nd, hT2⟩ rfl rfl rfl rfl fun c o e h1 h2 => fr2 _ _ (fr _ _ e h1) h2
      · show (ad.ars.filter fun y => y.2.name != x.2.name).map (·.2) = B.recs.filter fun q => q.name != x.2.name
        rw [← hA.recs]
        exact recs_filter (fun q => q.name != x.2.name) ad.ars
      · have hy' := (List.mem_filter.mp hy).1
        obtain ⟨dy, hdy⟩ := hA.at_ y hy'
        exact ⟨dy, fr2 _ _ (fr _ _ hdy (hA.xD hy')) (hA.xL hy')⟩
    refine ⟨_, rfl, x.1, CT, dx, _, _, rfl, hx1, T.clT, T.tHeld, recF_held _, _, rfl, ?_⟩
    cases hh : x.2.held with
    | true =>
      refine iteF ?_
      refine fin H1 ad.ps hL1 ?_ fun c o e _ => e
      show TupsAt H1 ad.ps (if x.2.held = true then B.line else _)
      rw [if_pos hh]
      exact hT1
    | false =>
      refine iteT ?_
      refine ⟨_, rfl, b, ad.db, _, rfl, hb1, bookF_leave _ _ _ _, _, rfl, b, x.1, ad.db, ad.D, ad.L, B.now, B.turns, ad.ps, B.line, dx, x.2, rfl, hb1, hL1, hT1, hs, hx1, hk hh, hz, fun H2 ps' hL2 hT2 fr2 => ?_⟩
      refine fin H2 ps' hL2 ?_ fr2
      show TupsAt H2 ps' (if x.2.held = true then B.line else B.line.eraseIdx (before B.line x.2.key))
      rw [if_neg (by rw [hh]; exact Bool.false_ne_true)]
      exact hT2
end
end TD
set_option Elab.async false
set_option linter.all false
set_option maxRecDepth 100000
set_option maxHeartbeats 2000000
namespace TD
open PySem PySem.Spec PyProof.Rows L2 TM
/-! ### a call's promise -/
def Done (CT CB : Addr) (b : Addr) (ad : Ad) (H : Hp) (r : Sn98.State × Sn98.Ans) (Q : VK) : Prop :=
  ∀ H' q ad', BookRel CT CB H' b ad' r.1 → Frame H b ad H' ad' → H q = none → H' q = some (.lst ((ans r.2).map V.int)) → ¬ ad'.has b q → Q (.ref q) H'
section
variable {CT CB : Addr} {H H1 : Hp} {b q : Addr} {ad ad1 : Ad} {s : Sn98.State} {r : Sn98.State × Sn98.Ans} {Q : VK} {xs : List V}
theorem BookRel.new (R : BookRel CT CB H b ad s) (hq : H q = none) : ¬ ad.has b q := by
  obtain ⟨B, W, Hd, A, _⟩ := R
  exact A.new hq
theorem BookRel.same (R : BookRel CT CB H b ad s) (h : Same H H1) : BookRel CT CB H1 b ad s := by
  obtain ⟨B, W, Hd, A, G⟩ := R
  exact ⟨B, W, Hd, A.same h, G⟩
theorem same_new (hq : H q = none) (o : HO) : Same H (upd H q o) := fun c u e => by
  rw [upd_ne (ne_of_none e hq)]
  exact e
/-- the answer's list is laid at the end -/
theorem Done.end_ (d : Done CT CB b ad H r Q) (R : BookRel CT CB H1 b ad1 r.1) (f : Frame H b ad H1 ad1) (h0 : ∀ c, H1 c = none → H c = none) (hq : H1 q = none) (e : xs = (ans r.2).map V.int) : Q (.ref q) (upd H1 q (.lst xs)) := by
  subst e
  exact d _ q ad1 (R.same (same_new hq _)) (f.trans (Frame.same (same_new hq _))) (h0 q hq) upd_same (R.new hq)
theorem free_of (h : ∀ c, H c ≠ none → H1 c ≠ none) : ∀ c, H1 c = none → H c = none := fun c e => by
  cases q : H c with
  | none => rfl
  | some o => exact absurd e (h c (by rw [q]; exact fun z => nomatch z))
theorem Same.free' (h : Same H H1) : ∀ c, H1 c = none → H c = none := fun c e => h.free e
end
theorem word_le (n : Nat) : Sn98.WORD ≤ n ↔ (4294967295 : Int) < (n : Int) := by
  have e : Sn98.WORD = 4294967296 := by decide
  omega
theorem last_lt (n : Nat) : Sn98.LAST < n ↔ (9223372036854775807 : Int) < (n : Int) := by
  have e : Sn98.LAST = 9223372036854775807 := by decide
  omega
theorem most_le (n : Nat) : Sn98.MOST ≤ n ↔ (65536 : Int) ≤ (n : Int) := by
  have e : Sn98.MOST = 65536 := by decide
  omega
def spBegin (CT CB : Addr) : Sp := fun vs H Q _ => ∃ (b : Addr) (ad : Ad) (s : Sn98.State) (n : Nat), vs = [.ref b, .int (n : Int)] ∧ BookRel CT CB H b ad s ∧ Done CT CB b ad H (Sn98.step s (.begin_ n)) Q
def spPut (CT CB : Addr) : Sp := fun vs H Q _ => ∃ (b : Addr) (ad : Ad) (s : Sn98.State) (n a e g : Nat), vs = [.ref b, .int (n : Int), .int (a : Int), .int (e : Int), .int (g : Int)] ∧ BookRel CT CB H b ad s ∧ Done CT CB b ad H (s.setCall n a e g) Q
def spAfter (CT CB : Addr) : Sp := fun vs H Q _ => ∃ (b : Addr) (ad : Ad) (s : Sn98.State) (n a e g : Nat), vs = [.ref b, .int (n : Int), .int (a : Int), .int (e : Int), .int (g : Int)] ∧ BookRel CT CB H b ad s ∧ Done CT CB b ad H (Sn98.step s (.after n a e g)) Q
def spAway (CT CB : Addr) : Sp := fun vs H Q _ => ∃ (b : Addr) (ad : Ad) (s : Sn98.State) (n : Nat), vs = [.ref b, .int (n : Int)] ∧ BookRel CT CB H b ad s ∧ Done CT CB b ad H (Sn98.step s (.away n)) Q
def spAwayAll (CT CB : Addr) : Sp := fun vs H Q _ => ∃ (b : Addr) (ad : Ad) (s : Sn98.State) (n : Nat), vs = [.ref b, .int (n : Int)] ∧ BookRel CT CB H b ad s ∧ Done CT CB b ad H (Sn98.step s (.awayAll n)) Q
def spLook (CT CB : Addr) : Sp := fun vs H Q _ => ∃ (b : Addr) (ad : Ad) (s : Sn98.State) (n : Nat), vs = [.ref b, .int (n : Int)] ∧ BookRel CT CB H b ad s ∧ Done CT CB b ad H (Sn98.step s (.look n)) Q
def spFirst (CT CB : Addr) : Sp := fun vs H Q _ => ∃ (b : Addr) (ad : Ad) (s : Sn98.State), vs = [.ref b] ∧ BookRel CT CB H b ad s ∧ Done CT CB b ad H (Sn98.step s .next) Q
section
variable {P : Program} {w : World} {K : PySem.W.Frag} {mg : Str → Option Value} {base : Heap} {CT CB : Addr}
theorem scBegin : FnScope ["self", "now"] ["self", "now"] (defScope sBegin) := ⟨rfl, rfl, rfl, by decide +kernel, rfl, by decide +kernel, by decide +kernel⟩
theorem ok_begin {f : Addr} {fd : FuncData} (F : Fun K "begin" "TimerBook.begin" sBegin f fd) (T : Txt K mg CT CB) : FnOk P w K mg base CX0 1 f fd ["self", "now"] (spBegin CT CB) := by
  obtain ⟨u1, g1, r1⟩ := T.ht
  obtain ⟨u2, g2, r2⟩ := T.e1
  refine F.ok scBegin (fun vs H Q E h => ?_) (fun cdv A outer s H vs Q E hr h => ?_)
  · obtain ⟨b, ad, s, n, rfl, _⟩ := h
    rfl
  · obtain ⟨b, ad, s, n, rfl, R, d⟩ := h
    refine ⟨_, pss_cons (ps_if (pt_cmpR op_gt (pv 1) (pe_glob rfl g1 r1) (nomark _)) (pss_one (ps_ret (pe_lst (pa_cons (pe_glob rfl g2 r2) pa_nil)))) pss_nil)
      (pss_cons (ps_fld (pv 0) (pv 1) rfl) (pss_cons (ps_fld (pv 0) pe_dnewK rfl) (pss_cons (ps_fld (pv 0) (pe_lst pa_nil) rfl) (pss_one (ps_ret (pe_lst (pa_cons pe_int pa_nil))))))), ?_⟩
    have hst : Sn98.step s (.begin_ n) = if Sn98.LAST < n then (s, Sn98.says (-1)) else (Sn98.begun n, Sn98.says 0) := rfl
    refine ⟨_, rfl, _, _, rfl, rfl, _, rfl, ?_⟩
    refine ite2 (fun q => ?_) (fun q => ?_)
    · have q := (last_lt n).mpr (of_decide_eq_true q)
      rw [hst, if_pos q] at d
      refine ⟨(by show 1 ≤ sizeLine; decide), fun p hp => ?_⟩
      exact d.end_ R (Frame.same (Same.refl H)) (fun c e => e) hp rfl
    · have q : ¬ Sn98.LAST < n := fun z => q (decide_eq_true ((last_lt n).mp z))
      rw [hst, if_neg q] at d
      obtain ⟨B, W, Hd, hA, G⟩ := R
      refine ⟨_, rfl, _, rfl, b, CB, ad.db, _, rfl, hA.self, T.clB, T.bNow, (by show 4 < 1000; decide), ?_⟩
      rw [putB_now]
      intro D hD
      have hDb : D ≠ b := fun e => by rw [e, upd_same] at hD; cases hD
      refine ⟨_, rfl, b, CB, ad.db, _, rfl, (by rw [upd_ne (Ne.symm hDb), upd_same]), T.clB, T.bBy, (by show 4 < 1000; decide), ?_⟩
      rw [putB_by]
      refine ⟨Nat.zero_le _, fun L hL => ?_⟩
      have hLb : L ≠ b := fun e => by rw [e, upd_same] at hL; cases hL
      have hLD : L ≠ D := fun e => by rw [e, upd_ne hDb, upd_same] at hL; cases hL
      refine ⟨_, rfl, b, CB, ad.db, _, rfl, (by rw [upd_ne (Ne.symm hLb), upd_same]), T.clB, T.bWait, (by show 4 < 1000; decide), ?_⟩
      rw [putB_wait]
      refine ⟨(by show 1 ≤ sizeLine; decide), fun p hp => ?_⟩
      rw [upd_ne hDb] at hD
      rw [upd_ne hLb, upd_ne hLD, upd_ne hLb] at hL
      refine d.end_ (ad1 := ⟨ad.db, D, L, [], []⟩) ?_ ?_ ?_ hp rfl
      · refine ⟨⟨n, B.turns, [], []⟩, [], [], ⟨upd_same, ?_, ?_, rfl, (fun x hx => nomatch hx), List.nodup_nil, rfl⟩, good_begun (by have := q; omega) rfl rfl rfl⟩
        · show upd _ b _ D = some (.dK [])
          rw [upd_ne hDb, upd_ne (Ne.symm hLD), upd_ne hDb, upd_same]
        · show upd _ b _ L = some (.lst [])
          rw [upd_ne hLb, upd_same]
      · intro c o e n1
        have cb : c ≠ b := fun z => n1 (.inl z)
        have cD : c ≠ D := ne_of_none e hD
        have cL : c ≠ L := ne_of_none e hL
        refine ⟨by rw [upd_ne cb, upd_ne cL, upd_ne cb, upd_ne cD, upd_ne cb]; exact e, ?_⟩
        rintro (z | z | z | z)
        · exact cb z
        · exact cD z
        · exact cL z
        · exact nomatch z
      · refine free_of fun c hc z => ?_
        by_cases cb : c = b
        · rw [cb, upd_same] at z; cases z
        · rw [upd_ne cb] at z
          by_cases cL : c = L
          · rw [cL, upd_same] at z; cases z
          · rw [upd_ne cL, upd_ne cb] at z
            by_cases cD : c = D
            · rw [cD, upd_same] at z; cases z
            · rw [upd_ne cD, upd_ne cb] at z
              exact hc z
theorem scFirst : FnScope ["self"] ["self"] (defScope sFirst) := ⟨rfl, rfl, rfl, by decide +kernel, rfl, by decide +kernel, by decide +kernel⟩
theorem ok_first {f : Addr} {fd : FuncData} (F : Fun K "first_due" "TimerBook.first_due" sFirst f fd) (T : Txt K mg CT CB) : FnOk P w K mg base CX0 1 f fd ["self"] (spFirst CT CB) := by
  obtain ⟨u2, g2, r2⟩ := T.e2
  refine F.ok scFirst (fun vs H Q E h => ?_) (fun cdv A outer s H vs Q E hr h => ?_)
  · obtain ⟨b, ad, s, rfl, _⟩ := h
    rfl
  · obtain ⟨b, ad, s, rfl, R, d⟩ := h
    refine ⟨_, pss_cons (ps_if (pt_cmpR op_eq (pe_callB call_len_seq (by rfl) T.len PySem.boot_len (pa_cons (pe_fld (pv 0) rfl) pa_nil)) pe_int (nomark _)) (pss_one (ps_ret (pe_lst (pa_cons (pe_glob rfl g2 r2) pa_nil)))) pss_nil)
      (pss_one (ps_ret (pe_lst (pa_cons pe_int (pa_cons (pe_ix ix_tup (pe_ix ix_list (pe_fld (pv 0) rfl) pe_int (fun _ _ => rfl)) pe_int (fun _ _ => rfl)) pa_nil))))), ?_⟩
    have R' := R
    obtain ⟨B, W, Hd, hA, G⟩ := R
    have hst : Sn98.step s .next = (s, match s.timers with | [] => Sn98.says (-2) | t :: _ => ⟨0, [t.at_]⟩) := rfl
    refine ⟨_, rfl, b, CB, ad.db, _, _, rfl, hA.self, T.clB, T.bWait, bookF_wait _ _ _ _, ad.L, ad.ps.map V.ref, rfl, .inl (SqL.of hA.lst), rfl, _, rfl, ?_⟩
    have hlen : (ad.ps.map V.ref).length = s.timers.length := by rw [List.length_map, hA.tups.len, G.lenL, G.lenW]
    rw [hlen]
    cases ht : s.timers with
    | nil =>
      rw [hst, ht] at d
      refine iteT ?_
      refine ⟨(by show 1 ≤ sizeLine; decide), fun p hp => ?_⟩
      exact d.end_ R' (Frame.same (Same.refl H)) (fun c e => e) hp rfl
    | cons t ts =>
      rw [hst, ht] at d
      refine ite2 (fun q => ?_) (fun q => ?_)
      · have := of_decide_eq_true q
        injection this with this
        rw [List.length_cons] at this
        omega
      · have hW := G.tim
        rw [ht] at hW
        cases hw : W with
        | nil => rw [hw] at hW; cases hW
        | cons w W' =>
          rw [hw] at hW
          have e1 : (t.at_ : Int) = w.due := congrArg (·.1) (List.cons.inj hW).1
          have hl : B.line[0]? = some w.key := by rw [G.line, hw]; rfl
          obtain ⟨p, hp, hpt⟩ := hA.tups.get hl
          refine ⟨_, rfl, b, CB, ad.db, _, _, rfl, hA.self, T.clB, T.bWait, bookF_wait _ _ _ _, ad.L, _, _, _, rfl, rfl, SqL.of hA.lst, at_of (j := 0) rfl (by rw [List.getElem?_map, hp]; rfl), ?_⟩
          refine ⟨p, t3 w.key, _, _, rfl, rfl, SqT.of hpt, at_of (j := 0) rfl rfl, ?_⟩
          refine ⟨(by show 2 ≤ sizeLine; decide), fun p hp => ?_⟩
          refine d.end_ R' (Frame.same (Same.refl H)) (fun c e => e) hp ?_
          show [V.int 0, V.int w.due] = [V.int 0, V.int (t.at_ : Int)]
          rw [e1]
end
end TD
set_option Elab.async false
set_option linter.all false
set_option maxRecDepth 100000
set_option maxHeartbeats 2000000
namespace TD
open PySem PySem.Spec PyProof.Rows L2 TM
theorem big16 : 65536 < sizeLine := by decide
theorem kvs_snoc (ars : List (Addr × Rec)) {n : Int} {x : Addr} {r : Rec} (e : r.name = n) (h : ∀ y ∈ ars, y.2.name ≠ n) : putK (kvs ars) (Sum.inl n) (V.ref x) = kvs (ars ++ [(x, r)]) := by
  rw [putK_new _ ((kvs_any n ars).mpr h)]
  unfold kvs
  rw [List.map_append, ← e]
  rfl
section
variable {CT CB : Addr} {H : Hp} {b : Addr} {ad : Ad} {B : Book} {s : Sn98.State} {W Hd : List Rec}
theorem BookAt.len (A : BookAt CT CB H b ad B) : ad.ars.length = B.recs.length := by rw [← A.recs, List.length_map]
theorem BookAt.mem (A : BookAt CT CB H b ad B) {x : Addr × Rec} (h : x ∈ ad.ars) : x.2 ∈ B.recs := by
  rw [← A.recs]
  exact List.mem_map.mpr ⟨x, h, rfl⟩
theorem BookAt.of_mem (A : BookAt CT CB H b ad B) {r : Rec} (h : r ∈ B.recs) : ∃ a, (a, r) ∈ ad.ars := by
  rw [← A.recs] at h
  obtain ⟨x, hx, e⟩ := List.mem_map.mp h
  exact ⟨x.1, by rw [← e]; exact hx⟩
theorem line_small (G : Good B s W Hd) : B.line.length ≤ 65536 := by
  have h1 := G.perm.length_eq
  have h2 := G.size
  rw [G.lenL]
  rw [List.length_append] at h1
  omega
theorem key_in (G : Good B s W Hd) {r : Rec} (hr : r ∈ B.recs) (hh : r.held = false) : r.key ∈ B.line := by
  rw [G.line]
  exact List.mem_map.mpr ⟨r, G.inW hr hh, rfl⟩
theorem dict_has (A : BookAt CT CB H b ad B) (G : Good B s W Hd) (n : Nat) : (valV (kvs ad.ars) (Sum.inl (n : Int)) : Option V).isSome = s.has n := by
  rw [Bool.eq_iff_iff, G.has_iff]
  constructor
  · intro h
    cases q : (valV (kvs ad.ars) (Sum.inl (n : Int)) : Option V) with
    | none => rw [q] at h; cases h
    | some v =>
      have h1 : ¬ ∀ x ∈ ad.ars, x.2.name ≠ (n : Int) := fun z => by
        rw [(kvs_any (n : Int) ad.ars).mpr z] at q
        cases q
      rcases Classical.em (∃ r ∈ B.recs, r.name = (n : Int)) with q1 | q1
      · exact q1
      · exact absurd (fun x hx e => q1 ⟨x.2, A.mem hx, e⟩) h1
  · rintro ⟨r, hr, e⟩
    obtain ⟨a, ha⟩ := A.of_mem hr
    rw [kvs_val (A.ndn G.nd) ha e]
    rfl
end
/-- a book whose one timer of a name, if there was one, is gone -/
structure Gone (CT CB : Addr) (H : Hp) (b : Addr) (ad : Ad) (s : Sn98.State) (n : Nat) (H1 : Hp) (ad1 : Ad) (B1 : Book) (W1 Hd1 : List Rec) : Prop where
  at_ : BookAt CT CB H1 b ad1 B1
  good : Good B1 (s.without n) W1 Hd1
  no : ∀ r ∈ B1.recs, r.name ≠ (n : Int)
  less : B1.recs.length < 65536
  fr : Frame H b ad H1 ad1
  dom : ∀ c, H1 c = none → H c = none
section
variable {P : Program} {w : World} {K : PySem.W.Frag} {mg : Str → Option Value} {base : Heap} {CT CB : Addr}
/-- from drop's promise -/
theorem gone_of {H H' : Hp} {b : Addr} {ad ad' : Ad} {B : Book} {s : Sn98.State} {W Hd : List Rec} {x : Addr × Rec} {n : Nat} (A : BookAt CT CB H b ad B) (G : Good B s W Hd) (hx : x ∈ ad.ars) (e : x.2.name = (n : Int)) (A' : BookAt CT CB H' b ad' (dropB B x.2))
    (eD : ad'.D = ad.D) (eL : ad'.L = ad.L) (ea : ad'.ars = ad.ars.filter fun y => y.2.name != x.2.name) (fr : ∀ c o, H c = some o → c ≠ ad.D → c ≠ ad.L → H' c = some o) :
    ∃ B1 W1 Hd1, Gone CT CB H b ad s n H' ad' B1 W1 Hd1 := by
  have hr := A.mem hx
  refine ⟨_, _, _, A', G.dropped hr e (by rw [← e]; rfl) rfl rfl rfl, fun r hr' z => ?_, ?_, fun c o h1 h2 => ?_, free_of fun c hc z => ?_⟩
  · have h1 : r ∈ B.recs.filter fun q => q.name != x.2.name := hr'
    have := (List.mem_filter.mp h1).2
    rw [bne_iff_ne] at this
    exact this (z.trans e.symm)
  · have h1 := filter_split (fun q : Rec => q.name != x.2.name) B.recs
    have h2 : 0 < (B.recs.filter fun q => !(q.name != x.2.name)).length := by
      apply List.length_pos_of_mem (a := x.2)
      rw [List.mem_filter]
      exact ⟨hr, by simp⟩
    have h3 := G.size
    show (B.recs.filter fun q => q.name != x.2.name).length < 65536
    omega
  · have c1 : c ≠ ad.D := fun z => h2 (.inr (.inl z))
    have c2 : c ≠ ad.L := fun z => h2 (.inr (.inr (.inl z)))
    refine ⟨fr c o h1 c1 c2, fun z => h2 ?_⟩
    rcases z with z | z | z | z
    · exact .inl z
    · exact .inr (.inl (z.trans eD))
    · exact .inr (.inr (.inl (z.trans eL)))
    · rw [ea] at z
      obtain ⟨y, hy, ey⟩ := List.mem_map.mp z
      exact .inr (.inr (.inr (List.mem_map.mpr ⟨y, (List.mem_filter.mp hy).1, ey⟩)))
  · by_cases c1 : c = ad.D
    · rw [c1, ← eD, A'.dict] at z; cases z
    · by_cases c2 : c = ad.L
      · rw [c2, ← eL, A'.lst] at z; cases z
      · cases q : H c with
        | none => exact hc q
        | some o => rw [fr c o q c1 c2] at z; cases z
theorem scPut : FnScope ["self", "name", "at", "every", "tag", "there", "timer"] ["self", "name", "at", "every", "tag"] (defScope sPut) := ⟨rfl, rfl, rfl, by decide +kernel, rfl, by decide +kernel, by decide +kernel⟩
theorem ok_put {f fD fU fT : Addr} {fd fdD fdU fdT : FuncData} (F : Fun K "put" "TimerBook.put" sPut f fd) (T : Txt K mg CT CB) (GD : FnOk P w K mg base CX0 3 fD fdD ["self", "name"] (spDrop CT CB)) (bD : Binds K fdD ["self", "name"] []) (mD : Meth K CB "drop" fD)
    (GU : FnOk P w K mg base CX0 2 fU fdU ["self", "timer", "due"] (spLineUp CT CB)) (bU : Binds K fdU ["self", "timer", "due"] []) (mU : Meth K CB "line_up" fU)
    (GT : FnOk P w K mg base CX0 1 fT fdT ["self", "name", "every", "tag"] (spTInit CT)) (bT : Binds K fdT ["self", "name", "every", "tag"] []) (MT : Mk K CT fT) :
    FnOk P w K mg base CX0 4 f fd ["self", "name", "at", "every", "tag"] (spPut CT CB) := by
  obtain ⟨u1, g1, r1⟩ := T.hn
  obtain ⟨u2, g2, r2⟩ := T.ht
  obtain ⟨u3, g3, r3⟩ := T.mt
  obtain ⟨u4, g4, r4⟩ := T.e1
  obtain ⟨u5, g5, r5⟩ := T.e5
  refine F.ok scPut (fun vs H Q E h => ?_) (fun cdv A outer sh H vs Q E hr h => ?_)
  · obtain ⟨b, ad, s, n, a, e, g, rfl, _⟩ := h
    rfl
  · obtain ⟨b, ad, s, n, a, e, g, rfl, R, d⟩ := h
    have hu := hu_of hr
    -- behind the refusals
    have tail : ∃ u, PSs (cxOf CX0 P w K mg base ["self", "name", "at", "every", "tag", "there", "timer"] "TimerBook.put" (defScope sPut) f cdv A outer sh H E).nox ((defBody sPut).drop 5) u ∧
        ∀ (there : Bool) (H1 : Hp) (ad1 : Ad) (B1 : Book) (W1 Hd1 : List Rec), Gone CT CB H b ad s n H1 ad1 B1 W1 Hd1 → a ≤ Sn98.LAST → e ≤ Sn98.LAST → Done CT CB b ad H (s.set n a e g, Sn98.says (if there = true then 1 else 0)) Q →
          u { nx := fun _ H' => Q .non H', rt := Q } [some (.ref b), some (.int n), some (.int a), some (.int e), some (.int g), some (.bl there), none] H1 := by
      refine ⟨_, pss_cons (ps_set (i := 6) scPut.nd rfl (Or.inl rfl) (pe_make MT GT (hr.mono (by decide)) rfl T.mT bT .nil pass0 (pa_cons (pv 1) (pa_cons (pv 3) (pa_cons (pv 4) pa_nil)))))
        (pss_cons (ps_dput hu (pe_fld (pv 0) rfl) (pv 1) (pv 6) rfl)
        (pss_cons (ps_expr (pe_meth (pv 0) T.clB mU GU (hr.mono (by decide)) bU .nil pass0 (pa_cons (pv 6) (pa_cons (pv 2) pa_nil))))
        (pss_one (ps_ret (pe_lst (pa_cons (pe_ifExp (pt_val (pv 5)) pe_int pe_int) pa_nil)))))), ?_⟩
      intro there H1 ad1 B1 W1 Hd1 hG la le d
      have hA := hG.at_
      have hno : ∀ y ∈ ad1.ars, y.2.name ≠ (n : Int) := fun y hy => hG.no _ (hA.mem hy)
      refine ⟨_, rfl, _, rfl, _, rfl, ?_⟩
      intro x dx hx hdx ne
      refine ⟨x, dx, n, e, g, rfl, upd_same, fun H2 hx2 fr2 => ⟨rfl, ?_⟩⟩
      have s2 : Same H1 H2 := Same.made hx hdx fr2
      have hA2 := hA.same s2
      have hxb : x ≠ b := fun z => by rw [z, hA.self] at hx; cases hx
      have hxD : x ≠ ad1.D := fun z => by rw [z, hA.dict] at hx; cases hx
      have hxL : x ≠ ad1.L := fun z => by rw [z, hA.lst] at hx; cases hx
      have hz1 : (kvs ad1.ars).length < sizeLine := by
        unfold kvs
        rw [List.length_map, hA.len]
        exact Nat.lt_trans hG.less big16
      refine ⟨_, rfl, _, rfl, b, CB, ad1.db, _, _, rfl, hA2.self, T.clB, T.bBy, bookF_by _ _ _ _, _, rfl, ad1.D, _, rfl, DPut.k (k := Sum.inl (n : Int)) hA2.dict hz1, ?_⟩
      rw [kvs_snoc ad1.ars (r := ⟨n, e, g, 0, 0, false, 0⟩) rfl hno]
      generalize hH3 : upd H2 ad1.D (HO.dK (kvs (ad1.ars ++ [(x, ⟨n, e, g, 0, 0, false, 0⟩)]))) = H3
      have fr3 : ∀ c o, H2 c = some o → c ≠ ad1.D → H3 c = some o := fun c o q z => by rw [← hH3, upd_ne z]; exact q
      have hD3 : H3 ad1.D = some (.dK (kvs (ad1.ars ++ [(x, ⟨n, e, g, 0, 0, false, 0⟩)]))) := by rw [← hH3, upd_same]
      clear hH3
      have hb3 := fr3 _ _ hA2.self hA.Db
      have hL3 := fr3 _ _ hA2.lst hA.LD
      have hT3 : TupsAt H3 ad1.ps B1.line := hA2.tups.keep fun p xs h => fr3 _ _ h (ne_of h hA2.dict (by intro z; cases z))
      have hx3 := fr3 _ _ hx2 hxD
      have hz := line_small hG.good
      refine ⟨_, rfl, b, ad1.db, _, rfl, hb3, bookF_lineup _ _ _ _, _, rfl, _, rfl, b, x, ad1.db, ad1.D, ad1.L, B1.now, B1.turns, ad1.ps, B1.line, dx, _, (a : Int), rfl, hb3, hL3, hT3, hG.good.srt, (Nat.lt_of_le_of_lt hz big16), hx3, fun H4 ps' hb4 hL4 hT4 hx4 fr4 => ?_⟩
      have hD4 := fr4 _ _ hD3 (Ne.symm hA.Db) (Ne.symm hA.LD) (Ne.symm hxD)
      have R4 : BookRel CT CB H4 b { ad1 with ars := ad1.ars ++ [(x, ⟨n, e, g, a, B1.turns + 1, false, 0⟩)], ps := ps' } (s.set n a e g) := by
        refine ⟨⟨B1.now, B1.turns + 1, B1.recs ++ [⟨n, e, g, a, B1.turns + 1, false, 0⟩], ins B1.line ((a : Int), B1.turns + 1, (n : Int))⟩, _, _, ⟨hb4, ?_, hL4, ?_, fun y hy => ?_, ?_, hT4⟩,
          hG.good.setNew (r := ⟨n, e, g, a, B1.turns + 1, false, 0⟩) ((hG.good.has_not n).mpr hG.no) rfl rfl rfl rfl rfl rfl la le (List.perm_append_singleton _ _) rfl rfl rfl (by show (B1.recs ++ [_]).length ≤ 65536; rw [List.length_append]; have := hG.less; simp; omega)⟩
        · show H4 ad1.D = some (.dK (kvs (ad1.ars ++ [(x, ⟨n, e, g, a, B1.turns + 1, false, 0⟩)])))
          rw [hD4]
          unfold kvs
          rw [List.map_append, List.map_append]
          rfl
        · show (ad1.ars ++ [_]).map (fun y : Addr × Rec => y.2) = B1.recs ++ [_]
          rw [List.map_append, hA.recs]
          rfl
        · rcases List.mem_append.mp hy with hy | hy
          · obtain ⟨dy, hdy⟩ := hA2.at_ y hy
            have hyx : y.1 ≠ x := fun z => by
              obtain ⟨dy', hdy'⟩ := hA.at_ y hy
              rw [z, hx] at hdy'
              cases hdy'
            exact ⟨dy, fr4 _ _ (fr3 _ _ hdy (hA.xD hy)) (hA.xb hy) (hA.xL hy) hyx⟩
          · rw [List.mem_singleton.mp hy]
            exact ⟨dx, hx4⟩
        · show ((ad1.ars ++ [_]).map (fun y : Addr × Rec => y.1)).Nodup
          rw [List.map_append]
          refine nd_snoc hA.nd fun z => ?_
          obtain ⟨y, hy, ey⟩ := List.mem_map.mp z
          obtain ⟨dy', hdy'⟩ := hA.at_ y hy
          have ey : y.1 = x := ey
          rw [ey, hx] at hdy'
          cases hdy'
      have F4 : Frame H b ad H4 { ad1 with ars := ad1.ars ++ [(x, ⟨n, e, g, a, B1.turns + 1, false, 0⟩)], ps := ps' } := hG.fr.trans fun c o h1 h2 => by
        have c1 : c ≠ b := fun z => h2 (.inl z)
        have c2 : c ≠ ad1.D := fun z => h2 (.inr (.inl z))
        have c3 : c ≠ ad1.L := fun z => h2 (.inr (.inr (.inl z)))
        have c4 : c ≠ x := ne_of_none h1 hx
        refine ⟨fr4 _ _ (fr3 _ _ (s2 _ _ h1) c2) c1 c3 c4, ?_⟩
        rintro (z | z | z | z)
        · exact c1 z
        · exact c2 z
        · exact c3 z
        · have z : c ∈ (ad1.ars ++ [_]).map (fun y : Addr × Rec => y.1) := z
          rw [List.map_append] at z
          rcases List.mem_append.mp z with z | z
          · exact h2 (.inr (.inr (.inr z)))
          · exact c4 (List.mem_singleton.mp z)
      have dom4 : ∀ c, H4 c = none → H c = none := fun c z => hG.dom c (by
        cases q : H1 c with
        | none => rfl
        | some o =>
          by_cases c1 : c = b
          · rw [c1, hb4] at z; cases z
          · by_cases c2 : c = ad1.D
            · rw [c2, hD4] at z; cases z
            · by_cases c3 : c = ad1.L
              · rw [c3, hL4] at z; cases z
              · rw [fr4 _ _ (fr3 _ _ (s2 _ _ q) c2) c1 c3 (ne_of_none q hx)] at z
                cases z)
      refine ⟨_, rfl, _, rfl, ?_⟩
      cases there with
      | true =>
        refine iteT ⟨(by show 1 ≤ sizeLine; decide), fun q hq => ?_⟩
        exact d.end_ R4 F4 dom4 hq rfl
      | false =>
        refine iteF ⟨(by show 1 ≤ sizeLine; decide), fun q hq => ?_⟩
        exact d.end_ R4 F4 dom4 hq rfl
    obtain ⟨u, hu1, hu2⟩ := tail
    refine ⟨_, pss_cons (ps_if (PW.pt (pw_or (pt_cmpR op_gt (pv 1) (pe_glob rfl g1 r1) (nomark _)) (pw_or1 (pt_cmpR op_gt (pv 4) (pe_glob rfl g1 r1) (nomark _))))) (pss_one (ps_ret (pe_lst (pa_cons (pe_glob rfl g4 r4) pa_nil)))) pss_nil)
      (pss_cons (ps_if (PW.pt (pw_or (pt_cmpR op_gt (pv 2) (pe_glob rfl g2 r2) (nomark _)) (pw_or1 (pt_cmpR op_gt (pv 3) (pe_glob rfl g2 r2) (nomark _))))) (pss_one (ps_ret (pe_lst (pa_cons (pe_glob rfl g4 r4) pa_nil)))) pss_nil)
      (pss_cons (ps_set (i := 5) scPut.nd rfl (Or.inl rfl) (pe_cmp (pc_din hu (pv 1) (pe_fld (pv 0) rfl))))
      (pss_cons (ps_if (PW.pt (pw_and (pt_not (pt_val (pv 5))) (pw_and1 (pt_cmpR op_ge (pe_callB call_lenD (by rfl) T.len PySem.boot_len (pa_cons (pe_fld (pv 0) rfl) pa_nil)) (pe_glob rfl g3 r3) (nomark _))))) (pss_one (ps_ret (pe_lst (pa_cons (pe_glob rfl g5 r5) pa_nil)))) pss_nil)
      (pss_cons (ps_if (pt_val (pv 5)) (pss_one (ps_expr (pe_meth (pv 0) T.clB mD GD hr bD .nil pass0 (pa_cons (pv 1) pa_nil)))) pss_nil) hu1)))), ?_⟩
    have hst : s.setCall n a e g = if Sn98.WORD ≤ n ∨ Sn98.WORD ≤ g ∨ Sn98.LAST < a ∨ Sn98.LAST < e then (s, Sn98.says (-1))
      else if s.has n = false ∧ Sn98.MOST ≤ s.size then (s, Sn98.says (-5)) else (s.set n a e g, Sn98.says (if s.has n = true then 1 else 0)) := rfl
    have refuse : (Sn98.WORD ≤ n ∨ Sn98.WORD ≤ g ∨ Sn98.LAST < a ∨ Sn98.LAST < e) → ∀ p, H p = none → Q (.ref p) (upd H p (.lst [.int (-1)])) := fun z p hp => by
      rw [hst, if_pos z] at d
      exact d.end_ R (Frame.same (Same.refl H)) (fun c e => e) hp rfl
    refine ⟨_, rfl, _, _, rfl, rfl, _, rfl, ?_⟩
    refine ite2 (fun q => ?_) (fun q1 => ?_)
    · refine iteT ⟨(by show 1 ≤ sizeLine; decide), refuse (.inl ((word_le n).mpr (of_decide_eq_true q)))⟩
    refine ⟨_, rfl, _, _, rfl, rfl, _, rfl, ?_⟩
    refine ite2 (fun q => ?_) (fun q2 => ?_)
    · exact ⟨(by show 1 ≤ sizeLine; decide), refuse (.inr (.inl ((word_le g).mpr (of_decide_eq_true q))))⟩
    refine ⟨_, rfl, _, _, rfl, rfl, _, rfl, ?_⟩
    refine ite2 (fun q => ?_) (fun q3 => ?_)
    · refine iteT ⟨(by show 1 ≤ sizeLine; decide), refuse (.inr (.inr (.inl ((last_lt a).mpr (of_decide_eq_true q)))))⟩
    refine ⟨_, rfl, _, _, rfl, rfl, _, rfl, ?_⟩
    refine ite2 (fun q => ?_) (fun q4 => ?_)
    · exact ⟨(by show 1 ≤ sizeLine; decide), refuse (.inr (.inr (.inr ((last_lt e).mpr (of_decide_eq_true q)))))⟩
    have no1 : ¬ (Sn98.WORD ≤ n ∨ Sn98.WORD ≤ g ∨ Sn98.LAST < a ∨ Sn98.LAST < e) := by
      rintro (z | z | z | z)
      · exact q1 (decide_eq_true ((word_le n).mp z))
      · exact q2 (decide_eq_true ((word_le g).mp z))
      · exact q3 (decide_eq_true ((last_lt a).mp z))
      · exact q4 (decide_eq_true ((last_lt e).mp z))
    rw [hst, if_neg no1] at d
    have la : a ≤ Sn98.LAST := Nat.le_of_not_lt fun z => no1 (.inr (.inr (.inl z)))
    have le : e ≤ Sn98.LAST := Nat.le_of_not_lt fun z => no1 (.inr (.inr (.inr z)))
    have R' := R
    obtain ⟨B, W, Hd, hA, G⟩ := R
    refine ⟨_, rfl, _, rfl, b, CB, ad.db, _, _, rfl, hA.self, T.clB, T.bBy, bookF_by _ _ _ _, ad.D, _, rfl, DGet.k (k := Sum.inl (n : Int)) hA.dict, ?_⟩
    rw [dict_has hA G n]
    have hlen : ((kvs ad.ars).length : Int) = (s.size : Int) := by
      unfold kvs
      rw [List.length_map, hA.len, G.sizeEq]
    refine ⟨_, rfl, _, rfl, ?_⟩
    cases hh : s.has n with
    | false =>
      refine iteT ?_
      refine ⟨_, rfl, b, CB, ad.db, _, _, rfl, hA.self, T.clB, T.bBy, bookF_by _ _ _ _, ad.D, _, rfl, hA.dict, _, _, rfl, rfl, _, rfl, ?_⟩
      rw [hlen]
      refine ite2 (fun q => ?_) (fun q => ?_)
      · refine ⟨(by show 1 ≤ sizeLine; decide), fun p hp => ?_⟩
        rw [if_pos ⟨hh, (most_le _).mpr (of_decide_eq_true q)⟩] at d
        exact d.end_ R' (Frame.same (Same.refl H)) (fun c e => e) hp rfl
      · have no2 : ¬ Sn98.MOST ≤ s.size := fun z => q (decide_eq_true ((most_le _).mp z))
        rw [if_neg (fun z => no2 z.2), hh] at d
        refine ⟨_, rfl, _, rfl, iteF ?_⟩
        refine hu2 false H ad B W Hd ⟨hA, ?_, (G.has_not n).mp hh, ?_, Frame.same (Same.refl H), fun c e => e⟩ la le d
        · rw [G.without_self hh]
          exact G
        · have := G.sizeEq
          have e2 : Sn98.MOST = 65536 := by decide
          omega
    | true =>
      refine iteF ?_
      refine ⟨_, rfl, _, rfl, iteT ?_⟩
      rw [if_neg (fun z => by rw [hh] at z; exact absurd z.1 (by decide)), hh] at d
      obtain ⟨r, hr1, er⟩ := (G.has_iff n).mp hh
      obtain ⟨xa, hxa⟩ := hA.of_mem hr1
      refine ⟨_, rfl, b, ad.db, _, rfl, hA.self, bookF_drop _ _ _ _, _, rfl, b, ad, B, (xa, r), (by show [V.ref b, V.int (n : Int)] = [V.ref b, V.int r.name]; rw [er]), hA, G.srt, G.nd, hxa, fun z => key_in G hr1 z, (Nat.lt_of_le_of_lt (line_small G) big16), fun H' ad' A' eD eL edb ea fr => ?_⟩
      obtain ⟨B1, W1, Hd1, hG⟩ := gone_of hA G hxa er A' eD eL ea fr
      exact hu2 true H' ad' B1 W1 Hd1 hG la le d
end
end TD
set_option Elab.async false
set_option linter.all false
set_option maxRecDepth 100000
set_option maxHeartbeats 2000000
namespace L2
open PySem PySem.Spec PyProof.Rows
/-- a comprehension over a dict's keys, which the block leaves as it is -/
theorem lc_keys {d : Addr} {o : Obj} {kvs : List (Key × V)} {g : TG} {tt : TT} {te : TE} {vs : List Nat} {σ : St} {H1 : Hp} {D : Addr} {Qd : Hp → Prop} (Pv : Nat → Hp → Prop) (h0 : Pv 0 (upd H1 D (.lst []))) (hl : ∀ i H, i ≤ kvs.length → Pv i H → H d = some (.frz o (.dK kvs)))
    (hs : ∀ i k v H, kvs[i]? = some (k, v) → Pv i H → g (kV k) (wipe σ vs) H fun σ2 H2 => wipe σ2 vs = wipe σ vs ∧ tt σ2 H2 fun b H3 =>
      if b = true then te σ2 H3 fun y H4 => ∃ acc, H4 D = some (.lst acc) ∧ acc.length < sizeLine ∧ Pv (i + 1) (upd H4 D (.lst (acc ++ [y]))) else Pv (i + 1) H3) (hd : ∀ H, Pv kvs.length H → Qd H) :
    ∃ W : Nat → Nat → Hp → Prop, (∃ m, W 0 m (upd H1 D (.lst []))) ∧ ∀ i m H, W i m H →
      ((Itk d o kvs).stop i H ∧ Qd H) ∨ ((Itk d o kvs).go i H ∧ ∃ Nx : Hp → Prop, (∀ H', Nx H' → ∃ m', m' < m ∧ W (i + 1) m' H') ∧ ∀ x H', (Itk d o kvs).yld i H x H' → g x (wipe σ vs) H' fun σ2 H2 => wipe σ2 vs = wipe σ vs ∧ tt σ2 H2 fun b H3 =>
        if b = true then te σ2 H3 fun y H4 => ∃ acc, H4 D = some (.lst acc) ∧ acc.length < sizeLine ∧ Nx (upd H4 D (.lst (acc ++ [y]))) else Nx H3) := by
  refine ⟨fun i m H => m = kvs.length - i ∧ i ≤ kvs.length ∧ Pv i H, ⟨kvs.length, by simp, Nat.zero_le _, h0⟩, ?_⟩
  rintro i m H ⟨rfl, hi, p⟩
  have q := hl i H hi p
  by_cases hlt : i < kvs.length
  · refine .inr ⟨⟨q, hlt⟩, Pv (i + 1), fun H' p' => ⟨kvs.length - (i + 1), by omega, rfl, hlt, p'⟩, fun x H' y => ?_⟩
    obtain ⟨e, k, v, e1, e2⟩ := y
    subst e e2
    exact hs i k v _ e1 p
  · have e : i = kvs.length := by omega
    subst e
    exact .inl ⟨⟨q, Nat.le_refl _⟩, hd H p⟩
end L2
namespace TD
open PySem PySem.Spec PyProof.Rows L2 TM
section
variable {P : Program} {w : World} {K : PySem.W.Frag} {mg : Str → Option Value} {base : Heap} {CT CB : Addr}
theorem scAfter : FnScope ["self", "name", "wait", "every", "tag"] ["self", "name", "wait", "every", "tag"] (defScope sPutAfter) := ⟨rfl, rfl, rfl, by decide +kernel, rfl, by decide +kernel, by decide +kernel⟩
theorem ok_after {f fP : Addr} {fd fdP : FuncData} (F : Fun K "put_after" "TimerBook.put_after" sPutAfter f fd) (T : Txt K mg CT CB) (GP : FnOk P w K mg base CX0 4 fP fdP ["self", "name", "at", "every", "tag"] (spPut CT CB)) (bP : Binds K fdP ["self", "name", "at", "every", "tag"] []) (mP : Meth K CB "put" fP) :
    FnOk P w K mg base CX0 5 f fd ["self", "name", "wait", "every", "tag"] (spAfter CT CB) := by
  refine F.ok scAfter (fun vs H Q E h => ?_) (fun cdv A outer sh H vs Q E hr h => ?_)
  · obtain ⟨b, ad, s, n, a, e, g, rfl, _⟩ := h
    rfl
  · obtain ⟨b, ad, s, n, a, e, g, rfl, R, d⟩ := h
    refine ⟨_, pss_one (ps_ret (pe_meth (pv 0) T.clB mP GP hr bP .nil pass0 (pa_cons (pv 1) (pa_cons (pe_op op_add (pe_fld (pv 0) rfl) (pv 2)) (pa_cons (pv 3) (pa_cons (pv 4) pa_nil)))))), ?_⟩
    have R' := R
    obtain ⟨B, W, Hd, hA, G⟩ := R
    refine ⟨_, rfl, b, ad.db, _, rfl, hA.self, bookF_put _ _ _ _, _, rfl, _, rfl, b, CB, ad.db, _, _, rfl, hA.self, T.clB, T.bNow, bookF_now _ _ _ _, _, rfl, _, _, rfl, rfl, _, rfl, _, rfl, b, ad, s, n, s.now + a, e, g, ?_, R', d⟩
    show [V.ref b, V.int n, V.int (B.now + a), V.int e, V.int g] = [V.ref b, V.int n, V.int ((s.now + a : Nat) : Int), V.int e, V.int g]
    rw [G.now, Int.natCast_add]
theorem scAway : FnScope ["self", "name"] ["self", "name"] (defScope sAway) := ⟨rfl, rfl, rfl, by decide +kernel, rfl, by decide +kernel, by decide +kernel⟩
theorem ok_away {f fD : Addr} {fd fdD : FuncData} (F : Fun K "away" "TimerBook.away" sAway f fd) (T : Txt K mg CT CB) (GD : FnOk P w K mg base CX0 3 fD fdD ["self", "name"] (spDrop CT CB)) (bD : Binds K fdD ["self", "name"] []) (mD : Meth K CB "drop" fD) :
    FnOk P w K mg base CX0 4 f fd ["self", "name"] (spAway CT CB) := by
  obtain ⟨u2, g2, r2⟩ := T.e2
  refine F.ok scAway (fun vs H Q E h => ?_) (fun cdv A outer sh H vs Q E hr h => ?_)
  · obtain ⟨b, ad, s, n, rfl, _⟩ := h
    rfl
  · obtain ⟨b, ad, s, n, rfl, R, d⟩ := h
    refine ⟨_, pss_cons (ps_if (pt_cmp (pc_dnotin (hu_of hr) (pv 1) (pe_fld (pv 0) rfl))) (pss_one (ps_ret (pe_lst (pa_cons (pe_glob rfl g2 r2) pa_nil)))) pss_nil)
      (pss_cons (ps_expr (pe_meth (pv 0) T.clB mD GD hr bD .nil pass0 (pa_cons (pv 1) pa_nil))) (pss_one (ps_ret (pe_lst (pa_cons pe_int pa_nil))))), ?_⟩
    have R' := R
    obtain ⟨B, W, Hd, hA, G⟩ := R
    have hst : Sn98.step s (.away n) = if s.has n = true then (s.without n, Sn98.says 0) else (s, Sn98.says (-2)) := rfl
    refine ⟨_, rfl, _, rfl, b, CB, ad.db, _, _, rfl, hA.self, T.clB, T.bBy, bookF_by _ _ _ _, ad.D, _, rfl, DGet.k (k := Sum.inl (n : Int)) hA.dict, _, rfl, ?_⟩
    rw [dict_has hA G n]
    cases hh : s.has n with
    | false =>
      rw [hst, if_neg (by rw [hh]; exact Bool.false_ne_true)] at d
      refine iteT ⟨(by show 1 ≤ sizeLine; decide), fun p hp => ?_⟩
      exact d.end_ R' (Frame.same (Same.refl H)) (fun c e => e) hp rfl
    | true =>
      rw [hst, if_pos hh] at d
      refine iteF ?_
      obtain ⟨r, hr1, er⟩ := (G.has_iff n).mp hh
      obtain ⟨xa, hxa⟩ := hA.of_mem hr1
      refine ⟨_, rfl, b, ad.db, _, rfl, hA.self, bookF_drop _ _ _ _, _, rfl, b, ad, B, (xa, r), (by show [V.ref b, V.int (n : Int)] = [V.ref b, V.int r.name]; rw [er]), hA, G.srt, G.nd, hxa, fun z => key_in G hr1 z, (Nat.lt_of_le_of_lt (line_small G) big16), fun H' ad' A' eD eL edb ea fr => ?_⟩
      obtain ⟨B1, W1, Hd1, hG⟩ := gone_of hA G hxa er A' eD eL ea fr
      refine ⟨(by show 1 ≤ sizeLine; decide), fun p hp => ?_⟩
      exact d.end_ ⟨B1, W1, Hd1, hG.at_, hG.good⟩ hG.fr hG.dom hp rfl
theorem scLook : FnScope ["self", "name", "timer"] ["self", "name"] (defScope sLook) := ⟨rfl, rfl, rfl, by decide +kernel, rfl, by decide +kernel, by decide +kernel⟩
theorem ok_look {f fH : Addr} {fd fdH : FuncData} (F : Fun K "look" "TimerBook.look" sLook f fd) (T : Txt K mg CT CB) (GH : FnOk P w K mg base CX0 1 fH fdH ["self", "timer"] (spHow CT CB)) (bH : Binds K fdH ["self", "timer"] []) (mH : Meth K CB "how_many_before" fH) :
    FnOk P w K mg base CX0 2 f fd ["self", "name"] (spLook CT CB) := by
  obtain ⟨u2, g2, r2⟩ := T.e2
  refine F.ok scLook (fun vs H Q E h => ?_) (fun cdv A outer sh H vs Q E hr h => ?_)
  · obtain ⟨b, ad, s, n, rfl, _⟩ := h
    rfl
  · obtain ⟨b, ad, s, n, rfl, R, d⟩ := h
    have hu := hu_of hr
    refine ⟨_, pss_cons (ps_if (pt_cmp (pc_dnotin hu (pv 1) (pe_fld (pv 0) rfl))) (pss_one (ps_ret (pe_lst (pa_cons (pe_glob rfl g2 r2) pa_nil)))) pss_nil)
      (pss_cons (ps_set (i := 2) scLook.nd rfl (Or.inl rfl) (pe_dget hu (pe_fld (pv 0) rfl) (pv 1) (fun _ _ => rfl)))
      (pss_cons (ps_if (pt_val (pe_fld (pv 2) rfl)) (pss_one (ps_ret (pe_lst (pa_cons pe_int (pa_cons (pe_fld (pv 2) rfl) (pa_cons (pe_fld (pv 2) rfl) (pa_cons (pe_fld (pv 2) rfl) pa_nil))))))) pss_nil)
      (pss_one (ps_ret (pe_lst (pa_cons pe_int (pa_cons (pe_meth (pv 0) T.clB mH GH hr bH .nil pass0 (pa_cons (pv 2) pa_nil)) (pa_cons (pe_fld (pv 2) rfl) (pa_cons (pe_fld (pv 2) rfl) (pa_cons (pe_fld (pv 2) rfl) pa_nil)))))))))), ?_⟩
    have R' := R
    obtain ⟨B, W, Hd, hA, G⟩ := R
    refine ⟨_, rfl, _, rfl, b, CB, ad.db, _, _, rfl, hA.self, T.clB, T.bBy, bookF_by _ _ _ _, ad.D, _, rfl, DGet.k (k := Sum.inl (n : Int)) hA.dict, _, rfl, ?_⟩
    rw [dict_has hA G n]
    cases hh : s.has n with
    | false =>
      rw [G.look_none ((G.has_not n).mp hh)] at d
      refine iteT ⟨(by show 1 ≤ sizeLine; decide), fun p hp => ?_⟩
      exact d.end_ R' (Frame.same (Same.refl H)) (fun c e => e) hp rfl
    | true =>
      refine iteF ?_
      obtain ⟨r, hr1, er⟩ := (G.has_iff n).mp hh
      obtain ⟨xa, hxa⟩ := hA.of_mem hr1
      obtain ⟨dx, hdx⟩ := hA.at_ _ hxa
      have hdx : H xa = some (.ins CT dx (recF r)) := hdx
      have hg : DGet H ad.D (V.int (n : Int)) (some (.ref xa)) := by
        have := DGet.k (k := Sum.inl (n : Int)) hA.dict
        rw [kvs_val (hA.ndn G.nd) hxa er] at this
        exact this
      refine ⟨_, rfl, b, CB, ad.db, _, _, rfl, hA.self, T.clB, T.bBy, bookF_by _ _ _ _, _, rfl, ad.D, .ref xa, rfl, hg, ?_⟩
      refine ⟨_, rfl, xa, CT, dx, _, _, rfl, hdx, T.clT, T.tHeld, recF_held _, _, rfl, ?_⟩
      cases hd : r.held with
      | true =>
        obtain ⟨e1, e2⟩ := G.look_held hr1 er hd
        refine iteT ?_
        refine ⟨_, rfl, xa, CT, dx, _, _, rfl, hdx, T.clT, T.tLeft, recF_left _, ?_⟩
        refine ⟨_, rfl, xa, CT, dx, _, _, rfl, hdx, T.clT, T.tEvery, recF_every _, ?_⟩
        refine ⟨_, rfl, xa, CT, dx, _, _, rfl, hdx, T.clT, T.tTag, recF_tag _, ?_⟩
        refine ⟨(by show 4 ≤ sizeLine; decide), fun p hp => ?_⟩
        refine d.end_ (by rw [e1]; exact R') (Frame.same (Same.refl H)) (fun c e => e) hp ?_
        rw [e2]
        rfl
      | false =>
        obtain ⟨e1, e2⟩ := G.look_wait hr1 er hd
        refine iteF ?_
        refine ⟨_, rfl, b, ad.db, _, rfl, hA.self, bookF_how _ _ _ _, _, rfl, b, xa, ad.db, ad.D, ad.L, B.now, B.turns, ad.ps, B.line, dx, r, rfl, hA.self, hA.lst, hA.tups, G.srt, hdx, fun H2 s2 => ?_⟩
        refine ⟨_, rfl, xa, CT, dx, _, _, rfl, s2 _ _ hdx, T.clT, T.tDue, recF_due _, ?_⟩
        refine ⟨_, rfl, xa, CT, dx, _, _, rfl, s2 _ _ hdx, T.clT, T.tEvery, recF_every _, ?_⟩
        refine ⟨_, rfl, xa, CT, dx, _, _, rfl, s2 _ _ hdx, T.clT, T.tTag, recF_tag _, ?_⟩
        refine ⟨(by show 5 ≤ sizeLine; decide), fun p hp => ?_⟩
        refine d.end_ (by rw [e1]; exact R'.same s2) (Frame.same s2) (fun c e => Same.free s2 e) hp ?_
        rw [e2]
        rfl
end
end TD
set_option Elab.async false
set_option linter.all false
set_option maxRecDepth 100000
set_option maxHeartbeats 2000000
namespace TD
open PySem PySem.Spec PyProof.Rows L2 TM
theorem filterT {α : Type} (l : List α) : (l.filter fun _ => true) = l := List.filter_eq_self.mpr fun _ _ => rfl
theorem Good.nat {B : Book} {s : Sn98.State} {W Hd : List Rec} (g : Good B s W Hd) {r : Rec} (hr : r ∈ B.recs) : ∃ m : Nat, r.name = (m : Int) := by
  rcases g.mem.mp hr with q | q
  · have m : rpr r ∈ s.timers.map tpr := by
      rw [g.tim]
      exact List.mem_map.mpr ⟨r, q, rfl⟩
    obtain ⟨t, _, e⟩ := List.mem_map.mp m
    exact ⟨t.name, (congrArg (fun k : K4 => k.2.1) e).symm⟩
  · have m : lpr r ∈ s.held.map hpr := by
      rw [g.hel]
      exact List.mem_map.mpr ⟨r, q, rfl⟩
    obtain ⟨t, _, e⟩ := List.mem_map.mp m
    exact ⟨t.name, (congrArg (fun k : K4 => k.2.1) e).symm⟩
/-- the names of those with a tag -/
def tagged (g : Int) (ars : List (Addr × Rec)) : List Int := (ars.filter fun x => x.2.tag == g).map (·.2.name)
theorem tagged_take (g : Int) {ars : List (Addr × Rec)} {i : Nat} {x : Addr × Rec} (h : ars[i]? = some x) : tagged g (ars.take (i + 1)) = tagged g (ars.take i) ++ if (x.2.tag == g) = true then [x.2.name] else [] := by
  have e : ars.take (i + 1) = ars.take i ++ [x] := by
    rw [List.take_succ, h]
    rfl
  unfold tagged
  rw [e, List.filter_append, List.map_append, List.filter_cons]
  cases x.2.tag == g with
  | true => rfl
  | false => rfl
theorem tagged_len (g : Int) (ars : List (Addr × Rec)) : (tagged g ars).length = ((ars.map (·.2)).filter fun r => r.tag == g).length := by
  unfold tagged
  rw [List.length_map, ← recs_filter (fun r => r.tag == g) ars, List.length_map]
theorem tagged_nd {g : Int} {ars : List (Addr × Rec)} (h : (ars.map (·.2.name)).Nodup) : (tagged g ars).Nodup := nodup_filter_map _ h
theorem mem_tagged {g : Int} {ars : List (Addr × Rec)} {n : Int} : n ∈ tagged g ars ↔ ∃ x ∈ ars, x.2.tag = g ∧ x.2.name = n := by
  unfold tagged
  rw [List.mem_map]
  constructor
  · rintro ⟨x, hx, e⟩
    obtain ⟨h1, h2⟩ := List.mem_filter.mp hx
    exact ⟨x, h1, eq_of_beq h2, e⟩
  · rintro ⟨x, h1, h2, e⟩
    exact ⟨x, List.mem_filter.mpr ⟨h1, beq_iff_eq.mpr h2⟩, e⟩
def outOf (ns : List Int) (n : Int) : Bool := !ns.contains n
theorem outOf_iff {ns : List Int} {n : Int} : outOf ns n = true ↔ n ∉ ns := by
  unfold outOf
  rw [Bool.not_eq_true', ← Bool.not_eq_true, List.contains_iff_mem]
theorem outOf_snoc (ns : List Int) (m n : Int) : outOf (ns ++ [m]) n = ((n != m) && outOf ns n) := by
  rw [Bool.eq_iff_iff, Bool.and_eq_true, outOf_iff, outOf_iff, bne_iff_ne, List.mem_append, List.mem_singleton]
  constructor
  · intro h
    exact ⟨fun z => h (.inr z), fun z => h (.inl z)⟩
  · rintro ⟨h1, h2⟩ (z | z)
    · exact h2 z
    · exact h1 z
section
variable {P : Program} {w : World} {K : PySem.W.Frag} {mg : Str → Option Value} {base : Heap} {CT CB : Addr}
theorem scAll : FnScope ["self", "tag", "names", "name"] ["self", "tag"] (defScope sAwayAll) := ⟨rfl, rfl, rfl, by decide +kernel, rfl, by decide +kernel, by decide +kernel⟩
def compScope (s : Stmt) : Scope := match s with
  | .Assign _ (.ListComp _ _ sc _) _ => sc
  | _ => { kind := .function, names := [], isGenerator := false, isCoroutine := false }
def compIf (s : Stmt) : Expr := match s with
  | .Assign _ (.ListComp _ [⟨_, _, [t], _⟩] _ _) _ => t
  | _ => .Constant .none 0 ⟨0, 0, 0, 0⟩
def compObj (s : Stmt) : Expr := match compIf s with
  | .Compare (.Attribute e _ _) _ _ _ => e
  | e => e
abbrev allStmt : Stmt := (defBody sAwayAll).getD 0 (.Pass ⟨0, 0, 0, 0⟩)
abbrev allScope : Scope := compScope allStmt
theorem blkAll : blkC ["self", "tag", "names", "name"] (defScope sAwayAll) (compScope ((defBody sAwayAll).getD 0 (.Pass ⟨0, 0, 0, 0⟩))) [("name", 3)] = true := by decide +kernel
theorem ok_all {f fD : Addr} {fd fdD : FuncData} (F : Fun K "away_all" "TimerBook.away_all" sAwayAll f fd) (T : Txt K mg CT CB) (GD : FnOk P w K mg base CX0 3 fD fdD ["self", "name"] (spDrop CT CB)) (bD : Binds K fdD ["self", "name"] []) (mD : Meth K CB "drop" fD) :
    FnOk P w K mg base CX0 4 f fd ["self", "tag"] (spAwayAll CT CB) := by
  refine F.ok scAll (fun vs H Q E h => ?_) (fun cdv A outer sh H vs Q E hr h => ?_)
  · obtain ⟨b, ad, s, n, rfl, _⟩ := h
    rfl
  · obtain ⟨b, ad, s, g, rfl, R, d⟩ := h
    have hu := hu_of hr
    have hPT : ∀ (s1 : Shared) (H1 : Hp) (C : Addr) (cl : List (Str × Addr)) (fp : List Addr), PT (Cx.blk (cxOf CX0 P w K mg base ["self", "tag", "names", "name"] "TimerBook.away_all" (defScope sAwayAll) f cdv A outer sh H E).nox s1 H1 allScope
        (compEnvC allScope cl C (cxOf CX0 P w K mg base ["self", "tag", "names", "name"] "TimerBook.away_all" (defScope sAwayAll) f cdv A outer sh H E).nox.env) fp) (compIf allStmt) (tTest (tOp rEq (tFld K (tDGet (tFld K (tVar 0) "by_name") (tVar 3)) "tag") (tVar 1))) := fun s1 H1 C cl fp => by
      exact pt_cmpR op_eq (pe_fld (f := "tag") (e := compObj allStmt) (pe_dget (by exact hu) (pe_fld (pv 0) rfl) (pv 3) (by intro _ _; rfl)) rfl) (pv 1) (nomark _)
    refine ⟨_, pss_cons (ps_lock (ps_setLc (i := 2) rfl scAll.nd rfl rfl (sw_true rfl rfl rfl rfl) (pi_keys (pe_fld (pv 0) rfl)) (own := [("name", 3)]) (blkOk_by blkAll)
        (fun s H C cl fp => pg_name (i := 3) scAll.nd rfl (Or.inl rfl)) (fun s H C cl fp => pts_one (hPT s H C cl fp)) (fun s H C cl fp => pv 3)))
      (pss_cons (ps_for PassesOwn.never rfl (pi_list (pv 2)) (pg_name (i := 3) scAll.nd rfl (Or.inl rfl)) (pss_one (ps_expr (pe_meth (pv 0) T.clB mD GD hr bD .nil pass0 (pa_cons (pv 3) pa_nil)))))
      (pss_one (ps_ret (pe_lst (pa_cons (pe_callB call_len_seq (by rfl) T.len PySem.boot_len (pa_cons (pv 2) pa_nil)) pa_nil))))), ?_⟩
    obtain ⟨B, W, Hd, hA, G⟩ := R
    refine ⟨ad.D, .dK (kvs ad.ars), hA.dict, trivial, fun od => ?_⟩
    have fr1 : ∀ c o, H c = some o → c ≠ ad.D → upd H ad.D (.frz od (.dK (kvs ad.ars))) c = some o := fun c o e z => by rw [upd_ne z]; exact e
    refine ⟨_, rfl, b, CB, ad.db, _, _, rfl, fr1 _ _ hA.self hA.Db, T.clB, T.bBy, bookF_by _ _ _ _, ad.D, od, rfl, .inl ⟨kvs ad.ars, upd_same, ?_⟩⟩
    intro D hD
    have hDD : D ≠ ad.D := fun z => by rw [z, upd_same] at hD; cases hD
    have hD0 : H D = none := by rw [upd_ne hDD] at hD; exact hD
    have hnd := hA.ndn G.nd
    refine lc_keys (Pv := fun i H' => H' D = some (.lst ((tagged g (ad.ars.take i)).map V.int)) ∧ Same (upd H ad.D (.frz od (.dK (kvs ad.ars)))) H') ⟨upd_same, same_new hD _⟩ (fun i H' _ p => p.2 _ _ upd_same) ?_ ?_
    · rintro i k v H' hi ⟨h1, s1⟩
      obtain ⟨x, hx, ek, ev⟩ : ∃ x, ad.ars[i]? = some x ∧ k = Sum.inl x.2.name ∧ v = V.ref x.1 := by
        unfold kvs at hi
        rw [List.getElem?_map] at hi
        obtain ⟨x, hx, e⟩ := Option.map_eq_some_iff.mp hi
        injection e with e1 e2
        exact ⟨x, hx, e1.symm, e2.symm⟩
      subst ek ev
      have hm : x ∈ ad.ars := List.mem_of_getElem? hx
      obtain ⟨dx, hdx⟩ := hA.at_ x hm
      have hdx1 := s1 _ _ (fr1 _ _ hdx (hA.xD hm))
      have hb1 := s1 _ _ (fr1 _ _ hA.self hA.Db)
      have hg : DGet H' ad.D (V.int x.2.name) (some (.ref x.1)) := by
        refine .inl ⟨kvs ad.ars, Sum.inl x.2.name, .inr ⟨od, s1 _ _ upd_same⟩, rfl, ?_⟩
        rw [kvs_val hnd hm rfl]
      refine ⟨rfl, ?_⟩
      refine ⟨_, rfl, b, CB, ad.db, _, _, rfl, hb1, T.clB, T.bBy, bookF_by _ _ _ _, _, rfl, ad.D, .ref x.1, rfl, hg, x.1, CT, dx, _, _, rfl, hdx1, T.clT, T.tTag, recF_tag _, _, rfl, rfl, _, rfl, ?_⟩
      have et := tagged_take g hx
      refine ite2 (fun q => ?_) (fun q => ?_)
      · have q : x.2.tag = (g : Int) := V.int.inj (of_decide_eq_true q)
        rw [if_pos (beq_iff_eq.mpr q)] at et
        refine ⟨_, rfl, _, h1, ?_, ?_, fun c o e => ?_⟩
        · rw [List.length_map]
          refine Nat.lt_of_le_of_lt ?_ big16
          unfold tagged
          rw [List.length_map]
          refine Nat.le_trans (List.length_filter_le _ _) ?_
          rw [List.length_take, hA.len]
          exact Nat.le_trans (Nat.min_le_right _ _) G.size
        · rw [upd_same, et, List.map_append]
          rfl
        · rw [upd_ne (ne_of_none e hD)]
          exact s1 _ _ e
      · have q : ¬ x.2.tag = (g : Int) := fun z => q (decide_eq_true (by rw [z]))
        rw [if_neg (fun z => q (eq_of_beq z)), List.append_nil] at et
        refine ⟨?_, s1⟩
        rw [h1, et]
    · rintro H' ⟨h1, s1⟩
      have e0 : (kvs ad.ars).length = ad.ars.length := by
        unfold kvs
        rw [List.length_map]
      rw [e0, List.take_length] at h1
      refine ⟨s1 _ _ upd_same, ?_⟩
      generalize hH2 : upd H' ad.D (HO.dK (kvs ad.ars)) = H2
      have s2 : Same H H2 := fun c o e => by
        rw [← hH2]
        by_cases z : c = ad.D
        · rw [z, hA.dict] at e
          rw [z, upd_same]
          exact e
        · rw [upd_ne z]
          exact s1 _ _ (fr1 _ _ e z)
      have hD2 : H2 D = some (.lst ((tagged g ad.ars).map V.int)) := by
        rw [← hH2, upd_ne hDD]
        exact h1
      clear hH2 h1 s1 fr1 hPT
      have hA2 := hA.same s2
      have hnD : ¬ ad.has b D := hA.new hD0
      refine ⟨_, rfl, D, rfl, ⟨_, SqL.of hD2⟩, for_list (K := K) (a := D) (xs := (tagged g ad.ars).map V.int) (fun i σ H' => ∃ (v : Option V) (ad' : Ad) (B' : Book) (W' Hd' : List Rec), σ = [some (.ref b), some (.int g), some (.ref D), v] ∧
          BookAt CT CB H' b ad' B' ∧ Good B' (State.keep s fun n _ => outOf ((tagged g ad.ars).take i) n) W' Hd' ∧ ad'.ars = (ad.ars.filter fun x => outOf ((tagged g ad.ars).take i) x.2.name) ∧
          H' D = some (.lst ((tagged g ad.ars).map V.int)) ∧ ¬ ad'.has b D ∧ Frame H b ad H' ad' ∧ ∀ c, H' c = none → H c = none) ?_ (fun i σ H' _ ⟨_, _, _, _, _, _, _, _, _, h, _⟩ => SqL.of h) ?_ ?_⟩
      · refine ⟨none, ad, B, W, Hd, rfl, hA2, ?_, ?_, hD2, hnD, Frame.same s2, fun c e => Same.free s2 e⟩
        · have e : (State.keep s fun n _ => outOf ((tagged g ad.ars).take 0) n) = s := by
            unfold State.keep
            have e1 : ∀ n : Int, outOf ((tagged g ad.ars).take 0) n = true := fun n => rfl
            simp only [e1, filterT]
          rw [e]
          exact G
        · have e1 : ∀ n : Int, outOf ((tagged g ad.ars).take 0) n = true := fun n => rfl
          simp only [e1, filterT]
      · rintro i y σ H' hi ⟨v, ad', B', W', Hd', rfl, A', G', ea, hD', hn', f', dom'⟩
        rw [List.getElem?_map] at hi
        obtain ⟨n, hn, rfl⟩ := Option.map_eq_some_iff.mp hi
        obtain ⟨x, hx, ex1, ex2⟩ := mem_tagged.mp (List.mem_of_getElem? hn)
        have hnt : n ∉ (tagged g ad.ars).take i := fun z => by
          obtain ⟨j, hj, ej⟩ := List.getElem_of_mem z
          rw [List.getElem_take] at ej
          rw [List.length_take] at hj
          have := nd_ix (tagged_nd hnd) hn (show (tagged g ad.ars)[j]? = some n by rw [List.getElem?_eq_getElem (by omega), ej])
          omega
        have hx' : x ∈ ad'.ars := by
          rw [ea, List.mem_filter]
          exact ⟨hx, by rw [ex2]; exact outOf_iff.mpr hnt⟩
        have hr' := A'.mem hx'
        obtain ⟨m, em⟩ := Good.nat G' hr'
        obtain rfl : n = (m : Int) := ex2.symm.trans em
        refine ⟨_, rfl, b, ad'.db, _, rfl, A'.self, bookF_drop _ _ _ _, _, rfl, b, ad', B', x, (by show [V.ref b, V.int (m : Int)] = [V.ref b, V.int x.2.name]; rw [ex2]), A', G'.srt, G'.nd, hx', fun z => key_in G' hr' z, (Nat.lt_of_le_of_lt (line_small G') big16), fun H3 ad3 A3 eD eL edb ea3 fr3 => ?_⟩
        obtain ⟨B1, W1, Hd1, hG⟩ := gone_of A' G' hx' ex2 A3 eD eL ea3 fr3
        have et : (tagged g ad.ars).take (i + 1) = (tagged g ad.ars).take i ++ [(m : Int)] := by
          rw [List.take_succ, hn]
          rfl
        have hfD := hG.fr D _ hD' hn'
        refine ⟨_, ad3, B1, W1, Hd1, rfl, hG.at_, ?_, ?_, hfD.1, hfD.2, f'.trans hG.fr, fun c e => dom' c (hG.dom c e)⟩
        · have e := hG.good
          rw [without_keep, keep_keep] at e
          have e2 : (fun (n : Int) (g1 : Int) => ((n != (m : Int)) && outOf ((tagged g ad.ars).take i) n)) = fun n _ => outOf ((tagged g ad.ars).take (i + 1)) n := by
            funext n1 _
            rw [et, outOf_snoc]
          rw [e2] at e
          exact e
        · rw [ea3, ea, List.filter_filter, et, ex2]
          congr 1
          funext z
          rw [outOf_snoc]
      · rintro σ H' ⟨v, ad', B', W', Hd', rfl, A', G', ea, hD', hn', f', dom'⟩
        rw [List.length_map, List.take_length] at G'
        have ek : (State.keep s fun n _ => outOf (tagged g ad.ars) n) = (Sn98.step s (.awayAll g)).1 := by
          rw [awayAll_keep]
          refine keep_congr G fun r hr => ?_
          rw [Bool.eq_iff_iff, outOf_iff, mem_tagged, bne_iff_ne]
          constructor
          · intro h1 h2
            obtain ⟨a, ha⟩ := hA.of_mem hr
            exact h1 ⟨(a, r), ha, h2, rfl⟩
          · rintro h1 ⟨x, hx, ex1, ex2⟩
            rw [G.inj (hA.mem hx) hr ex2] at ex1
            exact h1 ex1
        rw [ek] at G'
        refine ⟨_, rfl, D, _, rfl, .inl (SqL.of hD'), ?_⟩
        refine ⟨(by show 1 ≤ sizeLine; decide), fun p hp => ?_⟩
        refine d.end_ ⟨B', W', Hd', A', G'⟩ f' dom' hp ?_
        rw [G.awayAll_ans, ← hA.recs, ← tagged_len, List.length_map]
        rfl
end
end TD
set_option Elab.async false
set_option linter.all false
set_option maxRecDepth 100000
set_option maxHeartbeats 2000000
namespace TD
open PySem PySem.Spec PyProof.Rows L2 TM
def spOne (CT CB : Addr) : Sp := fun vs H Q _ => ∃ (b : Addr) (ad : Ad) (s : Sn98.State) (p : Int) (xs : List Int) (l : Addr), vs = [.ref b, .int p, .ref l] ∧ BookRel CT CB H b ad s ∧ H l = some (.lst (xs.map V.int)) ∧ PySn98.shape p = some (xs.length, 0) ∧
  Sn98Neutral.asked1 [p :: xs] = true ∧ ∀ H' q ad', BookRel CT CB H' b ad' (TF.stepN s [p :: xs]).1 → Frame H b ad H' ad' → H q = none → H' q = some (.lst ((TF.stepN s [p :: xs]).2.map V.int)) → ¬ ad'.has b q → Q (.ref q) H'
def spAns (K : PySem.W.Frag) : Sp := fun vs H Q _ => ∃ (a : Addr) (ns : List Int), vs = [.ref a] ∧ SqL K H a (ns.map V.int) ∧ PySn98.answers_asked ns = true ∧ ns.length ≤ 16000 ∧ ∀ (H' : Hp) (p : Addr), H' p = some (.lst ((PySn98.answers ns).map V.int)) → Q (.ref p) H'
theorem BookRel.other {CT CB : Addr} {H : Hp} {b t : Addr} {ad : Ad} {s : Sn98.State} {xs ys : List V} (R : BookRel CT CB H b ad s) (hn : ¬ ad.has b t) (ht : H t = some (.lst xs)) : BookRel CT CB (upd H t (.lst ys)) b ad s := by
  obtain ⟨B, W, Hd, A, G⟩ := R
  refine ⟨B, W, Hd, ⟨?_, ?_, ?_, A.recs, fun x hx => ?_, A.nd, A.tups.keep fun p xs h => ?_⟩, G⟩
  · rw [upd_ne (fun z => hn (.inl z.symm))]; exact A.self
  · rw [upd_ne (fun z => hn (.inr (.inl z.symm)))]; exact A.dict
  · rw [upd_ne (fun z => hn (.inr (.inr (.inl z.symm))))]; exact A.lst
  · obtain ⟨dx, h⟩ := A.at_ x hx
    refine ⟨dx, ?_⟩
    rw [upd_ne (fun z => hn (.inr (.inr (.inr (List.mem_map.mpr ⟨x, hx, z⟩)))))]
    exact h
  · rw [upd_ne (ne_of h ht (by intro z; cases z))]
    exact h
theorem cut_eq (ns : List Int) (pl n : Nat) (z y : Int) (h1 : z = (pl : Int) + 1) (h2 : y = (pl : Int) + 1 + (n : Int)) (h : pl + 1 + n ≤ ns.length) : cutV (ns.map V.int) (some z) (some y) = ((ns.drop (pl + 1)).take n).map V.int := by
  unfold cutV
  rw [List.length_map]
  have e1 : HT.sIx ns.length 0 (some z) = pl + 1 := by
    unfold HT.sIx
    simp only
    rw [if_neg (by omega)]
    omega
  have e2 : HT.sIx ns.length ns.length (some y) = pl + 1 + n := by
    unfold HT.sIx
    simp only
    rw [if_neg (by omega)]
    omega
  rw [e1, e2, ← List.map_drop, ← List.map_take]
  congr 2
  omega
section
variable {P : Program} {w : World} {K : PySem.W.Frag} {mg : Str → Option Value} {base : Heap} {CT CB : Addr}
theorem scAns : FnScope ["calls", "book", "told", "place", "call", "end", "answer"] ["calls"] (defScope sAnswers) := ⟨rfl, rfl, rfl, by decide +kernel, rfl, by decide +kernel, by decide +kernel⟩
theorem ok_ans {f fI fO aD : Addr} {fd fdI fdO : FuncData} {nums : List (Int × Int)} (F : Fun K "answers" "answers" sAnswers f fd) (T : Txt K mg CT CB) (GI : FnOk P w K mg base CX0 1 fI fdI ["self"] (spBInit CB)) (bI : Binds K fdI ["self"] []) (MI : Mk K CB fI)
    (GO : FnOk P w K mg base CX0 6 fO fdO ["book", "call", "numbers"] (spOne CT CB)) (bO : Binds K fdO ["book", "call", "numbers"] []) (mO : mg "answer_one" = some (.ref fO)) (kO : PySem.W.keepIn K (.ref fO) = true)
    (mN : mg "HOW_MANY_NUMBERS" = some (.ref aD)) (DN : DTbl K aD nums) (hN : ∀ p n, PySn98.shape p = some (n, 0) → valV (tblV nums) (Sum.inl p) = some (.int (n : Int))) :
    FnOk P w K mg base CX0 7 f fd ["calls"] (spAns K) := by
  refine F.ok scAns (fun vs H Q E h => ?_) (fun cdv A outer sh H vs Q E hr h => ?_)
  · obtain ⟨a, ns, rfl, _⟩ := h
    rfl
  · obtain ⟨a, ns, rfl, hS, hask, hlen, k⟩ := h
    obtain ⟨cs0, hp0, hans, hc0, hall0, hout0⟩ := TF.asked_of hask
    refine ⟨_, pss_cons (ps_set (i := 1) scAns.nd rfl (Or.inl rfl) (pe_make0 MI GI (hr.mono (by decide)) rfl T.mB bI .nil pass0))
      (pss_cons (ps_set (i := 2) scAns.nd rfl (Or.inl rfl) (pe_lst pa_nil))
      (pss_cons (ps_set (i := 3) scAns.nd rfl (Or.inl rfl) pe_int)
      (pss_cons (ps_while PassesOwn.never (pt_cmpR op_lt (pv 3) (pe_callB call_len_seq (by rfl) T.len PySem.boot_len (pa_cons (pv 0) pa_nil)) (nomark _))
        (pss_cons (ps_set (i := 4) scAns.nd rfl (Or.inl rfl) (pe_ix ix_list (pv 0) (pv 3) (fun _ _ => rfl)))
        (pss_cons (ps_set (i := 5) scAns.nd rfl (Or.inl rfl) (pe_op op_add (pe_op op_add (pv 3) pe_int) (pe_dgetM (pe_glob (v := .ref aD) rfl mN rfl) (pv 4) (fun _ _ => rfl))))
        (pss_cons (ps_set (i := 6) scAns.nd rfl (Or.inl rfl) (pe_call GO hr rfl mO kO bO .nil pass0 (pa_cons (pv 1) (pa_cons (pv 4) (pa_cons (pe_slice sl_list (pv 0) (po_some (pe_op op_add (pv 3) pe_int)) (po_some (pv 5))) pa_nil)))))
        (pss_cons (ps_expr (pe_bm PySem.F.plainAttrs_list PySem.F.slot_list_append PySem.F.type_list_append mt_append (pv 2) (pa_cons (pe_callB call_len_seq (by rfl) T.len PySem.boot_len (pa_cons (pv 6) pa_nil)) pa_nil)))
        (pss_cons (ps_expr (pe_bm PySem.F.plainAttrs_list PySem.F.slot_list_extend PySem.F.type_list_extend mt_extend (pv 2) (pa_cons (pv 6) pa_nil)))
        (pss_one (ps_set (i := 3) scAns.nd rfl (Or.inl rfl) (pv 5)))))))))
      (pss_one (ps_ret (pv 2)))))), ?_⟩
    intro b db hb hdb ne
    refine ⟨b, db, rfl, upd_same, fun H1 D L nD nL hb1 hD1 hL1 fr1 => ⟨rfl, ?_⟩⟩
    have s1 : Same H H1 := Same.made hb hdb fr1
    have nD : H D = none := by
      by_cases z : D = b
      · rw [z]; exact hb
      · rw [upd_ne z] at nD
        by_cases z2 : D = db
        · rw [z2]; exact hdb
        · rw [upd_ne z2] at nD; exact nD
    have nL : H L = none := by
      by_cases z : L = b
      · rw [z]; exact hb
      · rw [upd_ne z] at nL
        by_cases z2 : L = db
        · rw [z2]; exact hdb
        · rw [upd_ne z2] at nL; exact nL
    refine ⟨Nat.zero_le _, fun t ht => ?_⟩
    have s2 : Same H1 (upd H1 t (.lst [])) := same_new ht _
    have R0 : BookRel CT CB (upd H1 t (.lst [])) b ⟨db, D, L, [], []⟩ Sn98Neutral.start :=
      ⟨⟨0, 0, [], []⟩, [], [], ⟨s2 _ _ hb1, s2 _ _ hD1, s2 _ _ hL1, rfl, (fun x hx => nomatch hx), List.nodup_nil, rfl⟩, good_begun (now := 0) (Nat.zero_le _) rfl rfl rfl⟩
    have hL : ns.length ≤ 16000 := hlen
    have big : 1003000 < sizeLine := by decide
    refine while_by (fun σ H' => ∃ (ad : Ad) (s : Sn98.State) (z : Int) (pl f : Nat) (cs : List (List (List Int))) (T : List Int) (m4 m5 m6 : Option V), σ = [some (.ref a), some (.ref b), some (.ref t), some (.int z), m4, m5, m6] ∧ z = (pl : Int) ∧ pl ≤ ns.length ∧
        BookRel CT CB H' b ad s ∧ H' t = some (.lst (T.map V.int)) ∧ ¬ ad.has b t ∧ (∀ c o, H c = some o → H' c = some o ∧ ¬ ad.has b c ∧ c ≠ t) ∧ PyFlat.calls PySn98.shape f (ns.drop pl) = some cs ∧ cs.all Sn98Neutral.asked1 = true ∧ T ++ TF.rest s cs = PySn98.answers ns ∧
        T.length + cs.length + Sn98Neutral.outs s cs ≤ 1003000)
      (fun σ _ => match σ with | [_, _, _, some (.int z), _, _, _] => ((ns.length : Int) - z).toNat | _ => 0)
      ⟨⟨db, D, L, [], []⟩, Sn98Neutral.start, 0, 0, ns.length, cs0, [], none, none, none, rfl, rfl, Nat.zero_le _, R0, upd_same, ?_, ?_, hp0, hall0, hans.symm, ?_⟩ ?_ ?_
    · rintro (z | z | z | z)
      · rw [z, hb1] at ht; cases ht
      · have z : t = D := z
        rw [z, hD1] at ht; cases ht
      · have z : t = L := z
        rw [z, hL1] at ht; cases ht
      · exact nomatch z
    · intro c o e
      have e1 := s1 _ _ e
      refine ⟨s2 _ _ e1, ?_, ne_of_none e1 ht⟩
      rintro (z | z | z | z)
      · rw [z, hb] at e; cases e
      · have z : c = D := z
        rw [z, nD] at e; cases e
      · have z : c = L := z
        rw [z, nL] at e; cases e
      · exact nomatch z
    · show 0 + cs0.length + Sn98Neutral.outs Sn98Neutral.start cs0 ≤ 1003000
      omega
    · rintro σ H' ⟨ad, s, z, pl, f', cs, T', m4, m5, m6, rfl, hz, hpl, R, ht', hnt, keep, hpar, hall, heq, hsz⟩
      have same' : Same H H' := fun c o e => (keep c o e).1
      have hS' := Same.seq same' hS
      refine ⟨_, rfl, _, rfl, a, _, rfl, .inl hS', _, _, rfl, rfl, _, rfl, ?_⟩
      rw [List.length_map]
      refine ite2 (fun q => ?_) (fun q => ?_)
      · have lt : z < (ns.length : Int) := of_decide_eq_true q
        have lt2 : pl < ns.length := by omega
        have hd : ns.drop pl = ns[pl] :: ns.drop (pl + 1) := List.drop_eq_getElem_cons lt2
        rw [hd] at hpar
        obtain ⟨n, f2, cs', hsh, hn, rfl, hpar'⟩ := TF.parse hpar
        rw [List.length_drop] at hn
        rw [List.drop_drop] at hpar'
        rw [List.all_cons, Bool.and_eq_true] at hall
        rw [TF.rest_cons] at heq
        rw [TF.outs_cons, List.length_cons] at hsz
        refine ⟨_, rfl, _, rfl, a, _, _, _, rfl, rfl, hS', at_of (j := pl) hz (by rw [List.getElem?_map, List.getElem?_eq_getElem lt2]; rfl), ?_⟩
        refine ⟨_, rfl, _, _, rfl, rfl, _, rfl, aD, nums, ns[pl], _, rfl, DN, rfl, hN _ n hsh, _, _, rfl, rfl, ?_⟩
        refine ⟨_, rfl, _, rfl, _, rfl, _, rfl, _, _, rfl, rfl, _, rfl, _, rfl, _, rfl, a, _, rfl, hS', fun l hl => ?_⟩
        rw [cut_eq ns pl n (z + 1) (z + 1 + (n : Int)) (by omega) (by omega) (by omega)]
        generalize hxs : (ns.drop (pl + 1)).take n = xs at hall heq hsz
        have hxl : xs.length = n := by
          rw [← hxs, List.length_take, List.length_drop]
          omega
        have s3 : Same H' (upd H' l (.lst (xs.map V.int))) := same_new hl _
        refine ⟨b, ad, s, ns[pl], xs, l, rfl, R.same s3, upd_same, (by rw [hxl]; exact hsh), hall.1, fun H4 q ad4 R4 fr4 nq hq nhq => ?_⟩
        have hlt : t ≠ l := ne_of_none ht' hl
        obtain ⟨ht4, hnt4⟩ := fr4 t _ (s3 _ _ ht') hnt
        have tq : t ≠ q := ne_of_none (s3 _ _ ht') nq
        have hTl : (T'.map V.int).length = T'.length := List.length_map _
        refine ⟨_, rfl, .inl ⟨rfl, _, SqL.of ht4⟩, _, rfl, q, _, rfl, .inl (SqL.of hq), t, _, _, rfl, rfl, ht4, (by rw [hTl]; omega), ?_⟩
        have hq5 : upd H4 t (.lst (T'.map V.int ++ [V.int (((TF.stepN s [ns[pl] :: xs]).2.map V.int).length : Int)])) q = some (.lst ((TF.stepN s [ns[pl] :: xs]).2.map V.int)) := by
          rw [upd_ne (Ne.symm tq)]
          exact hq
        refine ⟨_, rfl, .inl ⟨rfl, _, SqL.of upd_same⟩, _, rfl, t, q, _, _, rfl, rfl, upd_same, hq5, ?_, ?_⟩
        · rw [List.length_append, List.length_map, List.length_map, List.length_singleton]
          omega
        · rw [upd_upd]
          refine ⟨_, rfl, ⟨ad4, (TF.stepN s [ns[pl] :: xs]).1, _, pl + 1 + n, f2, cs', T' ++ (((TF.stepN s [ns[pl] :: xs]).2.length : Int) :: (TF.stepN s [ns[pl] :: xs]).2), _, _, _, rfl, ?_, ?_, ?_, ?_, hnt4, ?_, hpar', hall.2, ?_, ?_⟩, ?_⟩
          · show z + 1 + (n : Int) = ((pl + 1 + n : Nat) : Int)
            omega
          · omega
          · exact R4.other hnt4 ht4
          · rw [upd_same, List.map_append, List.append_assoc, List.length_map]
            rfl
          · intro c o e
            obtain ⟨k1, k2, k3⟩ := keep c o e
            obtain ⟨k4, k5⟩ := fr4 c o (s3 _ _ k1) k2
            exact ⟨by rw [upd_ne k3]; exact k4, k5, k3⟩
          · rw [List.append_assoc]
            exact heq
          · rw [List.length_append, List.length_cons]
            omega
          · show ((ns.length : Int) - (z + 1 + (n : Int))).toNat < ((ns.length : Int) - z).toNat
            omega
      · have ge : ¬ z < (ns.length : Int) := fun y => q (decide_eq_true y)
        have e : pl = ns.length := by omega
        rw [e, List.drop_length] at hpar
        rw [TF.parse_nil hpar, TF.rest_nil, List.append_nil] at heq
        refine ⟨_, rfl, ?_⟩
        rw [heq] at ht'
        exact k H' t ht'
    · rintro σ H' Q1 Q2 hq ⟨x, hx, y, hy, p, ys, e1, e2, i, j, ex, ey, z, ez, q⟩
      exact ⟨x, hx, y, hy, p, ys, e1, e2, i, j, ex, ey, z, ez, hq _ _ q⟩
end
end TD
set_option Elab.async false
set_option linter.all false
set_option maxRecDepth 100000
set_option maxHeartbeats 2000000
namespace TD
open PySem PySem.Spec PyProof.Rows L2 TM
/-! ### one timer is changed in its place -/
def replA (n : Int) (r' : Rec) (ars : List (Addr × Rec)) : List (Addr × Rec) := ars.map fun y => if y.2.name = n then (y.1, r') else y
theorem replA_recs (n : Int) (r' : Rec) (ars : List (Addr × Rec)) : (replA n r' ars).map (·.2) = repl n r' (ars.map (·.2)) := by
  unfold replA repl
  rw [List.map_map, List.map_map]
  apply List.map_congr_left
  intro y _
  show (if y.2.name = n then (y.1, r') else y).2 = if y.2.name = n then r' else y.2
  by_cases e : y.2.name = n
  · rw [if_pos e, if_pos e]
  · rw [if_neg e, if_neg e]
theorem replA_adr (n : Int) (r' : Rec) (ars : List (Addr × Rec)) : (replA n r' ars).map (·.1) = ars.map (·.1) := by
  unfold replA
  rw [List.map_map]
  apply List.map_congr_left
  intro y _
  show (if y.2.name = n then (y.1, r') else y).1 = y.1
  by_cases e : y.2.name = n
  · rw [if_pos e]
  · rw [if_neg e]
theorem replA_kvs {n : Int} {r' : Rec} (h : r'.name = n) (ars : List (Addr × Rec)) : kvs (replA n r' ars) = kvs ars := by
  unfold replA kvs
  rw [List.map_map]
  apply List.map_congr_left
  intro y _
  show (Sum.inl (if y.2.name = n then (y.1, r') else y).2.name, V.ref (if y.2.name = n then (y.1, r') else y).1) = (Sum.inl y.2.name, V.ref y.1)
  by_cases e : y.2.name = n
  · rw [if_pos e]
    show (Sum.inl r'.name, V.ref y.1) = _
    rw [h, e]
  · rw [if_neg e]
theorem mem_replA {n : Int} {r' : Rec} {ars : List (Addr × Rec)} {z : Addr × Rec} (h : z ∈ replA n r' ars) : ∃ y ∈ ars, (y.2.name = n ∧ z = (y.1, r')) ∨ (y.2.name ≠ n ∧ z = y) := by
  obtain ⟨y, hy, e⟩ := List.mem_map.mp h
  refine ⟨y, hy, ?_⟩
  by_cases c : y.2.name = n
  · rw [if_pos c] at e
    exact .inl ⟨c, e.symm⟩
  · rw [if_neg c] at e
    exact .inr ⟨c, e.symm⟩
theorem pick_nd {α β : Type} {f : α → β} {x y : α} : ∀ {l : List α}, (l.map f).Nodup → x ∈ l → y ∈ l → f x = f y → x = y
  | [], _, h, _, _ => nomatch h
  | a :: l, hn, h1, h2, e => by
    rw [List.map_cons, List.nodup_cons] at hn
    rcases List.mem_cons.mp h1 with p | p
    · rcases List.mem_cons.mp h2 with q | q
      · rw [p, q]
      · exact absurd (List.mem_map.mpr ⟨y, q, by rw [← e, p]⟩) hn.1
    · rcases List.mem_cons.mp h2 with q | q
      · exact absurd (List.mem_map.mpr ⟨x, p, by rw [e, q]⟩) hn.1
      · exact pick_nd hn.2 p q e
section
variable {CT CB : Addr} {H H' : Hp} {b : Addr} {ad : Ad} {B : Book} {x : Addr × Rec} {dx : Addr} {r' : Rec} {ps' : List Addr} {line' : List K3} {now' turns' : Int}
theorem BookAt.changed (A : BookAt CT CB H b ad B) (hn : (B.recs.map Rec.name).Nodup) (hx : x ∈ ad.ars) (en : r'.name = x.2.name) (hb : H' b = some (.ins CB ad.db (bookF now' ad.D ad.L turns'))) (hL : H' ad.L = some (.lst (ps'.map V.ref)))
    (hT : TupsAt H' ps' line') (hx' : H' x.1 = some (.ins CT dx (recF r'))) (fr : ∀ c o, H c = some o → c ≠ b → c ≠ ad.L → c ≠ x.1 → H' c = some o) :
    BookAt CT CB H' b { ad with ars := replA x.2.name r' ad.ars, ps := ps' } ⟨now', turns', repl x.2.name r' B.recs, line'⟩ ∧ Frame H b ad H' { ad with ars := replA x.2.name r' ad.ars, ps := ps' } ∧ ∀ c, H' c = none → H c = none := by
  refine ⟨⟨hb, ?_, hL, ?_, fun y hy => ?_, ?_, hT⟩, fun c o e n => ?_, free_of fun c hc z => ?_⟩
  · show H' ad.D = some (.dK (kvs (replA x.2.name r' ad.ars)))
    rw [replA_kvs en]
    exact fr _ _ A.dict (Ne.symm A.Db) (Ne.symm A.LD) (Ne.symm (A.xD hx))
  · show (replA x.2.name r' ad.ars).map (fun y : Addr × Rec => y.2) = repl x.2.name r' B.recs
    rw [← A.recs]
    exact replA_recs _ _ _
  · obtain ⟨y0, h0, ⟨c, e⟩ | ⟨c, e⟩⟩ := mem_replA hy
    · have : y0 = x := pick_nd (A.ndn hn) h0 hx c
      rw [e, this]
      exact ⟨dx, hx'⟩
    · rw [e]
      obtain ⟨dy, hdy⟩ := A.at_ y0 h0
      refine ⟨dy, fr _ _ hdy (A.xb h0) (A.xL h0) fun z => c ?_⟩
      rw [pick_nd A.nd h0 hx z]
  · show ((replA x.2.name r' ad.ars).map (fun y : Addr × Rec => y.1)).Nodup
    rw [replA_adr]
    exact A.nd
  · have c1 : c ≠ b := fun z => n (.inl z)
    have c2 : c ≠ ad.L := fun z => n (.inr (.inr (.inl z)))
    have c3 : c ≠ x.1 := fun z => n (.inr (.inr (.inr (List.mem_map.mpr ⟨x, hx, z.symm⟩))))
    refine ⟨fr _ _ e c1 c2 c3, fun z => n ?_⟩
    rcases z with z | z | z | z
    · exact .inl z
    · exact .inr (.inl z)
    · exact .inr (.inr (.inl z))
    · have z : c ∈ (replA x.2.name r' ad.ars).map (fun y : Addr × Rec => y.1) := z
      rw [replA_adr] at z
      exact .inr (.inr (.inr z))
  · by_cases c1 : c = b
    · rw [c1, hb] at z; cases z
    · by_cases c2 : c = ad.L
      · rw [c2, hL] at z; cases z
      · by_cases c3 : c = x.1
        · rw [c3, hx'] at z; cases z
        · cases q : H c with
          | none => exact hc q
          | some o => rw [fr c o q c1 c2 c3] at z; cases z
theorem srt_erase {l : List K3} (h : Srt l) (k : Nat) : Srt (l.eraseIdx k) := List.Pairwise.sublist (List.eraseIdx_sublist ..) h
theorem erase_small {l : List K3} (h : l.length ≤ 65536) (k : Nat) : (l.eraseIdx k).length < sizeLine := Nat.lt_of_le_of_lt (Nat.le_trans (len_erase l k) h) big16
end
def spLater (CT CB : Addr) : Sp := fun vs H Q _ => ∃ (b : Addr) (ad : Ad) (s : Sn98.State) (n m : Nat), vs = [.ref b, .int (n : Int), .int (m : Int)] ∧ BookRel CT CB H b ad s ∧ Done CT CB b ad H (Sn98.step s (.later n m)) Q
def spHold (CT CB : Addr) : Sp := fun vs H Q _ => ∃ (b : Addr) (ad : Ad) (s : Sn98.State) (n : Nat), vs = [.ref b, .int (n : Int)] ∧ BookRel CT CB H b ad s ∧ Done CT CB b ad H (Sn98.step s (.hold n)) Q
def spGoOn (CT CB : Addr) : Sp := fun vs H Q _ => ∃ (b : Addr) (ad : Ad) (s : Sn98.State) (n : Nat), vs = [.ref b, .int (n : Int)] ∧ BookRel CT CB H b ad s ∧ Done CT CB b ad H (Sn98.step s (.goOn n)) Q
section
variable {P : Program} {w : World} {K : PySem.W.Frag} {mg : Str → Option Value} {base : Heap} {CT CB : Addr}
theorem scLater : FnScope ["self", "name", "by", "timer"] ["self", "name", "by"] (defScope sLater) := ⟨rfl, rfl, rfl, by decide +kernel, rfl, by decide +kernel, by decide +kernel⟩
theorem ok_later {f fV fU : Addr} {fd fdV fdU : FuncData} (F : Fun K "later" "TimerBook.later" sLater f fd) (T : Txt K mg CT CB) (GV : FnOk P w K mg base CX0 2 fV fdV ["self", "timer"] (spLeave CT CB)) (bV : Binds K fdV ["self", "timer"] []) (mV : Meth K CB "leave_line" fV)
    (GU : FnOk P w K mg base CX0 2 fU fdU ["self", "timer", "due"] (spLineUp CT CB)) (bU : Binds K fdU ["self", "timer", "due"] []) (mU : Meth K CB "line_up" fU) :
    FnOk P w K mg base CX0 3 f fd ["self", "name", "by"] (spLater CT CB) := by
  obtain ⟨u1, g1, r1⟩ := T.e1
  obtain ⟨u2, g2, r2⟩ := T.e2
  obtain ⟨u4, g4, r4⟩ := T.e4
  obtain ⟨u3, g3, r3⟩ := T.ht
  refine F.ok scLater (fun vs H Q E h => ?_) (fun cdv A outer sh H vs Q E hr h => ?_)
  · obtain ⟨b, ad, s, n, m, rfl, _⟩ := h
    rfl
  · obtain ⟨b, ad, s, n, m, rfl, R, d⟩ := h
    have hu := hu_of hr
    refine ⟨_, pss_cons (ps_if (pt_cmp (pc_dnotin hu (pv 1) (pe_fld (pv 0) rfl))) (pss_one (ps_ret (pe_lst (pa_cons (pe_glob rfl g2 r2) pa_nil)))) pss_nil)
      (pss_cons (ps_set (i := 3) scLater.nd rfl (Or.inl rfl) (pe_dget hu (pe_fld (pv 0) rfl) (pv 1) (fun _ _ => rfl)))
      (pss_cons (ps_if (pt_val (pe_fld (pv 3) rfl)) (pss_one (ps_ret (pe_lst (pa_cons (pe_glob rfl g4 r4) pa_nil)))) pss_nil)
      (pss_cons (ps_if (pt_cmpR op_gt (pe_op op_add (pe_fld (pv 3) rfl) (pv 2)) (pe_glob rfl g3 r3) (nomark _)) (pss_one (ps_ret (pe_lst (pa_cons (pe_glob rfl g1 r1) pa_nil)))) pss_nil)
      (pss_cons (ps_expr (pe_meth (pv 0) T.clB mV GV hr bV .nil pass0 (pa_cons (pv 3) pa_nil)))
      (pss_cons (ps_expr (pe_meth (pv 0) T.clB mU GU hr bU .nil pass0 (pa_cons (pv 3) (pa_cons (pe_op op_add (pe_fld (pv 3) rfl) (pv 2)) pa_nil))))
      (pss_one (ps_ret (pe_lst (pa_cons pe_int pa_nil))))))))), ?_⟩
    have R' := R
    obtain ⟨B, W, Hd, hA, G⟩ := R
    refine ⟨_, rfl, _, rfl, b, CB, ad.db, _, _, rfl, hA.self, T.clB, T.bBy, bookF_by _ _ _ _, ad.D, _, rfl, DGet.k (k := Sum.inl (n : Int)) hA.dict, _, rfl, ?_⟩
    rw [dict_has hA G n]
    cases hh : s.has n with
    | false =>
      rw [G.later_none hh] at d
      refine iteT ⟨(by show 1 ≤ sizeLine; decide), fun p hp => ?_⟩
      exact d.end_ R' (Frame.same (Same.refl H)) (fun c e => e) hp rfl
    | true =>
      refine iteF ?_
      obtain ⟨r, hr1, er⟩ := (G.has_iff n).mp hh
      obtain ⟨xa, hxa⟩ := hA.of_mem hr1
      obtain ⟨dx, hdx⟩ := hA.at_ _ hxa
      have hdx : H xa = some (.ins CT dx (recF r)) := hdx
      have hg : DGet H ad.D (V.int (n : Int)) (some (.ref xa)) := by
        have := DGet.k (k := Sum.inl (n : Int)) hA.dict
        rw [kvs_val (hA.ndn G.nd) hxa er] at this
        exact this
      refine ⟨_, rfl, b, CB, ad.db, _, _, rfl, hA.self, T.clB, T.bBy, bookF_by _ _ _ _, _, rfl, ad.D, .ref xa, rfl, hg, ?_⟩
      refine ⟨_, rfl, xa, CT, dx, _, _, rfl, hdx, T.clT, T.tHeld, recF_held _, _, rfl, ?_⟩
      cases hd : r.held with
      | true =>
        rw [G.later_held hr1 er hd] at d
        refine iteT ⟨(by show 1 ≤ sizeLine; decide), fun p hp => ?_⟩
        exact d.end_ R' (Frame.same (Same.refl H)) (fun c e => e) hp rfl
      | false =>
        refine iteF ?_
        obtain ⟨dd, ev, tg, e1, e2, e3, le, hst⟩ := G.later_wait (by_ := m) hr1 er hd
        rw [hst] at d
        refine ⟨_, rfl, xa, CT, dx, _, _, rfl, hdx, T.clT, T.tDue, recF_due _, _, rfl, _, _, rfl, rfl, _, _, rfl, rfl, _, rfl, ?_⟩
        have ed : ((dd + m : Nat) : Int) = r.due + (m : Int) := by rw [e1, Int.natCast_add]
        refine ite2 (fun q => ?_) (fun q => ?_)
        · have q : Sn98.LAST < dd + m := (last_lt _).mpr (by rw [ed]; exact of_decide_eq_true q)
          rw [if_pos q] at d
          refine ⟨(by show 1 ≤ sizeLine; decide), fun p hp => ?_⟩
          exact d.end_ R' (Frame.same (Same.refl H)) (fun c e => e) hp rfl
        · have q : ¬ Sn98.LAST < dd + m := fun z => q (decide_eq_true (by rw [← ed]; exact (last_lt _).mp z))
          rw [if_neg q] at d
          have hz := line_small G
          refine ⟨_, rfl, b, ad.db, _, rfl, hA.self, bookF_leave _ _ _ _, _, rfl, b, xa, ad.db, ad.D, ad.L, B.now, B.turns, ad.ps, B.line, dx, r, rfl, hA.self, hA.lst, hA.tups, G.srt, hdx, key_in G hr1 hd, Nat.lt_of_le_of_lt hz big16, fun H2 ps2 hL2 hT2 fr2 => ?_⟩
          have hb2 := fr2 _ _ hA.self hA.Lb
          have hx2 := fr2 _ _ hdx (hA.xL hxa)
          refine ⟨_, rfl, b, ad.db, _, rfl, hb2, bookF_lineup _ _ _ _, _, rfl, _, rfl, xa, CT, dx, _, _, rfl, hx2, T.clT, T.tDue, recF_due _, _, rfl, _, _, rfl, rfl, b, xa, ad.db, ad.D, ad.L, B.now, B.turns, ps2, _, dx, r, r.due + (m : Int), rfl, hb2, hL2, hT2, srt_erase G.srt _, erase_small hz _, hx2, fun H3 ps3 hb3 hL3 hT3 hx3 fr3 => ?_⟩
          obtain ⟨A3, F3, D3⟩ := hA.changed (r' := { r with due := r.due + (m : Int), turn := B.turns + 1 }) G.nd hxa rfl hb3 hL3 hT3 hx3 fun c o e c1 c2 c3 => fr3 _ _ (fr2 _ _ e c2) c1 c2 c3
          obtain ⟨W3, Hd3, G3⟩ := G.reset (r' := { r with due := r.due + (m : Int), turn := B.turns + 1 }) (n := n) (at_ := dd + m) (every := ev) (tag := tg) hr1 er er ed.symm e2 e3 hd rfl (Nat.le_of_not_lt q) le
            (B' := ⟨B.now, B.turns + 1, repl r.name { r with due := r.due + (m : Int), turn := B.turns + 1 } B.recs, ins (B.line.eraseIdx (before B.line r.key)) (r.due + (m : Int), B.turns + 1, r.name)⟩)
            (by rw [← er]) (by rw [if_neg (by rw [hd]; exact Bool.false_ne_true)]; rfl) rfl rfl
          refine ⟨(by show 1 ≤ sizeLine; decide), fun p hp => ?_⟩
          exact d.end_ ⟨_, W3, Hd3, A3, G3⟩ F3 D3 hp rfl
theorem scHold : FnScope ["self", "name", "timer"] ["self", "name"] (defScope sHold) := ⟨rfl, rfl, rfl, by decide +kernel, rfl, by decide +kernel, by decide +kernel⟩
theorem ok_hold {f fV : Addr} {fd fdV : FuncData} (F : Fun K "hold" "TimerBook.hold" sHold f fd) (T : Txt K mg CT CB) (GV : FnOk P w K mg base CX0 2 fV fdV ["self", "timer"] (spLeave CT CB)) (bV : Binds K fdV ["self", "timer"] []) (mV : Meth K CB "leave_line" fV) :
    FnOk P w K mg base CX0 3 f fd ["self", "name"] (spHold CT CB) := by
  obtain ⟨u2, g2, r2⟩ := T.e2
  obtain ⟨u4, g4, r4⟩ := T.e4
  refine F.ok scHold (fun vs H Q E h => ?_) (fun cdv A outer sh H vs Q E hr h => ?_)
  · obtain ⟨b, ad, s, n, rfl, _⟩ := h
    rfl
  · obtain ⟨b, ad, s, n, rfl, R, d⟩ := h
    have hu := hu_of hr
    refine ⟨_, pss_cons (ps_if (pt_cmp (pc_dnotin hu (pv 1) (pe_fld (pv 0) rfl))) (pss_one (ps_ret (pe_lst (pa_cons (pe_glob rfl g2 r2) pa_nil)))) pss_nil)
      (pss_cons (ps_set (i := 2) scHold.nd rfl (Or.inl rfl) (pe_dget hu (pe_fld (pv 0) rfl) (pv 1) (fun _ _ => rfl)))
      (pss_cons (ps_if (pt_val (pe_fld (pv 2) rfl)) (pss_one (ps_ret (pe_lst (pa_cons (pe_glob rfl g4 r4) pa_nil)))) pss_nil)
      (pss_cons (ps_expr (pe_meth (pv 0) T.clB mV GV hr bV .nil pass0 (pa_cons (pv 2) pa_nil)))
      (pss_cons (ps_fld (pv 2) pe_bl rfl)
      (pss_cons (ps_fld (pv 2) (pe_callB (call_max2 rfl) (by rfl) T.mx PyProof.Rows.boot_max (pa_cons (pe_op op_sub (pe_fld (pv 2) rfl) (pe_fld (pv 0) rfl)) (pa_cons pe_int pa_nil))) rfl)
      (pss_one (ps_ret (pe_lst (pa_cons pe_int pa_nil))))))))), ?_⟩
    have R' := R
    obtain ⟨B, W, Hd, hA, G⟩ := R
    refine ⟨_, rfl, _, rfl, b, CB, ad.db, _, _, rfl, hA.self, T.clB, T.bBy, bookF_by _ _ _ _, ad.D, _, rfl, DGet.k (k := Sum.inl (n : Int)) hA.dict, _, rfl, ?_⟩
    rw [dict_has hA G n]
    cases hh : s.has n with
    | false =>
      rw [G.hold_none hh] at d
      refine iteT ⟨(by show 1 ≤ sizeLine; decide), fun p hp => ?_⟩
      exact d.end_ R' (Frame.same (Same.refl H)) (fun c e => e) hp rfl
    | true =>
      refine iteF ?_
      obtain ⟨r, hr1, er⟩ := (G.has_iff n).mp hh
      obtain ⟨xa, hxa⟩ := hA.of_mem hr1
      obtain ⟨dx, hdx⟩ := hA.at_ _ hxa
      have hdx : H xa = some (.ins CT dx (recF r)) := hdx
      have hg : DGet H ad.D (V.int (n : Int)) (some (.ref xa)) := by
        have := DGet.k (k := Sum.inl (n : Int)) hA.dict
        rw [kvs_val (hA.ndn G.nd) hxa er] at this
        exact this
      refine ⟨_, rfl, b, CB, ad.db, _, _, rfl, hA.self, T.clB, T.bBy, bookF_by _ _ _ _, _, rfl, ad.D, .ref xa, rfl, hg, ?_⟩
      refine ⟨_, rfl, xa, CT, dx, _, _, rfl, hdx, T.clT, T.tHeld, recF_held _, _, rfl, ?_⟩
      cases hd : r.held with
      | true =>
        rw [G.hold_held hr1 er hd] at d
        refine iteT ⟨(by show 1 ≤ sizeLine; decide), fun p hp => ?_⟩
        exact d.end_ R' (Frame.same (Same.refl H)) (fun c e => e) hp rfl
      | false =>
        refine iteF ?_
        obtain ⟨dd, ev, tg, e1, e2, e3, ld, le, hst⟩ := G.hold_wait hr1 er hd
        rw [hst] at d
        have hz := line_small G
        refine ⟨_, rfl, b, ad.db, _, rfl, hA.self, bookF_leave _ _ _ _, _, rfl, b, xa, ad.db, ad.D, ad.L, B.now, B.turns, ad.ps, B.line, dx, r, rfl, hA.self, hA.lst, hA.tups, G.srt, hdx, key_in G hr1 hd, Nat.lt_of_le_of_lt hz big16, fun H2 ps2 hL2 hT2 fr2 => ?_⟩
        have hb2 := fr2 _ _ hA.self hA.Lb
        have hx2 := fr2 _ _ hdx (hA.xL hxa)
        have hbx : b ≠ xa := Ne.symm (hA.xb hxa)
        refine ⟨_, rfl, xa, CT, dx, _, rfl, hx2, T.clT, T.tHeld, (by show 7 < 1000; decide), ?_⟩
        rw [putF_held]
        refine ⟨_, rfl, xa, CT, dx, _, _, rfl, upd_same, T.clT, T.tDue, recF_due _, _, rfl, b, CB, ad.db, _, _, rfl, (by rw [upd_ne hbx]; exact hb2), T.clB, T.bNow, bookF_now _ _ _ _, _, _, rfl, rfl, _, _, rfl, ?_⟩
        have el : (if (0 : Int) > r.due - B.now then (0 : Int) else r.due - B.now) = ((dd - s.now : Nat) : Int) := by
          have hn := G.now
          by_cases c : (0 : Int) > r.due - B.now
          · rw [if_pos c]; omega
          · rw [if_neg c]; omega
        refine ⟨_, rfl, xa, CT, dx, _, rfl, upd_same, T.clT, T.tLeft, (by show 7 < 1000; decide), ?_⟩
        rw [putF_left, upd_upd]
        refine ⟨(by show 1 ≤ sizeLine; decide), fun p hp => ?_⟩
        obtain ⟨A3, F3, D3⟩ := hA.changed (H' := upd H2 xa (.ins CT dx (recF { r with held := true, left := if (0 : Int) > r.due - B.now then (0 : Int) else r.due - B.now }))) (now' := B.now) (turns' := B.turns) (ps' := ps2) (line' := B.line.eraseIdx (before B.line r.key)) (dx := dx)
          (r' := { r with held := true, left := if (0 : Int) > r.due - B.now then (0 : Int) else r.due - B.now }) G.nd hxa rfl (by rw [upd_ne hbx]; exact hb2) (by rw [upd_ne (Ne.symm (hA.xL hxa))]; exact hL2)
          (hT2.keep fun p xs h => by rw [upd_ne (ne_of h hx2 (by intro z; cases z))]; exact h) upd_same fun c o e c1 c2 c3 => by rw [upd_ne c3]; exact fr2 _ _ e c2
        obtain ⟨W3, Hd3, G3⟩ := G.holds (r' := { r with held := true, left := if (0 : Int) > r.due - B.now then (0 : Int) else r.due - B.now }) (n := n) (left := dd - s.now) (every := ev) (tag := tg) hr1 er hd er el e2 e3 rfl (by omega) le
          (B' := ⟨B.now, B.turns, repl r.name { r with held := true, left := if (0 : Int) > r.due - B.now then (0 : Int) else r.due - B.now } B.recs, B.line.eraseIdx (before B.line r.key)⟩) (by rw [← er]) rfl rfl rfl
        exact d.end_ ⟨_, W3, Hd3, A3, G3⟩ F3 D3 hp rfl
theorem scGoOn : FnScope ["self", "name", "timer"] ["self", "name"] (defScope sGoOn) := ⟨rfl, rfl, rfl, by decide +kernel, rfl, by decide +kernel, by decide +kernel⟩
theorem ok_goon {f fU : Addr} {fd fdU : FuncData} (F : Fun K "go_on" "TimerBook.go_on" sGoOn f fd) (T : Txt K mg CT CB) (GU : FnOk P w K mg base CX0 2 fU fdU ["self", "timer", "due"] (spLineUp CT CB)) (bU : Binds K fdU ["self", "timer", "due"] []) (mU : Meth K CB "line_up" fU) :
    FnOk P w K mg base CX0 3 f fd ["self", "name"] (spGoOn CT CB) := by
  obtain ⟨u1, g1, r1⟩ := T.e1
  obtain ⟨u2, g2, r2⟩ := T.e2
  obtain ⟨u4, g4, r4⟩ := T.e4
  obtain ⟨u3, g3, r3⟩ := T.ht
  refine F.ok scGoOn (fun vs H Q E h => ?_) (fun cdv A outer sh H vs Q E hr h => ?_)
  · obtain ⟨b, ad, s, n, rfl, _⟩ := h
    rfl
  · obtain ⟨b, ad, s, n, rfl, R, d⟩ := h
    have hu := hu_of hr
    refine ⟨_, pss_cons (ps_if (pt_cmp (pc_dnotin hu (pv 1) (pe_fld (pv 0) rfl))) (pss_one (ps_ret (pe_lst (pa_cons (pe_glob rfl g2 r2) pa_nil)))) pss_nil)
      (pss_cons (ps_set (i := 2) scGoOn.nd rfl (Or.inl rfl) (pe_dget hu (pe_fld (pv 0) rfl) (pv 1) (fun _ _ => rfl)))
      (pss_cons (ps_if (pt_not (pt_val (pe_fld (pv 2) rfl))) (pss_one (ps_ret (pe_lst (pa_cons (pe_glob rfl g4 r4) pa_nil)))) pss_nil)
      (pss_cons (ps_if (pt_cmpR op_gt (pe_op op_add (pe_fld (pv 0) rfl) (pe_fld (pv 2) rfl)) (pe_glob rfl g3 r3) (nomark _)) (pss_one (ps_ret (pe_lst (pa_cons (pe_glob rfl g1 r1) pa_nil)))) pss_nil)
      (pss_cons (ps_fld (pv 2) pe_bl rfl)
      (pss_cons (ps_expr (pe_meth (pv 0) T.clB mU GU hr bU .nil pass0 (pa_cons (pv 2) (pa_cons (pe_op op_add (pe_fld (pv 0) rfl) (pe_fld (pv 2) rfl)) pa_nil))))
      (pss_one (ps_ret (pe_lst (pa_cons pe_int pa_nil))))))))), ?_⟩
    have R' := R
    obtain ⟨B, W, Hd, hA, G⟩ := R
    refine ⟨_, rfl, _, rfl, b, CB, ad.db, _, _, rfl, hA.self, T.clB, T.bBy, bookF_by _ _ _ _, ad.D, _, rfl, DGet.k (k := Sum.inl (n : Int)) hA.dict, _, rfl, ?_⟩
    rw [dict_has hA G n]
    cases hh : s.has n with
    | false =>
      rw [G.go_none hh] at d
      refine iteT ⟨(by show 1 ≤ sizeLine; decide), fun p hp => ?_⟩
      exact d.end_ R' (Frame.same (Same.refl H)) (fun c e => e) hp rfl
    | true =>
      refine iteF ?_
      obtain ⟨r, hr1, er⟩ := (G.has_iff n).mp hh
      obtain ⟨xa, hxa⟩ := hA.of_mem hr1
      obtain ⟨dx, hdx⟩ := hA.at_ _ hxa
      have hdx : H xa = some (.ins CT dx (recF r)) := hdx
      have hg : DGet H ad.D (V.int (n : Int)) (some (.ref xa)) := by
        have := DGet.k (k := Sum.inl (n : Int)) hA.dict
        rw [kvs_val (hA.ndn G.nd) hxa er] at this
        exact this
      refine ⟨_, rfl, b, CB, ad.db, _, _, rfl, hA.self, T.clB, T.bBy, bookF_by _ _ _ _, _, rfl, ad.D, .ref xa, rfl, hg, ?_⟩
      refine ⟨_, rfl, xa, CT, dx, _, _, rfl, hdx, T.clT, T.tHeld, recF_held _, _, rfl, ?_⟩
      cases hd : r.held with
      | false =>
        rw [G.go_wait hr1 er hd] at d
        refine iteT ⟨(by show 1 ≤ sizeLine; decide), fun p hp => ?_⟩
        exact d.end_ R' (Frame.same (Same.refl H)) (fun c e => e) hp rfl
      | true =>
        refine iteF ?_
        obtain ⟨ll, ev, tg, e1, e2, e3, le, hst⟩ := G.go_held hr1 er hd
        rw [hst] at d
        have hn := G.now
        refine ⟨_, rfl, b, CB, ad.db, _, _, rfl, hA.self, T.clB, T.bNow, bookF_now _ _ _ _, _, rfl, xa, CT, dx, _, _, rfl, hdx, T.clT, T.tLeft, recF_left _, _, _, rfl, rfl, _, _, rfl, rfl, _, rfl, ?_⟩
        have ed : ((s.now + ll : Nat) : Int) = B.now + r.left := by rw [e1, hn, Int.natCast_add]
        refine ite2 (fun q => ?_) (fun q => ?_)
        · have q : Sn98.LAST < s.now + ll := (last_lt _).mpr (by rw [ed]; exact of_decide_eq_true q)
          rw [if_pos q] at d
          refine ⟨(by show 1 ≤ sizeLine; decide), fun p hp => ?_⟩
          exact d.end_ R' (Frame.same (Same.refl H)) (fun c e => e) hp rfl
        · have q : ¬ Sn98.LAST < s.now + ll := fun z => q (decide_eq_true (by rw [← ed]; exact (last_lt _).mp z))
          rw [if_neg q] at d
          have hz := line_small G
          have hbx : b ≠ xa := Ne.symm (hA.xb hxa)
          have hLx : ad.L ≠ xa := Ne.symm (hA.xL hxa)
          refine ⟨_, rfl, xa, CT, dx, _, rfl, hdx, T.clT, T.tHeld, (by show 7 < 1000; decide), ?_⟩
          rw [putF_held]
          have hb2 : upd H xa (.ins CT dx (recF { r with held := false })) b = some (.ins CB ad.db (bookF B.now ad.D ad.L B.turns)) := by rw [upd_ne hbx]; exact hA.self
          have hL2 : upd H xa (.ins CT dx (recF { r with held := false })) ad.L = some (.lst (ad.ps.map V.ref)) := by rw [upd_ne hLx]; exact hA.lst
          have hT2 : TupsAt (upd H xa (.ins CT dx (recF { r with held := false }))) ad.ps B.line := hA.tups.keep fun p xs h => by rw [upd_ne (ne_of h hdx (by intro z; cases z))]; exact h
          refine ⟨_, rfl, b, ad.db, _, rfl, hb2, bookF_lineup _ _ _ _, _, rfl, _, rfl, b, CB, ad.db, _, _, rfl, hb2, T.clB, T.bNow, bookF_now _ _ _ _, _, rfl, xa, CT, dx, _, _, rfl, upd_same, T.clT, T.tLeft, recF_left _, _, _, rfl, rfl, b, xa, ad.db, ad.D, ad.L, B.now, B.turns, ad.ps, _, dx, { r with held := false }, B.now + r.left, rfl, hb2, hL2, hT2, G.srt, Nat.lt_of_le_of_lt hz big16, upd_same, fun H3 ps3 hb3 hL3 hT3 hx3 fr3 => ?_⟩
          obtain ⟨A3, F3, D3⟩ := hA.changed (r' := { r with held := false, due := B.now + r.left, turn := B.turns + 1 }) G.nd hxa rfl hb3 hL3 hT3 hx3 fun c o e c1 c2 c3 => fr3 _ _ (by rw [upd_ne c3]; exact e) c1 c2 c3
          obtain ⟨W3, Hd3, G3⟩ := G.reset (r' := { r with held := false, due := B.now + r.left, turn := B.turns + 1 }) (n := n) (at_ := s.now + ll) (every := ev) (tag := tg) hr1 er er ed.symm e2 e3 rfl rfl (Nat.le_of_not_lt q) le
            (B' := ⟨B.now, B.turns + 1, repl r.name { r with held := false, due := B.now + r.left, turn := B.turns + 1 } B.recs, ins B.line (B.now + r.left, B.turns + 1, r.name)⟩)
            (by rw [← er]) (by rw [if_pos hd]; rfl) rfl rfl
          refine ⟨(by show 1 ≤ sizeLine; decide), fun p hp => ?_⟩
          exact d.end_ ⟨_, W3, Hd3, A3, G3⟩ F3 D3 hp rfl
end
end TD
set_option Elab.async false
set_option linter.all false
set_option maxRecDepth 100000
set_option maxHeartbeats 2000000
namespace TD
open PySem PySem.Spec PyProof.Rows L2 TM
def spCount (CT CB : Addr) : Sp := fun vs H Q _ => ∃ (b : Addr) (ad : Ad) (s : Sn98.State), vs = [.ref b] ∧ BookRel CT CB H b ad s ∧ Done CT CB b ad H (Sn98.step s .count) Q
def spList (CT CB : Addr) : Sp := fun vs H Q _ => ∃ (b : Addr) (ad : Ad) (s : Sn98.State) (f m : Nat), vs = [.ref b, .int (f : Int), .int (m : Int)] ∧ BookRel CT CB H b ad s ∧ Done CT CB b ad H (Sn98.step s (.list f m)) Q
/-! ### slices -/
theorem cut_from (xs : List V) (f m : Nat) (z y : Int) (h1 : z = (f : Int)) (h2 : y = (f : Int) + (m : Int)) : cutV xs (some z) (some y) = (xs.drop f).take m := by
  have e2 : y = ((f + m : Nat) : Int) := by rw [h2, Int.natCast_add]
  unfold cutV
  rw [h1, e2, HT.sIx_nat, HT.sIx_nat]
  by_cases c : f ≤ xs.length
  · rw [Nat.min_eq_left c]
    by_cases c2 : f + m ≤ xs.length
    · rw [Nat.min_eq_left c2]
      congr 1
      omega
    · rw [Nat.min_eq_right (by omega), List.take_of_length_le (by rw [List.length_drop]; omega), List.take_of_length_le (by rw [List.length_drop]; omega)]
  · rw [List.drop_of_length_le (show xs.length ≤ min f xs.length by omega), List.drop_of_length_le (show xs.length ≤ f by omega), List.take_nil, List.take_nil]
theorem cut_to (xs : List V) (k : Nat) (z : Int) (h : z = (k : Int)) : cutV xs none (some z) = xs.take k := by
  unfold cutV
  rw [h, HT.sIx_nat]
  show (xs.drop 0).take (min k xs.length - 0) = xs.take k
  rw [List.drop_zero, Nat.sub_zero]
  by_cases c : k ≤ xs.length
  · rw [Nat.min_eq_left c]
  · rw [Nat.min_eq_right (by omega), List.take_of_length_le (Nat.le_refl _), List.take_of_length_le (by omega)]
theorem cut_rest (xs : List V) (k : Nat) (z : Int) (h : z = (k : Int)) (hk : k ≤ xs.length) : cutV xs (some z) none = xs.drop k := by
  unfold cutV
  rw [h, HT.sIx_nat, Nat.min_eq_left hk]
  show (xs.drop k).take (xs.length - k) = xs.drop k
  exact List.take_of_length_le (by rw [List.length_drop]; exact Nat.le_refl _)
theorem TupsAt.take {H : Hp} {ps : List Addr} {line : List K3} (t : TupsAt H ps line) (k : Nat) : TupsAt H (ps.take k) (line.take k) := by
  unfold TupsAt at *
  rw [List.map_take, List.map_take, t]
theorem TupsAt.drop {H : Hp} {ps : List Addr} {line : List K3} (t : TupsAt H ps line) (k : Nat) : TupsAt H (ps.drop k) (line.drop k) := by
  unfold TupsAt at *
  rw [List.map_drop, List.map_drop, t]
section
variable {P : Program} {w : World} {K : PySem.W.Frag} {mg : Str → Option Value} {base : Heap} {CT CB : Addr}
theorem scCount : FnScope ["self"] ["self"] (defScope sHowMany) := ⟨rfl, rfl, rfl, by decide +kernel, rfl, by decide +kernel, by decide +kernel⟩
theorem ok_count {f : Addr} {fd : FuncData} (F : Fun K "how_many" "TimerBook.how_many" sHowMany f fd) (T : Txt K mg CT CB) : FnOk P w K mg base CX0 1 f fd ["self"] (spCount CT CB) := by
  refine F.ok scCount (fun vs H Q E h => ?_) (fun cdv A outer s H vs Q E hr h => ?_)
  · obtain ⟨b, ad, s, rfl, _⟩ := h
    rfl
  · obtain ⟨b, ad, s, rfl, R, d⟩ := h
    refine ⟨_, pss_one (ps_ret (pe_lst (pa_cons (pe_callB call_len_seq (by rfl) T.len PySem.boot_len (pa_cons (pe_fld (pv 0) rfl) pa_nil))
      (pa_cons (pe_op op_sub (pe_callB call_lenD (by rfl) T.len PySem.boot_len (pa_cons (pe_fld (pv 0) rfl) pa_nil)) (pe_callB call_len_seq (by rfl) T.len PySem.boot_len (pa_cons (pe_fld (pv 0) rfl) pa_nil))) pa_nil)))), ?_⟩
    have R' := R
    obtain ⟨B, W, Hd, hA, G⟩ := R
    refine ⟨_, rfl, b, CB, ad.db, _, _, rfl, hA.self, T.clB, T.bWait, bookF_wait _ _ _ _, ad.L, ad.ps.map V.ref, rfl, .inl (SqL.of hA.lst), ?_⟩
    refine ⟨_, rfl, b, CB, ad.db, _, _, rfl, hA.self, T.clB, T.bBy, bookF_by _ _ _ _, ad.D, _, rfl, hA.dict, ?_⟩
    refine ⟨_, rfl, b, CB, ad.db, _, _, rfl, hA.self, T.clB, T.bWait, bookF_wait _ _ _ _, ad.L, ad.ps.map V.ref, rfl, .inl (SqL.of hA.lst), _, _, rfl, rfl, ?_⟩
    refine ⟨(by show 2 ≤ sizeLine; decide), fun p hp => ?_⟩
    refine d.end_ R' (Frame.same (Same.refl H)) (fun c e => e) hp ?_
    have e1 : (ad.ps.map V.ref).length = B.line.length := by rw [List.length_map, hA.tups.len]
    have e2 : (kvs ad.ars).length = B.recs.length := by
      unfold kvs
      rw [List.length_map, hA.len]
    rw [G.count_ans, e1, e2]
    rfl
theorem scList : FnScope ["self", "start", "most", "shown", "told", "place", "timer"] ["self", "start", "most"] (defScope sInOrder) := ⟨rfl, rfl, rfl, by decide +kernel, rfl, by decide +kernel, by decide +kernel⟩
theorem ok_list {f : Addr} {fd : FuncData} (F : Fun K "in_order" "TimerBook.in_order" sInOrder f fd) (T : Txt K mg CT CB) : FnOk P w K mg base CX0 1 f fd ["self", "start", "most"] (spList CT CB) := by
  refine F.ok scList (fun vs H Q E h => ?_) (fun cdv A outer s H vs Q E hr h => ?_)
  · obtain ⟨b, ad, s, f, m, rfl, _⟩ := h
    rfl
  · obtain ⟨b, ad, s, f, m, rfl, R, d⟩ := h
    have hu := hu_of hr
    refine ⟨_, pss_cons (ps_set (i := 3) scList.nd rfl (Or.inl rfl) (pe_slice sl_list (pe_fld (pv 0) rfl) (po_some (pv 1)) (po_some (pe_op op_add (pv 1) (pv 2)))))
      (pss_cons (ps_set (i := 4) scList.nd rfl (Or.inl rfl) (pe_lst (pa_cons (pe_callB call_len_seq (by rfl) T.len PySem.boot_len (pa_cons (pv 3) pa_nil)) pa_nil)))
      (pss_cons (ps_for PassesOwn.never rfl (pi_list (pv 3)) (pg_name (i := 5) scList.nd rfl (Or.inl rfl))
        (pss_cons (ps_set (i := 6) scList.nd rfl (Or.inl rfl) (pe_dget hu (pe_fld (pv 0) rfl) (pe_ix ix_tup (pv 5) pe_int (fun _ _ => rfl)) (fun _ _ => rfl)))
        (pss_one (ps_expr (pe_bm PySem.F.plainAttrs_list PySem.F.slot_list_extend PySem.F.type_list_extend mt_extend (pv 4) (pa_cons (pe_lst (pa_cons (pe_fld (pv 6) rfl) (pa_cons (pe_fld (pv 6) rfl) (pa_cons (pe_fld (pv 6) rfl) (pa_cons (pe_fld (pv 6) rfl) pa_nil))))) pa_nil))))))
      (pss_one (ps_ret (pv 4))))), ?_⟩
    have R' := R
    obtain ⟨B, W, Hd, hA, G⟩ := R
    refine ⟨_, rfl, b, CB, ad.db, _, _, rfl, hA.self, T.clB, T.bWait, bookF_wait _ _ _ _, _, rfl, _, rfl, _, rfl, _, rfl, _, _, rfl, rfl, _, rfl, ad.L, ad.ps.map V.ref, rfl, SqL.of hA.lst, fun c hc => ?_⟩
    rw [cut_from _ f m _ _ rfl rfl, ← List.map_drop, ← List.map_take]
    generalize hps : (ad.ps.drop f).take m = ps
    have sA : Same H (upd H c (.lst (ps.map V.ref))) := same_new hc _
    refine ⟨_, rfl, c, _, rfl, .inl (SqL.of upd_same), ?_⟩
    rw [List.length_map]
    refine ⟨(by show 1 ≤ sizeLine; decide), fun t ht => ?_⟩
    have hct : c ≠ t := fun z => by rw [← z, upd_same] at ht; cases ht
    have ht0 : H t = none := by rw [upd_ne (Ne.symm hct)] at ht; exact ht
    have hTs : TupsAt H ps (((W.drop f).take m).map Rec.key) := by
      have := (hA.tups.drop f).take m
      rw [hps, G.line, ← List.map_drop, ← List.map_take] at this
      exact this
    generalize hWs : (W.drop f).take m = Ws at hTs
    have hlen : ps.length = Ws.length := by rw [hTs.len, List.length_map]
    have hWl : Ws.length ≤ 65536 := by
      have h1 := line_small G
      rw [G.lenL] at h1
      rw [← hWs, List.length_take, List.length_drop]
      omega
    have hWm : ∀ r ∈ Ws, r ∈ B.recs := fun r hr => G.mem.mpr (.inl (by rw [← hWs] at hr; exact List.mem_of_mem_drop (List.mem_of_mem_take hr)))
    have big : 300000 < sizeLine := by decide
    refine ⟨_, rfl, c, rfl, ⟨_, SqL.of (by rw [upd_ne hct]; exact upd_same)⟩, for_list (K := K) (a := c) (xs := ps.map V.ref) (fun i σ H' => ∃ (v w : Option V), σ = [some (.ref b), some (.int f), some (.int m), some (.ref c), some (.ref t), v, w] ∧ Same H H' ∧ H' c = some (.lst (ps.map V.ref)) ∧
        H' t = some (.lst (((ps.length : Int) :: (Ws.take i).flatMap row4).map V.int))) ?_ (fun i σ H' _ ⟨_, _, _, _, h, _⟩ => SqL.of h) ?_ ?_⟩
    · refine ⟨none, none, rfl, fun c0 o e => ?_, ?_, ?_⟩
      · rw [upd_ne (ne_of_none e ht0)]
        exact sA _ _ e
      · rw [upd_ne hct, upd_same]
      · rw [upd_same]
        rfl
    · rintro i y σ H' hi ⟨v, w', rfl, s', hc', ht'⟩
      rw [List.getElem?_map] at hi
      obtain ⟨p, hp, rfl⟩ := Option.map_eq_some_iff.mp hi
      have hil : i < Ws.length := by
        have := (List.getElem?_eq_some_iff.mp hp).1
        omega
      have er : Ws[i]? = some Ws[i] := List.getElem?_eq_getElem hil
      generalize Ws[i] = r at er
      have hrm : r ∈ B.recs := hWm r (List.mem_of_getElem? er)
      obtain ⟨p2, hp2, hpt⟩ := hTs.get (i := i) (k := r.key) (by rw [List.getElem?_map, er]; rfl)
      obtain rfl : p = p2 := Option.some.inj (hp.symm.trans hp2)
      obtain ⟨xa, hxa⟩ := hA.of_mem hrm
      obtain ⟨dx, hdx⟩ := hA.at_ _ hxa
      have hdx : H' xa = some (.ins CT dx (recF r)) := s' _ _ hdx
      have hA' := hA.same s'
      have hg : DGet H' ad.D (V.int r.name) (some (.ref xa)) := by
        have := DGet.k (k := Sum.inl r.name) hA'.dict
        rw [kvs_val (hA.ndn G.nd) hxa rfl] at this
        exact this
      refine ⟨_, rfl, b, CB, ad.db, _, _, rfl, hA'.self, T.clB, T.bBy, bookF_by _ _ _ _, _, rfl, p, t3 r.key, _, _, rfl, rfl, SqT.of (s' _ _ hpt), at_of (j := 2) rfl rfl, ad.D, .ref xa, rfl, hg, ?_⟩
      refine ⟨_, rfl, .inl ⟨rfl, _, SqL.of ht'⟩, ?_⟩
      refine ⟨_, rfl, xa, CT, dx, _, _, rfl, hdx, T.clT, T.tName, recF_name _, ?_⟩
      refine ⟨_, rfl, xa, CT, dx, _, _, rfl, hdx, T.clT, T.tDue, recF_due _, ?_⟩
      refine ⟨_, rfl, xa, CT, dx, _, _, rfl, hdx, T.clT, T.tEvery, recF_every _, ?_⟩
      refine ⟨_, rfl, xa, CT, dx, _, _, rfl, hdx, T.clT, T.tTag, recF_tag _, ?_⟩
      refine ⟨(by show 4 ≤ sizeLine; decide), fun q hq => ?_⟩
      have tq : t ≠ q := ne_of_none ht' hq
      have cq : c ≠ q := ne_of_none hc' hq
      have hfl : ((Ws.take i).flatMap row4).length ≤ 4 * 65536 := by
        rw [List.length_flatMap]
        have : ∀ l : List Rec, (l.map fun r => (row4 r).length).sum = 4 * l.length := fun l => by
          induction l with
          | nil => rfl
          | cons a l ih => rw [List.map_cons, List.sum_cons, ih, List.length_cons]; show 4 + 4 * l.length = _; omega
        rw [this, List.length_take]
        omega
      refine ⟨t, q, _, _, rfl, rfl, (by rw [upd_ne tq]; exact ht'), upd_same, ?_, ?_⟩
      · rw [List.length_map, List.length_cons]
        show _ + 4 ≤ sizeLine
        omega
      · refine ⟨_, _, rfl, fun c0 o e => ?_, ?_, ?_⟩
        · have e' := s' _ _ e
          rw [upd_ne (ne_of_none e ht0), upd_ne (ne_of_none e' hq)]
          exact e'
        · rw [upd_ne hct, upd_ne cq]
          exact hc'
        · rw [upd_same, List.take_succ, er, List.flatMap_append]
          show some (HO.lst (_ ++ _)) = some (HO.lst _)
          rw [← List.cons_append, List.map_append]
          rfl
    · rintro σ H' ⟨v, w', rfl, s', hc', ht'⟩
      refine ⟨_, rfl, ?_⟩
      rw [List.length_map, hlen, List.take_length] at ht'
      refine d H' t ad (R'.same s') (Frame.same s') ht0 ?_ (hA.new ht0)
      rw [G.list_ans, hWs]
      exact ht'
end
end TD
set_option Elab.async false
set_option linter.all false
set_option maxRecDepth 100000
set_option maxHeartbeats 2000000
namespace L2
open PySem PySem.Spec PyProof.Rows
section
variable {X : Cx}
theorem log2_small {n : Nat} (h : n < 2 ^ 64) : n.log2 < 9000 := by
  by_cases z : n = 0
  · subst z
    decide
  · exact Nat.lt_trans ((Nat.log2_lt z).mpr h) (by decide)
/-- // by a positive divisor below 2^64 -/
theorem op_fdivW : OpR X (binaryOp .FloorDiv) (rI (fun _ j => 0 < j ∧ j < 18446744073709551616) fun i j => .int (i / j)) := opI fun i j _ _ _ _ _ hc q => by
  have h1 : (0 : Int) < j := hc.1
  have h2 : j < 18446744073709551616 := hc.2
  exact floordiv_int (by omega) (by rw [Int.fdiv_eq_ediv_of_nonneg i (by omega)]; exact q) (.inl (PyProof.noPylong_of_log2 (log2_small (by show j.natAbs < 18446744073709551616; omega))))
/-! what a test hands on -/
def MnE (t : TE) : Prop := ∀ (σ : St) (H : Hp) (Q Q' : VK), (∀ v H1, Q v H1 → Q' v H1) → t σ H Q → t σ H Q'
def MnR (r : R2) : Prop := ∀ (x y : V) (H : Hp) (Q Q' : VK), (∀ v H1, Q v H1 → Q' v H1) → r x y H Q → r x y H Q'
def MnT (t : TT) : Prop := ∀ (σ : St) (H : Hp) (Q Q' : Bool → Hp → Prop), (∀ v H1, Q v H1 → Q' v H1) → t σ H Q → t σ H Q'
theorem mn_var (i : Nat) : MnE (tVar i) := fun σ H Q Q' hq ⟨v, e, q⟩ => ⟨v, e, hq _ _ q⟩
theorem mn_c (v : V) : MnE (tC v) := fun σ H Q Q' hq q => hq _ _ q
theorem mn_fld {K : PySem.W.Frag} {t : TE} {f : Str} (h : MnE t) : MnE (tFld K t f) := fun σ H Q Q' hq q => h σ H _ _ (fun x H1 ⟨a, C, dx, fs, v, e1, e2, e3, e4, e5, q⟩ => ⟨a, C, dx, fs, v, e1, e2, e3, e4, e5, hq _ _ q⟩) q
theorem mn_op {r : R2} {t u : TE} (hr : MnR r) (h1 : MnE t) (h2 : MnE u) : MnE (tOp r t u) := fun σ H Q Q' hq q => h1 σ H _ _ (fun x H1 q => h2 σ H1 _ _ (fun y H2 q => hr x y H2 Q Q' hq q) q) q
theorem mn_rI0 (g : Int → Int → V) : MnR (rI0 g) := fun x y H Q Q' hq ⟨i, j, e1, e2, q⟩ => ⟨i, j, e1, e2, hq _ _ q⟩
theorem mn_ixL {K : PySem.W.Frag} : MnR (rIxL K) := fun x y H Q Q' hq ⟨p, xs, i, v, e1, e2, e3, e4, q⟩ => ⟨p, xs, i, v, e1, e2, e3, e4, hq _ _ q⟩
theorem mn_ixT {K : PySem.W.Frag} : MnR (rIxT K) := fun x y H Q Q' hq ⟨p, xs, i, v, e1, e2, e3, e4, q⟩ => ⟨p, xs, i, v, e1, e2, e3, e4, hq _ _ q⟩
theorem mn_test {t : TE} (h : MnE t) : MnT (tTest t) := fun σ H Q Q' hq q => h σ H _ _ (fun x H1 ⟨k, e, q⟩ => ⟨k, e, hq _ _ q⟩) q
theorem mn_and {t u : TT} (h1 : MnT t) (h2 : MnT u) : MnT (tAnd t u) := fun σ H Q Q' hq q => h1 σ H _ _ (fun c H1 q => by
  cases c with
  | true =>
    rw [if_pos rfl] at q ⊢
    exact h2 σ H1 Q Q' hq q
  | false =>
    rw [if_neg Bool.false_ne_true] at q ⊢
    exact hq _ _ q) q
end
end L2
namespace TD
open PySem PySem.Spec PyProof.Rows L2 TM
theorem bookF_howcome (now : Int) (D L : Addr) (turns : Int) : (bookF now D L turns).lookup ("how_many_come" : Str) = none := by rfl
theorem bookF_come (now : Int) (D L : Addr) (turns : Int) : (bookF now D L turns).lookup ("come" : Str) = none := by rfl
def spHowCome (CB : Addr) : Sp := fun vs H Q _ => ∃ (b db D L : Addr) (now turns : Int) (ps : List Addr) (line : List K3) (m : Nat), vs = [.ref b, .int (m : Int)] ∧ H b = some (.ins CB db (bookF now D L turns)) ∧
  H L = some (.lst (ps.map V.ref)) ∧ TupsAt H ps line ∧ ∀ k : Nat, k ≤ m → k ≤ line.length → (∀ x ∈ line.take k, x.1 ≤ now) → (k = m ∨ k = line.length ∨ ∃ x, line[k]? = some x ∧ now < x.1) → Q (.int k) H
def spCome (CT CB : Addr) : Sp := fun vs H Q _ => ∃ (b : Addr) (ad : Ad) (B : Book) (x : Addr × Rec), vs = [.ref b, .ref x.1] ∧ BookAt CT CB H b ad B ∧ Srt B.line ∧ (B.recs.map Rec.name).Nodup ∧ x ∈ ad.ars ∧ B.line.length < sizeLine ∧
  0 ≤ x.2.every ∧ x.2.every ≤ 9223372036854775807 ∧
  ∀ H' ad' q, (Ends1 B.now x.2 → BookAt CT CB H' b ad' (goneB B x.2)) → (¬ Ends1 B.now x.2 → BookAt CT CB H' b ad' (againB B x.2)) → Frame H b ad H' ad' → H q = none → H' q = some (.lst [.int x.2.name, .int x.2.tag, .int x.2.due, .int (leftOut B.now x.2)]) → ¬ ad'.has b q → Q (.ref q) H'
section
variable {P : Program} {w : World} {K : PySem.W.Frag} {mg : Str → Option Value} {base : Heap} {CT CB : Addr}
theorem scHowCome : FnScope ["self", "most", "highest", "many"] ["self", "most"] (defScope sHowCome) := ⟨rfl, rfl, rfl, by decide +kernel, rfl, by decide +kernel, by decide +kernel⟩
theorem ok_howcome {f : Addr} {fd : FuncData} (F : Fun K "how_many_come" "TimerBook.how_many_come" sHowCome f fd) (T : Txt K mg CT CB) : FnOk P w K mg base CX0 1 f fd ["self", "most"] (spHowCome CB) := by
  refine F.ok scHowCome (fun vs H Q E h => ?_) (fun cdv A outer s H vs Q E hr h => ?_)
  · obtain ⟨b, db, D, L, now, turns, ps, line, m, rfl, _⟩ := h
    rfl
  · obtain ⟨b, db, D, L, now, turns, ps, line, m, rfl, hb, hL, hT, k⟩ := h
    refine ⟨_, pss_cons (ps_set (i := 2) scHowCome.nd rfl (Or.inl rfl) (pe_callB (call_min2 rfl) (by rfl) T.mn PyProof.Rows.boot_min (pa_cons (pv 1) (pa_cons (pe_callB call_len_seq (by rfl) T.len PySem.boot_len (pa_cons (pe_fld (pv 0) rfl) pa_nil)) pa_nil))))
      (pss_cons (ps_set (i := 3) scHowCome.nd rfl (Or.inl rfl) pe_int)
      (pss_cons (ps_while PassesOwn.never (PW.pt (pw_and (pt_cmpR op_lt (pv 3) (pv 2) (nomark _)) (pw_and1 (pt_cmpR op_le (pe_ix ix_tup (pe_ix ix_list (pe_fld (pv 0) rfl) (pv 3) (fun _ _ => rfl)) pe_int (fun _ _ => rfl)) (pe_fld (pv 0) rfl) (nomark _)))))
        (pss_one (ps_set (i := 3) scHowCome.nd rfl (Or.inl rfl) (pe_op op_add (pv 3) pe_int))))
      (pss_one (ps_ret (pv 3))))), ?_⟩
    have hlen := hT.len
    refine ⟨_, rfl, _, rfl, b, CB, db, _, _, rfl, hb, T.clB, T.bWait, bookF_wait _ _ _ _, L, ps.map V.ref, rfl, .inl (SqL.of hL), _, _, rfl, ?_⟩
    rw [List.length_map, hlen]
    have eh : (if (line.length : Int) < (m : Int) then (line.length : Int) else (m : Int)) = ((min m line.length : Nat) : Int) := by
      by_cases c : (line.length : Int) < (m : Int)
      · rw [if_pos c]; omega
      · rw [if_neg c]; omega
    generalize hh : (if (line.length : Int) < (m : Int) then (line.length : Int) else (m : Int)) = hi at eh
    refine while_by (fun σ H' => ∃ (z : Int) (j : Nat), σ = [some (.ref b), some (.int m), some (.int hi), some (.int z)] ∧ z = (j : Int) ∧ H' = H ∧ j ≤ min m line.length ∧ ∀ x ∈ line.take j, x.1 ≤ now)
      (fun σ _ => match σ with | [_, _, _, some (.int z)] => (hi - z).toNat | _ => 0) ⟨0, 0, rfl, rfl, rfl, Nat.zero_le _, fun x hx => nomatch hx⟩ ?_ ?_
    · rintro σ H' ⟨z, j, rfl, hz, rfl, hj, hx⟩
      refine ⟨_, rfl, _, rfl, _, _, rfl, rfl, _, rfl, ?_⟩
      refine ite2 (fun q => ?_) (fun q => ?_)
      · have lt : z < hi := of_decide_eq_true q
        have hjl : j < line.length := by omega
        obtain ⟨p, hp, hpt⟩ := hT.get (List.getElem?_eq_getElem hjl)
        refine ⟨_, rfl, b, CB, db, _, _, rfl, hb, T.clB, T.bWait, bookF_wait _ _ _ _, _, rfl, L, _, _, _, rfl, rfl, SqL.of hL, at_of (j := j) hz (by rw [List.getElem?_map, hp]; rfl), ?_⟩
        refine ⟨p, t3 line[j], _, _, rfl, rfl, SqT.of hpt, at_of (j := 0) rfl rfl, ?_⟩
        refine ⟨_, rfl, b, CB, db, _, _, rfl, hb, T.clB, T.bNow, bookF_now _ _ _ _, _, _, rfl, rfl, _, rfl, ?_⟩
        refine ite2 (fun q => ?_) (fun q => ?_)
        · have le : line[j].1 ≤ now := of_decide_eq_true q
          refine ⟨_, rfl, _, _, rfl, rfl, ⟨z + 1, j + 1, rfl, by omega, rfl, by omega, fun x hx' => ?_⟩, ?_⟩
          · rw [List.take_succ, List.getElem?_eq_getElem hjl] at hx'
            rcases List.mem_append.mp hx' with h | h
            · exact hx x h
            · have : x = line[j] := by simpa using h
              rw [this]
              exact le
          · show (hi - (z + 1)).toNat < (hi - z).toNat
            omega
        · have gt : ¬ line[j].1 ≤ now := fun y => q (decide_eq_true y)
          refine ⟨_, rfl, ?_⟩
          rw [hz]
          exact k j (by omega) (by omega) hx (.inr (.inr ⟨line[j], List.getElem?_eq_getElem hjl, by omega⟩))
      · have ge : ¬ z < hi := fun y => q (decide_eq_true y)
        refine iteF ?_
        refine ⟨_, rfl, ?_⟩
        rw [hz]
        refine k j (by omega) (by omega) hx ?_
        by_cases c : j = m
        · exact .inl c
        · exact .inr (.inl (by omega))
    · exact mn_and (mn_test (mn_op (mn_rI0 _) (mn_var _) (mn_var _))) (mn_test (mn_op (mn_rI0 _) (mn_op mn_ixT (mn_op mn_ixL (mn_fld (mn_var _)) (mn_var _)) (mn_c _)) (mn_fld (mn_var _))))
theorem BookAt.popped {H : Hp} {b : Addr} {ad : Ad} {B : Book} (A : BookAt CT CB H b ad B) (n : Int) : BookAt CT CB (upd H ad.D (.dK (kvs (ad.ars.filter fun y => y.2.name != n)))) b { ad with ars := ad.ars.filter fun y => y.2.name != n } { B with recs := B.recs.filter fun q => q.name != n } ∧
    Frame H b ad (upd H ad.D (.dK (kvs (ad.ars.filter fun y => y.2.name != n)))) { ad with ars := ad.ars.filter fun y => y.2.name != n } := by
  refine ⟨⟨?_, upd_same, ?_, ?_, fun y hy => ?_, nodup_filter_map _ A.nd, A.tups.keep fun p xs h => ?_⟩, fun c o e nh => ⟨?_, fun z => nh ?_⟩⟩
  · rw [upd_ne A.Db]; exact A.self
  · rw [upd_ne A.LD]; exact A.lst
  · show (ad.ars.filter fun y => y.2.name != n).map (fun y : Addr × Rec => y.2) = B.recs.filter fun q => q.name != n
    rw [← A.recs]
    exact recs_filter (fun q => q.name != n) ad.ars
  · have hy' := (List.mem_filter.mp hy).1
    obtain ⟨dy, hdy⟩ := A.at_ y hy'
    exact ⟨dy, by rw [upd_ne (A.xD hy')]; exact hdy⟩
  · rw [upd_ne (ne_of h A.dict (by intro z; cases z))]; exact h
  · rw [upd_ne (fun z => nh (.inr (.inl z)))]; exact e
  · rcases z with z | z | z | z
    · exact .inl z
    · exact .inr (.inl z)
    · exact .inr (.inr (.inl z))
    · obtain ⟨y, hy, ey⟩ := List.mem_map.mp z
      exact .inr (.inr (.inr (List.mem_map.mpr ⟨y, (List.mem_filter.mp hy).1, ey⟩)))
theorem scCome : FnScope ["self", "timer", "due", "left_out", "due_again"] ["self", "timer"] (defScope sCome) := ⟨rfl, rfl, rfl, by decide +kernel, rfl, by decide +kernel, by decide +kernel⟩
theorem ok_come {f fU : Addr} {fd fdU : FuncData} (F : Fun K "come" "TimerBook.come" sCome f fd) (T : Txt K mg CT CB) (GU : FnOk P w K mg base CX0 2 fU fdU ["self", "timer", "due"] (spLineUp CT CB)) (bU : Binds K fdU ["self", "timer", "due"] []) (mU : Meth K CB "line_up" fU) :
    FnOk P w K mg base CX0 3 f fd ["self", "timer"] (spCome CT CB) := by
  obtain ⟨u3, g3, r3⟩ := T.ht
  refine F.ok scCome (fun vs H Q E h => ?_) (fun cdv A outer sh H vs Q E hr h => ?_)
  · obtain ⟨b, ad, B, x, rfl, _⟩ := h
    rfl
  · obtain ⟨b, ad, B, ⟨xa, r⟩, rfl, hA, hs, hn, hx, hz, v1, v2, k⟩ := h
    refine ⟨_, pss_cons (ps_set (i := 2) scCome.nd rfl (Or.inl rfl) (pe_fld (pv 1) rfl))
      (pss_cons (ps_if (pt_cmpR op_eq (pe_fld (pv 1) rfl) pe_int (nomark _)) (pss_cons (ps_expr (pe_dpop1 (pe_fld (pv 0) rfl) (pe_fld (pv 1) rfl) ⟨rfl, rfl, rfl, rfl⟩)) (pss_one (ps_ret (pe_lst (pa_cons (pe_fld (pv 1) rfl) (pa_cons (pe_fld (pv 1) rfl) (pa_cons (pv 2) (pa_cons pe_int pa_nil)))))))) pss_nil)
      (pss_cons (ps_set (i := 3) scCome.nd rfl (Or.inl rfl) (pe_op op_fdivW (pe_op op_sub (pe_fld (pv 0) rfl) (pv 2)) (pe_fld (pv 1) rfl)))
      (pss_cons (ps_set (i := 4) scCome.nd rfl (Or.inl rfl) (pe_op op_add (pv 2) (pe_op op_mul (pe_op op_add (pv 3) pe_int) (pe_fld (pv 1) rfl))))
      (pss_cons (ps_if (pt_cmpR op_gt (pv 4) (pe_glob rfl g3 r3) (nomark _)) (pss_one (ps_expr (pe_dpop1 (pe_fld (pv 0) rfl) (pe_fld (pv 1) rfl) ⟨rfl, rfl, rfl, rfl⟩))) (pss_one (ps_expr (pe_meth (pv 0) T.clB mU GU hr bU .nil pass0 (pa_cons (pv 1) (pa_cons (pv 4) pa_nil))))))
      (pss_one (ps_ret (pe_lst (pa_cons (pe_fld (pv 1) rfl) (pa_cons (pe_fld (pv 1) rfl) (pa_cons (pv 2) (pa_cons (pv 3) pa_nil))))))))))), ?_⟩
    have v1 : 0 ≤ r.every := v1
    have v2 : r.every ≤ 9223372036854775807 := v2
    obtain ⟨dx, hdx⟩ := hA.at_ _ hx
    have hdx : H xa = some (.ins CT dx (recF r)) := hdx
    have hxD : xa ≠ ad.D := hA.xD hx
    obtain ⟨Ap, Fp⟩ := hA.popped r.name
    have hv := kvs_val (hA.ndn hn) hx (n := r.name) rfl
    have gone : ∀ lo : Int, lo = leftOut B.now r → Ends1 B.now r → ∀ q, upd H ad.D (.dK (kvs (ad.ars.filter fun y => y.2.name != r.name))) q = none → Q (.ref q) (upd (upd H ad.D (.dK (kvs (ad.ars.filter fun y => y.2.name != r.name)))) q (.lst [.int r.name, .int r.tag, .int r.due, .int lo])) := fun lo el he q hq => by
      have hq0 : H q = none := by
        by_cases z : q = ad.D
        · rw [z, upd_same] at hq; cases hq
        · rw [upd_ne z] at hq; exact hq
      refine k _ { ad with ars := ad.ars.filter fun y => y.2.name != r.name } q (fun _ => Ap.same (same_new hq _)) (fun z => absurd he z) (Fp.trans (Frame.same (same_new hq _))) hq0 ?_ (Ap.new hq)
      rw [upd_same, el]
    refine ⟨_, rfl, xa, CT, dx, _, _, rfl, hdx, T.clT, T.tDue, recF_due _, ?_⟩
    refine ⟨_, rfl, xa, CT, dx, _, _, rfl, hdx, T.clT, T.tEvery, recF_every _, rfl, _, rfl, ?_⟩
    refine ite2 (fun q => ?_) (fun q => ?_)
    · have ev : r.every = 0 := V.int.inj (of_decide_eq_true q)
      refine ⟨_, rfl, b, CB, ad.db, _, _, rfl, hA.self, T.clB, T.bBy, bookF_by _ _ _ _, ad.D, rfl, .inl ⟨_, .inl hA.dict⟩, _, rfl, xa, CT, dx, _, _, rfl, hdx, T.clT, T.tName, recF_name _, kvs ad.ars, Sum.inl r.name, V.ref xa, hA.dict, rfl, hv, ?_⟩
      rw [kvs_drop]
      have hx1 : upd H ad.D (.dK (kvs (ad.ars.filter fun y => y.2.name != r.name))) xa = some (.ins CT dx (recF r)) := by rw [upd_ne hxD]; exact hdx
      refine ⟨_, rfl, xa, CT, dx, _, _, rfl, hx1, T.clT, T.tName, recF_name _, ?_⟩
      refine ⟨_, rfl, xa, CT, dx, _, _, rfl, hx1, T.clT, T.tTag, recF_tag _, _, rfl, ?_⟩
      refine ⟨(by show 4 ≤ sizeLine; decide), ?_⟩
      exact gone 0 (by unfold leftOut; rw [if_pos ev]) (.inl ev)
    · have ev : ¬ r.every = 0 := fun z => q (decide_eq_true (by rw [z]))
      have elo : leftOut B.now r = (B.now - r.due) / r.every := by unfold leftOut; rw [if_neg ev]
      refine ⟨_, rfl, b, CB, ad.db, _, _, rfl, hA.self, T.clB, T.bNow, bookF_now _ _ _ _, _, rfl, _, _, rfl, rfl, _, rfl, xa, CT, dx, _, _, rfl, hdx, T.clT, T.tEvery, recF_every _, _, _, rfl, rfl, ⟨by omega, by omega⟩, ?_⟩
      refine ⟨_, rfl, _, rfl, _, _, rfl, rfl, _, rfl, xa, CT, dx, _, _, rfl, hdx, T.clT, T.tEvery, recF_every _, _, _, rfl, rfl, .inr ⟨by omega, by omega⟩, _, _, rfl, rfl, ?_⟩
      have ea : r.due + ((B.now - r.due) / r.every + 1) * r.every = dueAgain B.now r := by unfold dueAgain; rw [elo]
      refine ⟨_, rfl, _, _, rfl, rfl, _, rfl, ?_⟩
      refine ite2 (fun q => ?_) (fun q => ?_)
      · have he : Ends1 B.now r := .inr (by rw [← ea]; exact of_decide_eq_true q)
        refine ⟨_, rfl, b, CB, ad.db, _, _, rfl, hA.self, T.clB, T.bBy, bookF_by _ _ _ _, ad.D, rfl, .inl ⟨_, .inl hA.dict⟩, _, rfl, xa, CT, dx, _, _, rfl, hdx, T.clT, T.tName, recF_name _, kvs ad.ars, Sum.inl r.name, V.ref xa, hA.dict, rfl, hv, ?_⟩
        rw [kvs_drop]
        have hx1 : upd H ad.D (.dK (kvs (ad.ars.filter fun y => y.2.name != r.name))) xa = some (.ins CT dx (recF r)) := by rw [upd_ne hxD]; exact hdx
        refine ⟨_, rfl, xa, CT, dx, _, _, rfl, hx1, T.clT, T.tName, recF_name _, ?_⟩
        refine ⟨_, rfl, xa, CT, dx, _, _, rfl, hx1, T.clT, T.tTag, recF_tag _, _, rfl, _, rfl, ?_⟩
        refine ⟨(by show 4 ≤ sizeLine; decide), ?_⟩
        exact gone _ elo.symm he
      · have he : ¬ Ends1 B.now r := fun z => z.elim ev fun z => q (decide_eq_true (by rw [← ea] at z; exact z))
        refine ⟨_, rfl, b, ad.db, _, rfl, hA.self, bookF_lineup _ _ _ _, _, rfl, _, rfl, b, xa, ad.db, ad.D, ad.L, B.now, B.turns, ad.ps, B.line, dx, r, r.due + ((B.now - r.due) / r.every + 1) * r.every, rfl, hA.self, hA.lst, hA.tups, hs, hz, hdx, fun H3 ps3 hb3 hL3 hT3 hx3 fr3 => ?_⟩
        rw [ea] at hT3 hx3
        obtain ⟨A3, F3, D3⟩ := hA.changed (r' := anew B r) hn hx rfl hb3 hL3 hT3 hx3 fun c o e c1 c2 c3 => fr3 _ _ e c1 c2 c3
        refine ⟨_, rfl, xa, CT, dx, _, _, rfl, hx3, T.clT, T.tName, recF_name _, ?_⟩
        refine ⟨_, rfl, xa, CT, dx, _, _, rfl, hx3, T.clT, T.tTag, recF_tag _, _, rfl, _, rfl, ?_⟩
        refine ⟨(by show 4 ≤ sizeLine; decide), fun q hq => ?_⟩
        exact k _ _ q (fun z => absurd z he) (fun _ => A3.same (same_new hq _)) (F3.trans (Frame.same (same_new hq _))) (D3 q hq) (by rw [upd_same, elo]) (A3.new hq)
theorem BookAt.other {H : Hp} {b t : Addr} {ad : Ad} {B : Book} {xs ys : List V} (A : BookAt CT CB H b ad B) (hn : ¬ ad.has b t) (ht : H t = some (.lst xs)) : BookAt CT CB (upd H t (.lst ys)) b ad B := by
  refine ⟨?_, ?_, ?_, A.recs, fun x hx => ?_, A.nd, A.tups.keep fun p xs h => ?_⟩
  · rw [upd_ne (fun z => hn (.inl z.symm))]; exact A.self
  · rw [upd_ne (fun z => hn (.inr (.inl z.symm)))]; exact A.dict
  · rw [upd_ne (fun z => hn (.inr (.inr (.inl z.symm))))]; exact A.lst
  · obtain ⟨dx, h⟩ := A.at_ x hx
    refine ⟨dx, ?_⟩
    rw [upd_ne (fun z => hn (.inr (.inr (.inr (List.mem_map.mpr ⟨x, hx, z⟩)))))]
    exact h
  · rw [upd_ne (ne_of h ht (by intro z; cases z))]
    exact h
theorem BookAt.tupOut {H : Hp} {b p : Addr} {ad : Ad} {B : Book} {xs : List V} (A : BookAt CT CB H b ad B) (h : H p = some (.tup xs)) : ¬ ad.has b p := by
  rintro (z | z | z | z)
  · rw [z, A.self] at h; cases h
  · rw [z, A.dict] at h; cases h
  · rw [z, A.lst] at h; cases h
  · obtain ⟨x, hx, e⟩ := List.mem_map.mp z
    obtain ⟨dx, h1⟩ := A.at_ x hx
    rw [← e, h1] at h
    cases h
def spTime (CT CB : Addr) : Sp := fun vs H Q _ => ∃ (b : Addr) (ad : Ad) (s : Sn98.State) (n m : Nat), vs = [.ref b, .int (n : Int), .int (m : Int)] ∧ BookRel CT CB H b ad s ∧ Done CT CB b ad H (Sn98.step s (.time n m)) Q
theorem come4_len (l : List (Sn98.Timer × Nat)) : (l.flatMap come4).length = 4 * l.length := by
  induction l with
  | nil => rfl
  | cons a l ih =>
    rw [List.flatMap_cons, List.length_append, ih, List.length_cons]
    show 4 + 4 * l.length = _
    omega
theorem scTime : FnScope ["self", "now", "most", "coming", "told", "place"] ["self", "now", "most"] (defScope sComeDue) := ⟨rfl, rfl, rfl, by decide +kernel, rfl, by decide +kernel, by decide +kernel⟩
theorem ok_time {f fH fC : Addr} {fd fdH fdC : FuncData} (F : Fun K "come_due" "TimerBook.come_due" sComeDue f fd) (T : Txt K mg CT CB) (GH : FnOk P w K mg base CX0 1 fH fdH ["self", "most"] (spHowCome CB)) (bH : Binds K fdH ["self", "most"] []) (mH : Meth K CB "how_many_come" fH)
    (GC : FnOk P w K mg base CX0 3 fC fdC ["self", "timer"] (spCome CT CB)) (bC : Binds K fdC ["self", "timer"] []) (mC : Meth K CB "come" fC) :
    FnOk P w K mg base CX0 4 f fd ["self", "now", "most"] (spTime CT CB) := by
  obtain ⟨u1, g1, r1⟩ := T.e1
  obtain ⟨u4, g4, r4⟩ := T.e4
  obtain ⟨u3, g3, r3⟩ := T.ht
  refine F.ok scTime (fun vs H Q E h => ?_) (fun cdv A outer sh H vs Q E hr h => ?_)
  · obtain ⟨b, ad, s, n, m, rfl, _⟩ := h
    rfl
  · obtain ⟨b, ad, s, n, m, rfl, R, d⟩ := h
    have hu := hu_of hr
    refine ⟨_, pss_cons (ps_if (pt_cmpR op_gt (pv 1) (pe_glob rfl g3 r3) (nomark _)) (pss_one (ps_ret (pe_lst (pa_cons (pe_glob rfl g1 r1) pa_nil)))) pss_nil)
      (pss_cons (ps_if (pt_cmpR op_lt (pv 1) (pe_fld (pv 0) rfl) (nomark _)) (pss_one (ps_ret (pe_lst (pa_cons (pe_glob rfl g4 r4) pa_nil)))) pss_nil)
      (pss_cons (ps_fld (pv 0) (pv 1) rfl)
      (pss_cons (ps_set (i := 3) scTime.nd rfl (Or.inl rfl) (pe_slice sl_list (pe_fld (pv 0) rfl) po_none (po_some (pe_meth (pv 0) T.clB mH GH (hr.mono (by decide)) bH .nil pass0 (pa_cons (pv 2) pa_nil)))))
      (pss_cons (ps_fld (pv 0) (pe_slice sl_list (pe_fld (pv 0) rfl) (po_some (pe_callB call_len_seq (by rfl) T.len PySem.boot_len (pa_cons (pv 3) pa_nil))) po_none) rfl)
      (pss_cons (ps_set (i := 4) scTime.nd rfl (Or.inl rfl) (pe_lst (pa_cons (pe_callB call_len_seq (by rfl) T.len PySem.boot_len (pa_cons (pv 3) pa_nil)) pa_nil)))
      (pss_cons (ps_for PassesOwn.never rfl (pi_list (pv 3)) (pg_name (i := 5) scTime.nd rfl (Or.inl rfl))
        (pss_one (ps_expr (pe_bm PySem.F.plainAttrs_list PySem.F.slot_list_extend PySem.F.type_list_extend mt_extend (pv 4)
          (pa_cons (pe_meth (pv 0) T.clB mC GC hr bC .nil pass0 (pa_cons (pe_dget hu (pe_fld (pv 0) rfl) (pe_ix ix_tup (pv 5) pe_int (fun _ _ => rfl)) (fun _ _ => rfl)) pa_nil)) pa_nil)))))
      (pss_one (ps_ret (pv 4))))))))), ?_⟩
    refine ⟨_, rfl, _, _, rfl, rfl, _, rfl, ?_⟩
    refine ite2 (fun q => ?_) (fun q1 => ?_)
    · rw [time_high ((last_lt n).mpr (of_decide_eq_true q))] at d
      refine ⟨(by show 1 ≤ sizeLine; decide), fun p hp => ?_⟩
      exact d.end_ R (Frame.same (Same.refl H)) (fun c e => e) hp rfl
    have h1 : ¬ Sn98.LAST < n := fun z => q1 (decide_eq_true ((last_lt n).mp z))
    have R' := R
    obtain ⟨B, W, Hd, hA, G⟩ := R
    refine ⟨_, rfl, _, rfl, b, CB, ad.db, _, _, rfl, hA.self, T.clB, T.bNow, bookF_now _ _ _ _, _, _, rfl, rfl, _, rfl, ?_⟩
    refine ite2 (fun q => ?_) (fun q2 => ?_)
    · rw [time_back h1 (by have := G.now; have : (n : Int) < B.now := of_decide_eq_true q; omega)] at d
      refine ⟨(by show 1 ≤ sizeLine; decide), fun p hp => ?_⟩
      exact d.end_ R' (Frame.same (Same.refl H)) (fun c e => e) hp rfl
    have h2 : ¬ n < s.now := fun z => q2 (decide_eq_true (by rw [G.now]; omega))
    obtain ⟨t1, t2⟩ := time_on (s := s) (now := n) (most := m) h1 h2
    refine ⟨_, rfl, _, rfl, b, CB, ad.db, _, rfl, hA.self, T.clB, T.bNow, (by show 4 < 1000; decide), ?_⟩
    rw [putB_now]
    generalize hH1 : upd H b (HO.ins CB ad.db (bookF (n : Int) ad.D ad.L B.turns)) = H1
    have fr1 : ∀ c o, H c = some o → c ≠ b → H1 c = some o := fun c o e z => by rw [← hH1, upd_ne z]; exact e
    have hb1 : H1 b = some (.ins CB ad.db (bookF (n : Int) ad.D ad.L B.turns)) := by rw [← hH1, upd_same]
    have no1 : ∀ c, H1 c = none → H c = none := fun c z => by
      rw [← hH1] at z
      by_cases y : c = b
      · rw [y, upd_same] at z; cases z
      · rw [upd_ne y] at z; exact z
    clear hH1
    have hL1 := fr1 _ _ hA.lst (Ne.symm hA.Lb)
    have hT1 : TupsAt H1 ad.ps B.line := hA.tups.keep fun p xs h => fr1 _ _ h (ne_of h hA.self (by intro z; cases z))
    refine ⟨_, rfl, b, CB, ad.db, _, _, rfl, hb1, T.clB, T.bWait, bookF_wait _ _ _ _, _, rfl, b, ad.db, _, rfl, hb1, bookF_howcome _ _ _ _, _, rfl, b, ad.db, ad.D, ad.L, (n : Int), B.turns, ad.ps, B.line, m, rfl, hb1, hL1, hT1, fun k k1 k2 k3 k4 => ⟨_, rfl, ad.L, ad.ps.map V.ref, rfl, SqL.of hL1, fun c hc => ?_⟩⟩
    rw [cut_to _ k _ rfl, ← List.map_take]
    have hpl := hA.tups.len
    have hlk : (ad.ps.take k).length = k := by rw [List.length_take]; omega
    have s2 : Same H1 (upd H1 c (.lst ((ad.ps.take k).map V.ref))) := same_new hc _
    have hcb : c ≠ b := fun z => by rw [z, hb1] at hc; cases hc
    refine ⟨_, rfl, b, CB, ad.db, _, _, rfl, s2 _ _ hb1, T.clB, T.bWait, bookF_wait _ _ _ _, _, rfl, c, _, rfl, .inl (SqL.of upd_same), _, rfl, ad.L, ad.ps.map V.ref, rfl, SqL.of (s2 _ _ hL1), fun L' hL' => ?_⟩
    rw [cut_rest _ k _ (by rw [List.length_map, hlk]) (by rw [List.length_map]; omega), ← List.map_drop]
    have s3 : Same H1 (upd (upd H1 c (.lst ((ad.ps.take k).map V.ref))) L' (.lst ((ad.ps.drop k).map V.ref))) := fun c0 o e => same_new hL' _ _ _ (s2 _ _ e)
    have hLb : L' ≠ b := fun z => by rw [z, s2 _ _ hb1] at hL'; cases hL'
    have hLc : L' ≠ c := fun z => by rw [z, upd_same] at hL'; cases hL'
    have hL'0 : H1 L' = none := by rw [upd_ne hLc] at hL'; exact hL'
    refine ⟨_, rfl, b, CB, ad.db, _, rfl, s3 _ _ hb1, T.clB, T.bWait, (by show 4 < 1000; decide), ?_⟩
    rw [putB_wait]
    generalize hH3 : upd (upd (upd H1 c (HO.lst ((ad.ps.take k).map V.ref))) L' (HO.lst ((ad.ps.drop k).map V.ref))) b (HO.ins CB ad.db (bookF (n : Int) ad.D L' B.turns)) = H3
    have fr3 : ∀ c0 o, H c0 = some o → c0 ≠ b → H3 c0 = some o := fun c0 o e z => by rw [← hH3, upd_ne z]; exact s3 _ _ (fr1 _ _ e z)
    have hb3 : H3 b = some (.ins CB ad.db (bookF (n : Int) ad.D L' B.turns)) := by rw [← hH3, upd_same]
    have hL3 : H3 L' = some (.lst ((ad.ps.drop k).map V.ref)) := by rw [← hH3, upd_ne hLb, upd_same]
    have hc3 : H3 c = some (.lst ((ad.ps.take k).map V.ref)) := by rw [← hH3, upd_ne hcb, upd_ne (Ne.symm hLc), upd_same]
    have no3 : ∀ c0, H3 c0 = none → H c0 = none := fun c0 z => by
      cases y : H c0 with
      | none => rfl
      | some o =>
        by_cases y2 : c0 = b
        · rw [y2, hb3] at z; cases z
        · rw [fr3 _ _ y y2] at z; cases z
    clear hH3
    refine ⟨_, rfl, c, _, rfl, .inl (SqL.of hc3), ?_⟩
    rw [List.length_map, hlk]
    refine ⟨(by show 1 ≤ sizeLine; decide), fun t ht => ?_⟩
    have s4 : Same H3 (upd H3 t (.lst [.int (k : Int)])) := same_new ht _
    have hc4 := s4 _ _ hc3
    have ht0 : H t = none := no3 t ht
    have hc0 : H c = none := no1 c hc
    have hL0 : H L' = none := no1 L' hL'0
    -- the book whose line lacks those that come
    have A4 : BookAt CT CB (upd H3 t (.lst [.int (k : Int)])) b { ad with L := L', ps := ad.ps.drop k } ⟨(n : Int), B.turns, B.recs, B.line.drop k⟩ := by
      refine ⟨s4 _ _ hb3, s4 _ _ (fr3 _ _ hA.dict (Ne.symm hA.Db)), s4 _ _ hL3, hA.recs, fun x hx => ?_, hA.nd, ?_⟩
      · obtain ⟨dx, h⟩ := hA.at_ x hx
        exact ⟨dx, s4 _ _ (fr3 _ _ h (hA.xb hx))⟩
      · exact (hA.tups.drop k).keep fun p xs h => s4 _ _ (fr3 _ _ h (ne_of h hA.self (by intro z; cases z)))
    have out4 : ∀ c0, c0 ≠ b → c0 ≠ L' → (H c0 = none ∨ ¬ ad.has b c0) → ¬ ({ ad with L := L', ps := ad.ps.drop k } : Ad).has b c0 := fun c0 z1 z2 z3 => by
      rintro (z | z | z | z)
      · exact z1 z
      · rcases z3 with z3 | z3
        · have z : c0 = ad.D := z
          rw [z, hA.dict] at z3; cases z3
        · exact z3 (.inr (.inl z))
      · exact z2 z
      · rcases z3 with z3 | z3
        · obtain ⟨x, hx, e⟩ := List.mem_map.mp z
          obtain ⟨dx, h⟩ := hA.at_ x hx
          have e : x.1 = c0 := e
          rw [← e, h] at z3; cases z3
        · exact z3 (.inr (.inr (.inr z)))
    have htb : t ≠ b := fun z => by rw [z, hb3] at ht; cases ht
    have htL : t ≠ L' := fun z => by rw [z, hL3] at ht; cases ht
    have htc : t ≠ c := fun z => by rw [z, hc3] at ht; cases ht
    have F4 : Frame H b ad (upd H3 t (.lst [.int (k : Int)])) { ad with L := L', ps := ad.ps.drop k } := fun c0 o e nh => by
      have z1 : c0 ≠ b := fun z => nh (.inl z)
      exact ⟨s4 _ _ (fr3 _ _ e z1), out4 c0 z1 (ne_of_none e hL0) (.inr nh)⟩
    have g1 : Good ⟨(n : Int), B.turns, B.recs, B.line⟩ { s with now := n } W Hd := G.tick (Nat.le_of_not_lt h1) rfl rfl rfl rfl
    have C4 : Coming ⟨(n : Int), B.turns, B.recs, B.line.drop k⟩ { s with now := n } (W.take k) (W.drop k) Hd := g1.coming (k := k) k3 rfl rfl rfl rfl
    have T4 : TupsAt (upd H3 t (.lst [.int (k : Int)])) (ad.ps.take k) ((W.take k).map Rec.key) := by
      have := hA.tups.take k
      rw [G.line, ← List.map_take] at this
      exact this.keep fun p xs h => s4 _ _ (fr3 _ _ h (ne_of h hA.self (by intro z; cases z)))
    have hsm := line_small G
    have eM : Sn98.MOST = 65536 := by decide
    have hkN : k ≤ min m Sn98.MOST := by omega
    have hstop : k = min m Sn98.MOST ∨ ∀ x ∈ B.line.drop k, (n : Int) < x.1 := by
      rcases k4 with z | z | ⟨x, z1, z2⟩
      · left; omega
      · right
        intro x hx
        rw [z, List.drop_length] at hx
        cases hx
      · right
        exact srt_late G.srt z1 z2
    have hWk : (W.take k).length = k := by rw [List.length_take]; have := G.lenL; omega
    have big : 300000 < sizeLine := by decide
    refine ⟨_, rfl, c, rfl, ⟨_, SqL.of hc4⟩, for_list (K := K) (a := c) (xs := (ad.ps.take k).map V.ref) (fun i σ H' => ∃ (v : Option V) (ad' : Ad) (B' : Book) (s' : Sn98.State) (W' Hd' : List Rec) (dn : List (Sn98.Timer × Nat)), σ = [some (.ref b), some (.int n), some (.int m), some (.ref c), some (.ref t), v] ∧
        BookAt CT CB H' b ad' B' ∧ Coming B' s' ((W.take k).drop i) W' Hd' ∧ B'.now = (n : Int) ∧ Run (min m Sn98.MOST) { s with now := n } i dn s' ∧ (k = min m Sn98.MOST ∨ ∀ x ∈ B'.line, (n : Int) < x.1) ∧ H' c = some (.lst ((ad.ps.take k).map V.ref)) ∧ ¬ ad'.has b c ∧
        TupsAt H' (ad.ps.take k) ((W.take k).map Rec.key) ∧ H' t = some (.lst (((k : Int) :: dn.flatMap come4).map V.int)) ∧ ¬ ad'.has b t ∧ Frame H b ad H' ad') ?_ (fun i σ H' _ ⟨_, _, _, _, _, _, _, _, _, _, _, _, _, h, _⟩ => SqL.of h) ?_ ?_⟩
    · exact ⟨none, _, _, _, _, _, [], rfl, A4, C4, rfl, Run.zero _ _, hstop, hc4, out4 c hcb (Ne.symm hLc) (.inl hc0), T4, upd_same, out4 t htb htL (.inl ht0), F4⟩
    · rintro i y σ H' hi ⟨v, ad', B', s', W', Hd', dn, rfl, A', C', en, Rn, hst, hc', nc', T', ht', nt', F'⟩
      rw [List.getElem?_map] at hi
      obtain ⟨p, hp, rfl⟩ := Option.map_eq_some_iff.mp hi
      have hik : i < k := by
        have := (List.getElem?_eq_some_iff.mp hp).1
        omega
      have hiw : i < (W.take k).length := by omega
      have ed : (W.take k).drop i = (W.take k)[i] :: (W.take k).drop (i + 1) := List.drop_eq_getElem_cons hiw
      have er : (W.take k)[i]? = some (W.take k)[i] := List.getElem?_eq_getElem hiw
      generalize (W.take k)[i] = r at ed er
      rw [ed] at C'
      obtain ⟨p2, hp2, hpt⟩ := T'.get (i := i) (k := r.key) (by rw [List.getElem?_map, er]; rfl)
      obtain rfl : p = p2 := Option.some.inj (hp.symm.trans hp2)
      have hrm : r ∈ B'.recs := C'.mem (List.mem_cons_self ..)
      obtain ⟨xa, hxa⟩ := A'.of_mem hrm
      have hnd : (B'.recs.map Rec.name).Nodup := C'.good.nd
      have hg : DGet H' ad'.D (V.int r.name) (some (.ref xa)) := by
        have := DGet.k (k := Sum.inl r.name) A'.dict
        rw [kvs_val (A'.ndn hnd) hxa rfl] at this
        exact this
      obtain ⟨tt, tts, _, _, _, a2, _, l1, _⟩ := C'.head
      have eL : Sn98.LAST = 9223372036854775807 := by decide
      refine ⟨_, rfl, .inl ⟨rfl, _, SqL.of ht'⟩, _, rfl, b, ad'.db, _, rfl, A'.self, bookF_come _ _ _ _, _, rfl, b, CB, ad'.db, _, _, rfl, A'.self, T.clB, T.bBy, bookF_by _ _ _ _, _, rfl, p, t3 r.key, _, _, rfl, rfl, SqT.of hpt, at_of (j := 2) rfl rfl, ad'.D, .ref xa, rfl, hg,
        b, ad', B', (xa, r), rfl, A', C'.srt, hnd, hxa, Nat.lt_of_le_of_lt C'.small big16, (by show 0 ≤ r.every; omega), (by show r.every ≤ 9223372036854775807; omega), fun H5 ad5 q h5a h5b F5 nq hq nhq => ?_⟩
      obtain ⟨ht5, nt5⟩ := F5 t _ ht' nt'
      obtain ⟨hc5, nc5⟩ := F5 c _ hc' nc'
      have tq : t ≠ q := ne_of_none ht' nq
      have T5 : TupsAt H5 (ad.ps.take k) ((W.take k).map Rec.key) := T'.keep fun p xs h => (F5 p _ h (A'.tupOut h)).1
      have hdl : dn.length ≤ 65536 := by rw [Rn.len]; omega
      refine ⟨t, q, _, _, rfl, rfl, ht5, hq, ?_, ?_⟩
      · rw [List.length_map, List.length_cons, come4_len]
        show _ + 4 ≤ sizeLine
        omega
      · have T6 : ∀ ys, TupsAt (upd H5 t (.lst ys)) (ad.ps.take k) ((W.take k).map Rec.key) := fun ys => T5.keep fun p xs h => by rw [upd_ne (ne_of h ht5 (by intro z; cases z))]; exact h
        have F6 : ∀ ys, Frame H b ad (upd H5 t (.lst ys)) ad5 := fun ys c0 o e nh => by
          obtain ⟨z1, z2⟩ := F'.trans F5 c0 o e nh
          exact ⟨by rw [upd_ne (ne_of_none e ht0)]; exact z1, z2⟩
        have hin : i < min m Sn98.MOST := by omega
        have told : ∀ x : Sn98.Timer × Nat, come4 x = [r.name, r.tag, r.due, leftOut B'.now r] → ((k : Int) :: dn.flatMap come4).map V.int ++ [.int r.name, .int r.tag, .int r.due, .int (leftOut B'.now r)] = ((k : Int) :: (dn ++ [x]).flatMap come4).map V.int := fun x ex => by
          rw [List.flatMap_append, List.flatMap_singleton, ex, ← List.cons_append, List.map_append]
          rfl
        by_cases he : Ends1 B'.now r
        · obtain ⟨t6, ts6, Hd6, e1, e2, e3, c6⟩ := C'.gone he
          refine ⟨_, ad5, goneB B' r, _, W', Hd6, _, rfl, (h5a he).other nt5 ht5, c6, en, Rn.next hin e1 e2, hst, (by rw [upd_ne (Ne.symm htc)]; exact hc5), nc5, T6 _, ?_, nt5, F6 _⟩
          rw [upd_same, told _ e3]
        · obtain ⟨t6, ts6, W6, Hd6, e1, e2, e3, c6⟩ := C'.again he
          refine ⟨_, ad5, againB B' r, _, W6, Hd6, _, rfl, (h5b he).other nt5 ht5, c6, en, Rn.next hin e1 e2, hst.imp id (fun z => ?_), (by rw [upd_ne (Ne.symm htc)]; exact hc5), nc5, T6 _, ?_, nt5, F6 _⟩
          · rw [← en] at z ⊢
            exact again_lates C' he z
          · rw [upd_same, told _ e3]
    · rintro σ H' ⟨v, ad', B', s', W', Hd', dn, rfl, A', C', en, Rn, hst, hc', nc', T', ht', nt', F'⟩
      refine ⟨_, rfl, ?_⟩
      rw [List.length_map, hlk, List.drop_of_length_le (by omega)] at C'
      rw [List.length_map, hlk] at Rn
      have hdue := Rn.stop C' (by rw [en]; exact hst)
      rw [hdue] at t1 t2
      refine d H' t ad' ?_ F' ht0 ?_ nt'
      · rw [t1]
        exact ⟨B', W', Hd', A', C'.done⟩
      · rw [t2, Rn.len]
        exact ht'
end
end TD
set_option Elab.async false
set_option linter.all false
set_option maxRecDepth 100000
set_option maxHeartbeats 4000000
namespace TD
open PySem PySem.Spec PyProof.Rows L2 TM
theorem nat_of {a : Int} (h : Sn98Neutral.natural a 64 = true) : ∃ n : Nat, a = (n : Int) := by
  unfold Sn98Neutral.natural at h
  rw [Bool.and_eq_true] at h
  exact ⟨a.toNat, by have := of_decide_eq_true h.1; omega⟩
theorem bookF_m1 (now : Int) (D L : Addr) (turns : Int) : (bookF now D L turns).lookup ("begin" : Str) = none := by rfl
theorem stepN_1 (s : Sn98.State) (n0 : Nat) : TF.stepN s [[1, (n0 : Int)]] = ((Sn98.step s (.begin_ n0)).1, ans (Sn98.step s (.begin_ n0)).2) := by rfl
theorem asked_1 {a0 : Int} (h : Sn98Neutral.asked1 [[1, a0]] = true) : (∃ n : Nat, a0 = (n : Int)) := by
  have h : (Sn98Neutral.natural a0 64) = true := h
  exact nat_of h
theorem bookF_m2 (now : Int) (D L : Addr) (turns : Int) : (bookF now D L turns).lookup ("put" : Str) = none := by rfl
theorem stepN_2 (s : Sn98.State) (n0 : Nat) (n1 : Nat) (n2 : Nat) (n3 : Nat) : TF.stepN s [[2, (n0 : Int), (n1 : Int), (n2 : Int), (n3 : Int)]] = ((Sn98.step s (.set n0 n1 n2 n3)).1, ans (Sn98.step s (.set n0 n1 n2 n3)).2) := by rfl
theorem asked_2 {a0 : Int} {a1 : Int} {a2 : Int} {a3 : Int} (h : Sn98Neutral.asked1 [[2, a0, a1, a2, a3]] = true) : (∃ n : Nat, a0 = (n : Int)) ∧ (∃ n : Nat, a1 = (n : Int)) ∧ (∃ n : Nat, a2 = (n : Int)) ∧ (∃ n : Nat, a3 = (n : Int)) := by
  have h : (Sn98Neutral.natural a0 64 && (Sn98Neutral.natural a1 64 && (Sn98Neutral.natural a2 64 && (Sn98Neutral.natural a3 64)))) = true := h
  simp only [Bool.and_eq_true] at h
  exact ⟨nat_of h.1, nat_of h.2.1, nat_of h.2.2.1, nat_of h.2.2.2⟩
theorem bookF_m3 (now : Int) (D L : Addr) (turns : Int) : (bookF now D L turns).lookup ("put_after" : Str) = none := by rfl
theorem stepN_3 (s : Sn98.State) (n0 : Nat) (n1 : Nat) (n2 : Nat) (n3 : Nat) : TF.stepN s [[3, (n0 : Int), (n1 : Int), (n2 : Int), (n3 : Int)]] = ((Sn98.step s (.after n0 n1 n2 n3)).1, ans (Sn98.step s (.after n0 n1 n2 n3)).2) := by rfl
theorem asked_3 {a0 : Int} {a1 : Int} {a2 : Int} {a3 : Int} (h : Sn98Neutral.asked1 [[3, a0, a1, a2, a3]] = true) : (∃ n : Nat, a0 = (n : Int)) ∧ (∃ n : Nat, a1 = (n : Int)) ∧ (∃ n : Nat, a2 = (n : Int)) ∧ (∃ n : Nat, a3 = (n : Int)) := by
  have h : (Sn98Neutral.natural a0 64 && (Sn98Neutral.natural a1 64 && (Sn98Neutral.natural a2 64 && (Sn98Neutral.natural a3 64)))) = true := h
  simp only [Bool.and_eq_true] at h
  exact ⟨nat_of h.1, nat_of h.2.1, nat_of h.2.2.1, nat_of h.2.2.2⟩
theorem bookF_m4 (now : Int) (D L : Addr) (turns : Int) : (bookF now D L turns).lookup ("away" : Str) = none := by rfl
theorem stepN_4 (s : Sn98.State) (n0 : Nat) : TF.stepN s [[4, (n0 : Int)]] = ((Sn98.step s (.away n0)).1, ans (Sn98.step s (.away n0)).2) := by rfl
theorem asked_4 {a0 : Int} (h : Sn98Neutral.asked1 [[4, a0]] = true) : (∃ n : Nat, a0 = (n : Int)) := by
  have h : (Sn98Neutral.natural a0 64) = true := h
  exact nat_of h
theorem bookF_m5 (now : Int) (D L : Addr) (turns : Int) : (bookF now D L turns).lookup ("away_all" : Str) = none := by rfl
theorem stepN_5 (s : Sn98.State) (n0 : Nat) : TF.stepN s [[5, (n0 : Int)]] = ((Sn98.step s (.awayAll n0)).1, ans (Sn98.step s (.awayAll n0)).2) := by rfl
theorem asked_5 {a0 : Int} (h : Sn98Neutral.asked1 [[5, a0]] = true) : (∃ n : Nat, a0 = (n : Int)) := by
  have h : (Sn98Neutral.natural a0 64) = true := h
  exact nat_of h
theorem bookF_m6 (now : Int) (D L : Addr) (turns : Int) : (bookF now D L turns).lookup ("look" : Str) = none := by rfl
theorem stepN_6 (s : Sn98.State) (n0 : Nat) : TF.stepN s [[6, (n0 : Int)]] = ((Sn98.step s (.look n0)).1, ans (Sn98.step s (.look n0)).2) := by rfl
theorem asked_6 {a0 : Int} (h : Sn98Neutral.asked1 [[6, a0]] = true) : (∃ n : Nat, a0 = (n : Int)) := by
  have h : (Sn98Neutral.natural a0 64) = true := h
  exact nat_of h
theorem bookF_m7 (now : Int) (D L : Addr) (turns : Int) : (bookF now D L turns).lookup ("first_due" : Str) = none := by rfl
theorem stepN_7 (s : Sn98.State) : TF.stepN s [[7]] = ((Sn98.step s (.next)).1, ans (Sn98.step s (.next)).2) := by rfl
theorem bookF_m8 (now : Int) (D L : Addr) (turns : Int) : (bookF now D L turns).lookup ("come_due" : Str) = none := by rfl
theorem stepN_8 (s : Sn98.State) (n0 : Nat) (n1 : Nat) : TF.stepN s [[8, (n0 : Int), (n1 : Int)]] = ((Sn98.step s (.time n0 n1)).1, ans (Sn98.step s (.time n0 n1)).2) := by rfl
theorem asked_8 {a0 : Int} {a1 : Int} (h : Sn98Neutral.asked1 [[8, a0, a1]] = true) : (∃ n : Nat, a0 = (n : Int)) ∧ (∃ n : Nat, a1 = (n : Int)) := by
  have h : (Sn98Neutral.natural a0 64 && (Sn98Neutral.natural a1 64)) = true := h
  simp only [Bool.and_eq_true] at h
  exact ⟨nat_of h.1, nat_of h.2⟩
theorem bookF_m9 (now : Int) (D L : Addr) (turns : Int) : (bookF now D L turns).lookup ("how_many" : Str) = none := by rfl
theorem stepN_9 (s : Sn98.State) : TF.stepN s [[9]] = ((Sn98.step s (.count)).1, ans (Sn98.step s (.count)).2) := by rfl
theorem bookF_m10 (now : Int) (D L : Addr) (turns : Int) : (bookF now D L turns).lookup ("later" : Str) = none := by rfl
theorem stepN_10 (s : Sn98.State) (n0 : Nat) (n1 : Nat) : TF.stepN s [[10, (n0 : Int), (n1 : Int)]] = ((Sn98.step s (.later n0 n1)).1, ans (Sn98.step s (.later n0 n1)).2) := by rfl
theorem asked_10 {a0 : Int} {a1 : Int} (h : Sn98Neutral.asked1 [[10, a0, a1]] = true) : (∃ n : Nat, a0 = (n : Int)) ∧ (∃ n : Nat, a1 = (n : Int)) := by
  have h : (Sn98Neutral.natural a0 64 && (Sn98Neutral.natural a1 64)) = true := h
  simp only [Bool.and_eq_true] at h
  exact ⟨nat_of h.1, nat_of h.2⟩
theorem bookF_m11 (now : Int) (D L : Addr) (turns : Int) : (bookF now D L turns).lookup ("hold" : Str) = none := by rfl
theorem stepN_11 (s : Sn98.State) (n0 : Nat) : TF.stepN s [[11, (n0 : Int)]] = ((Sn98.step s (.hold n0)).1, ans (Sn98.step s (.hold n0)).2) := by rfl
theorem asked_11 {a0 : Int} (h : Sn98Neutral.asked1 [[11, a0]] = true) : (∃ n : Nat, a0 = (n : Int)) := by
  have h : (Sn98Neutral.natural a0 64) = true := h
  exact nat_of h
theorem bookF_m12 (now : Int) (D L : Addr) (turns : Int) : (bookF now D L turns).lookup ("go_on" : Str) = none := by rfl
theorem stepN_12 (s : Sn98.State) (n0 : Nat) : TF.stepN s [[12, (n0 : Int)]] = ((Sn98.step s (.goOn n0)).1, ans (Sn98.step s (.goOn n0)).2) := by rfl
theorem asked_12 {a0 : Int} (h : Sn98Neutral.asked1 [[12, a0]] = true) : (∃ n : Nat, a0 = (n : Int)) := by
  have h : (Sn98Neutral.natural a0 64) = true := h
  exact nat_of h
theorem bookF_m13 (now : Int) (D L : Addr) (turns : Int) : (bookF now D L turns).lookup ("in_order" : Str) = none := by rfl
theorem stepN_13 (s : Sn98.State) (n0 : Nat) (n1 : Nat) : TF.stepN s [[13, (n0 : Int), (n1 : Int)]] = ((Sn98.step s (.list n0 n1)).1, ans (Sn98.step s (.list n0 n1)).2) := by rfl
theorem asked_13 {a0 : Int} {a1 : Int} (h : Sn98Neutral.asked1 [[13, a0, a1]] = true) : (∃ n : Nat, a0 = (n : Int)) ∧ (∃ n : Nat, a1 = (n : Int)) := by
  have h : (Sn98Neutral.natural a0 64 && (Sn98Neutral.natural a1 64)) = true := h
  simp only [Bool.and_eq_true] at h
  exact ⟨nat_of h.1, nat_of h.2⟩
theorem shape_all {p : Int} {n : Nat} (h : PySn98.shape p = some (n, 0)) : (p = 1 ∧ n = 1) ∨ (p = 2 ∧ n = 4) ∨ (p = 3 ∧ n = 4) ∨ (p = 4 ∧ n = 1) ∨ (p = 5 ∧ n = 1) ∨ (p = 6 ∧ n = 1) ∨ (p = 7 ∧ n = 0) ∨ (p = 8 ∧ n = 2) ∨ (p = 9 ∧ n = 0) ∨ (p = 10 ∧ n = 2) ∨ (p = 11 ∧ n = 1) ∨ (p = 12 ∧ n = 1) ∨ (p = 13 ∧ n = 2) := by
  unfold PySn98.shape at h
  by_cases h1 : p = 1
  · rw [if_pos h1] at h
    cases h
    exact Or.inl ⟨h1, rfl⟩
  rw [if_neg h1] at h
  by_cases h2 : p = 2
  · rw [if_pos h2] at h
    cases h
    exact Or.inr (Or.inl ⟨h2, rfl⟩)
  rw [if_neg h2] at h
  by_cases h3 : p = 3
  · rw [if_pos h3] at h
    cases h
    exact Or.inr (Or.inr (Or.inl ⟨h3, rfl⟩))
  rw [if_neg h3] at h
  by_cases h4 : p = 4
  · rw [if_pos h4] at h
    cases h
    exact Or.inr (Or.inr (Or.inr (Or.inl ⟨h4, rfl⟩)))
  rw [if_neg h4] at h
  by_cases h5 : p = 5
  · rw [if_pos h5] at h
    cases h
    exact Or.inr (Or.inr (Or.inr (Or.inr (Or.inl ⟨h5, rfl⟩))))
  rw [if_neg h5] at h
  by_cases h6 : p = 6
  · rw [if_pos h6] at h
    cases h
    exact Or.inr (Or.inr (Or.inr (Or.inr (Or.inr (Or.inl ⟨h6, rfl⟩)))))
  rw [if_neg h6] at h
  by_cases h7 : p = 7
  · rw [if_pos h7] at h
    cases h
    exact Or.inr (Or.inr (Or.inr (Or.inr (Or.inr (Or.inr (Or.inl ⟨h7, rfl⟩))))))
  rw [if_neg h7] at h
  by_cases h8 : p = 8
  · rw [if_pos h8] at h
    cases h
    exact Or.inr (Or.inr (Or.inr (Or.inr (Or.inr (Or.inr (Or.inr (Or.inl ⟨h8, rfl⟩)))))))
  rw [if_neg h8] at h
  by_cases h9 : p = 9
  · rw [if_pos h9] at h
    cases h
    exact Or.inr (Or.inr (Or.inr (Or.inr (Or.inr (Or.inr (Or.inr (Or.inr (Or.inl ⟨h9, rfl⟩))))))))
  rw [if_neg h9] at h
  by_cases h10 : p = 10
  · rw [if_pos h10] at h
    cases h
    exact Or.inr (Or.inr (Or.inr (Or.inr (Or.inr (Or.inr (Or.inr (Or.inr (Or.inr (Or.inl ⟨h10, rfl⟩)))))))))
  rw [if_neg h10] at h
  by_cases h11 : p = 11
  · rw [if_pos h11] at h
    cases h
    exact Or.inr (Or.inr (Or.inr (Or.inr (Or.inr (Or.inr (Or.inr (Or.inr (Or.inr (Or.inr (Or.inl ⟨h11, rfl⟩))))))))))
  rw [if_neg h11] at h
  by_cases h12 : p = 12
  · rw [if_pos h12] at h
    cases h
    exact Or.inr (Or.inr (Or.inr (Or.inr (Or.inr (Or.inr (Or.inr (Or.inr (Or.inr (Or.inr (Or.inr (Or.inl ⟨h12, rfl⟩)))))))))))
  rw [if_neg h12] at h
  by_cases h13 : p = 13
  · rw [if_pos h13] at h
    cases h
    exact Or.inr (Or.inr (Or.inr (Or.inr (Or.inr (Or.inr (Or.inr (Or.inr (Or.inr (Or.inr (Or.inr (Or.inr (⟨h13, rfl⟩))))))))))))
  rw [if_neg h13] at h
  cases h
section
variable {P : Program} {w : World} {K : PySem.W.Frag} {mg : Str → Option Value} {base : Heap} {CT CB : Addr}
theorem scOne : FnScope ["book", "call", "numbers"] ["book", "call", "numbers"] (defScope sOne) := ⟨rfl, rfl, rfl, by decide +kernel, rfl, by decide +kernel, by decide +kernel⟩
theorem ok_one {f : Addr} {fd : FuncData} (F : Fun K "answer_one" "answer_one" sOne f fd) (T : Txt K mg CT CB)
    (c1 : ∃ u, mg "BEGIN" = some u ∧ RelV (.int 1) u)
    {f1 : Addr} {fd1 : FuncData} (G1 : FnOk P w K mg base CX0 1 f1 fd1 ["self", "now"] (spBegin CT CB)) (b1 : Binds K fd1 ["self", "now"] []) (m1 : Meth K CB "begin" f1)
    (c2 : ∃ u, mg "SET" = some u ∧ RelV (.int 2) u)
    {f2 : Addr} {fd2 : FuncData} (G2 : FnOk P w K mg base CX0 4 f2 fd2 ["self", "name", "at", "every", "tag"] (spPut CT CB)) (b2 : Binds K fd2 ["self", "name", "at", "every", "tag"] []) (m2 : Meth K CB "put" f2)
    (c3 : ∃ u, mg "AFTER" = some u ∧ RelV (.int 3) u)
    {f3 : Addr} {fd3 : FuncData} (G3 : FnOk P w K mg base CX0 5 f3 fd3 ["self", "name", "wait", "every", "tag"] (spAfter CT CB)) (b3 : Binds K fd3 ["self", "name", "wait", "every", "tag"] []) (m3 : Meth K CB "put_after" f3)
    (c4 : ∃ u, mg "AWAY" = some u ∧ RelV (.int 4) u)
    {f4 : Addr} {fd4 : FuncData} (G4 : FnOk P w K mg base CX0 4 f4 fd4 ["self", "name"] (spAway CT CB)) (b4 : Binds K fd4 ["self", "name"] []) (m4 : Meth K CB "away" f4)
    (c5 : ∃ u, mg "AWAY_ALL" = some u ∧ RelV (.int 5) u)
    {f5 : Addr} {fd5 : FuncData} (G5 : FnOk P w K mg base CX0 4 f5 fd5 ["self", "tag"] (spAwayAll CT CB)) (b5 : Binds K fd5 ["self", "tag"] []) (m5 : Meth K CB "away_all" f5)
    (c6 : ∃ u, mg "LOOK" = some u ∧ RelV (.int 6) u)
    {f6 : Addr} {fd6 : FuncData} (G6 : FnOk P w K mg base CX0 2 f6 fd6 ["self", "name"] (spLook CT CB)) (b6 : Binds K fd6 ["self", "name"] []) (m6 : Meth K CB "look" f6)
    (c7 : ∃ u, mg "NEXT" = some u ∧ RelV (.int 7) u)
    {f7 : Addr} {fd7 : FuncData} (G7 : FnOk P w K mg base CX0 1 f7 fd7 ["self"] (spFirst CT CB)) (b7 : Binds K fd7 ["self"] []) (m7 : Meth K CB "first_due" f7)
    (c8 : ∃ u, mg "TIME" = some u ∧ RelV (.int 8) u)
    {f8 : Addr} {fd8 : FuncData} (G8 : FnOk P w K mg base CX0 4 f8 fd8 ["self", "now", "most"] (spTime CT CB)) (b8 : Binds K fd8 ["self", "now", "most"] []) (m8 : Meth K CB "come_due" f8)
    (c9 : ∃ u, mg "COUNT" = some u ∧ RelV (.int 9) u)
    {f9 : Addr} {fd9 : FuncData} (G9 : FnOk P w K mg base CX0 1 f9 fd9 ["self"] (spCount CT CB)) (b9 : Binds K fd9 ["self"] []) (m9 : Meth K CB "how_many" f9)
    (c10 : ∃ u, mg "LATER" = some u ∧ RelV (.int 10) u)
    {f10 : Addr} {fd10 : FuncData} (G10 : FnOk P w K mg base CX0 3 f10 fd10 ["self", "name", "by"] (spLater CT CB)) (b10 : Binds K fd10 ["self", "name", "by"] []) (m10 : Meth K CB "later" f10)
    (c11 : ∃ u, mg "HOLD" = some u ∧ RelV (.int 11) u)
    {f11 : Addr} {fd11 : FuncData} (G11 : FnOk P w K mg base CX0 3 f11 fd11 ["self", "name"] (spHold CT CB)) (b11 : Binds K fd11 ["self", "name"] []) (m11 : Meth K CB "hold" f11)
    (c12 : ∃ u, mg "GO_ON" = some u ∧ RelV (.int 12) u)
    {f12 : Addr} {fd12 : FuncData} (G12 : FnOk P w K mg base CX0 3 f12 fd12 ["self", "name"] (spGoOn CT CB)) (b12 : Binds K fd12 ["self", "name"] []) (m12 : Meth K CB "go_on" f12)
    {f13 : Addr} {fd13 : FuncData} (G13 : FnOk P w K mg base CX0 1 f13 fd13 ["self", "start", "most"] (spList CT CB)) (b13 : Binds K fd13 ["self", "start", "most"] []) (m13 : Meth K CB "in_order" f13) :
    FnOk P w K mg base CX0 6 f fd ["book", "call", "numbers"] (spOne CT CB) := by
  obtain ⟨u1, g1, r1⟩ := c1
  obtain ⟨u2, g2, r2⟩ := c2
  obtain ⟨u3, g3, r3⟩ := c3
  obtain ⟨u4, g4, r4⟩ := c4
  obtain ⟨u5, g5, r5⟩ := c5
  obtain ⟨u6, g6, r6⟩ := c6
  obtain ⟨u7, g7, r7⟩ := c7
  obtain ⟨u8, g8, r8⟩ := c8
  obtain ⟨u9, g9, r9⟩ := c9
  obtain ⟨u10, g10, r10⟩ := c10
  obtain ⟨u11, g11, r11⟩ := c11
  obtain ⟨u12, g12, r12⟩ := c12
  refine F.ok scOne (fun vs H Q E h => ?_) (fun cdv A outer sh H vs Q E hr h => ?_)
  · obtain ⟨b, ad, s, p, xs, l, rfl, _⟩ := h
    rfl
  · obtain ⟨b, ad, s, p, xs, l, rfl, R, hl, hsh, hask, k⟩ := h
    refine ⟨_, pss_cons (ps_if (pt_cmpR op_eq (pv 1) (pe_glob rfl g1 r1) (nomark _)) (pss_one (ps_ret (pe_meth (pv 0) T.clB m1 G1 (hr.mono (by decide)) b1 .nil pass0 (pa_cons (pe_ix ix_list (pv 2) pe_int (fun _ _ => rfl)) pa_nil)))) pss_nil)
      (pss_cons (ps_if (pt_cmpR op_eq (pv 1) (pe_glob rfl g2 r2) (nomark _)) (pss_one (ps_ret (pe_meth (pv 0) T.clB m2 G2 (hr.mono (by decide)) b2 .nil pass0 (pa_cons (pe_ix ix_list (pv 2) pe_int (fun _ _ => rfl)) (pa_cons (pe_ix ix_list (pv 2) pe_int (fun _ _ => rfl)) (pa_cons (pe_ix ix_list (pv 2) pe_int (fun _ _ => rfl)) (pa_cons (pe_ix ix_list (pv 2) pe_int (fun _ _ => rfl)) pa_nil))))))) pss_nil)
      (pss_cons (ps_if (pt_cmpR op_eq (pv 1) (pe_glob rfl g3 r3) (nomark _)) (pss_one (ps_ret (pe_meth (pv 0) T.clB m3 G3 hr b3 .nil pass0 (pa_cons (pe_ix ix_list (pv 2) pe_int (fun _ _ => rfl)) (pa_cons (pe_ix ix_list (pv 2) pe_int (fun _ _ => rfl)) (pa_cons (pe_ix ix_list (pv 2) pe_int (fun _ _ => rfl)) (pa_cons (pe_ix ix_list (pv 2) pe_int (fun _ _ => rfl)) pa_nil))))))) pss_nil)
      (pss_cons (ps_if (pt_cmpR op_eq (pv 1) (pe_glob rfl g4 r4) (nomark _)) (pss_one (ps_ret (pe_meth (pv 0) T.clB m4 G4 (hr.mono (by decide)) b4 .nil pass0 (pa_cons (pe_ix ix_list (pv 2) pe_int (fun _ _ => rfl)) pa_nil)))) pss_nil)
      (pss_cons (ps_if (pt_cmpR op_eq (pv 1) (pe_glob rfl g5 r5) (nomark _)) (pss_one (ps_ret (pe_meth (pv 0) T.clB m5 G5 (hr.mono (by decide)) b5 .nil pass0 (pa_cons (pe_ix ix_list (pv 2) pe_int (fun _ _ => rfl)) pa_nil)))) pss_nil)
      (pss_cons (ps_if (pt_cmpR op_eq (pv 1) (pe_glob rfl g6 r6) (nomark _)) (pss_one (ps_ret (pe_meth (pv 0) T.clB m6 G6 (hr.mono (by decide)) b6 .nil pass0 (pa_cons (pe_ix ix_list (pv 2) pe_int (fun _ _ => rfl)) pa_nil)))) pss_nil)
      (pss_cons (ps_if (pt_cmpR op_eq (pv 1) (pe_glob rfl g7 r7) (nomark _)) (pss_one (ps_ret (pe_meth0 (pv 0) T.clB m7 G7 (hr.mono (by decide)) b7 .nil pass0))) pss_nil)
      (pss_cons (ps_if (pt_cmpR op_eq (pv 1) (pe_glob rfl g8 r8) (nomark _)) (pss_one (ps_ret (pe_meth (pv 0) T.clB m8 G8 (hr.mono (by decide)) b8 .nil pass0 (pa_cons (pe_ix ix_list (pv 2) pe_int (fun _ _ => rfl)) (pa_cons (pe_ix ix_list (pv 2) pe_int (fun _ _ => rfl)) pa_nil))))) pss_nil)
      (pss_cons (ps_if (pt_cmpR op_eq (pv 1) (pe_glob rfl g9 r9) (nomark _)) (pss_one (ps_ret (pe_meth0 (pv 0) T.clB m9 G9 (hr.mono (by decide)) b9 .nil pass0))) pss_nil)
      (pss_cons (ps_if (pt_cmpR op_eq (pv 1) (pe_glob rfl g10 r10) (nomark _)) (pss_one (ps_ret (pe_meth (pv 0) T.clB m10 G10 (hr.mono (by decide)) b10 .nil pass0 (pa_cons (pe_ix ix_list (pv 2) pe_int (fun _ _ => rfl)) (pa_cons (pe_ix ix_list (pv 2) pe_int (fun _ _ => rfl)) pa_nil))))) pss_nil)
      (pss_cons (ps_if (pt_cmpR op_eq (pv 1) (pe_glob rfl g11 r11) (nomark _)) (pss_one (ps_ret (pe_meth (pv 0) T.clB m11 G11 (hr.mono (by decide)) b11 .nil pass0 (pa_cons (pe_ix ix_list (pv 2) pe_int (fun _ _ => rfl)) pa_nil)))) pss_nil)
      (pss_cons (ps_if (pt_cmpR op_eq (pv 1) (pe_glob rfl g12 r12) (nomark _)) (pss_one (ps_ret (pe_meth (pv 0) T.clB m12 G12 (hr.mono (by decide)) b12 .nil pass0 (pa_cons (pe_ix ix_list (pv 2) pe_int (fun _ _ => rfl)) pa_nil)))) pss_nil)
      (pss_one (ps_ret (pe_meth (pv 0) T.clB m13 G13 (hr.mono (by decide)) b13 .nil pass0 (pa_cons (pe_ix ix_list (pv 2) pe_int (fun _ _ => rfl)) (pa_cons (pe_ix ix_list (pv 2) pe_int (fun _ _ => rfl)) pa_nil)))))))))))))))), ?_⟩
    have R' := R
    obtain ⟨B, W, Hd, hA, G⟩ := R
    rcases shape_all hsh with ⟨rfl, hn⟩ | ⟨rfl, hn⟩ | ⟨rfl, hn⟩ | ⟨rfl, hn⟩ | ⟨rfl, hn⟩ | ⟨rfl, hn⟩ | ⟨rfl, hn⟩ | ⟨rfl, hn⟩ | ⟨rfl, hn⟩ | ⟨rfl, hn⟩ | ⟨rfl, hn⟩ | ⟨rfl, hn⟩ | ⟨rfl, hn⟩
    · obtain ⟨a0, rfl⟩ : ∃ a0, xs = [a0] := match xs, hn with | [_], _ => ⟨_, rfl⟩
      obtain ⟨n0, rfl⟩ := asked_1 hask
      rw [stepN_1] at k
      have d : Done CT CB b ad H (Sn98.step s (.begin_ n0)) Q := k
      refine ⟨_, rfl, rfl, _, rfl, ?_⟩
      refine ite2 (fun _ => ?_) (fun q => absurd (decide_eq_true rfl) q)
      exact ⟨_, rfl, b, ad.db, _, rfl, hA.self, bookF_m1 _ _ _ _, _, rfl, l, _, _, _, rfl, rfl, SqL.of hl, at_of (j := 0) rfl rfl, b, ad, s, n0, rfl, R', d⟩
    · obtain ⟨a0, a1, a2, a3, rfl⟩ : ∃ a0 a1 a2 a3, xs = [a0, a1, a2, a3] := match xs, hn with | [_, _, _, _], _ => ⟨_, _, _, _, rfl⟩
      obtain ⟨⟨n0, rfl⟩, ⟨n1, rfl⟩, ⟨n2, rfl⟩, ⟨n3, rfl⟩⟩ := asked_2 hask
      rw [stepN_2] at k
      have d : Done CT CB b ad H (Sn98.step s (.set n0 n1 n2 n3)) Q := k
      refine ⟨_, rfl, rfl, _, rfl, ?_⟩
      refine ite2 (fun q => absurd (V.int.inj (of_decide_eq_true q)) (by decide)) (fun _ => ?_)
      refine ⟨_, rfl, rfl, _, rfl, ?_⟩
      refine ite2 (fun _ => ?_) (fun q => absurd (decide_eq_true rfl) q)
      exact ⟨_, rfl, b, ad.db, _, rfl, hA.self, bookF_m2 _ _ _ _, _, rfl, l, _, _, _, rfl, rfl, SqL.of hl, at_of (j := 0) rfl rfl, _, rfl, l, _, _, _, rfl, rfl, SqL.of hl, at_of (j := 1) rfl rfl, _, rfl, l, _, _, _, rfl, rfl, SqL.of hl, at_of (j := 2) rfl rfl, _, rfl, l, _, _, _, rfl, rfl, SqL.of hl, at_of (j := 3) rfl rfl, b, ad, s, n0, n1, n2, n3, rfl, R', d⟩
    · obtain ⟨a0, a1, a2, a3, rfl⟩ : ∃ a0 a1 a2 a3, xs = [a0, a1, a2, a3] := match xs, hn with | [_, _, _, _], _ => ⟨_, _, _, _, rfl⟩
      obtain ⟨⟨n0, rfl⟩, ⟨n1, rfl⟩, ⟨n2, rfl⟩, ⟨n3, rfl⟩⟩ := asked_3 hask
      rw [stepN_3] at k
      have d : Done CT CB b ad H (Sn98.step s (.after n0 n1 n2 n3)) Q := k
      refine ⟨_, rfl, rfl, _, rfl, ?_⟩
      refine ite2 (fun q => absurd (V.int.inj (of_decide_eq_true q)) (by decide)) (fun _ => ?_)
      refine ⟨_, rfl, rfl, _, rfl, ?_⟩
      refine ite2 (fun q => absurd (V.int.inj (of_decide_eq_true q)) (by decide)) (fun _ => ?_)
      refine ⟨_, rfl, rfl, _, rfl, ?_⟩
      refine ite2 (fun _ => ?_) (fun q => absurd (decide_eq_true rfl) q)
      exact ⟨_, rfl, b, ad.db, _, rfl, hA.self, bookF_m3 _ _ _ _, _, rfl, l, _, _, _, rfl, rfl, SqL.of hl, at_of (j := 0) rfl rfl, _, rfl, l, _, _, _, rfl, rfl, SqL.of hl, at_of (j := 1) rfl rfl, _, rfl, l, _, _, _, rfl, rfl, SqL.of hl, at_of (j := 2) rfl rfl, _, rfl, l, _, _, _, rfl, rfl, SqL.of hl, at_of (j := 3) rfl rfl, b, ad, s, n0, n1, n2, n3, rfl, R', d⟩
    · obtain ⟨a0, rfl⟩ : ∃ a0, xs = [a0] := match xs, hn with | [_], _ => ⟨_, rfl⟩
      obtain ⟨n0, rfl⟩ := asked_4 hask
      rw [stepN_4] at k
      have d : Done CT CB b ad H (Sn98.step s (.away n0)) Q := k
      refine ⟨_, rfl, rfl, _, rfl, ?_⟩
      refine ite2 (fun q => absurd (V.int.inj (of_decide_eq_true q)) (by decide)) (fun _ => ?_)
      refine ⟨_, rfl, rfl, _, rfl, ?_⟩
      refine ite2 (fun q => absurd (V.int.inj (of_decide_eq_true q)) (by decide)) (fun _ => ?_)
      refine ⟨_, rfl, rfl, _, rfl, ?_⟩
      refine ite2 (fun q => absurd (V.int.inj (of_decide_eq_true q)) (by decide)) (fun _ => ?_)
      refine ⟨_, rfl, rfl, _, rfl, ?_⟩
      refine ite2 (fun _ => ?_) (fun q => absurd (decide_eq_true rfl) q)
      exact ⟨_, rfl, b, ad.db, _, rfl, hA.self, bookF_m4 _ _ _ _, _, rfl, l, _, _, _, rfl, rfl, SqL.of hl, at_of (j := 0) rfl rfl, b, ad, s, n0, rfl, R', d⟩
    · obtain ⟨a0, rfl⟩ : ∃ a0, xs = [a0] := match xs, hn with | [_], _ => ⟨_, rfl⟩
      obtain ⟨n0, rfl⟩ := asked_5 hask
      rw [stepN_5] at k
      have d : Done CT CB b ad H (Sn98.step s (.awayAll n0)) Q := k
      refine ⟨_, rfl, rfl, _, rfl, ?_⟩
      refine ite2 (fun q => absurd (V.int.inj (of_decide_eq_true q)) (by decide)) (fun _ => ?_)
      refine ⟨_, rfl, rfl, _, rfl, ?_⟩
      refine ite2 (fun q => absurd (V.int.inj (of_decide_eq_true q)) (by decide)) (fun _ => ?_)
      refine ⟨_, rfl, rfl, _, rfl, ?_⟩
      refine ite2 (fun q => absurd (V.int.inj (of_decide_eq_true q)) (by decide)) (fun _ => ?_)
      refine ⟨_, rfl, rfl, _, rfl, ?_⟩
      refine ite2 (fun q => absurd (V.int.inj (of_decide_eq_true q)) (by decide)) (fun _ => ?_)
      refine ⟨_, rfl, rfl, _, rfl, ?_⟩
      refine ite2 (fun _ => ?_) (fun q => absurd (decide_eq_true rfl) q)
      exact ⟨_, rfl, b, ad.db, _, rfl, hA.self, bookF_m5 _ _ _ _, _, rfl, l, _, _, _, rfl, rfl, SqL.of hl, at_of (j := 0) rfl rfl, b, ad, s, n0, rfl, R', d⟩
    · obtain ⟨a0, rfl⟩ : ∃ a0, xs = [a0] := match xs, hn with | [_], _ => ⟨_, rfl⟩
      obtain ⟨n0, rfl⟩ := asked_6 hask
      rw [stepN_6] at k
      have d : Done CT CB b ad H (Sn98.step s (.look n0)) Q := k
      refine ⟨_, rfl, rfl, _, rfl, ?_⟩
      refine ite2 (fun q => absurd (V.int.inj (of_decide_eq_true q)) (by decide)) (fun _ => ?_)
      refine ⟨_, rfl, rfl, _, rfl, ?_⟩
      refine ite2 (fun q => absurd (V.int.inj (of_decide_eq_true q)) (by decide)) (fun _ => ?_)
      refine ⟨_, rfl, rfl, _, rfl, ?_⟩
      refine ite2 (fun q => absurd (V.int.inj (of_decide_eq_true q)) (by decide)) (fun _ => ?_)
      refine ⟨_, rfl, rfl, _, rfl, ?_⟩
      refine ite2 (fun q => absurd (V.int.inj (of_decide_eq_true q)) (by decide)) (fun _ => ?_)
      refine ⟨_, rfl, rfl, _, rfl, ?_⟩
      refine ite2 (fun q => absurd (V.int.inj (of_decide_eq_true q)) (by decide)) (fun _ => ?_)
      refine ⟨_, rfl, rfl, _, rfl, ?_⟩
      refine ite2 (fun _ => ?_) (fun q => absurd (decide_eq_true rfl) q)
      exact ⟨_, rfl, b, ad.db, _, rfl, hA.self, bookF_m6 _ _ _ _, _, rfl, l, _, _, _, rfl, rfl, SqL.of hl, at_of (j := 0) rfl rfl, b, ad, s, n0, rfl, R', d⟩
    · obtain rfl : xs = [] := List.eq_nil_of_length_eq_zero hn
      rw [stepN_7] at k
      have d : Done CT CB b ad H (Sn98.step s (.next)) Q := k
      refine ⟨_, rfl, rfl, _, rfl, ?_⟩
      refine ite2 (fun q => absurd (V.int.inj (of_decide_eq_true q)) (by decide)) (fun _ => ?_)
      refine ⟨_, rfl, rfl, _, rfl, ?_⟩
      refine ite2 (fun q => absurd (V.int.inj (of_decide_eq_true q)) (by decide)) (fun _ => ?_)
      refine ⟨_, rfl, rfl, _, rfl, ?_⟩
      refine ite2 (fun q => absurd (V.int.inj (of_decide_eq_true q)) (by decide)) (fun _ => ?_)
      refine ⟨_, rfl, rfl, _, rfl, ?_⟩
      refine ite2 (fun q => absurd (V.int.inj (of_decide_eq_true q)) (by decide)) (fun _ => ?_)
      refine ⟨_, rfl, rfl, _, rfl, ?_⟩
      refine ite2 (fun q => absurd (V.int.inj (of_decide_eq_true q)) (by decide)) (fun _ => ?_)
      refine ⟨_, rfl, rfl, _, rfl, ?_⟩
      refine ite2 (fun q => absurd (V.int.inj (of_decide_eq_true q)) (by decide)) (fun _ => ?_)
      refine ⟨_, rfl, rfl, _, rfl, ?_⟩
      refine ite2 (fun _ => ?_) (fun q => absurd (decide_eq_true rfl) q)
      exact ⟨_, rfl, b, ad.db, _, rfl, hA.self, bookF_m7 _ _ _ _, b, ad, s, rfl, R', d⟩
    · obtain ⟨a0, a1, rfl⟩ : ∃ a0 a1, xs = [a0, a1] := match xs, hn with | [_, _], _ => ⟨_, _, rfl⟩
      obtain ⟨⟨n0, rfl⟩, ⟨n1, rfl⟩⟩ := asked_8 hask
      rw [stepN_8] at k
      have d : Done CT CB b ad H (Sn98.step s (.time n0 n1)) Q := k
      refine ⟨_, rfl, rfl, _, rfl, ?_⟩
      refine ite2 (fun q => absurd (V.int.inj (of_decide_eq_true q)) (by decide)) (fun _ => ?_)
      refine ⟨_, rfl, rfl, _, rfl, ?_⟩
      refine ite2 (fun q => absurd (V.int.inj (of_decide_eq_true q)) (by decide)) (fun _ => ?_)
      refine ⟨_, rfl, rfl, _, rfl, ?_⟩
      refine ite2 (fun q => absurd (V.int.inj (of_decide_eq_true q)) (by decide)) (fun _ => ?_)
      refine ⟨_, rfl, rfl, _, rfl, ?_⟩
      refine ite2 (fun q => absurd (V.int.inj (of_decide_eq_true q)) (by decide)) (fun _ => ?_)
      refine ⟨_, rfl, rfl, _, rfl, ?_⟩
      refine ite2 (fun q => absurd (V.int.inj (of_decide_eq_true q)) (by decide)) (fun _ => ?_)
      refine ⟨_, rfl, rfl, _, rfl, ?_⟩
      refine ite2 (fun q => absurd (V.int.inj (of_decide_eq_true q)) (by decide)) (fun _ => ?_)
      refine ⟨_, rfl, rfl, _, rfl, ?_⟩
      refine ite2 (fun q => absurd (V.int.inj (of_decide_eq_true q)) (by decide)) (fun _ => ?_)
      refine ⟨_, rfl, rfl, _, rfl, ?_⟩
      refine ite2 (fun _ => ?_) (fun q => absurd (decide_eq_true rfl) q)
      exact ⟨_, rfl, b, ad.db, _, rfl, hA.self, bookF_m8 _ _ _ _, _, rfl, l, _, _, _, rfl, rfl, SqL.of hl, at_of (j := 0) rfl rfl, _, rfl, l, _, _, _, rfl, rfl, SqL.of hl, at_of (j := 1) rfl rfl, b, ad, s, n0, n1, rfl, R', d⟩
    · obtain rfl : xs = [] := List.eq_nil_of_length_eq_zero hn
      rw [stepN_9] at k
      have d : Done CT CB b ad H (Sn98.step s (.count)) Q := k
      refine ⟨_, rfl, rfl, _, rfl, ?_⟩
      refine ite2 (fun q => absurd (V.int.inj (of_decide_eq_true q)) (by decide)) (fun _ => ?_)
      refine ⟨_, rfl, rfl, _, rfl, ?_⟩
      refine ite2 (fun q => absurd (V.int.inj (of_decide_eq_true q)) (by decide)) (fun _ => ?_)
      refine ⟨_, rfl, rfl, _, rfl, ?_⟩
      refine ite2 (fun q => absurd (V.int.inj (of_decide_eq_true q)) (by decide)) (fun _ => ?_)
      refine ⟨_, rfl, rfl, _, rfl, ?_⟩
      refine ite2 (fun q => absurd (V.int.inj (of_decide_eq_true q)) (by decide)) (fun _ => ?_)
      refine ⟨_, rfl, rfl, _, rfl, ?_⟩
      refine ite2 (fun q => absurd (V.int.inj (of_decide_eq_true q)) (by decide)) (fun _ => ?_)
      refine ⟨_, rfl, rfl, _, rfl, ?_⟩
      refine ite2 (fun q => absurd (V.int.inj (of_decide_eq_true q)) (by decide)) (fun _ => ?_)
      refine ⟨_, rfl, rfl, _, rfl, ?_⟩
      refine ite2 (fun q => absurd (V.int.inj (of_decide_eq_true q)) (by decide)) (fun _ => ?_)
      refine ⟨_, rfl, rfl, _, rfl, ?_⟩
      refine ite2 (fun q => absurd (V.int.inj (of_decide_eq_true q)) (by decide)) (fun _ => ?_)
      refine ⟨_, rfl, rfl, _, rfl, ?_⟩
      refine ite2 (fun _ => ?_) (fun q => absurd (decide_eq_true rfl) q)
      exact ⟨_, rfl, b, ad.db, _, rfl, hA.self, bookF_m9 _ _ _ _, b, ad, s, rfl, R', d⟩
    · obtain ⟨a0, a1, rfl⟩ : ∃ a0 a1, xs = [a0, a1] := match xs, hn with | [_, _], _ => ⟨_, _, rfl⟩
      obtain ⟨⟨n0, rfl⟩, ⟨n1, rfl⟩⟩ := asked_10 hask
      rw [stepN_10] at k
      have d : Done CT CB b ad H (Sn98.step s (.later n0 n1)) Q := k
      refine ⟨_, rfl, rfl, _, rfl, ?_⟩
      refine ite2 (fun q => absurd (V.int.inj (of_decide_eq_true q)) (by decide)) (fun _ => ?_)
      refine ⟨_, rfl, rfl, _, rfl, ?_⟩
      refine ite2 (fun q => absurd (V.int.inj (of_decide_eq_true q)) (by decide)) (fun _ => ?_)
      refine ⟨_, rfl, rfl, _, rfl, ?_⟩
      refine ite2 (fun q => absurd (V.int.inj (of_decide_eq_true q)) (by decide)) (fun _ => ?_)
      refine ⟨_, rfl, rfl, _, rfl, ?_⟩
      refine ite2 (fun q => absurd (V.int.inj (of_decide_eq_true q)) (by decide)) (fun _ => ?_)
      refine ⟨_, rfl, rfl, _, rfl, ?_⟩
      refine ite2 (fun q => absurd (V.int.inj (of_decide_eq_true q)) (by decide)) (fun _ => ?_)
      refine ⟨_, rfl, rfl, _, rfl, ?_⟩
      refine ite2 (fun q => absurd (V.int.inj (of_decide_eq_true q)) (by decide)) (fun _ => ?_)
      refine ⟨_, rfl, rfl, _, rfl, ?_⟩
      refine ite2 (fun q => absurd (V.int.inj (of_decide_eq_true q)) (by decide)) (fun _ => ?_)
      refine ⟨_, rfl, rfl, _, rfl, ?_⟩
      refine ite2 (fun q => absurd (V.int.inj (of_decide_eq_true q)) (by decide)) (fun _ => ?_)
      refine ⟨_, rfl, rfl, _, rfl, ?_⟩
      refine ite2 (fun q => absurd (V.int.inj (of_decide_eq_true q)) (by decide)) (fun _ => ?_)
      refine ⟨_, rfl, rfl, _, rfl, ?_⟩
      refine ite2 (fun _ => ?_) (fun q => absurd (decide_eq_true rfl) q)
      exact ⟨_, rfl, b, ad.db, _, rfl, hA.self, bookF_m10 _ _ _ _, _, rfl, l, _, _, _, rfl, rfl, SqL.of hl, at_of (j := 0) rfl rfl, _, rfl, l, _, _, _, rfl, rfl, SqL.of hl, at_of (j := 1) rfl rfl, b, ad, s, n0, n1, rfl, R', d⟩
    · obtain ⟨a0, rfl⟩ : ∃ a0, xs = [a0] := match xs, hn with | [_], _ => ⟨_, rfl⟩
      obtain ⟨n0, rfl⟩ := asked_11 hask
      rw [stepN_11] at k
      have d : Done CT CB b ad H (Sn98.step s (.hold n0)) Q := k
      refine ⟨_, rfl, rfl, _, rfl, ?_⟩
      refine ite2 (fun q => absurd (V.int.inj (of_decide_eq_true q)) (by decide)) (fun _ => ?_)
      refine ⟨_, rfl, rfl, _, rfl, ?_⟩
      refine ite2 (fun q => absurd (V.int.inj (of_decide_eq_true q)) (by decide)) (fun _ => ?_)
      refine ⟨_, rfl, rfl, _, rfl, ?_⟩
      refine ite2 (fun q => absurd (V.int.inj (of_decide_eq_true q)) (by decide)) (fun _ => ?_)
      refine ⟨_, rfl, rfl, _, rfl, ?_⟩
      refine ite2 (fun q => absurd (V.int.inj (of_decide_eq_true q)) (by decide)) (fun _ => ?_)
      refine ⟨_, rfl, rfl, _, rfl, ?_⟩
      refine ite2 (fun q => absurd (V.int.inj (of_decide_eq_true q)) (by decide)) (fun _ => ?_)
      refine ⟨_, rfl, rfl, _, rfl, ?_⟩
      refine ite2 (fun q => absurd (V.int.inj (of_decide_eq_true q)) (by decide)) (fun _ => ?_)
      refine ⟨_, rfl, rfl, _, rfl, ?_⟩
      refine ite2 (fun q => absurd (V.int.inj (of_decide_eq_true q)) (by decide)) (fun _ => ?_)
      refine ⟨_, rfl, rfl, _, rfl, ?_⟩
      refine ite2 (fun q => absurd (V.int.inj (of_decide_eq_true q)) (by decide)) (fun _ => ?_)
      refine ⟨_, rfl, rfl, _, rfl, ?_⟩
      refine ite2 (fun q => absurd (V.int.inj (of_decide_eq_true q)) (by decide)) (fun _ => ?_)
      refine ⟨_, rfl, rfl, _, rfl, ?_⟩
      refine ite2 (fun q => absurd (V.int.inj (of_decide_eq_true q)) (by decide)) (fun _ => ?_)
      refine ⟨_, rfl, rfl, _, rfl, ?_⟩
      refine ite2 (fun _ => ?_) (fun q => absurd (decide_eq_true rfl) q)
      exact ⟨_, rfl, b, ad.db, _, rfl, hA.self, bookF_m11 _ _ _ _, _, rfl, l, _, _, _, rfl, rfl, SqL.of hl, at_of (j := 0) rfl rfl, b, ad, s, n0, rfl, R', d⟩
    · obtain ⟨a0, rfl⟩ : ∃ a0, xs = [a0] := match xs, hn with | [_], _ => ⟨_, rfl⟩
      obtain ⟨n0, rfl⟩ := asked_12 hask
      rw [stepN_12] at k
      have d : Done CT CB b ad H (Sn98.step s (.goOn n0)) Q := k
      refine ⟨_, rfl, rfl, _, rfl, ?_⟩
      refine ite2 (fun q => absurd (V.int.inj (of_decide_eq_true q)) (by decide)) (fun _ => ?_)
      refine ⟨_, rfl, rfl, _, rfl, ?_⟩
      refine ite2 (fun q => absurd (V.int.inj (of_decide_eq_true q)) (by decide)) (fun _ => ?_)
      refine ⟨_, rfl, rfl, _, rfl, ?_⟩
      refine ite2 (fun q => absurd (V.int.inj (of_decide_eq_true q)) (by decide)) (fun _ => ?_)
      refine ⟨_, rfl, rfl, _, rfl, ?_⟩
      refine ite2 (fun q => absurd (V.int.inj (of_decide_eq_true q)) (by decide)) (fun _ => ?_)
      refine ⟨_, rfl, rfl, _, rfl, ?_⟩
      refine ite2 (fun q => absurd (V.int.inj (of_decide_eq_true q)) (by decide)) (fun _ => ?_)
      refine ⟨_, rfl, rfl, _, rfl, ?_⟩
      refine ite2 (fun q => absurd (V.int.inj (of_decide_eq_true q)) (by decide)) (fun _ => ?_)
      refine ⟨_, rfl, rfl, _, rfl, ?_⟩
      refine ite2 (fun q => absurd (V.int.inj (of_decide_eq_true q)) (by decide)) (fun _ => ?_)
      refine ⟨_, rfl, rfl, _, rfl, ?_⟩
      refine ite2 (fun q => absurd (V.int.inj (of_decide_eq_true q)) (by decide)) (fun _ => ?_)
      refine ⟨_, rfl, rfl, _, rfl, ?_⟩
      refine ite2 (fun q => absurd (V.int.inj (of_decide_eq_true q)) (by decide)) (fun _ => ?_)
      refine ⟨_, rfl, rfl, _, rfl, ?_⟩
      refine ite2 (fun q => absurd (V.int.inj (of_decide_eq_true q)) (by decide)) (fun _ => ?_)
      refine ⟨_, rfl, rfl, _, rfl, ?_⟩
      refine ite2 (fun q => absurd (V.int.inj (of_decide_eq_true q)) (by decide)) (fun _ => ?_)
      refine ⟨_, rfl, rfl, _, rfl, ?_⟩
      refine ite2 (fun _ => ?_) (fun q => absurd (decide_eq_true rfl) q)
      exact ⟨_, rfl, b, ad.db, _, rfl, hA.self, bookF_m12 _ _ _ _, _, rfl, l, _, _, _, rfl, rfl, SqL.of hl, at_of (j := 0) rfl rfl, b, ad, s, n0, rfl, R', d⟩
    · obtain ⟨a0, a1, rfl⟩ : ∃ a0 a1, xs = [a0, a1] := match xs, hn with | [_, _], _ => ⟨_, _, rfl⟩
      obtain ⟨⟨n0, rfl⟩, ⟨n1, rfl⟩⟩ := asked_13 hask
      rw [stepN_13] at k
      have d : Done CT CB b ad H (Sn98.step s (.list n0 n1)) Q := k
      refine ⟨_, rfl, rfl, _, rfl, ?_⟩
      refine ite2 (fun q => absurd (V.int.inj (of_decide_eq_true q)) (by decide)) (fun _ => ?_)
      refine ⟨_, rfl, rfl, _, rfl, ?_⟩
      refine ite2 (fun q => absurd (V.int.inj (of_decide_eq_true q)) (by decide)) (fun _ => ?_)
      refine ⟨_, rfl, rfl, _, rfl, ?_⟩
      refine ite2 (fun q => absurd (V.int.inj (of_decide_eq_true q)) (by decide)) (fun _ => ?_)
      refine ⟨_, rfl, rfl, _, rfl, ?_⟩
      refine ite2 (fun q => absurd (V.int.inj (of_decide_eq_true q)) (by decide)) (fun _ => ?_)
      refine ⟨_, rfl, rfl, _, rfl, ?_⟩
      refine ite2 (fun q => absurd (V.int.inj (of_decide_eq_true q)) (by decide)) (fun _ => ?_)
      refine ⟨_, rfl, rfl, _, rfl, ?_⟩
      refine ite2 (fun q => absurd (V.int.inj (of_decide_eq_true q)) (by decide)) (fun _ => ?_)
      refine ⟨_, rfl, rfl, _, rfl, ?_⟩
      refine ite2 (fun q => absurd (V.int.inj (of_decide_eq_true q)) (by decide)) (fun _ => ?_)
      refine ⟨_, rfl, rfl, _, rfl, ?_⟩
      refine ite2 (fun q => absurd (V.int.inj (of_decide_eq_true q)) (by decide)) (fun _ => ?_)
      refine ⟨_, rfl, rfl, _, rfl, ?_⟩
      refine ite2 (fun q => absurd (V.int.inj (of_decide_eq_true q)) (by decide)) (fun _ => ?_)
      refine ⟨_, rfl, rfl, _, rfl, ?_⟩
      refine ite2 (fun q => absurd (V.int.inj (of_decide_eq_true q)) (by decide)) (fun _ => ?_)
      refine ⟨_, rfl, rfl, _, rfl, ?_⟩
      refine ite2 (fun q => absurd (V.int.inj (of_decide_eq_true q)) (by decide)) (fun _ => ?_)
      refine ⟨_, rfl, rfl, _, rfl, ?_⟩
      refine ite2 (fun q => absurd (V.int.inj (of_decide_eq_true q)) (by decide)) (fun _ => ?_)
      exact ⟨_, rfl, b, ad.db, _, rfl, hA.self, bookF_m13 _ _ _ _, _, rfl, l, _, _, _, rfl, rfl, SqL.of hl, at_of (j := 0) rfl rfl, _, rfl, l, _, _, _, rfl, rfl, SqL.of hl, at_of (j := 1) rfl rfl, b, ad, s, n0, n1, rfl, R', d⟩
end
end TD
set_option Elab.async false
set_option linter.all false
set_option maxRecDepth 100000
set_option maxHeartbeats 4000000
namespace TD
open PySem PySem.Spec PyProof.Rows L2 TM
theorem hN_all : ∀ (p : Int) (n : Nat), PySn98.shape p = some (n, 0) → valV (tblV [(1, 1), (2, 4), (3, 4), (4, 1), (5, 1), (6, 1), (7, 0), (8, 2), (9, 0), (10, 2), (11, 1), (12, 1), (13, 2)]) (Sum.inl p) = some (.int (n : Int)) := by
  intro p n h
  rcases shape_all h with ⟨rfl, rfl⟩ | ⟨rfl, rfl⟩ | ⟨rfl, rfl⟩ | ⟨rfl, rfl⟩ | ⟨rfl, rfl⟩ | ⟨rfl, rfl⟩ | ⟨rfl, rfl⟩ | ⟨rfl, rfl⟩ | ⟨rfl, rfl⟩ | ⟨rfl, rfl⟩ | ⟨rfl, rfl⟩ | ⟨rfl, rfl⟩ | ⟨rfl, rfl⟩
  all_goals rfl
theorem all_mk {P : Program} {w : World} {K : PySem.W.Frag} {h : Heap} {mg : Str → Option Value} {fa CT CB : Addr} (X : K.In h) (G : h.Ns mainGlobals mg) (hfa : mg "answers" = some (.ref fa))
    {od0 an0 : Option Addr} {sl0 : Array (Option Value)} {oc0 kV0 dc0 pm0 cd0 ct0 : Value} {f0 : Addr}
    {od1 an1 : Option Addr} {sl1 : Array (Option Value)} {oc1 kV1 dc1 pm1 cd1 ct1 : Value} {f1 : Addr}
    {od2 an2 : Option Addr} {sl2 : Array (Option Value)} {oc2 kV2 dc2 pm2 cd2 ct2 : Value} {f2 : Addr}
    {od3 an3 : Option Addr} {sl3 : Array (Option Value)} {oc3 kV3 dc3 pm3 cd3 ct3 : Value} {f3 : Addr}
    {od4 an4 : Option Addr} {sl4 : Array (Option Value)} {oc4 kV4 dc4 pm4 cd4 ct4 : Value} {f4 : Addr}
    {od5 an5 : Option Addr} {sl5 : Array (Option Value)} {oc5 kV5 dc5 pm5 cd5 ct5 : Value} {f5 : Addr}
    {od6 an6 : Option Addr} {sl6 : Array (Option Value)} {oc6 kV6 dc6 pm6 cd6 ct6 : Value} {f6 : Addr}
    {od7 an7 : Option Addr} {sl7 : Array (Option Value)} {oc7 kV7 dc7 pm7 cd7 ct7 : Value} {f7 : Addr}
    {od8 an8 : Option Addr} {sl8 : Array (Option Value)} {oc8 kV8 dc8 pm8 cd8 ct8 : Value} {f8 : Addr}
    {od9 an9 : Option Addr} {sl9 : Array (Option Value)} {oc9 kV9 dc9 pm9 cd9 ct9 : Value} {f9 : Addr}
    {od10 an10 : Option Addr} {sl10 : Array (Option Value)} {oc10 kV10 dc10 pm10 cd10 ct10 : Value} {f10 : Addr}
    {od11 an11 : Option Addr} {sl11 : Array (Option Value)} {oc11 kV11 dc11 pm11 cd11 ct11 : Value} {f11 : Addr}
    {od12 an12 : Option Addr} {sl12 : Array (Option Value)} {oc12 kV12 dc12 pm12 cd12 ct12 : Value} {f12 : Addr}
    {od13 an13 : Option Addr} {sl13 : Array (Option Value)} {oc13 kV13 dc13 pm13 cd13 ct13 : Value} {f13 : Addr}
    {od14 an14 : Option Addr} {sl14 : Array (Option Value)} {oc14 kV14 dc14 pm14 cd14 ct14 : Value} {f14 : Addr}
    {od15 an15 : Option Addr} {sl15 : Array (Option Value)} {oc15 kV15 dc15 pm15 cd15 ct15 : Value} {f15 : Addr}
    {od16 an16 : Option Addr} {sl16 : Array (Option Value)} {oc16 kV16 dc16 pm16 cd16 ct16 : Value} {f16 : Addr}
    {od17 an17 : Option Addr} {sl17 : Array (Option Value)} {oc17 kV17 dc17 pm17 cd17 ct17 : Value} {f17 : Addr}
    {od18 an18 : Option Addr} {sl18 : Array (Option Value)} {oc18 kV18 dc18 pm18 cd18 ct18 : Value} {f18 : Addr}
    {od19 an19 : Option Addr} {sl19 : Array (Option Value)} {oc19 kV19 dc19 pm19 cd19 ct19 : Value} {f19 : Addr}
    {od20 an20 : Option Addr} {sl20 : Array (Option Value)} {oc20 kV20 dc20 pm20 cd20 ct20 : Value} {f20 : Addr}
    {od21 an21 : Option Addr} {sl21 : Array (Option Value)} {oc21 kV21 dc21 pm21 cd21 ct21 : Value} {f21 : Addr}
    {od22 an22 : Option Addr} {sl22 : Array (Option Value)} {oc22 kV22 dc22 pm22 cd22 ct22 : Value} {f22 : Addr}
    {u_HIGHEST_NAME : Value}
    {u_HIGHEST_TIME : Value}
    {u_MOST_TIMERS : Value}
    {u_TOO_HIGH : Value}
    {u_NOT_THERE : Value}
    {u_NOT_FITTING : Value}
    {u_NO_ROOM : Value}
    {u_BEGIN : Value}
    {u_SET : Value}
    {u_AFTER : Value}
    {u_AWAY : Value}
    {u_AWAY_ALL : Value}
    {u_LOOK : Value}
    {u_NEXT : Value}
    {u_TIME : Value}
    {u_COUNT : Value}
    {u_LATER : Value}
    {u_HOLD : Value}
    {u_GO_ON : Value}
    {aD : Addr} {oD : Obj}
    (aT : PySem.W.nsIn K mainGlobals "Timer" = some (some (.ref CT))) (aB : PySem.W.nsIn K mainGlobals "TimerBook" = some (some (.ref CB)))
    (a0 : PySem.W.findIn K (.ref CT) "__init__" = some (some (.ref f0))) (i0 : PySem.W.isFn K (.ref f0) = true)
    (l0 : K.lookup f0 = some ⟨oc0, od0, .func (PySem.W.fnOf "__init__" "Timer.__init__" (defArgs sTInit) (defBody sTInit) (defScope sTInit) .none kV0 dc0 pm0 an0 cd0 ct0), sl0⟩) (c0 : PySem.W.codeIn K cd0 "Timer.__init__" = true) (k0 : PySem.W.keepIn K (.ref f0) = true)
    (a1 : PySem.W.findIn K (.ref CB) "__init__" = some (some (.ref f1))) (i1 : PySem.W.isFn K (.ref f1) = true)
    (l1 : K.lookup f1 = some ⟨oc1, od1, .func (PySem.W.fnOf "__init__" "TimerBook.__init__" (defArgs sBInit) (defBody sBInit) (defScope sBInit) .none kV1 dc1 pm1 an1 cd1 ct1), sl1⟩) (c1 : PySem.W.codeIn K cd1 "TimerBook.__init__" = true) (k1 : PySem.W.keepIn K (.ref f1) = true)
    (a2 : PySem.W.findIn K (.ref CB) "begin" = some (some (.ref f2))) (i2 : PySem.W.isFn K (.ref f2) = true)
    (l2 : K.lookup f2 = some ⟨oc2, od2, .func (PySem.W.fnOf "begin" "TimerBook.begin" (defArgs sBegin) (defBody sBegin) (defScope sBegin) .none kV2 dc2 pm2 an2 cd2 ct2), sl2⟩) (c2 : PySem.W.codeIn K cd2 "TimerBook.begin" = true) (k2 : PySem.W.keepIn K (.ref f2) = true)
    (a3 : PySem.W.findIn K (.ref CB) "put" = some (some (.ref f3))) (i3 : PySem.W.isFn K (.ref f3) = true)
    (l3 : K.lookup f3 = some ⟨oc3, od3, .func (PySem.W.fnOf "put" "TimerBook.put" (defArgs sPut) (defBody sPut) (defScope sPut) .none kV3 dc3 pm3 an3 cd3 ct3), sl3⟩) (c3 : PySem.W.codeIn K cd3 "TimerBook.put" = true) (k3 : PySem.W.keepIn K (.ref f3) = true)
    (a4 : PySem.W.findIn K (.ref CB) "put_after" = some (some (.ref f4))) (i4 : PySem.W.isFn K (.ref f4) = true)
    (l4 : K.lookup f4 = some ⟨oc4, od4, .func (PySem.W.fnOf "put_after" "TimerBook.put_after" (defArgs sPutAfter) (defBody sPutAfter) (defScope sPutAfter) .none kV4 dc4 pm4 an4 cd4 ct4), sl4⟩) (c4 : PySem.W.codeIn K cd4 "TimerBook.put_after" = true) (k4 : PySem.W.keepIn K (.ref f4) = true)
    (a5 : PySem.W.findIn K (.ref CB) "away" = some (some (.ref f5))) (i5 : PySem.W.isFn K (.ref f5) = true)
    (l5 : K.lookup f5 = some ⟨oc5, od5, .func (PySem.W.fnOf "away" "TimerBook.away" (defArgs sAway) (defBody sAway) (defScope sAway) .none kV5 dc5 pm5 an5 cd5 ct5), sl5⟩) (c5 : PySem.W.codeIn K cd5 "TimerBook.away" = true) (k5 : PySem.W.keepIn K (.ref f5) = true)
    (a6 : PySem.W.findIn K (.ref CB) "away_all" = some (some (.ref f6))) (i6 : PySem.W.isFn K (.ref f6) = true)
    (l6 : K.lookup f6 = some ⟨oc6, od6, .func (PySem.W.fnOf "away_all" "TimerBook.away_all" (defArgs sAwayAll) (defBody sAwayAll) (defScope sAwayAll) .none kV6 dc6 pm6 an6 cd6 ct6), sl6⟩) (c6 : PySem.W.codeIn K cd6 "TimerBook.away_all" = true) (k6 : PySem.W.keepIn K (.ref f6) = true)
    (a7 : PySem.W.findIn K (.ref CB) "look" = some (some (.ref f7))) (i7 : PySem.W.isFn K (.ref f7) = true)
    (l7 : K.lookup f7 = some ⟨oc7, od7, .func (PySem.W.fnOf "look" "TimerBook.look" (defArgs sLook) (defBody sLook) (defScope sLook) .none kV7 dc7 pm7 an7 cd7 ct7), sl7⟩) (c7 : PySem.W.codeIn K cd7 "TimerBook.look" = true) (k7 : PySem.W.keepIn K (.ref f7) = true)
    (a8 : PySem.W.findIn K (.ref CB) "first_due" = some (some (.ref f8))) (i8 : PySem.W.isFn K (.ref f8) = true)
    (l8 : K.lookup f8 = some ⟨oc8, od8, .func (PySem.W.fnOf "first_due" "TimerBook.first_due" (defArgs sFirst) (defBody sFirst) (defScope sFirst) .none kV8 dc8 pm8 an8 cd8 ct8), sl8⟩) (c8 : PySem.W.codeIn K cd8 "TimerBook.first_due" = true) (k8 : PySem.W.keepIn K (.ref f8) = true)
    (a9 : PySem.W.findIn K (.ref CB) "come_due" = some (some (.ref f9))) (i9 : PySem.W.isFn K (.ref f9) = true)
    (l9 : K.lookup f9 = some ⟨oc9, od9, .func (PySem.W.fnOf "come_due" "TimerBook.come_due" (defArgs sComeDue) (defBody sComeDue) (defScope sComeDue) .none kV9 dc9 pm9 an9 cd9 ct9), sl9⟩) (c9 : PySem.W.codeIn K cd9 "TimerBook.come_due" = true) (k9 : PySem.W.keepIn K (.ref f9) = true)
    (a10 : PySem.W.findIn K (.ref CB) "how_many" = some (some (.ref f10))) (i10 : PySem.W.isFn K (.ref f10) = true)
    (l10 : K.lookup f10 = some ⟨oc10, od10, .func (PySem.W.fnOf "how_many" "TimerBook.how_many" (defArgs sHowMany) (defBody sHowMany) (defScope sHowMany) .none kV10 dc10 pm10 an10 cd10 ct10), sl10⟩) (c10 : PySem.W.codeIn K cd10 "TimerBook.how_many" = true) (k10 : PySem.W.keepIn K (.ref f10) = true)
    (a11 : PySem.W.findIn K (.ref CB) "later" = some (some (.ref f11))) (i11 : PySem.W.isFn K (.ref f11) = true)
    (l11 : K.lookup f11 = some ⟨oc11, od11, .func (PySem.W.fnOf "later" "TimerBook.later" (defArgs sLater) (defBody sLater) (defScope sLater) .none kV11 dc11 pm11 an11 cd11 ct11), sl11⟩) (c11 : PySem.W.codeIn K cd11 "TimerBook.later" = true) (k11 : PySem.W.keepIn K (.ref f11) = true)
    (a12 : PySem.W.findIn K (.ref CB) "hold" = some (some (.ref f12))) (i12 : PySem.W.isFn K (.ref f12) = true)
    (l12 : K.lookup f12 = some ⟨oc12, od12, .func (PySem.W.fnOf "hold" "TimerBook.hold" (defArgs sHold) (defBody sHold) (defScope sHold) .none kV12 dc12 pm12 an12 cd12 ct12), sl12⟩) (c12 : PySem.W.codeIn K cd12 "TimerBook.hold" = true) (k12 : PySem.W.keepIn K (.ref f12) = true)
    (a13 : PySem.W.findIn K (.ref CB) "go_on" = some (some (.ref f13))) (i13 : PySem.W.isFn K (.ref f13) = true)
    (l13 : K.lookup f13 = some ⟨oc13, od13, .func (PySem.W.fnOf "go_on" "TimerBook.go_on" (defArgs sGoOn) (defBody sGoOn) (defScope sGoOn) .none kV13 dc13 pm13 an13 cd13 ct13), sl13⟩) (c13 : PySem.W.codeIn K cd13 "TimerBook.go_on" = true) (k13 : PySem.W.keepIn K (.ref f13) = true)
    (a14 : PySem.W.findIn K (.ref CB) "in_order" = some (some (.ref f14))) (i14 : PySem.W.isFn K (.ref f14) = true)
    (l14 : K.lookup f14 = some ⟨oc14, od14, .func (PySem.W.fnOf "in_order" "TimerBook.in_order" (defArgs sInOrder) (defBody sInOrder) (defScope sInOrder) .none kV14 dc14 pm14 an14 cd14 ct14), sl14⟩) (c14 : PySem.W.codeIn K cd14 "TimerBook.in_order" = true) (k14 : PySem.W.keepIn K (.ref f14) = true)
    (a15 : PySem.W.findIn K (.ref CB) "how_many_come" = some (some (.ref f15))) (i15 : PySem.W.isFn K (.ref f15) = true)
    (l15 : K.lookup f15 = some ⟨oc15, od15, .func (PySem.W.fnOf "how_many_come" "TimerBook.how_many_come" (defArgs sHowCome) (defBody sHowCome) (defScope sHowCome) .none kV15 dc15 pm15 an15 cd15 ct15), sl15⟩) (c15 : PySem.W.codeIn K cd15 "TimerBook.how_many_come" = true) (k15 : PySem.W.keepIn K (.ref f15) = true)
    (a16 : PySem.W.findIn K (.ref CB) "come" = some (some (.ref f16))) (i16 : PySem.W.isFn K (.ref f16) = true)
    (l16 : K.lookup f16 = some ⟨oc16, od16, .func (PySem.W.fnOf "come" "TimerBook.come" (defArgs sCome) (defBody sCome) (defScope sCome) .none kV16 dc16 pm16 an16 cd16 ct16), sl16⟩) (c16 : PySem.W.codeIn K cd16 "TimerBook.come" = true) (k16 : PySem.W.keepIn K (.ref f16) = true)
    (a17 : PySem.W.findIn K (.ref CB) "line_up" = some (some (.ref f17))) (i17 : PySem.W.isFn K (.ref f17) = true)
    (l17 : K.lookup f17 = some ⟨oc17, od17, .func (PySem.W.fnOf "line_up" "TimerBook.line_up" (defArgs sLineUp) (defBody sLineUp) (defScope sLineUp) .none kV17 dc17 pm17 an17 cd17 ct17), sl17⟩) (c17 : PySem.W.codeIn K cd17 "TimerBook.line_up" = true) (k17 : PySem.W.keepIn K (.ref f17) = true)
    (a18 : PySem.W.findIn K (.ref CB) "leave_line" = some (some (.ref f18))) (i18 : PySem.W.isFn K (.ref f18) = true)
    (l18 : K.lookup f18 = some ⟨oc18, od18, .func (PySem.W.fnOf "leave_line" "TimerBook.leave_line" (defArgs sLeave) (defBody sLeave) (defScope sLeave) .none kV18 dc18 pm18 an18 cd18 ct18), sl18⟩) (c18 : PySem.W.codeIn K cd18 "TimerBook.leave_line" = true) (k18 : PySem.W.keepIn K (.ref f18) = true)
    (a19 : PySem.W.findIn K (.ref CB) "drop" = some (some (.ref f19))) (i19 : PySem.W.isFn K (.ref f19) = true)
    (l19 : K.lookup f19 = some ⟨oc19, od19, .func (PySem.W.fnOf "drop" "TimerBook.drop" (defArgs sDrop) (defBody sDrop) (defScope sDrop) .none kV19 dc19 pm19 an19 cd19 ct19), sl19⟩) (c19 : PySem.W.codeIn K cd19 "TimerBook.drop" = true) (k19 : PySem.W.keepIn K (.ref f19) = true)
    (a20 : PySem.W.findIn K (.ref CB) "how_many_before" = some (some (.ref f20))) (i20 : PySem.W.isFn K (.ref f20) = true)
    (l20 : K.lookup f20 = some ⟨oc20, od20, .func (PySem.W.fnOf "how_many_before" "TimerBook.how_many_before" (defArgs sHow) (defBody sHow) (defScope sHow) .none kV20 dc20 pm20 an20 cd20 ct20), sl20⟩) (c20 : PySem.W.codeIn K cd20 "TimerBook.how_many_before" = true) (k20 : PySem.W.keepIn K (.ref f20) = true)
    (a21 : PySem.W.nsIn K mainGlobals "answers" = some (some (.ref f21)))
    (l21 : K.lookup f21 = some ⟨oc21, od21, .func (PySem.W.fnOf "answers" "answers" (defArgs sAnswers) (defBody sAnswers) (defScope sAnswers) .none kV21 dc21 pm21 an21 cd21 ct21), sl21⟩) (c21 : PySem.W.codeIn K cd21 "answers" = true) (k21 : PySem.W.keepIn K (.ref f21) = true)
    (a22 : PySem.W.nsIn K mainGlobals "answer_one" = some (some (.ref f22)))
    (l22 : K.lookup f22 = some ⟨oc22, od22, .func (PySem.W.fnOf "answer_one" "answer_one" (defArgs sOne) (defBody sOne) (defScope sOne) .none kV22 dc22 pm22 an22 cd22 ct22), sl22⟩) (c22 : PySem.W.codeIn K cd22 "answer_one" = true) (k22 : PySem.W.keepIn K (.ref f22) = true)
    (pgT : PySem.W.plainGet K CT Str.empty = true) (hdT : PySem.W.hasDictIn K CT = true) (poT : PySem.W.plainOver K CT = true) (saT : PySem.W.findIn K (.ref CT) "__setattr__" = some (some (.builtin "object.__setattr__"))) (mkT : PySem.W.makesIn K CT = true) (kcT : PySem.W.keepIn K (.ref CT) = true)
    (pgB : PySem.W.plainGet K CB Str.empty = true) (hdB : PySem.W.hasDictIn K CB = true) (poB : PySem.W.plainOver K CB = true) (saB : PySem.W.findIn K (.ref CB) "__setattr__" = some (some (.builtin "object.__setattr__"))) (mkB : PySem.W.makesIn K CB = true) (kcB : PySem.W.keepIn K (.ref CB) = true)
    (nT_name : PySem.W.findIn K (.ref CT) "name" = some none)
    (nT_every : PySem.W.findIn K (.ref CT) "every" = some none)
    (nT_tag : PySem.W.findIn K (.ref CT) "tag" = some none)
    (nT_due : PySem.W.findIn K (.ref CT) "due" = some none)
    (nT_turn : PySem.W.findIn K (.ref CT) "turn" = some none)
    (nT_held : PySem.W.findIn K (.ref CT) "held" = some none)
    (nT_left : PySem.W.findIn K (.ref CT) "left" = some none)
    (nB_now : PySem.W.findIn K (.ref CB) "now" = some none)
    (nB_by_name : PySem.W.findIn K (.ref CB) "by_name" = some none)
    (nB_waiting : PySem.W.findIn K (.ref CB) "waiting" = some none)
    (nB_turns : PySem.W.findIn K (.ref CB) "turns" = some none)
    (gl : PySem.W.nsIn K mainGlobals "len" = some none)
    (gb_max : PySem.W.nsIn K mainGlobals "max" = some none)
    (gb_min : PySem.W.nsIn K mainGlobals "min" = some none)
    (g_HIGHEST_NAME : PySem.W.nsIn K mainGlobals "HIGHEST_NAME" = some (some u_HIGHEST_NAME)) (r_HIGHEST_NAME : RelV (.int (4294967295)) u_HIGHEST_NAME)
    (g_HIGHEST_TIME : PySem.W.nsIn K mainGlobals "HIGHEST_TIME" = some (some u_HIGHEST_TIME)) (r_HIGHEST_TIME : RelV (.int (9223372036854775807)) u_HIGHEST_TIME)
    (g_MOST_TIMERS : PySem.W.nsIn K mainGlobals "MOST_TIMERS" = some (some u_MOST_TIMERS)) (r_MOST_TIMERS : RelV (.int (65536)) u_MOST_TIMERS)
    (g_TOO_HIGH : PySem.W.nsIn K mainGlobals "TOO_HIGH" = some (some u_TOO_HIGH)) (r_TOO_HIGH : RelV (.int (-1)) u_TOO_HIGH)
    (g_NOT_THERE : PySem.W.nsIn K mainGlobals "NOT_THERE" = some (some u_NOT_THERE)) (r_NOT_THERE : RelV (.int (-2)) u_NOT_THERE)
    (g_NOT_FITTING : PySem.W.nsIn K mainGlobals "NOT_FITTING" = some (some u_NOT_FITTING)) (r_NOT_FITTING : RelV (.int (-4)) u_NOT_FITTING)
    (g_NO_ROOM : PySem.W.nsIn K mainGlobals "NO_ROOM" = some (some u_NO_ROOM)) (r_NO_ROOM : RelV (.int (-5)) u_NO_ROOM)
    (g_BEGIN : PySem.W.nsIn K mainGlobals "BEGIN" = some (some u_BEGIN)) (r_BEGIN : RelV (.int (1)) u_BEGIN)
    (g_SET : PySem.W.nsIn K mainGlobals "SET" = some (some u_SET)) (r_SET : RelV (.int (2)) u_SET)
    (g_AFTER : PySem.W.nsIn K mainGlobals "AFTER" = some (some u_AFTER)) (r_AFTER : RelV (.int (3)) u_AFTER)
    (g_AWAY : PySem.W.nsIn K mainGlobals "AWAY" = some (some u_AWAY)) (r_AWAY : RelV (.int (4)) u_AWAY)
    (g_AWAY_ALL : PySem.W.nsIn K mainGlobals "AWAY_ALL" = some (some u_AWAY_ALL)) (r_AWAY_ALL : RelV (.int (5)) u_AWAY_ALL)
    (g_LOOK : PySem.W.nsIn K mainGlobals "LOOK" = some (some u_LOOK)) (r_LOOK : RelV (.int (6)) u_LOOK)
    (g_NEXT : PySem.W.nsIn K mainGlobals "NEXT" = some (some u_NEXT)) (r_NEXT : RelV (.int (7)) u_NEXT)
    (g_TIME : PySem.W.nsIn K mainGlobals "TIME" = some (some u_TIME)) (r_TIME : RelV (.int (8)) u_TIME)
    (g_COUNT : PySem.W.nsIn K mainGlobals "COUNT" = some (some u_COUNT)) (r_COUNT : RelV (.int (9)) u_COUNT)
    (g_LATER : PySem.W.nsIn K mainGlobals "LATER" = some (some u_LATER)) (r_LATER : RelV (.int (10)) u_LATER)
    (g_HOLD : PySem.W.nsIn K mainGlobals "HOLD" = some (some u_HOLD)) (r_HOLD : RelV (.int (11)) u_HOLD)
    (g_GO_ON : PySem.W.nsIn K mainGlobals "GO_ON" = some (some u_GO_ON)) (r_GO_ON : RelV (.int (12)) u_GO_ON)
    (gD : PySem.W.nsIn K mainGlobals "HOW_MANY_NUMBERS" = some (some (.ref aD))) (lD : K.lookup aD = some oD) (tD : tblObj oD [(1, 1), (2, 4), (3, 4), (4, 1), (5, 1), (6, 1), (7, 0), (8, 2), (9, 0), (10, 2), (11, 1), (12, 1), (13, 2)] = true) :
    ∃ fd : FuncData, (∀ (s : Shared) (us : List Value), us.length = (["calls"] : List Str).length → BindsTo s fd ⟨us, []⟩ ((["calls"] : List Str).zip us)) ∧ ∀ base : Heap, K.In base → base.Ns mainGlobals mg → FnOk P w K mg base CX0 7 fa fd ["calls"] (spAns K) := by
  have e := hfa.symm.trans (PySem.W.mg_of X G a21)
  cases e
  have T : Txt K mg CT CB := ⟨⟨pgT, hdT, poT, saT⟩, ⟨pgB, hdB, poB, saB⟩, nT_name, nT_every, nT_tag, nT_due, nT_turn, nT_held, nT_left, nB_now, nB_by_name, nB_waiting, nB_turns, PySem.W.mg_none_of X G gl, PySem.W.mg_none_of X G gb_max, PySem.W.mg_none_of X G gb_min, PySem.W.mg_of X G aT, PySem.W.mg_of X G aB, ⟨_, PySem.W.mg_of X G g_HIGHEST_NAME, r_HIGHEST_NAME⟩, ⟨_, PySem.W.mg_of X G g_HIGHEST_TIME, r_HIGHEST_TIME⟩, ⟨_, PySem.W.mg_of X G g_MOST_TIMERS, r_MOST_TIMERS⟩, ⟨_, PySem.W.mg_of X G g_TOO_HIGH, r_TOO_HIGH⟩, ⟨_, PySem.W.mg_of X G g_NOT_THERE, r_NOT_THERE⟩, ⟨_, PySem.W.mg_of X G g_NOT_FITTING, r_NOT_FITTING⟩, ⟨_, PySem.W.mg_of X G g_NO_ROOM, r_NO_ROOM⟩⟩
  have F0 := fun_mk (st := sTInit) l0 c0 k0
  have b0 := F0.binds (ps := ["self", "name", "every", "tag"]) fun _ _ _ _ _ _ us hl => match us, hl with | [_, _, _, _], _ => rfl
  have F1 := fun_mk (st := sBInit) l1 c1 k1
  have b1 := F1.binds (ps := ["self"]) fun _ _ _ _ _ _ us hl => match us, hl with | [_], _ => rfl
  have F2 := fun_mk (st := sBegin) l2 c2 k2
  have b2 := F2.binds (ps := ["self", "now"]) fun _ _ _ _ _ _ us hl => match us, hl with | [_, _], _ => rfl
  have m2 : Meth K CB "begin" f2 := ⟨a2, i2, k2⟩
  have F3 := fun_mk (st := sPut) l3 c3 k3
  have b3 := F3.binds (ps := ["self", "name", "at", "every", "tag"]) fun _ _ _ _ _ _ us hl => match us, hl with | [_, _, _, _, _], _ => rfl
  have m3 : Meth K CB "put" f3 := ⟨a3, i3, k3⟩
  have F4 := fun_mk (st := sPutAfter) l4 c4 k4
  have b4 := F4.binds (ps := ["self", "name", "wait", "every", "tag"]) fun _ _ _ _ _ _ us hl => match us, hl with | [_, _, _, _, _], _ => rfl
  have m4 : Meth K CB "put_after" f4 := ⟨a4, i4, k4⟩
  have F5 := fun_mk (st := sAway) l5 c5 k5
  have b5 := F5.binds (ps := ["self", "name"]) fun _ _ _ _ _ _ us hl => match us, hl with | [_, _], _ => rfl
  have m5 : Meth K CB "away" f5 := ⟨a5, i5, k5⟩
  have F6 := fun_mk (st := sAwayAll) l6 c6 k6
  have b6 := F6.binds (ps := ["self", "tag"]) fun _ _ _ _ _ _ us hl => match us, hl with | [_, _], _ => rfl
  have m6 : Meth K CB "away_all" f6 := ⟨a6, i6, k6⟩
  have F7 := fun_mk (st := sLook) l7 c7 k7
  have b7 := F7.binds (ps := ["self", "name"]) fun _ _ _ _ _ _ us hl => match us, hl with | [_, _], _ => rfl
  have m7 : Meth K CB "look" f7 := ⟨a7, i7, k7⟩
  have F8 := fun_mk (st := sFirst) l8 c8 k8
  have b8 := F8.binds (ps := ["self"]) fun _ _ _ _ _ _ us hl => match us, hl with | [_], _ => rfl
  have m8 : Meth K CB "first_due" f8 := ⟨a8, i8, k8⟩
  have F9 := fun_mk (st := sComeDue) l9 c9 k9
  have b9 := F9.binds (ps := ["self", "now", "most"]) fun _ _ _ _ _ _ us hl => match us, hl with | [_, _, _], _ => rfl
  have m9 : Meth K CB "come_due" f9 := ⟨a9, i9, k9⟩
  have F10 := fun_mk (st := sHowMany) l10 c10 k10
  have b10 := F10.binds (ps := ["self"]) fun _ _ _ _ _ _ us hl => match us, hl with | [_], _ => rfl
  have m10 : Meth K CB "how_many" f10 := ⟨a10, i10, k10⟩
  have F11 := fun_mk (st := sLater) l11 c11 k11
  have b11 := F11.binds (ps := ["self", "name", "by"]) fun _ _ _ _ _ _ us hl => match us, hl with | [_, _, _], _ => rfl
  have m11 : Meth K CB "later" f11 := ⟨a11, i11, k11⟩
  have F12 := fun_mk (st := sHold) l12 c12 k12
  have b12 := F12.binds (ps := ["self", "name"]) fun _ _ _ _ _ _ us hl => match us, hl with | [_, _], _ => rfl
  have m12 : Meth K CB "hold" f12 := ⟨a12, i12, k12⟩
  have F13 := fun_mk (st := sGoOn) l13 c13 k13
  have b13 := F13.binds (ps := ["self", "name"]) fun _ _ _ _ _ _ us hl => match us, hl with | [_, _], _ => rfl
  have m13 : Meth K CB "go_on" f13 := ⟨a13, i13, k13⟩
  have F14 := fun_mk (st := sInOrder) l14 c14 k14
  have b14 := F14.binds (ps := ["self", "start", "most"]) fun _ _ _ _ _ _ us hl => match us, hl with | [_, _, _], _ => rfl
  have m14 : Meth K CB "in_order" f14 := ⟨a14, i14, k14⟩
  have F15 := fun_mk (st := sHowCome) l15 c15 k15
  have b15 := F15.binds (ps := ["self", "most"]) fun _ _ _ _ _ _ us hl => match us, hl with | [_, _], _ => rfl
  have m15 : Meth K CB "how_many_come" f15 := ⟨a15, i15, k15⟩
  have F16 := fun_mk (st := sCome) l16 c16 k16
  have b16 := F16.binds (ps := ["self", "timer"]) fun _ _ _ _ _ _ us hl => match us, hl with | [_, _], _ => rfl
  have m16 : Meth K CB "come" f16 := ⟨a16, i16, k16⟩
  have F17 := fun_mk (st := sLineUp) l17 c17 k17
  have b17 := F17.binds (ps := ["self", "timer", "due"]) fun _ _ _ _ _ _ us hl => match us, hl with | [_, _, _], _ => rfl
  have m17 : Meth K CB "line_up" f17 := ⟨a17, i17, k17⟩
  have F18 := fun_mk (st := sLeave) l18 c18 k18
  have b18 := F18.binds (ps := ["self", "timer"]) fun _ _ _ _ _ _ us hl => match us, hl with | [_, _], _ => rfl
  have m18 : Meth K CB "leave_line" f18 := ⟨a18, i18, k18⟩
  have F19 := fun_mk (st := sDrop) l19 c19 k19
  have b19 := F19.binds (ps := ["self", "name"]) fun _ _ _ _ _ _ us hl => match us, hl with | [_, _], _ => rfl
  have m19 : Meth K CB "drop" f19 := ⟨a19, i19, k19⟩
  have F20 := fun_mk (st := sHow) l20 c20 k20
  have b20 := F20.binds (ps := ["self", "timer"]) fun _ _ _ _ _ _ us hl => match us, hl with | [_, _], _ => rfl
  have m20 : Meth K CB "how_many_before" f20 := ⟨a20, i20, k20⟩
  have F21 := fun_mk (st := sAnswers) l21 c21 k21
  have F22 := fun_mk (st := sOne) l22 c22 k22
  have b22 := F22.binds (ps := ["book", "call", "numbers"]) fun _ _ _ _ _ _ us hl => match us, hl with | [_, _, _], _ => rfl
  refine ⟨PySem.W.fnOf "answers" "answers" (defArgs sAnswers) (defBody sAnswers) (defScope sAnswers) .none kV21 dc21 pm21 an21 cd21 ct21, fun s us hu => match us, hu with | [_], _ => .of_eq rfl, fun base _ _ => ?_⟩
  have G20 := ok_how (P := P) (w := w) (base := base) F20 T
  have G0 := ok_tinit (P := P) (w := w) (base := base) F0 T
  have G1 := ok_binit (P := P) (w := w) (base := base) F1 T
  have G17 := ok_lineup (P := P) (w := w) (base := base) F17 T F20 b20 m20
  have G18 := ok_leave (P := P) (w := w) (base := base) F18 T F20 b20 m20
  have G19 := ok_drop (P := P) (w := w) (base := base) F19 T G18 b18 m18
  have G2 := ok_begin (P := P) (w := w) (base := base) F2 T
  have G3 := ok_put (P := P) (w := w) (base := base) F3 T G19 b19 m19 G17 b17 m17 G0 b0 ⟨mkT, a0, i0, kcT⟩
  have G4 := ok_after (P := P) (w := w) (base := base) F4 T G3 b3 m3
  have G5 := ok_away (P := P) (w := w) (base := base) F5 T G19 b19 m19
  have G6 := ok_all (P := P) (w := w) (base := base) F6 T G19 b19 m19
  have G7 := ok_look (P := P) (w := w) (base := base) F7 T G20 b20 m20
  have G8 := ok_first (P := P) (w := w) (base := base) F8 T
  have G15 := ok_howcome (P := P) (w := w) (base := base) F15 T
  have G16 := ok_come (P := P) (w := w) (base := base) F16 T G17 b17 m17
  have G9 := ok_time (P := P) (w := w) (base := base) F9 T G15 b15 m15 G16 b16 m16
  have G10 := ok_count (P := P) (w := w) (base := base) F10 T
  have G11 := ok_later (P := P) (w := w) (base := base) F11 T G18 b18 m18 G17 b17 m17
  have G12 := ok_hold (P := P) (w := w) (base := base) F12 T G18 b18 m18
  have G13 := ok_goon (P := P) (w := w) (base := base) F13 T G17 b17 m17
  have G14 := ok_list (P := P) (w := w) (base := base) F14 T
  have G22 := ok_one (P := P) (w := w) (base := base) F22 T ⟨_, PySem.W.mg_of X G g_BEGIN, r_BEGIN⟩ G2 b2 m2 ⟨_, PySem.W.mg_of X G g_SET, r_SET⟩ G3 b3 m3 ⟨_, PySem.W.mg_of X G g_AFTER, r_AFTER⟩ G4 b4 m4 ⟨_, PySem.W.mg_of X G g_AWAY, r_AWAY⟩ G5 b5 m5 ⟨_, PySem.W.mg_of X G g_AWAY_ALL, r_AWAY_ALL⟩ G6 b6 m6 ⟨_, PySem.W.mg_of X G g_LOOK, r_LOOK⟩ G7 b7 m7 ⟨_, PySem.W.mg_of X G g_NEXT, r_NEXT⟩ G8 b8 m8 ⟨_, PySem.W.mg_of X G g_TIME, r_TIME⟩ G9 b9 m9 ⟨_, PySem.W.mg_of X G g_COUNT, r_COUNT⟩ G10 b10 m10 ⟨_, PySem.W.mg_of X G g_LATER, r_LATER⟩ G11 b11 m11 ⟨_, PySem.W.mg_of X G g_HOLD, r_HOLD⟩ G12 b12 m12 ⟨_, PySem.W.mg_of X G g_GO_ON, r_GO_ON⟩ G13 b13 m13 G14 b14 m14
  exact ok_ans F21 T G1 b1 ⟨mkB, a1, i1, kcB⟩ G22 b22 (PySem.W.mg_of X G a22) k22 (PySem.W.mg_of X G gD) ⟨⟨oD, lD, tD⟩, by decide⟩ hN_all
end TD
open PySem PySem.W PyProof.Rows
set_option maxRecDepth 100000 in
set_option maxHeartbeats 0 in
theorem PySem.Challenge.cw_duetimers_s01_answers_holds : PySem.Challenge.rw_duetimers_s01_answers.Holds := by
  w_on; k_headS; (case hw => exact ⟨[.list [.int 7]], by decide +kernel, by decide +kernel⟩)
  k_fillS
  refine L2.walk_specK (r := PySem.Challenge.rw_duetimers_s01_answers) (k := 7) (CX := L2.CX0) (ps := ["calls"]) (sp := TD.spAns) (by decide +kernel) rfl rfl ⟨rfl, by decide, by decide⟩ (fun w h Y => PySem.W.kIn_of Y) ?F ?S (fun _ _ _ _ z => z)
  case F =>
    intro w mg fa h Y KX G hmg
    refine' TD.all_mk KX G hmg ?aT ?aB ?a0 ?i0 ?l0 ?c0 ?k0 ?a1 ?i1 ?l1 ?c1 ?k1 ?a2 ?i2 ?l2 ?c2 ?k2 ?a3 ?i3 ?l3 ?c3 ?k3 ?a4 ?i4 ?l4 ?c4 ?k4 ?a5 ?i5 ?l5 ?c5 ?k5 ?a6 ?i6 ?l6 ?c6 ?k6 ?a7 ?i7 ?l7 ?c7 ?k7 ?a8 ?i8 ?l8 ?c8 ?k8 ?a9 ?i9 ?l9 ?c9 ?k9 ?a10 ?i10 ?l10 ?c10 ?k10 ?a11 ?i11 ?l11 ?c11 ?k11 ?a12 ?i12 ?l12 ?c12 ?k12 ?a13 ?i13 ?l13 ?c13 ?k13 ?a14 ?i14 ?l14 ?c14 ?k14 ?a15 ?i15 ?l15 ?c15 ?k15 ?a16 ?i16 ?l16 ?c16 ?k16 ?a17 ?i17 ?l17 ?c17 ?k17 ?a18 ?i18 ?l18 ?c18 ?k18 ?a19 ?i19 ?l19 ?c19 ?k19 ?a20 ?i20 ?l20 ?c20 ?k20 ?a21 ?l21 ?c21 ?k21 ?a22 ?l22 ?c22 ?k22 ?pgT ?hdT ?poT ?saT ?mkT ?kcT ?pgB ?hdB ?poB ?saB ?mkB ?kcB ?nT_name ?nT_every ?nT_tag ?nT_due ?nT_turn ?nT_held ?nT_left ?nB_now ?nB_by_name ?nB_waiting ?nB_turns ?gl ?gb_max ?gb_min ?g_HIGHEST_NAME ?r_HIGHEST_NAME ?g_HIGHEST_TIME ?r_HIGHEST_TIME ?g_MOST_TIMERS ?r_MOST_TIMERS ?g_TOO_HIGH ?r_TOO_HIGH ?g_NOT_THERE ?r_NOT_THERE ?g_NOT_FITTING ?r_NOT_FITTING ?g_NO_ROOM ?r_NO_ROOM ?g_BEGIN ?r_BEGIN ?g_SET ?r_SET ?g_AFTER ?r_AFTER ?g_AWAY ?r_AWAY ?g_AWAY_ALL ?r_AWAY_ALL ?g_LOOK ?r_LOOK ?g_NEXT ?r_NEXT ?g_TIME ?r_TIME ?g_COUNT ?r_COUNT ?g_LATER ?r_LATER ?g_HOLD ?r_HOLD ?g_GO_ON ?r_GO_ON ?gD ?lD ?tD
    (case aT => k_is)
    (case aB => k_is)
    (case a0 => k_is)
    (case i0 => k_is)
    (case l0 => k_is)
    (case c0 => k_is)
    (case k0 => k_is)
    (case a1 => k_is)
    (case i1 => k_is)
    (case l1 => k_is)
    (case c1 => k_is)
    (case k1 => k_is)
    (case a2 => k_is)
    (case i2 => k_is)
    (case l2 => k_is)
    (case c2 => k_is)
    (case k2 => k_is)
    (case a3 => k_is)
    (case i3 => k_is)
    (case l3 => k_is)
    (case c3 => k_is)
    (case k3 => k_is)
    (case a4 => k_is)
    (case i4 => k_is)
    (case l4 => k_is)
    (case c4 => k_is)
    (case k4 => k_is)
    (case a5 => k_is)
    (case i5 => k_is)
    (case l5 => k_is)
    (case c5 => k_is)
    (case k5 => k_is)
    (case a6 => k_is)
    (case i6 => k_is)
    (case l6 => k_is)
    (case c6 => k_is)
    (case k6 => k_is)
    (case a7 => k_is)
    (case i7 => k_is)
    (case l7 => k_is)
    (case c7 => k_is)
    (case k7 => k_is)
    (case a8 => k_is)
    (case i8 => k_is)
    (case l8 => k_is)
    (case c8 => k_is)
    (case k8 => k_is)
    (case a9 => k_is)
    (case i9 => k_is)
    (case l9 => k_is)
    (case c9 => k_is)
    (case k9 => k_is)
    (case a10 => k_is)
    (case i10 => k_is)
    (case l10 => k_is)
    (case c10 => k_is)
    (case k10 => k_is)
    (case a11 => k_is)
    (case i11 => k_is)
    (case l11 => k_is)
    (case c11 => k_is)
    (case k11 => k_is)
    (case a12 => k_is)
    (case i12 => k_is)
    (case l12 => k_is)
    (case c12 => k_is)
    (case k12 => k_is)
    (case a13 => k_is)
    (case i13 => k_is)
    (case l13 => k_is)
    (case c13 => k_is)
    (case k13 => k_is)
    (case a14 => k_is)
    (case i14 => k_is)
    (case l14 => k_is)
    (case c14 => k_is)
    (case k14 => k_is)
    (case a15 => k_is)
    (case i15 => k_is)
    (case l15 => k_is)
    (case c15 => k_is)
    (case k15 => k_is)
    (case a16 => k_is)
    (case i16 => k_is)
    (case l16 => k_is)
    (case c16 => k_is)
    (case k16 => k_is)
    (case a17 => k_is)
    (case i17 => k_is)
    (case l17 => k_is)
    (case c17 => k_is)
    (case k17 => k_is)
    (case a18 => k_is)
    (case i18 => k_is)
    (case l18 => k_is)
    (case c18 => k_is)
    (case k18 => k_is)
    (case a19 => k_is)
    (case i19 => k_is)
    (case l19 => k_is)
    (case c19 => k_is)
    (case k19 => k_is)
    (case a20 => k_is)
    (case i20 => k_is)
    (case l20 => k_is)
    (case c20 => k_is)
    (case k20 => k_is)
    (case a21 => k_is)
    (case l21 => k_is)
    (case c21 => k_is)
    (case k21 => k_is)
    (case a22 => k_is)
    (case l22 => k_is)
    (case c22 => k_is)
    (case k22 => k_is)
    (case pgT => k_is)
    (case hdT => k_is)
    (case poT => k_is)
    (case saT => k_is)
    (case mkT => k_is)
    (case kcT => k_is)
    (case pgB => k_is)
    (case hdB => k_is)
    (case poB => k_is)
    (case saB => k_is)
    (case mkB => k_is)
    (case kcB => k_is)
    (case nT_name => k_is)
    (case nT_every => k_is)
    (case nT_tag => k_is)
    (case nT_due => k_is)
    (case nT_turn => k_is)
    (case nT_held => k_is)
    (case nT_left => k_is)
    (case nB_now => k_is)
    (case nB_by_name => k_is)
    (case nB_waiting => k_is)
    (case nB_turns => k_is)
    (case gl => k_is)
    (case gb_max => k_is)
    (case gb_min => k_is)
    (case g_HIGHEST_NAME => k_is)
    (case r_HIGHEST_NAME => exact ⟨_, rfl⟩)
    (case g_HIGHEST_TIME => k_is)
    (case r_HIGHEST_TIME => exact ⟨_, rfl⟩)
    (case g_MOST_TIMERS => k_is)
    (case r_MOST_TIMERS => exact ⟨_, rfl⟩)
    (case g_TOO_HIGH => k_is)
    (case r_TOO_HIGH => exact ⟨_, rfl⟩)
    (case g_NOT_THERE => k_is)
    (case r_NOT_THERE => exact ⟨_, rfl⟩)
    (case g_NOT_FITTING => k_is)
    (case r_NOT_FITTING => exact ⟨_, rfl⟩)
    (case g_NO_ROOM => k_is)
    (case r_NO_ROOM => exact ⟨_, rfl⟩)
    (case g_BEGIN => k_is)
    (case r_BEGIN => exact ⟨_, rfl⟩)
    (case g_SET => k_is)
    (case r_SET => exact ⟨_, rfl⟩)
    (case g_AFTER => k_is)
    (case r_AFTER => exact ⟨_, rfl⟩)
    (case g_AWAY => k_is)
    (case r_AWAY => exact ⟨_, rfl⟩)
    (case g_AWAY_ALL => k_is)
    (case r_AWAY_ALL => exact ⟨_, rfl⟩)
    (case g_LOOK => k_is)
    (case r_LOOK => exact ⟨_, rfl⟩)
    (case g_NEXT => k_is)
    (case r_NEXT => exact ⟨_, rfl⟩)
    (case g_TIME => k_is)
    (case r_TIME => exact ⟨_, rfl⟩)
    (case g_COUNT => k_is)
    (case r_COUNT => exact ⟨_, rfl⟩)
    (case g_LATER => k_is)
    (case r_LATER => exact ⟨_, rfl⟩)
    (case g_HOLD => k_is)
    (case r_HOLD => exact ⟨_, rfl⟩)
    (case g_GO_ON => k_is)
    (case r_GO_ON => exact ⟨_, rfl⟩)
    (case gD => k_is)
    (case lD => k_is)
    (case tD => decide +kernel)
  case S =>
    intro K H xs a hO hwi hask hx
    cases hx with
    | cons h1 h2 =>
      cases h2
      cases h1 with
      | lst hs ha =>
        have e := L2.ints_dw a.1 _ ha
        subst e
        have q : ((Codec.inLen 0 16000 a.1 && a.1.all (Codec.inInt 0 18446744073709551615)) && true) = true := hwi
        rw [Bool.and_eq_true, Bool.and_eq_true] at q
        exact ⟨_, a.1, rfl, hs, hask, (Codec.inNat_iff.mp q.1.1).2, fun H' p hp => .lst (L2.SqL.of hp) (L2.dw_ints _)⟩
