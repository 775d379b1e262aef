import PyProof.Rows.All
import Wide.All
import OpenK.AllK
import Wide.FinOn
import PyProof.EqAt
import PyProof.EqKinds
import PyProof.TupleCall
import KE.BitLaws
import Open.SpecLaws
import KE.OsHead
import KE.OsGo
import PySem.Challenge.RW_wordforms_s03_pl_same
set_option Elab.async false
section
set_option Elab.async false
set_option linter.all false
set_option maxRecDepth 100000
namespace L2
open PySem PySem.Spec PyProof.Rows
/-- a key: an int or a str -/
abbrev Key := Sum Int Str
def keyIs : Key → Value → Bool
  | .inl k, v => Value.isInt k v
  | .inr x, v => Value.isStrOf x v
def keyH (w : World) : Key → Int
  | .inl k => hashInt k
  | .inr x => hashStr w x
theorem keyIs_shape : ∀ {k : Key} {v : Value}, keyIs k v = true → (∃ i t, k = Sum.inl i ∧ v = Value.int i t) ∨ (∃ x t, k = Sum.inr x ∧ v = Value.str x t)
  | .inl i, v, h => by
    obtain ⟨t, e⟩ := Value.isInt_shape (k := i) (v := v) h
    exact .inl ⟨i, t, rfl, e⟩
  | .inr x, v, h => by
    obtain ⟨t, e⟩ := Value.isStrOf_shape (x := x) (v := v) h
    exact .inr ⟨x, t, rfl, e⟩
theorem keyIs_int (i : Int) (t : Tok) : keyIs (.inl i) (.int i t) = true := by simp [keyIs, Value.isInt]
theorem keyIs_str (x : Str) (t : Tok) : keyIs (.inr x) (.str x t) = true := by simp [keyIs, Value.isStrOf]
theorem key_ll (a b : Int) : decide ((Sum.inl a : Key) = Sum.inl b) = (a == b) := by
  by_cases e : a = b
  · subst e; simp
  · have h : ¬ (Sum.inl a : Key) = Sum.inl b := fun q => e (Sum.inl.inj q)
    rw [decide_eq_false h]
    exact (beq_eq_false_iff_ne.mpr e).symm
theorem key_rr (a b : Str) : decide ((Sum.inr a : Key) = Sum.inr b) = decide (a = b) := by
  by_cases e : a = b
  · subst e; simp
  · have h : ¬ (Sum.inr a : Key) = Sum.inr b := fun q => e (Sum.inr.inj q)
    rw [decide_eq_false h, decide_eq_false e]
theorem key_lr (a : Int) (b : Str) : decide ((Sum.inl a : Key) = Sum.inr b) = false := decide_eq_false (fun q => nomatch q)
theorem key_rl (a : Str) (b : Int) : decide ((Sum.inr a : Key) = Sum.inl b) = false := decide_eq_false (fun q => nomatch q)
def mixKind (prog : Program) (w : World) : PySem.KeyKind prog w Key where
  is := keyIs
  hash := keyH w
  inj := fun v a b ha hb => by
    rcases keyIs_shape ha with ⟨i, t, rfl, rfl⟩ | ⟨x, t, rfl, rfl⟩
    · rcases keyIs_shape hb with ⟨j, u, rfl, e⟩ | ⟨y, u, rfl, e⟩
      · injection e with e1 _; rw [e1]
      · exact nomatch e
    · rcases keyIs_shape hb with ⟨j, u, rfl, e⟩ | ⟨y, u, rfl, e⟩
      · exact nomatch e
      · injection e with e1 _; rw [e1]
  byValue := fun k v h => by
    rcases keyIs_shape h with ⟨i, t, rfl, rfl⟩ | ⟨x, t, rfl, rfl⟩ <;> rfl
  pyHash := fun hv h => by
    rcases keyIs_shape hv with ⟨i, t, rfl, rfl⟩ | ⟨x, t, rfl, rfl⟩
    · exact wpAny_pyHash_int h
    · exact wpAny_pyHash_str h
  eqBool := fun hu hv h => by
    rcases keyIs_shape hu with ⟨i, t, rfl, rfl⟩ | ⟨x, t, rfl, rfl⟩
    · rcases keyIs_shape hv with ⟨j, u, rfl, rfl⟩ | ⟨y, u, rfl, rfl⟩
      · rw [key_ll] at h; exact wpAny_eqBool_int h
      · rw [key_lr] at h; exact SeqAt.EqAt.int_str i t y u _ _ _ _ h
    · rcases keyIs_shape hv with ⟨j, u, rfl, rfl⟩ | ⟨y, u, rfl, rfl⟩
      · rw [key_rl] at h; exact SeqAt.EqAt.str_int x t j u _ _ _ _ h
      · rw [key_rr] at h; exact wpAny_eqBool_str h
  «strs» := fun k x t v h => by
    rcases keyIs_shape h with ⟨i, u, rfl, e⟩ | ⟨y, u, rfl, e⟩
    · exact nomatch e
    · injection e with e1 _
      subst e1
      cases v <;> rfl
theorem mixKind_int (prog : Program) (w : World) (i : Int) (t : Tok) : (mixKind prog w).is (.inl i) (.int i t) = true := keyIs_int i t
theorem mixKind_str (prog : Program) (w : World) (x : Str) (t : Tok) : (mixKind prog w).is (.inr x) (.str x t) = true := keyIs_str x t
end L2
namespace L2
open PySem PySem.Spec PyProof.Rows
/-- a value, without the heap -/
inductive V where
  | non | bl (b : Bool) | int (i : Int) | str (x : Str) | byt (b : Array UInt8) | flt (b : UInt64) | ref (a : Addr) | ty (n : String)
  deriving DecidableEq
def RelV : V → Value → Prop
  | .non, u => u = Value.none
  | .bl b, u => u = Value.bool b
  | .int i, u => ∃ t, u = Value.int i t
  | .str x, u => ∃ t, u = Value.str x t
  | .byt b, u => ∃ t, u = Value.bytes b t
  | .flt b, u => ∃ t, u = Value.float b t
  | .ref a, u => u = Value.ref a
  | .ty n, u => u = Value.type n
abbrev Vals : List V → List Value → Prop := Paired RelV
theorem Vals.length {xs : List V} {us : List Value} (r : Vals xs us) : xs.length = us.length := Paired.length r
theorem Vals.get : ∀ {xs : List V} {us : List Value} {i : Nat} {x : V}, Vals xs us → xs[i]? = some x → ∃ u, us[i]? = some u ∧ RelV x u
  | _, _, _, _, .nil, e => by simp at e
  | _, _, 0, _, .cons r _, e => by simp at e; subst e; exact ⟨_, rfl, r⟩
  | _, _, i + 1, x, .cons _ t, e => by
    obtain ⟨u, h1, h2⟩ := Vals.get (i := i) (x := x) t (by simpa using e)
    exact ⟨u, by simpa using h1, h2⟩
theorem Vals.set {x : V} {u : Value} (r : RelV x u) : ∀ {xs : List V} {us : List Value} (i : Nat), Vals xs us → Vals (xs.set i x) (us.set i u)
  | _, _, _, .nil => .nil
  | _, _, 0, .cons _ t => .cons r t
  | _, _, i + 1, .cons q t => .cons q (Vals.set r i t)
theorem Vals.append : ∀ {xs ys : List V} {us ws : List Value}, Vals xs us → Vals ys ws → Vals (xs ++ ys) (us ++ ws)
  | _, _, _, _, .nil, s => s
  | _, _, _, _, .cons r t, s => .cons r (Vals.append t s)
theorem Vals.take : ∀ {xs : List V} {us : List Value} (n : Nat), Vals xs us → Vals (xs.take n) (us.take n)
  | _, _, 0, _ => .nil
  | _, _, _ + 1, .nil => .nil
  | _, _, n + 1, .cons r t => .cons r (Vals.take n t)
theorem Vals.drop : ∀ {xs : List V} {us : List Value} (n : Nat), Vals xs us → Vals (xs.drop n) (us.drop n)
  | _, _, 0, r => r
  | _, _, _ + 1, .nil => .nil
  | _, _, n + 1, .cons _ t => Vals.drop n t
def RelO : Option V → Option Value → Prop
  | some v, some u => RelV v u
  | none, none => True
  | _, _ => False
def KV {κ : Type} : List (κ × V) → List (κ × Value) → Prop := Paired fun (p : κ × V) (q : κ × Value) => p.1 = q.1 ∧ RelV p.2 q.2
/-- a key of a dict (00_mix): an int or a text -/
def kV : Key → V
  | .inl i => .int i
  | .inr x => .str x
/-- what stands at a tracked address -/
inductive HO where
  /-- a list -/
  | lst (xs : List V)
  /-- a tuple (never changes) -/
  | tup (xs : List V)
  /-- a dict whose keys are ints and texts; one whose keys are tuples of ints and texts (the empty one is both) -/
  | dK (kvs : List (Key × V)) | dT (kvs : List (List Key × V))
  /-- a set of ints: its members, its size -/
  | set (S : Int → Bool) (n : Nat)
  /-- an instance of the class at C, its dict at dx, its attributes -/
  | ins (C dx : Addr) (fs : List (Str × V))
  /-- the dict of the instance at x -/
  | own (x : Addr)
  /-- the dict of an exception -/
  | xd (fs : List (Str × V))
  /-- a bound method, f of x -/
  | met (f x : Addr)
  /-- a range object lo, lo + 1, .. below hi -/
  | rng (lo hi : Int)
  /-- a thing that is known to the object (the script; a dict while a loop walks it): read, never written while it is so -/
  | frz (o : Obj) (u : HO)
  /-- a code object's table -/
  | tbl (ps : Array Value)
  /-- any other thing, by what is true of its one object (a def of one's own: SetO a S n := HO.ext fun h => ..) -/
  | ext (φ : Heap → Prop)
abbrev Hp := Addr → Option HO
def upd (H : Hp) (a : Addr) (o : HO) : Hp := fun b => if b = a then some o else H b
theorem upd_same {H : Hp} {a : Addr} {o : HO} : upd H a o a = some o := by unfold upd; rw [if_pos rfl]
theorem upd_ne {H : Hp} {a b : Addr} {o : HO} (h : b ≠ a) : upd H a o b = H b := by unfold upd; rw [if_neg h]
/-- two objects of different content stand apart -/
theorem ne_of {H : Hp} {a b : Addr} {o u : HO} (h : H a = some o) (h' : H b = some u) (d : o ≠ u) : a ≠ b := by
  intro e; subst e; rw [h] at h'; exact d (Option.some.inj h')
theorem ne_of_none {H : Hp} {a b : Addr} {o : HO} (h : H a = some o) (h' : H b = none) : a ≠ b := by
  intro e; subst e; rw [h] at h'; cases h'
section
variable (P : Program) (w : World)
def ObjOk (H : Hp) (h : Heap) (a : Addr) : HO → Prop
  | .lst xs => xs.length ≤ sizeLine ∧ ∃ (its : List Value) (n : Nat), Vals xs its ∧ h.get? a = some { cls := .type "list", data := .seq its.toArray n }
  | .tup xs => xs.length ≤ sizeLine ∧ ∃ its : List Value, Vals xs its ∧ IsTup h a its.toArray
  | .dK kvs => kvs.length ≤ sizeLine ∧ (a == sysModules) = false ∧ ∃ vs, KV kvs vs ∧ h.DictOf (mixKind P w) a vs
  | .dT kvs => kvs.length ≤ sizeLine ∧ (a == sysModules) = false ∧ ∃ xs : List (List Key × Addr × Value),
      Paired (fun (p : List Key × V) (q : List Key × Addr × Value) => p.1 = q.1 ∧ H q.2.1 = some (.tup (p.1.map kV)) ∧ RelV p.2 q.2.2) kvs xs ∧
      ∃ o es ep, h.get? a = some o ∧ o.ExactDict ∧ o.data = .dict es ep ∧ es.toList = xs.map (entryOfKey (tupleKind (mixKind P w))) ∧ (xs.map (·.1)).Nodup
  | .set S n => h.SetOf (intKind P w) a S n
  | .ins C dx fs => H dx = some (.own a) ∧ fs.length ≤ 1000 ∧ dx ≠ a ∧ h.get? a = some (PySem.W.instObj C dx) ∧
      ∃ mA, h.Ns1 dx mA ∧ (∀ f, RelO (fs.lookup f) (mA f)) ∧ PySem.Within mA (fs.map (·.1))
  | .own _ => ∃ o, h.get? a = some o
  | .xd fs => ∃ mA, h.Ns1 a mA ∧ ∀ f, RelO (fs.lookup f) (mA f)
  | .rng lo hi => ∃ t u v, h.get? a = some { cls := .type "range", data := .fields #[.int lo t, .int hi u, .int 1 v] }
  | .frz o u => h.get? a = some o ∧ ObjOk H h a u
  | .tbl ps => h.get? a = some { cls := .none, data := .fields ps }
  | .met f x => h.get? a = some (PySem.W.methodObj (.ref f) (.ref x))
  | .ext φ => φ h ∧ (∃ o, h.get? a = some o) ∧ ∀ h1 h2 : Heap, φ h1 → (∀ o, h1.get? a = some o → h2.get? a = some o) → φ h2
/-- the abstract heap is held -/
def HOk (H : Hp) (h : Heap) : Prop := ∀ a o, H a = some o → ObjOk P w H h a o
end
section
variable {P : Program} {w : World} {H H' : Hp} {h h' : Heap} {a : Addr} {o : HO}
theorem ObjOk.lt (x : ObjOk P w H h a o) : a < h.objs.size := by
  cases o with
  | lst xs => obtain ⟨_, _, _, _, e⟩ := x; exact Heap.lt_size e
  | tup xs => obtain ⟨_, _, _, p⟩ := x; exact p.lt
  | dK kvs => obtain ⟨_, _, _, _, o, _, _, e, _⟩ := x; exact Heap.lt_size e
  | dT kvs => obtain ⟨_, _, _, _, o, _, _, e, _⟩ := x; exact Heap.lt_size e
  | set S n => obtain ⟨o, _, _, _, e, _⟩ := x; exact Heap.lt_size e
  | ins C dx fs => obtain ⟨_, _, _, e, _⟩ := x; exact Heap.lt_size e
  | own y => obtain ⟨_, e⟩ := x; exact Heap.lt_size e
  | xd fs => obtain ⟨_, ⟨_, _, _, e, _⟩, _⟩ := x; exact Heap.lt_size e
  | rng lo hi => obtain ⟨_, _, _, e⟩ := x; exact Heap.lt_size e
  | frz ob u => obtain ⟨e, _⟩ := x; exact Heap.lt_size e
  | tbl ps => exact Heap.lt_size (show h.get? a = some _ from x)
  | met f y => exact Heap.lt_size (show h.get? a = some _ from x)
  | ext φ => obtain ⟨_, ⟨_, e⟩, _⟩ := x; exact Heap.lt_size e
theorem Paired.mapP {α β : Type} {F G : α → β → Prop} : ∀ {l₁ : List α} {l₂ : List β}, Paired F l₁ l₂ → (∀ a b, F a b → G a b) → Paired G l₁ l₂
  | _, _, .nil, _ => .nil
  | _, _, .cons r t, f => .cons (f _ _ r) (Paired.mapP t f)
/-- what an object's description leans on: its own object, its own dict, the tuples -/
theorem ObjOk.stay (x : ObjOk P w H h a o) (k : ∀ b u, (b = a ∨ H b = some (.own a)) → h.get? b = some u → h'.get? b = some u)
    (ho : ∀ b, H b = some (.own a) → H' b = some (.own a)) (ht : ∀ b xs, H b = some (.tup xs) → H' b = some (.tup xs)) : ObjOk P w H' h' a o := by
  induction o with
  | lst xs => obtain ⟨z, its, n, r, e⟩ := x; exact ⟨z, its, n, r, k _ _ (.inl rfl) e⟩
  | tup xs => obtain ⟨z, its, r, ob, e, c⟩ := x; exact ⟨z, its, r, ob, k _ _ (.inl rfl) e, c⟩
  | dK kvs => obtain ⟨z, y, vs, r, ob, es, ep, e, c⟩ := x; exact ⟨z, y, vs, r, ob, es, ep, k _ _ (.inl rfl) e, c⟩
  | dT kvs =>
    obtain ⟨z, y, xs, r, ob, es, ep, e, c⟩ := x
    exact ⟨z, y, xs, Paired.mapP r fun p q z => ⟨z.1, ht _ _ z.2.1, z.2.2⟩, ob, es, ep, k _ _ (.inl rfl) e, c⟩
  | set S n => obtain ⟨ob, es, ep, t, e, c⟩ := x; exact ⟨ob, es, ep, t, k _ _ (.inl rfl) e, c⟩
  | ins C dx fs =>
    obtain ⟨d, z, ne, e, mA, ⟨od, es, ep, e2, c⟩, r⟩ := x
    exact ⟨ho _ d, z, ne, k _ _ (.inl rfl) e, mA, ⟨od, es, ep, k _ _ (.inr d) e2, c⟩, r⟩
  | own y => obtain ⟨ob, e⟩ := x; exact ⟨ob, k _ _ (.inl rfl) e⟩
  | xd fs => obtain ⟨mA, ⟨od, es, ep, e, c⟩, r⟩ := x; exact ⟨mA, ⟨od, es, ep, k _ _ (.inl rfl) e, c⟩, r⟩
  | rng lo hi => obtain ⟨t, u, v, e⟩ := x; exact ⟨t, u, v, k _ _ (.inl rfl) e⟩
  | frz ob u ih => obtain ⟨e, q⟩ := x; exact ⟨k _ _ (.inl rfl) e, ih q⟩
  | tbl ps =>
    have e : h.get? a = some { cls := .none, data := .fields ps } := x
    show h'.get? a = some { cls := .none, data := .fields ps }
    exact k a _ (.inl rfl) e
  | met f y =>
    have e : h.get? a = some (PySem.W.methodObj (.ref f) (.ref y)) := x
    show h'.get? a = some (PySem.W.methodObj (.ref f) (.ref y))
    exact k a _ (.inl rfl) e
  | ext φ => obtain ⟨p, ⟨o, e⟩, st⟩ := x; exact ⟨st _ _ p fun o q => k _ _ (.inl rfl) q, ⟨o, k _ _ (.inl rfl) e⟩, st⟩
theorem HOk.lt (x : HOk P w H h) (e : H a = some o) : a < h.objs.size := (x a o e).lt
theorem HOk.fresh (x : HOk P w H h) (e : h.objs.size ≤ a) : H a = none := by
  cases q : H a with
  | none => rfl
  | some u => exact absurd (Nat.lt_of_lt_of_le (x.lt q) e) (Nat.lt_irrefl _)
/-- every object of the heap is kept -/
theorem HOk.kept (x : HOk P w H h) (k : ∀ b u, h.get? b = some u → h'.get? b = some u) : HOk P w H h' := fun a o e =>
  (x a o e).stay (fun b u _ q => k b u q) (fun _ q => q) fun _ _ q => q
/-- a new object is laid and tracked -/
theorem HOk.laid (x : HOk P w H h) (k : ∀ b u, h.get? b = some u → h'.get? b = some u) (hp : h.objs.size ≤ a) (new : ObjOk P w (upd H a o) h' a o) : HOk P w (upd H a o) h' := fun b u e => by
  have hn := x.fresh hp
  by_cases hb : b = a
  · subst hb; rw [upd_same] at e; cases e; exact new
  · rw [upd_ne hb] at e
    exact (x b u e).stay (fun c v _ q => k c v q) (fun c q => by rw [upd_ne (ne_of_none q hn)]; exact q) fun c xs q => by rw [upd_ne (ne_of_none q hn)]; exact q
end
/-- what may be read as u: it is u, or a known u -/
def Rd (H : Hp) (a : Addr) (u : HO) : Prop := H a = some u ∨ ∃ o, H a = some (.frz o u)
theorem Rd.of {H : Hp} {a : Addr} {u : HO} (h : H a = some u) : Rd H a u := .inl h
theorem Rd.ok {P : Program} {w : World} {H : Hp} {h : Heap} {a : Addr} {u : HO} (r : Rd H a u) (x : HOk P w H h) : ObjOk P w H h a u := by
  rcases r with r | ⟨o, r⟩
  · exact x a u r
  · obtain ⟨_, q⟩ := x a _ r
    exact q
/-- what may be written -/
def Mut : Option HO → Prop
  | some (.lst _) => True
  | some (.dK _) => True
  | some (.dT _) => True
  | some (.set _ _) => True
  | some (.ins _ _ _) => True
  | some (.ext _) => True
  | _ => False
section
variable {P : Program} {w : World} {H : Hp} {h h' : Heap} {x e : Addr} {o' : HO}
/-- the object at e is changed: x itself, or the dict of the instance x -/
theorem HOk.write (ok : HOk P w H h) (mu : Mut (H x)) (he : e = x ∨ H e = some (.own x)) (k : ∀ b u, b ≠ e → h.get? b = some u → h'.get? b = some u) (heo : ∃ u, h'.get? e = some u)
    (new : ObjOk P w (upd H x o') h' x o') : HOk P w (upd H x o') h' := fun b u q => by
  have nown : ∀ c y, H c = some (.own y) → c ≠ x := fun c y r z => by subst z; rw [r] at mu; exact mu
  have ntup : ∀ c xs, H c = some (.tup xs) → c ≠ x := fun c xs r z => by subst z; rw [r] at mu; exact mu
  by_cases hb : b = x
  · subst hb; rw [upd_same] at q; cases q; exact new
  · rw [upd_ne hb] at q
    by_cases hbe : b = e
    · have q' : H b = some (.own x) := by
        rcases he with z | z
        · exact absurd (hbe.trans z) hb
        · rw [hbe]; exact z
      rw [q] at q'; cases q'
      obtain ⟨v, hv⟩ := heo
      exact ⟨v, by rw [hbe]; exact hv⟩
    · refine (ok b u q).stay (fun c v hc r => k c v ?_ r) (fun c r => by rw [upd_ne (nown c b r)]; exact r) fun c xs r => by rw [upd_ne (ntup c xs r)]; exact r
      rcases hc with rfl | hc
      · exact hbe
      · rintro rfl
        rcases he with z | z
        · exact nown c b hc z
        · rw [hc] at z; cases z; exact hb rfl
end
structure Un (fs ex : List Addr) (H H' : Hp) (h h' : Heap) : Prop where
  keep : ∀ b o, h.get? b = some o → H b = none → b ∉ fs → b ∉ ex → h'.get? b = some o
  slot : ∀ b o, h.get? b = some o → H b = none → b ∈ fs → b ∉ ex → ∃ sl, h'.get? b = some { o with slots := sl }
  free : ∀ b o, h.get? b = some o → H b = none → b ∉ ex → H' b = none
  there : ∀ b o, h.get? b = some o → b ∉ ex → ∃ o', h'.get? b = some o'
  tups : ∀ b xs, H b = some (.tup xs) → H' b = some (.tup xs)
  frzs : ∀ b o u, H b = some (.frz o u) → H' b = some (.frz o u)
  tbls : ∀ b ps, H b = some (.tbl ps) → ∃ more, H' b = some (.tbl (ps ++ more))
section
variable {fs fs' ex ex' : List Addr} {H H1 H2 : Hp} {h h1 h2 h' : Heap} {a x e : Addr} {o : HO}
theorem Un.any (u : Un fs ex H H1 h h1) {b : Addr} {ob : Obj} (q : h.get? b = some ob) (n : H b = none) (hx : b ∉ ex) : ∃ sl, h1.get? b = some { ob with slots := sl } := by
  by_cases hb : b ∈ fs
  · exact u.slot b ob q n hb hx
  · exact ⟨ob.slots, u.keep b ob q n hb hx⟩
theorem Un.trans (a : Un fs ex H H1 h h1) (b : Un fs ex H1 H2 h1 h2) : Un fs ex H H2 h h2 where
  keep := fun c ob q n hc hx => b.keep c ob (a.keep c ob q n hc hx) (a.free c ob q n hx) hc hx
  slot := fun c ob q n hc hx => by
    obtain ⟨sl, e1⟩ := a.slot c ob q n hc hx
    obtain ⟨sl', e2⟩ := b.slot c _ e1 (a.free c ob q n hx) hc hx
    exact ⟨sl', e2⟩
  free := fun c ob q n hx => by
    obtain ⟨o', e1⟩ := a.there c ob q hx
    exact b.free c o' e1 (a.free c ob q n hx) hx
  there := fun c ob q hx => by
    obtain ⟨o', e1⟩ := a.there c ob q hx
    exact b.there c o' e1 hx
  tups := fun c xs q => b.tups c xs (a.tups c xs q)
  frzs := fun c ob xs q => b.frzs c ob xs (a.frzs c ob xs q)
  tbls := fun c ps q => by
    obtain ⟨m1, e1⟩ := a.tbls c ps q
    obtain ⟨m2, e2⟩ := b.tbls c _ e1
    exact ⟨m1 ++ m2, by rw [e2, Array.append_assoc]⟩
theorem Un.kept (k : ∀ b u, h.get? b = some u → h'.get? b = some u) : Un fs ex H H h h' :=
  ⟨fun b ob q _ _ _ => k b ob q, fun b ob q _ _ _ => ⟨ob.slots, k b ob q⟩, fun _ _ _ n _ => n, fun b ob q _ => ⟨ob, k b ob q⟩, fun _ _ q => q, fun _ _ _ q => q, fun _ ps q => ⟨#[], by rw [q]; simp⟩⟩
theorem Un.refl : Un fs ex H H h h := Un.kept fun _ _ q => q
theorem Un.laid (k : ∀ b u, h.get? b = some u → h'.get? b = some u) (hp : h.objs.size ≤ a) (hn : H a = none) : Un fs ex H (upd H a o) h h' where
  keep := fun b u q _ _ _ => k b u q
  slot := fun b u q _ _ _ => ⟨u.slots, k b u q⟩
  free := fun b u q n _ => by rw [upd_ne (Nat.ne_of_lt (Nat.lt_of_lt_of_le (Heap.lt_size q) hp))]; exact n
  there := fun b u q _ => ⟨u, k b u q⟩
  tups := fun b xs q => by rw [upd_ne (ne_of_none q hn)]; exact q
  frzs := fun b u xs q => by rw [upd_ne (ne_of_none q hn)]; exact q
  tbls := fun b ps q => ⟨#[], by rw [upd_ne (ne_of_none q hn), q]; simp⟩
theorem Un.write (mu : Mut (H x)) (he : e = x ∨ H e = some (.own x)) (k : ∀ b u, b ≠ e → h.get? b = some u → h'.get? b = some u) (heo : ∃ u, h'.get? e = some u) : Un fs ex H (upd H x o) h h' := by
  have hx : ∀ b, H b = none → b ≠ x := fun b n z => by subst z; rw [n] at mu; exact mu
  have hb : ∀ b, H b = none → b ≠ e := fun b n z => by
    subst z
    rcases he with r | r
    · exact hx b n r
    · rw [n] at r; cases r
  have hm : ∀ b u, H b = some u → ¬ Mut (some u) → b ≠ x := fun b u q nm z => by subst z; rw [q] at mu; exact nm mu
  refine ⟨fun b u q n _ _ => k b u (hb b n) q, fun b u q n _ _ => ⟨u.slots, k b u (hb b n) q⟩, fun b u q n _ => by rw [upd_ne (hx b n)]; exact n, fun b u q _ => ?_,
    fun b xs q => by rw [upd_ne (hm b _ q fun z => z)]; exact q, fun b u xs q => by rw [upd_ne (hm b _ q fun z => z)]; exact q, fun b ps q => ⟨#[], by rw [upd_ne (hm b _ q fun z => z), q]; simp⟩⟩
  by_cases hbe : b = e
  · subst hbe; exact heo
  · exact ⟨u, k b u hbe q⟩
theorem Un.mono (u : Un fs ex H H1 h h1) (hs : ∀ b ∈ fs, b ∈ fs') (hx : ∀ b ∈ ex, b ∈ ex') : Un fs' ex' H H1 h h1 :=
  ⟨fun b ob q n hb he => u.keep b ob q n (fun z => hb (hs b z)) fun z => he (hx b z), fun _ _ q n _ he => u.any q n fun z => he (hx _ z), fun b ob q n he => u.free b ob q n fun z => he (hx b z), fun b ob q he => u.there b ob q fun z => he (hx b z), u.tups, u.frzs, u.tbls⟩
end
def trk (h : Heap) (H : Hp) : List Addr := (List.range h.objs.size).filter fun a => (H a).isSome
def hidT (h : Heap) (H : Hp) : Heap := PySem.W.hideAll h (trk h H)
theorem hidT_size (h : Heap) (H : Hp) : (hidT h H).objs.size = h.objs.size := PySem.W.hideAll_size _ _
theorem hidT_get {h : Heap} {H : Hp} {b : Addr} {o : Obj} (e : h.get? b = some o) (n : H b = none) : (hidT h H).get? b = some o :=
  PySem.W.hideAll_get _ e fun hm => by
    have q : (H b).isSome = true := (List.mem_filter.mp hm).2
    rw [n] at q; simp at q
theorem of_hidT {h : Heap} {H : Hp} {b : Addr} {o : Obj} (e : (hidT h H).get? b = some o) : h.get? b = some o ∧ H b = none := by
  have e' : h.get? b = some o := PySem.W.of_hideAll (trk h H) e
  refine ⟨e', ?_⟩
  cases q : H b with
  | none => rfl
  | some x =>
    have hm : b ∈ trk h H := List.mem_filter.mpr ⟨List.mem_range.mpr (Heap.lt_size e'), by simp [q]⟩
    have z : (hidT h H).get? b = none := PySem.W.hideAll_none (trk h H) hm
    rw [z] at e; cases e
def allNews (g h : Heap) (L : Addr) : List (Addr × Obj) := (List.range h.objs.size).filterMap fun a => if a = L ∨ (g.get? a).isSome = true then none else (h.get? a).map fun o => (a, o)
def rest (g h : Heap) (L d : Addr) : List (Addr × Obj) := (allNews g h L).filter fun p => decide (p.1 ≠ d)
end L2
namespace L2
open PySem PySem.Spec PyProof.Rows
/-- the module's facts, over the base: the heap at the law's entry without what is tracked there -/
structure Mod (K : PySem.W.Frag) (mg : Str → Option Value) (base : Heap) : Prop where
  kin : K.In base
  glob : base.Ns mainGlobals mg
  blt : ∃ mb, base.Ns builtinsNs mb ∧ ∀ x : Str, x ≠ "__name__" → mb x = bootBuiltins x
  nolimit : base.NoLimit
/-- the context: a def's body (or a comprehension's block) running. base: fixed through the whole law; s₀, H₀: the entry; outer: the frames whose slots others may change (a def's callers); stack: all frames that run;
   ex: iterators that were made ahead of the entry and are walked here (a comprehension's); fn: the names whose cells were made at the entry (a def: all; a comprehension's block: its own); calm: not within an except suite; pn: pins that every state bears; xe: what is wanted of an exception that leaves the code -/
structure Cx where
  prog : Program
  w : World
  K : PySem.W.Frag
  mg : Str → Option Value
  base : Heap
  A : Around
  N : List Str
  s_0 : Shared
  H_0 : Hp
  env : Env
  outer : List Env
  stack : List Env
  ex : List Addr
  fn : Str → Bool
  calm : Bool
  pn : List (Addr × Obj)
  xe : Value → Shared → Prop
/-- the callers' frames -/
def frs (l : List Env) : List Addr := l.filterMap (·.frame)
abbrev Cx.fs (X : Cx) : List Addr := frs X.outer
def Vis (sc : Scope) (x : Str) : Prop := sc.names.lookup x = some .local ∨ sc.names.lookup x = some .cell ∨ sc.names.lookup x = some .free
def Loc (sc : Scope) (x : Str) : Prop := sc.names.lookup x = some .local ∨ sc.names.lookup x = some .cell
def Look (env : Env) (h : Heap) (m : Str → Option Value) (x : Str) (u : Value) : Prop :=
  (env.kindOf x = some .local ∧ m x = some u) ∨ ((env.kindOf x = some .cell ∨ env.kindOf x = some .free) ∧ ∃ c, env.cells.lookup x = some c ∧ h.IsCell c (some u))
structure Cx.Ok (X : Cx) : Prop where
  mod : Mod X.K X.mg X.base
  kind : X.env.scope.kind = .function
  glob : X.env.globals = mainGlobals
  blt : X.env.builtins = builtinsNs
  above : X.s_0.heap.objs.size ≤ X.env.locals
  inj : ∀ x y c, X.env.cells.lookup x = some c → X.env.cells.lookup y = some c → x = y
  has : ∀ x, (X.env.kindOf x = some .cell ∨ X.env.kindOf x = some .free) → ∃ c, X.env.cells.lookup x = some c
  cab : ∀ x c, X.fn x = true → X.env.cells.lookup x = some c → X.s_0.heap.objs.size ≤ c
  hd : X.calm = true → X.A.handled = none
  frames : X.A.frames = some X.stack
  stk : X.stack = X.outer ∨ (X.stack = X.env :: X.outer ∧ X.env.frame = some X.env.locals)
  exf : ∀ b ∈ X.ex, b ≠ X.env.locals ∧ ∀ x c, X.env.cells.lookup x = some c → c ≠ b
  bs : ∀ b o, X.base.get? b = some o → X.s_0.heap.get? b = some o ∧ X.H_0 b = none
  bsz : X.base.objs.size ≤ X.s_0.heap.objs.size
  noex : ∀ b o, X.base.get? b = some o → b ∉ X.ex
  exfs : ∀ b ∈ X.ex, b ∉ X.fs
  funs : X.s_0.heap.FunFrames X.base X.outer
  frf : ∀ b ∈ X.fs, X.H_0 b = none
structure Inv (X : Cx) (pins : List (Addr × Obj)) (σ : List (Option V)) (H : Hp) (s : Shared) : Prop where
  ok : X.Ok
  os : s.os = X.s_0.os
  bare : AllBare s.gens
  base : Un X.fs X.ex X.H_0 H X.s_0.heap s.heap
  loc : ∃ m, s.heap.Ns X.env.locals m ∧ ∀ (i : Nat) (x : Str) (v : V), X.N[i]? = some x → σ[i]? = some (some v) → Vis X.env.scope x → ∃ u, RelV v u ∧ Look X.env s.heap m x u
  cell : ∀ x c, X.env.cells.lookup x = some c → ∃ v, s.heap.IsCell c v
  free : H X.env.locals = none
  freeC : ∀ x c, X.env.cells.lookup x = some c → H c = none
  pin : ∀ p ∈ X.pn ++ pins, s.heap.get? p.1 = some p.2 ∧ H p.1 = none ∧ p.1 ≠ X.env.locals ∧ p.1 ∉ X.fs ∧ ∀ v, p.2.data ≠ .cell v
  hok : HOk X.prog X.w H s.heap
  len : σ.length = X.N.length
section
variable {X : Cx} {pins : List (Addr × Obj)} {σ : List (Option V)} {H H' : Hp} {s : Shared} {h' : Heap}
theorem Cx.Ok.nofr (ok : X.Ok) {b : Addr} {o : Obj} (e : X.base.get? b = some o) : b ∉ X.fs := fun hb => by
  have := (ok.funs.mem hb).1
  rw [e] at this; cases this
theorem Inv.bs (I : Inv X pins σ H s) : ∀ b o, X.base.get? b = some o → s.heap.get? b = some o ∧ H b = none := fun b o e =>
  ⟨I.base.keep b o (I.ok.bs b o e).1 (I.ok.bs b o e).2 (I.ok.nofr e) (I.ok.noex b o e), I.base.free b o (I.ok.bs b o e).1 (I.ok.bs b o e).2 (I.ok.noex b o e)⟩
theorem Inv.bk (I : Inv X pins σ H s) : ∀ b o, X.base.get? b = some o → s.heap.get? b = some o := fun b o e => (I.bs b o e).1
theorem Inv.mod (I : Inv X pins σ H s) : Mod X.K X.mg X.base := I.ok.mod
theorem Inv.kIn (I : Inv X pins σ H s) : X.K.In s.heap := I.ok.mod.kin.keeps I.bk
theorem Inv.nolimit (I : Inv X pins σ H s) : s.heap.NoLimit := I.ok.mod.nolimit.keeps I.bk
theorem Inv.lt (I : Inv X pins σ H s) : X.env.locals < s.heap.objs.size := let ⟨_, hn, _⟩ := I.loc; hn.lt
theorem Inv.sz (I : Inv X pins σ H s) : X.s_0.heap.objs.size ≤ s.heap.objs.size := Nat.le_trans I.ok.above (Nat.le_of_lt I.lt)
theorem Inv.nofs (I : Inv X pins σ H s) {a : Addr} (h : s.heap.objs.size ≤ a) : a ∉ X.fs := fun hb => by
  obtain ⟨_, o, ho, _⟩ := I.ok.funs.mem hb
  exact absurd (Nat.lt_of_lt_of_le (Heap.lt_size ho) (Nat.le_trans I.sz h)) (Nat.lt_irrefl _)
theorem Inv.cne (I : Inv X pins σ H s) : ∀ x c, X.env.cells.lookup x = some c → c ≠ X.env.locals := fun x c e z => by
  obtain ⟨v, o, ho, hd⟩ := I.cell x c e
  obtain ⟨m, ⟨o', es, ep, ho', hd', _⟩, _⟩ := I.loc
  rw [z, ho'] at ho; cases ho; rw [hd'] at hd; cases hd
theorem Inv.funs (I : Inv X pins σ H s) : s.heap.FunFrames X.base X.outer := by
  have all : ∀ (l : List Env), (∀ b ∈ frs l, b ∈ X.fs) → X.s_0.heap.FunFrames X.base l → s.heap.FunFrames X.base l := by
    intro l
    induction l with
    | nil => intro _ _; trivial
    | cons env r ih =>
      intro hs hl
      obtain ⟨hk, ⟨L, o, hf, hn, ho, hd⟩, hr⟩ := hl
      have hL : L ∈ X.fs := hs L (by unfold frs; rw [List.filterMap_cons, hf]; exact List.mem_cons_self)
      obtain ⟨sl, e⟩ := I.base.slot L o ho (I.ok.frf L hL) hL fun z => I.ok.exfs L z hL
      exact ⟨hk, ⟨L, _, hf, hn, e, hd⟩, ih (fun b hb => hs b (by unfold frs; rw [List.filterMap_cons, hf]; exact List.mem_cons_of_mem _ hb)) hr⟩
  exact all X.outer (fun _ hb => hb) I.ok.funs
/-- the frames that run, for a call -/
theorem Inv.stack (I : Inv X pins σ H s) : s.heap.FunFrames X.base X.stack := by
  rcases I.ok.stk with e | ⟨e, hf⟩
  · rw [e]; exact I.funs
  · rw [e]
    obtain ⟨m, hn, _⟩ := I.loc
    refine .cons (by rw [I.ok.kind]; decide) hf hn ?_ I.funs
    exact Heap.get?_none_of_le (Nat.le_trans I.ok.bsz I.ok.above)
theorem Inv.stkSub (I : Inv X pins σ H s) : ∀ b ∈ frs X.stack, b ∈ X.env.locals :: X.fs := fun b hb => by
  rcases I.ok.stk with e | ⟨e, hf⟩
  · rw [e] at hb; exact List.mem_cons_of_mem _ hb
  · rw [e] at hb
    unfold frs at hb
    rw [List.filterMap_cons, hf] at hb
    exact hb
theorem Inv.stkFree (I : Inv X pins σ H s) : ∀ b ∈ frs X.stack, H b = none := fun b hb => by
  rcases List.mem_cons.mp (I.stkSub b hb) with e | hb
  · rw [e]; exact I.free
  · obtain ⟨_, o, ho, _⟩ := I.ok.funs.mem hb
    exact I.base.free b o ho (I.ok.frf b hb) fun z => I.ok.exfs b z hb
/-- THE STEP: the untracked objects but the frame and the records at ch are kept (the callers' frames up to slots), the frame's map is kept, the new abstract heap is held -/
theorem Inv.step {g' : Array GenState} {t' : Nat} {d' : Drawn} {ch : List Addr} (I : Inv X pins σ H s)
    (hch : ∀ b ∈ ch, (b ∈ X.ex ∨ X.s_0.heap.objs.size ≤ b) ∧ b ≠ X.env.locals ∧ (∀ x c, X.env.cells.lookup x = some c → c ≠ b) ∧ ∀ p ∈ X.pn ++ pins, p.1 ≠ b)
    (keep : ∀ b o, b ≠ X.env.locals → b ∉ X.fs → b ∉ ch → s.heap.get? b = some o → H b = none → h'.get? b = some o)
    (slot : ∀ b o, b ≠ X.env.locals → b ∈ X.fs → b ∉ ch → s.heap.get? b = some o → H b = none → ∃ sl, h'.get? b = some { o with slots := sl }) (free : ∀ b o, b ∉ ch → s.heap.get? b = some o → H b = none → H' b = none)
    (there : ∀ b o, b ∉ ch → s.heap.get? b = some o → ∃ o', h'.get? b = some o')
    (tups : ∀ b xs, H b = some (.tup xs) → H' b = some (.tup xs)) (frzs : ∀ b o u, H b = some (.frz o u) → H' b = some (.frz o u)) (tbls : ∀ b ps, H b = some (.tbl ps) → ∃ more, H' b = some (.tbl (ps ++ more)))
    (ns : ∀ m, s.heap.Ns X.env.locals m → h'.Ns X.env.locals m) (hok : HOk X.prog X.w H' h') (hg : AllBare g') :
    Inv X pins σ H' { s with heap := h', gens := g', drawn := d', toks := t' } := by
  have neL : ∀ b o, X.s_0.heap.get? b = some o → b ≠ X.env.locals := fun b o e => Nat.ne_of_lt (Nat.lt_of_lt_of_le (Heap.lt_size e) I.ok.above)
  have neC : ∀ b o, X.s_0.heap.get? b = some o → b ∉ X.ex → b ∉ ch := fun b o e hx hb => by
    rcases (hch b hb).1 with z | z
    · exact hx z
    · exact absurd (Nat.lt_of_lt_of_le (Heap.lt_size e) z) (Nat.lt_irrefl _)
  have cellK : ∀ x c, X.env.cells.lookup x = some c → ∀ v, s.heap.IsCell c v → h'.IsCell c v := fun x c e v ⟨o, ho, hd⟩ => by
    have nch : c ∉ ch := fun z => (hch c z).2.2.1 x c e rfl
    by_cases hc : c ∈ X.fs
    · obtain ⟨sl, q⟩ := slot c o (I.cne x c e) hc nch ho (I.freeC x c e)
      exact ⟨_, q, hd⟩
    · exact ⟨o, keep c o (I.cne x c e) hc nch ho (I.freeC x c e), hd⟩
  refine ⟨I.ok, I.os, hg, ⟨fun b o e n hb hx => ?_, fun b o e n hb hx => ?_, fun b o e n hx => ?_, fun b o e hx => ?_, fun b xs e => tups b xs (I.base.tups b xs e), fun b o xs e => frzs b o xs (I.base.frzs b o xs e), fun b ps e => ?_⟩, ?_, fun x c e => ?_, ?_, fun x c e => ?_, fun p hp => ?_, hok, I.len⟩
  · exact keep b o (neL b o e) hb (neC b o e hx) (I.base.keep b o e n hb hx) (I.base.free b o e n hx)
  · obtain ⟨sl, e1⟩ := I.base.slot b o e n hb hx
    obtain ⟨sl', e2⟩ := slot b _ (neL b o e) hb (neC b o e hx) e1 (I.base.free b o e n hx)
    exact ⟨sl', e2⟩
  · obtain ⟨o', e1⟩ := I.base.there b o e hx
    exact free b o' (neC b o e hx) e1 (I.base.free b o e n hx)
  · obtain ⟨o', e1⟩ := I.base.there b o e hx
    exact there b o' (neC b o e hx) e1
  · obtain ⟨m1, e1⟩ := I.base.tbls b ps e
    obtain ⟨m2, e2⟩ := tbls b _ e1
    exact ⟨m1 ++ m2, by rw [e2, Array.append_assoc]⟩
  · obtain ⟨m, hn, hl⟩ := I.loc
    refine ⟨m, ns m hn, fun i x v e1 e2 e3 => ?_⟩
    obtain ⟨u, r, l⟩ := hl i x v e1 e2 e3
    refine ⟨u, r, ?_⟩
    rcases l with l | ⟨k, c, e, z⟩
    · exact .inl l
    · exact .inr ⟨k, c, e, cellK x c e _ z⟩
  · obtain ⟨v, z⟩ := I.cell x c e
    exact ⟨v, cellK x c e v z⟩
  · obtain ⟨m, ⟨o, _, _, ho, _⟩, _⟩ := I.loc
    exact free _ o (fun z => (hch _ z).2.1 rfl) ho I.free
  · obtain ⟨v, o, ho, hd⟩ := I.cell x c e
    exact free c o (fun z => (hch c z).2.2.1 x c e rfl) ho (I.freeC x c e)
  · obtain ⟨e, n, ne, nf, d⟩ := I.pin p hp
    have nch : p.1 ∉ ch := fun z => (hch p.1 z).2.2.2 p hp rfl
    exact ⟨keep p.1 p.2 ne nf nch e n, free p.1 p.2 nch e n, ne, nf, d⟩
/-- .. where the frame's own object is kept too -/
theorem Inv.un {t' : Nat} (I : Inv X pins σ H s) (u : Un X.fs [] H H' s.heap h') (hok : HOk X.prog X.w H' h') : Inv X pins σ H' { s with heap := h', toks := t' } := by
  obtain ⟨m, ⟨o, es, ep, ho, r⟩, _⟩ := id I.loc
  obtain ⟨sl, hL⟩ := u.any ho I.free (by simp)
  exact I.step (g' := s.gens) (d' := s.drawn) (ch := []) (fun _ z => nomatch z) (fun b o _ hb _ e n => u.keep b o e n hb (by simp)) (fun b o _ hb _ e n => u.slot b o e n hb (by simp)) (fun b o _ e n => u.free b o e n (by simp)) (fun b o _ e => u.there b o e (by simp)) u.tups u.frzs u.tbls (fun m' hm => by
    obtain ⟨o', es', ep', ho', r'⟩ := hm
    rw [ho] at ho'; cases ho'
    exact ⟨_, es', ep', hL, r'⟩) hok I.bare
/-- behind a call (or a comprehension's block): the slots of this frame may have changed too, the records at ch may have turned -/
theorem Inv.call {g' : Array GenState} {t' : Nat} {d' : Drawn} {ch : List Addr} (I : Inv X pins σ H s) (u : Un (frs X.stack) ch H H' s.heap h') (hok : HOk X.prog X.w H' h') (hg : AllBare g')
    (hch : ∀ b ∈ ch, (b ∈ X.ex ∨ X.s_0.heap.objs.size ≤ b) ∧ b ≠ X.env.locals ∧ (∀ x c, X.env.cells.lookup x = some c → c ≠ b) ∧ ∀ p ∈ X.pn ++ pins, p.1 ≠ b) :
    Inv X pins σ H' { s with heap := h', gens := g', drawn := d', toks := t' } := by
  obtain ⟨m, ⟨o, es, ep, ho, r⟩, _⟩ := id I.loc
  obtain ⟨sl, hL⟩ := u.any ho I.free fun z => (hch _ z).2.1 rfl
  exact I.step (ch := ch) hch (fun b o hL hb hc e n => u.keep b o e n (fun z => (List.mem_cons.mp (I.stkSub b z)).elim hL hb) hc) (fun b o _ _ hc e n => u.any e n hc) (fun b o hc e n => u.free b o e n hc) (fun b o hc e => u.there b o e hc) u.tups u.frzs u.tbls (fun m' hm => by
    obtain ⟨o', es', ep', ho', r'⟩ := hm
    rw [ho] at ho'; cases ho'
    exact ⟨_, es', ep', hL, r'⟩) hok hg
/-- an untracked record of ours (an iterator) has turned -/
theorem Inv.turned {t' : Nat} {it : Addr} (I : Inv X pins σ H s) (k : ∀ b o, b ≠ it → s.heap.get? b = some o → h'.get? b = some o) (hn : H it = none) (hL : it ≠ X.env.locals)
    (h1 : it ∈ X.ex ∨ X.s_0.heap.objs.size ≤ it) (h2 : ∀ x c, X.env.cells.lookup x = some c → c ≠ it) (h3 : ∀ p ∈ X.pn ++ pins, p.1 ≠ it) : Inv X pins σ H { s with heap := h', toks := t' } := by
  have nit : ∀ b u, H b = some u → b ≠ it := fun b u e z => by rw [z, hn] at e; cases e
  refine I.step (g' := s.gens) (d' := s.drawn) (ch := [it]) (fun b hb => ?_) (fun b o _ _ hc e _ => k b o (fun z => hc (by simp [z])) e) (fun b o _ _ hc e _ => ⟨o.slots, k b o (fun z => hc (by simp [z])) e⟩) (fun _ _ _ _ n => n)
    (fun b o hc e => ⟨o, k b o (fun z => hc (by simp [z])) e⟩) (fun _ _ e => e) (fun _ _ _ e => e) (fun b ps e => ⟨#[], by rw [e]; simp⟩) (fun m hm => ?_) (fun b u e => ?_) I.bare
  · have e : b = it := by simpa using hb
    subst e
    exact ⟨h1, hL, h2, h3⟩
  · obtain ⟨o, es, ep, ho, r⟩ := hm
    exact ⟨o, es, ep, k _ o (Ne.symm hL) ho, r⟩
  · refine (I.hok b u e).stay (fun c v hc q => k c v ?_ q) (fun _ q => q) fun _ _ q => q
    rcases hc with z | z
    · rw [z]; exact nit b u e
    · exact nit c _ z
theorem Inv.tok (I : Inv X pins σ H s) (t : Nat) : Inv X pins σ H { s with toks := t } := I.un (h' := s.heap) (t' := t) Un.refl I.hok
/-- all objects kept -/
theorem Inv.kept {t' : Nat} (I : Inv X pins σ H s) (k : ∀ b u, s.heap.get? b = some u → h'.get? b = some u) : Inv X pins σ H { s with heap := h', toks := t' } := I.un (Un.kept k) (I.hok.kept k)
/-- a new object laid and tracked -/
theorem Inv.laid {a : Addr} {o : HO} {t' : Nat} (I : Inv X pins σ H s) (k : ∀ b u, s.heap.get? b = some u → h'.get? b = some u) (hp : s.heap.objs.size ≤ a) (new : ObjOk X.prog X.w (upd H a o) h' a o) :
    Inv X pins σ (upd H a o) { s with heap := h', toks := t' } := I.un (Un.laid k hp (I.hok.fresh hp)) (I.hok.laid k hp new)
/-- an object written -/
theorem Inv.write {x e : Addr} {o : HO} {t' : Nat} (I : Inv X pins σ H s) (mu : Mut (H x)) (he : e = x ∨ H e = some (.own x)) (k : ∀ b u, b ≠ e → s.heap.get? b = some u → h'.get? b = some u) (heo : ∃ u, h'.get? e = some u)
    (new : ObjOk X.prog X.w (upd H x o) h' x o) : Inv X pins σ (upd H x o) { s with heap := h', toks := t' } := I.un (Un.write mu he k heo) (I.hok.write mu he k heo new)
/-- forgetting slots, pins -/
theorem Inv.weak {σ' : List (Option V)} (I : Inv X pins σ H s) (hl : σ'.length = σ.length) (w : ∀ (i : Nat) v, σ'[i]? = some (some v) → σ[i]? = some (some v)) : Inv X pins σ' H s :=
  ⟨I.ok, I.os, I.bare, I.base, let ⟨m, hn, hl'⟩ := I.loc; ⟨m, hn, fun i x v e1 e2 e3 => hl' i x v e1 (w i v e2) e3⟩, I.cell, I.free, I.freeC, I.pin, I.hok, hl.trans I.len⟩
theorem Inv.pins_of {pins' : List (Addr × Obj)} (I : Inv X pins σ H s) (h : ∀ p ∈ pins', s.heap.get? p.1 = some p.2 ∧ H p.1 = none ∧ p.1 ≠ X.env.locals ∧ p.1 ∉ X.fs ∧ ∀ v, p.2.data ≠ .cell v) : Inv X pins' σ H s :=
  ⟨I.ok, I.os, I.bare, I.base, I.loc, I.cell, I.free, I.freeC, fun p hp => (List.mem_append.mp hp).elim (fun z => I.pin p (List.mem_append_left _ z)) (h p), I.hok, I.len⟩
theorem nodup_ix {N : List Str} (hN : N.Nodup) {i j : Nat} {x : Str} (a : N[i]? = some x) (b : N[j]? = some x) : i = j := by
  obtain ⟨h1, e1⟩ := List.getElem?_eq_some_iff.mp a
  obtain ⟨h2, e2⟩ := List.getElem?_eq_some_iff.mp b
  exact (List.getElem_inj hN).mp (e1.trans e2.symm)
/-- a name is stored; what changed -/
theorem store_ok2 {M : Model} {A : Around} {E : Value → Shared → Prop} {i : Nat} {x : Str} {v : V} {u : Value} {Q : Unit → Shared → Prop} (I : Inv X pins σ H s) (hN : X.N.Nodup) (hi : X.N[i]? = some x) (hx : Loc X.env.scope x) (r : RelV v u)
    (h : ∀ s', Inv X pins (σ.set i (some v)) H s' → (∃ a, Heap.SameBut a s.heap s'.heap ∧ (a = X.env.locals ∨ X.env.cells.lookup x = some a)) → Q () s') (hf : X.fn x = true ∨ X.env.scope.names.lookup x = some .local := by first | exact .inl rfl | exact .inr rfl | assumption) : wpAny M A (storeName X.env x u) Q E s := by
  obtain ⟨m, hn, hl⟩ := id I.loc
  have hcls : (X.env.scope.kind == .class || (X.env.scope.kind == .module && X.env.locals != X.env.globals)) = false := by rw [I.ok.kind]; rfl
  have hiσ : i < σ.length := by rw [I.len]; exact (List.getElem?_eq_some_iff.mp hi).1
  have cne := I.cne
  have tracked : ∀ {a : Addr} {h' : Heap}, (∃ o, s.heap.get? a = some o ∧ H a = none) → Heap.SameBut a s.heap h' → HOk X.prog X.w H h' := fun {a h'} ha hs b ob e => by
    obtain ⟨_, _, hfree⟩ := ha
    refine (I.hok b ob e).stay (fun c w' hc q => (hs.2 c ?_).trans q) (fun _ q => q) fun _ _ q => q
    rintro rfl
    rcases hc with rfl | hc
    · rw [hfree] at e; cases e
    · rw [hfree] at hc; cases hc
  rcases hx with hk | hk
  · refine wpAny_storeName_local hk hn (fun h' hn' hs => ?_) hcls
    obtain ⟨oL, _, _, hoL, _⟩ := id hn
    refine h _ ⟨I.ok, I.os, I.bare, ⟨fun b o e n hb hx => ?_, fun b o e n hb hx => ?_, I.base.free, fun b o e hx => ?_, I.base.tups, I.base.frzs, I.base.tbls⟩, ⟨_, hn', fun j y v' e1 e2 e3 => ?_⟩, fun y c e => ?_, I.free, I.freeC, fun p hp => ?_, tracked ⟨oL, hoL, I.free⟩ hs, by simpa using I.len⟩ ⟨_, hs, .inl rfl⟩
    · exact (hs.2 b (Nat.ne_of_lt (Nat.lt_of_lt_of_le (Heap.lt_size e) I.ok.above))).trans (I.base.keep b o e n hb hx)
    · obtain ⟨sl, e1⟩ := I.base.slot b o e n hb hx
      exact ⟨sl, (hs.2 b (Nat.ne_of_lt (Nat.lt_of_lt_of_le (Heap.lt_size e) I.ok.above))).trans e1⟩
    · obtain ⟨o', e1⟩ := I.base.there b o e hx
      exact ⟨o', (hs.2 b (Nat.ne_of_lt (Nat.lt_of_lt_of_le (Heap.lt_size e) I.ok.above))).trans e1⟩
    · by_cases hj : j = i
      · subst hj
        rw [hi] at e1; cases e1
        rw [List.getElem?_set_self hiσ] at e2
        cases e2
        exact ⟨u, r, .inl ⟨hk, by simp⟩⟩
      · rw [List.getElem?_set_ne (Ne.symm hj)] at e2
        obtain ⟨u', r', q⟩ := hl j y v' e1 e2 e3
        refine ⟨u', r', ?_⟩
        rcases q with ⟨k, e⟩ | ⟨k, c, e, z⟩
        · refine .inl ⟨k, ?_⟩
          have : y ≠ x := fun e => hj (nodup_ix hN e1 (e ▸ hi))
          simp [this, e]
        · exact .inr ⟨k, c, e, z.sameBut hs (cne y c e)⟩
    · obtain ⟨w', z⟩ := I.cell y c e
      exact ⟨w', z.sameBut hs (cne y c e)⟩
    · obtain ⟨e, n, ne, nf, d⟩ := I.pin p hp
      exact ⟨(hs.2 p.1 ne).trans e, n, ne, nf, d⟩
  · have hfn : X.fn x = true := by
      rcases hf with z | z
      · exact z
      · rw [z] at hk; cases hk
    obtain ⟨c, hc⟩ := I.ok.has x (.inl hk)
    obtain ⟨w', z⟩ := I.cell x c hc
    refine wpAny_storeName_cell I.ok.kind hk hc z (fun h' hc' hs => ?_)
    obtain ⟨oc, hoc, hocd⟩ := id z
    refine h { s with heap := h' } ⟨I.ok, I.os, I.bare, ⟨fun b o e n hb hx => ?_, fun b o e n hb hx => ?_, I.base.free, fun b o e hx => ?_, I.base.tups, I.base.frzs, I.base.tbls⟩, ⟨m, hn.sameBut hs (Ne.symm (cne x c hc)), fun j y v' e1 e2 e3 => ?_⟩, fun y c' e => ?_, I.free, I.freeC, fun p hp => ?_, tracked ⟨oc, hoc, I.freeC x c hc⟩ hs, by simpa using I.len⟩ ⟨c, hs, .inr hc⟩
    · exact (hs.2 b (Nat.ne_of_lt (Nat.lt_of_lt_of_le (Heap.lt_size e) (I.ok.cab x c hfn hc)))).trans (I.base.keep b o e n hb hx)
    · obtain ⟨sl, e1⟩ := I.base.slot b o e n hb hx
      exact ⟨sl, (hs.2 b (Nat.ne_of_lt (Nat.lt_of_lt_of_le (Heap.lt_size e) (I.ok.cab x c hfn hc)))).trans e1⟩
    · obtain ⟨o', e1⟩ := I.base.there b o e hx
      exact ⟨o', (hs.2 b (Nat.ne_of_lt (Nat.lt_of_lt_of_le (Heap.lt_size e) (I.ok.cab x c hfn hc)))).trans e1⟩
    · by_cases hj : j = i
      · subst hj
        rw [hi] at e1; cases e1
        rw [List.getElem?_set_self hiσ] at e2
        cases e2
        exact ⟨u, r, .inr ⟨.inl hk, c, hc, hc'⟩⟩
      · rw [List.getElem?_set_ne (Ne.symm hj)] at e2
        obtain ⟨u', r', q⟩ := hl j y v' e1 e2 e3
        refine ⟨u', r', ?_⟩
        rcases q with q | ⟨k, c', e, z'⟩
        · exact .inl q
        · refine .inr ⟨k, c', e, z'.sameBut hs ?_⟩
          rintro rfl
          exact hj (nodup_ix hN e1 (I.ok.inj _ _ _ e hc ▸ hi))
    · by_cases hcc : c' = c
      · subst hcc; exact ⟨_, hc'⟩
      · obtain ⟨w2, z2⟩ := I.cell y c' e
        exact ⟨w2, z2.sameBut hs hcc⟩
    · obtain ⟨e, n, ne, nf, d⟩ := I.pin p hp
      refine ⟨(hs.2 p.1 ?_).trans e, n, ne, nf, d⟩
      intro q
      rw [q, hoc] at e
      have q' : oc = p.2 := Option.some.inj e
      exact d w' (by rw [← q']; exact hocd)
theorem store_ok {M : Model} {A : Around} {E : Value → Shared → Prop} {i : Nat} {x : Str} {v : V} {u : Value} {Q : Unit → Shared → Prop} (I : Inv X pins σ H s) (hN : X.N.Nodup) (hi : X.N[i]? = some x) (hx : Loc X.env.scope x) (r : RelV v u)
    (h : ∀ s', Inv X pins (σ.set i (some v)) H s' → Q () s') (hf : X.fn x = true ∨ X.env.scope.names.lookup x = some .local := by first | exact .inl rfl | exact .inr rfl | assumption) : wpAny M A (storeName X.env x u) Q E s :=
  store_ok2 I hN hi hx r (fun s' I' _ => h s' I') hf
/-- behind a call or a block, the state as it is -/
theorem Inv.call' {s' : Shared} {ch : List Addr} (I : Inv X pins σ H s) (ho : s'.os = s.os) (u : Un (frs X.stack) ch H H' s.heap s'.heap) (hok : HOk X.prog X.w H' s'.heap) (hg : AllBare s'.gens)
    (hch : ∀ b ∈ ch, (b ∈ X.ex ∨ X.s_0.heap.objs.size ≤ b) ∧ b ≠ X.env.locals ∧ (∀ x c, X.env.cells.lookup x = some c → c ≠ b) ∧ ∀ p ∈ X.pn ++ pins, p.1 ≠ b) : Inv X pins σ H' s' := by
  obtain ⟨h', g', d', t', o'⟩ := s'
  have e : o' = s.os := ho
  subst e
  exact I.call (g' := g') (t' := t') (d' := d') u hok hg hch
end
/-- an exception: its class, its own dict's address (where it has one), the abstract heap behind it -/
abbrev XK := Value → Option Addr → Hp → Prop
abbrev St := List (Option V)
abbrev VK := V → Hp → Prop
/-- an expression's reading; a test's; an argument list's -/
abbrev TE := St → Hp → VK → Prop
abbrev TT := St → Hp → (Bool → Hp → Prop) → Prop
abbrev TA := St → Hp → (List V → Hp → Prop) → Prop
/-- what is wanted behind a statement -/
structure Ends where
  nx : St → Hp → Prop
  rt : VK
  bk : St → Hp → Prop := fun _ _ => False
  ct : St → Hp → Prop := fun _ _ => False
abbrev TS := Ends → St → Hp → Prop
def EP (X : Cx) (pins : List (Addr × Obj)) (σ : St) (Q : VK) (u : Value) (s' : Shared) : Prop := ∃ v H', Inv X pins σ H' s' ∧ RelV v u ∧ Q v H'
def TP (X : Cx) (pins : List (Addr × Obj)) (σ : St) (Q : Bool → Hp → Prop) (b : Bool) (s' : Shared) : Prop := ∃ H', Inv X pins σ H' s' ∧ Q b H'
def AP (X : Cx) (pins : List (Addr × Obj)) (σ : St) (Q : List V → Hp → Prop) (us : List Value) (s' : Shared) : Prop := ∃ vs H', Inv X pins σ H' s' ∧ Vals vs us ∧ Q vs H'
def SP (X : Cx) (pins : List (Addr × Obj)) (D : Ends) (f : Flow) (s' : Shared) : Prop :=
  match f with
  | .next => ∃ σ' H', Inv X pins σ' H' s' ∧ D.nx σ' H'
  | .brk => ∃ σ' H', Inv X pins σ' H' s' ∧ D.bk σ' H'
  | .cont => ∃ σ' H', Inv X pins σ' H' s' ∧ D.ct σ' H'
  | .ret u => ∃ v σ' H', Inv X pins σ' H' s' ∧ RelV v u ∧ D.rt v H'
def PE (X : Cx) (e : Expr) (t : TE) : Prop :=
  ∀ (pins : List (Addr × Obj)) (s : Shared) (σ : St) (H : Hp) (Q : VK), Inv X pins σ H s → t σ H Q → wpAny (model X.prog X.w) X.A (eval e X.env) (EP X pins σ Q) X.xe s
def PT (X : Cx) (e : Expr) (t : TT) : Prop :=
  ∀ (pins : List (Addr × Obj)) (s : Shared) (σ : St) (H : Hp) (Q : Bool → Hp → Prop), Inv X pins σ H s → t σ H Q → wpAny (model X.prog X.w) X.A (isTrue e X.env (eval e X.env)) (TP X pins σ Q) X.xe s
/-- a test whatever its 'whole' is (and, or) -/
def PW (X : Cx) (e : Expr) (t : TT) : Prop :=
  ∀ (whole : Sem Value) (pins : List (Addr × Obj)) (s : Shared) (σ : St) (H : Hp) (Q : Bool → Hp → Prop), Inv X pins σ H s → t σ H Q → wpAny (model X.prog X.w) X.A (isTrue e X.env whole) (TP X pins σ Q) X.xe s
theorem PW.pt {X : Cx} {e : Expr} {t : TT} (h : PW X e t) : PT X e t := h _
/-- an argument list (no star), from the left -/
def PA (X : Cx) (es : List Expr) (t : TA) : Prop :=
  ∀ (pos : Pos) (pins : List (Addr × Obj)) (s : Shared) (σ : St) (H : Hp) (Q : List V → Hp → Prop), Inv X pins σ H s → t σ H Q → wpAny (model X.prog X.w) X.A (spliced (backTo pos (starEach es X.env))) (AP X pins σ Q) X.xe s
def PS (X : Cx) (st : Stmt) (t : TS) : Prop :=
  ∀ (pins : List (Addr × Obj)) (s : Shared) (σ : St) (H : Hp) (D : Ends), Inv X pins σ H s → t D σ H → wpAny (model X.prog X.w) X.A (exec st X.env) (SP X pins D) X.xe s
def PSs (X : Cx) (st : List Stmt) (t : TS) : Prop :=
  ∀ (pins : List (Addr × Obj)) (s : Shared) (σ : St) (H : Hp) (D : Ends), Inv X pins σ H s → t D σ H → wpAny (model X.prog X.w) X.A (execs st X.env) (SP X pins D) X.xe s
/-- weaken the end -/
theorem thn {α : Type} {t : Sem α} {Q Q' : α → Shared → Prop} {M : Model} {A : Around} {E : Value → Shared → Prop} {s : Shared} (h : wpAny M A t Q E s) (hQ : ∀ a s, Q a s → Q' a s) : wpAny M A t Q' E s := wpAny_mono h hQ fun _ _ x => x
end L2
namespace L2
open PySem PySem.Spec PyProof.Rows
section
variable {X : Cx}
def tVar (i : Nat) : TE := fun σ H Q => ∃ v, σ[i]? = some (some v) ∧ Q v H
def tC (v : V) : TE := fun _ H Q => Q v H
theorem pe_var {i : Nat} {x : Str} {pos : Pos} (hN : X.N[i]? = some x) (hv : Vis X.env.scope x) (hd : (x == ("__debug__" : Str)) = false := by decide) (hcd : (x == ("__classdict__" : Str)) = false := by decide) : PE X (.Name x pos) (tVar i) := by
  intro pins s σ H Q I h
  obtain ⟨v, e, h⟩ := h
  obtain ⟨m, hn, hl⟩ := I.loc
  obtain ⟨u, r, l⟩ := hl i x v hN e hv
  have fin : EP X pins σ Q u s := ⟨v, H, I, r, h⟩
  rcases l with ⟨hk, hm⟩ | ⟨hk, c, hc, hcell⟩
  · exact wpAny_Name (wpAny_loadName_local I.ok.kind hk hn hm fin) hd
  · rcases hk with hk | hk
    · exact wpAny_Name (wpAny_loadName_cell I.ok.kind hk hc hcell fin) hd
    · exact wpAny_Name (wpAny_loadName_free I.ok.kind hk hc hcell fin hcd) hd
theorem pe_int {i j pos} : PE X (.Constant (.int i) j pos) (tC (.int i)) := fun _ _ _ H _ I h => wpAny_Constant_int ⟨.int i, H, I.tok _, ⟨_, rfl⟩, h⟩
theorem pe_bl {b j pos} : PE X (.Constant (.bool b) j pos) (tC (.bl b)) := fun _ _ _ H _ I h => Constant_bool ⟨.bl b, H, I, rfl, h⟩
theorem pe_non {j pos} : PE X (.Constant .none j pos) (tC .non) := fun _ _ _ H _ I h => Constant_none ⟨.non, H, I, rfl, h⟩
/-- a global name of the def -/
def Gl (X : Cx) (x : Str) : Prop := X.env.kindOf x = some .globalImplicit
theorem ld_glob {E : Value → Shared → Prop} {pins : List (Addr × Obj)} {s : Shared} {σ : St} {H : Hp} {x : Str} {u : Value} {pos : Pos} {Q : Value → Shared → Prop} (I : Inv X pins σ H s) (hg : Gl X x) (hm : X.mg x = some u) (h : Q u s)
    (hd : (x == ("__debug__" : Str)) = false := by decide) : wpAny (model X.prog X.w) X.A (eval (.Name x pos) X.env) Q E s :=
  Calls.Name_function_global I.ok.kind hg (Calls.loadGlobal_global (by rw [I.ok.glob]; exact I.mod.glob.keeps I.bk) hm h) hd
theorem ld_blt {E : Value → Shared → Prop} {pins : List (Addr × Obj)} {s : Shared} {σ : St} {H : Hp} {x : Str} {u : Value} {pos : Pos} {Q : Value → Shared → Prop} (I : Inv X pins σ H s) (hg : Gl X x) (hm : X.mg x = none) (hv : bootBuiltins x = some u) (h : Q u s)
    (hn : x ≠ "__name__" := by decide) (hd : (x == ("__debug__" : Str)) = false := by decide) : wpAny (model X.prog X.w) X.A (eval (.Name x pos) X.env) Q E s := by
  obtain ⟨mb, h1, h2⟩ := I.mod.blt
  exact Calls.Name_function_global I.ok.kind hg (Calls.loadGlobal_builtin (by rw [I.ok.glob]; exact I.mod.glob.keeps I.bk) hm (by rw [I.ok.blt]; exact h1.keeps I.bk) ((h2 x hn).trans hv) h) hd
/-- a module's constant, a class, a function, as a value -/
theorem pe_glob {x : Str} {v : V} {u : Value} {pos : Pos} (hg : Gl X x) (hm : X.mg x = some u) (r : RelV v u) (hd : (x == ("__debug__" : Str)) = false := by decide) : PE X (.Name x pos) (tC v) :=
  fun _ _ _ H _ I h => ld_glob I hg hm ⟨v, H, I, r, h⟩ hd
variable {a b : Expr} {ta tb : TE} {pos : Pos}
def PC (X : Cx) (op : CmpOp) (a b : Expr) (t : TE) : Prop :=
  ∀ (pins : List (Addr × Obj)) (s : Shared) (σ : St) (H : Hp) (Q : VK), Inv X pins σ H s → t σ H Q →
    wpAny (model X.prog X.w) X.A (eval a X.env) (fun v s₁ => wpAny (model X.prog X.w) X.A (eval b X.env) (fun u s₂ => wpAny (model X.prog X.w) X.A (compareOp op v u) (EP X pins σ Q) X.xe s₂) X.xe s₁) X.xe s
theorem nobehind (b : Expr) {op : CmpOp} (h : op ≠ .In) (h2 : op ≠ .NotIn) : behindInMarks op b = false := by
  have e1 : (op == CmpOp.In) = false := by cases op <;> first | rfl | exact absurd rfl h
  have e2 : (op == CmpOp.NotIn) = false := by cases op <;> first | rfl | exact absurd rfl h2
  cases b <;> simp [behindInMarks, e1, e2]
/-- is None -/
def tIsN (ta : TE) : TE := fun σ H Q => ta σ H fun x H1 => Q (.bl (decide (x = .non))) H1
def tNotN (ta : TE) : TE := fun σ H Q => ta σ H fun x H1 => Q (.bl (!decide (x = .non))) H1
theorem RelV.none_iff {x : V} {v : Value} (r : RelV x v) : (v == Value.none) = decide (x = .non) := by
  cases x with
  | non => cases r; rfl
  | bl _ => cases r; rfl
  | int _ => obtain ⟨t, rfl⟩ := r; rfl
  | str _ => obtain ⟨t, rfl⟩ := r; rfl
  | byt _ => obtain ⟨t, rfl⟩ := r; rfl
  | flt _ => obtain ⟨t, rfl⟩ := r; rfl
  | ref _ => cases r; rfl
  | ty _ => cases r; rfl
theorem pc_isN {j pos'} (ha : PE X a ta) : PC X .Is a (.Constant .none j pos') (tIsN ta) := by
  intro pins s σ H Q I h
  refine thn (ha pins s σ H _ I h) fun v s1 ⟨x, H1, I1, r1, q1⟩ => ?_
  exact Constant_none (is_none_gen ⟨.bl _, H1, I1, by rw [r1.none_iff]; rfl, q1⟩)
theorem pc_notN {j pos'} (ha : PE X a ta) : PC X .IsNot a (.Constant .none j pos') (tNotN ta) := by
  intro pins s σ H Q I h
  refine thn (ha pins s σ H _ I h) fun v s1 ⟨x, H1, I1, r1, q1⟩ => ?_
  exact Constant_none (isnot_none_gen ⟨.bl _, H1, I1, by rw [r1.none_iff]; rfl, q1⟩)
/-- a comparison as a value, as a test -/
def tB (t : TE) : TT := fun σ H Q => t σ H fun x H1 => ∃ c, x = .bl c ∧ Q c H1
theorem pt_cmp {op : CmpOp} {t : TE} (h : PC X op a b t) (h1 : behindInMarks op b = false := by first | exact nobehind _ (by decide) (by decide) | rfl) : PT X (.Compare a [op] [b] pos) (tB t) := by
  intro pins s σ H Q I hw
  refine wpAny_isTrue_Compare1 (thn (h pins s σ H _ I hw) fun v s1 h1 => thn h1 fun u s2 h2 => thn h2 fun c s3 ⟨x, H1, I1, r1, q1⟩ => ?_) h1
  obtain ⟨d, rfl, q⟩ := q1
  cases r1
  exact wpAny_truthy_bool ⟨H1, I1, q⟩
/-- an expression whose value is a bool, as a test -/
theorem pt_val {e : Expr} {t : TE} (h : PE X e t) (he : ∀ whole, isTrue e X.env whole = (do let v ← whole; standAt e.pos; holding [v] (truthy v)) := by intro _; rfl) : PT X e (tB t) := by
  intro pins s σ H Q I hw
  refine isTrue_plain (thn (h pins s σ H _ I hw) fun v s1 ⟨x, H1, I1, r1, q1⟩ => ?_) (he _)
  obtain ⟨d, rfl, q⟩ := q1
  cases r1
  exact wpAny_truthy_bool ⟨H1, I1, q⟩
variable {tA tB' : TT} {rest : List Expr}
def tAnd (t u : TT) : TT := fun σ H Q => t σ H fun c H1 => if c = true then u σ H1 Q else Q false H1
def tOr (t u : TT) : TT := fun σ H Q => t σ H fun c H1 => if c = true then Q true H1 else u σ H1 Q
def tNot (t : TT) : TT := fun σ H Q => t σ H fun c H1 => Q (!c) H1
theorem pw_and1 (ha : PT X a tA) : PW X (.BoolOp .And [a] pos) tA := by
  intro wh pins s σ H Q I h
  refine isTrue_and (thn (ha pins s σ H Q I h) fun c s1 e => ?_)
  cases c with
  | true => exact isTrue_and_nil e
  | false => exact e
theorem pw_or1 (ha : PT X a tA) : PW X (.BoolOp .Or [a] pos) tA := by
  intro wh pins s σ H Q I h
  refine isTrue_or (thn (ha pins s σ H Q I h) fun c s1 e => ?_)
  cases c with
  | false => exact isTrue_or_nil e
  | true => exact e
theorem pw_and (ha : PT X a tA) (hb : PW X (.BoolOp .And (b :: rest) pos) tB') : PW X (.BoolOp .And (a :: b :: rest) pos) (tAnd tA tB') := by
  intro wh pins s σ H Q I h
  refine isTrue_and (thn (ha pins s σ H _ I h) fun c s1 ⟨H1, I1, q1⟩ => ?_)
  cases c with
  | true => exact hb wh pins s1 σ H1 Q I1 q1
  | false => exact ⟨H1, I1, q1⟩
theorem pw_or (ha : PT X a tA) (hb : PW X (.BoolOp .Or (b :: rest) pos) tB') : PW X (.BoolOp .Or (a :: b :: rest) pos) (tOr tA tB') := by
  intro wh pins s σ H Q I h
  refine isTrue_or (thn (ha pins s σ H _ I h) fun c s1 ⟨H1, I1, q1⟩ => ?_)
  cases c with
  | true => exact ⟨H1, I1, q1⟩
  | false => exact hb wh pins s1 σ H1 Q I1 q1
theorem pt_not (ha : PT X a tA) : PT X (.UnaryOp .Not a pos) (tNot tA) := by
  intro pins s σ H Q I h
  exact isTrue_not (ha pins s σ H (fun c H1 => Q (!c) H1) I h)
/-- a if t else b -/
def tIf (t : TT) (ta tb : TE) : TE := fun σ H Q => t σ H fun c H1 => if c = true then ta σ H1 Q else tb σ H1 Q
theorem pe_ifExp {c : Expr} (hc : PT X c tA) (ha : PE X a ta) (hb : PE X b tb) : PE X (.IfExp c a b pos) (tIf tA ta tb) := by
  intro pins s σ H Q I h
  refine wpAny_IfExp (thn (hc pins s σ H _ I h) fun d s1 ⟨H1, I1, q1⟩ => ?_)
  cases d with
  | true => exact ha pins s1 σ H1 Q I1 q1
  | false => exact hb pins s1 σ H1 Q I1 q1
end
end L2
namespace L2
open PySem PySem.Spec PyProof.Rows
def SqL (K : PySem.W.Frag) (H : Hp) (a : Addr) (xs : List V) : Prop :=
  Rd H a (.lst xs) ∨
    ∃ (o : Obj) (its : Array Value) (n : Nat), K.lookup a = some o ∧ o.cls = .type "list" ∧ o.dict = none ∧ o.data = .seq its n ∧ its.size ≤ sizeLine ∧ Vals xs its.toList
def SqT (K : PySem.W.Frag) (H : Hp) (a : Addr) (xs : List V) : Prop :=
  Rd H a (.tup xs) ∨
    ∃ (o : Obj) (its : Array Value) (n : Nat), K.lookup a = some o ∧ o.cls = .type "tuple" ∧ o.data = .seq its n ∧ its.size ≤ sizeLine ∧ Vals xs its.toList
def absV : Value → Option V
  | .none => some .non
  | .bool b => some (.bl b)
  | .int i _ => some (.int i)
  | .str x _ => some (.str x)
  | .bytes b _ => some (.byt b)
  | .float b _ => some (.flt b)
  | .ref a => some (.ref a)
  | .type n => some (.ty n)
  | _ => none
theorem RelV.abs {x : V} {u : Value} (r : RelV x u) : absV u = some x := by
  cases x with
  | non => cases r; rfl
  | bl _ => cases r; rfl
  | int _ => obtain ⟨t, rfl⟩ := r; rfl
  | str _ => obtain ⟨t, rfl⟩ := r; rfl
  | byt _ => obtain ⟨t, rfl⟩ := r; rfl
  | flt _ => obtain ⟨t, rfl⟩ := r; rfl
  | ref _ => cases r; rfl
  | ty _ => cases r; rfl
theorem RelV.inj {x y : V} {u : Value} (r : RelV x u) (q : RelV y u) : x = y := Option.some.inj (r.abs.symm.trans q.abs)
theorem Vals.inj : ∀ {xs ys : List V} {us : List Value}, Vals xs us → Vals ys us → xs = ys
  | _, _, _, .nil, .nil => rfl
  | _, _, _, .cons r t, .cons r' t' => by rw [r.inj r', Vals.inj t t']
section
variable {X : Cx} {pins : List (Addr × Obj)} {σ : St} {H : Hp} {s : Shared} {a : Addr} {xs ys : List V}
theorem SqL.of {K : PySem.W.Frag} (h : H a = some (.lst xs)) : SqL K H a xs := .inl (.inl h)
theorem SqT.of {K : PySem.W.Frag} (h : H a = some (.tup xs)) : SqT K H a xs := .inl (.inl h)
theorem Inv.list (I : Inv X pins σ H s) (h : SqL X.K H a xs) : ∃ its : List Value, Vals xs its ∧ PlainL s.heap a its.toArray ∧ xs.length ≤ sizeLine := by
  rcases h with h | ⟨o, its, n, hk, hc, hd, hs, hz, r⟩
  · obtain ⟨z, its, n, r, e⟩ := h.ok I.hok
    exact ⟨its, r, ⟨_, n, e, rfl, rfl, rfl⟩, z⟩
  · refine ⟨its.toList, r, ⟨o, n, I.kIn a o hk, hc, hd, by simpa using hs⟩, ?_⟩
    have e := r.length
    simp only [Array.length_toList] at e
    omega
theorem Inv.tuple (I : Inv X pins σ H s) (h : SqT X.K H a xs) : ∃ its : List Value, Vals xs its ∧ IsTup s.heap a its.toArray ∧ xs.length ≤ sizeLine := by
  rcases h with h | ⟨o, its, n, hk, hc, hs, hz, r⟩
  · obtain ⟨z, its, r, p⟩ := h.ok I.hok
    exact ⟨its, r, p, z⟩
  · refine ⟨its.toList, r, ⟨o, I.kIn a o hk, hc, n, by simpa using hs⟩, ?_⟩
    have e := r.length
    simp only [Array.length_toList] at e
    omega
theorem Inv.list_inj (I : Inv X pins σ H s) (h : SqL X.K H a xs) (h' : SqL X.K H a ys) : xs = ys := by
  obtain ⟨its, r, ⟨o, n, e, _, _, d⟩, _⟩ := I.list h
  obtain ⟨its', r', ⟨o', n', e', _, _, d'⟩, _⟩ := I.list h'
  rw [e] at e'; cases e'
  rw [d] at d'
  injection d' with d1 _
  have : its = its' := by simpa using congrArg Array.toList d1
  subst this
  exact r.inj r'
theorem Inv.tuple_inj (I : Inv X pins σ H s) (h : SqT X.K H a xs) (h' : SqT X.K H a ys) : xs = ys := by
  obtain ⟨its, r, ⟨o, e, _, n, d⟩, _⟩ := I.tuple h
  obtain ⟨its', r', ⟨o', e', _, n', d'⟩, _⟩ := I.tuple h'
  rw [e] at e'; cases e'
  rw [d] at d'
  injection d' with d1 _
  have : its = its' := by simpa using congrArg Array.toList d1
  subst this
  exact r.inj r'
end
abbrev Cx.wish (X : Cx) (E : Value → Shared → Prop) : Cx := { X with xe := E }
/-- no exception leaves -/
abbrev Cx.nox (X : Cx) : Cx := X.wish fun _ _ => False
theorem Cx.Ok.wish {X : Cx} (ok : X.Ok) (E : Value → Shared → Prop) : (X.wish E).Ok :=
  ⟨ok.mod, ok.kind, ok.glob, ok.blt, ok.above, ok.inj, ok.has, ok.cab, ok.hd, ok.frames, ok.stk, ok.exf, ok.bs, ok.bsz, ok.noex, ok.exfs, ok.funs, ok.frf⟩
theorem Cx.Ok.unwish {X : Cx} {E : Value → Shared → Prop} (ok : (X.wish E).Ok) : X.Ok :=
  ⟨ok.mod, ok.kind, ok.glob, ok.blt, ok.above, ok.inj, ok.has, ok.cab, ok.hd, ok.frames, ok.stk, ok.exf, ok.bs, ok.bsz, ok.noex, ok.exfs, ok.funs, ok.frf⟩
section
variable {X : Cx} {pins : List (Addr × Obj)} {σ : St} {H : Hp} {s : Shared} {E : Value → Shared → Prop}
theorem Inv.wish (I : Inv X pins σ H s) (E : Value → Shared → Prop) : Inv (X.wish E) pins σ H s := ⟨I.ok.wish E, I.os, I.bare, I.base, I.loc, I.cell, I.free, I.freeC, I.pin, I.hok, I.len⟩
theorem Inv.unwish (I : Inv (X.wish E) pins σ H s) : Inv X pins σ H s := ⟨I.ok.unwish, I.os, I.bare, I.base, I.loc, I.cell, I.free, I.freeC, I.pin, I.hok, I.len⟩
theorem SP.unwish {D : Ends} {f : Flow} {s' : Shared} (h : SP (X.wish E) pins D f s') : SP X pins D f s' := by
  cases f with
  | next => obtain ⟨σ', H', I, q⟩ := h; exact ⟨σ', H', I.unwish, q⟩
  | brk => obtain ⟨σ', H', I, q⟩ := h; exact ⟨σ', H', I.unwish, q⟩
  | cont => obtain ⟨σ', H', I, q⟩ := h; exact ⟨σ', H', I.unwish, q⟩
  | ret u => obtain ⟨v, σ', H', I, r, q⟩ := h; exact ⟨v, σ', H', I.unwish, r, q⟩
theorem PE.nox {e : Expr} {t : TE} (h : PE X.nox e t) : PE X e t := fun pins s σ H Q I hw =>
  wpAny_mono (h pins s σ H Q (I.wish _) hw) (fun _ _ ⟨v, H', I', r, q⟩ => ⟨v, H', I'.unwish, r, q⟩) fun _ _ z => False.elim z
theorem PT.nox {e : Expr} {t : TT} (h : PT X.nox e t) : PT X e t := fun pins s σ H Q I hw =>
  wpAny_mono (h pins s σ H Q (I.wish _) hw) (fun _ _ ⟨H', I', q⟩ => ⟨H', I'.unwish, q⟩) fun _ _ z => False.elim z
theorem PSs.nox {st : List Stmt} {t : TS} (h : PSs X.nox st t) : PSs X st t := fun pins s σ H D I hw =>
  wpAny_mono (h pins s σ H D (I.wish _) hw) (fun _ _ q => q.unwish) fun _ _ z => False.elim z
end
section
variable {X : Cx} {st : Stmt} {rest : List Stmt} {t u : TS} {e : Expr} {te : TE} {pos : Pos}
def tNext : TS := fun D σ H => D.nx σ H
def tSeq (t u : TS) : TS := fun D σ H => t { D with nx := u D } σ H
theorem pss_nil : PSs X [] tNext := fun _ _ σ H _ I h => wpAny_execs_nil ⟨σ, H, I, h⟩
theorem pss_cons (h1 : PS X st t) (h2 : PSs X rest u) : PSs X (st :: rest) (tSeq t u) := by
  intro pins s σ H D I h
  refine wpAny_execs_cons (thn (h1 pins s σ H { D with nx := u D } I h) fun f s1 q => ?_)
  cases f with
  | next =>
    obtain ⟨σ', H', I', q⟩ := q
    exact h2 pins s1 σ' H' D I' q
  | ret v => exact q
  | brk => exact q
  | cont => exact q
theorem pss_one (h1 : PS X st t) : PSs X [st] t := by
  intro pins s σ H D I h
  refine wpAny_execs_cons (thn (h1 pins s σ H D I h) fun f s1 q => ?_)
  cases f with
  | next => exact wpAny_execs_nil q
  | ret v => exact q
  | brk => exact q
  | cont => exact q
/-- in a def's body nothing is shown -/
theorem Inv.quiet {pins : List (Addr × Obj)} {σ : St} {H : Hp} {s : Shared} (I : Inv X pins σ H s) : interactive X.env = false := by simp [interactive, I.ok.kind]
/-- an expression whose value is dropped -/
def tDrop (te : TE) : TS := fun D σ H => te σ H fun _ H1 => D.nx σ H1
theorem ps_expr (he : PE X e te) (hs : swapsWith e none pos.line X.env = pure false := by rfl) : PS X (.Expr e pos) (tDrop te) := by
  intro pins s σ H D I h
  exact wpAny_Expr_any (thn (he pins s σ H _ I h) fun v s1 ⟨x, H1, I1, r1, q1⟩ => ⟨σ, H1, I1, q1⟩) I.quiet hs
def tRet (te : TE) : TS := fun D σ H => te σ H D.rt
theorem ps_ret (he : PE X e te) : PS X (.Return (some e) pos) (tRet te) := by
  intro pins s σ H D I h
  exact wpAny_Return_some (thn (he pins s σ H _ I h) fun v s1 ⟨x, H1, I1, r1, q1⟩ => ⟨x, σ, H1, I1, r1, q1⟩)
def tIfS (c : TT) (t u : TS) : TS := fun D σ H => c σ H fun b H1 => if b = true then t D σ H1 else u D σ H1
theorem ps_if {c : Expr} {a b : List Stmt} {tc : TT} (hc : PT X c tc) (ha : PSs X a t) (hb : PSs X b u) : PS X (.If c a b pos) (tIfS tc t u) := by
  intro pins s σ H D I h
  refine wpAny_If (thn (hc pins s σ H _ I h) fun d s1 ⟨H1, I1, q1⟩ => ?_)
  cases d with
  | true => exact ha pins s1 σ H1 D I1 q1
  | false => exact hb pins s1 σ H1 D I1 q1
end
abbrev TG := V → St → Hp → (St → Hp → Prop) → Prop
abbrev TGs := List V → St → Hp → (St → Hp → Prop) → Prop
def PG (X : Cx) (target : Expr) (t : TG) : Prop :=
  ∀ (pins : List (Addr × Obj)) (s : Shared) (σ : St) (H : Hp) (v : V) (u : Value) (Q : St → Hp → Prop), Inv X pins σ H s → RelV v u → t v σ H Q →
    wpAny (model X.prog X.w) X.A (assign target X.env u) (fun _ s' => ∃ σ' H', Inv X pins σ' H' s' ∧ Q σ' H') X.xe s
/-- several targets, one after another -/
def PGs (X : Cx) (ts : List Expr) (t : TGs) : Prop :=
  ∀ (pins : List (Addr × Obj)) (s : Shared) (σ : St) (H : Hp) (vs : List V) (us : List Value) (Q : St → Hp → Prop), Inv X pins σ H s → Vals vs us → t vs σ H Q →
    wpAny (model X.prog X.w) X.A (assignInOrder ((assignEach ts X.env).map (·.2)) us) (fun _ s' => ∃ σ' H', Inv X pins σ' H' s' ∧ Q σ' H') X.xe s
/-- a op= b, by values -/
abbrev TIp := V → V → Hp → VK → Prop
def PIp (X : Cx) (op : Operator) (t : TIp) : Prop :=
  ∀ (pins : List (Addr × Obj)) (s : Shared) (σ : St) (H : Hp) (x y : V) (v u : Value) (Q : VK), Inv X pins σ H s → RelV x v → RelV y u → t x y H Q →
    wpAny (model X.prog X.w) X.A (inplaceOp op v u) (EP X pins σ Q) X.xe s
section
variable {X : Cx} {pos : Pos}
def gName (i : Nat) : TG := fun v σ H Q => Q (σ.set i (some v)) H
theorem pg_name {i : Nat} {x : Str} (hN : X.N.Nodup) (hi : X.N[i]? = some x) (hx : Loc X.env.scope x) (hf : X.fn x = true ∨ X.env.scope.names.lookup x = some .local := by first | exact .inl rfl | exact .inr rfl | assumption) : PG X (.Name x pos) (gName i) := by
  intro pins s σ H v u Q I r h
  exact wpAny_assign_Name (store_ok I hN hi hx r (fun s' I' => ⟨_, H, I', h⟩) hf)
def gNil : TGs := fun vs σ H Q => vs = [] ∧ Q σ H
def gCons (t : TG) (u : TGs) : TGs := fun vs σ H Q => ∃ v r, vs = v :: r ∧ t v σ H fun σ' H' => u r σ' H' Q
theorem pgs_nil : PGs X [] gNil := by
  intro pins s σ H vs us Q I r h
  obtain ⟨e, h⟩ := h
  subst e
  cases r
  exact assignInOrder_nil ⟨σ, H, I, h⟩
theorem pgs_cons {e : Expr} {es : List Expr} {t : TG} {u : TGs} (h1 : PG X e t) (h2 : PGs X es u)
    (hs : (assignEach (e :: es) X.env).map (·.2) = assign e X.env :: (assignEach es X.env).map (·.2) := by rfl) : PGs X (e :: es) (gCons t u) := by
  intro pins s σ H vs us Q I r h
  obtain ⟨v, vr, e1, h⟩ := h
  subst e1
  cases r with
  | cons r rr =>
    rw [hs]
    refine assignInOrder_cons (thn (h1 pins s σ H _ _ _ I r h) fun _ s1 ⟨σ1, H1, I1, q1⟩ => ?_)
    exact h2 pins s1 σ1 H1 _ _ Q I1 rr q1
/-- (a, b, ..) = a tuple of that length -/
def gTup (K : PySem.W.Frag) (n : Nat) (t : TGs) : TG := fun v σ H Q => ∃ a xs, v = .ref a ∧ SqT K H a xs ∧ xs.length = n ∧ t xs σ H Q
theorem pg_tup {es : List Expr} {k : Nat} {t : TGs} {n : Nat} (hc : X.calm = true) (h : PGs X es t)
    (hn : (assignEach es X.env).length = n := by rfl) (hst : (assignEach es X.env).findIdx? (·.1) = none := by rfl) : PG X (.Tuple es k pos) (gTup X.K n t) := by
  intro pins s σ H v u Q I r hw
  obtain ⟨a, xs, e1, hq, hl, hw⟩ := hw
  subst e1
  cases r
  obtain ⟨its, rv, ht, hz⟩ := I.tuple hq
  refine assign_Tuple_tuple (I.ok.hd hc) ht (by simp [hn, ← hl, rv.length]) hst fun h' hx => ?_
  have I1 : Inv X pins σ H { s with heap := h' } := I.kept (t' := s.toks) fun b o e => hx b o (Nat.ne_of_lt (Heap.lt_size e)) e
  exact h pins _ σ H xs _ Q I1 (by simpa using rv) hw
/-- target = value -/
def tAsg (te : TE) (g : TG) : TS := fun D σ H => te σ H fun x H1 => g x σ H1 D.nx
/-- name = value -/
theorem ps_set {i : Nat} {x : Str} {e : Expr} {te : TE} {pos' : Pos} (hN : X.N.Nodup) (hi : X.N[i]? = some x) (hx : Loc X.env.scope x) (he : PE X e te) (hs : swapsWith e (some (.Name x pos')) pos.line X.env = pure false := by rfl) (hf : X.fn x = true ∨ X.env.scope.names.lookup x = some .local := by first | exact .inl rfl | exact .inr rfl | assumption) :
    PS X (.Assign [.Name x pos'] e pos) (tAsg te (gName i)) := by
  intro pins s σ H D I h
  refine wpAny_Assign_Name (thn (he pins s σ H _ I h) fun v s1 ⟨y, H1, I1, r1, q1⟩ => ?_) hs
  exact store_ok I1 hN hi hx r1 (fun s2 I2 => ⟨_, H1, I2, q1⟩) hf
/-- name op= e -/
def tAug (i : Nat) (te : TE) (ti : TIp) : TS := fun D σ H => ∃ x, σ[i]? = some (some x) ∧ te σ H fun y H1 => ti x y H1 fun z H2 => D.nx (σ.set i (some z)) H2
theorem ps_aug {i : Nat} {x : Str} {e : Expr} {te : TE} {op : Operator} {ti : TIp} {pos' : Pos} (hN : X.N.Nodup) (hi : X.N[i]? = some x) (hx : Loc X.env.scope x) (he : PE X e te) (ho : PIp X op ti) (hf : X.fn x = true ∨ X.env.scope.names.lookup x = some .local := by first | exact .inl rfl | exact .inr rfl | assumption) :
    PS X (.AugAssign (.Name x pos') op e pos) (tAug i te ti) := by
  intro pins s σ H D I h
  obtain ⟨v, e1, h⟩ := h
  obtain ⟨m, hn, hl⟩ := I.loc
  have vis : Vis X.env.scope x := by rcases hx with k | k; exact .inl k; exact .inr (.inl k)
  obtain ⟨u, r, l⟩ := hl i x v hi e1 vis
  refine wpAny_AugAssign_Name ?_
  have go : wpAny (model X.prog X.w) X.A (eval e X.env) (fun w s₂ => wpAny (model X.prog X.w) X.A (inplaceOp op u w) (fun r s₃ => wpAny (model X.prog X.w) X.A (storeName X.env x r) (fun _ => SP X pins D .next) X.xe s₃) X.xe s₂) X.xe s := by
    refine thn (he pins s σ H _ I h) fun w s1 ⟨y, H1, I1, r1, q1⟩ => ?_
    refine thn (ho pins s1 σ H1 v y u w _ I1 r r1 q1) fun z s2 ⟨zv, H2, I2, r2, q2⟩ => ?_
    exact store_ok I2 hN hi hx r2 (fun s3 I3 => ⟨_, H2, I3, q2⟩) hf
  rcases l with ⟨hk, hm⟩ | ⟨hk, c, hc, hcell⟩
  · exact wpAny_loadName_local I.ok.kind hk hn hm go
  · rcases hk with hk | hk
    · exact wpAny_loadName_cell I.ok.kind hk hc hcell go
    · rcases hx with k | k
      · have : X.env.scope.names.lookup x = some .free := hk
        rw [k] at this; cases this
      · have : X.env.scope.names.lookup x = some .free := hk
        rw [k] at this; cases this
/-- ints -/
def ipI (f : Int → Int → Int) : TIp := fun x y H Q => ∃ i j, x = .int i ∧ y = .int j ∧ Q (.int (f i j)) H
theorem ip_add : PIp X .Add (ipI fun i j => i + j) := by
  intro pins s σ H x y v u Q I r1 r2 h
  obtain ⟨i, j, e1, e2, q⟩ := h
  subst e1; subst e2
  obtain ⟨t, rfl⟩ := r1
  obtain ⟨t', rfl⟩ := r2
  exact iadd_int ⟨.int _, H, I.tok _, ⟨_, rfl⟩, q⟩
end
section
variable {X : Cx} {pos : Pos}
/-- the invariant W with its measure -/
def tWhile (c : TT) (tb : TS) : TS := fun D σ H => ∃ W : Nat → St → Hp → Prop, (∃ m, W m σ H) ∧ ∀ m σ H, W m σ H →
  c σ H fun b H1 => if b = true then ∃ N : St → Hp → Prop, (∀ σ' H', N σ' H' → ∃ m', m' < m ∧ W m' σ' H') ∧ tb { D with nx := N, ct := N, bk := D.nx } σ H1 else D.nx σ H1
theorem ps_while {c : Expr} {body : List Stmt} {tc : TT} {tb : TS} (hp : PassesOwn (model X.prog X.w) X.A X.env X.xe) (hc : PT X c tc) (hb : PSs X body tb) : PS X (.While c body [] pos) (tWhile tc tb) := by
  intro pins s σ H D I h
  obtain ⟨W, ⟨m0, w0⟩, turn⟩ := h
  refine wpAny_While (codeAny_whileLoop (fun n s' => ∃ σ' H', Inv X pins σ' H' s' ∧ W n σ' H') ?_ m0 ⟨σ, H, I, w0⟩)
  rintro n s1 ⟨σ1, H1, I1, w1⟩
  refine wpAny_passesOwn hp (thn (hc pins s1 σ1 H1 _ I1 (turn n σ1 H1 w1)) fun b s2 ⟨H2, I2, q2⟩ => ?_)
  cases b with
  | true =>
    obtain ⟨N, hN, q2⟩ := q2
    rw [if_pos rfl]
    refine wpAny_passesOwn hp (thn (hb pins s2 σ1 H2 _ I2 q2) fun f s3 q3 => ?_)
    cases f with
    | next =>
      obtain ⟨σ3, H3, I3, n3⟩ := q3
      obtain ⟨m', hm, w3⟩ := hN σ3 H3 n3
      exact ⟨m', hm, σ3, H3, I3, w3⟩
    | cont =>
      obtain ⟨σ3, H3, I3, n3⟩ := q3
      obtain ⟨m', hm, w3⟩ := hN σ3 H3 n3
      exact ⟨m', hm, σ3, H3, I3, w3⟩
    | brk => exact q3
    | ret v => exact q3
  | false =>
    rw [if_neg Bool.false_ne_true]
    exact wpAny_execs_nil ⟨σ1, H2, I2, q2⟩
end
/-- at turn i: it yields x (the heap may grow), or it stops -/
structure It where
  go : Nat → Hp → Prop
  yld : Nat → Hp → V → Hp → Prop
  stop : Nat → Hp → Prop
/-- the iterator's own objects may turn: they are not the frame's, not pinned, younger than the entry (or a comprehension's own) -/
def FpOk (X : Cx) (pins : List (Addr × Obj)) (H : Hp) (b : Addr) : Prop :=
  H b = none ∧ b ≠ X.env.locals ∧ b ∉ X.fs ∧ (b ∈ X.ex ∨ X.s_0.heap.objs.size ≤ b) ∧ (∀ x c, X.env.cells.lookup x = some c → c ≠ b) ∧ ∀ p ∈ X.pn ++ pins, p.1 ≠ b
theorem Inv.fpOk {X : Cx} {pins : List (Addr × Obj)} {σ : St} {H H' : Hp} {s : Shared} {b : Addr} (I : Inv X pins σ H s) (hb : s.heap.objs.size ≤ b) (hn : H' b = none) : FpOk X pins H' b := by
  refine ⟨hn, Nat.ne_of_gt (Nat.lt_of_lt_of_le I.lt hb), I.nofs hb, .inr (Nat.le_trans I.sz hb), fun x c e z => ?_, fun p hp z => ?_⟩
  · obtain ⟨v, q⟩ := I.cell x c e
    exact absurd (Nat.lt_of_lt_of_le q.lt (by rw [z]; exact hb)) (Nat.lt_irrefl _)
  · exact absurd (Nat.lt_of_lt_of_le (Heap.lt_size (I.pin p hp).1) (by rw [z]; exact hb)) (Nat.lt_irrefl _)
structure Turn (P : Program) (w : World) (K : PySem.W.Frag) (tg : Expr) (J : It) (fp : List Addr) (it : Addr) (tn : Nat → Heap → Prop) : Prop where
  mem : it ∈ fp
  obj : ∀ i h, tn i h → ∀ b ∈ fp, ∃ o, h.get? b = some o ∧ ∀ v, o.data ≠ .cell v
  keep : ∀ i h h', tn i h → (∀ b ∈ fp, ∀ o, h.get? b = some o → h'.get? b = some o) → tn i h'
  item : ∀ (X : Cx), X.prog = P → X.w = w → X.K = K → X.calm = true → ∀ (i : Nat) (pins : List (Addr × Obj)) (s : Shared) (σ : St) (H : Hp) (E : Value → Shared → Prop), Inv X pins σ H s → (∀ b ∈ fp, FpOk X pins H b) → tn i s.heap → J.go i H →
    wpAny (model P w) X.A (pyNext (.ref it)) (fun r s1 => ∃ u, r = some u ∧
      wpAny (model P w) X.A (letOwnedTupleGo tg (.ref it) u) (fun _ s2 => ∃ x H', Inv X pins σ H' s2 ∧ RelV x u ∧ J.yld i H x H' ∧ tn (i + 1) s2.heap ∧ ∀ b ∈ fp, H' b = none) E s1) E s
  done : ∀ (X : Cx), X.prog = P → X.w = w → X.K = K → X.calm = true → ∀ (i : Nat) (pins : List (Addr × Obj)) (s : Shared) (σ : St) (H : Hp) (E : Value → Shared → Prop), Inv X pins σ H s → (∀ b ∈ fp, FpOk X pins H b) → tn i s.heap → J.stop i H →
    wpAny (model P w) X.A (pyNext (.ref it)) (fun r s1 => r = none ∧ Inv X pins σ H s1) E s
  self : ∀ (A : Around) (i : Nat) (s : Shared) (Q : Value → Shared → Prop) (E : Value → Shared → Prop), tn i s.heap → Q (.ref it) s → wpAny (model P w) A (pyIter (.ref it)) Q E s
abbrev TI := St → Hp → (It → Hp → Prop) → Prop
/-- an iterator has come -/
def PIE (X : Cx) (pins : List (Addr × Obj)) (σ : St) (tg : Expr) (R : It → Hp → Prop) (itv : Value) (s2 : Shared) : Prop :=
  ∃ (it : Addr) (fp : List Addr) (tn : Nat → Heap → Prop) (J : It) (H' : Hp), itv = .ref it ∧ Inv X pins σ H' s2 ∧ Turn X.prog X.w X.K tg J fp it tn ∧ tn 0 s2.heap ∧ (∀ b ∈ fp, FpOk X pins H' b) ∧ R J H'
def PI (X : Cx) (tg iter : Expr) (wi : TI) : Prop :=
  ∀ (pins : List (Addr × Obj)) (s : Shared) (σ : St) (H : Hp) (R : It → Hp → Prop), Inv X pins σ H s → wi σ H R →
    wpAny (model X.prog X.w) X.A (eval iter X.env) (fun v s1 => wpAny (model X.prog X.w) X.A (pyIter v) (PIE X pins σ tg R) X.xe s1) X.xe s
/-- the step ahead of the store is nothing for an iterator that keeps no tuple -/
theorem go_of {M : Model} {A : Around} {E : Value → Shared → Prop} {s : Shared} {tg : Expr} {it : Addr} {u : Value} {o : Obj} {n : String} {vs : Array Value} {Q : Unit → Shared → Prop} (ho : s.heap.get? it = some o) (hc : o.cls = .type n) (hd : o.data = .fields vs)
    (hn : ["enumerate", "zip", "dict_itemiterator", "dict_reverseitemiterator", "odict_iterator", "itertools.zip_longest", "itertools.pairwise"].contains n = false) (hQ : Q () s) : wpAny M A (letOwnedTupleGo tg (.ref it) u) Q E s := by
  unfold letOwnedTupleGo
  cases tg <;> first
    | exact wpAny_pure hQ
    | (cases u <;> first
        | exact wpAny_pure hQ
        | (refine wpAny_bind (wpAny_load ho ?_)
           rw [hc, hd]
           show wpAny M A (if (["enumerate", "zip", "dict_itemiterator", "dict_reverseitemiterator", "odict_iterator", "itertools.zip_longest", "itertools.pairwise"].contains n && vs[0]? == some (rawInt _)) = true then _ else _) Q E s
           rw [if_neg (by intro h; rw [hn, Bool.false_and] at h; cases h)]
           exact wpAny_pure hQ))
/-- the list at a, as it stands at each turn (a loop may append to it) -/
def Itl (K : PySem.W.Frag) (a : Addr) : It :=
  ⟨fun i H => ∃ xs x, SqL K H a xs ∧ xs[i]? = some x, fun i H x H' => H' = H ∧ ∀ xs, SqL K H a xs → xs[i]? = some x, fun i H => ∃ xs, SqL K H a xs ∧ xs.length ≤ i⟩
def Itt (K : PySem.W.Frag) (a : Addr) : It :=
  ⟨fun i H => ∃ xs x, SqT K H a xs ∧ xs[i]? = some x, fun i H x H' => H' = H ∧ ∀ xs, SqT K H a xs → xs[i]? = some x, fun i H => ∃ xs, SqT K H a xs ∧ xs.length ≤ i⟩
/-- lo, lo + 1, .. (n of them) -/
def Itr (lo : Int) (n : Nat) : It := ⟨fun i _ => i < n, fun i H x H' => H' = H ∧ x = .int (lo + i), fun i _ => n ≤ i⟩
theorem turn_list {P : Program} {w : World} {K : PySem.W.Frag} {tg : Expr} (a it : Addr) : Turn P w K tg (Itl K a) [it] it (fun i h => h.IsListIter it a i) where
  mem := by simp
  obj := fun i h st b hb => by
    have e : b = it := by simpa using hb
    subst e
    obtain ⟨o, e, c, d⟩ := st
    exact ⟨o, e, fun v z => by rw [d] at z; cases z⟩
  keep := fun i h h' st k => st.at fun o e => k it (by simp) o e
  item := by
    intro X hP hw hK hc i pins s σ H E I hf st hg
    subst hP hw hK
    obtain ⟨xs, x, hq, hx⟩ := hg
    obtain ⟨its, rv, p, hz⟩ := I.list hq
    obtain ⟨u, hu, ru⟩ := rv.get hx
    obtain ⟨f0, f1, f2, f3, f4, f5⟩ := hf it (by simp)
    refine wpAny_pyNext_list_item st p.isList (x := u) (by simpa using hu) fun h' st' sb => ?_
    have I1 : Inv X pins σ H { s with heap := h' } := I.turned (t' := s.toks) (fun b o hb e => (sb.2 b hb).trans e) f0 f1 f3 f4 f5
    obtain ⟨o, e, c, d⟩ := id st'
    exact ⟨u, rfl, go_of (s := { s with heap := h' }) e c d (by decide) ⟨x, H, I1, ru, ⟨rfl, fun ys hy => by rw [I.list_inj hy hq]; exact hx⟩, st', fun b hb => (hf b hb).1⟩⟩
  done := by
    intro X hP hw hK hc i pins s σ H E I hf st hg
    subst hP hw hK
    obtain ⟨xs, hq, hx⟩ := hg
    obtain ⟨its, rv, p, hz⟩ := I.list hq
    obtain ⟨f0, f1, f2, f3, f4, f5⟩ := hf it (by simp)
    have hl := rv.length
    exact wpAny_pyNext_list_end (I.ok.hd hc) st p.isList (by simp; omega) fun h' eb => ⟨rfl, I.turned (t' := s.toks) (fun b o hb e => eb b o hb e) f0 f1 f3 f4 f5⟩
  self := fun _ _ _ _ _ st h => wpAny_pyIter_listiter st h
theorem turn_tuple {P : Program} {w : World} {K : PySem.W.Frag} {tg : Expr} (a it : Addr) : Turn P w K tg (Itt K a) [it] it (fun i h => h.IsTupleIter it a i) where
  mem := by simp
  obj := fun i h st b hb => by
    have e : b = it := by simpa using hb
    subst e
    obtain ⟨o, e, c, d⟩ := st
    exact ⟨o, e, fun v z => by rw [d] at z; cases z⟩
  keep := fun i h h' st k => st.at fun o e => k it (by simp) o e
  item := by
    intro X hP hw hK hc i pins s σ H E I hf st hg
    subst hP hw hK
    obtain ⟨xs, x, hq, hx⟩ := hg
    obtain ⟨its, rv, p, hz⟩ := I.tuple hq
    obtain ⟨u, hu, ru⟩ := rv.get hx
    obtain ⟨f0, f1, f2, f3, f4, f5⟩ := hf it (by simp)
    refine wpAny_pyNext_tuple_item st (show s.heap.IsTuple a its.toArray from p) (x := u) (by simpa using hu) fun h' st' sb => ?_
    have I1 : Inv X pins σ H { s with heap := h' } := I.turned (t' := s.toks) (fun b o hb e => (sb.2 b hb).trans e) f0 f1 f3 f4 f5
    obtain ⟨o, e, c, d⟩ := id st'
    exact ⟨u, rfl, go_of (s := { s with heap := h' }) e c d (by decide) ⟨x, H, I1, ru, ⟨rfl, fun ys hy => by rw [I.tuple_inj hy hq]; exact hx⟩, st', fun b hb => (hf b hb).1⟩⟩
  done := by
    intro X hP hw hK hc i pins s σ H E I hf st hg
    subst hP hw hK
    obtain ⟨xs, hq, hx⟩ := hg
    obtain ⟨its, rv, p, hz⟩ := I.tuple hq
    obtain ⟨f0, f1, f2, f3, f4, f5⟩ := hf it (by simp)
    have hl := rv.length
    exact wpAny_pyNext_tuple_end (I.ok.hd hc) st (show s.heap.IsTuple a its.toArray from p) (by simp; omega) fun h' eb => ⟨rfl, I.turned (t' := s.toks) (fun b o hb e => eb b o hb e) f0 f1 f3 f4 f5⟩
  self := fun _ _ _ _ _ st h => wpAny_pyIter_tupleiter st h
theorem turn_range {P : Program} {w : World} {K : PySem.W.Frag} {tg : Expr} (it : Addr) (lo : Int) (n : Nat) : Turn P w K tg (Itr lo n) [it] it (fun i h => IsRangeIter h it (lo + (i : Nat) * 1) ((n : Int) - (i : Nat)) 1) where
  mem := by simp
  obj := fun i h st b hb => by
    have e : b = it := by simpa using hb
    subst e
    exact ⟨_, st, fun v z => by
      have z' : Data.fields _ = Data.cell v := z
      cases z'⟩
  keep := fun i h h' st k => k it (by simp) _ st
  item := by
    intro X hP hw hK hc i pins s σ H E I hf st hg
    subst hP hw hK
    obtain ⟨f0, f1, f2, f3, f4, f5⟩ := hf it (by simp)
    have W := Walks.range (prog := X.prog) (w := X.w) (I.ok.hd hc) it lo 1 n
    refine W.item i s _ _ hg st fun v h' tk hv st' kk => ?_
    obtain ⟨t, rfl⟩ := hv
    have I1 : Inv X pins σ H { s with heap := h', toks := tk } := I.turned (fun b o hb e => kk b o (by simpa using hb) e) f0 f1 f3 f4 f5
    refine ⟨_, rfl, go_of (s := { s with heap := h', toks := tk }) (n := "range_iterator") st' rfl rfl (by decide) ⟨.int (lo + i), H, I1, ⟨t, ?_⟩, ⟨rfl, rfl⟩, st', fun b hb => (hf b hb).1⟩⟩
    rw [Int.mul_one]
  done := by
    intro X hP hw hK hc i pins s σ H E I hf st hg
    subst hP hw hK
    obtain ⟨f0, f1, f2, f3, f4, f5⟩ := hf it (by simp)
    exact wpAny_pyNext_range_end (I.ok.hd hc) st (by have : n ≤ i := hg; omega) fun h' eb => ⟨rfl, I.turned (t' := s.toks) (fun b o hb e => eb b o hb e) f0 f1 f3 f4 f5⟩
  self := fun _ _ _ _ _ st h => wpAny_pyIter_rangeiter st h
end L2
namespace L2
open PySem PySem.Spec PyProof.Rows
section
variable {X : Cx} {tg : Expr}
def iList (K : PySem.W.Frag) (tl : TE) : TI := fun σ H R => tl σ H fun x H1 => ∃ a, x = .ref a ∧ (∃ xs, SqL K H1 a xs) ∧ R (Itl K a) H1
def iTup (K : PySem.W.Frag) (tl : TE) : TI := fun σ H R => tl σ H fun x H1 => ∃ a, x = .ref a ∧ (∃ xs, SqT K H1 a xs) ∧ R (Itt K a) H1
theorem pi_list {l : Expr} {tl : TE} (hl : PE X l tl) : PI X tg l (iList X.K tl) := by
  intro pins s σ H R I h
  refine thn (hl pins s σ H _ I h) fun v s1 ⟨x, H1, I1, r1, q1⟩ => ?_
  obtain ⟨a, e, ⟨xs, hq⟩, q⟩ := q1
  subst e
  cases r1
  obtain ⟨its, rv, p, hz⟩ := I1.list hq
  refine wpAny_pyIter_list p.isList ?_
  refine ⟨s1.heap.objs.size, [s1.heap.objs.size], _, _, H1, rfl, I1.kept (t' := s1.toks) fun b o e => Heap.get?_push_of_some _ e, turn_list a _, ⟨_, Heap.get?_push_size _ rfl, rfl, rfl⟩, fun b hb => ?_, q⟩
  have e : b = s1.heap.objs.size := by simpa using hb
  subst e
  exact I1.fpOk (Nat.le_refl _) (I1.hok.fresh (Nat.le_refl _))
theorem pi_tup {l : Expr} {tl : TE} (hl : PE X l tl) : PI X tg l (iTup X.K tl) := by
  intro pins s σ H R I h
  refine thn (hl pins s σ H _ I h) fun v s1 ⟨x, H1, I1, r1, q1⟩ => ?_
  obtain ⟨a, e, ⟨xs, hq⟩, q⟩ := q1
  subst e
  cases r1
  obtain ⟨its, rv, p, hz⟩ := I1.tuple hq
  refine wpAny_pyIter_tuple (show s1.heap.IsTuple a its.toArray from p) ?_
  refine ⟨s1.heap.objs.size, [s1.heap.objs.size], _, _, H1, rfl, I1.kept (t' := s1.toks) fun b o e => Heap.get?_push_of_some _ e, turn_tuple a _, ⟨_, Heap.get?_push_size _ rfl, rfl, rfl⟩, fun b hb => ?_, q⟩
  have e : b = s1.heap.objs.size := by simpa using hb
  subst e
  exact I1.fpOk (Nat.le_refl _) (I1.hok.fresh (Nat.le_refl _))
/-- a range object just made, walked -/
theorem range_it {pins : List (Addr × Obj)} {σ : St} {H : Hp} {s : Shared} {R : It → Hp → Prop} {E : Value → Shared → Prop} {lo hi : Int} {t u v : Tok} {tk : Nat} (I : Inv X pins σ H s) (h1 : -(2 ^ 62) ≤ lo) (h2 : lo < 2 ^ 62) (h3 : -(2 ^ 62) ≤ hi) (h4 : hi < 2 ^ 62)
    (q : R (Itr lo (hi - lo).toNat) H) : wpAny (model X.prog X.w) X.A (pyIter (.ref s.heap.objs.size)) (PIE X pins σ tg R) E { s with heap := s.heap.push { cls := .type "range", data := .fields #[.int lo t, .int hi u, .int 1 v] }, toks := tk } := by
  refine wpAny_pyIter_range (IsRange.new ..) (small_one h1 h2 h3 h4) ?_
  have I1 : Inv X pins σ H { s with heap := s.heap.push { cls := .type "range", data := .fields #[.int lo t, .int hi u, .int 1 v] }, toks := tk } := I.kept fun b o e => Heap.get?_push_of_some _ e
  refine ⟨(s.heap.push { cls := .type "range", data := .fields #[.int lo t, .int hi u, .int 1 v] }).objs.size, [(s.heap.push { cls := .type "range", data := .fields #[.int lo t, .int hi u, .int 1 v] }).objs.size], _, _, H, rfl,
    I1.kept (t' := tk) fun b o e => Heap.get?_push_of_some _ e, turn_range _ lo (hi - lo).toNat, ?_, fun b hb => ?_, q⟩
  · have e1 : lo + ((0 : Nat) : Int) * 1 = lo := by simp
    have e2 : (((hi - lo).toNat : Nat) : Int) - ((0 : Nat) : Int) = Builtin.Range.rangeSize lo hi 1 := by rw [rangeSize_one]; split <;> omega
    show IsRangeIter _ _ (lo + ((0 : Nat) : Int) * 1) ((((hi - lo).toNat : Nat) : Int) - ((0 : Nat) : Int)) 1
    rw [e1, e2]
    exact Heap.get?_push_size _ rfl
  · have e : b = (s.heap.push { cls := .type "range", data := .fields #[.int lo t, .int hi u, .int 1 v] }).objs.size := by simpa using hb
    subst e
    exact I1.fpOk (Nat.le_refl _) (I1.hok.fresh (Nat.le_refl _))
def iRng1 (ta : TA) : TI := fun σ H R => ta σ H fun vs H1 => ∃ j : Int, vs = [.int j] ∧ -(2 ^ 62) ≤ j ∧ j < 2 ^ 62 ∧ R (Itr 0 j.toNat) H1
theorem pi_range1 {a : Expr} {ta : TA} {p pos : Pos} (hg : Gl X "range") (hm : X.mg "range" = none) (ha : PA X [a] ta) (hs : starEach [a] X.env = [(false, eval a X.env)] := by rfl) : PI X tg (.Call (.Name "range" p) [a] [] pos) (iRng1 ta) := by
  intro pins s σ H R I h
  refine Call_ (ld_blt I hg hm boot_range (PyProof.Rows.callWith_type1 (thn (ha pos pins s σ H _ I h) fun us s1 ⟨vs, H1, I1, r1, q1⟩ => ?_) hs rfl))
  obtain ⟨j, e, q1, q2, q⟩ := q1
  subst e
  cases r1 with
  | cons r rr =>
    cases rr
    obtain ⟨t, rfl⟩ := r
    exact call_range_1 (range_it I1 (by omega) (by omega) q1 q2 (by simpa using q))
/-- W: the invariant by the turn and a measure; N: what the body is to reach -/
def tFor (wi : TI) (g : TG) (tb : TS) : TS := fun D σ H => wi σ H fun J H1 => ∃ W : Nat → Nat → St → Hp → Prop, (∃ m, W 0 m σ H1) ∧ ∀ i m σ H, W i m σ H →
  (J.stop i H ∧ D.nx σ H) ∨ (J.go i H ∧ ∃ N : St → Hp → Prop, (∀ σ' H', N σ' H' → ∃ m', m' < m ∧ W (i + 1) m' σ' H') ∧ ∀ x H', J.yld i H x H' → g x σ H' fun σ2 H2 => tb { D with nx := N, ct := N, bk := D.nx } σ2 H2)
/-- the records at fp as they stand -/
def pinsAt (fp : List Addr) (h : Heap) : List (Addr × Obj) := fp.filterMap fun b => (h.get? b).map fun o => (b, o)
theorem mem_pinsAt {fp : List Addr} {h : Heap} {b : Addr} {o : Obj} (hb : b ∈ fp) (e : h.get? b = some o) : (b, o) ∈ pinsAt fp h := List.mem_filterMap.mpr ⟨b, hb, by rw [e]; rfl⟩
theorem of_pinsAt {fp : List Addr} {h : Heap} {p : Addr × Obj} (hp : p ∈ pinsAt fp h) : p.1 ∈ fp ∧ h.get? p.1 = some p.2 := by
  obtain ⟨b, hb, e⟩ := List.mem_filterMap.mp hp
  cases q : h.get? b with
  | none => rw [q] at e; cases e
  | some o =>
    rw [q] at e
    have e' : (b, o) = p := Option.some.inj e
    subst e'
    exact ⟨hb, q⟩
theorem Inv.pinned {pins : List (Addr × Obj)} {σ : St} {H : Hp} {s : Shared} {fp : List Addr} (I : Inv X pins σ H s) (hf : ∀ b ∈ fp, FpOk X pins H b) (ho : ∀ b ∈ fp, ∃ o, s.heap.get? b = some o ∧ ∀ v, o.data ≠ .cell v) : Inv X (pins ++ pinsAt fp s.heap) σ H s :=
  I.pins_of fun p hp => (List.mem_append.mp hp).elim (fun z => I.pin p (List.mem_append_right _ z)) fun z => by
    obtain ⟨hb, e⟩ := of_pinsAt z
    obtain ⟨f0, f1, f2, _⟩ := hf p.1 hb
    obtain ⟨o, e', d⟩ := ho p.1 hb
    rw [e] at e'; cases e'
    exact ⟨e, f0, f1, f2, d⟩
theorem Inv.unpinned {pins pl : List (Addr × Obj)} {σ : St} {H : Hp} {s : Shared} (I : Inv X (pins ++ pl) σ H s) : Inv X pins σ H s := I.pins_of fun p hp => I.pin p (List.mem_append_right _ (List.mem_append_left _ hp))
theorem ps_for {iter : Expr} {body : List Stmt} {wi : TI} {g : TG} {tb : TS} {pos : Pos} (hp : PassesOwn (model X.prog X.w) X.A X.env X.xe) (hc : X.calm = true) (hi : PI X tg iter wi) (hg : PG X tg g) (hb : PSs X body tb)
    (hs : ∀ x, foldedSetIterable iter X.env x = pure x := by intro _; rfl) : PS X (.For tg iter body [] pos) (tFor wi g tb) := by
  intro pins s σ H D I h
  refine wpAny_For (thn (hi pins s σ H _ I h) fun v s1 h1 => thn h1 fun itv s2 h2 => ?_) hs
  obtain ⟨it, fp, tn, J, H2, e, I2, T, st2, f2, W, ⟨m0, w0⟩, turn⟩ := h2
  subst e
  -- what stays true of the iterator's objects through the loop
  have stat : ∀ {H' : Hp}, (∀ b ∈ fp, H' b = none) → ∀ b ∈ fp, FpOk X pins H' b := fun hn b hb => ⟨hn b hb, (f2 b hb).2⟩
  refine codeAny_forLoop_any (fun n s' => ∃ i σ' H', Inv X pins σ' H' s' ∧ tn i s'.heap ∧ (∀ b ∈ fp, H' b = none) ∧ W i n σ' H') ?_ m0 ⟨0, σ, H2, I2, st2, fun b hb => (f2 b hb).1, w0⟩
  rintro n s3 ⟨i, σ3, H3, I3, st3, fr3, w3⟩
  rcases turn i n σ3 H3 w3 with ⟨stop, qn⟩ | ⟨go, N, hN, step⟩
  · refine wpAny_passesOwn hp (thn (T.done X rfl rfl rfl hc i pins s3 σ3 H3 X.xe I3 (stat fr3) st3 stop) fun r s4 ⟨hr, I4⟩ => ?_)
    subst hr
    exact wpAny_execs_nil ⟨σ3, H3, I4, qn⟩
  · refine wpAny_passesOwn hp (thn (T.item X rfl rfl rfl hc i pins s3 σ3 H3 X.xe I3 (stat fr3) st3 go) fun r s4 ⟨u, hr, h4⟩ => ?_)
    subst hr
    refine wpAny_passesOwn hp (thn h4 fun _ s5 ⟨x, H5, I5, r5, y5, st5, fr5⟩ => ?_)
    have I5' := I5.pinned (stat fr5) (T.obj _ _ st5)
    refine wpAny_passesOwn hp (thn (hg _ s5 σ3 H5 x u _ I5' r5 (step x H5 y5)) fun _ s6 ⟨σ6, H6, I6, q6⟩ => ?_)
    refine wpAny_passesOwn hp (thn (hb _ s6 σ6 H6 _ I6 q6) fun f s7 q7 => ?_)
    have again : ∀ {σ7 : St} {H7 : Hp}, Inv X (pins ++ pinsAt fp s5.heap) σ7 H7 s7 → N σ7 H7 → ∃ m, m < n ∧ ∃ i σ' H', Inv X pins σ' H' s7 ∧ tn i s7.heap ∧ (∀ b ∈ fp, H' b = none) ∧ W i m σ' H' := fun {σ7 H7} I7 n7 => by
      obtain ⟨m', hm, w7⟩ := hN σ7 H7 n7
      refine ⟨m', hm, i + 1, σ7, H7, I7.unpinned, T.keep _ _ _ st5 fun b hb o e => (I7.pin (b, o) (List.mem_append_right _ (List.mem_append_right _ (mem_pinsAt hb e)))).1, fun b hb => ?_, w7⟩
      obtain ⟨o, e, d⟩ := T.obj _ _ st5 b hb
      exact (I7.pin (b, o) (List.mem_append_right _ (List.mem_append_right _ (mem_pinsAt hb e)))).2.1
    cases f with
    | next => obtain ⟨σ7, H7, I7, n7⟩ := q7; exact again I7 n7
    | cont => obtain ⟨σ7, H7, I7, n7⟩ := q7; exact again I7 n7
    | brk => obtain ⟨σ7, H7, I7, q7⟩ := q7; exact ⟨σ7, H7, I7.unpinned, q7⟩
    | ret v => obtain ⟨x7, σ7, H7, I7, r7, q7⟩ := q7; exact ⟨x7, σ7, H7, I7.unpinned, r7, q7⟩
end
/-- over a list that the body leaves as it is -/
theorem for_list {K : PySem.W.Frag} {a : Addr} {xs : List V} {g : TG} {tb : TS} {D : Ends} {σ : St} {H : Hp} (Pv : Nat → St → Hp → Prop) (h0 : Pv 0 σ H) (hl : ∀ i σ H, i ≤ xs.length → Pv i σ H → SqL K H a xs)
    (hs : ∀ i x σ H, xs[i]? = some x → Pv i σ H → g x σ H fun σ2 H2 => tb { D with nx := Pv (i + 1), ct := Pv (i + 1), bk := D.nx } σ2 H2) (hd : ∀ σ H, Pv xs.length σ H → D.nx σ H) :
    ∃ W : Nat → Nat → St → Hp → Prop, (∃ m, W 0 m σ H) ∧ ∀ i m σ H, W i m σ H →
      ((Itl K a).stop i H ∧ D.nx σ H) ∨ ((Itl K a).go i H ∧ ∃ N : St → Hp → Prop, (∀ σ' H', N σ' H' → ∃ m', m' < m ∧ W (i + 1) m' σ' H') ∧ ∀ x H', (Itl K a).yld i H x H' → g x σ H' fun σ2 H2 => tb { D with nx := N, ct := N, bk := D.nx } σ2 H2) := by
  refine ⟨fun i m σ H => m = xs.length - i ∧ i ≤ xs.length ∧ Pv i σ H, ⟨xs.length, by simp, Nat.zero_le _, h0⟩, ?_⟩
  rintro i m σ H ⟨rfl, hi, p⟩
  have q := hl i σ H hi p
  by_cases hlt : i < xs.length
  · refine .inr ⟨⟨xs, xs[i], q, by simp [hlt]⟩, Pv (i + 1), fun σ' H' p' => ⟨xs.length - (i + 1), by omega, rfl, hlt, p'⟩, fun x H' y => ?_⟩
    obtain ⟨e, y⟩ := y
    subst e
    exact hs i x σ _ (y xs q) p
  · have e : i = xs.length := by omega
    subst e
    exact .inl ⟨⟨xs, q, Nat.le_refl _⟩, hd σ H p⟩
theorem for_tup {K : PySem.W.Frag} {a : Addr} {xs : List V} {g : TG} {tb : TS} {D : Ends} {σ : St} {H : Hp} (Pv : Nat → St → Hp → Prop) (h0 : Pv 0 σ H) (hl : ∀ i σ H, i ≤ xs.length → Pv i σ H → SqT K H a xs)
    (hs : ∀ i x σ H, xs[i]? = some x → Pv i σ H → g x σ H fun σ2 H2 => tb { D with nx := Pv (i + 1), ct := Pv (i + 1), bk := D.nx } σ2 H2) (hd : ∀ σ H, Pv xs.length σ H → D.nx σ H) :
    ∃ W : Nat → Nat → St → Hp → Prop, (∃ m, W 0 m σ H) ∧ ∀ i m σ H, W i m σ H →
      ((Itt K a).stop i H ∧ D.nx σ H) ∨ ((Itt K a).go i H ∧ ∃ N : St → Hp → Prop, (∀ σ' H', N σ' H' → ∃ m', m' < m ∧ W (i + 1) m' σ' H') ∧ ∀ x H', (Itt K a).yld i H x H' → g x σ H' fun σ2 H2 => tb { D with nx := N, ct := N, bk := D.nx } σ2 H2) := by
  refine ⟨fun i m σ H => m = xs.length - i ∧ i ≤ xs.length ∧ Pv i σ H, ⟨xs.length, by simp, Nat.zero_le _, h0⟩, ?_⟩
  rintro i m σ H ⟨rfl, hi, p⟩
  have q := hl i σ H hi p
  by_cases hlt : i < xs.length
  · refine .inr ⟨⟨xs, xs[i], q, by simp [hlt]⟩, Pv (i + 1), fun σ' H' p' => ⟨xs.length - (i + 1), by omega, rfl, hlt, p'⟩, fun x H' y => ?_⟩
    obtain ⟨e, y⟩ := y
    subst e
    exact hs i x σ _ (y xs q) p
  · have e : i = xs.length := by omega
    subst e
    exact .inl ⟨⟨xs, q, Nat.le_refl _⟩, hd σ H p⟩
theorem for_range {lo : Int} {n : Nat} {g : TG} {tb : TS} {D : Ends} {σ : St} {H : Hp} (Pv : Nat → St → Hp → Prop) (h0 : Pv 0 σ H)
    (hs : ∀ i σ H, i < n → Pv i σ H → g (.int (lo + i)) σ H fun σ2 H2 => tb { D with nx := Pv (i + 1), ct := Pv (i + 1), bk := D.nx } σ2 H2) (hd : ∀ σ H, Pv n σ H → D.nx σ H) :
    ∃ W : Nat → Nat → St → Hp → Prop, (∃ m, W 0 m σ H) ∧ ∀ i m σ H, W i m σ H →
      ((Itr lo n).stop i H ∧ D.nx σ H) ∨ ((Itr lo n).go i H ∧ ∃ N : St → Hp → Prop, (∀ σ' H', N σ' H' → ∃ m', m' < m ∧ W (i + 1) m' σ' H') ∧ ∀ x H', (Itr lo n).yld i H x H' → g x σ H' fun σ2 H2 => tb { D with nx := N, ct := N, bk := D.nx } σ2 H2) := by
  refine ⟨fun i m σ H => m = n - i ∧ i ≤ n ∧ Pv i σ H, ⟨n, by simp, Nat.zero_le _, h0⟩, ?_⟩
  rintro i m σ H ⟨rfl, hi, p⟩
  by_cases hlt : i < n
  · refine .inr ⟨hlt, Pv (i + 1), fun σ' H' p' => ⟨n - (i + 1), by omega, rfl, hlt, p'⟩, fun x H' y => ?_⟩
    obtain ⟨e, y⟩ := y
    subst e y
    exact hs i σ _ hlt p
  · have e : i = n := by omega
    subst e
    exact .inl ⟨Nat.le_refl _, hd σ H p⟩
end L2
namespace L2
open PySem PySem.Spec PyProof.Rows
abbrev R2 := V → V → Hp → VK → Prop
/-- a two-place operation on values: f is binaryOp op, inplaceOp op or compareOp op -/
def OpR (X : Cx) (f : Value → Value → Sem Value) (r : R2) : Prop :=
  ∀ (pins : List (Addr × Obj)) (s : Shared) (σ : St) (H : Hp) (x y : V) (v u : Value) (Q : VK), Inv X pins σ H s → RelV x v → RelV y u → r x y H Q →
    wpAny (model X.prog X.w) X.A (f v u) (EP X pins σ Q) X.xe s
/-- a one-place operation -/
def UnR (X : Cx) (f : Value → Sem Value) (r : V → Hp → VK → Prop) : Prop :=
  ∀ (pins : List (Addr × Obj)) (s : Shared) (σ : St) (H : Hp) (x : V) (v : Value) (Q : VK), Inv X pins σ H s → RelV x v → r x H Q →
    wpAny (model X.prog X.w) X.A (f v) (EP X pins σ Q) X.xe s
/-- a call of a value that is known (a builtin, a type) with values -/
def CallR (X : Cx) (f : Value) (r : List V → Hp → VK → Prop) : Prop :=
  ∀ (pins : List (Addr × Obj)) (s : Shared) (σ : St) (H : Hp) (xs : List V) (us : List Value) (Q : VK), Inv X pins σ H s → Vals xs us → r xs H Q →
    wpAny (model X.prog X.w) X.A (call f us) (EP X pins σ Q) X.xe s
def tOp (r : R2) (ta tb : TE) : TE := fun σ H Q => ta σ H fun x H1 => tb σ H1 fun y H2 => r x y H2 Q
def tUn (r : V → Hp → VK → Prop) (ta : TE) : TE := fun σ H Q => ta σ H fun x H1 => r x H1 Q
/-- ints in, under C, and a value out -/
def rI (C : Int → Int → Prop) (g : Int → Int → V) : R2 := fun x y H Q => ∃ i j, x = .int i ∧ y = .int j ∧ C i j ∧ Q (g i j) H
def rI0 (g : Int → Int → V) : R2 := fun x y H Q => ∃ i j, x = .int i ∧ y = .int j ∧ Q (g i j) H
def rU (g : Int → V) : V → Hp → VK → Prop := fun x H Q => ∃ i, x = .int i ∧ Q (g i) H
section
variable {X : Cx} {a b c : Expr} {ta tb tc : TE} {pos : Pos}
theorem binT (ha : PE X a ta) (hb : PE X b tb) {pins : List (Addr × Obj)} {s : Shared} {σ : St} {H : Hp} {R : V → V → Hp → Prop} (I : Inv X pins σ H s)
    (h : ta σ H fun x H1 => tb σ H1 fun y H2 => R x y H2) {Q : Value → Shared → Prop} {f : Value → Value → Sem Value}
    (hf : ∀ v u s2 x y H2, Inv X pins σ H2 s2 → RelV x v → RelV y u → R x y H2 → wpAny (model X.prog X.w) X.A (f v u) Q X.xe s2) :
    wpAny (model X.prog X.w) X.A (eval a X.env) (fun v s₁ => wpAny (model X.prog X.w) X.A (eval b X.env) (fun u s₂ => wpAny (model X.prog X.w) X.A (f v u) Q X.xe s₂) X.xe s₁) X.xe s := by
  refine thn (ha pins s σ H _ I h) fun v s1 ⟨x, H1, I1, r1, q1⟩ => ?_
  refine thn (hb pins s1 σ H1 _ I1 q1) fun u s2 ⟨y, H2, I2, r2, q2⟩ => ?_
  exact hf v u s2 x y H2 I2 r1 r2 q2
theorem pe_op {op : Operator} {r : R2} (ho : OpR X (binaryOp op) r) (ha : PE X a ta) (hb : PE X b tb) : PE X (.BinOp a op b pos) (tOp r ta tb) := by
  intro pins s σ H Q I h
  exact wpAny_BinOp (binT ha hb I h fun v u s2 x y H2 I2 rx ry q => ho pins s2 σ H2 x y v u Q I2 rx ry q)
theorem pe_un {op : UnaryOp} {r : V → Hp → VK → Prop} (ho : UnR X (unaryOp op) r) (ha : PE X a ta) : PE X (.UnaryOp op a pos) (tUn r ta) := by
  intro pins s σ H Q I h
  exact UnaryOp_ (thn (ha pins s σ H _ I h) fun v s1 ⟨x, H1, I1, r1, q1⟩ => ho pins s1 σ H1 x v Q I1 r1 q1)
theorem opI {f : Value → Value → Sem Value} {C : Int → Int → Prop} {g : Int → Int → Int}
    (rule : ∀ (i j : Int) (t u : Tok) (s : Shared) (Q : Value → Shared → Prop) (E : Value → Shared → Prop), C i j → Q (.int (g i j) s.toks) { s with toks := s.toks + 1 } → wpAny (model X.prog X.w) X.A (f (.int i t) (.int j u)) Q E s) :
    OpR X f (rI C fun i j => .int (g i j)) := by
  intro pins s σ H x y v u Q I rx ry h
  obtain ⟨i, j, rfl, rfl, hc, q⟩ := h
  obtain ⟨t, rfl⟩ := rx
  obtain ⟨t', rfl⟩ := ry
  exact rule i j t t' s _ _ hc ⟨.int (g i j), H, I.tok _, ⟨_, rfl⟩, q⟩
theorem opI0 {f : Value → Value → Sem Value} {g : Int → Int → Int}
    (rule : ∀ (i j : Int) (t u : Tok) (s : Shared) (Q : Value → Shared → Prop) (E : Value → Shared → Prop), Q (.int (g i j) s.toks) { s with toks := s.toks + 1 } → wpAny (model X.prog X.w) X.A (f (.int i t) (.int j u)) Q E s) :
    OpR X f (rI0 fun i j => .int (g i j)) := by
  intro pins s σ H x y v u Q I rx ry h
  obtain ⟨i, j, rfl, rfl, q⟩ := h
  obtain ⟨t, rfl⟩ := rx
  obtain ⟨t', rfl⟩ := ry
  exact rule i j t t' s _ _ ⟨.int (g i j), H, I.tok _, ⟨_, rfl⟩, q⟩
theorem opB0 {f : Value → Value → Sem Value} {g : Int → Int → Bool}
    (rule : ∀ (i j : Int) (t u : Tok) (s : Shared) (Q : Value → Shared → Prop) (E : Value → Shared → Prop), Q (.bool (g i j)) s → wpAny (model X.prog X.w) X.A (f (.int i t) (.int j u)) Q E s) :
    OpR X f (rI0 fun i j => .bl (g i j)) := by
  intro pins s σ H x y v u Q I rx ry h
  obtain ⟨i, j, rfl, rfl, q⟩ := h
  obtain ⟨t, rfl⟩ := rx
  obtain ⟨t', rfl⟩ := ry
  exact rule i j t t' s _ _ ⟨.bl (g i j), H, I, rfl, q⟩
def CDiv (i j : Int) : Prop := 0 < j ∧ j < 1073741824
def CMul (i j : Int) : Prop := (-(2 ^ 64) < i ∧ i < 2 ^ 64) ∨ (-(2 ^ 64) < j ∧ j < 2 ^ 64)
theorem CMul.ok {i j : Int} (h : CMul i j) : IntMulOk i j := by
  rcases h with ⟨h1, h2⟩ | ⟨h1, h2⟩
  · exact .of_left (intBits_le_64 h1 h2)
  · exact .of_right (intBits_le_64 h1 h2)
theorem op_add : OpR X (binaryOp .Add) (rI0 fun i j => .int (i + j)) := opI0 fun _ _ _ _ _ _ _ q => add_int q
theorem op_sub : OpR X (binaryOp .Sub) (rI0 fun i j => .int (i - j)) := opI0 fun _ _ _ _ _ _ _ q => sub_int q
theorem op_mul : OpR X (binaryOp .Mult) (rI CMul fun i j => .int (i * j)) := opI fun _ _ _ _ _ _ _ hc q => mul_int q hc.ok
/-- // by a positive divisor -/
theorem op_fdiv : OpR X (binaryOp .FloorDiv) (rI CDiv fun i j => .int (i / j)) := opI fun i j _ _ _ _ _ hc q => by
  have h1 : (0 : Int) < j := hc.1
  have h2 : j < 1073741824 := hc.2
  exact floordiv_int (by omega) (by rw [Int.fdiv_eq_ediv_of_nonneg i (by omega)]; exact q) (.inl (PyProof.noPylong_small (by omega)))
/-- % by a positive divisor of any size -/
theorem op_mod : OpR X (binaryOp .Mod) (rI (fun _ j => 0 < j) fun i j => .int (i % j)) := opI fun i j _ _ _ _ _ hc q => by
  have h1 : (0 : Int) < j := hc
  exact mod_int' (by omega) (by rw [Int.fmod_eq_emod_of_nonneg i (by omega)]; exact q)
theorem unI {f : Value → Sem Value} {g : Int → Int}
    (rule : ∀ (i : Int) (t : Tok) (s : Shared) (Q : Value → Shared → Prop) (E : Value → Shared → Prop), Q (.int (g i) s.toks) { s with toks := s.toks + 1 } → wpAny (model X.prog X.w) X.A (f (.int i t)) Q E s) :
    UnR X f (rU fun i => .int (g i)) := by
  intro pins s σ H x v Q I rx h
  obtain ⟨i, rfl, q⟩ := h
  obtain ⟨t, rfl⟩ := rx
  exact rule i t s _ _ ⟨.int (g i), H, I.tok _, ⟨_, rfl⟩, q⟩
theorem un_neg : UnR X (unaryOp .USub) (rU fun i => .int (-i)) := unI fun _ _ _ _ _ q => neg_int q
end
/-- the scalars that == tells apart as data does -/
def scal : V → V → Bool
  | .non, .non => true | .non, .int _ => true | .int _, .non => true | .non, .bl _ => true | .bl _, .non => true | .non, .str _ => true | .str _, .non => true
  | .int _, .int _ => true | .bl _, .bl _ => true | .str _, .str _ => true | .byt _, .byt _ => true
  | .int _, .str _ => true | .str _, .int _ => true | .bl _, .str _ => true | .str _, .bl _ => true
  | _, _ => false
def rEq : R2 := fun x y H Q => scal x y = true ∧ Q (.bl (decide (x = y))) H
theorem dec_int {i j : Int} : decide (V.int i = V.int j) = (i == j) := by
  rw [Bool.eq_iff_iff]
  simp
theorem dec_bl {i j : Bool} : decide (V.bl i = V.bl j) = (i == j) := by
  rw [Bool.eq_iff_iff]
  simp
theorem dec_str {i j : Str} : decide (V.str i = V.str j) = (i == j) := by
  rw [Bool.eq_iff_iff]
  simp
theorem dec_byt {i j : Array UInt8} : decide (V.byt i = V.byt j) = (i.toList == j.toList) := by
  rw [Bool.eq_iff_iff]
  cases i
  cases j
  simp
section
variable {X : Cx} {a b c : Expr} {ta tb tc : TE} {pos : Pos}
theorem fin_bl {pins : List (Addr × Obj)} {σ : St} {H : Hp} {s : Shared} {Q : VK} {k k' : Bool} (I : Inv X pins σ H s) (q : Q (.bl k) H) (e : k = k') : EP X pins σ Q (.bool k') s := by
  subst e
  exact ⟨.bl k, H, I, rfl, q⟩
theorem op_eq : OpR X (compareOp .Eq) rEq := by
  intro pins s σ H x y v u Q I rx ry h
  obtain ⟨hs, q⟩ := h
  cases x with
  | non =>
    cases rx
    cases y with
    | non => cases ry; exact PySem.EqNone.eq_none_none (fin_bl I q (by simp))
    | bl j => cases ry; exact PySem.EqNone.eq_none_bool (fin_bl I q (by simp))
    | int j => obtain ⟨t', rfl⟩ := ry; exact PySem.EqNone.eq_none_int (fin_bl I q (by simp))
    | str j => obtain ⟨t', rfl⟩ := ry; exact PySem.EqNone.eq_none_str (fin_bl I q (by simp))
    | _ => exact absurd (show false = true from hs) Bool.false_ne_true
  | bl i =>
    cases rx
    cases y with
    | non => cases ry; exact PySem.EqNone.eq_bool_none (fin_bl I q (by simp))
    | bl j => cases ry; exact eq_bool (fin_bl I q dec_bl)
    | str j => obtain ⟨t', rfl⟩ := ry; exact PySem.EqMixed.eq_bool_str (fin_bl I q (by simp))
    | _ => exact absurd (show false = true from hs) Bool.false_ne_true
  | int i =>
    obtain ⟨t, rfl⟩ := rx
    cases y with
    | non => cases ry; exact PySem.EqNone.eq_int_none (fin_bl I q (by simp))
    | int j => obtain ⟨t', rfl⟩ := ry; exact eq_int (fin_bl I q dec_int)
    | str j => obtain ⟨t', rfl⟩ := ry; exact PySem.EqMixed.eq_int_str (fin_bl I q (by simp))
    | _ => exact absurd (show false = true from hs) Bool.false_ne_true
  | str i =>
    obtain ⟨t, rfl⟩ := rx
    cases y with
    | non => cases ry; exact PySem.EqNone.eq_str_none (fin_bl I q (by simp))
    | bl j => cases ry; exact PySem.EqMixed.eq_str_bool (fin_bl I q (by simp))
    | int j => obtain ⟨t', rfl⟩ := ry; exact PySem.EqMixed.eq_str_int (fin_bl I q (by simp))
    | str j => obtain ⟨t', rfl⟩ := ry; exact eq_str (fin_bl I q dec_str)
    | _ => exact absurd (show false = true from hs) Bool.false_ne_true
  | byt i =>
    obtain ⟨t, rfl⟩ := rx
    cases y with
    | byt j => obtain ⟨t', rfl⟩ := ry; exact PySem.W.eq_bytes (fin_bl I q dec_byt)
    | _ => exact absurd (show false = true from hs) Bool.false_ne_true
  | _ => cases y <;> exact absurd (show false = true from hs) Bool.false_ne_true
theorem op_lt : OpR X (compareOp .Lt) (rI0 fun i j => .bl (decide (i < j))) := opB0 fun _ _ _ _ _ _ _ q => lt_int q
theorem op_le : OpR X (compareOp .LtE) (rI0 fun i j => .bl (decide (i ≤ j))) := opB0 fun _ _ _ _ _ _ _ q => le_int q
theorem op_gt : OpR X (compareOp .Gt) (rI0 fun i j => .bl (decide (j < i))) := opB0 fun _ _ _ _ _ _ _ q => gt_int q
/-- two rules for one operation: by cases -/
theorem OpR.or {f : Value → Value → Sem Value} {r r' : R2} (h : OpR X f r) (h' : OpR X f r') : OpR X f (fun x y H Q => r x y H Q ∨ r' x y H Q) := by
  intro pins s σ H x y v u Q I rx ry q
  rcases q with q | q
  · exact h pins s σ H x y v u Q I rx ry q
  · exact h' pins s σ H x y v u Q I rx ry q
theorem nomark (b : Expr) {op : CmpOp} (h : op ≠ .In := by decide) (h2 : op ≠ .NotIn := by decide) : behindInMarks op b = false := by
  have e1 : (op == CmpOp.In) = false := by cases op <;> first | rfl | exact absurd rfl h
  have e2 : (op == CmpOp.NotIn) = false := by cases op <;> first | rfl | exact absurd rfl h2
  cases b <;> simp [behindInMarks, e1, e2]
/-- a comparison as a value; hm: nomark b, or (for in, not in) by with_unfolding_all rfl -/
theorem pe_cmpR {op : CmpOp} {r : R2} (ho : OpR X (compareOp op) r) (ha : PE X a ta) (hb : PE X b tb) (hm : behindInMarks op b = false) : PE X (.Compare a [op] [b] pos) (tOp r ta tb) := by
  intro pins s σ H Q I h
  exact wpAny_Compare1 (binT ha hb I h fun v u s2 x y H2 I2 rx ry q => ho pins s2 σ H2 x y v u Q I2 rx ry q) hm
/-- a reading of a value as a test -/
def tTest (t : TE) : TT := fun σ H Q => t σ H fun x H' => ∃ k, x = .bl k ∧ Q k H'
theorem pt_cmpR {op : CmpOp} {r : R2} (ho : OpR X (compareOp op) r) (ha : PE X a ta) (hb : PE X b tb) (hm : behindInMarks op b = false) : PT X (.Compare a [op] [b] pos) (tTest (tOp r ta tb)) := by
  intro pins s σ H Q I h
  refine wpAny_isTrue_Compare1 (thn (ha pins s σ H _ I h) fun v s1 ⟨x, H1, I1, r1, q1⟩ => thn (hb pins s1 σ H1 _ I1 q1) fun u s2 ⟨y, H2, I2, r2, q2⟩ =>
    thn (ho pins s2 σ H2 x y v u _ I2 r1 r2 q2) fun c s3 ⟨z, H3, I3, r3, k, e, q3⟩ => ?_) hm
  subst e
  cases r3
  exact wpAny_truthy_bool ⟨H3, I3, q3⟩
/-- a op1 b op2 c -/
def tChain (r r' : R2) (ta tb tc : TE) : TE := fun σ H Q => ta σ H fun x H1 => tb σ H1 fun y H2 => r x y H2 fun z H3 => ∃ k, z = .bl k ∧
  (if k = true then tc σ H3 fun w' H4 => r' y w' H4 Q else Q (.bl false) H3)
theorem pe_chain {op op' : CmpOp} {r r' : R2} (ho : OpR X (compareOp op) r) (ho' : OpR X (compareOp op') r') (ha : PE X a ta) (hb : PE X b tb) (hc : PE X c tc)
    (hm : lastMarks [op, op'] [b, c] = false := by with_unfolding_all rfl) : PE X (.Compare a [op, op'] [b, c] pos) (tChain r r' ta tb tc) := by
  intro pins s σ H Q I h
  refine Compare_chain (thn (ha pins s σ H _ I h) fun v s1 ⟨x, H1, I1, r1, q1⟩ => chain_link (thn (hb pins s1 σ H1 _ I1 q1) fun u s2 ⟨y, H2, I2, r2, q2⟩ =>
    thn (ho pins s2 σ H2 x y v u _ I2 r1 r2 q2) fun d s3 ⟨z, H3, I3, r3, k, e, q3⟩ => ?_)) hm
  subst e
  cases r3
  refine wpAny_truthy_bool ?_
  cases k with
  | false => exact ite_ff ⟨.bl false, H3, I3, rfl, q3⟩
  | true => exact ite_tt (chain_last (thn (hc pins s3 σ H3 _ I3 q3) fun w' s4 ⟨z', H4, I4, r4, q4⟩ => ho' pins s4 σ H4 y z' u w' Q I4 r2 r4 q4))
theorem pt_chain {op op' : CmpOp} {r r' : R2} (ho : OpR X (compareOp op) r) (ho' : OpR X (compareOp op') r') (ha : PE X a ta) (hb : PE X b tb) (hc : PE X c tc)
    (hm : lastMarks [op, op'] [b, c] = false := by with_unfolding_all rfl) : PT X (.Compare a [op, op'] [b, c] pos) (tTest (tChain r r' ta tb tc)) := by
  intro pins s σ H Q I h
  refine isTrue_chain (thn (ha pins s σ H _ I h) fun v s1 ⟨x, H1, I1, r1, q1⟩ => test_link (thn (hb pins s1 σ H1 _ I1 q1) fun u s2 ⟨y, H2, I2, r2, q2⟩ =>
    thn (ho pins s2 σ H2 x y v u _ I2 r1 r2 q2) fun d s3 ⟨z, H3, I3, r3, k, e, q3⟩ => ?_)) hm
  subst e
  cases r3
  refine wpAny_truthy_bool ?_
  cases k with
  | false =>
    obtain ⟨k', e', q'⟩ := q3
    cases e'
    exact ite_ff ⟨H3, I3, q'⟩
  | true =>
    refine ite_tt (test_last (thn (hc pins s3 σ H3 _ I3 q3) fun w' s4 ⟨z', H4, I4, r4, q4⟩ => thn (ho' pins s4 σ H4 y z' u w' _ I4 r2 r4 q4) fun d' s5 ⟨z2, H5, I5, r5, k2, e2, q5⟩ => ?_))
    subst e2
    cases r5
    exact wpAny_truthy_bool ⟨H5, I5, q5⟩
theorem line63 : (sizeLine : Nat) < 2 ^ 63 := by rw [sizeLine_eq]; decide
theorem vals1 {x : V} {us : List Value} (r : Vals [x] us) : ∃ u, us = [u] ∧ RelV x u := by
  cases r with
  | cons r1 r2 => cases r2; exact ⟨_, rfl, r1⟩
end
end L2
namespace L2
open PySem PySem.Spec PyProof.Rows
structure ObjM (h : Heap) (x dx C : Addr) (mA : Str → Option Value) : Prop where
  obj : h.get? x = some (PySem.W.instObj C dx)
  ns : h.Ns1 dx mA
  ne : dx ≠ x
theorem lookIn_ns {h : Heap} {dx : Addr} {mA : Str → Option Value} (n : h.Ns1 dx mA) : ∃ od, h.get? dx = some od ∧ ∀ name, PySem.W.lookIn name od = some (mA name) := by
  obtain ⟨o, es, ep, ho, hd, hk, _, hm⟩ := n
  refine ⟨o, ho, fun name => ?_⟩
  have e := hm name
  unfold nsFind findBy at e
  rw [← Array.find?_toList] at e
  unfold PySem.W.lookIn
  rw [hd]
  dsimp only
  split
  · rename_i y q
    rw [q] at e
    exact congrArg some e
  · rename_i q
    rw [q] at e
    have a : es.toList.any (·.refKey) = false := by
      rw [List.any_eq_false]
      intro y hy
      obtain ⟨z, t, hkey⟩ := hk y (Array.mem_toList_iff.mp hy)
      simp [DictEntry.refKey, hkey]
    have a' : ¬ es.toList.any (·.refKey) = true := by rw [a]; exact Bool.false_ne_true
    rw [if_neg a']
    exact congrArg some e
theorem ObjM.look {h : Heap} {x dx C : Addr} {mA : Str → Option Value} (I : ObjM h x dx C mA) : ∃ od, PySem.W.InstAt h x (PySem.W.instObj C dx) C (some od) ∧ ∀ name, PySem.W.lookIn name od = some (mA name) :=
  let ⟨od, ho, hl⟩ := lookIn_ns I.ns
  ⟨od, ⟨I.obj, rfl, rfl, ho⟩, hl⟩
section
variable {prog : Program} {w : World} {A : Around} {E : Value → Shared → Prop} {s : Shared} {K : PySem.W.Frag} {x dx C f : Addr} {mA : Str → Option Value} {name : Str} {v : Value}
end
section
variable {P : Program} {w : World} {H H' : Hp} {h h' : Heap} {a C dx : Addr} {fs fs' : List (Str × V)}
end
structure Cls (K : PySem.W.Frag) (C : Addr) : Prop where
  pg : PySem.W.plainGet K C Str.empty = true
  hd : PySem.W.hasDictIn K C = true
  po : PySem.W.plainOver K C = true
  sa : PySem.W.findIn K (.ref C) "__setattr__" = some (some (.builtin "object.__setattr__"))
theorem Cls.get {K : PySem.W.Frag} {C : Addr} (c : Cls K C) (f : Str) : PySem.W.plainGet K C f = true := c.pg
section
variable {X : Cx} {pins : List (Addr × Obj)} {σ : St} {H : Hp} {s : Shared} {a C dx : Addr} {fs : List (Str × V)} {f : Str} {v : V} {A : Around} {E : Value → Shared → Prop}
/-- a new instance, tracked, without attributes -/
theorem Inv.made (I : Inv X pins σ H s) : Inv X pins σ (upd (upd H s.heap.objs.size (.own (s.heap.objs.size + 1))) (s.heap.objs.size + 1) (.ins C s.heap.objs.size []))
    { s with heap := (s.heap.push PySem.W.emptyDict).push (PySem.W.instObj C s.heap.objs.size) } := by
  have e1 : (s.heap.push PySem.W.emptyDict).get? s.heap.objs.size = some PySem.W.emptyDict := Heap.get?_push_size s.heap rfl
  have e2 : ((s.heap.push PySem.W.emptyDict).push (PySem.W.instObj C s.heap.objs.size)).get? (s.heap.objs.size + 1) = some (PySem.W.instObj C s.heap.objs.size) := by
    have := Heap.get?_push_size (s.heap.push PySem.W.emptyDict) (o := PySem.W.instObj C s.heap.objs.size) rfl
    rwa [Heap.size_push] at this
  have e3 : (s.heap.push PySem.W.emptyDict).Ns s.heap.objs.size (fun _ => none) := ⟨PySem.W.emptyDict, #[], _, e1, rfl, (fun e he => absurd he (by simp)), fun _ => rfl⟩
  have I1 := I.laid (a := s.heap.objs.size) (o := .own (s.heap.objs.size + 1)) (h' := s.heap.push PySem.W.emptyDict) (t' := s.toks) (fun b u q => Heap.get?_push_of_some _ q) (Nat.le_refl _) ⟨_, e1⟩
  refine I1.laid (a := s.heap.objs.size + 1) (o := .ins C s.heap.objs.size []) (t' := s.toks) (fun b u q => Heap.get?_push_of_some _ q) (Nat.le_of_eq (Heap.size_push _ _)) ?_
  have ne : s.heap.objs.size ≠ s.heap.objs.size + 1 := Nat.ne_of_lt (Nat.lt_succ_self _)
  refine ⟨by rw [upd_ne ne, upd_same], Nat.zero_le _, ne, e2, fun _ => none, (Heap.Ns1.of_empty e3).at fun o q => Heap.get?_push_of_some _ q, fun _ => True.intro, fun y hy => absurd rfl hy⟩
end
section
variable {X : Cx} {o e value : Expr} {f : Str} {pos pos' tpos : Pos} {ta tv : TE}
end
section
variable {X : Cx} {pins : List (Addr × Obj)} {σ : St} {H : Hp} {s : Shared} {A : Around} {E : Value → Shared → Prop} {Q : Value → Shared → Prop} {c : Value} {b : Bool}
end
end L2
namespace L2
open PySem PySem.Spec PyProof.Rows
structure Room (k : Nat) (A : Around) : Prop where
  hd : A.handled = none
  dp : A.depth + 3 * k + 5 < recursionLimit
  un : A.units + 16 * k + 200 < cLine
theorem Room.mono {j k : Nat} {A : Around} (r : Room k A) (h : j ≤ k) : Room j A := ⟨r.hd, by have := r.dp; omega, by have := r.un; omega⟩
theorem Room.deeper {k : Nat} {A : Around} (r : Room (k + 1) A) (env : Env) : Room k (A.deeper env) :=
  ⟨r.hd, by have := r.dp; show A.depth + 1 + 3 * k + 5 < _; omega, by have := r.un; show A.units + 3 + 16 * k + 200 < _; omega⟩
theorem Room.in1 {k : Nat} {A : Around} (r : Room (k + 1) A) : Room k A.in1 :=
  ⟨r.hd, by have := r.dp; show A.depth + 3 * k + 5 < _; omega, by have := r.un; show A.units + 1 + 16 * k + 200 < _; omega⟩
theorem Room.depth {k : Nat} {A : Around} (r : Room k A) : A.depth < recursionLimit := by have := r.dp; omega
theorem Room.units {k : Nat} {A : Around} (r : Room k A) : A.units + 64 < cLine := by have := r.un; omega
def tNil : TA := fun _ H Q => Q [] H
def tCons (ta : TE) (tr : TA) : TA := fun σ H Q => ta σ H fun x H1 => tr σ H1 fun xs H2 => Q (x :: xs) H2
section
variable {X : Cx} {e : Expr} {es : List Expr} {te : TE} {t : TA} {pos : Pos}
theorem pa_nil : PA X [] tNil := fun _ _ _ _ H Q I h => Calls.spliced_nil ⟨[], H, I, .nil, h⟩
theorem pa_cons (ha : PE X e te) (hr : PA X es t) (hs : starEach (e :: es) X.env = (false, eval e X.env) :: starEach es X.env := by rfl) : PA X (e :: es) (tCons te t) := by
  intro pos pins s σ H Q I h
  rw [hs]
  show wpAny _ _ (spliced ((false, eval e X.env) :: backTo pos (starEach es X.env))) _ _ s
  refine Calls.spliced_cons (thn (ha pins s σ H _ I h) fun u s1 ⟨x, H1, I1, r1, q1⟩ => ?_)
  exact thn (hr pos pins s1 σ H1 _ I1 q1) fun us s2 ⟨xs, H2, I2, r2, q2⟩ => ⟨x :: xs, H2, I2, .cons r1 r2, q2⟩
/-- a tuple, a list of written items -/
def tTup (t : TA) : TE := fun σ H Q => t σ H fun xs H1 => xs.length ≤ sizeLine ∧ ∀ p, H1 p = none → Q (.ref p) (upd H1 p (.tup xs))
def tLst (t : TA) : TE := fun σ H Q => t σ H fun xs H1 => xs.length ≤ sizeLine ∧ ∀ p, H1 p = none → Q (.ref p) (upd H1 p (.lst xs))
theorem pe_tup {x1} (h : PA X es t) : PE X (.Tuple es x1 pos) (tTup t) := by
  intro pins s σ H Q I hq
  refine wpAny_Tuple_spliced (thn (h pos pins s σ H _ I hq) fun us s1 ⟨xs, H1, I1, r, z, q⟩ => ⟨by rw [← r.length]; exact z, ?_⟩)
  have hf : H1 s1.heap.objs.size = none := I1.hok.fresh (Nat.le_refl _)
  refine ⟨.ref s1.heap.objs.size, upd H1 s1.heap.objs.size (.tup xs), I1.laid (t' := s1.toks) (fun b u e => Heap.get?_push_of_some _ e) (Nat.le_refl _) ?_, rfl, q _ hf⟩
  exact ⟨z, us, r, ⟨_, Heap.get?_push_size _ rfl, rfl, _, rfl⟩⟩
theorem pe_lst (h : PA X es t) : PE X (.List es pos) (tLst t) := by
  intro pins s σ H Q I hq
  refine wpAny_List_spliced (thn (h pos pins s σ H _ I hq) fun us s1 ⟨xs, H1, I1, r, z, q⟩ => ⟨by rw [← r.length]; exact z, ?_⟩)
  have hf : H1 s1.heap.objs.size = none := I1.hok.fresh (Nat.le_refl _)
  refine ⟨.ref s1.heap.objs.size, upd H1 s1.heap.objs.size (.lst xs), I1.laid (t' := s1.toks) (fun b u e => Heap.get?_push_of_some _ e) (Nat.le_refl _) ?_, rfl, q _ hf⟩
  exact ⟨z, us, 0, r, Heap.get?_push_size _ rfl⟩
end
/-- a def's promise: the bound arguments in the parameters' order, the heap, the wanted end, the wanted exception -/
abbrev Sp := List V → Hp → VK → XK → Prop
/-- how an exception lies behind a call (file 08 gives it): the callers' frames, abstract heap and state ahead of the call, the wish, the exception, the state -/
abbrev CXT := List Env → Hp → Shared → XK → Value → Shared → Prop
/-- the state at a call -/
structure Env0 (P : Program) (w : World) (K : PySem.W.Frag) (mg : Str → Option Value) (base : Heap) (A : Around) (outer : List Env) (s : Shared) (H : Hp) : Prop where
  frames : A.frames = some outer
  mod : Mod K mg base
  bs : ∀ b o, base.get? b = some o → s.heap.get? b = some o ∧ H b = none
  bsz : base.objs.size ≤ s.heap.objs.size
  funs : s.heap.FunFrames base outer
  frf : ∀ b ∈ frs outer, H b = none
  hok : HOk P w H s.heap
  bare : AllBare s.gens
/-- a call's end -/
def CE (outer : List Env) (P : Program) (w : World) (H : Hp) (s : Shared) (Q : VK) (u : Value) (s' : Shared) : Prop :=
  ∃ v H', s'.os = s.os ∧ AllBare s'.gens ∧ Un (frs outer) [] H H' s.heap s'.heap ∧ HOk P w H' s'.heap ∧ RelV v u ∧ Q v H'
def CR (CX : CXT) (outer : List Env) (P : Program) (w : World) (H : Hp) (s : Shared) (Q : VK) (E : XK) (r : Result) (s' : Shared) : Prop :=
  match r with
  | .ok (.ret u) => CE outer P w H s Q u s'
  | .ok _ => False
  | .error e => CX outer H s E e s'
structure FnOk (P : Program) (w : World) (K : PySem.W.Frag) (mg : Str → Option Value) (base : Heap) (CX : CXT) (k : Nat) (f : Addr) (fd : FuncData) (ps : List Str) (sp : Sp) : Prop where
  len : ∀ vs H Q E, sp vs H Q E → vs.length = ps.length
  run : ∀ (A : Around) (outer : List Env) (s : Shared) (H : Hp) (args : Args) (us : List Value) (vs : List V) (Q : VK) (E : XK), Room k A → Env0 P w K mg base A outer s H → BindsTo s fd args (ps.zip us) → Vals vs us → sp vs H Q E →
    codeAny (model P w) A (.call (.ref f) args) (CR CX outer P w H s Q E) s
theorem FnOk.mono {P : Program} {w : World} {K : PySem.W.Frag} {mg : Str → Option Value} {base : Heap} {CX : CXT} {j k : Nat} {f : Addr} {fd : FuncData} {ps : List Str} {sp : Sp} (F : FnOk P w K mg base CX j f fd ps sp) (h : j ≤ k) :
    FnOk P w K mg base CX k f fd ps sp := ⟨F.len, fun A outer s H args us vs Q E hr => F.run A outer s H args us vs Q E (hr.mono h)⟩
theorem Env0.in1 {P : Program} {w : World} {K : PySem.W.Frag} {mg : Str → Option Value} {base : Heap} {A : Around} {outer : List Env} {s : Shared} {H : Hp} (e : Env0 P w K mg base A outer s H) :
    Env0 P w K mg base A.in1 outer s H := ⟨e.frames, e.mod, e.bs, e.bsz, e.funs, e.frf, e.hok, e.bare⟩
section
variable {X : Cx} {pins : List (Addr × Obj)} {σ : St} {H : Hp} {s s' : Shared}
/-- from a body: what a callee wants -/
theorem Inv.env0 (I : Inv X pins σ H s) : Env0 X.prog X.w X.K X.mg X.base X.A X.stack s H :=
  ⟨I.ok.frames, I.ok.mod, I.bs, Nat.le_trans I.ok.bsz I.sz, I.stack, I.stkFree, I.hok, I.bare⟩
/-- behind a call -/
theorem Inv.after {Q : VK} {u : Value} (I : Inv X pins σ H s) (h : CE X.stack X.prog X.w H s Q u s') : EP X pins σ Q u s' := by
  obtain ⟨v, H', os, bare, un, hok, r, q⟩ := h
  obtain ⟨hh, g, d, t, os'⟩ := s'
  obtain rfl : os' = s.os := os
  exact ⟨v, H', I.call (h' := hh) (g' := g) (d' := d) (t' := t) (ch := []) un hok bare (fun b z => absurd z (by simp)), r, q⟩
end
/-- f(..): the written arguments, then the defaults dvs; E: what is wanted of an exception -/
def tCall (sp : Sp) (dvs : List V) (E : XK) (t : TA) : TE := fun σ H Q => t σ H fun vs H1 => sp (vs ++ dvs) H1 Q E
/-- how the parameters are bound: us the positional arguments, kw the keywords' values by name, ds the defaults that fill up -/
def Binds (K : PySem.W.Frag) (fd : FuncData) (ps : List Str) (ds : List Value) : Prop :=
  ∀ (s : Shared) (us : List Value), K.In s.heap → (us ++ ds).length = ps.length → BindsTo s fd ⟨us, []⟩ (ps.zip (us ++ ds))
/-- every parameter is given -/
theorem Binds.all {K : PySem.W.Frag} {fd : FuncData} {ps : List Str} (h : ∀ us : List Value, us.length = ps.length → bindArgs fd ⟨us, []⟩ = pure (ps.zip us)) : Binds K fd ps [] := fun s us _ hl => by
  rw [List.append_nil] at hl ⊢
  exact .of_eq (h us hl)
/-- an exception of a callee reaches what this body wants of exceptions -/
def Passes (CX : CXT) (X : Cx) (E : XK) : Prop := ∀ (pins : List (Addr × Obj)) (σ : St) (H : Hp) (s : Shared) (e : Value) (s' : Shared), Inv X pins σ H s → CX X.stack H s E e s' → X.xe e s'
section
variable {X : Cx} {CX : CXT} {k : Nat} {f C : Addr} {fd : FuncData} {ps : List Str} {sp : Sp} {dvs : List V} {ds : List Value} {E : XK} {x m : Str} {p pos apos : Pos} {e o : Expr} {es : List Expr} {ta : TE} {t : TA}
/-- the callee runs -/
theorem run_fn {pins : List (Addr × Obj)} {σ : St} {H : Hp} {s : Shared} {Q : VK} {us : List Value} {vs : List V} (F : FnOk X.prog X.w X.K X.mg X.base CX k f fd ps sp) (hr : Room k X.A) (hb : Binds X.K fd ps ds) (hd : Vals dvs ds) (hx : Passes CX X E)
    (I : Inv X pins σ H s) (r : Vals vs us) (h : sp (vs ++ dvs) H Q E) : wpAny (model X.prog X.w) X.A (call (.ref f) us) (EP X pins σ Q) X.xe s := by
  have r2 : Vals (vs ++ dvs) (us ++ ds) := r.append hd
  have hl : (us ++ ds).length = ps.length := by rw [← r2.length]; exact F.len _ _ _ _ h
  refine wpAny_call (codeAny_mono (F.run X.A X.stack s H ⟨us, []⟩ (us ++ ds) (vs ++ dvs) Q E hr I.env0 (hb s us I.kIn hl) r2 h) fun r s' hq => ?_)
  cases r with
  | error e => exact hx pins σ H s e s' I hq
  | ok fl =>
    cases fl with
    | ret u => exact I.after hq
    | next => exact False.elim hq
    | brk => exact False.elim hq
    | cont => exact False.elim hq
theorem pe_call (F : FnOk X.prog X.w X.K X.mg X.base CX k f fd ps sp) (hr : Room k X.A) (hg : Gl X x) (hm : X.mg x = some (.ref f)) (hk : PySem.W.keepIn X.K (.ref f) = true) (hb : Binds X.K fd ps ds) (hd : Vals dvs ds) (hx : Passes CX X E)
    (ha : PA X (e :: es) t) (hdb : (x == ("__debug__" : Str)) = false := by decide) (he : starEach (e :: es) X.env = (false, eval e X.env) :: starEach es X.env := by rfl) (hpl : (backTo pos (starEach es X.env)).any (·.1) = false := by rfl) :
    PE X (.Call (.Name x p) (e :: es) [] pos) (tCall sp dvs E t) := by
  intro pins s σ H Q I h
  refine wpAny_Call_Name_kw (ld_glob I hg hm ?_ hdb)
  refine PySem.W.callWith_K (h₀ := X.base) I.ok.mod.kin hk (thn (ha pos pins s σ H _ I h) fun us s1 ⟨vs, H1, I1, r, q⟩ => ⟨I1.kIn, ?_⟩) he hpl
  exact run_fn F hr hb hd hx I1 r q
end
/-- the values of the keywords, from the left -/
def PK (X : Cx) (kws : List Keyword) (t : TA) : Prop :=
  ∀ (pos : Pos) (pins : List (Addr × Obj)) (s : Shared) (σ : St) (H : Hp) (Q : List V → Hp → Prop), Inv X pins σ H s → t σ H Q → wpAny (model X.prog X.w) X.A (evalAll ((backToKw pos (keywordEach kws X.env)).map (·.2))) (AP X pins σ Q) X.xe s
section
variable {X : Cx} {CX : CXT} {k : Nat} {f C : Addr} {fd : FuncData} {ps ks : List Str} {sp : Sp} {E : XK} {x m : Str} {p pos apos kpos : Pos} {e o : Expr} {es : List Expr} {kws : List Keyword} {te ta : TE} {t tk : TA} {nm : Option Str}
theorem pk_nil : PK X [] tNil := fun _ _ _ _ H Q I h => wpAny_evalAll_nil ⟨[], H, I, .nil, h⟩
theorem pk_cons (ha : PE X e te) (hr : PK X kws t) : PK X (⟨nm, e, kpos⟩ :: kws) (tCons te t) := by
  intro pos pins s σ H Q I h
  show wpAny _ _ (evalAll ((do let v ← eval e X.env; standAt pos; pure v) :: (backToKw pos (keywordEach kws X.env)).map (·.2))) _ _ s
  refine wpAny_evalAll_cons (wpAny_bind (thn (ha pins s σ H _ I h) fun u s1 ⟨x, H1, I1, r1, q1⟩ => wpAny_bind (wpAny_standAt (wpAny_pure ?_))))
  exact thn (hr pos pins s1 σ H1 _ I1 q1) fun us s2 ⟨xs, H2, I2, r2, q2⟩ => ⟨x :: xs, H2, I2, .cons r1 r2, q2⟩
variable {g : List Value → List Value → List Value} {gV : List V → List V → List V}
end
/-- names: the parameters first -/
structure FnScope (N P : List Str) (sc : Scope) : Prop where
  kind : sc.kind = .function
  co : sc.isCoroutine = false
  gen : sc.isGenerator = false
  nd : N.Nodup
  pre : N.take P.length = P
  par : ∀ x ∈ P, sc.names.lookup x = some .local ∨ sc.names.lookup x = some .cell
  nofree : ∀ y ∈ sc.names, y.2 ≠ .free
theorem bindL_out {kindOf : Str → Option NameKind} {x : Str} : ∀ {binds : List (Str × Value)} {m : Str → Option Value}, (∀ v, (x, v) ∉ binds) → bindL kindOf binds m x = m x
  | [], _, _ => rfl
  | (n, v) :: r, m, h => by
    unfold bindL
    rw [bindL_out fun w hw => h w (List.mem_cons_of_mem _ hw)]
    split
    · have : x ≠ n := by rintro rfl; exact h v List.mem_cons_self
      simp [this]
    · rfl
theorem bindC_out {kindOf : Str → Option NameKind} {x : Str} : ∀ {binds : List (Str × Value)} {m : Str → Option Value}, (∀ v, (x, v) ∉ binds) → bindC kindOf binds m x = m x
  | [], _, _ => rfl
  | (n, v) :: r, m, h => by
    unfold bindC
    rw [bindC_out fun w hw => h w (List.mem_cons_of_mem _ hw)]
    split
    · rfl
    · have : x ≠ n := by rintro rfl; exact h v List.mem_cons_self
      simp [this]
theorem bindL_get {kindOf : Str → Option NameKind} {x : Str} {v : Value} : ∀ {P : List Str} {vs : List Value} {i : Nat} {m : Str → Option Value}, P.Nodup → P[i]? = some x → vs[i]? = some v → kindOf x = some .local →
    bindL kindOf (P.zip vs) m x = some v
  | [], _, _, _, _, h, _, _ => by simp at h
  | _ :: _, [], _, _, _, _, h, _ => by simp at h
  | p :: P, w :: vs, 0, m, nd, h1, h2, hk => by
    simp at h1 h2; subst h1; subst h2
    show bindL kindOf ((p, w) :: P.zip vs) m p = _
    unfold bindL
    rw [bindL_out fun v hv => (List.nodup_cons.mp nd).1 (List.of_mem_zip hv).1, if_pos hk]
    simp
  | p :: P, w :: vs, i + 1, m, nd, h1, h2, hk => by
    show bindL kindOf ((p, w) :: P.zip vs) m x = _
    unfold bindL
    exact bindL_get (i := i) (List.nodup_cons.mp nd).2 (by simpa using h1) (by simpa using h2) hk
theorem bindC_get {kindOf : Str → Option NameKind} {x : Str} {v : Value} : ∀ {P : List Str} {vs : List Value} {i : Nat} {m : Str → Option Value}, P.Nodup → P[i]? = some x → vs[i]? = some v → kindOf x ≠ some .local →
    bindC kindOf (P.zip vs) m x = some v
  | [], _, _, _, _, h, _, _ => by simp at h
  | _ :: _, [], _, _, _, _, h, _ => by simp at h
  | p :: P, w :: vs, 0, m, nd, h1, h2, hk => by
    simp at h1 h2; subst h1; subst h2
    show bindC kindOf ((p, w) :: P.zip vs) m p = _
    unfold bindC
    rw [bindC_out fun v hv => (List.nodup_cons.mp nd).1 (List.of_mem_zip hv).1, if_neg hk]
    simp
  | p :: P, w :: vs, i + 1, m, nd, h1, h2, hk => by
    show bindC kindOf ((p, w) :: P.zip vs) m x = _
    unfold bindC
    exact bindC_get (i := i) (List.nodup_cons.mp nd).2 (by simpa using h1) (by simpa using h2) hk
/-- the names' values at the entry -/
def start (N : List Str) (vs : List V) : St := vs.map some ++ List.replicate (N.length - vs.length) none
/-- the context of a def's body, at its entry; an exception leaves the frame, then lies as CX says -/
def cxOf (CX : CXT) (P : Program) (w : World) (K : PySem.W.Frag) (mg : Str → Option Value) (base : Heap) (N : List Str) (qual : Str) (scope : Scope) (f : Addr) (cd : Value) (A : Around) (outer : List Env) (s : Shared) (H : Hp) (E : XK) : Cx where
  prog := P
  w := w
  K := K
  mg := mg
  base := base
  A := A.deeper (envOfC qual scope s.heap.objs.size f cd)
  N := N
  s_0 := s
  H_0 := H
  env := envOfC qual scope s.heap.objs.size f cd
  outer := outer
  stack := envOfC qual scope s.heap.objs.size f cd :: outer
  ex := []
  calm := true
  fn := fun _ => true
  pn := []
  xe := fun e s' => wpAny (model P w) (A.deeper (envOfC qual scope s.heap.objs.size f cd)) (leaving (envOfC qual scope s.heap.objs.size f cd) e) (fun _ s'' => CX outer H s E e s'') (fun e' s'' => CX outer H s E e' s'') s'
theorem cell_has {sc : Scope} {n : Nat} {x : Str} (h : sc.names.lookup x = some .cell) : ∃ c, (cellsFrom n sc.names []).lookup x = some c := by
  have q := PySem.W.cellsFrom_some sc.names n [] (.inl h)
  exact Option.isSome_iff_exists.mp q
theorem inv_start {CX : CXT} {P : Program} {w : World} {K : PySem.W.Frag} {mg : Str → Option Value} {base : Heap} {N ps : List Str} {qual : Str} {scope : Scope} {f : Addr} {cd : Value} {A : Around} {outer : List Env} {s s1 : Shared} {H : Hp} {E : XK} {us : List Value} {vs : List V}
    (S : FnScope N ps scope) (hd : A.handled = none) (e0 : Env0 P w K mg base A outer s H) (hl : vs.length = ps.length) (r : Vals vs us)
    (x : InCallC s s.heap.objs.size (bindL (envOfC qual scope s.heap.objs.size f cd).kindOf (ps.zip us) fun _ => none) (cellsFrom (s.heap.objs.size + 1) scope.names []) (bindC (envOfC qual scope s.heap.objs.size f cd).kindOf (ps.zip us) fun _ => none) s1) :
    Inv (cxOf CX P w K mg base N qual scope f cd A outer s H E) [] (start N vs) H s1 := by
  have hpl : ps.length ≤ N.length := by have := congrArg List.length S.pre; rw [List.length_take] at this; omega
  obtain ⟨h1, tk, rfl, hk⟩ := x.done
  have noA : ∀ b : Addr, b ∉ (cxOf CX P w K mg base N qual scope f cd A outer s H E).ex := fun b z => absurd (show b ∈ ([] : List Addr) from z) (by simp)
  refine ⟨⟨e0.mod, S.kind, rfl, rfl, Nat.le_refl _, fun y z c h1 h2 => ?_, fun y hy => ?_, fun y c _ h => ?_, fun _ => hd, Around.frames_deeper e0.frames, .inr ⟨rfl, rfl⟩, fun b z => absurd z (noA b), e0.bs, e0.bsz, fun b _ _ => noA b, fun b z => absurd z (noA b), e0.funs, e0.frf⟩,
    rfl, e0.bare, Un.kept hk, ⟨_, x.toInCall.ns, fun i y v h1 h2 h3 => ?_⟩, fun y c h => ⟨_, x.cell y c h⟩, e0.hok.fresh (Nat.le_refl _), fun y c h => ?_, fun p hp => absurd (show p ∈ ([] : List (Addr × Obj)) from hp) (by simp), e0.hok.kept hk, ?_⟩
  · exact name_of_addr x.apart (PySem.mem_of_lookup h1) (PySem.mem_of_lookup h2)
  · have hy : scope.names.lookup y = some .cell ∨ scope.names.lookup y = some .free := hy
    rcases hy with hy | hy
    · exact cell_has hy
    · exact absurd rfl (S.nofree _ (PySem.mem_of_lookup hy))
  · exact Nat.le_of_lt (x.above y c (PySem.mem_of_lookup h))
  · have hi : i < vs.length := by
      unfold start at h2
      by_cases hi : i < vs.length
      · exact hi
      · rw [List.getElem?_append_right (by simpa using hi)] at h2
        rw [List.getElem?_replicate] at h2
        split at h2 <;> cases h2
    have ha : vs[i]? = some v := by
      unfold start at h2
      rw [List.getElem?_append_left (by simpa using hi), List.getElem?_map] at h2
      cases e : vs[i]? with
      | none => rw [e] at h2; cases h2
      | some a => rw [e] at h2; cases h2; rfl
    obtain ⟨u, hu, rv⟩ := r.get ha
    have hp : ps[i]? = some y := by
      rw [← S.pre, List.getElem?_take_of_lt (by omega)]; exact h1
    have ndP : ps.Nodup := by rw [← S.pre]; exact S.nd.sublist (List.take_sublist _ _)
    refine ⟨u, rv, ?_⟩
    rcases S.par y (List.mem_of_getElem? hp) with k | k
    · exact .inl ⟨k, bindL_get ndP hp hu k⟩
    · obtain ⟨c, e⟩ := cell_has (n := s.heap.objs.size + 1) k
      refine .inr ⟨.inl k, c, e, ?_⟩
      have q := x.cell y c e
      rw [bindC_get ndP hp hu (by show scope.names.lookup y ≠ _; rw [k]; decide)] at q
      exact q
  · exact e0.hok.fresh (Nat.le_of_lt (x.above y c (PySem.mem_of_lookup h)))
  · unfold start
    show _ = N.length
    rw [List.length_append, List.length_map, List.length_replicate]
    omega
/-- THE RULE: a def (or a method) of the text, by its body. The body's reading t is chosen for each entry; it is run at the parameters' values -/
theorem fn_of {CX : CXT} {P : Program} {w : World} {K : PySem.W.Frag} {mg : Str → Option Value} {base : Heap} {k : Nat} {f : Addr} {name qual : Str} {params : Arguments} {body : List Stmt} {scope : Scope} {dV kV doc pm cdv ct oc : Value} {an od : Option Addr}
    {osl : Array (Option Value)} {N ps : List Str} {sp : Sp} (lk : K.lookup f = some ⟨oc, od, .func (PySem.W.fnOf name qual params body scope dV kV doc pm an cdv ct), osl⟩) (hcd : PySem.W.codeIn K cdv qual = true) (S : FnScope N ps scope)
    (len : ∀ vs H Q E, sp vs H Q E → vs.length = ps.length)
    (hbody : ∀ (A : Around) (outer : List Env) (s : Shared) (H : Hp) (vs : List V) (Q : VK) (E : XK), Room k (A.deeper (envOfC qual scope s.heap.objs.size f cdv)) → sp vs H Q E →
      ∃ t, PSs (cxOf CX P w K mg base N qual scope f cdv A outer s H E) body t ∧ t { nx := fun _ H' => Q .non H', rt := Q } (start N vs) H) :
    FnOk P w K mg base CX (k + 1) f (PySem.W.fnOf name qual params body scope dV kV doc pm an cdv ct) ps sp := by
  refine ⟨len, fun A outer s H args us vs Q E hr e0 hb r hsp => ?_⟩
  have hl := len _ _ _ _ hsp
  have KX : K.In s.heap := e0.mod.kin.keeps fun b o e => (e0.bs b o e).1
  have lim : s.heap.NoLimit := e0.mod.nolimit.keeps fun b o e => (e0.bs b o e).1
  have hkind : ∀ y ∈ ps.zip us, scope.names.lookup y.1 = some .local ∨ (scope.names.lookup y.1 = some .cell ∧ ((cellsFrom (s.heap.objs.size + 1) scope.names []).lookup y.1).isSome = true) := fun ⟨n, v⟩ hy => by
    rcases S.par n (List.of_mem_zip hy).1 with q | q
    · exact .inl q
    · exact .inr ⟨q, PySem.W.cellsFrom_some _ _ _ (.inl q)⟩
  refine codeAny_call_function hr.depth (KX _ _ lk) rfl S.co S.gen rfl (PySem.W.codeRec_of KX hcd) (hb _ _ _ _ ?_)
  refine wpAny_newFunctionEnv_cells S.kind hkind fun env he s1 x => ?_
  subst he
  refine ⟨lim.keeps x.toInCall.keep, codeAny_func ?_⟩
  obtain ⟨t, ht, hq⟩ := hbody A outer s H vs Q E (hr.deeper _) hsp
  have I : Inv (cxOf CX P w K mg base N qual scope f cdv A outer s H E) [] (start N vs) H s1 := inv_start S hr.hd e0 hl r x
  refine wpAny_mono (ht [] s1 (start N vs) H _ I hq) (fun fl s' hs => ?_) fun e s' hs => hs
  have fin : ∀ {σ' : St} {H' : Hp} {v : V} {u : Value}, Inv (cxOf CX P w K mg base N qual scope f cdv A outer s H E) [] σ' H' s' → RelV v u → Q v H' → CE outer P w H s Q u s' :=
    fun {σ' H' v u} J rv q => ⟨v, H', J.os, J.bare, J.base, J.hok, rv, q⟩
  cases fl with
  | ret u =>
    obtain ⟨v, σ', H', J, rv, q⟩ := hs
    exact fin J rv q
  | next =>
    obtain ⟨σ', H', J, q⟩ := hs
    exact fin (v := V.non) (u := Value.none) J rfl q
  | brk =>
    obtain ⟨_, _, _, q⟩ := hs
    exact False.elim q
  | cont =>
    obtain ⟨_, _, _, q⟩ := hs
    exact False.elim q
end L2
namespace L2
open PySem PySem.Spec PyProof.Rows
section
variable {X : Cx} {x : Str} {p pos : Pos} {e : Expr} {es : List Expr} {t : TA} {id T : String} {r : List V → Hp → VK → Prop}
def tCB (r : List V → Hp → VK → Prop) (t : TA) : TE := fun σ H Q => t σ H fun vs H1 => r vs H1 Q
/-- f(e, ..), f a built-in function -/
theorem pe_callB (hc : CallR X (.builtin id) r) (hg : Gl X x) (hm : X.mg x = none) (hv : bootBuiltins x = some (.builtin id)) (ha : PA X (e :: es) t) (hn : x ≠ "__name__" := by decide) (hdb : (x == ("__debug__" : Str)) = false := by decide)
    (he : starEach (e :: es) X.env = (false, eval e X.env) :: starEach es X.env := by rfl) (hpl : (backTo pos (starEach es X.env)).any (·.1) = false := by rfl) : PE X (.Call (.Name x p) (e :: es) [] pos) (tCB r t) := by
  intro pins s σ H Q I h
  refine wpAny_Call_Name_kw (ld_blt I hg hm hv ?_ hn hdb)
  exact PyProof.Rows.callWith_builtin1 (thn (ha pos pins s σ H _ I h) fun us s1 ⟨vs, H1, I1, r1, q1⟩ => hc pins s1 σ H1 vs us Q I1 r1 q1) he hpl
/-- T(e, ..), T a built-in type -/
theorem pe_callTy (hc : CallR X (.type T) r) (hg : Gl X x) (hm : X.mg x = none) (hv : bootBuiltins x = some (.type T)) (ha : PA X (e :: es) t) (hn : x ≠ "__name__" := by decide) (hdb : (x == ("__debug__" : Str)) = false := by decide)
    (he : starEach (e :: es) X.env = (false, eval e X.env) :: starEach es X.env := by rfl) (hpl : (backTo pos (starEach es X.env)).any (·.1) = false := by rfl) : PE X (.Call (.Name x p) (e :: es) [] pos) (tCB r t) := by
  intro pins s σ H Q I h
  refine wpAny_Call_Name_kw (ld_blt I hg hm hv ?_ hn hdb)
  exact PyProof.Rows.callWith_type1 (thn (ha pos pins s σ H _ I h) fun us s1 ⟨vs, H1, I1, r1, q1⟩ => hc pins s1 σ H1 vs us Q I1 r1 q1) he hpl
end
end L2
namespace HT
open PySem PyProof.Rows
section
open PySem.SeqAt
open PySem.AutoSeq1 (wpAny_loadPart')
open PySem.MeetsSeq PySem.MeetsSeq2 PySem.MeetsSeq3
end
section
variable {prog : Program} {w : World} {A : Around} {E : Value → Shared → Prop} {s : Shared}
/-- a slice's bound as a place among n (d where it is left out) -/
def sIx (n d : Nat) : Option Int → Nat
  | none => d
  | some v => if v < 0 then (v + (n : Int)).toNat else min v.toNat n
theorem sIx_none (n d : Nat) : sIx n d none = d := rfl
theorem sIx_nat (n d k : Nat) : sIx n d (some (k : Int)) = min k n := by
  show (if (k : Int) < 0 then ((k : Int) + (n : Int)).toNat else min (k : Int).toNat n) = min k n
  rw [if_neg (by omega), Int.toNat_natCast]
end
end HT
namespace L2
open PySem PySem.Spec PyProof.Rows
abbrev TO := St → Hp → (Option Int → Hp → Prop) → Prop
/-- a slice's part (left out, or an int) -/
def PO (X : Cx) (e : Option Expr) (t : TO) : Prop :=
  ∀ (pins : List (Addr × Obj)) (s : Shared) (σ : St) (H : Hp) (Q : Option Int → Hp → Prop), Inv X pins σ H s → t σ H Q →
    wpAny (model X.prog X.w) X.A (evalPart e X.env) (fun u s' => ∃ o H', Inv X pins σ H' s' ∧ IsPart u o ∧ Q o H') X.xe s
def tNoPart : TO := fun _ H Q => Q none H
def tPart (t : TE) : TO := fun σ H Q => t σ H fun x H1 => ∃ i, x = .int i ∧ Q (some i) H1
section
variable {X : Cx} {e : Expr} {te : TE} {lo hi : Option Expr} {tl th : TO} {pos p2 : Pos}
theorem po_none : PO X none tNoPart := by
  intro pins s σ H Q I h
  rw [evalPart_none]
  exact wpAny_pure ⟨none, H, I, .none, h⟩
theorem po_some (h : PE X e te) : PO X (some e) (tPart te) := by
  intro pins s σ H Q I hw
  rw [evalPart_some]
  refine thn (h pins s σ H _ I hw) fun u s1 ⟨x, H1, I1, r1, q1⟩ => ?_
  obtain ⟨i, rfl, q⟩ := q1
  obtain ⟨t, rfl⟩ := r1
  exact ⟨some i, H1, I1, .int i t, q⟩
/-- what a slice of a value is, by values: the slice object stands at sl -/
def SlR (X : Cx) (r : V → Option Int → Option Int → Hp → VK → Prop) : Prop :=
  ∀ (pins : List (Addr × Obj)) (s : Shared) (σ : St) (H : Hp) (x : V) (v vl vu : Value) (lo hi : Option Int) (sl : Addr) (Q : VK), Inv X pins σ H s → RelV x v → s.heap.IsSliceOf sl vl vu .none → IsPart vl lo → IsPart vu hi → r x lo hi H Q →
    ∃ T id, typeLookup (.type T) "__getitem__" = pure (some (.builtin id)) ∧ s.TypeIs v T ∧ wpAny (model X.prog X.w) X.A (getItem v (.ref sl)) (EP X pins σ Q) X.xe s
theorem SlR.or {r r' : V → Option Int → Option Int → Hp → VK → Prop} (h : SlR X r) (h' : SlR X r') : SlR X (fun x lo hi H Q => r x lo hi H Q ∨ r' x lo hi H Q) := by
  intro pins s σ H x v vl vu lo hi sl Q I rx hs pl pu q
  rcases q with q | q
  · exact h pins s σ H x v vl vu lo hi sl Q I rx hs pl pu q
  · exact h' pins s σ H x v vl vu lo hi sl Q I rx hs pl pu q
def tSl (r : V → Option Int → Option Int → Hp → VK → Prop) (te : TE) (tl th : TO) : TE := fun σ H Q => te σ H fun x H1 => tl σ H1 fun l H2 => th σ H2 fun u H3 => r x l u H3 Q
/-- a[lo:hi], any a -/
theorem pe_slice {r : V → Option Int → Option Int → Hp → VK → Prop} (hr : SlR X r) (he : PE X e te) (hl : PO X lo tl) (hu : PO X hi th) : PE X (.Subscript e (.Slice lo hi none p2) pos) (tSl r te tl th) := by
  intro pins s σ H Q I h
  refine Subscript_ (thn (he pins s σ H _ I h) fun v s1 ⟨x, H1, I1, r1, q1⟩ => ?_)
  refine wpAny_Slice (thn (hl pins s1 σ H1 _ I1 q1) fun vl s2 ⟨l, H2, I2, pl, q2⟩ => thn (hu pins s2 σ H2 _ I2 q2) fun vu s3 ⟨u, H3, I3, pu, q3⟩ => ?_)
  rw [evalPart_none]
  refine wpAny_pure ?_
  have I4 : Inv X pins σ H3 { s3 with heap := s3.heap.push { cls := .type "slice", data := .fields #[vl, vu, .none] } } := I3.kept (t' := s3.toks) fun b ob q => Heap.get?_push_of_some _ q
  obtain ⟨T, id, hT, ht, hg⟩ := hr pins { s3 with heap := s3.heap.push { cls := .type "slice", data := .fields #[vl, vu, .none] } } σ H3 x v vl vu l u s3.heap.objs.size Q I4 r1 (Heap.IsSliceOf.new ..) pl pu q3
  show wpAny (model X.prog X.w) X.A (subscriptTail e (.Slice lo hi none p2) v (.ref s3.heap.objs.size)) (EP X pins σ Q) X.xe { s3 with heap := s3.heap.push { cls := .type "slice", data := .fields #[vl, vu, .none] } }
  exact tail_any (ops := [.ref s3.heap.objs.size, v]) ht hT hg (by with_unfolding_all rfl)
/-- the items of xs[lo:hi] -/
def cutV (xs : List V) (lo hi : Option Int) : List V := (xs.drop (HT.sIx xs.length 0 lo)).take (HT.sIx xs.length xs.length hi - HT.sIx xs.length 0 lo)
theorem cutV_length (xs : List V) (lo hi : Option Int) : (cutV xs lo hi).length ≤ xs.length := by
  unfold cutV
  rw [List.length_take, List.length_drop]
  omega
end
end L2
namespace L2
open PySem PySem.Spec PyProof.Rows
/-- the place that an index of any sign means -/
def ixN (n : Nat) (i : Int) : Option Nat := if 0 ≤ i then (if i < n then some i.toNat else none) else if -(n : Int) ≤ i then some (i + n).toNat else none
def atI {α : Type} (xs : List α) (i : Int) : Option α := (ixN xs.length i).bind fun j => xs[j]?
theorem ixN_seq {n : Nat} {i : Int} {j : Nat} (h : ixN n i = some j) : seqIndex? i n = some j ∧ j < n ∧ -(n : Int) ≤ i ∧ i < n := by
  unfold ixN at h
  by_cases h0 : 0 ≤ i
  · rw [if_pos h0] at h
    by_cases h1 : i < n
    · rw [if_pos h1] at h
      have e : i.toNat = j := Option.some.inj h
      exact ⟨by rw [seqIndex_of h0 h1, e], by omega, by omega, h1⟩
    · rw [if_neg h1] at h; cases h
  · rw [if_neg h0] at h
    by_cases h1 : -(n : Int) ≤ i
    · rw [if_pos h1] at h
      have e : (i + n).toNat = j := Option.some.inj h
      exact ⟨by rw [seqIndex_neg (by omega) h1, e], by omega, h1, by omega⟩
    · rw [if_neg h1] at h; cases h
theorem atI_get {α : Type} {xs : List α} {i : Int} {v : α} (h : atI xs i = some v) : ∃ j, seqIndex? i xs.length = some j ∧ xs[j]? = some v ∧ j < xs.length ∧ -(xs.length : Int) ≤ i ∧ i < xs.length := by
  unfold atI at h
  cases e : ixN xs.length i with
  | none => rw [e] at h; cases h
  | some j =>
    rw [e] at h
    obtain ⟨h1, h2, h3, h4⟩ := ixN_seq e
    exact ⟨j, h1, h, h2, h3, h4⟩
theorem atI_nat {α : Type} {xs : List α} {j : Nat} {v : α} (h : xs[j]? = some v) : atI xs (j : Int) = some v := by
  have hj : j < xs.length := (List.getElem?_eq_some_iff.mp h).1
  have e : ixN xs.length (j : Int) = some j := by
    unfold ixN
    rw [if_pos (by omega), if_pos (by omega)]; simp
  unfold atI; rw [e]; exact h
theorem atI_last {α : Type} (xs : List α) (v : α) : atI (xs ++ [v]) (-1) = some v := by
  have hl : (xs ++ [v]).length = xs.length + 1 := by simp
  have e : ixN (xs ++ [v]).length (-1) = some xs.length := by
    unfold ixN
    rw [hl, if_neg (by decide), if_pos (by omega)]
    congr 1
    omega
  unfold atI
  rw [e]
  show (xs ++ [v])[xs.length]? = some v
  simp
/-- what stands as an index of a plain subscript -/
def PlainIx (b : Expr) : Prop := ∀ o i, subscripted b false o i = operate [o, i] (getItem o i)
/-- a subscript by values -/
def IxR (X : Cx) (r : R2) : Prop :=
  ∀ (value slice : Expr) (pins : List (Addr × Obj)) (s : Shared) (σ : St) (H : Hp) (x y : V) (v u : Value) (Q : VK), Inv X pins σ H s → RelV x v → RelV y u → r x y H Q →
    subscripted slice false v u = operate [v, u] (getItem v u) → wpAny (model X.prog X.w) X.A (subscriptTail value slice v u) (EP X pins σ Q) X.xe s
/-- a call of a builtin's method by values: the receiver, the arguments -/
def MtR (X : Cx) (id : String) (r : V → List V → Hp → VK → Prop) : Prop :=
  ∀ (pins : List (Addr × Obj)) (s : Shared) (σ : St) (H : Hp) (x : V) (xs : List V) (v : Value) (us : List Value) (Q : VK), Inv X pins σ H s → RelV x v → Vals xs us → r x xs H Q →
    wpAny (model X.prog X.w) X.A (call (.builtin id) (v :: us)) (EP X pins σ Q) X.xe s
section
variable {X : Cx} {a b : Expr} {ta tb : TE} {pos : Pos}
theorem IxR.or {r r' : R2} (h : IxR X r) (h' : IxR X r') : IxR X (fun x y H Q => r x y H Q ∨ r' x y H Q) := by
  intro value slice pins s σ H x y v u Q I rx ry q hs
  rcases q with q | q
  · exact h value slice pins s σ H x y v u Q I rx ry q hs
  · exact h' value slice pins s σ H x y v u Q I rx ry q hs
theorem MtR.or {id : String} {r r' : V → List V → Hp → VK → Prop} (h : MtR X id r) (h' : MtR X id r') : MtR X id (fun x xs H Q => r x xs H Q ∨ r' x xs H Q) := by
  intro pins s σ H x xs v us Q I rx rs q
  rcases q with q | q
  · exact h pins s σ H x xs v us Q I rx rs q
  · exact h' pins s σ H x xs v us Q I rx rs q
/-- a[b] -/
theorem pe_ix {r : R2} (hr : IxR X r) (ha : PE X a ta) (hb : PE X b tb) (hs : PlainIx b) : PE X (.Subscript a b pos) (tOp r ta tb) := by
  intro pins s σ H Q I h
  exact Subscript_ (binT ha hb I h fun v u s2 x y H2 I2 rx ry q => hr a b pins s2 σ H2 x y v u Q I2 rx ry q (hs _ _))
def rIxL (K : PySem.W.Frag) : R2 := fun x y H Q => ∃ p xs i v, x = .ref p ∧ y = .int i ∧ SqL K H p xs ∧ atI xs i = some v ∧ Q v H
def rIxT (K : PySem.W.Frag) : R2 := fun x y H Q => ∃ p xs i v, x = .ref p ∧ y = .int i ∧ SqT K H p xs ∧ atI xs i = some v ∧ Q v H
theorem ix_list : IxR X (rIxL X.K) := by
  intro value slice pins s σ H x y v u Q I rx ry h hs
  obtain ⟨p, xs, i, z, rfl, rfl, hq, he, q⟩ := h
  cases rx
  obtain ⟨t, rfl⟩ := ry
  obtain ⟨its, r, pl, hz⟩ := I.list hq
  obtain ⟨j, h1, h2, h3, h4, h5⟩ := atI_get he
  obtain ⟨w, ew, rw'⟩ := r.get h2
  have hl := r.length
  have hn := line63
  have fin : EP X pins σ Q w s := ⟨z, H, I, rw', q⟩
  by_cases h0 : 0 ≤ i
  · have hj : i.toNat = j := by
      rw [seqIndex_of h0 h5] at h1
      exact Option.some.inj h1
    exact item_listR pl.isList h0 (by omega) (by rw [hj]; simpa using ew) fin hs
  · have hj : (i + (its.toArray.size : Int)).toNat = j := by
      rw [seqIndex_neg (by omega) h4] at h1
      rw [List.size_toArray, ← hl]
      exact Option.some.inj h1
    exact subscriptTail_builtinR (x := w) pl.isList.typeIs slot_list_getitem.lookup
      (wpAny_getItem_list_neg (Q := fun r s' => r = w ∧ EP X pins σ Q r s') pl.isList (by omega) (by rw [List.size_toArray] <;> omega) (by omega) (by rw [hj]; simpa using ew) ⟨rfl, fin⟩) hs
theorem ix_tup : IxR X (rIxT X.K) := by
  intro value slice pins s σ H x y v u Q I rx ry h hs
  obtain ⟨p, xs, i, z, rfl, rfl, hq, he, q⟩ := h
  cases rx
  obtain ⟨t, rfl⟩ := ry
  obtain ⟨its, r, pl, hz⟩ := I.tuple hq
  obtain ⟨j, h1, h2, h3, h4, h5⟩ := atI_get he
  obtain ⟨w, ew, rw'⟩ := r.get h2
  have hl := r.length
  have hn := line63
  have fin : EP X pins σ Q w s := ⟨z, H, I, rw', q⟩
  exact subscriptTail_builtinR (x := w) pl.typeIs slot_tuple_getitem.lookup
    (getItem_tuple (j := j) (Q := fun r s' => r = w ∧ EP X pins σ Q r s') pl (by omega) (by omega) (by rw [List.size_toArray, ← hl]; exact h1) (by simpa using ew) ⟨rfl, fin⟩) hs
theorem Inv.lst {pins : List (Addr × Obj)} {σ : St} {H : Hp} {s : Shared} {p : Addr} {xs : List V} (I : Inv X pins σ H s) (h : H p = some (.lst xs)) :
    ∃ (its : List Value) (n : Nat), Vals xs its ∧ s.heap.get? p = some { cls := .type "list", data := .seq its.toArray n } ∧ xs.length ≤ sizeLine := by
  obtain ⟨z, its, n, r, e⟩ := I.hok p _ h
  exact ⟨its, n, r, e, z⟩
theorem slice_bounds (lo hi : Option Int) (n : Nat) : (sliceBounds lo hi none n).1 = ((HT.sIx n 0 lo : Nat) : Int) ∧ (sliceBounds lo hi none n).2.1 = ((HT.sIx n n hi : Nat) : Int) ∧ (sliceBounds lo hi none n).2.2 = 1 := by
  refine ⟨?_, ?_, rfl⟩
  · cases lo with
    | none => simp [sliceBounds, HT.sIx]
    | some i =>
      simp only [sliceBounds, HT.sIx, Option.getD_none, show (1 : Int) > 0 by decide, if_true]
      by_cases h : i < 0
      · simp only [h, if_true] <;> omega
      · simp only [h, if_false] <;> omega
  · cases hi with
    | none => simp [sliceBounds, HT.sIx]
    | some i =>
      simp only [sliceBounds, HT.sIx, Option.getD_none, show (1 : Int) > 0 by decide, if_true]
      by_cases h : i < 0
      · simp only [h, if_true] <;> omega
      · simp only [h, if_false] <;> omega
theorem slicePick_cut (its : List Value) (lo hi : Option Int) : slicePick its.toArray lo hi none = ((its.drop (HT.sIx its.length 0 lo)).take (HT.sIx its.length its.length hi - HT.sIx its.length 0 lo)).toArray := by
  obtain ⟨h1, h2, h3⟩ := slice_bounds lo hi its.toArray.size
  unfold slicePick
  rw [h1, h2, h3]
  simp only [sliceRange_one, pick_run, List.size_toArray] <;> rfl
/-- xs[lo:hi] of a list: a new list -/
def rSlL (K : PySem.W.Frag) : V → Option Int → Option Int → Hp → VK → Prop := fun x lo hi H Q => ∃ a xs, x = .ref a ∧ SqL K H a xs ∧ ∀ p, H p = none → Q (.ref p) (upd H p (.lst (cutV xs lo hi)))
theorem sl_list : SlR X (rSlL X.K) := by
  intro pins s σ H x v vl vu lo hi sl Q I rx hs pl pu h
  obtain ⟨a, xs, rfl, hx, q⟩ := h
  cases rx
  obtain ⟨its, r, ht, hz⟩ := I.list hx
  have hlen := r.length
  refine ⟨"list", _, slot_list_getitem.lookup, ht.isList.typeIs, ?_⟩
  refine wpAny_getItem_list_slice ht.isList hs pl pu .none (by simp) ?_ (by rw [List.size_toArray] <;> omega)
  rw [slicePick_cut, ← hlen]
  refine ⟨.ref s.heap.objs.size, _, I.laid (t' := s.toks) (o := .lst (cutV xs lo hi)) (fun b ob q => Heap.get?_push_of_some _ q) (Nat.le_refl _) ?_, rfl, q _ (I.hok.fresh (Nat.le_refl _))⟩
  exact ⟨Nat.le_trans (cutV_length xs lo hi) hz, _, 0, (r.drop (HT.sIx xs.length 0 lo)).take (HT.sIx xs.length xs.length hi - HT.sIx xs.length 0 lo), Heap.get?_push_size _ rfl⟩
def flatV : V → Bool
  | .non => true
  | .bl _ => true
  | .int _ => true
  | .str _ => true
  | _ => false
/-- == of flat values -/
def eqV : V → V → Bool
  | .non, .non => true
  | .bl a, .bl b => a == b
  | .bl a, .int b => (if a then 1 else 0) == b
  | .int a, .bl b => a == (if b then 1 else 0)
  | .int a, .int b => a == b
  | .str a, .str b => a == b
  | _, _ => false
theorem eqAt_V {A : Around} {s : Shared} {y x : V} {u v : Value} (ry : RelV y u) (rx : RelV x v) (fy : flatV y = true) (fx : flatV x = true) : SeqAt.EqAt A s u v (eqV y x) := by
  cases y with
  | non =>
    cases ry
    cases x with
    | non => cases rx; exact SeqAt.EqAt.same _
    | bl b => cases rx; exact SeqAt.EqAt.none_bool b
    | int b => obtain ⟨t, rfl⟩ := rx; exact SeqAt.EqAt.none_int b t
    | str b => obtain ⟨t, rfl⟩ := rx; exact SeqAt.EqAt.none_str b t
    | _ => exact absurd (show false = true from fx) Bool.false_ne_true
  | bl a =>
    cases ry
    cases x with
    | non => cases rx; exact SeqAt.EqAt.bool_none a
    | bl b => cases rx; exact SeqAt.EqAt.bool_bool a b
    | int b => obtain ⟨t, rfl⟩ := rx; exact SeqAt.EqAt.bool_int a b t
    | str b => obtain ⟨t, rfl⟩ := rx; exact SeqAt.EqAt.bool_str a b t
    | _ => exact absurd (show false = true from fx) Bool.false_ne_true
  | int a =>
    obtain ⟨t', rfl⟩ := ry
    cases x with
    | non => cases rx; exact SeqAt.EqAt.int_none a t'
    | bl b => cases rx; exact SeqAt.EqAt.int_bool a t' b
    | int b => obtain ⟨t, rfl⟩ := rx; exact SeqAt.EqAt.int_int a t' b t
    | str b => obtain ⟨t, rfl⟩ := rx; exact SeqAt.EqAt.int_str a t' b t
    | _ => exact absurd (show false = true from fx) Bool.false_ne_true
  | str a =>
    obtain ⟨t', rfl⟩ := ry
    cases x with
    | non => cases rx; exact SeqAt.EqAt.str_none a t'
    | bl b => cases rx; exact SeqAt.EqAt.str_bool a t' b
    | int b => obtain ⟨t, rfl⟩ := rx; exact SeqAt.EqAt.str_int a t' b t
    | str b => obtain ⟨t, rfl⟩ := rx; exact SeqAt.EqAt.str_str a t' b t
    | _ => exact absurd (show false = true from fx) Bool.false_ne_true
  | _ => exact absurd (show false = true from fy) Bool.false_ne_true
/-- the items' answers, read off the values (a value's own answer does not lean on its token) -/
def eqU (x : V) (u : Value) : Bool := match u with
  | .none => eqV .non x
  | .bool b => eqV (.bl b) x
  | .int i _ => eqV (.int i) x
  | .str z _ => eqV (.str z) x
  | _ => false
theorem eqU_of {x y : V} {u : Value} (r : RelV y u) (f : flatV y = true) : eqU x u = eqV y x := by
  cases y with
  | non => cases r; rfl
  | bl b => cases r; rfl
  | int i => obtain ⟨t, rfl⟩ := r; rfl
  | str z => obtain ⟨t, rfl⟩ := r; rfl
  | _ => exact absurd (show false = true from f) Bool.false_ne_true
theorem any_eqU {x : V} : ∀ {xs : List V} {us : List Value}, Vals xs us → xs.all flatV = true → us.any (eqU x) = xs.any fun y => eqV y x
  | _, _, .nil, _ => rfl
  | y :: xs, u :: us, .cons r t, f => by
    rw [List.all_cons, Bool.and_eq_true] at f
    rw [List.any_cons, List.any_cons, eqU_of r f.1, any_eqU t f.2]
theorem mem_eqAt {A : Around} {s : Shared} {x : V} {v : Value} (rx : RelV x v) (fx : flatV x = true) : ∀ {xs : List V} {us : List Value}, Vals xs us → xs.all flatV = true → ∀ u ∈ us, SeqAt.EqAt A s u v (eqU x u)
  | _, _, .nil, _ => fun u hu => by cases hu
  | y :: xs, u :: us, .cons r t, f => fun u' hu => by
    rw [List.all_cons, Bool.and_eq_true] at f
    rcases List.mem_cons.mp hu with rfl | hu
    · rw [eqU_of r f.1]; exact eqAt_V r rx f.1 fx
    · exact mem_eqAt rx fx t f.2 u' hu
def inV (x : V) (xs : List V) : Bool := xs.any fun y => eqV y x
/-- x in a list or tuple of flat items -/
def rIn (K : PySem.W.Frag) (neg : Bool) : R2 := fun x y H Q => ∃ p xs, y = .ref p ∧ (SqL K H p xs ∨ SqT K H p xs) ∧ flatV x = true ∧ xs.all flatV = true ∧ Q (.bl (if neg then !inV x xs else inV x xs)) H
theorem op_in_seq : OpR X (compareOp .In) (rIn X.K false) := by
  intro pins s σ H x y v u Q I rx ry h
  obtain ⟨p, xs, rfl, hq, fx, fs, q⟩ := h
  cases ry
  rcases hq with hq | hq
  · obtain ⟨its, r, pl, hz⟩ := I.list hq
    refine SeqAt.in_listAt (eqU x) pl.isList (fun w hw => mem_eqAt rx fx r fs w (by simpa using hw)) ⟨.bl _, H, I, rfl, ?_⟩
    rw [show its.toArray.any (eqU x) = its.any (eqU x) by simp, any_eqU r fs]
    exact q
  · obtain ⟨its, r, pl, hz⟩ := I.tuple hq
    refine SeqAt.in_tupleAt (eqU x) pl (fun w hw => mem_eqAt rx fx r fs w (by simpa using hw)) ⟨.bl _, H, I, rfl, ?_⟩
    rw [show its.toArray.any (eqU x) = its.any (eqU x) by simp, any_eqU r fs]
    exact q
theorem call_len_seq : CallR X (.builtin "len") (fun xs H Q => ∃ p ys, xs = [.ref p] ∧ (SqL X.K H p ys ∨ SqT X.K H p ys) ∧ Q (.int ys.length) H) := by
  intro pins s σ H xs us Q I r h
  obtain ⟨p, ys, rfl, hq, q⟩ := h
  obtain ⟨u, rfl, rx⟩ := vals1 r
  cases rx
  have hn := line63
  rcases hq with hq | hq
  · obtain ⟨its, r', pl, hz⟩ := I.list hq
    have hlen := r'.length
    exact Calls.call_len_list pl.isList (by simp only [List.size_toArray] <;> omega) ⟨.int ys.length, H, I.tok _, ⟨s.toks + 1, by rw [List.size_toArray, hlen]⟩, q⟩
  · obtain ⟨its, r', pl, hz⟩ := I.tuple hq
    have hlen := r'.length
    exact len_tuple pl (by simp only [List.size_toArray] <;> omega) ⟨.int ys.length, H, I.tok _, ⟨s.toks + 1, by rw [List.size_toArray, hlen]⟩, q⟩
theorem CallR.or {f : Value} {r r' : List V → Hp → VK → Prop} (h : CallR X f r) (h' : CallR X f r') : CallR X f (fun xs H Q => r xs H Q ∨ r' xs H Q) := by
  intro pins s σ H xs us Q I rs q
  rcases q with q | q
  · exact h pins s σ H xs us Q I rs q
  · exact h' pins s σ H xs us Q I rs q
theorem call_tuple_of : CallR X (.type "tuple") (fun xs H Q => ∃ p ys, xs = [.ref p] ∧ ((SqL X.K H p ys ∧ ∀ l, H l = none → Q (.ref l) (upd H l (.tup ys))) ∨ (SqT X.K H p ys ∧ Q (.ref p) H))) := by
  intro pins s σ H xs us Q I r h
  obtain ⟨p, ys, rfl, h⟩ := h
  obtain ⟨u, rfl, rx⟩ := vals1 r
  cases rx
  rcases h with ⟨hq, q⟩ | ⟨hq, q⟩
  · obtain ⟨its, r', pl, hz⟩ := I.list hq
    have hlen := r'.length
    refine call_tuple_list pl.isList (fun h' kp => ?_) (by simp only [List.size_toArray] <;> omega)
    have I1 : Inv X pins σ H { s with heap := h' } := I.kept (t' := s.toks) kp
    have I2 : Inv X pins σ (upd H h'.objs.size (.tup ys)) { s with heap := h'.push { cls := .type "tuple", data := .seq its.toArray } } :=
      I1.laid (t' := s.toks) (fun b o e => Heap.get?_push_of_some _ e) (Nat.le_refl _) (show ObjOk X.prog X.w _ _ _ (.tup ys) from ⟨hz, its, r', IsTup.new _ _⟩)
    exact ⟨.ref h'.objs.size, _, I2, rfl, q _ (I1.hok.fresh (Nat.le_refl _))⟩
  · obtain ⟨its, r', pl, hz⟩ := I.tuple hq
    exact call_tuple_same pl ⟨.ref p, H, I, rfl, q⟩
/-- the value is of that builtin type -/
def tyV (K : PySem.W.Frag) (T : String) (x : V) (H : Hp) : Prop := match x with
  | .str _ => T = "str"
  | .int _ => T = "int"
  | .ref p => (T = "list" ∧ ∃ xs, SqL K H p xs) ∨ (T = "tuple" ∧ ∃ o, K.lookup p = some o ∧ o.cls = .type "tuple" ∧ o.dict = none) ∨
      (T = "dict" ∧ ((∃ kvs, H p = some (.dK kvs)) ∨ ∃ kvs, H p = some (.dT kvs))) ∨ (T = "set" ∧ ∃ S n, H p = some (.set S n))
  | _ => False
theorem tyV_is {pins : List (Addr × Obj)} {σ : St} {H : Hp} {s : Shared} {T : String} {x : V} {v : Value} (I : Inv X pins σ H s) (r : RelV x v) (ty : tyV X.K T x H) :
    s.TypeIs v T ∧ ∀ a, v = .ref a → ∃ ob, s.heap.get? a = some ob ∧ ob.dict = none := by
  cases x with
  | str z =>
    obtain ⟨t, rfl⟩ := r
    cases (show T = "str" from ty)
    exact ⟨typeIs_str s z t, fun _ e => nomatch e⟩
  | int i =>
    obtain ⟨t, rfl⟩ := r
    cases (show T = "int" from ty)
    exact ⟨typeIs_int s i t, fun _ e => nomatch e⟩
  | ref p =>
    cases r
    rcases ty with ⟨rfl, xs, hq⟩ | ⟨rfl, o, hk, hc, hd⟩ | ⟨rfl, hk⟩ | ⟨rfl, S, n, hk⟩
    · obtain ⟨its, _, pl, _⟩ := I.list hq
      refine ⟨pl.isList.typeIs, fun a e => ?_⟩
      cases e
      obtain ⟨o, n, e, c, hd, _⟩ := pl
      exact ⟨o, e, hd⟩
    · refine ⟨⟨o, I.kIn p o hk, hc⟩, fun a e => ?_⟩
      cases e
      exact ⟨o, I.kIn _ o hk, hd⟩
    · have z : ∃ o, s.heap.get? p = some o ∧ o.ExactDict := by
        rcases hk with ⟨kvs, hk⟩ | ⟨kvs, hk⟩
        · obtain ⟨_, _, _, _, o, _, _, e, ex, _⟩ := I.hok p _ hk
          exact ⟨o, e, ex⟩
        · obtain ⟨_, _, _, _, o, _, _, e, ex, _⟩ := I.hok p _ hk
          exact ⟨o, e, ex⟩
      obtain ⟨o, e, ex⟩ := z
      refine ⟨⟨o, e, ex.1⟩, fun a e2 => ?_⟩
      cases e2
      exact ⟨o, e, ex.2.1⟩
    · obtain ⟨o, _, _, _, e, ex, _⟩ := I.hok p _ hk
      refine ⟨⟨o, e, ex.1⟩, fun a e2 => ?_⟩
      cases e2
      exact ⟨o, e, ex.2.1⟩
  | _ => exact False.elim ty
def tBM (K : PySem.W.Frag) (T : String) (r : V → List V → Hp → VK → Prop) (to : TE) (t : TA) : TE := fun σ H Q => to σ H fun x H1 => tyV K T x H1 ∧ t σ H1 fun xs H2 => r x xs H2 Q
variable {o e : Expr} {es : List Expr} {to : TE} {t : TA} {name : Str} {apos cpos : Pos} {T id : String} {r : V → List V → Hp → VK → Prop}
theorem pe_bm (pa : PlainAttrs T) (slot : Slot T name id) (hty : typeOf (.builtin id) = pure (.type "method_descriptor")) (hm : MtR X id r) (ho : PE X o to) (ha : PA X (e :: es) t)
    (hbase : attributeBase o name X.env (eval o X.env) = eval o X.env := by rfl)
    (hfew : ((backTo cpos (starEach (e :: es) X.env)).all (fun x => !x.1) && (backToKw cpos (keywordEach [] X.env)).all (fun x => x.1.isSome)
      && decide ((e :: es).length + ([] : List Keyword).length + (if ([] : List Keyword).isEmpty then 0 else 1) < 30)) = true := by rfl)
    (hline : (apos.endLine == cpos.line) = true := by rfl) (hs : starEach (e :: es) X.env = (false, eval e X.env) :: starEach es X.env := by rfl) (hplain : (backTo cpos (starEach es X.env)).any (·.1) = false := by rfl) :
    PE X (.Call (.Attribute o name apos) (e :: es) [] cpos) (tBM X.K T r to t) := by
  intro pins s σ H Q I h
  refine wpAny_Call_method_late hbase hfew hline rfl (thn (ho pins s σ H _ I h) fun v s1 ⟨x, H1, I1, r1, ty, q1⟩ => ?_)
  obtain ⟨h1, h2⟩ := tyV_is I1 r1 ty
  refine ⟨T, id, pa, slot, hty, h1, h2, ?_⟩
  have hA := ha cpos pins s1 σ H1 _ I1 q1
  rw [hs] at hA ⊢
  refine Calls.callWith_builtin (by show (false || (backTo cpos (starEach es X.env)).any (·.1)) = false; rw [hplain] <;> rfl) (Calls.evalArgs_plain ?_)
  exact thn hA fun us s2 ⟨vs, H2, I2, r2, q2⟩ => hm pins s2 σ H2 x vs v us Q I2 r1 r2 q2
end
end L2
namespace L2
open PySem PySem.Spec PyProof.Rows
def MtM (X : Cx) (id : String) (r : V → List V → Hp → VK → Prop) : Prop :=
  ∀ (pins : List (Addr × Obj)) (s : Shared) (σ : St) (H : Hp) (x : V) (xs : List V) (v : Value) (us : List Value) (Q : VK), Inv X pins σ H s → RelV x v → Vals xs us → r x xs H Q →
    wpAny (model X.prog X.w) X.A (call (.builtin id) (v :: us)) (EP X pins σ Q) X.xe s
theorem Vals.one : ∀ {x : V} {us : List Value}, Vals [x] us → ∃ u, us = [u] ∧ RelV x u
  | _, _, .cons r .nil => ⟨_, rfl, r⟩
theorem Vals.two : ∀ {x y : V} {us : List Value}, Vals [x, y] us → ∃ u v, us = [u, v] ∧ RelV x u ∧ RelV y v
  | _, _, _, .cons r (.cons q .nil) => ⟨_, _, rfl, r, q⟩
theorem Vals.zero : ∀ {us : List Value}, Vals [] us → us = []
  | _, .nil => rfl
theorem Vals.dropLast {xs : List V} {us : List Value} (h : Vals xs us) : Vals xs.dropLast us.dropLast := by
  induction h with
  | nil => exact .nil
  | cons r t ih =>
    cases t with
    | nil => exact .nil
    | cons q t' => exact .cons r ih
section
variable {X : Cx} {pins : List (Addr × Obj)} {σ : St} {H : Hp} {s : Shared} {l b : Addr} {xs ys zs : List V}
theorem Inv.lset {its its' : List Value} {n : Nat} {f : Array Value → Array Value} {t' : Nat} (I : Inv X pins σ H s) (hH : H l = some (.lst xs))
    (e : s.heap.get? l = some { cls := .type "list", data := .seq its.toArray n }) (hf : f its.toArray = its'.toArray) (hv : Vals ys its') (hz : ys.length ≤ sizeLine) :
    Inv X pins σ (upd H l (.lst ys)) { s with heap := s.heap.update l (Obj.mapSeq f), toks := t' } := by
  have q := PySem.IsL.update e f
  rw [hf] at q
  refine I.write (x := l) (e := l) (by rw [hH]; exact trivial) (.inl rfl) (fun b' u hb hu => (Heap.get?_update_other s.heap (Obj.mapSeq f) (Ne.symm hb)).trans hu) ⟨_, q⟩ ?_
  exact ⟨hz, its', _, hv, q⟩
theorem Inv.lnew {its : List Value} {t' : Nat} (I : Inv X pins σ H s) (hv : Vals ys its) (hz : ys.length ≤ sizeLine) :
    Inv X pins σ (upd H s.heap.objs.size (.lst ys)) { s with heap := s.heap.push { cls := .type "list", data := .seq its.toArray }, toks := t' } :=
  I.laid (fun _ _ q => Heap.get?_push_of_some _ q) (Nat.le_refl _) ⟨hz, its, 0, hv, Heap.get?_push_size _ rfl⟩
theorem Inv.fresh (I : Inv X pins σ H s) : H s.heap.objs.size = none := I.hok.fresh (Nat.le_refl _)
theorem Inv.lstM (I : Inv X pins σ H s) (hH : H l = some (.lst xs)) : xs.length ≤ sizeLine ∧ ∃ (its : List Value) (n : Nat), Vals xs its ∧ xs.length = its.length ∧ s.heap.get? l = some { cls := .type "list", data := .seq its.toArray n } := by
  obtain ⟨z, its, n, r, e⟩ := I.hok l _ hH
  exact ⟨z, its, n, r, r.length, e⟩
theorem notLongL {n : Nat} (h : n ≤ sizeLine) : Builtin.List.listTooLong n = false := by
  unfold Builtin.List.listTooLong
  exact decide_eq_false (by omega)
end
section
variable {X : Cx}
def rAppend : V → List V → Hp → VK → Prop := fun x vs H Q => ∃ l xs y, x = .ref l ∧ vs = [y] ∧ H l = some (.lst xs) ∧ xs.length < sizeLine ∧ Q .non (upd H l (.lst (xs ++ [y])))
theorem mt_append : MtM X "list.append" rAppend := by
  intro pins s σ H x vs v us Q I rx rv h
  obtain ⟨l, xs, y, rfl, rfl, hH, hz, q⟩ := h
  cases rx
  obtain ⟨u, rfl, ru⟩ := rv.one
  obtain ⟨z, its, n, r, hl, e⟩ := I.lstM hH
  refine call_meets F.slot_list_append ⟨_, e, rfl⟩ F.entry_list_append (F.args_list_append_2 _ _) (PySem.list_append l its.toArray n u (by rw [List.size_toArray]; omega)) ⟨e, ?_⟩
  refine ⟨.non, _, I.lset (its' := its ++ [u]) hH e (by simp) (r.append (.cons ru .nil)) ?_, rfl, q⟩
  rw [List.length_append, List.length_singleton]
  omega
def rExtend : V → List V → Hp → VK → Prop := fun x vs H Q => ∃ l b xs zs, x = .ref l ∧ vs = [.ref b] ∧ H l = some (.lst xs) ∧ H b = some (.lst zs) ∧ xs.length + zs.length ≤ sizeLine ∧ Q .non (upd H l (.lst (xs ++ zs)))
theorem mt_extend : MtM X "list.extend" rExtend := by
  intro pins s σ H x vs v us Q I rx rv h
  obtain ⟨l, b, xs, zs, rfl, rfl, hH, hB, hz, q⟩ := h
  cases rx
  obtain ⟨u, rfl, ru⟩ := rv.one
  cases ru
  obtain ⟨z, its, n, r, hl, e⟩ := I.lstM hH
  obtain ⟨z2, its2, n2, r2, hl2, e2⟩ := I.lstM hB
  have hsz : its.toArray.size + its2.toArray.size ≤ sizeLine := by rw [List.size_toArray, List.size_toArray]; omega
  have hlong : ¬ (!its.toArray.isEmpty && Builtin.List.listTooLong (its.toArray.size + its2.toArray.size)) = true := by
    rw [notLongL hsz, Bool.and_false]
    exact Bool.false_ne_true
  refine call_meets F.slot_list_extend ⟨_, e, rfl⟩ F.entry_list_extend (F.args_list_extend_2 _ _)
    (AutoSeq1.list_extend_list_list_0 l its.toArray n b its2.toArray n2 hlong (by rw [List.size_toArray]; omega) (by omega)) ⟨e, e2, ?_⟩
  refine ⟨.non, _, I.lset (its' := its ++ its2) hH e (by simp) (r.append r2) ?_, rfl, q⟩
  rw [List.length_append]
  omega
def rCat : R2 := fun x y H Q => ∃ l b xs zs, x = .ref l ∧ y = .ref b ∧ H l = some (.lst xs) ∧ H b = some (.lst zs) ∧ xs.length + zs.length ≤ sizeLine ∧ ∀ p, H p = none → Q (.ref p) (upd H p (.lst (xs ++ zs)))
theorem op_cat : OpR X (binaryOp .Add) rCat := by
  intro pins s σ H x y v u Q I rx ry h
  obtain ⟨l, b, xs, zs, rfl, rfl, hH, hB, hz, q⟩ := h
  cases rx
  cases ry
  obtain ⟨z, its, n, r, hl, e⟩ := I.lstM hH
  obtain ⟨z2, its2, n2, r2, hl2, e2⟩ := I.lstM hB
  refine PySem.P.add_list e e2 ?_ (by rw [List.size_toArray, List.size_toArray]; omega)
  have ea : its.toArray ++ its2.toArray = (its ++ its2).toArray := by simp
  rw [ea]
  exact ⟨.ref _, _, I.lnew (t' := s.toks) (r.append r2) (by rw [List.length_append]; omega), rfl, q _ I.fresh⟩
end
section
variable {prog : Program} {w : World} {A : Around} {E : Value → Shared → Prop} {s : Shared}
end
section
variable {X : Cx}
end
end L2
namespace L2
open PySem PySem.Spec PyProof.Rows
theorem Vals.ints : ∀ {ns : List Int} {us : List Value}, Vals (ns.map V.int) us → IntsAre us ns
  | [], us, h => by
    rw [List.map_nil] at h
    cases h
    exact IntsAre.nil
  | n :: ns, us, h => by
    rw [List.map_cons] at h
    cases h with
    | cons r t =>
      obtain ⟨k, rfl⟩ := r
      exact IntsAre.cons n k (Vals.ints t)
theorem Vals.bls : ∀ {bs : List Bool} {us : List Value}, Vals (bs.map V.bl) us → us = bs.map Value.bool
  | [], us, h => by
    rw [List.map_nil] at h
    cases h
    rfl
  | b :: bs, us, h => by
    rw [List.map_cons] at h
    cases h with
    | cons r t =>
      cases r
      rw [Vals.bls t, List.map_cons]
theorem Vals.ref1 {a : Addr} {us : List Value} (r : Vals [V.ref a] us) : us = [Value.ref a] := by
  cases r with
  | cons r t =>
    cases t
    cases r
    rfl
section
variable {prog : Program} {w : World} {A : Around} {E : Value → Shared → Prop} {s : Shared} {l : Addr} {its : List Value} {ns : List Int} {Q : Value → Shared → Prop}
end
section
variable {X : Cx}
end
section
variable {X : Cx}
end
section
variable {X : Cx}
end
theorem iter_any {prog : Program} {w : World} {A : Around} {E : Value → Shared → Prop} {s : Shared} {l : Addr} {items : Array Value} {Q : Value → Shared → Prop} (hl : s.heap.IsList l items)
    (h : ∀ s₂ : Shared, s₂ = { s with heap := s.heap.push { cls := .type "list_iterator", data := .fields #[.ref l, .int 0 0] } } →
      (s₂.heap.IsListIter s.heap.objs.size l 0 ∧ s₂.heap.IsList l items) → l ≠ s.heap.objs.size → Q (.ref s.heap.objs.size) s₂) : wpAny (model prog w) A (pyIter (.ref l)) Q E s := by
  have hlt : l < s.heap.objs.size := by obtain ⟨_, e, _⟩ := hl; exact Heap.lt_size e
  exact wpAny_pyIter_list hl (h _ rfl ⟨⟨_, Heap.get?_push_size _ rfl, rfl, rfl⟩, hl.push _⟩ (Nat.ne_of_lt hlt))
theorem truth_bools {prog : Program} {w : World} {A : Around} {bs : List Bool} {its : List Value} (e : its = bs.map Value.bool) :
    TruthOf prog w A (fun i v => its.toArray[i]? = some v) (fun i => bs.getD i false) := fun i v s Q E hv hq => by
  have hv' : its[i]? = some v := by simpa using hv
  rw [e, List.getElem?_map] at hv'
  obtain ⟨b, hb, rfl⟩ := Option.map_eq_some_iff.mp hv'
  have hg : bs.getD i false = b := by rw [List.getD_eq_getElem?_getD, hb] <;> rfl
  have hq' : Q (bs.getD i false) s := hq
  rw [hg] at hq'
  exact wpAny_truthy_bool hq'
theorem any_range : ∀ bs : List Bool, (List.range bs.length).any (fun i => bs.getD i false) = bs.any id
  | [] => rfl
  | b :: bs => by
    rw [List.length_cons, List.range_succ_eq_map, List.any_cons, List.any_map, List.any_cons, ← any_range bs]
    all_goals rfl
theorem all_range : ∀ bs : List Bool, (List.range bs.length).all (fun i => bs.getD i false) = bs.all id
  | [] => rfl
  | b :: bs => by
    rw [List.length_cons, List.range_succ_eq_map, List.all_cons, List.all_map, List.all_cons, ← all_range bs]
    all_goals rfl
section
variable {X : Cx}
def rAny (K : PySem.W.Frag) : List V → Hp → VK → Prop := fun vs H Q => ∃ (a : Addr) (bs : List Bool), vs = [V.ref a] ∧ SqL K H a (bs.map V.bl) ∧ Q (.bl (bs.any id)) H
def rAll (K : PySem.W.Frag) : List V → Hp → VK → Prop := fun vs H Q => ∃ (a : Addr) (bs : List Bool), vs = [V.ref a] ∧ SqL K H a (bs.map V.bl) ∧ Q (.bl (bs.all id)) H
theorem cr_any (hc : X.calm = true) : CallR X (.builtin "any") (rAny X.K) := by
  intro pins s σ H vs us Q I r h
  obtain ⟨a, bs, rfl, hs, q⟩ := h
  obtain ⟨its, rv, hl, _⟩ := I.list hs
  rw [Vals.ref1 r]
  have hb := rv.bls
  refine call_any_walk (iter_any hl.isList fun s₂ e2 st hne => ?_)
  subst e2
  refine ⟨_, _, _, _, _, _, _, rfl, Walks.list (A := X.A.in1) (I.ok.hd hc) _ a hne its.toArray, st, truth_bools hb, fun h' tk hk => ?_⟩
  refine ⟨.bl _, H, I.kept fun b o eo => hk b o (fun hmem => ?_) (Heap.get?_push_of_some _ eo), ?_, q⟩
  · rcases List.mem_cons.mp hmem with e1 | hmem
    · exact absurd (e1 ▸ Heap.lt_size eo) (Nat.lt_irrefl _)
    · cases hmem
  · show Value.bool _ = Value.bool _
    rw [← any_range, hb, List.size_toArray, List.length_map]
theorem cr_all (hc : X.calm = true) : CallR X (.builtin "all") (rAll X.K) := by
  intro pins s σ H vs us Q I r h
  obtain ⟨a, bs, rfl, hs, q⟩ := h
  obtain ⟨its, rv, hl, _⟩ := I.list hs
  rw [Vals.ref1 r]
  have hb := rv.bls
  refine call_all_walk (iter_any hl.isList fun s₂ e2 st hne => ?_)
  subst e2
  refine ⟨_, _, _, _, _, _, _, rfl, Walks.list (A := X.A.in1) (I.ok.hd hc) _ a hne its.toArray, st, truth_bools hb, fun h' tk hk => ?_⟩
  refine ⟨.bl _, H, I.kept fun b o eo => hk b o (fun hmem => ?_) (Heap.get?_push_of_some _ eo), ?_, q⟩
  · rcases List.mem_cons.mp hmem with e1 | hmem
    · exact absurd (e1 ▸ Heap.lt_size eo) (Nat.lt_irrefl _)
    · cases hmem
  · show Value.bool _ = Value.bool _
    rw [← all_range, hb, List.size_toArray, List.length_map]
end
mutual
inductive Dp (K : PySem.W.Frag) (H : Hp) : V → PyData → Prop
  | non : Dp K H .non .none
  | bl (b : Bool) : Dp K H (.bl b) (.bool b)
  | int (i : Int) : Dp K H (.int i) (.int i)
  | str (x : Str) : Dp K H (.str x) (.str x)
  | lst {a : Addr} {xs : List V} {ds : List PyData} : SqL K H a xs → DpAll K H xs ds → Dp K H (.ref a) (.list ds)
  | tup {a : Addr} {xs : List V} {ds : List PyData} : SqT K H a xs → DpAll K H xs ds → Dp K H (.ref a) (.tuple ds)
inductive DpAll (K : PySem.W.Frag) (H : Hp) : List V → List PyData → Prop
  | nil : DpAll K H [] []
  | cons {v : V} {vs : List V} {d : PyData} {ds : List PyData} : Dp K H v d → DpAll K H vs ds → DpAll K H (v :: vs) (d :: ds)
end
section
variable {X : Cx} {pins : List (Addr × Obj)} {σ : St} {H : Hp} {s : Shared}
mutual
theorem Dp.reads (I : Inv X pins σ H s) : ∀ (d : PyData) (v : V) (u : Value), Dp X.K H v d → RelV v u → ∃ as, Reads s.heap u d as
  | .none, _, _, h, r => by
    cases h
    cases r
    exact ⟨_, Reads.none⟩
  | .bool b, _, _, h, r => by
    cases h
    cases r
    exact ⟨_, Reads.bool b⟩
  | .int i, _, _, h, r => by
    cases h
    obtain ⟨t, rfl⟩ := r
    exact ⟨_, Reads.int i t⟩
  | .str x, _, _, h, r => by
    cases h
    obtain ⟨t, rfl⟩ := r
    exact ⟨_, Reads.str x t⟩
  | .list ds, _, _, h, r => by
    cases h with
    | lst hs ha =>
      cases r
      obtain ⟨its, rv, ⟨o, n, ho, hc, _, hd⟩, _⟩ := I.list hs
      obtain ⟨as, hr⟩ := Dp.readsAll I ds _ its ha rv
      exact ⟨_, Reads.list ho hc hd hr⟩
  | .tuple ds, _, _, h, r => by
    cases h with
    | tup hs ha =>
      cases r
      obtain ⟨its, rv, ⟨o, ho, hc, n, hd⟩, _⟩ := I.tuple hs
      obtain ⟨as, hr⟩ := Dp.readsAll I ds _ its ha rv
      exact ⟨_, Reads.tuple ho hc hd hr⟩
  | .dict _, _, _, h, _ => by cases h
theorem Dp.readsAll (I : Inv X pins σ H s) : ∀ (ds : List PyData) (vs : List V) (us : List Value), DpAll X.K H vs ds → Vals vs us → ∃ as, ReadsAll s.heap us ds as
  | [], _, _, h, r => by
    cases h
    cases r
    exact ⟨_, ReadsAll.nil⟩
  | d :: ds, _, _, h, r => by
    cases h with
    | cons h1 h2 =>
      cases r with
      | cons r1 r2 =>
        obtain ⟨as, q1⟩ := Dp.reads I d _ _ h1 r1
        obtain ⟨bs, q2⟩ := Dp.readsAll I ds _ _ h2 r2
        exact ⟨_, ReadsAll.cons q1 q2⟩
end
end
section
variable {X : Cx}
def rEqD (K : PySem.W.Frag) : R2 := fun x y H Q => ∃ d e, Dp K H x d ∧ Dp K H y e ∧ SeqAt.shaped d = true ∧ SeqAt.shaped e = true ∧ Q (.bl (PyData.eqv d e)) H
def rNeD (K : PySem.W.Frag) : R2 := fun x y H Q => ∃ d e, Dp K H x d ∧ Dp K H y e ∧ SeqAt.shaped d = true ∧ SeqAt.shaped e = true ∧ Q (.bl (!PyData.eqv d e)) H
theorem op_eqD (hu : X.A.units + 64 < cLine) : OpR X (compareOp .Eq) (rEqD X.K) := by
  intro pins s σ H x y v u Q I rx ry h
  obtain ⟨d, e, hd, he, sd, se, q⟩ := h
  obtain ⟨as, r1⟩ := Dp.reads I d x v hd rx
  obtain ⟨bs, r2⟩ := Dp.reads I e y u he ry
  exact SeqAt.compareEq_shaped r1 r2 sd se hu ⟨.bl _, H, I, rfl, q⟩
theorem op_neD (hu : X.A.units + 64 < cLine) : OpR X (compareOp .NotEq) (rNeD X.K) := by
  intro pins s σ H x y v u Q I rx ry h
  obtain ⟨d, e, hd, he, sd, se, q⟩ := h
  obtain ⟨as, r1⟩ := Dp.reads I d x v hd rx
  obtain ⟨bs, r2⟩ := Dp.reads I e y u he ry
  exact SeqAt.compareNe_shaped r1 r2 sd se hu ⟨.bl _, H, I, rfl, q⟩
end
end L2
namespace L2
open PySem PySem.Spec PyProof.Rows
abbrev CellAt (h : Heap) (c : Addr) (v : Option Value) : Prop := h.IsCell c v
def relS (scope sc : Scope) : Scope :=
  { scope with names := scope.names.map fun (n, k) => if (k == .free && sc.kind == .function && sc.names.lookup n == some .cell) then (n, .cell) else (n, k) }
def cloFrom (cells : List (Str × Addr)) : List (Str × NameKind) → List (Str × Addr) → List (Str × Addr)
  | [], acc => acc
  | (n, k) :: r, acc => if k == .free then cloFrom cells r ((n, (cells.lookup n).getD 0) :: acc) else cloFrom cells r acc
theorem closure_loop (env : Env) (f : Str × NameKind → List (Str × Addr) → Sem (ForInStep (List (Str × Addr))))
    (hf : ∀ n k c, f (n, k) c = if k == .free then (do let a ← cellOf env n; pure (.yield ((n, a) :: c))) else pure (.yield c)) :
    ∀ (names : List (Str × NameKind)) (acc : List (Str × Addr)), (∀ y ∈ names, y.2 = .free → ∃ c, env.cells.lookup y.1 = some c) → forIn names acc f = pure (cloFrom env.cells names acc)
  | [], acc, _ => by rw [List.forIn_nil]; rfl
  | (n, k) :: r, acc, h => by
    rw [List.forIn_cons, hf]
    have ih := fun acc => closure_loop env f hf r acc fun y hy => h y (List.mem_cons_of_mem _ hy)
    unfold cloFrom
    by_cases hk : (k == NameKind.free) = true
    · rw [if_pos hk, if_pos hk]
      obtain ⟨c, hc⟩ := h (n, k) List.mem_cons_self (by simpa using hk)
      have e : cellOf env n = pure c := by unfold cellOf; rw [hc]
      rw [e]
      have e2 : (env.cells.lookup n).getD 0 = c := by rw [hc]; rfl
      rw [e2]
      exact ih _
    · rw [if_neg hk, if_neg hk]
      exact ih _
theorem closure_ok {scope : Scope} {env : Env} (h : ∀ y ∈ scope.names, y.2 = .free → ∃ c, env.cells.lookup y.1 = some c) : closureFor scope env = pure (cloFrom env.cells scope.names []) := by
  simp only [closureFor]
  rw [closure_loop env _ (fun n k c => rfl) scope.names [] h]
  rfl
theorem mem_lookup {α : Type} : ∀ {l : List (Str × α)} {n : Str} {c : α}, (n, c) ∈ l → ∃ c', l.lookup n = some c'
  | (k, v) :: r, n, c, h => by
    rw [List.lookup_cons]
    cases hb : n == k with
    | true => exact ⟨_, rfl⟩
    | false =>
      rcases List.mem_cons.mp h with e | h
      · cases e; simp at hb
      · exact mem_lookup h
theorem cloFrom_mem {cells : List (Str × Addr)} : ∀ {names : List (Str × NameKind)} {acc : List (Str × Addr)} {n : Str} {c : Addr}, (n, c) ∈ cloFrom cells names acc → (n, c) ∈ acc ∨ ((n, .free) ∈ names ∧ c = (cells.lookup n).getD 0)
  | [], _, _, _, h => .inl h
  | (m, k) :: r, acc, n, c, h => by
    unfold cloFrom at h
    split at h
    · rename_i hk
      have hk : k = .free := by simpa using hk
      rcases cloFrom_mem h with h | ⟨h1, h2⟩
      · rcases List.mem_cons.mp h with e | h
        · cases e; exact .inr ⟨hk ▸ List.mem_cons_self, rfl⟩
        · exact .inl h
      · exact .inr ⟨List.mem_cons_of_mem _ h1, h2⟩
    · rcases cloFrom_mem h with h | ⟨h1, h2⟩
      · exact .inl h
      · exact .inr ⟨List.mem_cons_of_mem _ h1, h2⟩
theorem cloFrom_acc {cells : List (Str × Addr)} : ∀ {names : List (Str × NameKind)} {acc : List (Str × Addr)} {p : Str × Addr}, p ∈ acc → p ∈ cloFrom cells names acc
  | [], _, _, h => h
  | (m, k) :: r, acc, p, h => by
    unfold cloFrom
    split
    · exact cloFrom_acc (List.mem_cons_of_mem _ h)
    · exact cloFrom_acc h
theorem cloFrom_has {cells : List (Str × Addr)} : ∀ {names : List (Str × NameKind)} {acc : List (Str × Addr)} {n : Str}, (n, .free) ∈ names → (n, (cells.lookup n).getD 0) ∈ cloFrom cells names acc
  | (m, k) :: r, acc, n, h => by
    unfold cloFrom
    rcases List.mem_cons.mp h with e | h
    · cases e
      exact cloFrom_acc List.mem_cons_self
    · split
      · exact cloFrom_has h
      · exact cloFrom_has h
theorem cells_mem : ∀ {names : List (Str × NameKind)} {h : Heap} {acc : List (Str × Addr)} {x : Str} {c : Addr}, (x, c) ∈ cellsFrom h.objs.size names acc →
    (x, c) ∈ acc ∨ ((x, .cell) ∈ names ∧ h.objs.size ≤ c ∧ CellAt (pushCells h names) c none)
  | [], _, _, _, _, h => .inl h
  | (n, k) :: r, h, acc, x, c, hm => by
    unfold cellsFrom at hm
    unfold pushCells
    split at hm
    · rename_i hk
      rw [if_pos hk]
      have hk : k = .cell := by simpa using hk
      rw [← Heap.size_push h { cls := .type "cell", data := .cell none }] at hm
      rcases cells_mem hm with hm | ⟨h1, h2, h3⟩
      · rcases List.mem_cons.mp hm with e | hm
        · cases e
          exact .inr ⟨hk ▸ List.mem_cons_self, Nat.le_refl _, _, pushCells_keeps r _ _ _ (Heap.get?_push_size _ rfl), rfl⟩
        · exact .inl hm
      · rw [Heap.size_push] at h2
        exact .inr ⟨List.mem_cons_of_mem _ h1, Nat.le_of_succ_le h2, h3⟩
    · rename_i hk
      rw [if_neg hk]
      rcases cells_mem hm with hm | ⟨h1, h2, h3⟩
      · exact .inl hm
      · exact .inr ⟨List.mem_cons_of_mem _ h1, h2, h3⟩
theorem cells_acc : ∀ {names : List (Str × NameKind)} {n : Nat} {acc : List (Str × Addr)} {p : Str × Addr}, p ∈ acc → p ∈ cellsFrom n names acc
  | [], _, _, _, h => h
  | (m, k) :: r, n, acc, p, h => by
    unfold cellsFrom
    split
    · exact cells_acc (List.mem_cons_of_mem _ h)
    · exact cells_acc h
theorem cells_has : ∀ {names : List (Str × NameKind)} {n : Nat} {acc : List (Str × Addr)} {x : Str}, (x, .cell) ∈ names → ∃ c, (x, c) ∈ cellsFrom n names acc
  | (m, k) :: r, n, acc, x, h => by
    unfold cellsFrom
    rcases List.mem_cons.mp h with e | h
    · cases e
      exact ⟨n, cells_acc List.mem_cons_self⟩
    · split
      · exact cells_has h
      · exact cells_has h
theorem cells_inj : ∀ {names : List (Str × NameKind)} {h : Heap} {acc : List (Str × Addr)} {x y : Str} {c : Addr}, (∀ p ∈ acc, p.2 < h.objs.size) → (∀ x y c, (x, c) ∈ acc → (y, c) ∈ acc → x = y) →
    (x, c) ∈ cellsFrom h.objs.size names acc → (y, c) ∈ cellsFrom h.objs.size names acc → x = y
  | [], _, _, _, _, _, _, hi, h1, h2 => hi _ _ _ h1 h2
  | (n, k) :: r, h, acc, x, y, c, hl, hi, h1, h2 => by
    unfold cellsFrom at h1 h2
    split at h1
    · rename_i hk
      rw [if_pos hk] at h2
      rw [← Heap.size_push h { cls := .type "cell", data := .cell none }] at h1 h2
      refine cells_inj (h := h.push _) (fun p hp => ?_) (fun x y c a b => ?_) h1 h2
      · rw [Heap.size_push]
        rcases List.mem_cons.mp hp with rfl | hp
        · exact Nat.lt_succ_self _
        · exact Nat.lt_succ_of_lt (hl p hp)
      · rcases List.mem_cons.mp a with e | a <;> rcases List.mem_cons.mp b with e' | b
        · cases e; cases e'; rfl
        · cases e; exact absurd (hl _ b) (Nat.lt_irrefl _)
        · cases e'; exact absurd (hl _ a) (Nat.lt_irrefl _)
        · exact hi _ _ _ a b
    · rename_i hk
      rw [if_neg hk] at h2
      exact cells_inj hl hi h1 h2
theorem newEnv_comp {M : Model} {A : Around} {E : Value → Shared → Prop} {s : Shared} {scope : Scope} {globals : Addr} {closure : List (Str × Addr)} {qual : Str} {func : Option Addr} {code : Value} {around : Env} {builtins : Addr} {Q : Env → Shared → Prop}
    (h : Q (newEnv scope s.heap.objs.size globals (cellsFrom (s.heap.objs.size + 1) scope.names closure) qual func code (some around) builtins)
      { s with heap := pushCells (s.heap.push { cls := .type "dict", data := .dict #[] }) scope.names }) :
    wpAny M A (newFunctionEnv scope globals closure [] qual func code (some around) builtins) Q E s := by
  simp only [newFunctionEnv, Option.isSome_some, if_true]
  refine wpAny_bind (wpAny_alloc ?_)
  refine wpAny_bind (wpAny_layCells _ (fun n k c => rfl) scope.names closure _ _ ?_)
  rw [show ({ s with heap := s.heap.push { cls := .type "dict", data := .dict #[] } } : Shared).heap.objs.size = s.heap.objs.size + 1 from Heap.size_push ..]
  rw [List.forIn_nil]
  exact wpAny_bind (wpAny_pure (wpAny_pure h))
/-- every name of the written scope, in the scope that runs -/
theorem lookup_relS {sc : Scope} : ∀ {names : List (Str × NameKind)} {x : Str} {k : NameKind},
    (names.map fun (n, k) => if (k == NameKind.free && sc.kind == .function && sc.names.lookup n == some .cell) then (n, NameKind.cell) else (n, k)).lookup x = some k →
    ∃ k', names.lookup x = some k' ∧ (k = k' ∨ (k' = .free ∧ k = .cell))
  | [], _, _, h => by simp at h
  | (n, k₀) :: r, x, k, h => by
    have ih := @lookup_relS sc r x k
    have h' : List.lookup x ((if (k₀ == NameKind.free && sc.kind == .function && sc.names.lookup n == some .cell) = true then (n, NameKind.cell) else (n, k₀)) :: (r.map _)) = some k := h
    cases hx : x == n with
    | true =>
      simp only [List.lookup_cons, hx]
      by_cases hc : (k₀ == NameKind.free && sc.kind == .function && sc.names.lookup n == some .cell) = true
      · rw [if_pos hc] at h'
        simp only [List.lookup_cons, hx] at h'
        cases h'
        simp only [Bool.and_eq_true, beq_iff_eq] at hc
        exact ⟨k₀, rfl, .inr ⟨hc.1.1, rfl⟩⟩
      · rw [if_neg hc] at h'
        simp only [List.lookup_cons, hx] at h'
        cases h'
        exact ⟨_, rfl, .inl rfl⟩
    | false =>
      simp only [List.lookup_cons, hx]
      by_cases hc : (k₀ == NameKind.free && sc.kind == .function && sc.names.lookup n == some .cell) = true
      · rw [if_pos hc] at h'
        simp only [List.lookup_cons, hx] at h'
        exact ih h'
      · rw [if_neg hc] at h'
        simp only [List.lookup_cons, hx] at h'
        exact ih h'
/-- the names of a comprehension's block: its own (with their places in N), or captured -/
structure BlkOk (N : List Str) (sc scope : Scope) (own : List (Str × Nat)) : Prop where
  kind : scope.kind = .function
  uniq : ∀ y ∈ scope.names, scope.names.lookup y.1 = some y.2
  ix : ∀ p ∈ own, N[p.2]? = some p.1
  free : ∀ y ∈ scope.names, y.2 = .free → sc.names.lookup y.1 = some .cell ∨ sc.names.lookup y.1 = some .free
  own : ∀ y ∈ scope.names, y.2 = .local ∨ y.2 = .cell → y.1 ∈ own.map (·.1) ∨ y.1 ∉ N
/-- the slots of the block's own names forgotten -/
def wipe (σ : St) : List Nat → St
  | [] => σ
  | v :: vs => (wipe σ vs).set v none
theorem wipe_length (σ : St) : ∀ vs : List Nat, (wipe σ vs).length = σ.length
  | [] => rfl
  | v :: vs => by unfold wipe; rw [List.length_set, wipe_length σ vs]
theorem wipe_some {σ : St} {i : Nat} {x : V} : ∀ {vs : List Nat}, (wipe σ vs)[i]? = some (some x) → σ[i]? = some (some x) ∧ i ∉ vs
  | [], h => ⟨h, by simp⟩
  | v :: vs, h => by
    unfold wipe at h
    by_cases hi : v = i
    · subst hi
      by_cases hv : v < (wipe σ vs).length
      · rw [List.getElem?_set_self hv] at h; cases h
      · rw [List.getElem?_eq_none (by simpa using hv)] at h; cases h
    · rw [List.getElem?_set_ne hi] at h
      obtain ⟨h1, h2⟩ := wipe_some h
      exact ⟨h1, by simp only [List.mem_cons, not_or]; exact ⟨fun e => hi e.symm, h2⟩⟩
/-- the context of a block that starts at s, its iterator's objects at fp -/
abbrev Cx.blk (X : Cx) (s : Shared) (H : Hp) (scope : Scope) (cenv : Env) (fp : List Addr) : Cx := { X with s_0 := s, H_0 := H, env := cenv, outer := X.stack, ex := fp, fn := fun x => scope.names.lookup x == some .cell, pn := [], xe := fun _ _ => False }
section
variable {X : Cx} {pins : List (Addr × Obj)} {σ : St} {H : Hp} {s : Shared}
theorem block_start {scope : Scope} {own : List (Str × Nat)} {fp : List Addr} (I : Inv X pins σ H s) (ok : BlkOk X.N X.env.scope scope own) (hN : X.N.Nodup) (hfp : ∀ b ∈ fp, FpOk X pins H b ∧ b < s.heap.objs.size) :
    Inv (X.blk s H scope (compEnvC scope (cellsFrom (s.heap.objs.size + 1) scope.names (cloFrom X.env.cells scope.names [])) s.heap.objs.size X.env) fp) [] (wipe σ (own.map (·.2))) H { s with heap := pushCells (s.heap.push { cls := .type "dict", data := .dict #[] }) scope.names } := by
  have hfree : ∀ y ∈ scope.names, y.2 = .free → ∃ c, X.env.cells.lookup y.1 = some c := fun y hy e => by
    rcases ok.free y hy e with k | k
    · exact I.ok.has _ (.inl k)
    · exact I.ok.has _ (.inr k)
  generalize hcenv : compEnvC scope (cellsFrom (s.heap.objs.size + 1) scope.names (cloFrom X.env.cells scope.names [])) s.heap.objs.size X.env = cenv
  have kp : ∀ b o, s.heap.get? b = some o → (pushCells (s.heap.push { cls := .type "dict", data := .dict #[] }) scope.names).get? b = some o := fun b o e => pushCells_keeps _ _ _ _ (Heap.get?_push_of_some _ e)
  have hL : cenv.locals = s.heap.objs.size := by rw [← hcenv]; rfl
  have hcl : cenv.cells = cellsFrom (s.heap.objs.size + 1) scope.names (cloFrom X.env.cells scope.names []) := by rw [← hcenv]; rfl
  have hsc : cenv.scope = relS scope X.env.scope := by rw [← hcenv]; rfl
  rw [← Heap.size_push s.heap { cls := .type "dict", data := .dict #[] }] at hcl
  have cm : ∀ {y c}, (y, c) ∈ cloFrom X.env.cells scope.names [] → X.env.cells.lookup y = some c ∧ c < s.heap.objs.size := fun {y c} hm => by
    rcases cloFrom_mem hm with hm | ⟨h1, rfl⟩
    · cases hm
    · obtain ⟨c, hc⟩ := hfree _ h1 rfl
      rw [hc]
      obtain ⟨w, z⟩ := I.cell _ _ hc
      exact ⟨rfl, z.lt⟩
  have mem : ∀ {y c}, cenv.cells.lookup y = some c → (X.env.cells.lookup y = some c ∧ c < s.heap.objs.size) ∨ (s.heap.objs.size + 1 ≤ c ∧ CellAt (pushCells (s.heap.push { cls := .type "dict", data := .dict #[] }) scope.names) c none) := fun {y c} e => by
    rw [hcl] at e
    rcases cells_mem (PySem.mem_of_lookup e) with hm | ⟨_, h2, h3⟩
    · exact .inl (cm hm)
    · rw [Heap.size_push] at h2; exact .inr ⟨h2, h3⟩
  have look : ∀ {y}, scope.names.lookup y = some .free → ∃ c, cenv.cells.lookup y = some c ∧ X.env.cells.lookup y = some c := fun {y} hl => by
    have hy : (y, NameKind.free) ∈ scope.names := PySem.mem_of_lookup hl
    obtain ⟨c', e'⟩ := mem_lookup (cells_acc (names := scope.names) (n := (s.heap.push { cls := .type "dict", data := .dict #[] }).objs.size) (cloFrom_has (cells := X.env.cells) (acc := []) hy))
    rw [← hcl] at e'
    refine ⟨c', e', ?_⟩
    rw [hcl] at e'
    rcases cells_mem (PySem.mem_of_lookup e') with hm | ⟨h1, _, _⟩
    · exact (cm hm).1
    · have := ok.uniq _ h1
      rw [hl] at this; cases this
  have okB : (X.blk s H scope cenv fp).Ok := by
    refine ⟨I.ok.mod, by show cenv.scope.kind = _; rw [hsc]; exact ok.kind, by show cenv.globals = _; rw [← hcenv]; exact I.ok.glob, by show cenv.builtins = _; rw [← hcenv]; exact I.ok.blt, by show s.heap.objs.size ≤ cenv.locals; rw [hL]; exact Nat.le_refl _,
      fun y z c e1 e2 => ?_, fun y hy => ?_, fun y c z e => ?_, I.ok.hd, I.ok.frames, .inl rfl, fun b hb => ⟨?_, fun y c e z => ?_⟩, I.bs, Nat.le_trans I.ok.bsz I.sz, fun b o e hb => ?_, fun b hb z => ?_, I.stack, I.stkFree⟩
    · have e1 : cenv.cells.lookup y = some c := e1
      have e2 : cenv.cells.lookup z = some c := e2
      rw [hcl] at e1 e2
      refine cells_inj (fun p hp => ?_) (fun y z c a b => I.ok.inj y z c (cm a).1 (cm b).1) (PySem.mem_of_lookup e1) (PySem.mem_of_lookup e2)
      rw [Heap.size_push]
      exact Nat.lt_succ_of_lt (cm (y := p.1) (c := p.2) hp).2
    · show ∃ c, cenv.cells.lookup y = some c
      have key : ∀ k, cenv.kindOf y = some k → (k = .cell ∨ k = .free) → ∃ c, cenv.cells.lookup y = some c := fun k hk hk' => by
        unfold Env.kindOf at hk
        rw [hsc] at hk
        obtain ⟨k', e, r⟩ := lookup_relS hk
        have : k' = .cell ∨ k' = .free := by
          rcases r with rfl | ⟨rfl, _⟩
          · exact hk'
          · exact .inr rfl
        rcases this with rfl | rfl
        · obtain ⟨c, hm⟩ := cells_has (n := (s.heap.push { cls := .type "dict", data := .dict #[] }).objs.size) (acc := cloFrom X.env.cells scope.names []) (PySem.mem_of_lookup e)
          obtain ⟨c', e'⟩ := mem_lookup hm
          exact ⟨c', by rw [hcl]; exact e'⟩
        · obtain ⟨c, h1, _⟩ := look e
          exact ⟨c, h1⟩
      rcases hy with hy | hy
      · exact key _ hy (.inl rfl)
      · exact key _ hy (.inr rfl)
    · have z : (scope.names.lookup y == some NameKind.cell) = true := z
      have z : scope.names.lookup y = some .cell := by simpa using z
      have e : cenv.cells.lookup y = some c := e
      rw [hcl] at e
      rcases cells_mem (PySem.mem_of_lookup e) with hm | ⟨_, h2, _⟩
      · rcases cloFrom_mem hm with hm | ⟨h1, _⟩
        · cases hm
        · have q := ok.uniq _ h1
          rw [z] at q; cases q
      · rw [Heap.size_push] at h2
        exact Nat.le_of_succ_le h2
    · show b ≠ cenv.locals
      rw [hL]; exact Nat.ne_of_lt (hfp b hb).2
    · have e : cenv.cells.lookup y = some c := e
      rcases mem e with ⟨h1, _⟩ | ⟨h1, _⟩
      · exact (hfp b hb).1.2.2.2.2.1 y c h1 z
      · have h2 : s.heap.objs.size + 1 ≤ b := by rw [← z]; exact h1
        exact absurd (Nat.lt_of_lt_of_le (hfp b hb).2 (Nat.le_of_succ_le h2)) (Nat.lt_irrefl _)
    · rcases (hfp b hb).1.2.2.2.1 with z | z
      · exact I.ok.noex b o e z
      · exact absurd (Nat.lt_of_lt_of_le (Heap.lt_size e) (Nat.le_trans I.ok.bsz z)) (Nat.lt_irrefl _)
    · rcases List.mem_cons.mp (I.stkSub b z) with z | z
      · exact (hfp b hb).1.2.1 z
      · exact (hfp b hb).1.2.2.1 z
  refine ⟨okB, rfl, I.bare, Un.kept kp, ⟨fun _ => none, ?_, fun i y av e1 e2 e3 => ?_⟩, fun y c e => ?_, ?_, fun y c e => ?_, fun p hp => ?_, I.hok.kept kp, by rw [wipe_length]; exact I.len⟩
  · show Heap.Ns _ cenv.locals _
    rw [hL]
    exact Heap.Ns.keeps (Heap.Ns.new ..) fun b o e => pushCells_keeps _ _ _ _ e
  · obtain ⟨e2, hne⟩ := wipe_some e2
    have hfr : scope.names.lookup y = some .free ∧ (cenv.kindOf y = some .cell ∨ cenv.kindOf y = some .free) := by
      have key : ∀ k, cenv.scope.names.lookup y = some k → k = .local ∨ k = .cell ∨ k = .free → scope.names.lookup y = some .free ∧ (cenv.kindOf y = some .cell ∨ cenv.kindOf y = some .free) := fun k hk hk' => by
        have hk0 := hk
        rw [hsc] at hk
        obtain ⟨k', e, r⟩ := lookup_relS hk
        have no : ¬ (k' = .local ∨ k' = .cell) := fun hh => by
          rcases ok.own _ (PySem.mem_of_lookup e) hh with e' | e'
          · obtain ⟨p, hp, hpy⟩ := List.mem_map.mp e'
            have e3 := ok.ix p hp
            have : p.1 = y := hpy
            rw [this] at e3
            exact hne (List.mem_map.mpr ⟨p, hp, nodup_ix hN e3 e1⟩)
          · exact e' (List.mem_of_getElem? e1)
        rcases r with rfl | ⟨rfl, rfl⟩
        · rcases hk' with rfl | rfl | rfl
          · exact absurd (.inl rfl) no
          · exact absurd (.inr rfl) no
          · exact ⟨e, .inr hk0⟩
        · exact ⟨e, .inl hk0⟩
      have e3 : Vis cenv.scope y := e3
      rcases e3 with e3 | e3 | e3
      · exact key _ e3 (.inl rfl)
      · exact key _ e3 (.inr (.inl rfl))
      · exact key _ e3 (.inr (.inr rfl))
    obtain ⟨m, hn, hl⟩ := I.loc
    have hvis : Vis X.env.scope y := (ok.free _ (PySem.mem_of_lookup hfr.1) rfl).elim (fun k => .inr (.inl k)) (fun k => .inr (.inr k))
    obtain ⟨w, r, q⟩ := hl i y av e1 e2 hvis
    refine ⟨w, r, .inr ⟨hfr.2, ?_⟩⟩
    obtain ⟨c, h1, h2⟩ := look hfr.1
    rcases q with ⟨k, _⟩ | ⟨_, c', e', z⟩
    · have k : X.env.scope.names.lookup y = some .local := k
      rcases ok.free _ (PySem.mem_of_lookup hfr.1) rfl with k' | k' <;> rw [show X.env.scope.names.lookup y = _ from k'] at k <;> cases k
    · rw [h2] at e'; cases e'
      exact ⟨c, h1, z.keeps kp⟩
  · have e : cenv.cells.lookup y = some c := e
    rcases mem e with ⟨h1, _⟩ | ⟨_, z⟩
    · obtain ⟨w, z⟩ := I.cell y c h1
      exact ⟨w, z.keeps kp⟩
    · exact ⟨_, z⟩
  · show H cenv.locals = none
    rw [hL]; exact I.hok.fresh (Nat.le_refl _)
  · have e : cenv.cells.lookup y = some c := e
    rcases mem e with ⟨h1, _⟩ | ⟨h1, _⟩
    · exact I.freeC y c h1
    · exact I.hok.fresh (Nat.le_of_succ_le h1)
  · exact absurd (show p ∈ ([] : List (Addr × Obj)) ++ [] from hp) (by simp)
/-- an item appended to a tracked list -/
theorem app_ok {E : Value → Shared → Prop} {D : Addr} {xs : List V} {y : V} {v : Value} {Q : Value → Shared → Prop} (I : Inv X pins σ H s) (hD : H D = some (.lst xs)) (hz : xs.length < sizeLine) (r : RelV y v)
    (h : ∀ s', Inv X pins σ (upd H D (.lst (xs ++ [y]))) s' → Q .none s') : wpAny (model X.prog X.w) X.A (call (.builtin "list.append") [.ref D, v]) Q E s := by
  obtain ⟨hz', its, n, ri, e⟩ := I.hok D _ hD
  have hl := ri.length
  refine append_at (hsz := by rw [List.size_toArray]; omega) e fun h' sb ho' => ?_
  refine h { s with heap := h' } (I.write (t' := s.toks) (by rw [hD]; trivial) (.inl rfl) (fun b u hb q => (sb.2 b hb).trans q) ⟨_, ho'⟩ ⟨by rw [List.length_append]; exact hz, its ++ [v], n + 1, ri.append (.cons r .nil), ?_⟩)
  rw [ho']
  simp
/-- a clause's tests -/
def PTs (X : Cx) (ifs : List Expr) (t : TT) : Prop :=
  ∀ (pins : List (Addr × Obj)) (s : Shared) (σ : St) (H : Hp) (Q : Bool → Hp → Prop), Inv X pins σ H s → t σ H Q →
    wpAny (model X.prog X.w) X.A (forIn ifs true fun c r => if r = true then do let ok ← isTrue c X.env (eval c X.env); pure (ForInStep.yield ok) else pure (ForInStep.yield r)) (TP X pins σ Q) X.xe s
def tYes : TT := fun _ H Q => Q true H
theorem pts_nil : PTs X [] tYes := fun _ _ _ H _ I h => wpAny_tests_nil ⟨H, I, h⟩
theorem pts_one {c : Expr} {t : TT} (h : PT X c t) : PTs X [c] t := fun pins s σ H Q I hw => wpAny_tests_one (h pins s σ H Q I hw)
end
theorem thnF {α : Type} {t : Sem α} {Q Q' : α → Shared → Prop} {M : Model} {A : Around} {E : Value → Shared → Prop} {s : Shared} (h : wpAny M A t Q (fun _ _ => False) s) (hQ : ∀ a s, Q a s → Q' a s) : wpAny M A t Q' E s := wpAny_mono h hQ fun _ _ z => False.elim z
/-- the loop of a list comprehension's block, the target of any form (codeAny_compLoop_tests asks a target that no tuple goes to; statement and proof follow it, PyProof/CompMap.lean:41-61, with the step letOwnedTupleGo kept) -/
theorem compLoop_any {prog : Program} {w : World} {A : Around} {R : Result → Shared → Prop} {s : Shared} {elt target iter : Expr} {ifs : List Expr} {scope : Scope} {pos : Pos} {it acc : Value} {env : Env} (I : Nat → Shared → Prop)
    (turn : ∀ n s, I n s → wpAny (model prog w) A (pyNext it) (fun r s₁ => match r with
      | none => R (.ok .next) s₁
      | some v => wpAny (model prog w) A (letOwnedTupleGo target it v) (fun _ s₁' => wpAny (model prog w) A (assign target env v) (fun _ s₂ =>
          wpAny (model prog w) A (forIn ifs true fun c r => if r = true then do let ok ← isTrue c env (eval c env); pure (ForInStep.yield ok) else pure (ForInStep.yield r)) (fun ok s₃ =>
            if ok = true then wpAny (model prog w) A (eval elt env) (fun x s₄ =>
              wpAny (model prog w) A (call (.builtin "list.append") [acc, x]) (fun _ s₅ => ∃ m, m < n ∧ I m s₅) (notedBy (model prog w) A env fun e s' => R (.error e) s') s₄) (notedBy (model prog w) A env fun e s' => R (.error e) s') s₃
            else ∃ m, m < n ∧ I m s₃) (notedBy (model prog w) A env fun e s' => R (.error e) s') s₂) (notedBy (model prog w) A env fun e s' => R (.error e) s') s₁') (notedBy (model prog w) A env fun e s' => R (.error e) s') s₁) (notedBy (model prog w) A env fun e s' => R (.error e) s') s)
    (n : Nat) (h : I n s) :
    codeAny (model prog w) A (.compLoop (.ListComp elt [⟨target, iter, ifs, 0⟩] scope pos) 0 it acc env) R s := by
  refine codeAny_loop rfl I (fun n s hI => ?_) n h
  show wpAny _ A ((compTurn (.ListComp elt [⟨target, iter, ifs, 0⟩] scope pos) 0 it acc env).onRaise (fun x => do noteFrame x env; theTreesLotGoes x)) _ _ s
  refine wpAny_noted ?_
  rw [compTurn_list]
  refine wpAny_bind (wpAny_standAt (wpAny_bind (wpAny_mono (turn n s hI) (fun r s₁ h₁ => ?_) fun _ _ h' => h')))
  cases r with
  | none => exact wpAny_pure h₁
  | some v =>
    refine wpAny_bind (wpAny_mono h₁ (fun _ s₁' h₁' => ?_) fun _ _ h' => h')
    refine wpAny_bind (wpAny_mono h₁' (fun _ s₂ h₂ => wpAny_bind (wpAny_mono h₂ (fun ok s₃ h₃ => ?_) fun _ _ h' => h')) fun _ _ h' => h')
    cases ok with
    | false => exact wpAny_pure ⟨rfl, h₃⟩
    | true =>
      exact wpAny_bind (wpAny_bind (wpAny_mono h₃ (fun x s₄ h₄ => wpAny_bind (wpAny_mono h₄ (fun _ s₅ h₅ => wpAny_pure (wpAny_pure ⟨rfl, h₅⟩)) fun _ _ h' => h')) fun _ _ h' => h'))
section
variable {X : Cx}
/-- [elt for target in iter if ..]: D the new list; W by the turn and a measure, Nx what a turn is to reach -/
def tLc (wi : TI) (g : TG) (tt : TT) (te : TE) (vs : List Nat) : TE := fun σ H Q => wi σ H fun J H1 => ∀ D, H1 D = none → ∃ W : Nat → Nat → Hp → Prop, (∃ m, W 0 m (upd H1 D (.lst []))) ∧ ∀ i m H, W i m H →
  (J.stop i H ∧ Q (.ref D) H) ∨ (J.go i H ∧ ∃ Nx : Hp → Prop, (∀ H', Nx H' → ∃ m', m' < m ∧ W (i + 1) m' H') ∧ ∀ x H', J.yld i H x H' → g x (wipe σ vs) H' fun σ2 H2 => wipe σ2 vs = wipe σ vs ∧ tt σ2 H2 fun b H3 =>
    if b = true then te σ2 H3 fun y H4 => ∃ acc, H4 D = some (.lst acc) ∧ acc.length < sizeLine ∧ Nx (upd H4 D (.lst (acc ++ [y]))) else Nx H3)
theorem lc_core {pins : List (Addr × Obj)} {s : Shared} {σ : St} {H : Hp} {Q : VK} {elt tg iter : Expr} {ifs : List Expr} {scope : Scope} {own : List (Str × Nat)} {pos pos' : Pos} {wi : TI} {g : TG} {tt : TT} {te : TE} {use : Option (Value → Sem Unit)} {Qf : Value → Shared → Prop}
    (hc : X.calm = true) (hN : X.N.Nodup) (I : Inv X pins σ H s) (hi : PI X tg iter wi) (ok : BlkOk X.N X.env.scope scope own)
    (hg : ∀ (s : Shared) (H : Hp) (C : Addr) (cl : List (Str × Addr)) (fp : List Addr), PG (X.blk s H scope (compEnvC scope cl C X.env) fp) tg g) (ht : ∀ (s : Shared) (H : Hp) (C : Addr) (cl : List (Str × Addr)) (fp : List Addr), PTs (X.blk s H scope (compEnvC scope cl C X.env) fp) ifs tt)
    (he : ∀ (s : Shared) (H : Hp) (C : Addr) (cl : List (Str × Addr)) (fp : List Addr), PE (X.blk s H scope (compEnvC scope cl C X.env) fp) elt te) (hs : ∀ x, foldedSetIterable iter X.env x = pure x)
    (h : tLc wi g tt te (own.map (·.2)) σ H Q)
    (hRR : ∀ D C s' m H', Inv X pins σ H' s' → Q (.ref D) H' → s'.heap.Ns C m → FpOk X pins H' C → compPost (model X.prog X.w) X.A X.xe use Qf (.ref D) C (.ok .next) s') :
    wpAny (model X.prog X.w) X.A (comprehension (.ListComp elt [⟨tg, iter, ifs, 0⟩] scope pos) scope X.env pos' (newList []) false (eval iter X.env) use) Qf X.xe s := by
  have hfree : ∀ y ∈ scope.names, y.2 = .free → ∃ c, X.env.cells.lookup y.1 = some c := fun y hy e => by
    rcases ok.free y hy e with k | k
    · exact I.ok.has _ (.inl k)
    · exact I.ok.has _ (.inr k)
  refine wpAny_comprehension_free (use := use) rfl hs (closure_ok hfree) ok.kind (fun y hy e => by rw [ok.uniq y hy, e])
    (thn (hi pins s σ H _ I h) fun xv s1 hx => thn hx fun itv s2 h2 => ?_)
  obtain ⟨it, fp, tn, J, H2, e, I2, T, st2, f2, q⟩ := h2
  subst e
  refine wpAny_newObj_type (newEnv_comp ?_) (by show 0 ≤ sizeLine; decide)
  generalize hD : s2.heap.objs.size = D
  have hDn : H2 D = none := I2.hok.fresh (Nat.le_of_eq hD)
  obtain ⟨W, ⟨m0, w0⟩, turn⟩ := q D hDn
  -- the new list
  generalize hs3 : ({ s2 with heap := s2.heap.push { cls := .type "list", data := .seq ([] : List Value).toArray } } : Shared) = s3
  have I3 : Inv X pins σ (upd H2 D (.lst [])) s3 := by
    rw [← hs3]
    refine I2.laid (t' := s2.toks) (fun b o e => Heap.get?_push_of_some _ e) (Nat.le_of_eq hD) ⟨Nat.zero_le _, [], 0, .nil, ?_⟩
    rw [← hD]
    exact Heap.get?_push_size _ rfl
  have h3 : s3.heap = s2.heap.push { cls := .type "list", data := .seq ([] : List Value).toArray } := by rw [← hs3]
  have sz : ∀ b ∈ fp, b < s2.heap.objs.size := fun b hb => by
    obtain ⟨o, e, _⟩ := T.obj _ _ st2 b hb
    exact Heap.lt_size e
  have f3 : ∀ b ∈ fp, FpOk X pins (upd H2 D (.lst [])) b ∧ b < s3.heap.objs.size := fun b hb => by
    have hlt := sz b hb
    refine ⟨⟨?_, (f2 b hb).2⟩, by rw [h3, Heap.size_push]; exact Nat.lt_succ_of_lt hlt⟩
    rw [upd_ne (by rw [← hD]; exact Nat.ne_of_lt hlt)]
    exact (f2 b hb).1
  have st3 : tn 0 s3.heap := T.keep _ _ _ st2 fun b _ o e => by rw [h3]; exact Heap.get?_push_of_some _ e
  have I4 := block_start I3 ok hN f3
  have pg := hg s3 (upd H2 D (.lst [])) s3.heap.objs.size (cellsFrom (s3.heap.objs.size + 1) scope.names (cloFrom X.env.cells scope.names [])) fp
  have pt := ht s3 (upd H2 D (.lst [])) s3.heap.objs.size (cellsFrom (s3.heap.objs.size + 1) scope.names (cloFrom X.env.cells scope.names [])) fp
  have pe := he s3 (upd H2 D (.lst [])) s3.heap.objs.size (cellsFrom (s3.heap.objs.size + 1) scope.names (cloFrom X.env.cells scope.names [])) fp
  show codeAny _ _ (.compStart (.ListComp elt [⟨tg, iter, ifs, 0⟩] scope pos) 0 (.ref it) (.ref D) (compEnvC scope (cellsFrom (s3.heap.objs.size + 1) scope.names (cloFrom X.env.cells scope.names [])) s3.heap.objs.size X.env)) (compPost (model X.prog X.w) X.A X.xe use Qf (.ref D) s3.heap.objs.size) { s3 with heap := pushCells (s3.heap.push { cls := .type "dict", data := .dict #[] }) scope.names }
  have nfp : ∀ b ∈ fp, (upd H2 D (.lst [])) b = none := fun b hb => (f3 b hb).1.1
  generalize hce : compEnvC scope (cellsFrom (s3.heap.objs.size + 1) scope.names (cloFrom X.env.cells scope.names [])) s3.heap.objs.size X.env = ce at I4 pg pt pe ⊢
  have cL : ce.locals = s3.heap.objs.size := by subst hce; rfl
  generalize hH3 : upd H2 D (.lst []) = H3 at I3 I4 pg pt pe w0 nfp f3
  generalize hs4 : ({ s3 with heap := pushCells (s3.heap.push { cls := .type "dict", data := .dict #[] }) scope.names } : Shared) = s4 at I4 ⊢
  have st4 : tn 0 s4.heap := T.keep _ _ _ st3 fun b _ o e => by rw [← hs4]; exact pushCells_keeps _ _ _ _ (Heap.get?_push_of_some _ e)
  have stat : ∀ {σ' : St} {H' : Hp} {s' : Shared}, Inv (X.blk s3 H3 scope ce fp) [] σ' H' s' → (∀ b ∈ fp, H' b = none) → ∀ b ∈ fp, FpOk (X.blk s3 H3 scope ce fp) [] H' b := fun {σ' H' s'} I' hn b hb =>
    ⟨hn b hb, (I'.ok.exf b hb).1, I'.ok.exfs b hb, .inl hb, fun x c e => (I'.ok.exf b hb).2 x c e, fun p hp => absurd (show p ∈ ([] : List (Addr × Obj)) ++ [] from hp) (by simp)⟩
  have loop : codeAny (model X.prog X.w) X.A (.compLoop (.ListComp elt [⟨tg, iter, ifs, 0⟩] scope pos) 0 (.ref it) (.ref D) ce) (compPost (model X.prog X.w) X.A X.xe use Qf (.ref D) s3.heap.objs.size) s4 := by
    refine compLoop_any (fun n s' => ∃ i H', Inv (X.blk s3 H3 scope ce fp) [] (wipe σ (own.map (·.2))) H' s' ∧ tn i s'.heap ∧ (∀ b ∈ fp, H' b = none) ∧ W i n H') ?_ m0 ⟨0, H3, I4, st4, nfp, w0⟩
    rintro n s5 ⟨i, H5, I5, st5, n5, w5⟩
    rcases turn i n H5 w5 with ⟨stop, qq⟩ | ⟨go, Nx, hNx, step⟩
    · have td := T.done (X.blk s3 H3 scope ce fp) rfl rfl rfl hc i [] s5 _ H5 (fun _ _ => False) I5 (stat I5 n5) st5 stop
      refine thnF td fun r s6 ⟨hr, I6⟩ => ?_
      subst hr
      -- back in the def's context
      have I7 : Inv X pins σ H5 s6 := I3.call' (ch := fp) I6.os I6.base I6.hok I6.bare fun b hb => ⟨(f3 b hb).1.2.2.2.1, (f3 b hb).1.2.1, (f3 b hb).1.2.2.2.2.1, (f3 b hb).1.2.2.2.2.2⟩
      have nC : H5 s3.heap.objs.size = none := by
        have z : H5 ce.locals = none := I6.free
        rw [cL] at z
        exact z
      obtain ⟨m, hn, _⟩ := I6.loc
      have hn : s6.heap.Ns ce.locals m := hn
      rw [cL] at hn
      exact hRR D s3.heap.objs.size s6 m H5 I7 qq hn (I3.fpOk (Nat.le_refl _) nC)
    · have ti := T.item (X.blk s3 H3 scope ce fp) rfl rfl rfl hc i [] s5 _ H5 (fun _ _ => False) I5 (stat I5 n5) st5 go
      refine thnF ti fun r s6 ⟨u, hr, h6⟩ => ?_
      subst hr
      refine thnF h6 fun _ s7 ⟨x, H7, I7, r7, y7, st7, n7⟩ => ?_
      have I7' := I7.pinned (stat I7 n7) (T.obj _ _ st7)
      refine thnF (pg _ s7 _ H7 x u _ I7' r7 (step x H7 y7)) fun _ s8 ⟨σ8, H8, I8, hw8, q8⟩ => ?_
      refine thnF (pt _ s8 σ8 H8 _ I8 q8) fun b s9 ⟨H9, I9, q9⟩ => ?_
      -- the turn's end
      have fin : ∀ {s' : Shared} {H' : Hp}, Inv (X.blk s3 H3 scope ce fp) ([] ++ pinsAt fp s7.heap) σ8 H' s' → Nx H' → ∃ m, m < n ∧ ∃ i H', Inv (X.blk s3 H3 scope ce fp) [] (wipe σ (own.map (·.2))) H' s' ∧ tn i s'.heap ∧ (∀ b ∈ fp, H' b = none) ∧ W i m H' := fun {s' H'} I' nx => by
        obtain ⟨m', hm, w'⟩ := hNx H' nx
        have pin' : ∀ b ∈ fp, ∀ o, s7.heap.get? b = some o → s'.heap.get? b = some o ∧ H' b = none := fun b hb o e =>
          let z := I'.pin (b, o) (List.mem_append_right _ (List.mem_append_right _ (mem_pinsAt hb e)))
          ⟨z.1, z.2.1⟩
        have hl : (wipe σ (own.map (·.2))).length = σ8.length := by rw [← hw8, wipe_length]
        refine ⟨m', hm, i + 1, H', (I'.unpinned (pins := [])).weak hl (fun j v e => ?_), T.keep _ _ _ st7 fun b hb o e => (pin' b hb o e).1, fun b hb => ?_, w'⟩
        · rw [← hw8] at e
          exact (wipe_some e).1
        · obtain ⟨o, e, _⟩ := T.obj _ _ st7 b hb
          exact (pin' b hb o e).2
      cases b with
      | false =>
        simp only [Bool.false_eq_true, if_false] at q9 ⊢
        exact fin I9 q9
      | true =>
        simp only [if_true] at q9 ⊢
        refine thnF (pe _ s9 σ8 H9 _ I9 q9) fun z s10 ⟨yv, H10, I10, r10, acc, hD10, hz10, nx⟩ => ?_
        exact app_ok (X := X.blk s3 H3 scope ce fp) I10 hD10 hz10 r10 fun s11 I11 => fin I11 nx
  exact codeAny_compStart_list loop (T.self X.A 0 _ _ _ st4 loop)
/-- as a value -/
theorem pe_lc {elt tg iter : Expr} {ifs : List Expr} {scope : Scope} {own : List (Str × Nat)} {pos : Pos} {wi : TI} {g : TG} {tt : TT} {te : TE} (hc : X.calm = true) (hN : X.N.Nodup) (hi : PI X tg iter wi) (ok : BlkOk X.N X.env.scope scope own)
    (hg : ∀ (s : Shared) (H : Hp) (C : Addr) (cl : List (Str × Addr)) (fp : List Addr), PG (X.blk s H scope (compEnvC scope cl C X.env) fp) tg g) (ht : ∀ (s : Shared) (H : Hp) (C : Addr) (cl : List (Str × Addr)) (fp : List Addr), PTs (X.blk s H scope (compEnvC scope cl C X.env) fp) ifs tt)
    (he : ∀ (s : Shared) (H : Hp) (C : Addr) (cl : List (Str × Addr)) (fp : List Addr), PE (X.blk s H scope (compEnvC scope cl C X.env) fp) elt te) (hs : ∀ x, foldedSetIterable iter X.env x = pure x := by intro _; rfl) :
    PE X (.ListComp elt [⟨tg, iter, ifs, 0⟩] scope pos) (tLc wi g tt te (own.map (·.2))) := by
  intro pins s σ H Q I h
  rw [eval_ListComp]
  refine lc_core hc hN I hi ok hg ht he hs h fun D C s' m H' I' q hn f => ⟨m, hn, fun h'' sb => ?_⟩
  obtain ⟨f0, f1, f2, f3, f4, f5⟩ := f
  exact ⟨.ref D, H', I'.turned (t' := s'.toks) (fun b o hb e => (sb.2 b hb).trans e) f0 f1 f3 f4 f5, rfl, q⟩
/-- name = [..] on one line, the name a local -/
theorem ps_setLc {i : Nat} {y : Str} {py : Pos} {elt tg iter : Expr} {ifs : List Expr} {scope : Scope} {own : List (Str × Nat)} {pos spos : Pos} {wi : TI} {g : TG} {tt : TT} {te : TE} (hc : X.calm = true) (hN : X.N.Nodup) (hy : X.N[i]? = some y) (hyl : X.env.scope.names.lookup y = some .local)
    (hsw : swapsWith (.ListComp elt [⟨tg, iter, ifs, 0⟩] scope pos) (some (.Name y py)) spos.line X.env = pure true) (hi : PI X tg iter wi) (ok : BlkOk X.N X.env.scope scope own)
    (hg : ∀ (s : Shared) (H : Hp) (C : Addr) (cl : List (Str × Addr)) (fp : List Addr), PG (X.blk s H scope (compEnvC scope cl C X.env) fp) tg g) (ht : ∀ (s : Shared) (H : Hp) (C : Addr) (cl : List (Str × Addr)) (fp : List Addr), PTs (X.blk s H scope (compEnvC scope cl C X.env) fp) ifs tt)
    (he : ∀ (s : Shared) (H : Hp) (C : Addr) (cl : List (Str × Addr)) (fp : List Addr), PE (X.blk s H scope (compEnvC scope cl C X.env) fp) elt te) (hs : ∀ x, foldedSetIterable iter X.env x = pure x := by intro _; rfl) :
    PS X (.Assign [.Name y py] (.ListComp elt [⟨tg, iter, ifs, 0⟩] scope pos) spos) (tAsg (tLc wi g tt te (own.map (·.2))) (gName i)) := by
  intro pins s σ H D I h
  rw [exec_Assign_Name_used _ _ _ _ hsw]
  refine wpAny_bind (wpAny_standAt (wpAny_bind ?_))
  show wpAny _ X.A (do let _ ← comprehension (.ListComp elt [⟨tg, iter, ifs, 0⟩] scope pos) scope X.env (firstIterPos [⟨tg, iter, ifs, 0⟩] pos) (newList []) false (eval iter X.env) (some (assign (.Name y py) X.env))) _ _ s
  have h : tLc wi g tt te (own.map (·.2)) σ H (fun x H1 => gName i x σ H1 D.nx) := h
  refine wpAny_bind (thn (lc_core (Qf := fun _ s' => SP X pins D .next s') hc hN I hi ok hg ht he hs h fun L C s' m H' I' q hn f => ?_) fun _ s' hq => wpAny_pure (wpAny_pure hq))
  show wpAny _ _ (assign (.Name y py) X.env (.ref L)) _ _ _
  refine wpAny_assign_Name (store_ok2 (v := V.ref L) I' hN hy (.inl hyl) rfl (fun s2 I2 ⟨a, sb, ha⟩ => ?_) (.inr hyl))
  obtain ⟨f0, f1, f2, f3, f4, f5⟩ := f
  have haC : C ≠ a := by
    rcases ha with z | z
    · rw [z]; exact f1
    · exact fun e => f4 y a z e.symm
  refine ⟨m, hn.sameBut sb haC, fun h3 sb3 => ?_⟩
  exact ⟨_, H', I2.turned (t' := s2.toks) (fun b o hb e => (sb3.2 b hb).trans e) f0 f1 f3 f4 f5, q⟩
theorem sw_true {elt : Expr} {gs : List Comprehension} {scope : Scope} {pos py : Pos} {y : Str} {l : Nat} {env : Env} (hk : env.scope.kind = .function) (hy : env.scope.names.lookup y = some .local) (hl : (py.line == pos.line) = true)
    (ha : (scope.names.any fun (n, k) => n == y && (k == .local || k == .cell)) = false) : swapsWith (.ListComp elt gs scope pos) (some (.Name y py)) l env = pure true := by
  have ky : env.kindOf y = some .local := hy
  have hb : env.blockKind = .function := by unfold Env.blockKind; rw [hk]; rfl
  unfold swapsWith
  simp only [hb, ky, ha, Expr.pos, hl]
  rfl
end
/-- over a list that the block leaves as it is -/
theorem lc_list {K : PySem.W.Frag} {a : Addr} {xs : List V} {g : TG} {tt : TT} {te : TE} {vs : List Nat} {σ : St} {H1 : Hp} {D : Addr} {Qd : Hp → Prop} (Pv : Nat → Hp → Prop) (h0 : Pv 0 (upd H1 D (.lst []))) (hl : ∀ i H, i ≤ xs.length → Pv i H → SqL K H a xs)
    (hs : ∀ i x H, xs[i]? = some x → Pv i H → g x (wipe σ vs) H fun σ2 H2 => wipe σ2 vs = wipe σ vs ∧ tt σ2 H2 fun b H3 =>
      if b = true then te σ2 H3 fun y H4 => ∃ acc, H4 D = some (.lst acc) ∧ acc.length < sizeLine ∧ Pv (i + 1) (upd H4 D (.lst (acc ++ [y]))) else Pv (i + 1) H3) (hd : ∀ H, Pv xs.length H → Qd H) :
    ∃ W : Nat → Nat → Hp → Prop, (∃ m, W 0 m (upd H1 D (.lst []))) ∧ ∀ i m H, W i m H →
      ((Itl K a).stop i H ∧ Qd H) ∨ ((Itl K a).go i H ∧ ∃ Nx : Hp → Prop, (∀ H', Nx H' → ∃ m', m' < m ∧ W (i + 1) m' H') ∧ ∀ x H', (Itl K a).yld i H x H' → g x (wipe σ vs) H' fun σ2 H2 => wipe σ2 vs = wipe σ vs ∧ tt σ2 H2 fun b H3 =>
        if b = true then te σ2 H3 fun y H4 => ∃ acc, H4 D = some (.lst acc) ∧ acc.length < sizeLine ∧ Nx (upd H4 D (.lst (acc ++ [y]))) else Nx H3) := by
  refine ⟨fun i m H => m = xs.length - i ∧ i ≤ xs.length ∧ Pv i H, ⟨xs.length, by simp, Nat.zero_le _, h0⟩, ?_⟩
  rintro i m H ⟨rfl, hi, p⟩
  have q := hl i H hi p
  by_cases hlt : i < xs.length
  · refine .inr ⟨⟨xs, xs[i], q, by simp [hlt]⟩, Pv (i + 1), fun H' p' => ⟨xs.length - (i + 1), by omega, rfl, hlt, p'⟩, fun x H' y => ?_⟩
    obtain ⟨e, y⟩ := y
    subst e
    exact hs i x _ (y xs q) p
  · have e : i = xs.length := by omega
    subst e
    exact .inl ⟨⟨xs, q, Nat.le_refl _⟩, hd H p⟩
def blkC (N : List Str) (sc scope : Scope) (own : List (Str × Nat)) : Bool :=
  (match scope.kind with | .function => true | _ => false) && (scope.names.all fun y => decide (scope.names.lookup y.1 = some y.2)) && (own.all fun p => decide (N[p.2]? = some p.1)) &&
    (scope.names.all fun y => match y.2 with
      | .free => (match sc.names.lookup y.1 with | some .cell => true | some .free => true | _ => false)
      | .local => decide (y.1 ∈ own.map (·.1)) || decide (y.1 ∉ N)
      | .cell => decide (y.1 ∈ own.map (·.1)) || decide (y.1 ∉ N)
      | _ => true)
theorem blkOk_by {N : List Str} {sc scope : Scope} {own : List (Str × Nat)} (h : blkC N sc scope own = true) : BlkOk N sc scope own := by
  unfold blkC at h
  simp only [Bool.and_eq_true, List.all_eq_true, decide_eq_true_eq] at h
  obtain ⟨⟨⟨h1, h2⟩, h3⟩, h4⟩ := h
  refine ⟨?_, h2, h3, fun y hy e => ?_, fun y hy e => ?_⟩
  · split at h1
    · assumption
    · cases h1
  · have q := h4 y hy
    simp only [e] at q
    split at q <;> first | exact .inl (by assumption) | exact .inr (by assumption) | cases q
  · have q := h4 y hy
    rcases e with e | e <;> (simp only [e, Bool.or_eq_true, decide_eq_true_eq] at q; exact q)
end L2
namespace L2
open PySem PySem.Spec PyProof.Rows
section
variable {prog : Program} {w : World} {A : Around} {R : Result → Shared → Prop} {s : Shared} {elt t0 i0 t1 i1 : Expr} {ifs0 ifs1 : List Expr} {scope : Scope} {pos : Pos} {it acc : Value} {env : Env}
end
section
variable {X : Cx}
end
end L2
namespace L2
open PySem PySem.Spec PyProof.Rows
section
variable {κ : Type} [DecidableEq κ]
def valV (kvs : List (κ × V)) (k : κ) : Option V := (kvs.find? fun kv => decide (kv.1 = k)).map (·.2)
/-- in its place, or at the end -/
def putK (kvs : List (κ × V)) (k : κ) (v : V) : List (κ × V) :=
  if (kvs.any fun kv => decide (kv.1 = k)) = true then kvs.map (fun kv => if kv.1 = k then (kv.1, v) else kv) else kvs ++ [(k, v)]
def dropK (kvs : List (κ × V)) (k : κ) : List (κ × V) := kvs.filter fun kv => decide (kv.1 ≠ k)
theorem valV_pos {p : κ × V} {r : List (κ × V)} {k : κ} (e : p.1 = k) : valV (p :: r) k = some p.2 := by simp [valV, List.find?_cons, e]
theorem valV_neg {p : κ × V} {r : List (κ × V)} {k : κ} (e : ¬ p.1 = k) : valV (p :: r) k = valV r k := by simp [valV, List.find?_cons, e]
theorem valV_any (k : κ) : ∀ kvs : List (κ × V), (kvs.any fun kv => decide (kv.1 = k)) = (valV kvs k).isSome
  | [] => rfl
  | p :: r => by
    rw [List.any_cons]
    by_cases e : p.1 = k
    · simp only [valV_pos e, decide_eq_true e, Bool.true_or, Option.isSome_some]
    · rw [valV_neg e, decide_eq_false e, Bool.false_or]; exact valV_any k r
theorem length_putK (kvs : List (κ × V)) (k : κ) (v : V) : (putK kvs k v).length ≤ kvs.length + 1 := by
  unfold putK
  split
  · rw [List.length_map]; omega
  · rw [List.length_append, List.length_cons, List.length_nil]; omega
theorem putK_new {kvs : List (κ × V)} {k : κ} (v : V) (h : valV kvs k = none) : putK kvs k v = kvs ++ [(k, v)] := by
  unfold putK
  rw [valV_any, h]
  exact if_neg (by decide)
theorem RelO.isSome_eq {o : Option V} {u : Option Value} (r : RelO o u) : o.isSome = u.isSome := by
  cases o with
  | none => cases u with
    | none => rfl
    | some _ => exact (show False from r).elim
  | some _ => cases u with
    | none => exact (show False from r).elim
    | some _ => rfl
theorem RelO.getD {o : Option V} {u : Option Value} {d : V} {d' : Value} (r : RelO o u) (rd : RelV d d') : RelV (o.getD d) (u.getD d') := by
  cases o with
  | none => cases u with
    | none => exact rd
    | some _ => exact (show False from r).elim
  | some _ => cases u with
    | none => exact (show False from r).elim
    | some _ => exact r
/-- raw tables of the same keys -/
theorem KV.val {kvs : List (κ × V)} {vs : List (κ × Value)} (r : KV kvs vs) (k : κ) : RelO (valV kvs k) (valueAt vs k) := by
  unfold KV at r
  induction r with
  | nil => exact True.intro
  | @cons p q ps qs h t ih =>
    obtain ⟨h1, h2⟩ := h
    by_cases e : p.1 = k
    · have e' : q.1 = k := h1.symm.trans e
      have b : valueAt (q :: qs) k = some q.2 := by simp [valueAt, List.find?_cons, e']
      rw [valV_pos e, b]; exact h2
    · have e' : ¬ q.1 = k := fun z => e (h1.trans z)
      have b : valueAt (q :: qs) k = valueAt qs k := by simp [valueAt, List.find?_cons, e']
      rw [valV_neg e, b]; exact ih
theorem KV.any {kvs : List (κ × V)} {vs : List (κ × Value)} (r : KV kvs vs) (k : κ) : (kvs.any fun kv => decide (kv.1 = k)) = vs.any fun kv => decide (kv.1 = k) := by
  unfold KV at r
  induction r with
  | nil => rfl
  | cons h t ih => rw [List.any_cons, List.any_cons, ih, h.1]
theorem KV.repl {kvs : List (κ × V)} {vs : List (κ × Value)} (r : KV kvs vs) (k : κ) {y : V} {u : Value} (ry : RelV y u) :
    KV (kvs.map fun kv => if kv.1 = k then (kv.1, y) else kv) (vs.map fun kv => if kv.1 = k then (kv.1, u) else kv) := by
  unfold KV at r ⊢
  induction r with
  | nil => exact .nil
  | @cons p q ps qs h t ih =>
    rw [List.map_cons, List.map_cons]
    refine .cons ?_ ih
    obtain ⟨h1, h2⟩ := h
    by_cases e : p.1 = k
    · rw [if_pos e, if_pos (h1.symm.trans e)]; exact ⟨h1, ry⟩
    · rw [if_neg e, if_neg (fun z => e (h1.trans z))]; exact ⟨h1, h2⟩
theorem KV.put {kvs : List (κ × V)} {vs : List (κ × Value)} (r : KV kvs vs) (k : κ) {y : V} {u : Value} (ry : RelV y u) : KV (putK kvs k y) (stored vs k u) := by
  unfold putK stored
  rw [r.any k]
  by_cases e : (vs.any fun kv => decide (kv.1 = k)) = true
  · rw [if_pos e, if_pos e]; exact r.repl k ry
  · rw [if_neg e, if_neg e]; exact Paired.snoc r ⟨rfl, ry⟩
theorem KV.drop {kvs : List (κ × V)} {vs : List (κ × Value)} (r : KV kvs vs) (k : κ) : KV (dropK kvs k) (without vs k) := by
  unfold KV at r ⊢
  unfold dropK without
  induction r with
  | nil => exact .nil
  | @cons p q ps qs h t ih =>
    obtain ⟨h1, h2⟩ := h
    rw [List.filter_cons, List.filter_cons]
    by_cases e : p.1 = k
    · have a : ¬ decide (p.1 ≠ k) = true := by simp [e]
      have b : ¬ decide (q.1 ≠ k) = true := by simp [h1.symm.trans e]
      rw [if_neg a, if_neg b]; exact ih
    · have e' : ¬ q.1 = k := fun z => e (h1.trans z)
      have a : decide (p.1 ≠ k) = true := by simp [e]
      have b : decide (q.1 ≠ k) = true := by simp [e']
      rw [if_pos a, if_pos b]; exact .cons ⟨h1, h2⟩ ih
theorem KV.keys {kvs : List (κ × V)} {vs : List (κ × Value)} (r : KV kvs vs) : kvs.map (·.1) = vs.map (·.1) := by
  unfold KV at r
  induction r with
  | nil => rfl
  | cons h t ih => rw [List.map_cons, List.map_cons, ih, h.1]
theorem KV.length {kvs : List (κ × V)} {vs : List (κ × Value)} (r : KV kvs vs) : kvs.length = vs.length := Paired.length r
end
theorem kV_is {P : Program} {w : World} {k : Key} {u : Value} (r : RelV (kV k) u) : (mixKind P w).is k u = true := by
  cases k with
  | inl i => obtain ⟨t, e⟩ := (show ∃ t, u = Value.int i t from r); subst e; exact mixKind_int P w i t
  | inr x => obtain ⟨t, e⟩ := (show ∃ t, u = Value.str x t from r); subst e; exact mixKind_str P w x t
theorem items_are {P : Program} {w : World} : ∀ {ks : List Key} {us : List Value}, Vals (ks.map kV) us → ItemsAre (mixKind P w) ks us
  | [], _, r => by rw [List.map_nil] at r; cases r; exact .nil
  | k :: ks, _, r => by
    rw [List.map_cons] at r
    cases r with
    | cons h t => exact .cons (kV_is h) (items_are t)
/-- raw entries of a dict with tuple keys -/
abbrev KT (H : Hp) : List (List Key × V) → List (List Key × Addr × Value) → Prop := Paired fun p q => p.1 = q.1 ∧ H q.2.1 = some (.tup (p.1.map kV)) ∧ RelV p.2 q.2.2
theorem KT.val {H : Hp} {kvs : List (List Key × V)} {xs : List (List Key × Addr × Value)} (r : KT H kvs xs) (k : List Key) : RelO (valV kvs k) ((atKey xs k).map (·.2)) := by
  induction r with
  | nil => exact True.intro
  | @cons p q ps qs h t ih =>
    obtain ⟨h1, _, h2⟩ := h
    by_cases e : p.1 = k
    · have e' : q.1 = k := h1.symm.trans e
      have b : atKey (q :: qs) k = some q.2 := by simp [atKey, List.find?_cons, e']
      rw [valV_pos e, b]; exact h2
    · have e' : ¬ q.1 = k := fun z => e (h1.trans z)
      have b : atKey (q :: qs) k = atKey qs k := by simp [atKey, List.find?_cons, e']
      rw [valV_neg e, b]; exact ih
theorem KT.repl {H : Hp} {kvs : List (List Key × V)} {xs : List (List Key × Addr × Value)} (r : KT H kvs xs) (k : List Key) {y : V} {u : Value} (ry : RelV y u) :
    KT H (kvs.map fun kv => if kv.1 = k then (kv.1, y) else kv) (xs.map (putAt k u)) := by
  induction r with
  | nil => exact .nil
  | @cons p q ps qs h t ih =>
    rw [List.map_cons, List.map_cons]
    refine .cons ?_ ih
    obtain ⟨h1, h2, h3⟩ := h
    unfold putAt
    by_cases e : p.1 = k
    · rw [if_pos e, if_pos (h1.symm.trans e)]; exact ⟨h1, h2, ry⟩
    · rw [if_neg e, if_neg (fun z => e (h1.trans z))]; exact ⟨h1, h2, h3⟩
theorem KT.put {H : Hp} {kvs : List (List Key × V)} {xs : List (List Key × Addr × Value)} (r : KT H kvs xs) (k : List Key) {b : Addr} {y : V} {u : Value} (hb : H b = some (.tup (k.map kV))) (ry : RelV y u) :
    KT H (putK kvs k y) (storedH xs k b u) := by
  have e : (kvs.any fun kv => decide (kv.1 = k)) = (atKey xs k).isSome := by
    rw [valV_any, (r.val k).isSome_eq, Option.isSome_map]
  unfold putK storedH
  rw [e]
  by_cases q : (atKey xs k).isSome = true
  · rw [if_pos q, if_pos q]; exact r.repl k ry
  · rw [if_neg q, if_neg q]; exact Paired.snoc r ⟨rfl, hb, ry⟩
theorem KT.keeps {H H' : Hp} {kvs : List (List Key × V)} {xs : List (List Key × Addr × Value)} (r : KT H kvs xs) (ht : ∀ b ys, H b = some (.tup ys) → H' b = some (.tup ys)) : KT H' kvs xs :=
  Paired.mapP r fun _ _ z => ⟨z.1, ht _ _ z.2.1, z.2.2⟩
section
variable {P : Program} {w : World} {H : Hp} {h : Heap} {a : Addr}
theorem rd_of {u : HO} (ok : HOk P w H h) (e : Rd H a u) : ObjOk P w H h a u := e.ok ok
theorem dk_rd {kvs : List (Key × V)} (ok : HOk P w H h) (e : Rd H a (.dK kvs)) : kvs.length ≤ sizeLine ∧ (a == sysModules) = false ∧ ∃ vs, KV kvs vs ∧ h.DictOf (mixKind P w) a vs :=
  show ObjOk P w H h a (.dK kvs) from rd_of ok e
theorem dk_of {kvs : List (Key × V)} (ok : HOk P w H h) (e : H a = some (.dK kvs)) : kvs.length ≤ sizeLine ∧ (a == sysModules) = false ∧ ∃ vs, KV kvs vs ∧ h.DictOf (mixKind P w) a vs := dk_rd ok (.inl e)
/-- a tracked tuple of ints and texts is a key -/
theorem key_of {ks : List Key} (ok : HOk P w H h) (e : H a = some (.tup (ks.map kV))) : (tupleKind (mixKind P w)).is h ks a := by
  obtain ⟨_, its, r, o, h1, h2, n, h3⟩ := (show ObjOk P w H h a (.tup (ks.map kV)) from ok a _ e)
  exact ⟨o, its.toArray, n, h1, h2, h3, by simpa using items_are r⟩
theorem dt_rd {kvs : List (List Key × V)} (ok : HOk P w H h) (e : Rd H a (.dT kvs)) : kvs.length ≤ sizeLine ∧ (a == sysModules) = false ∧
    ∃ xs, KT H kvs xs ∧ h.DictOfH (tupleKind (mixKind P w)) a xs := by
  obtain ⟨z, y, xs, r, o, es, ep, h1, h2, h3, h4, h5⟩ := (show ObjOk P w H h a (.dT kvs) from rd_of ok e)
  refine ⟨z, y, xs, r, o, es, ep, h1, h2, h3, h4, fun x hx => ?_, h5⟩
  have all : ∀ {l : List (List Key × V)} {m : List (List Key × Addr × Value)}, KT H l m → ∀ x ∈ m, (tupleKind (mixKind P w)).is h x.1 x.2.1 := by
    intro l m q
    induction q with
    | nil => intro x hx; exact nomatch hx
    | @cons p q ps qs hq t ih =>
      intro x hx
      rcases List.mem_cons.mp hx with e | hx
      · subst e
        exact key_of ok (by rw [← hq.1]; exact hq.2.1)
      · exact ih x hx
  exact all r x hx
theorem dt_of {kvs : List (List Key × V)} (ok : HOk P w H h) (e : H a = some (.dT kvs)) : kvs.length ≤ sizeLine ∧ (a == sysModules) = false ∧
    ∃ xs, KT H kvs xs ∧ h.DictOfH (tupleKind (mixKind P w)) a xs := dt_rd ok (.inl e)
end
/-- what the dict at a holds at the key y -/
def DGet (H : Hp) (a : Addr) (y : V) (r : Option V) : Prop :=
  (∃ kvs k, Rd H a (.dK kvs) ∧ y = kV k ∧ r = valV kvs k) ∨ ∃ kvs k b, Rd H a (.dT kvs) ∧ y = .ref b ∧ H b = some (.tup (k.map kV)) ∧ r = valV kvs k
/-- the heap behind a[y] = v -/
def DPut (H : Hp) (a : Addr) (y v : V) (H' : Hp) : Prop :=
  (∃ kvs k, H a = some (.dK kvs) ∧ y = kV k ∧ kvs.length < sizeLine ∧ H' = upd H a (.dK (putK kvs k v))) ∨
  ∃ kvs k b, H a = some (.dT kvs) ∧ y = .ref b ∧ H b = some (.tup (k.map kV)) ∧ kvs.length < sizeLine ∧ H' = upd H a (.dT (putK kvs k v))
theorem DGet.k {H : Hp} {a : Addr} {kvs : List (Key × V)} {k : Key} (e : H a = some (.dK kvs)) : DGet H a (kV k) (valV kvs k) := .inl ⟨kvs, k, .inl e, rfl, rfl⟩
theorem DGet.t {H : Hp} {a b : Addr} {kvs : List (List Key × V)} {k : List Key} (e : H a = some (.dT kvs)) (eb : H b = some (.tup (k.map kV))) : DGet H a (.ref b) (valV kvs k) := .inr ⟨kvs, k, b, .inl e, rfl, eb, rfl⟩
theorem DPut.k {H : Hp} {a : Addr} {kvs : List (Key × V)} {k : Key} {v : V} (e : H a = some (.dK kvs)) (hl : kvs.length < sizeLine) : DPut H a (kV k) v (upd H a (.dK (putK kvs k v))) := .inl ⟨kvs, k, e, rfl, hl, rfl⟩
theorem DPut.t {H : Hp} {a b : Addr} {kvs : List (List Key × V)} {k : List Key} {v : V} (e : H a = some (.dT kvs)) (eb : H b = some (.tup (k.map kV))) (hl : kvs.length < sizeLine) :
    DPut H a (.ref b) v (upd H a (.dT (putK kvs k v))) := .inr ⟨kvs, k, b, e, rfl, eb, hl, rfl⟩
section
variable {X : Cx} {pins : List (Addr × Obj)} {σ : St} {H : Hp} {s : Shared} {a : Addr} {y v : V} {u r : Value} {o : Option V} {A : Around} {E : Value → Shared → Prop}
theorem Inv.big (I : Inv X pins σ H s) : sysModules < s.heap.objs.size := by
  have h : mainGlobals < s.heap.objs.size := (I.mod.glob.keeps I.bk).lt
  exact Nat.lt_trans (by decide) h
/-- y in d -/
theorem d_in {Q : Value → Shared → Prop} (hu : A.units + 1 < cLine) (I : Inv X pins σ H s) (g : DGet H a y o) (ry : RelV y u) (h : ∀ s', Inv X pins σ H s' → Q (.bool o.isSome) s') :
    wpAny (model X.prog X.w) A (compareOp .In u (.ref a)) Q E s := by
  rcases g with ⟨kvs, k, e, ey, l⟩ | ⟨kvs, k, b, e, ey, eb, l⟩
  · subst ey
    obtain ⟨z, hd, vs, rel, dd⟩ := dk_rd I.hok e
    refine wpAny_in_of (kV_is ry) hd dd.mapOf ?_
    rw [← (rel.val k).isSome_eq, ← l]
    exact h _ (I.tok _)
  · subst ey
    cases (show u = Value.ref b from ry)
    obtain ⟨z, hd, xs, rel, dd⟩ := dt_rd I.hok e
    refine wpAny_in_heap (tupleKind_room_in1 hu) (key_of I.hok eb) hd dd ?_
    have q := (rel.val k).isSome_eq
    rw [Option.isSome_map] at q
    rw [← q, ← l]
    exact h _ (I.tok _)
/-- a dict's object is replaced -/
theorem d_write {h' : Heap} {t' : Nat} {ob : HO} (I : Inv X pins σ H s) (mu : Mut (H a)) (hs : Heap.SameBut a s.heap h') (he : ∃ q, h'.get? a = some q) (new : ObjOk X.prog X.w (upd H a ob) h' a ob) :
    Inv X pins σ (upd H a ob) { s with heap := h', toks := t' } :=
  I.write (x := a) (e := a) mu (.inl rfl) (fun b q hb z => (hs.2 b hb).trans z) he new
theorem dk_new {P : Program} {w : World} {H' : Hp} {h' : Heap} {kvs : List (Key × V)} {vs : List (Key × Value)} (z : kvs.length ≤ sizeLine) (hd : (a == sysModules) = false) (rel : KV kvs vs) (dd : h'.DictOf (mixKind P w) a vs) :
    ObjOk P w H' h' a (.dK kvs) := ⟨z, hd, vs, rel, dd⟩
/-- d[y] = v -/
theorem d_setItem {H' : Hp} {Q : Unit → Shared → Prop} (hu : A.units + 1 < cLine) (I : Inv X pins σ H s) (g : DPut H a y v H') (ry : RelV y u) (rv : RelV v r) (h : ∀ s', Inv X pins σ H' s' → Q () s') :
    wpAny (model X.prog X.w) A (setItem (.ref a) u r) Q E s := by
  rcases g with ⟨kvs, k, e, ey, l, eH⟩ | ⟨kvs, k, b, e, ey, eb, l, eH⟩
  · subst ey eH
    obtain ⟨z, hd, vs, rel, dd⟩ := dk_of I.hok e
    have hz : vs.length ≤ sizeLine := by rw [← rel.length]; exact z
    have hl : (putK kvs k v).length ≤ sizeLine := by have := length_putK kvs k v; omega
    refine wpAny_setItem_pairs (hsz := hz) (kV_is ry) dd fun h' dd' hs => h _ ?_
    have he : ∃ q, h'.get? a = some q := let ⟨q, _, _, hq, _⟩ := dd'; ⟨q, hq⟩
    exact d_write I (by rw [e]; exact True.intro) hs he (dk_new hl hd (rel.put k rv) dd')
  · subst ey eH
    cases (show u = Value.ref b from ry)
    obtain ⟨z, hd, xs, rel, dd⟩ := dt_of I.hok e
    have hz : xs.length ≤ sizeLine := by rw [← Paired.length rel]; exact z
    have hl : (putK kvs k v).length ≤ sizeLine := by have := length_putK kvs k v; omega
    refine wpAny_setItem_heap (hsz := hz) (tupleKind_room_in1 hu) (key_of I.hok eb) dd fun h' dd' hs => h _ ?_
    obtain ⟨q, es, ep, hq, h2, h3, h4, _, h5⟩ := dd'
    refine d_write I (by rw [e]; exact True.intro) hs ⟨q, hq⟩ ⟨hl, hd, _, (rel.put k eb rv).keeps fun c ys ec => ?_, q, es, ep, hq, h2, h3, h4, h5⟩
    rw [upd_ne (ne_of ec e (fun z => nomatch z))]
    exact ec
end
section
variable {X : Cx} {pins : List (Addr × Obj)} {σ : St} {H : Hp} {s : Shared} {a : Addr} {kvs : List (Key × V)} {k : Key} {u : Value} {A : Around} {E : Value → Shared → Prop}
end
/-- y in d, y not in d -/
def tDIn (ty td : TE) : TE := fun σ H Q => ty σ H fun y H1 => td σ H1 fun x H2 => ∃ a o, x = .ref a ∧ DGet H2 a y o ∧ Q (.bl o.isSome) H2
/-- d[y] = v -/
def sDPut (td ty tv : TE) : TS := fun D σ H => tv σ H fun v H1 => td σ H1 fun x H2 => ty σ H2 fun y H3 => ∃ a H4, x = .ref a ∧ DPut H3 a y v H4 ∧ D.nx σ H4
section
variable {X : Cx} {o i e value : Expr} {pos pos' tpos : Pos} {td ty tv : TE}
theorem pc_din (hu : X.A.units + 1 < cLine) (hi : PE X i ty) (ho : PE X o td) : PC X .In i o (tDIn ty td) := by
  intro pins s σ H Q I h
  refine thn (hi pins s σ H _ I h) fun iv s1 ⟨y, H1, I1, ry, q1⟩ => thn (ho pins s1 σ H1 _ I1 q1) fun u s2 ⟨x, H2, I2, rx, a, ov, ex, g, q2⟩ => ?_
  subst ex
  obtain rfl : u = Value.ref a := rx
  exact d_in hu I2 g ry fun s3 I3 => ⟨.bl ov.isSome, H2, I3, rfl, q2⟩
theorem ps_dput (hu : X.A.units + 1 < cLine) (ho : PE X o td) (hi : PE X i ty) (hv : PE X value tv) (hs : swapsWith value (some (.Subscript o i pos')) pos.line X.env = pure false) :
    PS X (.Assign [.Subscript o i pos'] value pos) (sDPut td ty tv) := by
  intro pins s σ H D I h
  refine wpAny_Assign_Subscript (thn (hv pins s σ H _ I h) fun r s1 ⟨v, H1, I1, rv, q1⟩ => thn (ho pins s1 σ H1 _ I1 q1) fun u s2 ⟨x, H2, I2, rx, q2⟩ => thn (hi pins s2 σ H2 _ I2 q2) fun iv s3 ⟨y, H3, I3, ry, a, H4, ex, g, q3⟩ => ?_) hs
  subst ex
  obtain rfl : u = Value.ref a := rx
  exact d_setItem hu I3 g ry rv fun s4 I4 => ⟨σ, H4, I4, q3⟩
end
theorem dt_empty {P : Program} {w : World} {H : Hp} (h : Heap) (hb : sysModules < h.objs.size) : ObjOk P w H (h.push { cls := .type "dict", data := .dict #[] }) h.objs.size (.dT []) :=
  ⟨Nat.zero_le _, beq_eq_false_iff_ne.mpr (Ne.symm (Nat.ne_of_lt hb)), [], .nil, _, #[], 0, Heap.get?_push_size _ rfl, ⟨rfl, rfl, rfl⟩, rfl, rfl, List.nodup_nil⟩
def tDNewT : TE := fun _ H Q => ∀ p, H p = none → Q (.ref p) (upd H p (.dT []))
section
variable {X : Cx} {pos : Pos}
theorem pe_dnewT : PE X (.Dict [] [] pos) tDNewT := fun pins s σ H Q I h =>
  wpAny_Dict_empty ⟨.ref s.heap.objs.size, _, I.laid (a := s.heap.objs.size) (o := .dT []) (t' := s.toks) (fun _ _ q => Heap.get?_push_of_some _ q) (Nat.le_refl _) (dt_empty s.heap I.big), rfl, h _ (I.hok.fresh (Nat.le_refl _))⟩
end
section
variable {X : Cx} {pins : List (Addr × Obj)} {σ : St} {H : Hp} {s : Shared} {a : Addr} {y d : V} {u r : Value} {o : Option V} {A : Around} {E : Value → Shared → Prop}
end
section
variable {X : Cx} {o e f : Expr} {apos cpos : Pos} {td ty tx : TE}
end
section
variable {X : Cx} {pins : List (Addr × Obj)} {σ : St} {H : Hp} {s : Shared} {a : Addr} {kvs : List (Key × V)} {A : Around} {E : Value → Shared → Prop}
end
section
variable {X : Cx} {pins : List (Addr × Obj)} {σ : St} {H : Hp} {s : Shared} {a : Addr} {y : V} {u : Value} {A : Around} {E : Value → Shared → Prop}
end
end L2
namespace L2
open PySem PySem.Spec PyProof.Rows
section
variable {prog : Program} {w : World} {A : Around} {E : Value → Shared → Prop}
end
section
variable {X : Cx}
end
end L2
namespace L2
open PySem PySem.Spec PyProof.Rows
section
variable {X : Cx} {pins : List (Addr × Obj)} {σ : St} {H : Hp} {s : Shared} {h' : Heap}
end
section
variable {X : Cx}
end
/-- range(i, j, c): small bounds, n items -/
def RgC (i j c : Int) (n : Nat) : Prop := c ≠ 0 ∧ c.natAbs < 1073741824 ∧ Builtin.Range.small i j c = true ∧ Builtin.Range.rangeSize i j c = n
theorem RgC.neg {i j : Int} (ha : -(2 ^ 62) ≤ i) (ha' : i < 2 ^ 62) (hb : -(2 ^ 62) ≤ j) (hb' : j < 2 ^ 62) : RgC i j (-1) (i - j).toNat :=
  ⟨by decide, by decide, PySem.W.small_down ha ha' hb hb', PySem.W.rangeSize_downNat i j⟩
section
variable {X : Cx} {tg : Expr}
end
section
variable {X : Cx} {tg : Expr}
end
section
variable {prog : Program} {w : World} {A : Around} {E : Value → Shared → Prop} {s : Shared}
end
section
variable {X : Cx} {pins : List (Addr × Obj)} {σ : St} {H : Hp} {s : Shared} {d : Addr} {o : Obj}
end
section
variable {P : Program} {w : World} {K : PySem.W.Frag} {tg : Expr} {d : Addr} {o : Obj} {es : Array DictEntry} {ep : Nat}
end
section
variable {X : Cx} {tg e : Expr} {td : TE} {apos cpos : Pos}
end
end L2
section 
namespace Bits
open PySem PyProof.Rows
end Bits
end 
section 
namespace TL
open PySem PySem.Builtin PySem.Builtin.Str PySem.StrLaws
abbrev tl (x : Str) : List Nat := x.cps.toList
/-- S stands at the head of l -/
def pre (S l : List Nat) : Bool := l.take S.length == S
/-- what stands before the first S, and behind it -/
def par (S : List Nat) : List Nat → List Nat → Option (List Nat × List Nat)
  | _, [] => none
  | acc, c :: r => if pre S (c :: r) = true then some (acc, (c :: r).drop S.length) else par S (acc ++ [c]) r
end TL
end 
namespace L2
open PySem PySem.Spec PyProof.Rows
section
variable {X : Cx} {pins : List (Addr × Obj)} {σ : St} {H : Hp} {s : Shared} {Q : VK}
end
section
variable {X : Cx}
end
section
variable {X : Cx} {o e : Expr} {to te : TE}
end
end L2
namespace L2
open PySem PySem.Spec PyProof.Rows
section
variable {X : Cx}
end
theorem IsPart.raw {v : Value} {o : Option Int} (p : IsPart v o) : ∃ l : Option (Int × Tok), v = partValue l ∧ l.map (·.1) = o := by
  cases p with
  | none => exact ⟨none, rfl, rfl⟩
  | int i t => exact ⟨some (i, t), rfl, rfl⟩
end L2
namespace Att
open PySem PySem.W PySem.Calls PyProof.Rows
section
variable {prog : Program} {w : World} {A : Around} {E : Value → Shared → Prop} {s : Shared} {K : Frag}
end
end Att
namespace L2
open PySem PySem.Spec PyProof.Rows
end L2
namespace L2
open PySem PySem.Spec PyProof.Rows
end L2
namespace L2
open PySem PySem.Spec PyProof.Rows
def defArgs (s : Stmt) : Arguments := match s with
  | .FunctionDef _ a _ _ _ _ _ _ _ _ => a
  | _ => { posonlyargs := [], args := [], vararg := none, kwonlyargs := [], kw_defaults := [], kwarg := none, defaults := [] }
def defBody (s : Stmt) : List Stmt := match s with
  | .FunctionDef _ _ b _ _ _ _ _ _ _ => b
  | _ => []
def defScope (s : Stmt) : Scope := match s with
  | .FunctionDef _ _ _ _ _ _ sc _ _ _ => sc
  | _ => { kind := .function, names := [], isGenerator := false, isCoroutine := false }
abbrev CX0 : CXT := fun _ _ _ _ _ _ => False
abbrev E0 : XK := fun _ _ _ => False
theorem pass0 {X : Cx} : Passes CX0 X E0 := fun _ _ _ _ _ _ _ h => h.elim
structure Fun (K : PySem.W.Frag) (x qual : Str) (st : Stmt) (f : Addr) (fd : FuncData) : Prop where
  ex : ∃ (oc : Value) (od : Option Addr) (kV doc pm : Value) (an : Option Addr) (cdv ct : Value) (osl : Array (Option Value)),
    fd = PySem.W.fnOf x qual (defArgs st) (defBody st) (defScope st) .none kV doc pm an cdv ct ∧ K.lookup f = some ⟨oc, od, .func fd, osl⟩ ∧ PySem.W.codeIn K cdv qual = true
  kp : PySem.W.keepIn K (.ref f) = true
section
variable {P : Program} {w : World} {K : PySem.W.Frag} {mg : Str → Option Value} {base : Heap}
/-- THE RULE for a def: its body as a term of rules, and the reading of that term -/
theorem Fun.ok {x qual : Str} {st : Stmt} {f : Addr} {fd : FuncData} {N ps : List Str} {k : Nat} {sp : Sp} (F : Fun K x qual st f fd) (S : FnScope N ps (defScope st)) (len : ∀ vs H Q E, sp vs H Q E → vs.length = ps.length)
    (hbody : ∀ (cdv : Value) (A : Around) (outer : List Env) (s : Shared) (H : Hp) (vs : List V) (Q : VK) (E : XK), Room k (A.deeper (envOfC qual (defScope st) s.heap.objs.size f cdv)) → sp vs H Q E →
      ∃ t, PSs (cxOf CX0 P w K mg base N qual (defScope st) f cdv A outer s H E).nox (defBody st) t ∧ t { nx := fun _ H' => Q .non H', rt := Q } (start N vs) H) : FnOk P w K mg base CX0 (k + 1) f fd ps sp := by
  obtain ⟨oc, od, kV, doc, pm, an, cdv, ct, osl, rfl, lk, hcd⟩ := F.ex
  refine fn_of lk hcd S len fun A outer s H vs Q E hr hsp => ?_
  obtain ⟨t, h, q⟩ := hbody cdv A outer s H vs Q E hr hsp
  exact ⟨t, h.nox, q⟩
/-- how its arguments bind (no defaults): h is «fun _ _ _ _ _ _ us hl => match us, hl with | [_, _], _ => rfl», one _ a parameter -/
theorem Fun.binds {x qual : Str} {st : Stmt} {f : Addr} {fd : FuncData} {ps : List Str} (F : Fun K x qual st f fd)
    (h : ∀ (kV doc pm : Value) (an : Option Addr) (cdv ct : Value) (us : List Value), us.length = ps.length → bindArgs (PySem.W.fnOf x qual (defArgs st) (defBody st) (defScope st) .none kV doc pm an cdv ct) ⟨us, []⟩ = pure (ps.zip us)) : Binds K fd ps [] := by
  obtain ⟨oc, od, kV, doc, pm, an, cdv, ct, osl, rfl, lk, hcd⟩ := F.ex
  exact .all (h kV doc pm an cdv ct)
theorem fun_mk {x qual : Str} {st : Stmt} {f : Addr} {oc : Value} {od an : Option Addr} {osl : Array (Option Value)} {kV doc pm cdv ct : Value} (l : K.lookup f = some ⟨oc, od, .func (PySem.W.fnOf x qual (defArgs st) (defBody st) (defScope st) .none kV doc pm an cdv ct), osl⟩)
    (c : PySem.W.codeIn K cdv qual = true) (k : PySem.W.keepIn K (.ref f) = true) : Fun K x qual st f (PySem.W.fnOf x qual (defArgs st) (defBody st) (defScope st) .none kV doc pm an cdv ct) := ⟨⟨oc, od, kV, doc, pm, an, cdv, ct, osl, rfl, l, c⟩, k⟩
end
theorem hu_of {A : Around} {k : Nat} (hr : Room k A) : A.units + 1 < cLine := Nat.lt_of_le_of_lt (Nat.add_le_add_left (by decide : 1 ≤ 64) _) hr.units
section
variable {X : Cx}
theorem pv (i : Nat) {x : Str} {pos : Pos} (hN : X.N[i]? = some x := by rfl) (hv : Vis X.env.scope x := by first | exact Or.inl rfl | exact Or.inr (Or.inl rfl) | exact Or.inr (Or.inr rfl)) (hd : (x == ("__debug__" : Str)) = false := by decide)
    (hcd : (x == ("__classdict__" : Str)) = false := by decide) : PE X (.Name x pos) (tVar i) := pe_var hN hv hd hcd
end
theorem iteF {A B : Prop} (h : B) : if false = true then A else B := by
  rw [if_neg Bool.false_ne_true]
  exact h
theorem iteT {A B : Prop} (h : A) : if true = true then A else B := by
  rw [if_pos rfl]
  exact h
/-- all that was tracked is as it was -/
def Same (H H' : Hp) : Prop := ∀ b o, H b = some o → H' b = some o
theorem Same.refl (H : Hp) : Same H H := fun _ _ h => h
theorem Same.trans {H H1 H2 : Hp} (a : Same H H1) (b : Same H1 H2) : Same H H2 := fun c o h => b c o (a c o h)
theorem Same.free {H H' : Hp} (e : Same H H') {l : Addr} (h : H' l = Option.none) : H l = Option.none := by
  cases q : H l with
  | none => rfl
  | some o =>
    rw [e l o q] at h
    cases h
theorem Same.seq {K : PySem.W.Frag} {H H' : Hp} {a : Addr} {xs : List V} (e : Same H H') (h : SqL K H a xs) : SqL K H' a xs := by
  rcases h with (h | ⟨o, h⟩) | h
  · exact .inl (.inl (e _ _ h))
  · exact .inl (.inr ⟨o, e _ _ h⟩)
  · exact .inr h
section
variable {κ : Type} [DecidableEq κ]
end
/-- a new instance and its __init__ leave all that was tracked as it was -/
theorem Same.made {H H1 : Hp} {x dx C : Addr} (nx : H x = Option.none) (nd : H dx = Option.none) (k : ∀ b o, (upd (upd H dx (.own x)) x (.ins C dx [])) b = some o → b ≠ x → H1 b = some o) : Same H H1 := fun b o e =>
  k b o (by rw [upd_ne (ne_of_none e nx), upd_ne (ne_of_none e nd)]; exact e) (ne_of_none e nx)
end L2
section
set_option Elab.async false
set_option linter.all false
set_option maxRecDepth 100000
set_option maxHeartbeats 2000000
namespace L2
open PySem PySem.Spec PyProof.Rows
open PySem.W (WData Codec OpenSpec Well WellAll ReadsW ReadsAllW)
mutual
/-- x stands for the datum d, lists and tuples all the way -/
inductive Dw (K : PySem.W.Frag) (H : Hp) : V → WData → Prop
  | non : Dw K H .non .none
  | bl (b : Bool) : Dw K H (.bl b) (.bool b)
  | int (i : Int) : Dw K H (.int i) (.int i)
  | str (x : Str) : Dw K H (.str x) (.str x)
  | byt (b : Array UInt8) : Dw K H (.byt b) (.bytes b.toList)
  | lst {a : Addr} {xs : List V} {ds : List WData} : SqL K H a xs → DwAll K H xs ds → Dw K H (.ref a) (.list ds)
  | tup {a : Addr} {xs : List V} {ds : List WData} : SqT K H a xs → DwAll K H xs ds → Dw K H (.ref a) (.tuple ds)
inductive DwAll (K : PySem.W.Frag) (H : Hp) : List V → List WData → Prop
  | nil : DwAll K H [] []
  | cons {v : V} {vs : List V} {d : WData} {ds : List WData} : Dw K H v d → DwAll K H vs ds → DwAll K H (v :: vs) (d :: ds)
end
theorem dw_ints {K : PySem.W.Frag} {H : Hp} : ∀ ns : List Int, DwAll K H (ns.map V.int) (ns.map WData.int)
  | [] => .nil
  | n :: r => .cons (.int n) (dw_ints r)
theorem ints_dw {K : PySem.W.Frag} {H : Hp} : ∀ (ns : List Int) (xs : List V), DwAll K H xs (ns.map WData.int) → xs = ns.map V.int
  | [], xs, h => by
    cases h
    rfl
  | n :: r, xs, h => by
    cases h with
    | cons h1 h2 =>
      cases h1
      rw [ints_dw r _ h2] <;> rfl
section
variable {P : Program} {w : World} {K : PySem.W.Frag} {H : Hp} {h : Heap} {R : PySem.W.WRecords} {cl : Str → Option Addr}
theorem sqL_at {a : Addr} {xs : List V} (hok : HOk P w H h) (KX : K.In h) (q : SqL K H a xs) : ∃ (its : List Value) (o : Obj) (n : Nat), Vals xs its ∧ h.get? a = some o ∧ o.cls = .type "list" ∧ o.data = .seq its.toArray n := by
  rcases q with q | ⟨o, its, n, e, hc, _, hd, _, hv⟩
  · obtain ⟨_, its, n, hv, e⟩ := (show ObjOk P w H h a (.lst xs) from q.ok hok)
    exact ⟨its, _, n, hv, e, rfl, rfl⟩
  · exact ⟨its.toList, o, n, hv, KX _ _ e, hc, by simp [hd]⟩
theorem sqT_at {a : Addr} {xs : List V} (hok : HOk P w H h) (KX : K.In h) (q : SqT K H a xs) : ∃ (its : List Value) (o : Obj) (n : Nat), Vals xs its ∧ h.get? a = some o ∧ o.cls = .type "tuple" ∧ o.data = .seq its.toArray n := by
  rcases q with q | ⟨o, its, n, e, hc, hd, _, hv⟩
  · obtain ⟨_, its, hv, o, e, hc, n, hd⟩ := (show ObjOk P w H h a (.tup xs) from q.ok hok)
    exact ⟨its, o, n, hv, e, hc, hd⟩
  · exact ⟨its.toList, o, n, hv, KX _ _ e, hc, by simp [hd]⟩
mutual
theorem Dw.reads (hok : HOk P w H h) (KX : K.In h) : ∀ (d : WData) (v : V) (u : Value), Dw K H v d → RelV v u → ∃ as, ReadsW R cl h u d as
  | .none, _, _, x, r => by
    cases x
    cases r
    exact ⟨_, ReadsW.none⟩
  | .bool b, _, _, x, r => by
    cases x
    cases r
    exact ⟨_, ReadsW.bool b⟩
  | .int i, _, _, x, r => by
    cases x
    obtain ⟨t, rfl⟩ := r
    exact ⟨_, ReadsW.int i t⟩
  | .str s, _, _, x, r => by
    cases x
    obtain ⟨t, rfl⟩ := r
    exact ⟨_, ReadsW.str s t⟩
  | .bytes b, _, _, x, r => by
    cases x
    obtain ⟨t, rfl⟩ := r
    exact ⟨_, ReadsW.bytes _ t⟩
  | .list ds, _, _, x, r => by
    cases x with
    | lst hs ha =>
      cases r
      obtain ⟨its, o, n, rv, ho, hc, hd⟩ := sqL_at hok KX hs
      obtain ⟨as, hr⟩ := Dw.readsAll hok KX ds _ its ha rv
      exact ⟨_, ReadsW.list ho hc hd hr⟩
  | .tuple ds, _, _, x, r => by
    cases x with
    | tup hs ha =>
      cases r
      obtain ⟨its, o, n, rv, ho, hc, hd⟩ := sqT_at hok KX hs
      obtain ⟨as, hr⟩ := Dw.readsAll hok KX ds _ its ha rv
      exact ⟨_, ReadsW.tuple ho hc hd hr⟩
  | .float _, _, _, x, _ => by cases x
  | .dict _, _, _, x, _ => by cases x
  | .bytearray _, _, _, x, _ => by cases x
  | .set _, _, _, x, _ => by cases x
  | .frozenset _, _, _, x, _ => by cases x
  | .obj _ _, _, _, x, _ => by cases x
theorem Dw.readsAll (hok : HOk P w H h) (KX : K.In h) : ∀ (ds : List WData) (vs : List V) (us : List Value), DwAll K H vs ds → Vals vs us → ∃ as, ReadsAllW R cl h us ds as
  | [], _, _, x, r => by
    cases x
    cases r
    exact ⟨_, ReadsAllW.nil⟩
  | d :: ds, _, _, x, r => by
    cases x with
    | cons h1 h2 =>
      cases r with
      | cons r1 r2 =>
        obtain ⟨as, q1⟩ := Dw.reads hok KX d _ _ h1 r1
        obtain ⟨bs, q2⟩ := Dw.readsAll hok KX ds _ _ h2 r2
        exact ⟨_, ReadsAllW.cons q1 q2⟩
end
end
mutual
/-- data that a codec tells -/
def plW : WData → Bool
  | .none => true
  | .bool _ => true
  | .int _ => true
  | .str _ => true
  | .bytes _ => true
  | .list xs => plWs xs
  | .tuple xs => plWs xs
  | _ => false
def plWs : List WData → Bool
  | [] => true
  | x :: r => plW x && plWs r
end
theorem plWs_map {α : Type} {f : α → WData} (h : ∀ a, plW (f a) = true) : ∀ l : List α, plWs (l.map f) = true
  | [] => rfl
  | x :: r => by
    show (plW (f x) && plWs (r.map f)) = true
    rw [h x, plWs_map h r] <;> rfl
theorem pl_enc : ∀ (c : Codec) (a : c.denote), plW (c.enc a) = true
  | .unit, _ => rfl
  | .bool, _ => rfl
  | .int _ _, _ => rfl
  | .nat _ _, _ => rfl
  | .u8, _ => rfl
  | .bytes _ _, _ => rfl
  | .text _ _ _ _, _ => rfl
  | .list _ _ c, a => plWs_map (fun x => pl_enc c x) a
  | .pair c d, a => by
    show (plW (c.enc a.1) && (plW (d.enc a.2) && true)) = true
    rw [pl_enc c a.1, pl_enc d a.2] <;> rfl
  | .triple c d e, a => by
    show (plW (c.enc a.1) && (plW (d.enc a.2.1) && (plW (e.enc a.2.2) && true))) = true
    rw [pl_enc c a.1, pl_enc d a.2.1, pl_enc e a.2.2] <;> rfl
  | .option c, none => rfl
  | .option c, some x => pl_enc c x
theorem pl_encAll : ∀ (cs : List Codec) (a : Codec.denoteAll cs), plWs (Codec.encAll cs a) = true
  | [], _ => rfl
  | c :: cs, a => by
    show (plW (c.enc a.1) && plWs (Codec.encAll cs a.2)) = true
    rw [pl_enc c a.1, pl_encAll cs a.2] <;> rfl
theorem weight_mem : ∀ {xs : List WData} {d : WData}, d ∈ xs → d.weight ≤ WData.weightAll xs
  | [], d, h => absurd h (by simp)
  | x :: r, d, h => by
    show d.weight ≤ x.weight + 1 + WData.weightAll r
    rcases List.mem_cons.mp h with e | m
    · rw [e]
      omega
    · have z := weight_mem m
      omega
def toV : Value → V
  | .none => .non
  | .bool b => .bl b
  | .int i _ => .int i
  | .str x _ => .str x
  | .bytes b _ => .byt b
  | .ref a => .ref a
  | _ => .non
/-- a value of the arguments, its objects among A -/
def OkU (A : List Addr) : Value → Prop
  | .none => True
  | .bool _ => True
  | .int _ _ => True
  | .str _ _ => True
  | .bytes _ _ => True
  | .ref a => a ∈ A
  | _ => False
theorem OkU.mono {A B : List Addr} (h : ∀ a ∈ A, a ∈ B) : ∀ {u : Value}, OkU A u → OkU B u := fun {u} x => by
  cases u with
  | ref a => exact h a x
  | none => trivial
  | bool b => trivial
  | int i t => trivial
  | str s t => trivial
  | bytes b t => trivial
  | _ => exact False.elim x
theorem relV_toV {A : List Addr} {u : Value} (x : OkU A u) : RelV (toV u) u := by
  cases u with
  | ref a => rfl
  | none => rfl
  | bool b => rfl
  | int i t => exact ⟨t, rfl⟩
  | str s t => exact ⟨t, rfl⟩
  | bytes b t => exact ⟨t, rfl⟩
  | _ => exact False.elim x
theorem vals_toV {A : List Addr} : ∀ {vs : List Value}, (∀ u ∈ vs, OkU A u) → Vals (vs.map toV) vs
  | [], _ => .nil
  | u :: r, h => .cons (relV_toV (h u (List.mem_cons_self ..))) (vals_toV fun x hx => h x (List.mem_cons_of_mem _ hx))
/-- an object of the arguments -/
def ArgOb (h : Heap) (A : List Addr) (a : Addr) : Prop := ∃ vs : List Value, vs.length ≤ sizeLine ∧ (∀ u ∈ vs, OkU A u) ∧
  (h.get? a = some { cls := .type "list", data := .seq vs.toArray } ∨ h.get? a = some { cls := .type "tuple", data := .seq vs.toArray })
theorem ArgOb.mono {h : Heap} {A B : List Addr} {a : Addr} (k : ∀ a ∈ A, a ∈ B) (x : ArgOb h A a) : ArgOb h B a := by
  obtain ⟨vs, h1, h2, h3⟩ := x
  exact ⟨vs, h1, fun u hu => (h2 u hu).mono k, h3⟩
theorem wellAll_len {P : Params} {h : Heap} : ∀ {vs : List Value} {ds : List WData}, WellAll P h vs ds → vs.length = ds.length
  | _, _, .nil => rfl
  | _, _, .cons _ b => by
    show _ + 1 = _ + 1
    rw [wellAll_len b]
theorem well_list {P : Params} {h : Heap} {v : Value} {ds : List WData} (x : Well P h v (.list ds)) : ∃ (a : Addr) (vs : List Value), v = .ref a ∧ h.get? a = some { cls := .type "list", data := .seq vs.toArray } ∧ WellAll P h vs ds := by
  cases x with
  | list ho hall => exact ⟨_, _, rfl, ho, hall⟩
theorem well_tuple {P : Params} {h : Heap} {v : Value} {ds : List WData} (x : Well P h v (.tuple ds)) : ∃ (a : Addr) (vs : List Value), v = .ref a ∧ h.get? a = some { cls := .type "tuple", data := .seq vs.toArray } ∧ WellAll P h vs ds := by
  cases x with
  | tuple ho hall => exact ⟨_, _, rfl, ho, hall⟩
theorem well_cons {P : Params} {h : Heap} {us : List Value} {d : WData} {ds : List WData} (x : WellAll P h us (d :: ds)) : ∃ (v : Value) (vs : List Value), us = v :: vs ∧ Well P h v d ∧ WellAll P h vs ds := by
  cases x with
  | cons a b => exact ⟨_, _, rfl, a, b⟩
theorem line_of {n : Nat} (h : n ≤ 1048576) : n ≤ sizeLine := Nat.le_trans h (by decide)
section
variable {P : Params} {h : Heap}
mutual
theorem area_one : ∀ (d : WData) (v : Value), Well P h v d → plW d = true → d.weight ≤ 1048576 → ∃ A : List Addr, OkU A v ∧ ∀ a ∈ A, ArgOb h A a
  | .none, _, x, _, _ => by
    cases x
    exact ⟨[], trivial, fun a m => absurd m (by simp)⟩
  | .bool b, _, x, _, _ => by
    cases x
    exact ⟨[], trivial, fun a m => absurd m (by simp)⟩
  | .int i, _, x, _, _ => by
    cases x
    exact ⟨[], trivial, fun a m => absurd m (by simp)⟩
  | .str s, _, x, _, _ => by
    cases x
    exact ⟨[], trivial, fun a m => absurd m (by simp)⟩
  | .bytes b, _, x, _, _ => by
    cases x
    exact ⟨[], trivial, fun a m => absurd m (by simp)⟩
  | .list ds, _, x, p, z => by
    obtain ⟨a, vs, rfl, ho, hall⟩ := well_list x
    have z2 : WData.weightAll ds ≤ 1048576 := z
    obtain ⟨A, h1, h2⟩ := area_all ds _ hall p fun d hd => Nat.le_trans (weight_mem hd) z2
    have k : ∀ b ∈ A, b ∈ a :: A := fun b hb => List.mem_cons_of_mem _ hb
    refine ⟨a :: A, List.mem_cons_self .., fun b hb => ?_⟩
    rcases List.mem_cons.mp hb with e | m
    · rw [e]
      exact ⟨vs, line_of (by rw [wellAll_len hall]; exact Nat.le_trans (PySem.W.length_le_weightAllW ds) z2), fun u hu => (h1 u hu).mono k, .inl ho⟩
    · exact (h2 b m).mono k
  | .tuple ds, _, x, p, z => by
    obtain ⟨a, vs, rfl, ho, hall⟩ := well_tuple x
    have z2 : WData.weightAll ds ≤ 1048576 := z
    obtain ⟨A, h1, h2⟩ := area_all ds _ hall p fun d hd => Nat.le_trans (weight_mem hd) z2
    have k : ∀ b ∈ A, b ∈ a :: A := fun b hb => List.mem_cons_of_mem _ hb
    refine ⟨a :: A, List.mem_cons_self .., fun b hb => ?_⟩
    rcases List.mem_cons.mp hb with e | m
    · rw [e]
      exact ⟨vs, line_of (by rw [wellAll_len hall]; exact Nat.le_trans (PySem.W.length_le_weightAllW ds) z2), fun u hu => (h1 u hu).mono k, .inr ho⟩
    · exact (h2 b m).mono k
  | .float _, _, _, p, _ => Bool.noConfusion (show false = true from p)
  | .dict _, _, _, p, _ => Bool.noConfusion (show false = true from p)
  | .bytearray _, _, _, p, _ => Bool.noConfusion (show false = true from p)
  | .set _, _, _, p, _ => Bool.noConfusion (show false = true from p)
  | .frozenset _, _, _, p, _ => Bool.noConfusion (show false = true from p)
  | .obj _ _, _, _, p, _ => Bool.noConfusion (show false = true from p)
theorem area_all : ∀ (ds : List WData) (vs : List Value), WellAll P h vs ds → plWs ds = true → (∀ d ∈ ds, d.weight ≤ 1048576) → ∃ A : List Addr, (∀ u ∈ vs, OkU A u) ∧ ∀ a ∈ A, ArgOb h A a
  | [], _, x, _, _ => by
    cases x
    exact ⟨[], fun u m => absurd m (by simp), fun a m => absurd m (by simp)⟩
  | d :: ds, _, x, p, z => by
    obtain ⟨v, vs, rfl, x1, x2⟩ := well_cons x
    have q : plW d = true ∧ plWs ds = true := Bool.and_eq_true_iff.mp p
    obtain ⟨A, a1, a2⟩ := area_one d v x1 q.1 (z d (List.mem_cons_self ..))
    obtain ⟨B, b1, b2⟩ := area_all ds vs x2 q.2 fun e he => z e (List.mem_cons_of_mem _ he)
    have kA : ∀ b ∈ A, b ∈ A ++ B := fun b hb => List.mem_append.mpr (.inl hb)
    have kB : ∀ b ∈ B, b ∈ A ++ B := fun b hb => List.mem_append.mpr (.inr hb)
    refine ⟨A ++ B, fun u hu => ?_, fun b hb => ?_⟩
    · rcases List.mem_cons.mp hu with e | m
      · rw [e]
        exact a1.mono kA
      · exact (b1 u m).mono kB
    · rcases List.mem_append.mp hb with m | m
      · exact (a2 b m).mono kA
      · exact (b2 b m).mono kB
end
end
/-- what is tracked of an argument's object -/
def hoOf (o : Obj) : Option HO := match o.data with
  | .seq vs _ => if (o.cls == Value.type "list") = true then some (.frz o (.lst (vs.toList.map toV))) else some (.frz o (.tup (vs.toList.map toV)))
  | _ => none
def argH (K : PySem.W.Frag) (h : Heap) (A : List Addr) : Hp := fun b => if b ∈ A then (if (K.lookup b).isNone = true then (h.get? b).bind hoOf else none) else none
/-- nothing is tracked but what is known to the object -/
def OnlyF (H : Hp) : Prop := ∀ b, H b = none ∨ ∃ o u, H b = some (.frz o u)
theorem hoOf_lst (vs : List Value) : hoOf { cls := .type "list", data := .seq vs.toArray } = some (.frz { cls := .type "list", data := .seq vs.toArray } (.lst (vs.map toV))) := by
  show (if (Value.type "list" == Value.type "list") = true then some (HO.frz { cls := .type "list", data := .seq vs.toArray } (.lst (vs.toArray.toList.map toV))) else some (HO.frz { cls := .type "list", data := .seq vs.toArray } (.tup (vs.toArray.toList.map toV)))) = _
  rw [if_pos (beq_self_eq_true _)]
theorem hoOf_tup (vs : List Value) : hoOf { cls := .type "tuple", data := .seq vs.toArray } = some (.frz { cls := .type "tuple", data := .seq vs.toArray } (.tup (vs.map toV))) := by
  show (if (Value.type "tuple" == Value.type "list") = true then some (HO.frz { cls := .type "tuple", data := .seq vs.toArray } (.lst (vs.toArray.toList.map toV))) else some (HO.frz { cls := .type "tuple", data := .seq vs.toArray } (.tup (vs.toArray.toList.map toV)))) = _
  rw [if_neg (by decide)]
section
variable {P : Program} {w : World} {K : PySem.W.Frag} {h : Heap} {A : List Addr}
theorem argH_at {b : Addr} {o : Obj} (hb : b ∈ A) (hk : K.lookup b = none) (e : h.get? b = some o) : argH K h A b = hoOf o := by
  unfold argH
  rw [if_pos hb, hk, if_pos (show (none : Option Obj).isNone = true from rfl), e] <;> rfl
theorem of_argH {b : Addr} {u : HO} (q : argH K h A b = some u) : b ∈ A ∧ K.lookup b = none := by
  unfold argH at q
  by_cases hb : b ∈ A
  · rw [if_pos hb] at q
    cases hk : K.lookup b with
    | none => exact ⟨hb, rfl⟩
    | some o =>
      rw [hk, if_neg (by simp)] at q
      cases q
  · rw [if_neg hb] at q
    cases q
/-- what stands tracked -/
theorem argH_is (ar : ∀ a ∈ A, ArgOb h A a) {b : Addr} {u : HO} (q : argH K h A b = some u) : K.lookup b = none ∧ ∃ vs : List Value, vs.length ≤ sizeLine ∧ (∀ u ∈ vs, OkU A u) ∧
    ((h.get? b = some { cls := .type "list", data := .seq vs.toArray } ∧ u = .frz { cls := .type "list", data := .seq vs.toArray } (.lst (vs.map toV))) ∨
     (h.get? b = some { cls := .type "tuple", data := .seq vs.toArray } ∧ u = .frz { cls := .type "tuple", data := .seq vs.toArray } (.tup (vs.map toV)))) := by
  obtain ⟨hb, hk⟩ := of_argH q
  obtain ⟨vs, h1, h2, h3⟩ := ar b hb
  refine ⟨hk, vs, h1, h2, ?_⟩
  rcases h3 with e | e
  · rw [argH_at hb hk e, hoOf_lst] at q
    exact .inl ⟨e, (Option.some.inj q).symm⟩
  · rw [argH_at hb hk e, hoOf_tup] at q
    exact .inr ⟨e, (Option.some.inj q).symm⟩
theorem argH_only (ar : ∀ a ∈ A, ArgOb h A a) : OnlyF (argH K h A) := fun b => by
  cases q : argH K h A b with
  | none => exact .inl rfl
  | some u =>
    obtain ⟨_, vs, _, _, ⟨_, e⟩ | ⟨_, e⟩⟩ := argH_is ar q
    · exact .inr ⟨_, _, by rw [e]⟩
    · exact .inr ⟨_, _, by rw [e]⟩
theorem argH_ok (ar : ∀ a ∈ A, ArgOb h A a) : HOk P w (argH K h A) h := fun b u q => by
  obtain ⟨_, vs, h1, h2, ⟨e, rfl⟩ | ⟨e, rfl⟩⟩ := argH_is ar q
  · exact ⟨e, by rw [List.length_map]; exact h1, vs, _, vals_toV h2, e⟩
  · exact ⟨e, by rw [List.length_map]; exact h1, vs, vals_toV h2, _, e, rfl, _, rfl⟩
theorem seq_inj {c c' : Value} {vs us : List Value} (e : (some { cls := c, data := .seq vs.toArray } : Option Obj) = some { cls := c', data := .seq us.toArray }) : c = c' ∧ vs = us := by
  have e1 := Option.some.inj e
  have e2 : c = c' := congrArg Obj.cls e1
  have e3 : Data.seq vs.toArray = Data.seq us.toArray := congrArg Obj.data e1
  injection e3 with e4
  refine ⟨e2, ?_⟩
  have e5 := congrArg Array.toList e4
  simpa using e5
/-- a list argument -/
theorem argL (KX : K.In h) (ar : ∀ a ∈ A, ArgOb h A a) {a : Addr} {vs : List Value} (ha : a ∈ A) (e : h.get? a = some { cls := .type "list", data := .seq vs.toArray }) : (∀ u ∈ vs, OkU A u) ∧ SqL K (argH K h A) a (vs.map toV) := by
  obtain ⟨us, h1, h2, h3⟩ := ar a ha
  have hu : us = vs := by
    rcases h3 with q | q
    · rw [e] at q
      exact (seq_inj q).2.symm
    · rw [e] at q
      exact absurd (Value.type.inj (seq_inj q).1) (by decide)
  subst hu
  refine ⟨h2, ?_⟩
  cases hk : K.lookup a with
  | none => exact .inl (.inr ⟨_, by rw [argH_at ha hk e, hoOf_lst]⟩)
  | some o =>
    have e2 := KX a o hk
    rw [e] at e2
    obtain rfl := Option.some.inj e2
    exact .inr ⟨_, us.toArray, _, hk, rfl, rfl, rfl, by rw [List.size_toArray]; exact h1, by simpa using vals_toV h2⟩
theorem argT (KX : K.In h) (ar : ∀ a ∈ A, ArgOb h A a) {a : Addr} {vs : List Value} (ha : a ∈ A) (e : h.get? a = some { cls := .type "tuple", data := .seq vs.toArray }) : (∀ u ∈ vs, OkU A u) ∧ SqT K (argH K h A) a (vs.map toV) := by
  obtain ⟨us, h1, h2, h3⟩ := ar a ha
  have hu : us = vs := by
    rcases h3 with q | q
    · rw [e] at q
      exact absurd (Value.type.inj (seq_inj q).1) (by decide)
    · rw [e] at q
      exact (seq_inj q).2.symm
  subst hu
  refine ⟨h2, ?_⟩
  cases hk : K.lookup a with
  | none => exact .inl (.inr ⟨_, by rw [argH_at ha hk e, hoOf_tup]⟩)
  | some o =>
    have e2 := KX a o hk
    rw [e] at e2
    obtain rfl := Option.some.inj e2
    exact .inr ⟨_, us.toArray, _, hk, rfl, rfl, by rw [List.size_toArray]; exact h1, by simpa using vals_toV h2⟩
mutual
theorem dw_one {Pm : Params} (KX : K.In h) (ar : ∀ a ∈ A, ArgOb h A a) : ∀ (d : WData) (v : Value), Well Pm h v d → plW d = true → OkU A v → Dw K (argH K h A) (toV v) d
  | .none, _, x, _, _ => by
    cases x
    exact .non
  | .bool b, _, x, _, _ => by
    cases x
    exact .bl b
  | .int i, _, x, _, _ => by
    cases x
    exact .int i
  | .str s, _, x, _, _ => by
    cases x
    exact .str s
  | .bytes b, _, x, _, _ => by
    cases x
    have z := Dw.byt (K := K) (H := argH K h A) b.toArray
    exact z
  | .list ds, _, x, p, hu => by
    obtain ⟨a, vs, rfl, ho, hall⟩ := well_list x
    obtain ⟨h2, hs⟩ := argL KX ar hu ho
    exact .lst hs (dw_all KX ar ds _ hall p h2)
  | .tuple ds, _, x, p, hu => by
    obtain ⟨a, vs, rfl, ho, hall⟩ := well_tuple x
    obtain ⟨h2, hs⟩ := argT KX ar hu ho
    exact .tup hs (dw_all KX ar ds _ hall p h2)
  | .float _, _, _, p, _ => Bool.noConfusion (show false = true from p)
  | .dict _, _, _, p, _ => Bool.noConfusion (show false = true from p)
  | .bytearray _, _, _, p, _ => Bool.noConfusion (show false = true from p)
  | .set _, _, _, p, _ => Bool.noConfusion (show false = true from p)
  | .frozenset _, _, _, p, _ => Bool.noConfusion (show false = true from p)
  | .obj _ _, _, _, p, _ => Bool.noConfusion (show false = true from p)
theorem dw_all {Pm : Params} (KX : K.In h) (ar : ∀ a ∈ A, ArgOb h A a) : ∀ (ds : List WData) (vs : List Value), WellAll Pm h vs ds → plWs ds = true → (∀ u ∈ vs, OkU A u) → DwAll K (argH K h A) (vs.map toV) ds
  | [], _, x, _, _ => by
    cases x
    exact .nil
  | d :: ds, _, x, p, hu => by
    obtain ⟨v, vs, rfl, x1, x2⟩ := well_cons x
    have q : plW d = true ∧ plWs ds = true := Bool.and_eq_true_iff.mp p
    exact .cons (dw_one KX ar d v x1 q.1 (hu _ (List.mem_cons_self ..))) (dw_all KX ar ds vs x2 q.2 fun u m => hu u (List.mem_cons_of_mem _ m))
end
end
theorem spec_call {P : Program} {w : World} {K : PySem.W.Frag} {mg mb : Str → Option Value} {CX : CXT} {k : Nat} {fa : Addr} {fd : FuncData} {ps : List Str} {sp : Sp} {s₁ : Shared} {vals : List Value} {ds : List WData} {R : PySem.W.WRecords} {cl : Str → Option Addr} {d0 : WData}
    (KX : K.In s₁.heap) (hns : s₁.heap.Ns mainGlobals mg) (hb : s₁.heap.Ns builtinsNs mb) (hbb : ∀ x : Str, x ≠ "__name__" → mb x = bootBuiltins x) (hlim : s₁.heap.NoLimit) (hg : s₁.gens = #[])
    (hwl : WellAll w.params s₁.heap vals ds) (hpl : plWs ds = true) (hwt : ∀ d ∈ ds, d.weight ≤ 1048576) (hr : Room k callerA)
    (F : ∀ base : Heap, K.In base → base.Ns mainGlobals mg → FnOk P w K mg base CX k fa fd ps sp) (hbind : ∀ (s : Shared) (us : List Value), us.length = ps.length → BindsTo s fd ⟨us, []⟩ (ps.zip us)) (hlen : ds.length = ps.length)
    (hsp : ∀ (H : Hp) (xs : List V), OnlyF H → DwAll K H xs ds → sp xs H (fun v H' => Dw K H' v d0) fun _ _ _ => False)
    (hCX : ∀ H e s', CX [] H s₁ (fun _ _ _ => False) e s' → False) :
    codeAny (model P w) callerA (.call (.ref fa) ⟨vals, []⟩) (fun r s' => ∃ u as, r = .ok (.ret u) ∧ ReadsW R cl s'.heap u d0 as ∧ OldK s₁.heap s'.heap ∧ s'.os = s₁.os ∧ AllBare s'.gens) s₁ := by
  obtain ⟨A, ho, ar⟩ := area_all ds vals hwl hpl hwt
  have hO : OnlyF (argH K s₁.heap A) := argH_only ar
  have hok : HOk P w (argH K s₁.heap A) s₁.heap := argH_ok ar
  have hS := dw_all KX ar ds vals hwl hpl ho
  have hV := vals_toV ho
  have hK : ∀ b u, argH K s₁.heap A b = some u → K.lookup b = none := fun b u q => (argH_is ar q).1
  have noA : ∀ {b : Addr} {o : Obj} {es : Array DictEntry} {ep : Nat}, s₁.heap.get? b = some o → o.data = .dict es ep → argH K s₁.heap A b = none := fun {b o es ep} e d => by
    cases q : argH K s₁.heap A b with
    | none => rfl
    | some u =>
      obtain ⟨_, vs, _, _, ⟨e2, _⟩ | ⟨e2, _⟩⟩ := argH_is ar q
      · rw [e2] at e
        cases e
        have d' : Data.seq vs.toArray _ = Data.dict es ep := d
        cases d'
      · rw [e2] at e
        cases e
        have d' : Data.seq vs.toArray _ = Data.dict es ep := d
        cases d'
  generalize argH K s₁.heap A = H at hO hok hS hK noA
  have base_of : ∀ {b : Addr} {o : Obj}, s₁.heap.get? b = some o → H b = none → (hidT s₁.heap H).get? b = some o := fun e n => hidT_get e n
  have nsK : ∀ {b : Addr} {m : Str → Option Value}, s₁.heap.Ns b m → (hidT s₁.heap H).Ns b m := fun {b m} ⟨o, es, ep, e, d, r⟩ => ⟨o, es, ep, base_of e (noA e d), d, r⟩
  have nK : ∀ b o, K.lookup b = some o → H b = none := fun b o e => by
    cases q : H b with
    | none => rfl
    | some u =>
      rw [hK b u q] at e
      cases e
  have hKb : K.In (hidT s₁.heap H) := fun b o e => base_of (KX b o e) (nK b o e)
  have hM : Mod K mg (hidT s₁.heap H) := ⟨hKb, nsK hns, ⟨mb, nsK hb, hbb⟩, let ⟨mc, h1, h2⟩ := hlim; ⟨mc, nsK h1, h2⟩⟩
  have e0 : Env0 P w K mg (hidT s₁.heap H) callerA [] s₁ H := ⟨rfl, hM, fun b o e => of_hidT e, Nat.le_of_eq (hidT_size _ _), trivial, fun b hb => absurd (show b ∈ ([] : List Addr) from hb) (by simp), hok, .of_eq hg⟩
  have hl : vals.length = ps.length := by rw [wellAll_len hwl]; exact hlen
  refine codeAny_mono ((F _ hKb (nsK hns)).run callerA [] s₁ H ⟨vals, []⟩ vals (vals.map toV) _ _ hr e0 (hbind s₁ vals hl) hV (hsp H _ hO hS)) fun r s' x => ?_
  cases r with
  | error e => exact (hCX H e s' x).elim
  | ok fl =>
    cases fl with
    | next => exact False.elim x
    | brk => exact False.elim x
    | cont => exact False.elim x
    | ret u =>
      obtain ⟨v, H', os, bare, un, hok', r', q⟩ := x
      have kept : ∀ b o, s₁.heap.get? b = some o → s'.heap.get? b = some o := fun b o e => by
        cases q2 : H b with
        | none => exact un.keep b o e q2 (by intro z; exact absurd (show b ∈ ([] : List Addr) from z) (by simp)) (by simp)
        | some u2 =>
          rcases hO b with z | ⟨ob, u3, z⟩
          · rw [q2] at z
            cases z
          · have z2 := un.frzs b ob _ z
            obtain ⟨e1, _⟩ := hok b _ z
            obtain ⟨e2, _⟩ := hok' b _ z2
            rw [e] at e1
            cases e1
            exact e2
      have KX' : K.In s'.heap := fun b o e => kept b o (KX b o e)
      obtain ⟨as, hrd⟩ := Dw.reads (R := R) (cl := cl) hok' KX' d0 v u q r'
      exact ⟨u, as, rfl, hrd, OldK.of_keep kept, os, bare⟩
theorem layable_weight {ds : List WData} (h : WData.layableAll ds = true) : ∀ d ∈ ds, d.weight ≤ 1048576 := fun d hd =>
  (PySem.W.layableW_iff.mp (List.all_eq_true.mp h d hd)).2.2
theorem encAll_len : ∀ (cs : List Codec) (a : Codec.denoteAll cs), (Codec.encAll cs a).length = cs.length
  | [], _ => rfl
  | c :: cs, a => by
    show (Codec.encAll cs a.2).length + 1 = cs.length + 1
    rw [encAll_len cs a.2]
/-- the goal that k_headS leaves (case hc), from the promise of the row's def: whatever the arguments that the codecs let and the row asks for, the def gives what stands for enc (f ..) -/
theorem walk_spec {r : OpenSpec} {k : Nat} {q : Program} {loose : List Str} {XP : (Str → Option Value) → Heap → Prop} {YP : World → Heap → Prop} {d : DefRec} {K : Params → PySem.W.Frag} {CX : World → CXT} {ps : List Str} {sp : World → Sp}
    (hwell : r.wellSaid = true) (hdf : d.params.defaults = []) (hlen : r.args.length = ps.length) (hr : Room k callerA)
    (hY : ∀ (w : World) (h : Heap), YP w h → (K w.params).In h)
    (F : ∀ (w : World) (mg : Str → Option Value) (fa : Addr) (h : Heap), YP w h → (K w.params).In h → h.Ns mainGlobals mg → mg d.name = some (.ref fa) →
      ∃ fd : FuncData, (∀ (s : Shared) (us : List Value), us.length = ps.length → BindsTo s fd ⟨us, []⟩ (ps.zip us)) ∧
        ∀ base : Heap, (K w.params).In base → base.Ns mainGlobals mg → FnOk r.prog w (K w.params) mg base (CX w) k fa fd ps (sp w))
    (hsp : ∀ (w : World) (H : Hp) (xs : List V) (a : Codec.denoteAll r.args), OnlyF H → Codec.withinAll r.args a = true → Codec.app r.args r.asked a = true → DwAll (K w.params) H xs (Codec.encAll r.args a) →
      sp w xs H (fun v H' => Dw (K w.params) H' v (r.ret.enc (Codec.app r.args r.f a))) fun _ _ _ => False)
    (hCX : ∀ (w : World) (H : Hp) (s : Shared) (e : Value) (s' : Shared), CX w [] H s (fun _ _ _ => False) e s' → False) :
    PySem.W.WalkOS q loose XP YP r d [] (fun f vs => PySem.call f vs) := by
  intro w s_0 s₁ mg mb G Y fa o pm cd doc dV kV ho hd hcd hD hmg hg args vals as hpre hlay hrd hwl hlo
  obtain ⟨a, e1, e2⟩ := PySem.W.os_pre_some hpre
  obtain ⟨e3, hwi⟩ := Codec.encAll_of_decAll r.args args a e1
  subst e3
  have KX := hY w _ Y
  obtain ⟨fd, hb, hF⟩ := F w mg fa _ Y KX G.T.g hmg
  refine PySem.W.enter_call (codeAny_mono (spec_call (R := []) (cl := classAt s_0.heap) (d0 := r.ret.enc (Codec.app r.args r.f a)) KX G.T.g G.T.b G.T.builtins G.T.nolimit hg hwl (pl_encAll _ _) (layable_weight hlay) hr hF hb (by rw [encAll_len]; exact hlen)
    (fun H xs hO hS => hsp w H xs a hO hwi e2 hS) fun H e s' => hCX w H s₁ e s') fun r' s' hq => ?_)
  obtain ⟨u, as', rfl, h1, h2, h3, h4⟩ := hq
  exact ⟨.inl ⟨u, _, as', rfl, fun _ => rfl, h1, (OpenSpec.post_iff hwell hwi _ _).mpr rfl, fun z => Bool.noConfusion (show false = true from z)⟩, h2, h3, h4⟩
/-- the same where the promise hangs on the written part alone -/
theorem walk_specK {r : OpenSpec} {k : Nat} {q : Program} {loose : List Str} {XP : (Str → Option Value) → Heap → Prop} {YP : World → Heap → Prop} {d : DefRec} {K : Params → PySem.W.Frag} {CX : CXT} {ps : List Str} {sp : PySem.W.Frag → Sp}
    (hwell : r.wellSaid = true) (hdf : d.params.defaults = []) (hlen : r.args.length = ps.length) (hr : Room k callerA)
    (hY : ∀ (w : World) (h : Heap), YP w h → (K w.params).In h)
    (F : ∀ (w : World) (mg : Str → Option Value) (fa : Addr) (h : Heap), YP w h → (K w.params).In h → h.Ns mainGlobals mg → mg d.name = some (.ref fa) →
      ∃ fd : FuncData, (∀ (s : Shared) (us : List Value), us.length = ps.length → BindsTo s fd ⟨us, []⟩ (ps.zip us)) ∧
        ∀ base : Heap, (K w.params).In base → base.Ns mainGlobals mg → FnOk r.prog w (K w.params) mg base CX k fa fd ps (sp (K w.params)))
    (hsp : ∀ (K : PySem.W.Frag) (H : Hp) (xs : List V) (a : Codec.denoteAll r.args), OnlyF H → Codec.withinAll r.args a = true → Codec.app r.args r.asked a = true → DwAll K H xs (Codec.encAll r.args a) →
      sp K xs H (fun v H' => Dw K H' v (r.ret.enc (Codec.app r.args r.f a))) fun _ _ _ => False)
    (hCX : ∀ (H : Hp) (s : Shared) (e : Value) (s' : Shared), CX [] H s (fun _ _ _ => False) e s' → False) :
    PySem.W.WalkOS q loose XP YP r d [] (fun f vs => PySem.call f vs) :=
  walk_spec (K := K) (CX := fun _ => CX) (sp := fun w => sp (K w.params)) hwell hdf hlen hr hY F (fun w H xs a h1 h2 h3 h4 => hsp (K w.params) H xs a h1 h2 h3 h4) fun _ H s e s' => hCX H s e s'
end L2
end
end
section
set_option linter.all false
namespace Wf
open Kp181
abbrev Tk := Bytes
def run (p : Nat → Bool) (r : Bytes) : Nat := (r.takeWhile p).length
def marks : List Tk := [[58], [59], [44], [46, 46], [61], [33, 61], [37]]
def tokSize (r : Bytes) : Nat :=
  if 16 < run small r ∨ 4 < run digit r then 0
  else match marks.find? (fun m => r.take m.length == m) with
    | some m => m.length
    | none => run small r + run digit r
def toks (t : Bytes) : Option (List Tk) := match t with
  | [] => some []
  | c :: r => if c = 32 ∨ c = 10 then toks r
    else if h : tokSize (c :: r) = 0 then none
    else (toks ((c :: r).drop (tokSize (c :: r)))).map fun l => (c :: r).take (tokSize (c :: r)) :: l
termination_by t.length
decreasing_by all_goals (simp only [List.length_drop, List.length_cons]; omega)
theorem toks_nil : toks [] = some [] := by rw [toks]
theorem toks_sp {c : Nat} {r : Bytes} (h : c = 32 ∨ c = 10) : toks (c :: r) = toks r := by rw [toks, if_pos h]
theorem toks_bad {c : Nat} {r : Bytes} (h : ¬ (c = 32 ∨ c = 10)) (h0 : tokSize (c :: r) = 0) : toks (c :: r) = none := by rw [toks, if_neg h, dif_pos h0]
theorem toks_tok {c : Nat} {r : Bytes} (h : ¬ (c = 32 ∨ c = 10)) (h0 : ¬ tokSize (c :: r) = 0) : toks (c :: r) = (toks ((c :: r).drop (tokSize (c :: r)))).map fun l => (c :: r).take (tokSize (c :: r)) :: l := by
  rw [toks, if_neg h, dif_neg h0]
def tokOf (b : Tk) : Tok := if small (b.headD 0) then .word b else if digit (b.headD 0) then .num (number b) else .sign b
theorem take_while_len {α : Type} (p : α → Bool) : ∀ l : List α, l.take (l.takeWhile p).length = l.takeWhile p
  | [] => rfl
  | a :: l => by
    by_cases h : p a = true
    · rw [List.takeWhile_cons_of_pos h, List.length_cons, List.take_succ_cons, take_while_len p l]
    · rw [List.takeWhile_cons_of_neg h]; rfl
theorem run_pos {p : Nat → Bool} {c : Nat} {r : Bytes} (h : p c = true) : run p (c :: r) = (r.takeWhile p).length + 1 := by
  unfold run; rw [List.takeWhile_cons_of_pos h, List.length_cons]
theorem run_neg {p : Nat → Bool} {c : Nat} {r : Bytes} (h : ¬ p c = true) : run p (c :: r) = 0 := by
  unfold run; rw [List.takeWhile_cons_of_neg h]; rfl
theorem run_le (p : Nat → Bool) (r : Bytes) : run p r ≤ r.length := by
  unfold run; exact (List.takeWhile_sublist p).length_le
theorem small_iff {c : Nat} : small c = true ↔ 97 ≤ c ∧ c ≤ 122 := by simp [small]
theorem digit_iff {c : Nat} : digit c = true ↔ 48 ≤ c ∧ c ≤ 57 := by simp [digit]
theorem mark_none {c : Nat} {r : Bytes} (h : c ∉ [58, 59, 44, 46, 61, 33, 37]) : marks.find? (fun m => (c :: r).take m.length == m) = none := by
  simp only [List.mem_cons, not_or, List.not_mem_nil, not_false_eq_true, and_true] at h
  obtain ⟨h1, h2, h3, h4, h5, h6, h7⟩ := h
  simp [marks, List.find?_cons, h1, h2, h3, h4, h5, h6, h7]
theorem size_small {c : Nat} {r : Bytes} (h : small c = true) : tokSize (c :: r) = if 16 < (r.takeWhile small).length + 1 then 0 else (r.takeWhile small).length + 1 := by
  have hs := small_iff.mp h
  have hd : ¬ digit c = true := by rw [digit_iff]; omega
  unfold tokSize
  rw [run_pos h, run_neg hd, mark_none (by simp; omega)]
  simp
theorem size_digit {c : Nat} {r : Bytes} (h : digit c = true) : tokSize (c :: r) = if 4 < (r.takeWhile digit).length + 1 then 0 else (r.takeWhile digit).length + 1 := by
  have hs := digit_iff.mp h
  have hd : ¬ small c = true := by rw [small_iff]; omega
  unfold tokSize
  rw [run_pos h, run_neg hd, mark_none (by simp; omega)]
  simp
theorem size_other {c : Nat} {r : Bytes} (h1 : ¬ small c = true) (h2 : ¬ digit c = true) : tokSize (c :: r) = match marks.find? (fun m => (c :: r).take m.length == m) with
    | some m => m.length
    | none => 0 := by
  unfold tokSize
  rw [run_neg h1, run_neg h2]
  simp
theorem map_map_cons (o : Option (List Tk)) (b : Tk) : (o.map fun l => b :: l).map (List.map tokOf) = (o.map (List.map tokOf)).map fun l => tokOf b :: l := by
  cases o <;> rfl
theorem lex_toks : ∀ (n : Nat) (r : Bytes), r.length ≤ n → ∀ f, r.length < f → lex f r = (toks r).map (List.map tokOf) := by
  intro n
  induction n with
  | zero =>
    intro r hr f hf
    match r, hr with
    | [], _ =>
      obtain ⟨f, rfl⟩ : ∃ g, f = g + 1 := ⟨f - 1, by simp at hf; omega⟩
      rw [toks_nil]; rfl
  | succ n ih =>
    intro r hr f hf
    match r with
    | [] =>
      obtain ⟨f, rfl⟩ : ∃ g, f = g + 1 := ⟨f - 1, by simp at hf; omega⟩
      rw [toks_nil]; rfl
    | c :: r =>
      simp only [List.length_cons] at hr hf
      obtain ⟨f, rfl⟩ : ∃ g, f = g + 1 := ⟨f - 1, by omega⟩
      unfold lex
      by_cases hsp : c = 32 ∨ c = 10
      · rw [if_pos hsp, toks_sp hsp, ih r (by omega) f (by omega)]
      · rw [if_neg hsp]
        by_cases hs : small c = true
        · rw [if_pos hs]
          have e := size_small (r := r) hs
          simp only [List.length_cons]
          by_cases hl : 16 < (r.takeWhile small).length + 1
          · rw [if_pos hl] at e ⊢
            rw [toks_bad hsp e]; rfl
          · rw [if_neg hl] at e ⊢
            rw [toks_tok hsp (by omega), e, map_map_cons]
            simp only [Nat.add_sub_cancel, List.drop_succ_cons, List.take_succ_cons, take_while_len]
            rw [ih (r.drop (r.takeWhile small).length) (by simp; omega) f (by simp; omega)]
            simp [tokOf, hs]
        · rw [if_neg hs]
          by_cases hd : digit c = true
          · rw [if_pos hd]
            have e := size_digit (r := r) hd
            simp only [List.length_cons]
            by_cases hl : 4 < (r.takeWhile digit).length + 1
            · rw [if_pos hl] at e ⊢
              rw [toks_bad hsp e]; rfl
            · rw [if_neg hl] at e ⊢
              rw [toks_tok hsp (by omega), e, map_map_cons]
              simp only [Nat.add_sub_cancel, List.drop_succ_cons, List.take_succ_cons, take_while_len]
              rw [ih (r.drop (r.takeWhile digit).length) (by simp; omega) f (by simp; omega)]
              simp [tokOf, hs, hd]
          · rw [if_neg hd]
            have e := size_other (r := r) hs hd
            by_cases h46 : c = 46
            · subst h46
              rw [if_pos rfl]
              match r with
              | [] =>
                rw [toks_bad hsp (by rw [e]; simp [marks, List.find?_cons])]; rfl
              | d :: q =>
                by_cases hd46 : d = 46
                · subst hd46
                  have e2 : tokSize (46 :: 46 :: q) = 2 := by rw [e]; simp [marks, List.find?_cons]
                  rw [toks_tok hsp (by rw [e2]; decide), e2, map_map_cons]
                  simp only [List.drop_succ_cons, List.take_succ_cons, List.drop_zero, List.take_zero]
                  rw [ih q (by simp at hr; omega) f (by simp at hf; omega)]
                  rfl
                · rw [toks_bad hsp (by rw [e]; simp [marks, List.find?_cons, hd46])]
                  simp only [Option.map_none]
                  split
                  · rename_i h; simp at h; omega
                  · rfl
            · rw [if_neg h46]
              by_cases h33 : c = 33
              · subst h33
                rw [if_pos rfl]
                match r with
                | [] =>
                  rw [toks_bad hsp (by rw [e]; simp [marks, List.find?_cons])]; rfl
                | d :: q =>
                  by_cases hd46 : d = 61
                  · subst hd46
                    have e2 : tokSize (33 :: 61 :: q) = 2 := by rw [e]; simp [marks, List.find?_cons]
                    rw [toks_tok hsp (by rw [e2]; decide), e2, map_map_cons]
                    simp only [List.drop_succ_cons, List.take_succ_cons, List.drop_zero, List.take_zero]
                    rw [ih q (by simp at hr; omega) f (by simp at hf; omega)]
                    rfl
                  · rw [toks_bad hsp (by rw [e]; simp [marks, List.find?_cons, hd46])]
                    simp only [Option.map_none]
                    split
                    · rename_i h; simp at h; omega
                    · rfl
              · rw [if_neg h33]
                have eb : bytesOf ":;,=%" = [58, 59, 44, 61, 37] := by decide
                rw [eb]
                by_cases hm : c ∈ [58, 59, 44, 61, 37]
                · rw [if_pos (by simpa using hm)]
                  have e2 : tokSize (c :: r) = 1 := by
                    rw [e]
                    simp only [List.mem_cons, List.not_mem_nil, or_false] at hm
                    rcases hm with rfl | rfl | rfl | rfl | rfl <;> simp [marks, List.find?_cons]
                  rw [toks_tok hsp (by rw [e2]; decide), e2, map_map_cons]
                  simp only [List.drop_succ_cons, List.take_succ_cons, List.drop_zero, List.take_zero]
                  rw [ih r (by omega) f (by omega)]
                  simp [tokOf, hs, hd]
                · rw [if_neg (by simpa using hm)]
                  rw [toks_bad hsp (by rw [e, mark_none (by simp at hm ⊢; omega)])]; rfl
end Wf
end
section
set_option linter.all false
namespace Wf
open Kp181
/-! ### the program's own parser, by parting -/
def split (m : Tk) : List Tk → List (List Tk)
  | [] => [[]]
  | b :: r => if b = m then [] :: split m r else match split m r with
    | [] => [[b]]
    | p :: ps => (b :: p) :: ps
def allOf {α β : Type} (g : α → Option β) : List α → Option (List β)
  | [] => some []
  | x :: r => match g x with
    | none => none
    | some y => (allOf g r).map fun l => y :: l
def mRange : List Tk → Option (Nat × Nat)
  | [a] => if digit (a.headD 0) = true then some (number a, number a) else none
  | [a, d, b] => if digit (a.headD 0) = true ∧ d = [46, 46] ∧ digit (b.headD 0) = true then some (number a, number b) else none
  | _ => none
def mRanges (l : List Tk) : Option (List (Nat × Nat)) := allOf mRange (split [44] l)
def mTail (m : Option Nat) : List Tk → Option One
  | [] => none
  | e :: z => if e = [61] then (mRanges z).map fun l => ⟨m, true, l⟩ else if e = [33, 61] then (mRanges z).map fun l => ⟨m, false, l⟩ else none
def mPc : List Tk → Option One
  | [] => none
  | k :: z => if digit (k.headD 0) = true then mTail (some (number k)) z else none
def mRest : List Tk → Option One
  | [] => none
  | p :: r => if p = [37] then mPc r else mTail none (p :: r)
def mOne : List Tk → Option One
  | [] => none
  | n :: r => if n = [110] then mRest r else none
def mBoth (l : List Tk) : Option (List One) := allOf mOne (split [97, 110, 100] l)
def mEither (l : List Tk) : Option Either := allOf mBoth (split [111, 114] l)
def mForm : List Tk → Option (Bytes × Either)
  | w :: c :: r => if small (w.headD 0) = true ∧ c = [58] then (mEither r).map fun e => (w, e) else none
  | _ => none
def mRule (l : List Tk) : Option Rule := if l = [] then some [] else if l.getLast? = some [59] then allOf mForm (split [59] l.dropLast) else none
/-! ### eat -/
theorem eat_cons {s : String} {bs b : Bytes} {r : List Tok} (hs : bytesOf s = bs) (hd : digit (bs.headD 0) = false) : eat s (tokOf b :: r) = if b = bs then some r else none := by
  subst hs
  unfold tokOf
  by_cases h1 : small (b.headD 0) = true
  · rw [if_pos h1]; rfl
  · rw [if_neg h1]
    by_cases h2 : digit (b.headD 0) = true
    · rw [if_pos h2, if_neg (by rintro rfl; rw [h2] at hd; cases hd)]; rfl
    · rw [if_neg h2]; rfl
theorem eat_nil (s : String) : eat s [] = none := rfl
theorem tokOf_num {b : Bytes} (h : digit (b.headD 0) = true) : tokOf b = .num (number b) := by
  unfold tokOf
  have hd := digit_iff.mp h
  rw [if_neg (by rw [small_iff]; omega), if_pos h]
theorem tokOf_not_num {b : Bytes} (h : ¬ digit (b.headD 0) = true) : ∀ v, tokOf b ≠ .num v := by
  intro v
  unfold tokOf
  split
  · intro e; cases e
  · first | rw [if_neg h] | skip
    intro e; cases e
theorem tokOf_word {b : Bytes} (h : small (b.headD 0) = true) : tokOf b = .word b := by
  unfold tokOf; rw [if_pos h]
theorem tokOf_not_word {b : Bytes} (h : ¬ small (b.headD 0) = true) : ∀ v, tokOf b ≠ .word v := by
  intro v
  unfold tokOf
  rw [if_neg h]
  split <;> (intro e; cases e)
/-! ### one parser of separated things -/
def pSep {α : Type} (c : String) (p : List Tok → Option (α × List Tok)) : Nat → List Tok → Option (List α × List Tok)
  | 0, _ => none
  | f + 1, ts => do
    let x ← p ts
    match eat c x.2 with
    | some q => do
      let l ← pSep c p f q
      return (x.1 :: l.1, l.2)
    | none => return ([x.1], x.2)
theorem pRanges_eq : ∀ f ts, pRanges f ts = pSep "," pRange f ts
  | 0, _ => rfl
  | f + 1, ts => by
    unfold pRanges pSep
    simp only [pRanges_eq f]
    all_goals rfl
theorem pBoth_eq : ∀ f ts, pBoth f ts = pSep "and" (fun ts => pOne ts.length ts) f ts
  | 0, _ => rfl
  | f + 1, ts => by
    unfold pBoth pSep
    simp only [pBoth_eq f]
    all_goals rfl
theorem pEither_eq : ∀ f ts, pEither f ts = pSep "or" (fun ts => pBoth ts.length ts) f ts
  | 0, _ => rfl
  | f + 1, ts => by
    unfold pEither pSep
    simp only [pEither_eq f]
    all_goals rfl
def Stop (S : List Tk) (post : List Tk) : Prop := post = [] ∨ ∃ b r, post = b :: r ∧ b ∈ S
def Bad (S : List Tk) (r : List Tok) : Prop := ∃ b q, r = tokOf b :: q ∧ b ∉ S
def Out {α : Type} (S : List Tk) (post : List Tk) (y : Option α) : Option (α × List Tok) → Prop
  | some (x, r) => (y = some x ∧ r = post.map tokOf) ∨ (y = none ∧ Bad S r)
  | none => y = none
/-- the part ahead of the first stop is read by q, whole -/
def Rel {α : Type} (S : List Tk) (p : List Tok → Option (α × List Tok)) (q : List Tk → Option α) : Prop :=
  ∀ pre post, (∀ b ∈ pre, b ∉ S) → Stop S post → Out S post (q pre) (p ((pre ++ post).map tokOf))
theorem split_none {m : Tk} : ∀ {l : List Tk}, m ∉ l → split m l = [l]
  | [], _ => rfl
  | b :: r, h => by
    rw [List.mem_cons, not_or] at h
    unfold split
    rw [if_neg (fun e => h.1 e.symm), split_none h.2]
theorem split_at {m : Tk} : ∀ {l r : List Tk}, m ∉ l → split m (l ++ m :: r) = l :: split m r
  | [], r, _ => by show split m (m :: r) = _; rw [split, if_pos rfl]
  | b :: l, r, h => by
    rw [List.mem_cons, not_or] at h
    show split m (b :: (l ++ m :: r)) = _
    rw [split, if_neg (fun e => h.1 e.symm), split_at h.2]
theorem first_at {m : Tk} : ∀ l : List Tk, m ∉ l ∨ ∃ a r, l = a ++ m :: r ∧ m ∉ a
  | [] => .inl (by simp)
  | b :: l => by
    by_cases e : b = m
    · subst e; exact .inr ⟨[], l, rfl, by simp⟩
    · rcases first_at (m := m) l with h | ⟨a, r, rfl, h⟩
      · exact .inl (by rw [List.mem_cons, not_or]; exact ⟨fun z => e z.symm, h⟩)
      · exact .inr ⟨b :: a, r, rfl, by rw [List.mem_cons, not_or]; exact ⟨fun z => e z.symm, h⟩⟩
theorem eat_bad {S : List Tk} {c : String} {m : Tk} (hc : bytesOf c = m) (hd : digit (m.headD 0) = false) (hm : m ∈ S) {r : List Tok} (h : Bad S r) : eat c r = none := by
  obtain ⟨b, q, rfl, hb⟩ := h
  rw [eat_cons hc hd, if_neg (fun e : b = m => hb (by rw [e]; exact hm))]
theorem rel_sep {α : Type} {c : String} {m : Tk} {S : List Tk} {p : List Tok → Option (α × List Tok)} {q : List Tk → Option α} (hc : bytesOf c = m) (hd : digit (m.headD 0) = false) (hmS : m ∉ S) (h : Rel (m :: S) p q) (h0 : q [] = none) :
    ∀ (f : Nat) (pre post : List Tk), (∀ b ∈ pre, b ∉ S) → Stop S post → pre.length + post.length ≤ f → Out S post (allOf q (split m pre)) (pSep c p f ((pre ++ post).map tokOf)) := by
  intro f
  induction f with
  | zero =>
    intro pre post h1 h2 hf
    match pre, post, hf with
    | [], [], _ =>
      show allOf q [[]] = none
      unfold allOf
      rw [h0]
  | succ f ih =>
    intro pre post h1 h2 hf
    unfold pSep
    rcases first_at (m := m) pre with hn | ⟨a, r, rfl, hn⟩
    · have h3 : Stop (m :: S) post := by
        rcases h2 with e | ⟨b, r, e, hb⟩
        · exact .inl e
        · exact .inr ⟨b, r, e, List.mem_cons_of_mem _ hb⟩
      have h4 : ∀ b ∈ pre, b ∉ m :: S := fun b hb => by
        rw [List.mem_cons, not_or]
        exact ⟨fun e => hn (e ▸ hb), h1 b hb⟩
      have o := h pre post h4 h3
      rw [split_none hn]
      unfold allOf allOf
      cases e : p ((pre ++ post).map tokOf) with
      | none =>
        rw [e] at o
        have o : q pre = none := o
        rw [o]
        rfl
      | some x =>
        obtain ⟨x, r⟩ := x
        rw [e] at o
        have o : (q pre = some x ∧ r = post.map tokOf) ∨ (q pre = none ∧ Bad (m :: S) r) := o
        rcases o with ⟨oq, rfl⟩ | ⟨oq, ob⟩
        · rw [oq]
          have he : eat c (post.map tokOf) = none := by
            rcases h2 with rfl | ⟨b, r, rfl, hb⟩
            · rfl
            · rw [List.map_cons, eat_cons hc hd, if_neg (fun e : b = m => hmS (by rw [← e]; exact hb))]
          show Out S post _ (match eat c (post.map tokOf) with | some q => _ | none => _)
          rw [he]
          exact .inl ⟨rfl, rfl⟩
        · rw [oq]
          have he : eat c r = none := eat_bad hc hd List.mem_cons_self ob
          show Out S post _ (match eat c r with | some q => _ | none => _)
          rw [he]
          obtain ⟨b, q', rfl, hb⟩ := ob
          exact .inr ⟨rfl, b, q', rfl, fun z => hb (List.mem_cons_of_mem _ z)⟩
    · have h3 : Stop (m :: S) (m :: (r ++ post)) := .inr ⟨m, _, rfl, List.mem_cons_self⟩
      have h4 : ∀ b ∈ a, b ∉ m :: S := fun b hb => by
        rw [List.mem_cons, not_or]
        exact ⟨fun e => hn (e ▸ hb), h1 b (List.mem_append_left _ hb)⟩
      have o := h a (m :: (r ++ post)) h4 h3
      have ea : a ++ m :: r ++ post = a ++ m :: (r ++ post) := by rw [List.append_assoc, List.cons_append]
      rw [ea, split_at hn]
      unfold allOf
      cases e : p ((a ++ m :: (r ++ post)).map tokOf) with
      | none =>
        rw [e] at o
        have o : q a = none := o
        rw [o]
        rfl
      | some x =>
        obtain ⟨x, z⟩ := x
        rw [e] at o
        have o : (q a = some x ∧ z = (m :: (r ++ post)).map tokOf) ∨ (q a = none ∧ Bad (m :: S) z) := o
        rcases o with ⟨oq, rfl⟩ | ⟨oq, ob⟩
        · rw [oq]
          have he : eat c ((m :: (r ++ post)).map tokOf) = some ((r ++ post).map tokOf) := by
            rw [List.map_cons, eat_cons hc hd, if_pos rfl]
          show Out S post _ (match eat c ((m :: (r ++ post)).map tokOf) with | some q => _ | none => _)
          rw [he]
          have ha : a ≠ [] := by rintro rfl; rw [h0] at oq; cases oq
          have hla : 1 ≤ a.length := by
            cases a with
            | nil => exact absurd rfl ha
            | cons _ _ => simp
          have i := ih r post (fun b hb => h1 b (List.mem_append_right _ (List.mem_cons_of_mem _ hb))) h2 (by simp at hf; omega)
          show Out S post _ (do let l ← pSep c p f ((r ++ post).map tokOf); return (x :: l.1, l.2))
          cases e2 : pSep c p f ((r ++ post).map tokOf) with
          | none =>
            rw [e2] at i
            have i : allOf q (split m r) = none := i
            show (allOf q (split m r)).map _ = none
            rw [i]; rfl
          | some y =>
            obtain ⟨y, z⟩ := y
            rw [e2] at i
            have i : (allOf q (split m r) = some y ∧ z = post.map tokOf) ∨ (allOf q (split m r) = none ∧ Bad S z) := i
            rcases i with ⟨iq, rfl⟩ | ⟨iq, ib⟩
            · exact .inl ⟨by show (allOf q (split m r)).map _ = _; rw [iq]; rfl, rfl⟩
            · exact .inr ⟨by show (allOf q (split m r)).map _ = _; rw [iq]; rfl, ib⟩
        · rw [oq]
          have he : eat c z = none := eat_bad hc hd List.mem_cons_self ob
          show Out S post _ (match eat c z with | some q => _ | none => _)
          rw [he]
          obtain ⟨b, q', rfl, hb⟩ := ob
          exact .inr ⟨rfl, b, q', rfl, fun z => hb (List.mem_cons_of_mem _ z)⟩
/-! ### the levels -/
def S1 : List Tk := [[97, 110, 100], [111, 114], [59]]
def S2 : List Tk := [[111, 114], [59]]
def S3 : List Tk := [[59]]
theorem hd_of_stop {S : List Tk} (hS : ∀ b ∈ S, digit (b.headD 0) = false) {post : List Tk} (h : Stop S post) : ∀ v r, post.map tokOf ≠ .num v :: r := by
  intro v r
  rcases h with rfl | ⟨b, q, rfl, hb⟩
  · intro e; cases e
  · intro e
    rw [List.map_cons] at e
    exact tokOf_not_num (by rw [hS b hb]; decide) v (List.cons.inj e).1
theorem eat_stop {S : List Tk} {c : String} {m : Tk} (hc : bytesOf c = m) (hd : digit (m.headD 0) = false) (hm : m ∉ S) {post : List Tk} (h : Stop S post) : eat c (post.map tokOf) = none := by
  rcases h with rfl | ⟨b, q, rfl, hb⟩
  · rfl
  · rw [List.map_cons, eat_cons hc hd, if_neg (fun e : b = m => hm (by rw [← e]; exact hb))]
theorem b_dots : bytesOf ".." = [46, 46] := by decide
theorem b_comma : bytesOf "," = [44] := by decide
theorem b_n : bytesOf "n" = [110] := by decide
theorem b_pc : bytesOf "%" = [37] := by decide
theorem b_eq : bytesOf "=" = [61] := by decide
theorem b_ne : bytesOf "!=" = [33, 61] := by decide
theorem b_and : bytesOf "and" = [97, 110, 100] := by decide
theorem b_or : bytesOf "or" = [111, 114] := by decide
theorem b_colon : bytesOf ":" = [58] := by decide
theorem b_semi : bytesOf ";" = [59] := by decide
theorem b_other : bytesOf "other" = [111, 116, 104, 101, 114] := by decide
theorem pRange_num {v : Nat} {r : List Tok} : pRange (.num v :: r) = match eat ".." r with
    | some (.num b :: q) => some ((v, b), q)
    | some _ => none
    | none => some ((v, v), r) := rfl
theorem pRange_bad {ts : List Tok} (h : ∀ v r, ts ≠ .num v :: r) : pRange ts = none := by
  unfold pRange
  split
  · rename_i a r; exact absurd rfl (h a r)
  · rfl
theorem rel_range : Rel ([44] :: S1) pRange mRange := by
  intro pre post h1 h2
  have hS : ∀ b ∈ ([44] :: S1), digit (b.headD 0) = false := by decide
  match pre, h1 with
  | [], _ =>
    have e : pRange (([] ++ post).map tokOf) = none := pRange_bad (hd_of_stop hS h2)
    rw [e]; rfl
  | [a], h1 =>
    by_cases ha : digit (a.headD 0) = true
    · have e : pRange (([a] ++ post).map tokOf) = some ((number a, number a), post.map tokOf) := by
        show pRange (tokOf a :: post.map tokOf) = _
        rw [tokOf_num ha, pRange_num, eat_stop b_dots (by decide) (by decide) h2]
      rw [e]
      exact .inl ⟨by show (if _ then _ else _) = _; rw [if_pos ha], rfl⟩
    · have e : pRange (([a] ++ post).map tokOf) = none := pRange_bad (fun v r q => tokOf_not_num ha v (List.cons.inj q).1)
      rw [e]
      show (if _ then _ else _) = none
      rw [if_neg ha]
  | a :: d :: pre, h1 =>
    by_cases ha : digit (a.headD 0) = true
    · have e0 : pRange ((a :: d :: pre ++ post).map tokOf) = match eat ".." (tokOf d :: (pre ++ post).map tokOf) with
        | some (.num b :: q) => some ((number a, b), q)
        | some _ => none
        | none => some ((number a, number a), tokOf d :: (pre ++ post).map tokOf) := by
        show pRange (tokOf a :: tokOf d :: (pre ++ post).map tokOf) = _
        rw [tokOf_num ha, pRange_num]
      rw [eat_cons b_dots (by decide)] at e0
      by_cases hdd : d = [46, 46]
      · rw [if_pos hdd] at e0
        match pre, h1 with
        | [], _ =>
          have e : pRange ((a :: d :: [] ++ post).map tokOf) = none := by
            rw [e0]
            have z := hd_of_stop hS h2
            show (match some (post.map tokOf) with | some (.num b :: q) => _ | some _ => none | none => _) = none
            split
            · rename_i b q e; exact absurd (Option.some.inj e) (z b q)
            · rfl
            · rename_i e; cases e
          rw [e]; rfl
        | b :: pre, h1 =>
          by_cases hb : digit (b.headD 0) = true
          · have e : pRange ((a :: d :: b :: pre ++ post).map tokOf) = some ((number a, number b), (pre ++ post).map tokOf) := by
              rw [e0]
              show (match some (tokOf b :: (pre ++ post).map tokOf) with | some (.num b :: q) => _ | some _ => none | none => _) = _
              rw [tokOf_num hb]
            rw [e]
            match pre, h1 with
            | [], _ => exact .inl ⟨by show (if _ then _ else _) = _; rw [if_pos ⟨ha, hdd, hb⟩], rfl⟩
            | x :: pre, h1 => exact .inr ⟨rfl, x, (pre ++ post).map tokOf, rfl, h1 x (by simp)⟩
          · have e : pRange ((a :: d :: b :: pre ++ post).map tokOf) = none := by
              rw [e0]
              show (match some (tokOf b :: (pre ++ post).map tokOf) with | some (.num b :: q) => _ | some _ => none | none => _) = _
              split
              · rename_i c q e; exact absurd (List.cons.inj (Option.some.inj e)).1 (tokOf_not_num hb c)
              · rfl
              · rename_i e; cases e
            rw [e]
            match pre with
            | [] =>
              show (if _ then _ else _) = none
              rw [if_neg (fun z => hb z.2.2)]
            | x :: pre => rfl
      · rw [if_neg hdd] at e0
        rw [e0]
        refine .inr ⟨?_, d, (pre ++ post).map tokOf, rfl, h1 d (by simp)⟩
        match pre with
        | [] => rfl
        | [b] => show (if _ then _ else _) = none; rw [if_neg (fun z => hdd z.2.1)]
        | _ :: _ :: _ => rfl
    · have e : pRange ((a :: d :: pre ++ post).map tokOf) = none := pRange_bad (fun v r q => tokOf_not_num ha v (List.cons.inj q).1)
      rw [e]
      match pre with
      | [] => rfl
      | [b] => show (if _ then _ else _) = none; rw [if_neg (fun z => ha z.1)]
      | _ :: _ :: _ => rfl
theorem rel_ranges (f : Nat) (pre post : List Tk) (h1 : ∀ b ∈ pre, b ∉ S1) (h2 : Stop S1 post) (hf : pre.length + post.length ≤ f) : Out S1 post (mRanges pre) (pRanges f ((pre ++ post).map tokOf)) := by
  rw [pRanges_eq]
  exact rel_sep b_comma (by decide) (by decide) rel_range rfl f pre post h1 h2 hf
/-- behind the divisor -/
def pTail (f : Nat) (m : Option Nat) (q : List Tok) : Option (One × List Tok) := match eat "=" q with
  | some z => do
    let l ← pRanges f z
    return (⟨m, true, l.1⟩, l.2)
  | none => do
    let z ← eat "!=" q
    let l ← pRanges f z
    return (⟨m, false, l.1⟩, l.2)
theorem pOne_eq (f : Nat) (ts : List Tok) : pOne f ts = (eat "n" ts).bind fun r => match eat "%" r with
    | some (.num k :: z) => pTail f (some k) z
    | some _ => none
    | none => pTail f none r := by
  unfold pOne
  cases eat "n" ts with
  | none => rfl
  | some r =>
    cases h : eat "%" r with
    | none => simp only [Option.bind_eq_bind, Option.bind_some, h]; rfl
    | some l => match l with
      | [] => simp only [Option.bind_eq_bind, Option.bind_some, h]; rfl
      | .num k :: z => simp only [Option.bind_eq_bind, Option.bind_some, h]; rfl
      | .word _ :: _ => simp only [Option.bind_eq_bind, Option.bind_some, h]; rfl
      | .sign _ :: _ => simp only [Option.bind_eq_bind, Option.bind_some, h]; rfl
theorem out_map {α β : Type} {S post : List Tk} {y : Option α} {o : Option (α × List Tok)} (g : α → β) (h : Out S post y o) : Out S post (y.map g) (o.bind fun l => some (g l.1, l.2)) := by
  cases o with
  | none =>
    have h : y = none := h
    rw [h]; rfl
  | some x =>
    obtain ⟨x, r⟩ := x
    rcases h with ⟨h, hr⟩ | ⟨h, hb⟩
    · rw [h]; exact .inl ⟨rfl, hr⟩
    · rw [h]; exact .inr ⟨rfl, hb⟩
theorem rel_tail (f : Nat) (m : Option Nat) (pre post : List Tk) (h1 : ∀ b ∈ pre, b ∉ S1) (h2 : Stop S1 post) (hf : pre.length + post.length ≤ f) : Out S1 post (mTail m pre) (pTail f m ((pre ++ post).map tokOf)) := by
  unfold pTail
  match pre, h1, hf with
  | [], h1, _ =>
    show Out S1 post none (match eat "=" (post.map tokOf) with | some z => _ | none => (eat "!=" (post.map tokOf)).bind fun z => _)
    rw [eat_stop b_eq (by decide) (by decide) h2, eat_stop b_ne (by decide) (by decide) h2]
    rfl
  | e :: z, h1, hf =>
    have i := rel_ranges f z post (fun b hb => h1 b (List.mem_cons_of_mem _ hb)) h2 (by simp at hf; omega)
    show Out S1 post (if e = [61] then _ else _) (match eat "=" (tokOf e :: (z ++ post).map tokOf) with | some z => _ | none => (eat "!=" (tokOf e :: (z ++ post).map tokOf)).bind fun z => _)
    rw [eat_cons b_eq (by decide), eat_cons b_ne (by decide)]
    by_cases h61 : e = [61]
    · rw [if_pos h61, if_pos h61]
      exact out_map (fun l => (⟨m, true, l⟩ : One)) i
    · rw [if_neg h61, if_neg h61]
      by_cases h33 : e = [33, 61]
      · rw [if_pos h33, if_pos h33]
        exact out_map (fun l => (⟨m, false, l⟩ : One)) i
      · rw [if_neg h33, if_neg h33]
        rfl
theorem rel_one (f : Nat) (pre post : List Tk) (h1 : ∀ b ∈ pre, b ∉ S1) (h2 : Stop S1 post) (hf : pre.length + post.length ≤ f) : Out S1 post (mOne pre) (pOne f ((pre ++ post).map tokOf)) := by
  have hS : ∀ b ∈ S1, digit (b.headD 0) = false := by decide
  rw [pOne_eq]
  match pre, h1, hf with
  | [], _, _ =>
    show Out S1 post none ((eat "n" (post.map tokOf)).bind _)
    rw [eat_stop b_n (by decide) (by decide) h2]
    rfl
  | n :: r, h1, hf =>
    show Out S1 post (if n = [110] then mRest r else none) ((eat "n" (tokOf n :: (r ++ post).map tokOf)).bind _)
    rw [eat_cons b_n (by decide)]
    by_cases hn : n = [110]
    · rw [if_pos hn, if_pos hn]
      show Out S1 post (mRest r) (match eat "%" ((r ++ post).map tokOf) with | some (.num k :: z) => pTail f (some k) z | some _ => none | none => pTail f none ((r ++ post).map tokOf))
      have h1' : ∀ b ∈ r, b ∉ S1 := fun b hb => h1 b (List.mem_cons_of_mem _ hb)
      simp only [List.length_cons] at hf
      match r, h1', hf with
      | [], h1', hf =>
        have e : eat "%" (([] ++ post).map tokOf) = none := eat_stop b_pc (by decide) (by decide) h2
        rw [e]
        exact rel_tail f none [] post h1' h2 (by simp at hf ⊢; omega)
      | p :: r, h1', hf =>
        have e : eat "%" ((p :: r ++ post).map tokOf) = if p = [37] then some ((r ++ post).map tokOf) else none := by
          show eat "%" (tokOf p :: (r ++ post).map tokOf) = _
          rw [eat_cons b_pc (by decide)]
        rw [e]
        by_cases hp : p = [37]
        · rw [if_pos hp]
          have er : mRest (p :: r) = mPc r := by
            show (if p = [37] then _ else _) = _
            rw [if_pos hp]
          rw [er]
          match r, h1', hf with
          | [], _, _ =>
            show Out S1 post none (match some (post.map tokOf) with | some (.num k :: z) => pTail f (some k) z | some _ => none | none => _)
            have z := hd_of_stop hS h2
            split
            · rename_i b q e; exact absurd (Option.some.inj e) (z b q)
            · rfl
            · rename_i e; cases e
          | k :: z, h1', hf =>
            by_cases hk : digit (k.headD 0) = true
            · show Out S1 post (if _ then _ else _) (match some (tokOf k :: (z ++ post).map tokOf) with | some (.num k :: z) => pTail f (some k) z | some _ => none | none => _)
              rw [tokOf_num hk, if_pos hk]
              exact rel_tail f (some (number k)) z post (fun b hb => h1' b (by simp [hb])) h2 (by simp at hf ⊢; omega)
            · show Out S1 post (if _ then _ else _) (match some (tokOf k :: (z ++ post).map tokOf) with | some (.num k :: z) => pTail f (some k) z | some _ => none | none => _)
              rw [if_neg hk]
              split
              · rename_i c q e; exact absurd (List.cons.inj (Option.some.inj e)).1 (tokOf_not_num hk c)
              · rfl
              · rename_i e; cases e
        · rw [if_neg hp]
          have er : mRest (p :: r) = mTail none (p :: r) := by
            show (if p = [37] then _ else _) = _
            rw [if_neg hp]
          rw [er]
          exact rel_tail f none (p :: r) post h1' h2 (by simp at hf ⊢; omega)
    · rw [if_neg hn, if_neg hn]
      rfl
theorem rel_one' : Rel S1 (fun ts => pOne ts.length ts) mOne := fun pre post h1 h2 => by
  have := rel_one ((pre ++ post).map tokOf).length pre post h1 h2 (by simp)
  exact this
theorem rel_both (f : Nat) (pre post : List Tk) (h1 : ∀ b ∈ pre, b ∉ S2) (h2 : Stop S2 post) (hf : pre.length + post.length ≤ f) : Out S2 post (mBoth pre) (pBoth f ((pre ++ post).map tokOf)) := by
  rw [pBoth_eq]
  exact rel_sep b_and (by decide) (by decide) rel_one' rfl f pre post h1 h2 hf
theorem rel_both' : Rel S2 (fun ts => pBoth ts.length ts) mBoth := fun pre post h1 h2 => by
  have := rel_both ((pre ++ post).map tokOf).length pre post h1 h2 (by simp)
  exact this
theorem rel_either (f : Nat) (pre post : List Tk) (h1 : ∀ b ∈ pre, b ∉ S3) (h2 : Stop S3 post) (hf : pre.length + post.length ≤ f) : Out S3 post (mEither pre) (pEither f ((pre ++ post).map tokOf)) := by
  rw [pEither_eq]
  exact rel_sep b_or (by decide) (by decide) rel_both' rfl f pre post h1 h2 hf
/-! ### the rule -/
theorem pRule_bad {f : Nat} {ts : List Tok} (h0 : ts ≠ []) (h : ∀ w r, ts ≠ .word w :: r) : pRule f ts = none := by
  unfold pRule
  split
  · exact absurd rfl h0
  · rfl
  · rename_i w r; exact absurd rfl (h w r)
  · rfl
theorem pRule_word {f : Nat} {w : Bytes} {r : List Tok} : pRule (f + 1) (.word w :: r) = (eat ":" r).bind fun q => (pEither (q.length + 1) q).bind fun e => (eat ";" e.2).bind fun z => (pRule f z).bind fun l => some ((w, e.1) :: l) := rfl
def behind (f : Nat) (o : Option (Bytes × Either)) : List Tk → Option Rule
  | [] => none
  | _ :: r => o.bind fun x => (pRule f (r.map tokOf)).bind fun l => some (x :: l)
theorem allOf_cons {α β : Type} (g : α → Option β) (x : α) (r : List α) : allOf g (x :: r) = match g x with
    | none => none
    | some y => (allOf g r).map fun l => y :: l := rfl
/-- a form and what is behind its end -/
theorem pRule_form (f : Nat) (pre post : List Tk) (h1 : ∀ b ∈ pre, b ∉ S3) (h2 : Stop S3 post) (hne : pre ++ post ≠ []) : pRule (f + 1) ((pre ++ post).map tokOf) = behind f (mForm pre) post := by
  have nopost : ∀ (o : Option (Bytes × Either)), o = none → (none : Option Rule) = behind f o post := fun o e => by
    rw [e]; cases post <;> rfl
  match pre, h1, hne with
  | [], h1, hne =>
    rcases h2 with rfl | ⟨b, r, rfl, hb⟩
    · exact absurd rfl hne
    · have hb : b = [59] := by simpa [S3] using hb
      subst hb
      exact pRule_bad (by simp) (fun w r e => tokOf_not_word (by decide) w (List.cons.inj e).1)
  | w :: pre, h1, hne =>
    by_cases hw : small (w.headD 0) = true
    · show pRule (f + 1) (tokOf w :: (pre ++ post).map tokOf) = _
      rw [tokOf_word hw, pRule_word]
      match pre, h1 with
      | [], h1 =>
        have e : eat ":" (([] ++ post).map tokOf) = none := eat_stop b_colon (by decide) (by decide) h2
        rw [e]
        exact nopost _ rfl
      | c :: pre, h1 =>
        have e : eat ":" ((c :: pre ++ post).map tokOf) = if c = [58] then some ((pre ++ post).map tokOf) else none := by
          show eat ":" (tokOf c :: (pre ++ post).map tokOf) = _
          rw [eat_cons b_colon (by decide)]
        rw [e]
        by_cases hc : c = [58]
        · rw [if_pos hc]
          have o := rel_either (((pre ++ post).map tokOf).length + 1) pre post (fun b hb => h1 b (by simp [hb])) h2 (by simp)
          have ef : mForm (w :: c :: pre) = (mEither pre).map fun e => (w, e) := by
            show (if _ then _ else _) = _
            rw [if_pos ⟨hw, hc⟩]
          rw [ef]
          show (pEither (((pre ++ post).map tokOf).length + 1) ((pre ++ post).map tokOf)).bind _ = _
          cases ee : pEither (((pre ++ post).map tokOf).length + 1) ((pre ++ post).map tokOf) with
          | none =>
            rw [ee] at o
            have o : mEither pre = none := o
            exact nopost _ (by rw [o]; rfl)
          | some x =>
            obtain ⟨x, r⟩ := x
            rw [ee] at o
            have o : (mEither pre = some x ∧ r = post.map tokOf) ∨ (mEither pre = none ∧ Bad S3 r) := o
            rcases o with ⟨oq, rfl⟩ | ⟨oq, ob⟩
            · rw [oq]
              rcases h2 with rfl | ⟨b, r, rfl, hb⟩
              · rfl
              · have hb : b = [59] := by simpa [S3] using hb
                subst hb
                rw [List.map_cons, Option.bind_some]
                show (eat ";" (tokOf [59] :: r.map tokOf)).bind _ = _
                rw [eat_cons b_semi (by decide), if_pos rfl]
                rfl
            · show (eat ";" r).bind _ = _
              rw [eat_bad b_semi (by decide) (by decide) ob]
              exact nopost _ (by rw [oq]; rfl)
        · rw [if_neg hc]
          refine nopost _ ?_
          show (if _ then _ else _) = none
          rw [if_neg (fun z => hc z.2)]
    · have e : pRule (f + 1) ((w :: pre ++ post).map tokOf) = none := pRule_bad (by simp) (fun v r e => tokOf_not_word hw v (List.cons.inj e).1)
      rw [e]
      refine nopost _ ?_
      match pre with
      | [] => rfl
      | c :: pre =>
        show (if _ then _ else _) = none
        rw [if_neg (fun z => hw z.1)]
theorem split_ne (m : Tk) (l : List Tk) : split m l ≠ [] := by
  cases l with
  | nil => simp [split]
  | cons b r =>
    unfold split
    split
    · simp
    · split <;> simp
theorem rule_eq : ∀ (n : Nat) (l : List Tk), l.length ≤ n → ∀ f, l.length < f → pRule f (l.map tokOf) = mRule l := by
  intro n
  induction n with
  | zero =>
    intro l hl f hf
    match l, hl with
    | [], _ => cases f <;> rfl
  | succ n ih =>
    intro l hl f hf
    by_cases h0 : l = []
    · subst h0; cases f <;> rfl
    · obtain ⟨f, rfl⟩ : ∃ g, f = g + 1 := ⟨f - 1, by omega⟩
      unfold mRule
      rw [if_neg h0]
      rcases first_at (m := ([59] : Tk)) l with hn | ⟨a, r, rfl, hn⟩
      · have e := pRule_form f l [] (fun b hb => by simp only [S3, List.mem_singleton]; rintro rfl; exact hn hb) (.inl rfl) (by simpa using h0)
        rw [List.append_nil] at e
        rw [e, if_neg (fun z => hn (List.mem_of_getLast? z))]
        rfl
      · have e := pRule_form f a ([59] :: r) (fun b hb => by simp only [S3, List.mem_singleton]; rintro rfl; exact hn hb) (.inr ⟨_, _, rfl, by simp [S3]⟩) (by simp)
        rw [e]
        show (mForm a).bind (fun x => (pRule f (r.map tokOf)).bind fun l => some (x :: l)) = _
        rw [ih r (by simp at hl; omega) f (by simp at hf; omega)]
        unfold mRule
        by_cases hr : r = []
        · subst hr
          rw [if_pos rfl, if_pos (by simp), List.dropLast_concat, split_none hn, allOf_cons]
          cases mForm a <;> rfl
        · rw [if_neg hr]
          have e1 : (a ++ [59] :: r).getLast? = r.getLast? := by
            rw [List.getLast?_append, List.getLast?_cons]
            cases r with
            | nil => exact absurd rfl hr
            | cons x r => simp [List.getLast?_cons]
          have e2 : (a ++ [59] :: r).dropLast = a ++ [59] :: r.dropLast := by
            rw [List.dropLast_append_of_ne_nil (by simp)]
            congr 1
            cases r with
            | nil => exact absurd rfl hr
            | cons x r => rfl
          rw [e1, e2, split_at hn, allOf_cons]
          by_cases hl' : r.getLast? = some [59]
          · rw [if_pos hl', if_pos hl']
            cases mForm a with
            | none => rfl
            | some x =>
              show (allOf mForm (split [59] r.dropLast)).bind _ = (allOf mForm (split [59] r.dropLast)).map _
              cases allOf mForm (split [59] r.dropLast) <;> rfl
          · rw [if_neg hl', if_neg hl']
            cases mForm a <;> rfl
end Wf
end
section
set_option linter.all false
namespace Wf
open Kp181
/-! ### words -/
def wordsOk (seen : List Bytes) : List Bytes → Bool
  | [] => true
  | w :: r => if noForm w = true ∨ w ∈ seen then false else wordsOk (seen ++ [w]) r
theorem distinct_cons (w : Bytes) (r : List Bytes) : distinct (w :: r) = true ↔ w ∉ r ∧ distinct r = true := by
  show (!r.contains w && distinct r) = true ↔ _
  simp
theorem wordsOk_iff : ∀ (l seen : List Bytes), wordsOk seen l = true ↔ (∀ w ∈ l, ¬ noForm w = true ∧ w ∉ seen) ∧ distinct l = true
  | [], seen => by simp [wordsOk, distinct]
  | w :: r, seen => by
    rw [distinct_cons]
    unfold wordsOk
    by_cases h : noForm w = true ∨ w ∈ seen
    · rw [if_pos h]
      constructor
      · intro z; cases z
      · rintro ⟨z, _⟩
        have := z w List.mem_cons_self
        rcases h with h | h
        · exact absurd h this.1
        · exact absurd h this.2
    · rw [if_neg h, wordsOk_iff r (seen ++ [w])]
      rw [not_or] at h
      constructor
      · rintro ⟨z, hd⟩
        refine ⟨fun x hx => ?_, fun hm => ?_, hd⟩
        · rcases List.mem_cons.mp hx with rfl | hx
          · exact h
          · exact ⟨(z x hx).1, fun q => (z x hx).2 (List.mem_append_left _ q)⟩
        · exact (z w hm).2 (by simp)
      · rintro ⟨z, hn, hd⟩
        refine ⟨fun x hx => ⟨(z x (List.mem_cons_of_mem _ hx)).1, fun q => ?_⟩, hd⟩
        rcases List.mem_append.mp q with q | q
        · exact (z x (List.mem_cons_of_mem _ hx)).2 q
        · rw [List.mem_singleton] at q
          subst q
          exact hn hx
def mJudged (r : Rule) : Int :=
  if wordsOk [] (r.map Prod.fst) = false then -22
  else if 8 < r.length ∨ 64 < ((ones r).flatMap One.ranges).length then -28
  else if 0 ∈ mods r ∨ ((ones r).flatMap One.ranges).any (fun x => decide (x.2 < x.1)) = true then -22
  else if 10000 < multiple (mods r) then -28
  else (r.length : Nat)
def mRead (t : Bytes) : Option Rule := (toks t).bind mRule
def plRead (t : Bytes) : Int := if 2048 < t.length then -28 else match mRead t with
  | none => -71
  | some r => mJudged r
theorem read_parse (t : Bytes) : ((tokens t).bind fun ts => pRule (ts.length + 1) ts) = mRead t := by
  unfold tokens mRead
  rw [lex_toks _ t (Nat.le_refl _) (t.length + 1) (by omega)]
  cases toks t with
  | none => rfl
  | some l =>
    show pRule ((l.map tokOf).length + 1) (l.map tokOf) = mRule l
    exact rule_eq _ l (Nat.le_refl _) _ (by simp)
theorem words_bad (r : Rule) : (r.any (fun x => noForm x.1) = true ∨ distinct (r.map Prod.fst) = false) ↔ wordsOk [] (r.map Prod.fst) = false := by
  rw [← Bool.not_eq_true (wordsOk _ _), wordsOk_iff]
  constructor
  · rintro (h | h) ⟨a, b⟩
    · obtain ⟨x, hx, hn⟩ := List.any_eq_true.mp h
      exact (a x.1 (List.mem_map_of_mem hx)).1 hn
    · rw [b] at h; cases h
  · intro h
    by_cases hd : distinct (r.map Prod.fst) = false
    · exact .inr hd
    · refine .inl (Classical.byContradiction fun q => h ⟨fun w hw => ⟨fun hn => q ?_, by simp⟩, by simpa using hd⟩)
      obtain ⟨x, hx, rfl⟩ := List.mem_map.mp hw
      exact List.any_eq_true.mpr ⟨x, hx, hn⟩
/-- what the specification reads, by the mirror -/
def mSum (t : Bytes) : Int ⊕ Rule := if 2048 < t.length then .inl (-28) else match mRead t with
  | none => .inl (-71)
  | some r => if wordsOk [] (r.map Prod.fst) = false then .inl (-22)
    else if 8 < r.length ∨ 64 < ((ones r).flatMap One.ranges).length then .inl (-28)
    else if 0 ∈ mods r ∨ ((ones r).flatMap One.ranges).any (fun x => decide (x.2 < x.1)) = true then .inl (-22)
    else if 10000 < multiple (mods r) then .inl (-28) else .inr r
theorem ite_iff {α : Type} {p q : Prop} [Decidable p] [Decidable q] (h : p ↔ q) {a b c d : α} (h1 : a = c) (h2 : b = d) : (if p then a else b) = if q then c else d := by
  subst h1 h2
  by_cases hp : p
  · rw [if_pos hp, if_pos (h.mp hp)]
  · rw [if_neg hp, if_neg (fun z => hp (h.mpr z))]
theorem read_sum (t : Bytes) : Kp181.read t = mSum t := by
  unfold Kp181.read mSum
  refine ite_iff (Iff.rfl) rfl ?_
  rw [← read_parse]
  cases tokens t with
  | none => rfl
  | some ts =>
    show (match pRule (ts.length + 1) ts with | none => _ | some r => _) = (match pRule (ts.length + 1) ts with | none => _ | some r => _)
    cases pRule (ts.length + 1) ts with
    | none => rfl
    | some r =>
      refine ite_iff (words_bad r) rfl (ite_iff Iff.rfl rfl (ite_iff ?_ rfl (ite_iff Iff.rfl rfl rfl)))
      rw [List.contains_iff_mem]
theorem nats_of (t : Bytes) : Kp181Neutral.nats (t.map Int.ofNat) = t := by
  unfold Kp181Neutral.nats
  rw [List.map_map]
  exact (List.map_congr_left (fun x _ => rfl)).trans (List.map_id t)
theorem read_eq (t : Bytes) : PyKp181.pl_read (t.map Int.ofNat) = [0, plRead t] := by
  show Kp181Neutral.wrKp181_Ans (Kp181.answer (.read (if (t.map Int.ofNat).length ≤ 2048 then some (Kp181Neutral.nats (t.map Int.ofNat)) else none))) = _
  rw [nats_of, List.length_map]
  unfold plRead
  by_cases h : t.length ≤ 2048
  · rw [if_pos h, if_neg (by omega)]
    show Kp181Neutral.wrKp181_Ans (match Kp181.read t with | .inl v => .num v | .inr r => .num (r.length : Nat)) = _
    rw [read_sum]
    unfold mSum
    rw [if_neg (by omega)]
    cases mRead t with
    | none => rfl
    | some r =>
      show Kp181Neutral.wrKp181_Ans (match (if _ then _ else _ : Int ⊕ Rule) with | .inl v => .num v | .inr r => .num (r.length : Nat)) = [0, mJudged r]
      unfold mJudged
      by_cases h1 : wordsOk [] (r.map Prod.fst) = false
      · rw [if_pos h1, if_pos h1]; rfl
      · rw [if_neg h1, if_neg h1]
        by_cases h2 : 8 < r.length ∨ 64 < ((ones r).flatMap One.ranges).length
        · rw [if_pos h2, if_pos h2]; rfl
        · rw [if_neg h2, if_neg h2]
          by_cases h3 : 0 ∈ mods r ∨ ((ones r).flatMap One.ranges).any (fun x => decide (x.2 < x.1)) = true
          · rw [if_pos h3, if_pos h3]; rfl
          · rw [if_neg h3, if_neg h3]
            by_cases h4 : 10000 < multiple (mods r)
            · rw [if_pos h4, if_pos h4]; rfl
            · rw [if_neg h4, if_neg h4]; rfl
  · rw [if_neg h, if_pos (by omega)]; rfl
/-! ### tokens are well made, and not many -/
structure Wt (b : Tk) : Prop where
  ne : b ≠ []
  dg : digit (b.headD 0) = true → ∀ c ∈ b, digit c = true
  ln : digit (b.headD 0) = true → b.length ≤ 4
theorem takeWhile_all {p : Nat → Bool} : ∀ {l : List Nat}, ∀ c ∈ l.takeWhile p, p c = true
  | a :: l, c, h => by
    by_cases ha : p a = true
    · rw [List.takeWhile_cons_of_pos ha] at h
      rcases List.mem_cons.mp h with rfl | h
      · exact ha
      · exact takeWhile_all c h
    · rw [List.takeWhile_cons_of_neg ha] at h; cases h
theorem tok_wt {c : Nat} {r : Bytes} (h0 : ¬ tokSize (c :: r) = 0) : Wt ((c :: r).take (tokSize (c :: r))) := by
  obtain ⟨k, hk⟩ : ∃ k, tokSize (c :: r) = k + 1 := ⟨tokSize (c :: r) - 1, by omega⟩
  rw [hk, List.take_succ_cons]
  have key : digit c = true → k = (r.takeWhile digit).length ∧ k < 4 := fun hd => by
    have e := size_digit (r := r) hd
    rw [hk] at e
    by_cases hl : 4 < (r.takeWhile digit).length + 1
    · rw [if_pos hl] at e; omega
    · rw [if_neg hl] at e; omega
  refine ⟨by simp, fun hd => ?_, fun hd => ?_⟩
  · have hd : digit c = true := hd
    obtain ⟨rfl, _⟩ := key hd
    rw [take_while_len]
    intro x hx
    rcases List.mem_cons.mp hx with rfl | hx
    · exact hd
    · exact takeWhile_all x hx
  · have hd : digit c = true := hd
    obtain ⟨_, h4⟩ := key hd
    simp; omega
theorem toks_wt : ∀ (n : Nat) (t : Bytes), t.length ≤ n → ∀ l, toks t = some l → (∀ b ∈ l, Wt b) ∧ l.length ≤ t.length := by
  intro n
  induction n with
  | zero =>
    intro t ht l e
    match t, ht with
    | [], _ => rw [toks_nil] at e; cases e; exact ⟨by simp, by simp⟩
  | succ n ih =>
    intro t ht l e
    match t with
    | [] => rw [toks_nil] at e; cases e; exact ⟨by simp, by simp⟩
    | c :: r =>
      by_cases hsp : c = 32 ∨ c = 10
      · rw [toks_sp hsp] at e
        obtain ⟨a, b⟩ := ih r (by simp at ht; omega) l e
        exact ⟨a, by simp; omega⟩
      · by_cases h0 : tokSize (c :: r) = 0
        · rw [toks_bad hsp h0] at e; cases e
        · rw [toks_tok hsp h0] at e
          cases q : toks ((c :: r).drop (tokSize (c :: r))) with
          | none => rw [q] at e; cases e
          | some l' =>
            rw [q] at e
            have e : _ :: l' = l := Option.some.inj e
            subst e
            obtain ⟨a, b⟩ := ih _ (by simp at ht ⊢; omega) l' q
            refine ⟨fun x hx => ?_, by simp at b ⊢; omega⟩
            rcases List.mem_cons.mp hx with rfl | hx
            · exact tok_wt h0
            · exact a x hx
theorem tokSize_len (r : Bytes) : tokSize r ≤ r.length := by
  unfold tokSize
  by_cases hb : 16 < run small r ∨ 4 < run digit r
  · rw [if_pos hb]; omega
  · rw [if_neg hb]
    cases e : marks.find? (fun m => r.take m.length == m) with
    | some m =>
      have h := List.find?_some e
      have h : r.take m.length = m := by simpa using h
      have h2 := congrArg List.length h
      rw [List.length_take] at h2
      show m.length ≤ r.length
      omega
    | none =>
      show run small r + run digit r ≤ r.length
      cases r with
      | nil => decide
      | cons c r =>
        by_cases hs : small c = true
        · have hs' := small_iff.mp hs
          rw [run_neg (p := digit) (by rw [digit_iff]; omega)]
          have := run_le small (c :: r)
          omega
        · rw [run_neg hs]
          have := run_le digit (c :: r)
          omega
/-- the part that is being filled, ahead of the rest's parts -/
def glue (cur : List Tk) : List (List Tk) → List (List Tk)
  | [] => [cur]
  | p :: ps => (cur ++ p) :: ps
theorem glue_nil (m : Tk) (l : List Tk) : glue [] (split m l) = split m l := by
  cases e : split m l with
  | nil => exact absurd e (split_ne m l)
  | cons p ps => rfl
theorem glue_mark (m : Tk) (cur r : List Tk) : glue cur (split m (m :: r)) = cur :: split m r := by
  rw [split, if_pos rfl]
  show (cur ++ []) :: _ = _
  rw [List.append_nil]
theorem glue_tok {m b : Tk} (h : b ≠ m) (cur r : List Tk) : glue cur (split m (b :: r)) = glue (cur ++ [b]) (split m r) := by
  rw [split, if_neg h]
  cases e : split m r with
  | nil => exact absurd e (split_ne m r)
  | cons p ps =>
    show (cur ++ b :: p) :: ps = (cur ++ [b] ++ p) :: ps
    rw [List.append_assoc]; rfl
theorem glue_end (m : Tk) (cur : List Tk) : glue cur (split m []) = [cur] := by
  show [cur ++ []] = [cur]
  rw [List.append_nil]
/-! ### sizes -/
theorem split_len (m : Tk) : ∀ l : List Tk, (split m l).length ≤ l.length + 1
  | [] => by simp [split]
  | b :: r => by
    have ih := split_len m r
    unfold split
    by_cases h : b = m
    · rw [if_pos h]; simp; omega
    · rw [if_neg h]
      cases e : split m r with
      | nil => simp
      | cons p ps => rw [e] at ih; simp at ih ⊢; omega
theorem split_sum (m : Tk) : ∀ l : List Tk, ((split m l).map List.length).sum ≤ l.length
  | [] => by simp [split]
  | b :: r => by
    have ih := split_sum m r
    unfold split
    by_cases h : b = m
    · rw [if_pos h]; simp; omega
    · rw [if_neg h]
      cases e : split m r with
      | nil => simp
      | cons p ps => rw [e] at ih; simp at ih ⊢; omega
theorem split_mem (m : Tk) : ∀ (l : List Tk), ∀ p ∈ split m l, ∀ b ∈ p, b ∈ l
  | [], p, hp, b, hb => by simp [split] at hp; subst hp; cases hb
  | x :: r, p, hp, b, hb => by
    unfold split at hp
    by_cases h : x = m
    · rw [if_pos h] at hp
      rcases List.mem_cons.mp hp with rfl | hp
      · cases hb
      · exact List.mem_cons_of_mem _ (split_mem m r p hp b hb)
    · rw [if_neg h] at hp
      cases e : split m r with
      | nil => exact absurd e (split_ne m r)
      | cons q qs =>
        rw [e] at hp
        have ih := split_mem m r
        rw [e] at ih
        rcases List.mem_cons.mp hp with rfl | hp
        · rcases List.mem_cons.mp hb with rfl | hb
          · exact List.mem_cons_self
          · exact List.mem_cons_of_mem _ (ih q List.mem_cons_self b hb)
        · exact List.mem_cons_of_mem _ (ih p (List.mem_cons_of_mem _ hp) b hb)
theorem part_len (m : Tk) : ∀ (l : List Tk), ∀ p ∈ split m l, p.length ≤ l.length
  | [], p, hp => by simp [split] at hp; subst hp; simp
  | x :: r, p, hp => by
    unfold split at hp
    by_cases h : x = m
    · rw [if_pos h] at hp
      rcases List.mem_cons.mp hp with rfl | hp
      · simp
      · have := part_len m r p hp; simp; omega
    · rw [if_neg h] at hp
      cases e : split m r with
      | nil => exact absurd e (split_ne m r)
      | cons q qs =>
        rw [e] at hp
        have ih := part_len m r
        rw [e] at ih
        rcases List.mem_cons.mp hp with rfl | hp
        · have := ih q List.mem_cons_self; simp; omega
        · have := ih p (List.mem_cons_of_mem _ hp); simp; omega
theorem allOf_sum {α β : Type} {g : α → Option β} {μ : β → Nat} {ν : α → Nat} (h : ∀ x y, g x = some y → μ y ≤ ν x) : ∀ (l : List α) (ys : List β), allOf g l = some ys → (ys.map μ).sum ≤ (l.map ν).sum
  | [], ys, e => by cases e; simp
  | x :: l, ys, e => by
    rw [allOf_cons] at e
    cases q : g x with
    | none => rw [q] at e; cases e
    | some y =>
      rw [q] at e
      cases q2 : allOf g l with
      | none => rw [q2] at e; cases e
      | some zs =>
        rw [q2] at e
        have e : y :: zs = ys := Option.some.inj e
        subst e
        have := allOf_sum h l zs q2
        have := h x y q
        simp; omega
theorem allOf_len {α β : Type} {g : α → Option β} : ∀ (l : List α) (ys : List β), allOf g l = some ys → ys.length = l.length
  | [], ys, e => by cases e; rfl
  | x :: l, ys, e => by
    rw [allOf_cons] at e
    cases q : g x with
    | none => rw [q] at e; cases e
    | some y =>
      rw [q] at e
      cases q2 : allOf g l with
      | none => rw [q2] at e; cases e
      | some zs =>
        rw [q2] at e
        have e : y :: zs = ys := Option.some.inj e
        subst e
        simp [allOf_len l zs q2]
theorem sum_ones {α : Type} : ∀ l : List α, (l.map fun _ => 1).sum = l.length
  | [] => rfl
  | a :: l => by simp [sum_ones l]; omega
theorem range_size {l : List Tk} {x : Nat × Nat} (h : mRange l = some x) : 1 ≤ l.length := by
  match l, h with
  | [], h => cases h
  | _ :: _, _ => simp
theorem ranges_size {l : List Tk} {rs : List (Nat × Nat)} (h : mRanges l = some rs) : rs.length ≤ l.length := by
  have := allOf_sum (μ := fun _ => 1) (ν := List.length) (fun x y q => range_size q) _ _ h
  rw [sum_ones] at this
  exact Nat.le_trans this (split_sum _ l)
theorem tail_size {m : Option Nat} {l : List Tk} {o : One} (h : mTail m l = some o) : o.ranges.length ≤ l.length := by
  match l, h with
  | e :: z, h =>
    have h : (if e = [61] then (mRanges z).map (fun l => (⟨m, true, l⟩ : One)) else if e = [33, 61] then (mRanges z).map (fun l => (⟨m, false, l⟩ : One)) else none) = some o := h
    by_cases h1 : e = [61]
    · rw [if_pos h1] at h
      cases q : mRanges z with
      | none => rw [q] at h; cases h
      | some rs => rw [q] at h; cases h; have := ranges_size q; simp; omega
    · rw [if_neg h1] at h
      by_cases h2 : e = [33, 61]
      · rw [if_pos h2] at h
        cases q : mRanges z with
        | none => rw [q] at h; cases h
        | some rs => rw [q] at h; cases h; have := ranges_size q; simp; omega
      · rw [if_neg h2] at h; cases h
theorem one_size {l : List Tk} {o : One} (h : mOne l = some o) : o.ranges.length ≤ l.length ∧ 1 ≤ l.length := by
  match l, h with
  | n :: r, h =>
    have h : (if n = [110] then mRest r else none) = some o := h
    by_cases hn : n = [110]
    · rw [if_pos hn] at h
      match r, h with
      | p :: r, h =>
        have h : (if p = [37] then mPc r else mTail none (p :: r)) = some o := h
        by_cases hp : p = [37]
        · rw [if_pos hp] at h
          match r, h with
          | k :: z, h =>
            have h : (if digit (k.headD 0) = true then mTail (some (number k)) z else none) = some o := h
            by_cases hk : digit (k.headD 0) = true
            · rw [if_pos hk] at h
              have := tail_size h
              simp; omega
            · rw [if_neg hk] at h; cases h
        · rw [if_neg hp] at h
          have := tail_size h
          simp at this ⊢; omega
    · rw [if_neg hn] at h; cases h
theorem both_size {l : List Tk} {b : List One} (h : mBoth l = some b) : b.length ≤ l.length ∧ (b.map fun o => o.ranges.length).sum ≤ l.length := by
  have h1 := allOf_sum (μ := fun _ => 1) (ν := List.length) (fun x y q => (one_size q).2) _ _ h
  have h2 := allOf_sum (μ := fun o : One => o.ranges.length) (ν := List.length) (fun x y q => (one_size q).1) _ _ h
  rw [sum_ones] at h1
  exact ⟨Nat.le_trans h1 (split_sum _ l), Nat.le_trans h2 (split_sum _ l)⟩
def onesE (e : Either) : Nat := (e.map List.length).sum
def rangesE (e : Either) : Nat := (e.map fun b => (b.map fun o => o.ranges.length).sum).sum
theorem either_size {l : List Tk} {e : Either} (h : mEither l = some e) : onesE e ≤ l.length ∧ rangesE e ≤ l.length := by
  have h1 := allOf_sum (μ := fun b : List One => b.length) (ν := List.length) (fun x y q => (both_size q).1) _ _ h
  have h2 := allOf_sum (μ := fun b : List One => (b.map fun o => o.ranges.length).sum) (ν := List.length) (fun x y q => (both_size q).2) _ _ h
  exact ⟨Nat.le_trans h1 (split_sum _ l), Nat.le_trans h2 (split_sum _ l)⟩
theorem form_size {l : List Tk} {x : Bytes × Either} (h : mForm l = some x) : onesE x.2 ≤ l.length ∧ rangesE x.2 ≤ l.length := by
  match l, h with
  | w :: c :: r, h =>
    have h : (if small (w.headD 0) = true ∧ c = [58] then (mEither r).map (fun e => (w, e)) else none) = some x := h
    by_cases hc : small (w.headD 0) = true ∧ c = [58]
    · rw [if_pos hc] at h
      cases q : mEither r with
      | none => rw [q] at h; cases h
      | some e =>
        rw [q] at h; cases h
        have := either_size q
        simp; omega
    · rw [if_neg hc] at h; cases h
theorem rule_size {l : List Tk} {r : Rule} (h : mRule l = some r) : r.length ≤ l.length + 1 ∧ (r.map fun x => onesE x.2).sum ≤ l.length ∧ (r.map fun x => rangesE x.2).sum ≤ l.length := by
  unfold mRule at h
  by_cases h0 : l = []
  · rw [if_pos h0] at h; cases h; simp
  · rw [if_neg h0] at h
    by_cases h1 : l.getLast? = some [59]
    · rw [if_pos h1] at h
      have a1 := allOf_len _ _ h
      have a2 := allOf_sum (μ := fun x : Bytes × Either => onesE x.2) (ν := List.length) (fun x y q => (form_size q).1) _ _ h
      have a3 := allOf_sum (μ := fun x : Bytes × Either => rangesE x.2) (ν := List.length) (fun x y q => (form_size q).2) _ _ h
      have b1 := split_len [59] l.dropLast
      have b2 := split_sum [59] l.dropLast
      have b3 : l.dropLast.length ≤ l.length := by simp
      refine ⟨by omega, by omega, by omega⟩
    · rw [if_neg h1] at h; cases h
theorem len_flatten {α : Type} (e : List (List α)) : e.flatten.length = (e.map List.length).sum := by
  induction e with
  | nil => rfl
  | cons a e ih => simp [ih]
theorem len_flatMap' {α β : Type} (f : α → List β) (l : List α) : (l.flatMap f).length = (l.map fun x => (f x).length).sum := by
  induction l with
  | nil => rfl
  | cons a l ih => simp [List.flatMap_cons, ih]
theorem ones_size {r : Rule} : (ones r).length = (r.map fun x => onesE x.2).sum := by
  unfold ones
  rw [len_flatMap']
  congr 1
  exact List.map_congr_left fun x _ => by unfold onesE; rw [len_flatten]
theorem sum_flatten_map {α : Type} (μ : α → Nat) (e : List (List α)) : (e.flatten.map μ).sum = (e.map fun b => (b.map μ).sum).sum := by
  induction e with
  | nil => rfl
  | cons a e ih => rw [List.flatten_cons, List.map_append, List.sum_append, ih]; rfl
theorem oranges_size {r : Rule} : ((ones r).flatMap One.ranges).length = (r.map fun x => rangesE x.2).sum := by
  rw [len_flatMap']
  unfold ones
  induction r with
  | nil => rfl
  | cons x r ih =>
    rw [List.flatMap_cons, List.map_append, List.sum_append, ih, List.map_cons, List.sum_cons]
    congr 1
    unfold rangesE
    exact sum_flatten_map _ _
/-! ### numbers are small -/
theorem number_app : ∀ (b : Bytes) (c : Nat), number (b ++ [c]) = 10 * number b + (c - 48) := fun b c => by
  unfold number
  rw [List.foldl_append]
  rfl
theorem number_lt : ∀ (n : Nat) (b : Bytes), b.length ≤ n → (∀ c ∈ b, digit c = true) → number b < 10 ^ n := by
  intro n
  induction n with
  | zero =>
    intro b hb _
    match b, hb with
    | [], _ => decide
  | succ n ih =>
    intro b hb hd
    rcases List.eq_nil_or_concat b with rfl | ⟨q, c, rfl⟩
    · exact Nat.pos_of_ne_zero (by simp)
    · rw [List.concat_eq_append] at hb hd ⊢
      have h1 := ih q (by simp at hb; omega) (fun c hc => hd c (by simp [hc]))
      have h2 := digit_iff.mp (hd c (by simp))
      rw [number_app, Nat.pow_succ]
      omega
theorem number_small {b : Tk} (h : Wt b) (hd : digit (b.headD 0) = true) : number b < 10000 := number_lt 4 b (h.ln hd) (h.dg hd)
theorem allOf_mem {α β : Type} {g : α → Option β} {p : β → Prop} : ∀ (l : List α) (ys : List β), allOf g l = some ys → (∀ x ∈ l, ∀ y, g x = some y → p y) → ∀ y ∈ ys, p y
  | [], ys, e, _ => by cases e; intro y hy; cases hy
  | x :: l, ys, e, h => by
    rw [allOf_cons] at e
    cases q : g x with
    | none => rw [q] at e; cases e
    | some y =>
      rw [q] at e
      cases q2 : allOf g l with
      | none => rw [q2] at e; cases e
      | some zs =>
        rw [q2] at e
        have e : y :: zs = ys := Option.some.inj e
        subst e
        intro z hz
        rcases List.mem_cons.mp hz with rfl | hz
        · exact h x List.mem_cons_self z q
        · exact allOf_mem l zs q2 (fun x hx => h x (List.mem_cons_of_mem _ hx)) z hz
def modSmall (o : One) : Prop := ∀ k, o.mod = some k → k < 10000
theorem tail_mod {m : Option Nat} {l : List Tk} {o : One} (h : mTail m l = some o) : o.mod = m := by
  match l, h with
  | e :: z, h =>
    have h : (if e = [61] then (mRanges z).map (fun l => (⟨m, true, l⟩ : One)) else if e = [33, 61] then (mRanges z).map (fun l => (⟨m, false, l⟩ : One)) else none) = some o := h
    by_cases h1 : e = [61]
    · rw [if_pos h1] at h
      cases q : mRanges z with
      | none => rw [q] at h; cases h
      | some rs => rw [q] at h; cases h; rfl
    · rw [if_neg h1] at h
      by_cases h2 : e = [33, 61]
      · rw [if_pos h2] at h
        cases q : mRanges z with
        | none => rw [q] at h; cases h
        | some rs => rw [q] at h; cases h; rfl
      · rw [if_neg h2] at h; cases h
theorem one_mod {l : List Tk} (hw : ∀ b ∈ l, Wt b) {o : One} (h : mOne l = some o) : modSmall o := by
  match l, hw, h with
  | n :: r, hw, h =>
    have h : (if n = [110] then mRest r else none) = some o := h
    by_cases hn : n = [110]
    · rw [if_pos hn] at h
      match r, hw, h with
      | p :: r, hw, h =>
        have h : (if p = [37] then mPc r else mTail none (p :: r)) = some o := h
        by_cases hp : p = [37]
        · rw [if_pos hp] at h
          match r, hw, h with
          | k :: z, hw, h =>
            have h : (if digit (k.headD 0) = true then mTail (some (number k)) z else none) = some o := h
            by_cases hk : digit (k.headD 0) = true
            · rw [if_pos hk] at h
              intro j hj
              rw [tail_mod h] at hj
              cases hj
              exact number_small (hw k (by simp)) hk
            · rw [if_neg hk] at h; cases h
        · rw [if_neg hp] at h
          intro j hj
          rw [tail_mod h] at hj
          cases hj
    · rw [if_neg hn] at h; cases h
theorem wt_part {m : Tk} {l p : List Tk} (hw : ∀ b ∈ l, Wt b) (hp : p ∈ split m l) : ∀ b ∈ p, Wt b := fun b hb => hw b (split_mem m l p hp b hb)
theorem both_mod {l : List Tk} (hw : ∀ b ∈ l, Wt b) {b : List One} (h : mBoth l = some b) : ∀ o ∈ b, modSmall o :=
  allOf_mem _ _ h fun p hp o q => one_mod (wt_part hw hp) q
theorem either_mod {l : List Tk} (hw : ∀ b ∈ l, Wt b) {e : Either} (h : mEither l = some e) : ∀ b ∈ e, ∀ o ∈ b, modSmall o :=
  allOf_mem _ _ h fun p hp o q => both_mod (wt_part hw hp) q
theorem form_mod {l : List Tk} (hw : ∀ b ∈ l, Wt b) {x : Bytes × Either} (h : mForm l = some x) : ∀ b ∈ x.2, ∀ o ∈ b, modSmall o := by
  match l, hw, h with
  | w :: c :: r, hw, h =>
    have h : (if small (w.headD 0) = true ∧ c = [58] then (mEither r).map (fun e => (w, e)) else none) = some x := h
    by_cases hc : small (w.headD 0) = true ∧ c = [58]
    · rw [if_pos hc] at h
      cases q : mEither r with
      | none => rw [q] at h; cases h
      | some e =>
        rw [q] at h; cases h
        exact either_mod (fun b hb => hw b (by simp [hb])) q
    · rw [if_neg hc] at h; cases h
theorem rule_mod {l : List Tk} (hw : ∀ b ∈ l, Wt b) {r : Rule} (h : mRule l = some r) : ∀ n ∈ mods r, n < 10000 := by
  intro n hn
  unfold mods at hn
  obtain ⟨o, ho, e⟩ := List.mem_filterMap.mp hn
  unfold ones at ho
  obtain ⟨x, hx, ho⟩ := List.mem_flatMap.mp ho
  obtain ⟨b, hb, ho⟩ := List.mem_flatten.mp ho
  unfold mRule at h
  by_cases h0 : l = []
  · rw [if_pos h0] at h; cases h; cases hx
  · rw [if_neg h0] at h
    by_cases h1 : l.getLast? = some [59]
    · rw [if_pos h1] at h
      refine allOf_mem (p := fun x : Bytes × Either => ∀ b ∈ x.2, ∀ o ∈ b, modSmall o) _ _ h (fun p hp y q => form_mod (wt_part (fun b hb => hw b ((List.dropLast_sublist l).subset hb)) hp) q) x hx b hb o ho n e
    · rw [if_neg h1] at h; cases h
/-! ### the greatest divisor, the least multiple -/
theorem lcm_step (m n : Nat) : m / Nat.gcd m n * n = Nat.lcm m n := by
  unfold Nat.lcm
  exact Nat.div_mul_right_comm (Nat.gcd_dvd_left m n) n
theorem gcd_step (a b : Nat) : Nat.gcd b (a % b) = Nat.gcd a b := by
  rw [Nat.gcd_comm b, ← Nat.gcd_rec, Nat.gcd_comm]
end Wf
end
section
set_option linter.all false
namespace Wf
open Kp181
/-! ### what is due of pl_form and pl_same, by the mirror -/
def plForm (x : Nat) (t : Bytes) : List Int := match mSum t with
  | .inl v => [0, v]
  | .inr r => 1 :: ((form r x).length : Int) :: (form r x).map Int.ofNat
def plSame (t u : Bytes) : List Int := match mSum t with
  | .inl v => [0, v]
  | .inr r => match mSum u with
    | .inl v => [0, v]
    | .inr q => if 10000 < multiple (mods r ++ mods q) then [0, -28] else match differ r q (10000 + multiple (mods r ++ mods q)) with
      | none => [0, 1]
      | some x => [2, (x : Int)]
theorem flat_nats : ∀ b : Bytes, b.flatMap Kp181Neutral.wrNat = b.map Int.ofNat
  | [] => rfl
  | c :: b => by
    rw [List.flatMap_cons, flat_nats b]
    rfl
theorem readO_sum (t : Bytes) : readO (if (t.map Int.ofNat).length ≤ 2048 then some (Kp181Neutral.nats (t.map Int.ofNat)) else none) = mSum t := by
  rw [nats_of, List.length_map]
  by_cases h : t.length ≤ 2048
  · rw [if_pos h]
    exact read_sum t
  · rw [if_neg h]
    unfold mSum
    rw [if_pos (by omega)]
    rfl
theorem form_eq (x : Nat) (t : Bytes) : PyKp181.pl_form (x : Int) (t.map Int.ofNat) = plForm x t := by
  show Kp181Neutral.wrKp181_Ans (match readO (if (t.map Int.ofNat).length ≤ 2048 then some (Kp181Neutral.nats (t.map Int.ofNat)) else none) with
    | .inl v => Ans.num v
    | .inr r => Ans.word (Kp181.form r x)) = _
  rw [readO_sum]
  unfold plForm
  cases mSum t with
  | inl v => rfl
  | inr r =>
    show ([1] : List Int) ++ (((form r x).length : Int) :: (form r x).flatMap Kp181Neutral.wrNat) = _
    rw [flat_nats]
    rfl
theorem same_eq (t u : Bytes) : PyKp181.pl_same (t.map Int.ofNat) (u.map Int.ofNat) = plSame t u := by
  show Kp181Neutral.wrKp181_Ans (match readO (if (t.map Int.ofNat).length ≤ 2048 then some (Kp181Neutral.nats (t.map Int.ofNat)) else none) with
    | .inl v => Ans.num v
    | .inr r => match readO (if (u.map Int.ofNat).length ≤ 2048 then some (Kp181Neutral.nats (u.map Int.ofNat)) else none) with
      | .inl v => Ans.num v
      | .inr q => if 10000 < multiple (mods r ++ mods q) then Ans.num (-28) else match differ r q (10000 + multiple (mods r ++ mods q)) with
        | none => Ans.num 1
        | some x => Ans.differ x) = _
  rw [readO_sum, readO_sum]
  unfold plSame
  cases mSum t with
  | inl v => rfl
  | inr r =>
    show Kp181Neutral.wrKp181_Ans (match mSum u with
      | .inl v => Ans.num v
      | .inr q => if 10000 < multiple (mods r ++ mods q) then Ans.num (-28) else match differ r q (10000 + multiple (mods r ++ mods q)) with
        | none => Ans.num 1
        | some x => Ans.differ x) = _
    cases mSum u with
    | inl v => rfl
    | inr q =>
      show Kp181Neutral.wrKp181_Ans (if 10000 < multiple (mods r ++ mods q) then Ans.num (-28) else match differ r q (10000 + multiple (mods r ++ mods q)) with
        | none => Ans.num 1
        | some x => Ans.differ x) = if 10000 < multiple (mods r ++ mods q) then [0, -28] else match differ r q (10000 + multiple (mods r ++ mods q)) with
          | none => [0, 1]
          | some x => [2, (x : Int)]
      by_cases h : 10000 < multiple (mods r ++ mods q)
      · rw [if_pos h, if_pos h]; rfl
      · rw [if_neg h, if_neg h]
        cases differ r q (10000 + multiple (mods r ++ mods q)) <;> rfl
/-- pl_read's answer by the sum -/
theorem read_of_sum (t : Bytes) : plRead t = match mSum t with
    | .inl v => v
    | .inr r => (r.length : Nat) := by
  unfold plRead mSum
  by_cases h : 2048 < t.length
  · rw [if_pos h, if_pos h]
  · rw [if_neg h, if_neg h]
    cases mRead t with
    | none => rfl
    | some r =>
      show mJudged r = match (if _ then _ else _ : Int ⊕ Rule) with | .inl v => v | .inr r => (r.length : Nat)
      unfold mJudged
      by_cases h1 : wordsOk [] (r.map Prod.fst) = false
      · rw [if_pos h1, if_pos h1]
      · rw [if_neg h1, if_neg h1]
        by_cases h2 : 8 < r.length ∨ 64 < ((ones r).flatMap One.ranges).length
        · rw [if_pos h2, if_pos h2]
        · rw [if_neg h2, if_neg h2]
          by_cases h3 : 0 ∈ mods r ∨ ((ones r).flatMap One.ranges).any (fun x => decide (x.2 < x.1)) = true
          · rw [if_pos h3, if_pos h3]
          · rw [if_neg h3, if_neg h3]
            by_cases h4 : 10000 < multiple (mods r)
            · rw [if_pos h4, if_pos h4]
            · rw [if_neg h4, if_neg h4]
end Wf
end
section
set_option linter.all false
namespace Wf
open Kp181
/-! ### far numbers -/
theorem any_congr' {α : Type} {p q : α → Bool} : ∀ {l : List α}, (∀ a ∈ l, p a = q a) → l.any p = l.any q
  | [], _ => rfl
  | a :: l, h => by
    rw [List.any_cons, List.any_cons, h a List.mem_cons_self, any_congr' fun b hb => h b (List.mem_cons_of_mem _ hb)]
theorem all_congr' {α : Type} {p q : α → Bool} : ∀ {l : List α}, (∀ a ∈ l, p a = q a) → l.all p = l.all q
  | [], _ => rfl
  | a :: l, h => by
    rw [List.all_cons, List.all_cons, h a List.mem_cons_self, all_congr' fun b hb => h b (List.mem_cons_of_mem _ hb)]
theorem find_congr {α : Type} {p q : α → Bool} : ∀ {l : List α}, (∀ a ∈ l, p a = q a) → l.find? p = l.find? q
  | [], _ => rfl
  | a :: l, h => by
    rw [List.find?_cons, List.find?_cons, h a List.mem_cons_self, find_congr fun b hb => h b (List.mem_cons_of_mem _ hb)]
/-- two numbers that no "one" of the rule tells apart -/
def Alike (m : Nat) (x y : Nat) : Prop := x = y ∨ (10000 ≤ x ∧ 10000 ≤ y ∧ x % m = y % m)
def Low (r : Rule) : Prop := ∀ o ∈ ones r, ∀ g ∈ o.ranges, g.2 < 10000
theorem mod_of_dvd {k m x y : Nat} (hk : k ∣ m) (h : x % m = y % m) : x % k = y % k := by
  rw [← Nat.mod_mod_of_dvd x hk, h, Nat.mod_mod_of_dvd y hk]
theorem holds_alike {m x y : Nat} {o : One} (hr : ∀ g ∈ o.ranges, g.2 < 10000) (hm : ∀ k, o.mod = some k → k ∣ m) (h : Alike m x y) : holds x o = holds y o := by
  rcases h with rfl | ⟨hx, hy, h⟩
  · rfl
  · unfold holds
    cases e : o.mod with
    | none =>
      show ((o.ranges.any fun r => decide (r.1 ≤ x) && decide (x ≤ r.2)) == o.inside) = ((o.ranges.any fun r => decide (r.1 ≤ y) && decide (y ≤ r.2)) == o.inside)
      rw [any_congr' (q := fun r => decide (r.1 ≤ y) && decide (y ≤ r.2)) fun g hg => ?_]
      have := hr g hg
      rw [decide_eq_false (show ¬ x ≤ g.2 by omega), decide_eq_false (show ¬ y ≤ g.2 by omega), Bool.and_false, Bool.and_false]
    | some k =>
      show ((o.ranges.any fun r => decide (r.1 ≤ x % k) && decide (x % k ≤ r.2)) == o.inside) = ((o.ranges.any fun r => decide (r.1 ≤ y % k) && decide (y % k ≤ r.2)) == o.inside)
      rw [mod_of_dvd (hm k e) h]
theorem mem_ones {r : Rule} {q : Bytes × Either} {b : List One} {o : One} (h1 : q ∈ r) (h2 : b ∈ q.2) (h3 : o ∈ b) : o ∈ ones r :=
  List.mem_flatMap.mpr ⟨q, h1, List.mem_flatten.mpr ⟨b, h2, h3⟩⟩
theorem mem_mods {r : Rule} {o : One} {k : Nat} (h : o ∈ ones r) (e : o.mod = some k) : k ∈ mods r := List.mem_filterMap.mpr ⟨o, h, e⟩
theorem form_alike {m x y : Nat} {r : Rule} (hr : Low r) (hm : ∀ k ∈ mods r, k ∣ m) (h : Alike m x y) : form r x = form r y := by
  have e : ∀ q ∈ r, holdsE x q.2 = holdsE y q.2 := fun q hq => by
    unfold holdsE
    refine any_congr' fun b hb => all_congr' fun o ho => ?_
    have hO := mem_ones hq hb ho
    exact holds_alike (hr o hO) (fun k ek => hm k (mem_mods hO ek)) h
  unfold form
  rw [find_congr (q := fun q => holdsE y q.2) e]
theorem dvd_fold : ∀ (l : List Nat) (a : Nat), a ∣ l.foldl Nat.lcm a ∧ ∀ k ∈ l, k ∣ l.foldl Nat.lcm a
  | [], a => ⟨Nat.dvd_refl a, fun k h => by cases h⟩
  | c :: l, a => by
    obtain ⟨h1, h2⟩ := dvd_fold l (Nat.lcm a c)
    refine ⟨Nat.dvd_trans (Nat.dvd_lcm_left a c) h1, fun k hk => ?_⟩
    rcases List.mem_cons.mp hk with rfl | hk
    · exact Nat.dvd_trans (Nat.dvd_lcm_right a k) h1
    · exact h2 k hk
theorem dvd_multiple {l : List Nat} {k : Nat} (h : k ∈ l) : k ∣ multiple l := (dvd_fold l 1).2 k h
theorem fold_pos : ∀ (l : List Nat) (a : Nat), 0 < a → (∀ k ∈ l, 0 < k) → 0 < l.foldl Nat.lcm a
  | [], a, h, _ => h
  | c :: l, a, h, hl => fold_pos l _ (Nat.lcm_pos h (hl c List.mem_cons_self)) fun k hk => hl k (List.mem_cons_of_mem _ hk)
theorem multiple_pos {l : List Nat} (h : ∀ k ∈ l, 0 < k) : 0 < multiple l := fold_pos l 1 (by decide) h
/-- a far number's fellow that is not far -/
theorem fellow {m : Nat} (hm : 0 < m) (x : Nat) : ∃ y, y < 10000 + m ∧ Alike m x y := by
  by_cases h : x < 10000 + m
  · exact ⟨x, h, .inl rfl⟩
  · have hy : 10000 ≤ x := by omega
    refine ⟨10000 + (x - 10000) % m, by have := Nat.mod_lt (x - 10000) hm; omega, .inr ⟨hy, by omega, ?_⟩⟩
    have e : x = 10000 + (x - 10000) := by omega
    rw [Nat.add_mod 10000 ((x - 10000) % m), Nat.mod_mod, ← Nat.add_mod, ← e]
theorem range_find {p : Nat → Bool} {n x : Nat} : (List.range n).find? p = some x ↔ p x = true ∧ x < n ∧ ∀ y, y < x → p y = false := by
  rw [List.find?_range_eq_some]
  constructor
  · rintro ⟨h1, h2, h3⟩
    exact ⟨h1, by simpa using h2, fun y hy => by simpa using h3 y hy⟩
  · rintro ⟨h1, h2, h3⟩
    exact ⟨h1, by simpa using h2, fun y hy => by simpa using h3 y hy⟩
theorem range_find_none {p : Nat → Bool} {n : Nat} : (List.range n).find? p = none ↔ ∀ y, y < n → p y = false := by
  rw [List.find?_eq_none]
  constructor
  · intro h y hy
    have := h y (List.mem_range.mpr hy)
    simpa using this
  · intro h y hy
    rw [h y (List.mem_range.mp hy)]
    simp
theorem differ_more {r q : Rule} (hr : Low r) (hq : Low q) (hk : ∀ k ∈ mods r ++ mods q, 0 < k) {n : Nat} (hn : 10000 + multiple (mods r ++ mods q) ≤ n) : differ r q n = differ r q (10000 + multiple (mods r ++ mods q)) := by
  unfold differ
  cases e : (List.range (10000 + multiple (mods r ++ mods q))).find? (fun x => form r x != form q x) with
  | some x =>
    obtain ⟨h1, h2, h3⟩ := range_find.mp e
    exact range_find.mpr ⟨h1, by omega, h3⟩
  | none =>
    have h := range_find_none.mp e
    refine range_find_none.mpr fun y _ => ?_
    obtain ⟨z, hz, ha⟩ := fellow (multiple_pos hk) y
    rw [form_alike hr (fun k hk => dvd_multiple (List.mem_append_left _ hk)) ha, form_alike hq (fun k hk => dvd_multiple (List.mem_append_right _ hk)) ha]
    exact h z hz
/-! ### the numbers of the ranges are small; words are tokens -/
def oneSmall (o : One) : Prop := ∀ g ∈ o.ranges, g.1 < 10000 ∧ g.2 < 10000
theorem range_low {l : List Tk} (hw : ∀ b ∈ l, Wt b) {x : Nat × Nat} (h : mRange l = some x) : x.1 < 10000 ∧ x.2 < 10000 := by
  match l, hw, h with
  | [a], hw, h =>
    have h : (if digit (a.headD 0) = true then some (number a, number a) else none) = some x := h
    by_cases hd : digit (a.headD 0) = true
    · rw [if_pos hd] at h; cases h
      exact ⟨number_small (hw a (by simp)) hd, number_small (hw a (by simp)) hd⟩
    · rw [if_neg hd] at h; cases h
  | [a, d, b], hw, h =>
    have h : (if digit (a.headD 0) = true ∧ d = [46, 46] ∧ digit (b.headD 0) = true then some (number a, number b) else none) = some x := h
    by_cases hd : digit (a.headD 0) = true ∧ d = [46, 46] ∧ digit (b.headD 0) = true
    · rw [if_pos hd] at h; cases h
      exact ⟨number_small (hw a (by simp)) hd.1, number_small (hw b (by simp)) hd.2.2⟩
    · rw [if_neg hd] at h; cases h
theorem ranges_low {l : List Tk} (hw : ∀ b ∈ l, Wt b) {rs : List (Nat × Nat)} (h : mRanges l = some rs) : ∀ g ∈ rs, g.1 < 10000 ∧ g.2 < 10000 :=
  allOf_mem _ _ h fun p hp g q => range_low (wt_part hw hp) q
theorem tail_low {m : Option Nat} {l : List Tk} (hw : ∀ b ∈ l, Wt b) {o : One} (h : mTail m l = some o) : oneSmall o := by
  match l, hw, h with
  | e :: z, hw, h =>
    have h : (if e = [61] then (mRanges z).map (fun l => (⟨m, true, l⟩ : One)) else if e = [33, 61] then (mRanges z).map (fun l => (⟨m, false, l⟩ : One)) else none) = some o := h
    have hz : ∀ b ∈ z, Wt b := fun b hb => hw b (List.mem_cons_of_mem _ hb)
    by_cases h1 : e = [61]
    · rw [if_pos h1] at h
      cases q : mRanges z with
      | none => rw [q] at h; cases h
      | some rs => rw [q] at h; cases h; exact ranges_low hz q
    · rw [if_neg h1] at h
      by_cases h2 : e = [33, 61]
      · rw [if_pos h2] at h
        cases q : mRanges z with
        | none => rw [q] at h; cases h
        | some rs => rw [q] at h; cases h; exact ranges_low hz q
      · rw [if_neg h2] at h; cases h
theorem one_low {l : List Tk} (hw : ∀ b ∈ l, Wt b) {o : One} (h : mOne l = some o) : oneSmall o := by
  match l, hw, h with
  | n :: r, hw, h =>
    have h : (if n = [110] then mRest r else none) = some o := h
    by_cases hn : n = [110]
    · rw [if_pos hn] at h
      match r, hw, h with
      | p :: r, hw, h =>
        have h : (if p = [37] then mPc r else mTail none (p :: r)) = some o := h
        by_cases hp : p = [37]
        · rw [if_pos hp] at h
          match r, hw, h with
          | k :: z, hw, h =>
            have h : (if digit (k.headD 0) = true then mTail (some (number k)) z else none) = some o := h
            by_cases hk : digit (k.headD 0) = true
            · rw [if_pos hk] at h
              exact tail_low (fun b hb => hw b (by simp [hb])) h
            · rw [if_neg hk] at h; cases h
        · rw [if_neg hp] at h
          exact tail_low (fun b hb => hw b (List.mem_cons_of_mem _ hb)) h
    · rw [if_neg hn] at h; cases h
theorem both_low {l : List Tk} (hw : ∀ b ∈ l, Wt b) {b : List One} (h : mBoth l = some b) : ∀ o ∈ b, oneSmall o :=
  allOf_mem _ _ h fun p hp o q => one_low (wt_part hw hp) q
theorem either_low {l : List Tk} (hw : ∀ b ∈ l, Wt b) {e : Either} (h : mEither l = some e) : ∀ b ∈ e, ∀ o ∈ b, oneSmall o :=
  allOf_mem _ _ h fun p hp o q => both_low (wt_part hw hp) q
theorem form_low {l : List Tk} (hw : ∀ b ∈ l, Wt b) {x : Bytes × Either} (h : mForm l = some x) : x.1 ∈ l ∧ ∀ b ∈ x.2, ∀ o ∈ b, oneSmall o := by
  match l, hw, h with
  | w :: c :: r, hw, h =>
    have h : (if small (w.headD 0) = true ∧ c = [58] then (mEither r).map (fun e => (w, e)) else none) = some x := h
    by_cases hc : small (w.headD 0) = true ∧ c = [58]
    · rw [if_pos hc] at h
      cases q : mEither r with
      | none => rw [q] at h; cases h
      | some e =>
        rw [q] at h; cases h
        exact ⟨List.mem_cons_self, either_low (fun b hb => hw b (by simp [hb])) q⟩
    · rw [if_neg hc] at h; cases h
theorem rule_low {l : List Tk} (hw : ∀ b ∈ l, Wt b) {r : Rule} (h : mRule l = some r) : (∀ x ∈ r, x.1 ∈ l) ∧ ∀ o ∈ ones r, oneSmall o := by
  have key : ∀ x ∈ r, x.1 ∈ l ∧ ∀ b ∈ x.2, ∀ o ∈ b, oneSmall o := by
    intro x hx
    unfold mRule at h
    by_cases h0 : l = []
    · rw [if_pos h0] at h; cases h; cases hx
    · rw [if_neg h0] at h
      by_cases h1 : l.getLast? = some [59]
      · rw [if_pos h1] at h
        refine allOf_mem (p := fun x : Bytes × Either => x.1 ∈ l ∧ ∀ b ∈ x.2, ∀ o ∈ b, oneSmall o) _ _ h (fun p hp y q => ?_) x hx
        obtain ⟨i1, i2⟩ := form_low (wt_part (fun b hb => hw b ((List.dropLast_sublist l).subset hb)) hp) q
        exact ⟨(List.dropLast_sublist l).subset (split_mem _ _ p hp _ i1), i2⟩
      · rw [if_neg h1] at h; cases h
  refine ⟨fun x hx => (key x hx).1, fun o ho => ?_⟩
  unfold ones at ho
  obtain ⟨x, hx, ho⟩ := List.mem_flatMap.mp ho
  obtain ⟨b, hb, ho⟩ := List.mem_flatten.mp ho
  exact (key x hx).2 b hb o ho
theorem toks_len : ∀ (n : Nat) (t : Bytes), t.length ≤ n → ∀ l, toks t = some l → ∀ b ∈ l, b.length ≤ t.length := by
  intro n
  induction n with
  | zero =>
    intro t ht l e
    match t, ht with
    | [], _ => rw [toks_nil] at e; cases e; intro b hb; cases hb
  | succ n ih =>
    intro t ht l e
    match t with
    | [] => rw [toks_nil] at e; cases e; intro b hb; cases hb
    | c :: r =>
      by_cases hsp : c = 32 ∨ c = 10
      · rw [toks_sp hsp] at e
        intro b hb
        have := ih r (by simp at ht; omega) l e b hb
        simp; omega
      · by_cases h0 : tokSize (c :: r) = 0
        · rw [toks_bad hsp h0] at e; cases e
        · rw [toks_tok hsp h0] at e
          cases q : toks ((c :: r).drop (tokSize (c :: r))) with
          | none => rw [q] at e; cases e
          | some l' =>
            rw [q] at e
            have e : _ :: l' = l := Option.some.inj e
            subst e
            intro b hb
            rcases List.mem_cons.mp hb with rfl | hb
            · rw [List.length_take]; omega
            · have := ih _ (by simp at ht ⊢; omega) l' q b hb
              rw [List.length_drop] at this
              omega
theorem form_eith {l : List Tk} {x : Bytes × Either} (h : mForm l = some x) : x.2.length ≤ l.length + 1 := by
  match l, h with
  | w :: c :: r, h =>
    have h : (if small (w.headD 0) = true ∧ c = [58] then (mEither r).map (fun e => (w, e)) else none) = some x := h
    by_cases hc : small (w.headD 0) = true ∧ c = [58]
    · rw [if_pos hc] at h
      cases q : mEither r with
      | none => rw [q] at h; cases h
      | some e =>
        rw [q] at h; cases h
        have h1 := allOf_len _ _ q
        have h2 := split_len [111, 114] r
        simp; omega
    · rw [if_neg hc] at h; cases h
theorem rule_eith {l : List Tk} {r : Rule} (h : mRule l = some r) : ∀ x ∈ r, x.2.length ≤ l.length + 1 := by
  intro x hx
  unfold mRule at h
  by_cases h0 : l = []
  · rw [if_pos h0] at h; cases h; cases hx
  · rw [if_neg h0] at h
    by_cases h1 : l.getLast? = some [59]
    · rw [if_pos h1] at h
      refine allOf_mem (p := fun x : Bytes × Either => x.2.length ≤ l.length + 1) _ _ h (fun p hp y q => ?_) x hx
      have h2 := form_eith q
      have h3 := part_len _ _ p hp
      have h4 : l.dropLast.length ≤ l.length := by simp
      omega
    · rw [if_neg h1] at h; cases h
/-- all that is known of a rule that was read -/
structure Good (t : Bytes) (r : Rule) : Prop where
  word : ∀ x ∈ r, x.1.length ≤ t.length
  one : ∀ o ∈ ones r, oneSmall o
  mod : ∀ n ∈ mods r, n < 10000
  len : r.length ≤ t.length + 1
  ones : (ones r).length ≤ t.length
  ranges : ((Kp181.ones r).flatMap One.ranges).length ≤ t.length
  eith : ∀ x ∈ r, x.2.length ≤ t.length + 1
theorem read_good {t : Bytes} {r : Rule} (h : mRead t = some r) : Good t r := by
  unfold mRead at h
  cases e : toks t with
  | none => rw [e] at h; cases h
  | some l =>
    rw [e] at h
    have h : mRule l = some r := h
    obtain ⟨hw, hl⟩ := toks_wt _ t (Nat.le_refl _) l e
    have hb := toks_len _ t (Nat.le_refl _) l e
    obtain ⟨a1, a2⟩ := rule_low hw h
    obtain ⟨z1, z2, z3⟩ := rule_size h
    rw [← ones_size] at z2
    rw [← oranges_size] at z3
    exact ⟨fun x hx => hb _ (a1 x hx), a2, rule_mod hw h, by omega, by omega, by omega, fun x hx => by have := rule_eith h x hx; omega⟩
theorem len_mem {α β : Type} (f : α → List β) : ∀ {l : List α} {x : α}, x ∈ l → (f x).length ≤ (l.flatMap f).length
  | y :: l, x, h => by
    rw [List.flatMap_cons, List.length_append]
    rcases List.mem_cons.mp h with rfl | h
    · omega
    · have := len_mem f h
      omega
theorem Good.both {t : Bytes} {r : Rule} (h : Good t r) {x : Bytes × Either} {b : List One} (hx : x ∈ r) (hb : b ∈ x.2) : b.length ≤ t.length := by
  have h1 : x.2.flatten.length ≤ (Kp181.ones r).length := len_mem (fun x : Bytes × Either => x.2.flatten) hx
  have h2 : (id b).length ≤ (x.2.flatMap id).length := len_mem id hb
  rw [List.flatMap_id] at h2
  have h2 : b.length ≤ x.2.flatten.length := h2
  have := h.ones
  omega
theorem Good.rng {t : Bytes} {r : Rule} (h : Good t r) {o : One} (ho : o ∈ Kp181.ones r) : o.ranges.length ≤ t.length := by
  have h1 := len_mem One.ranges ho
  have := h.ranges
  omega
/-! ### the sum -/
theorem sum_neg {t : Bytes} {v : Int} (h : mSum t = .inl v) : v < 0 := by
  unfold mSum at h
  by_cases h0 : 2048 < t.length
  · rw [if_pos h0] at h; cases h; decide
  · rw [if_neg h0] at h
    cases e : mRead t with
    | none => rw [e] at h; cases h; decide
    | some r =>
      rw [e] at h
      have h : (if wordsOk [] (r.map Prod.fst) = false then .inl (-22)
        else if 8 < r.length ∨ 64 < ((ones r).flatMap One.ranges).length then .inl (-28)
        else if 0 ∈ mods r ∨ ((ones r).flatMap One.ranges).any (fun x => decide (x.2 < x.1)) = true then .inl (-22)
        else if 10000 < multiple (mods r) then .inl (-28) else .inr r : Int ⊕ Rule) = .inl v := h
      by_cases h1 : wordsOk [] (r.map Prod.fst) = false
      · rw [if_pos h1] at h; cases h; decide
      · rw [if_neg h1] at h
        by_cases h2 : 8 < r.length ∨ 64 < ((ones r).flatMap One.ranges).length
        · rw [if_pos h2] at h; cases h; decide
        · rw [if_neg h2] at h
          by_cases h3 : 0 ∈ mods r ∨ ((ones r).flatMap One.ranges).any (fun x => decide (x.2 < x.1)) = true
          · rw [if_pos h3] at h; cases h; decide
          · rw [if_neg h3] at h
            by_cases h4 : 10000 < multiple (mods r)
            · rw [if_pos h4] at h; cases h; decide
            · rw [if_neg h4] at h; cases h
structure Sum (t : Bytes) (r : Rule) : Prop where
  len : t.length ≤ 2048
  read : mRead t = some r
  mod : ∀ k ∈ mods r, 0 < k
  mul : multiple (mods r) ≤ 10000
  forms : r.length ≤ 8
theorem sum_some {t : Bytes} {r : Rule} (h : mSum t = .inr r) : Sum t r := by
  unfold mSum at h
  by_cases h0 : 2048 < t.length
  · rw [if_pos h0] at h; cases h
  · rw [if_neg h0] at h
    cases e : mRead t with
    | none => rw [e] at h; cases h
    | some r' =>
      rw [e] at h
      have h : (if wordsOk [] (r'.map Prod.fst) = false then .inl (-22)
        else if 8 < r'.length ∨ 64 < ((ones r').flatMap One.ranges).length then .inl (-28)
        else if 0 ∈ mods r' ∨ ((ones r').flatMap One.ranges).any (fun x => decide (x.2 < x.1)) = true then .inl (-22)
        else if 10000 < multiple (mods r') then .inl (-28) else .inr r' : Int ⊕ Rule) = .inr r := h
      by_cases h1 : wordsOk [] (r'.map Prod.fst) = false
      · rw [if_pos h1] at h; cases h
      · rw [if_neg h1] at h
        by_cases h2 : 8 < r'.length ∨ 64 < ((ones r').flatMap One.ranges).length
        · rw [if_pos h2] at h; cases h
        · rw [if_neg h2] at h
          by_cases h3 : 0 ∈ mods r' ∨ ((ones r').flatMap One.ranges).any (fun x => decide (x.2 < x.1)) = true
          · rw [if_pos h3] at h; cases h
          · rw [if_neg h3] at h
            by_cases h4 : 10000 < multiple (mods r')
            · rw [if_pos h4] at h; cases h
            · rw [if_neg h4] at h
              cases h
              rw [not_or] at h2 h3
              exact ⟨by omega, e, fun k hk => Nat.pos_of_ne_zero fun z => h3.1 (z ▸ hk), by omega, by omega⟩
theorem form_nil (x : Nat) : form [] x = [111, 116, 104, 101, 114] := b_other
theorem form_yes {x : Nat} {q : Bytes × Either} {r : Rule} (h : holdsE x q.2 = true) : form (q :: r) x = q.1 := by
  unfold form
  rw [List.find?_cons, h]
theorem form_no {x : Nat} {q : Bytes × Either} {r : Rule} (h : holdsE x q.2 = false) : form (q :: r) x = form r x := by
  unfold form
  rw [List.find?_cons, h]
theorem Good.low {t : Bytes} {r : Rule} (h : Good t r) : Low r := fun o ho g hg => (h.one o ho g hg).2
end Wf
end
section
set_option linter.all false
namespace Wf
open Kp181
/-! ### numbers behind the ranges without a remainder -/
def AlikeT (s m : Nat) (x y : Nat) : Prop := x = y ∨ (s ≤ x ∧ s ≤ y ∧ x % m = y % m)
/-- behind s no range without a remainder is met -/
def Till (s : Nat) (os : List One) : Prop := ∀ o ∈ os, o.mod = none → ∀ g ∈ o.ranges, g.2 < s
theorem holds_alikeT {s m x y : Nat} {o : One} (hr : o.mod = none → ∀ g ∈ o.ranges, g.2 < s) (hm : ∀ k, o.mod = some k → k ∣ m) (h : AlikeT s m x y) : holds x o = holds y o := by
  rcases h with rfl | ⟨hx, hy, h⟩
  · rfl
  · unfold holds
    cases e : o.mod with
    | none =>
      show ((o.ranges.any fun r => decide (r.1 ≤ x) && decide (x ≤ r.2)) == o.inside) = ((o.ranges.any fun r => decide (r.1 ≤ y) && decide (y ≤ r.2)) == o.inside)
      rw [any_congr' (q := fun r => decide (r.1 ≤ y) && decide (y ≤ r.2)) fun g hg => ?_]
      have := hr e g hg
      rw [decide_eq_false (show ¬ x ≤ g.2 by omega), decide_eq_false (show ¬ y ≤ g.2 by omega), Bool.and_false, Bool.and_false]
    | some k =>
      show ((o.ranges.any fun r => decide (r.1 ≤ x % k) && decide (x % k ≤ r.2)) == o.inside) = ((o.ranges.any fun r => decide (r.1 ≤ y % k) && decide (y % k ≤ r.2)) == o.inside)
      rw [mod_of_dvd (hm k e) h]
theorem form_alikeT {s m x y : Nat} {r : Rule} (hr : Till s (ones r)) (hm : ∀ k ∈ mods r, k ∣ m) (h : AlikeT s m x y) : form r x = form r y := by
  have e : ∀ q ∈ r, holdsE x q.2 = holdsE y q.2 := fun q hq => by
    unfold holdsE
    refine any_congr' fun b hb => all_congr' fun o ho => ?_
    have hO := mem_ones hq hb ho
    exact holds_alikeT (hr o hO) (fun k ek => hm k (mem_mods hO ek)) h
  unfold form
  rw [find_congr (q := fun q => holdsE y q.2) e]
theorem fellowT {s m : Nat} (hm : 0 < m) (x : Nat) : ∃ y, y < s + m ∧ AlikeT s m x y := by
  by_cases h : x < s + m
  · exact ⟨x, h, .inl rfl⟩
  · have hy : s ≤ x := by omega
    refine ⟨s + (x - s) % m, by have := Nat.mod_lt (x - s) hm; omega, .inr ⟨hy, by omega, ?_⟩⟩
    have e : x = s + (x - s) := by omega
    rw [Nat.add_mod s ((x - s) % m), Nat.mod_mod, ← Nat.add_mod, ← e]
theorem ones_app (r q : Rule) : ones (r ++ q) = ones r ++ ones q := by
  unfold ones
  rw [List.flatMap_append]
theorem mods_app (r q : Rule) : mods (r ++ q) = mods r ++ mods q := by
  unfold mods
  rw [ones_app, List.filterMap_append]
theorem differ_till {r q : Rule} {s n : Nat} (hs : Till s (ones (r ++ q))) (hk : ∀ k ∈ mods (r ++ q), 0 < k) (hn : s + multiple (mods (r ++ q)) ≤ n) : differ r q (s + multiple (mods (r ++ q))) = differ r q n := by
  have hr : Till s (ones r) := fun o ho => hs o (by rw [ones_app]; exact List.mem_append_left _ ho)
  have hq : Till s (ones q) := fun o ho => hs o (by rw [ones_app]; exact List.mem_append_right _ ho)
  have mr : ∀ k ∈ mods r, k ∣ multiple (mods (r ++ q)) := fun k hk => dvd_multiple (by rw [mods_app]; exact List.mem_append_left _ hk)
  have mq : ∀ k ∈ mods q, k ∣ multiple (mods (r ++ q)) := fun k hk => dvd_multiple (by rw [mods_app]; exact List.mem_append_right _ hk)
  unfold differ
  cases e : (List.range (s + multiple (mods (r ++ q)))).find? (fun x => form r x != form q x) with
  | some x =>
    obtain ⟨h1, h2, h3⟩ := range_find.mp e
    exact (range_find.mpr ⟨h1, by omega, h3⟩).symm
  | none =>
    have h := range_find_none.mp e
    refine (range_find_none.mpr fun y _ => ?_).symm
    obtain ⟨z, hz, ha⟩ := fellowT (s := s) (multiple_pos hk) y
    rw [form_alikeT hr mr ha, form_alikeT hq mq ha]
    exact h z hz
/-! ### the ranges without a remainder -/
def without (os : List One) : List One := os.filter fun o => o.mod.isNone
def lasts (os : List One) : List Nat := ((without os).flatMap One.ranges).map Prod.snd
theorem till_of {os : List One} {s : Nat} (h : ∀ n ∈ lasts os, n < s) : Till s os := fun o ho e g hg => by
  refine h g.2 (List.mem_map.mpr ⟨g, List.mem_flatMap.mpr ⟨o, ?_, hg⟩, rfl⟩)
  unfold without
  rw [List.mem_filter]
  exact ⟨ho, by rw [e]; rfl⟩
theorem lasts_low {os : List One} (h : ∀ o ∈ os, oneSmall o) : ∀ n ∈ lasts os, n < 10000 := fun n hn => by
  obtain ⟨g, hg, rfl⟩ := List.mem_map.mp hn
  obtain ⟨o, ho, hg⟩ := List.mem_flatMap.mp hg
  unfold without at ho
  rw [List.mem_filter] at ho
  exact (h o ho.1 g hg).2
theorem without_len (os : List One) : ((without os).flatMap One.ranges).length ≤ (os.flatMap One.ranges).length := by
  unfold without
  induction os with
  | nil => exact Nat.le_refl _
  | cons o os ih =>
    rw [List.filter_cons, List.flatMap_cons, List.length_append]
    cases o.mod.isNone with
    | true => rw [if_pos rfl, List.flatMap_cons, List.length_append]; omega
    | false => rw [if_neg (by decide)]; omega
/-- the greatest of the numbers and one more; 0 if there is none -/
def Settled (os : List One) (s : Nat) : Prop := (lasts os = [] ∧ s = 0) ∨ ∃ m ∈ lasts os, (∀ n ∈ lasts os, n ≤ m) ∧ s = m + 1
theorem Settled.till {os : List One} {s : Nat} (h : Settled os s) : Till s os := till_of fun n hn => by
  rcases h with ⟨h, _⟩ | ⟨m, _, h, rfl⟩
  · rw [h] at hn; cases hn
  · have := h n hn; omega
theorem Settled.low {os : List One} {s : Nat} (h : Settled os s) (hs : ∀ o ∈ os, oneSmall o) : s ≤ 10000 := by
  rcases h with ⟨_, rfl⟩ | ⟨m, hm, _, rfl⟩
  · decide
  · have := lasts_low hs m hm; omega
theorem differ_settled {r q : Rule} {s : Nat} (h : Settled (ones (r ++ q)) s) (ho : ∀ o ∈ ones (r ++ q), oneSmall o) (hk : ∀ k ∈ mods (r ++ q), 0 < k) : differ r q (s + multiple (mods (r ++ q))) = differ r q (10000 + multiple (mods r ++ mods q)) := by
  rw [← mods_app]
  exact differ_till h.till hk (by have := h.low ho; omega)
/-! ### what is due, by the parts -/
theorem same_left {t u : Bytes} {v : Int} (h : mSum t = .inl v) : plSame t u = [0, v] := by
  unfold plSame; rw [h]
theorem same_right {t u : Bytes} {r : Rule} {v : Int} (h : mSum t = .inr r) (g : mSum u = .inl v) : plSame t u = [0, v] := by
  unfold plSame; rw [h, g]
theorem same_much {t u : Bytes} {r q : Rule} (h : mSum t = .inr r) (g : mSum u = .inr q) (hm : 10000 < multiple (mods (r ++ q))) : plSame t u = [0, -28] := by
  unfold plSame; rw [h, g]
  show (if 10000 < multiple (mods r ++ mods q) then ([0, -28] : List Int) else _) = _
  rw [mods_app] at hm
  rw [if_pos hm]
theorem same_all {t u : Bytes} {r q : Rule} (h : mSum t = .inr r) (g : mSum u = .inr q) (hm : ¬ 10000 < multiple (mods (r ++ q))) (hd : differ r q (10000 + multiple (mods r ++ mods q)) = none) : plSame t u = [0, 1] := by
  unfold plSame; rw [h, g]
  show (if 10000 < multiple (mods r ++ mods q) then ([0, -28] : List Int) else match differ r q (10000 + multiple (mods r ++ mods q)) with | none => [0, 1] | some x => [2, (x : Int)]) = _
  rw [mods_app] at hm
  rw [if_neg hm, hd]
theorem same_not {t u : Bytes} {r q : Rule} {x : Nat} (h : mSum t = .inr r) (g : mSum u = .inr q) (hm : ¬ 10000 < multiple (mods (r ++ q))) (hd : differ r q (10000 + multiple (mods r ++ mods q)) = some x) : plSame t u = [2, (x : Int)] := by
  unfold plSame; rw [h, g]
  show (if 10000 < multiple (mods r ++ mods q) then ([0, -28] : List Int) else match differ r q (10000 + multiple (mods r ++ mods q)) with | none => [0, 1] | some x => [2, (x : Int)]) = _
  rw [mods_app] at hm
  rw [if_neg hm, hd]
end Wf
end
section
set_option Elab.async false
set_option linter.all false
set_option maxRecDepth 100000
set_option maxHeartbeats 2000000
namespace Wf
open PySem PySem.Spec PyProof.Rows L2
/-! ### data in the heap -/
mutual
/-- v stands for the datum d, all of it tracked -/
inductive Is (H : Hp) : V → PyData → Prop
  | non : Is H .non .none
  | bl (b : Bool) : Is H (.bl b) (.bool b)
  | int (i : Int) : Is H (.int i) (.int i)
  | lst {a : Addr} {xs : List V} {ds : List PyData} : H a = some (.lst xs) → IsAll H xs ds → Is H (.ref a) (.list ds)
  | tup {a : Addr} {xs : List V} {ds : List PyData} : H a = some (.tup xs) → IsAll H xs ds → Is H (.ref a) (.tuple ds)
inductive IsAll (H : Hp) : List V → List PyData → Prop
  | nil : IsAll H [] []
  | cons {v : V} {vs : List V} {d : PyData} {ds : List PyData} : Is H v d → IsAll H vs ds → IsAll H (v :: vs) (d :: ds)
end
mutual
theorem Is.same {H H' : Hp} (s : Same H H') : ∀ (d : PyData) (v : V), Is H v d → Is H' v d
  | .none, _, h => by cases h; exact .non
  | .bool b, _, h => by cases h; exact .bl b
  | .int i, _, h => by cases h; exact .int i
  | .str x, _, h => by cases h
  | .list ds, _, h => by
    cases h with
    | lst ha hs => exact .lst (s _ _ ha) (IsAll.same s ds _ hs)
  | .tuple ds, _, h => by
    cases h with
    | tup ha hs => exact .tup (s _ _ ha) (IsAll.same s ds _ hs)
  | .dict _, _, h => by cases h
theorem IsAll.same {H H' : Hp} (s : Same H H') : ∀ (ds : List PyData) (vs : List V), IsAll H vs ds → IsAll H' vs ds
  | [], _, h => by cases h; exact .nil
  | d :: ds, _, h => by
    cases h with
    | cons h1 h2 => exact .cons (Is.same s d _ h1) (IsAll.same s ds _ h2)
end
mutual
theorem Is.dp {K : PySem.W.Frag} {H : Hp} : ∀ (d : PyData) (v : V), Is H v d → Dp K H v d
  | .none, _, h => by cases h; exact .non
  | .bool b, _, h => by cases h; exact .bl b
  | .int i, _, h => by cases h; exact .int i
  | .str x, _, h => by cases h
  | .list ds, _, h => by
    cases h with
    | lst ha hs => exact .lst (SqL.of ha) (IsAll.dp ds _ hs)
  | .tuple ds, _, h => by
    cases h with
    | tup ha hs => exact .tup (SqT.of ha) (IsAll.dp ds _ hs)
  | .dict _, _, h => by cases h
theorem IsAll.dp {K : PySem.W.Frag} {H : Hp} : ∀ (ds : List PyData) (vs : List V), IsAll H vs ds → DpAll K H vs ds
  | [], _, h => by cases h; exact .nil
  | d :: ds, _, h => by
    cases h with
    | cons h1 h2 => exact .cons (Is.dp d _ h1) (IsAll.dp ds _ h2)
end
theorem Is.up {H H' : Hp} {d : PyData} {v : V} (h : Is H v d) (s : Same H H') : Is H' v d := Is.same s d v h
theorem IsAll.up {H H' : Hp} {ds : List PyData} {vs : List V} (h : IsAll H vs ds) (s : Same H H') : IsAll H' vs ds := IsAll.same s ds vs h
theorem IsAll.len {H : Hp} : ∀ {ds : List PyData} {vs : List V}, IsAll H vs ds → vs.length = ds.length
  | [], _, h => by cases h; rfl
  | d :: ds, _, h => by
    cases h with
    | cons h1 h2 => rw [List.length_cons, List.length_cons, IsAll.len h2]
theorem IsAll.snoc {H : Hp} {d : PyData} {v : V} (hv : Is H v d) : ∀ {ds : List PyData} {vs : List V}, IsAll H vs ds → IsAll H (vs ++ [v]) (ds ++ [d])
  | [], _, h => by cases h; exact .cons hv .nil
  | _ :: ds, _, h => by
    cases h with
    | cons h1 h2 => exact .cons h1 (IsAll.snoc hv h2)
theorem IsAll.app {H : Hp} : ∀ {ds es : List PyData} {vs us : List V}, IsAll H vs ds → IsAll H us es → IsAll H (vs ++ us) (ds ++ es)
  | [], _, _, _, h, g => by cases h; exact g
  | _ :: ds, _, _, _, h, g => by
    cases h with
    | cons h1 h2 => exact .cons h1 (IsAll.app h2 g)
theorem IsAll.drop {H : Hp} : ∀ (n : Nat) {ds : List PyData} {vs : List V}, IsAll H vs ds → IsAll H (vs.drop n) (ds.drop n)
  | 0, _, _, h => h
  | _ + 1, [], _, h => by cases h; exact .nil
  | n + 1, _ :: ds, _, h => by
    cases h with
    | cons h1 h2 => exact IsAll.drop n h2
theorem IsAll.take {H : Hp} : ∀ (n : Nat) {ds : List PyData} {vs : List V}, IsAll H vs ds → IsAll H (vs.take n) (ds.take n)
  | 0, _, _, h => .nil
  | _ + 1, [], _, h => by cases h; exact .nil
  | n + 1, _ :: ds, _, h => by
    cases h with
    | cons h1 h2 => exact .cons h1 (IsAll.take n h2)
theorem IsAll.get {H : Hp} : ∀ {ds : List PyData} {vs : List V} {i : Nat} {v : V}, IsAll H vs ds → vs[i]? = some v → ∃ d, ds[i]? = some d ∧ Is H v d
  | [], _, i, v, h, e => by cases h; simp at e
  | d :: ds, _, i, v, h, e => by
    cases h with
    | cons h1 h2 =>
      match i, e with
      | 0, e => cases e; exact ⟨_, rfl, h1⟩
      | i + 1, e => exact IsAll.get (i := i) h2 (by simpa using e)
theorem IsAll.at_ {H : Hp} : ∀ {ds : List PyData} {vs : List V} {i : Nat} {d : PyData}, IsAll H vs ds → ds[i]? = some d → ∃ v, vs[i]? = some v ∧ Is H v d
  | [], _, i, v, h, e => by simp at e
  | d :: ds, _, i, v, h, e => by
    cases h with
    | cons h1 h2 =>
      match i, e with
      | 0, e => cases e; exact ⟨_, rfl, h1⟩
      | i + 1, e => exact IsAll.at_ (i := i) h2 (by simpa using e)
theorem IsAll.getM {α : Type} {e : α → PyData} {H : Hp} {l : List α} {vs : List V} {i : Nat} {v : V} (h : IsAll H vs (l.map e)) (q : vs[i]? = some v) : ∃ x, l[i]? = some x ∧ Is H v (e x) := by
  obtain ⟨d, h1, h2⟩ := h.get q
  rw [List.getElem?_map] at h1
  cases z : l[i]? with
  | none => rw [z] at h1; cases h1
  | some x => rw [z] at h1; cases h1; exact ⟨x, rfl, h2⟩
theorem IsAll.atM {α : Type} {e : α → PyData} {H : Hp} {l : List α} {vs : List V} {i : Nat} {x : α} (h : IsAll H vs (l.map e)) (q : l[i]? = some x) : ∃ v, vs[i]? = some v ∧ Is H v (e x) :=
  h.at_ (d := e x) (by rw [List.getElem?_map, q]; rfl)
theorem IsAll.snocM {α : Type} {e : α → PyData} {H : Hp} {l : List α} {vs : List V} {x : α} {v : V} (h : IsAll H vs (l.map e)) (hv : Is H v (e x)) : IsAll H (vs ++ [v]) ((l ++ [x]).map e) := by
  rw [List.map_append]
  exact h.snoc hv
theorem Is.none_iff {H : Hp} {v : V} {d : PyData} (h : Is H v d) : v = .non ↔ d = .none := by
  cases h <;> simp
/-! ### encodings -/
def eNat (n : Nat) : PyData := .int (n : Int)
def eTok (b : Tk) : PyData := .tuple (b.map eNat)
def eList {α : Type} (e : α → PyData) (l : List α) : PyData := .list (l.map e)
def eToks : List Tk → PyData := eList eTok
def eOpt {α : Type} (e : α → PyData) : Option α → PyData
  | none => .none
  | some x => e x
def eRange (x : Nat × Nat) : PyData := .tuple [eNat x.1, eNat x.2]
def eOne (o : Kp181.One) : PyData := .tuple [eOpt eNat o.mod, .bool o.inside, eList eRange o.ranges]
def eBoth : List Kp181.One → PyData := eList eOne
def eEither : List (List Kp181.One) → PyData := eList eBoth
def eForm (x : Kp181.Bytes × Kp181.Either) : PyData := .tuple [eTok x.1, eEither x.2]
def eForms : Kp181.Rule → PyData := eList eForm
def vB (b : List Nat) : List V := b.map fun (n : Nat) => V.int (n : Int)
theorem vB_len (b : List Nat) : (vB b).length = b.length := List.length_map _
theorem vB_get {b : List Nat} {i : Nat} {c : Nat} (h : b[i]? = some c) : (vB b)[i]? = some (.int (c : Int)) := by
  unfold vB; rw [List.getElem?_map, h]; rfl
theorem vB_get' {b : List Nat} {i : Nat} {v : V} (h : (vB b)[i]? = some v) : ∃ c, b[i]? = some c ∧ v = .int (c : Int) := by
  unfold vB at h
  rw [List.getElem?_map] at h
  cases z : b[i]? with
  | none => rw [z] at h; cases h
  | some x => rw [z] at h; cases h; exact ⟨x, rfl, rfl⟩
theorem isAll_nats {H : Hp} : ∀ (b : List Nat) (vs : List V), IsAll H vs (b.map eNat) ↔ vs = vB b
  | [], vs => ⟨fun h => (by cases h; rfl), fun h => (by subst h; exact .nil)⟩
  | n :: b, vs => by
    constructor
    · intro h
      cases h with
      | cons h1 h2 =>
        cases h1
        rw [(isAll_nats b _).mp h2]
        rfl
    · intro h
      subst h
      exact .cons (.int _) ((isAll_nats b _).mpr rfl)
theorem is_tok {H : Hp} {v : V} {b : Tk} : Is H v (eTok b) ↔ ∃ a, v = .ref a ∧ H a = some (.tup (vB b)) := by
  constructor
  · intro h
    cases h with
    | tup ha hs => rw [(isAll_nats b _).mp hs] at ha; exact ⟨_, rfl, ha⟩
  · rintro ⟨a, rfl, ha⟩
    exact .tup ha ((isAll_nats b _).mpr rfl)
theorem is_list {α : Type} {e : α → PyData} {H : Hp} {v : V} {l : List α} : Is H v (eList e l) ↔ ∃ a vs, v = .ref a ∧ H a = some (.lst vs) ∧ IsAll H vs (l.map e) := by
  constructor
  · intro h
    cases h with
    | lst ha hs => exact ⟨_, _, rfl, ha, hs⟩
  · rintro ⟨a, vs, rfl, ha, hs⟩
    exact .lst ha hs
/-! ### a token that is read: tracked, or a constant of the text -/
def TkAt (K : PySem.W.Frag) (H : Hp) (v : V) (b : Tk) : Prop := ∃ a, v = .ref a ∧ SqT K H a (vB b)
theorem SqT.up {K : PySem.W.Frag} {H H' : Hp} {a : Addr} {xs : List V} (h : SqT K H a xs) (e : Same H H') : SqT K H' a xs := by
  rcases h with (h | ⟨o, h⟩) | h
  · exact .inl (.inl (e _ _ h))
  · exact .inl (.inr ⟨o, e _ _ h⟩)
  · exact .inr h
theorem TkAt.up {K : PySem.W.Frag} {H H' : Hp} {v : V} {b : Tk} (h : TkAt K H v b) (e : Same H H') : TkAt K H' v b := by
  obtain ⟨a, rfl, h'⟩ := h
  exact ⟨a, rfl, SqT.up h' e⟩
theorem Is.tk {K : PySem.W.Frag} {H : Hp} {v : V} {b : Tk} (h : Is H v (eTok b)) : TkAt K H v b := by
  obtain ⟨a, rfl, h'⟩ := is_tok.mp h
  exact ⟨a, rfl, SqT.of h'⟩
theorem dpAll_nats {K : PySem.W.Frag} {H : Hp} : ∀ (b : List Nat), DpAll K H (vB b) (b.map eNat)
  | [] => .nil
  | n :: b => .cons (.int _) (dpAll_nats b)
theorem TkAt.dp {K : PySem.W.Frag} {H : Hp} {v : V} {b : Tk} (h : TkAt K H v b) : Dp K H v (eTok b) := by
  obtain ⟨a, rfl, h'⟩ := h
  exact .tup h' (dpAll_nats b)
theorem eqvAll_nats : ∀ (b c : List Nat), PyData.eqvAll (b.map eNat) (c.map eNat) = decide (b = c)
  | [], [] => rfl
  | [], _ :: _ => rfl
  | _ :: _, [] => rfl
  | x :: b, y :: c => by
    show (((x : Int) == (y : Int)) && PyData.eqvAll (b.map eNat) (c.map eNat)) = _
    rw [eqvAll_nats b c]
    by_cases h : x = y
    · subst h
      by_cases h2 : b = c
      · subst h2; simp
      · simp [h2]
    · have : ((x : Int) == (y : Int)) = false := beq_eq_false_iff_ne.mpr (by omega)
      simp [this, h]
theorem eqv_tok (b c : Tk) : PyData.eqv (eTok b) (eTok c) = decide (b = c) := eqvAll_nats b c
theorem eqvAll_toks : ∀ (b c : List Tk), PyData.eqvAll (b.map eTok) (c.map eTok) = decide (b = c)
  | [], [] => rfl
  | [], _ :: _ => rfl
  | _ :: _, [] => rfl
  | x :: b, y :: c => by
    show (PyData.eqv (eTok x) (eTok y) && PyData.eqvAll (b.map eTok) (c.map eTok)) = _
    rw [eqvAll_toks b c, eqv_tok]
    by_cases h : x = y
    · subst h
      by_cases h2 : b = c
      · subst h2; simp
      · simp [h2]
    · simp [h]
theorem canLay_nats : ∀ b : List Nat, PyData.canLayAll0 (b.map eNat) = true
  | [] => rfl
  | n :: b => by
    show (true && PyData.canLayAll0 (b.map eNat)) = true
    rw [canLay_nats b]; rfl
theorem depth_nats : ∀ b : List Nat, PyData.depthAll (b.map eNat) = 0
  | [] => rfl
  | n :: b => by
    show max 0 (PyData.depthAll (b.map eNat)) = 0
    rw [depth_nats b]; rfl
theorem canLay_tok (b : Tk) : (eTok b).canLay0 = true := canLay_nats b
theorem depth_tok (b : Tk) : (eTok b).depth = 1 := by
  show PyData.depthAll (b.map eNat) + 1 = 1
  rw [depth_nats]
theorem shaped_tok (b : Tk) : SeqAt.shaped (eTok b) = true := by
  unfold SeqAt.shaped
  rw [canLay_tok, depth_tok]; rfl
theorem canLay_toks : ∀ b : List Tk, PyData.canLayAll0 (b.map eTok) = true
  | [] => rfl
  | n :: b => by
    show ((eTok n).canLay0 && PyData.canLayAll0 (b.map eTok)) = true
    rw [canLay_toks b, canLay_tok]; rfl
theorem depth_toks : ∀ b : List Tk, PyData.depthAll (b.map eTok) ≤ 1
  | [] => by show 0 ≤ 1; decide
  | n :: b => by
    show max (eTok n).depth (PyData.depthAll (b.map eTok)) ≤ 1
    rw [depth_tok]
    exact Nat.max_le.mpr ⟨Nat.le_refl _, depth_toks b⟩
theorem shaped_toks (b : List Tk) : SeqAt.shaped (eToks b) = true := by
  unfold SeqAt.shaped
  have h1 : (eToks b).canLay0 = true := canLay_toks b
  have h2 : (eToks b).depth ≤ 2 := by
    show PyData.depthAll (b.map eTok) + 1 ≤ 2
    have := depth_toks b
    omega
  rw [h1, decide_eq_true (show (eToks b).depth ≤ 64 by omega)]; rfl
section
variable {X : Cx}
def rEqT (K : PySem.W.Frag) : R2 := fun x y H Q => ∃ b c, TkAt K H x b ∧ TkAt K H y c ∧ Q (.bl (decide (b = c))) H
def rNeT (K : PySem.W.Frag) : R2 := fun x y H Q => ∃ b c, TkAt K H x b ∧ TkAt K H y c ∧ Q (.bl (!decide (b = c))) H
theorem op_eqT (hu : X.A.units + 64 < cLine) : OpR X (compareOp .Eq) (rEqT X.K) := by
  intro pins s σ H x y v u Q I rx ry h
  obtain ⟨b, c, hb, hc, q⟩ := h
  exact op_eqD hu pins s σ H x y v u Q I rx ry ⟨_, _, hb.dp, hc.dp, shaped_tok b, shaped_tok c, by rw [eqv_tok]; exact q⟩
theorem op_neT (hu : X.A.units + 64 < cLine) : OpR X (compareOp .NotEq) (rNeT X.K) := by
  intro pins s σ H x y v u Q I rx ry h
  obtain ⟨b, c, hb, hc, q⟩ := h
  exact op_neD hu pins s σ H x y v u Q I rx ry ⟨_, _, hb.dp, hc.dp, shaped_tok b, shaped_tok c, by rw [eqv_tok]; exact q⟩
/-- a row of tokens -/
inductive TkAll (K : PySem.W.Frag) (H : Hp) : List V → List Tk → Prop
  | nil : TkAll K H [] []
  | cons {v : V} {vs : List V} {b : Tk} {bs : List Tk} : TkAt K H v b → TkAll K H vs bs → TkAll K H (v :: vs) (b :: bs)
theorem TkAll.dp {K : PySem.W.Frag} {H : Hp} : ∀ {vs : List V} {bs : List Tk}, TkAll K H vs bs → DpAll K H vs (bs.map eTok)
  | _, _, .nil => .nil
  | _, _, .cons h t => .cons h.dp t.dp
theorem IsAll.tks {K : PySem.W.Frag} {H : Hp} : ∀ {bs : List Tk} {vs : List V}, IsAll H vs (bs.map eTok) → TkAll K H vs bs
  | [], _, h => by cases h; exact .nil
  | b :: bs, _, h => by
    cases h with
    | cons h1 h2 => exact .cons h1.tk (IsAll.tks h2)
theorem TkAll.up {K : PySem.W.Frag} {H H' : Hp} (e : Same H H') : ∀ {vs : List V} {bs : List Tk}, TkAll K H vs bs → TkAll K H' vs bs
  | _, _, .nil => .nil
  | _, _, .cons h t => .cons (h.up e) (t.up e)
def TksAt (K : PySem.W.Frag) (H : Hp) (v : V) (bs : List Tk) : Prop := ∃ a vs, v = .ref a ∧ SqL K H a vs ∧ TkAll K H vs bs
theorem TksAt.dp {K : PySem.W.Frag} {H : Hp} {v : V} {bs : List Tk} (h : TksAt K H v bs) : Dp K H v (eToks bs) := by
  obtain ⟨a, vs, rfl, h1, h2⟩ := h
  exact .lst h1 h2.dp
def rEqTs (K : PySem.W.Frag) : R2 := fun x y H Q => ∃ b c, TksAt K H x b ∧ TksAt K H y c ∧ Q (.bl (decide (b = c))) H
def rNeTs (K : PySem.W.Frag) : R2 := fun x y H Q => ∃ b c, TksAt K H x b ∧ TksAt K H y c ∧ Q (.bl (!decide (b = c))) H
theorem op_eqTs (hu : X.A.units + 64 < cLine) : OpR X (compareOp .Eq) (rEqTs X.K) := by
  intro pins s σ H x y v u Q I rx ry h
  obtain ⟨b, c, hb, hc, q⟩ := h
  exact op_eqD hu pins s σ H x y v u Q I rx ry ⟨_, _, hb.dp, hc.dp, shaped_toks b, shaped_toks c, by rw [show PyData.eqv (eToks b) (eToks c) = decide (b = c) from eqvAll_toks b c]; exact q⟩
theorem op_neTs (hu : X.A.units + 64 < cLine) : OpR X (compareOp .NotEq) (rNeTs X.K) := by
  intro pins s σ H x y v u Q I rx ry h
  obtain ⟨b, c, hb, hc, q⟩ := h
  exact op_neD hu pins s σ H x y v u Q I rx ry ⟨_, _, hb.dp, hc.dp, shaped_toks b, shaped_toks c, by rw [show PyData.eqv (eToks b) (eToks c) = decide (b = c) from eqvAll_toks b c]; exact q⟩
/-- a token in a tuple of tokens -/
def rInT (K : PySem.W.Frag) (neg : Bool) : R2 := fun x y H Q => ∃ p xs bs b, y = .ref p ∧ SqT K H p xs ∧ TkAll K H xs bs ∧ TkAt K H x b ∧ Q (.bl (if neg then !bs.contains b else bs.contains b)) H
theorem any_tok (b : Tk) : ∀ bs : List Tk, ((bs.map eTok).any fun y => PyData.eqv y (eTok b)) = bs.contains b
  | [] => rfl
  | c :: bs => by
    rw [List.map_cons, List.any_cons, any_tok b bs, eqv_tok, List.contains_cons]
    congr 1
    by_cases h : c = b
    · subst h; simp
    · have : (b == c) = false := beq_eq_false_iff_ne.mpr (fun e => h e.symm)
      simp [h, this]
theorem room_in (hu : X.A.units + 64 < cLine) (bs : List Tk) (b : Tk) : X.A.units + 1 + min (PyData.depthAll (bs.map eTok)) (eTok b).depth < cLine := by
  have h := Nat.min_le_right (PyData.depthAll (bs.map eTok)) (eTok b).depth
  rw [depth_tok] at h ⊢
  omega
theorem op_inT (hu : X.A.units + 64 < cLine) : OpR X (compareOp .In) (rInT X.K false) := by
  intro pins s σ H x y v u Q I rx ry h
  obtain ⟨p, xs, bs, b, rfl, hp, hs, hb, q⟩ := h
  obtain ⟨as, r1⟩ := Dp.reads I (.tuple (bs.map eTok)) (.ref p) u (.tup hp hs.dp) ry
  obtain ⟨cs, r2⟩ := Dp.reads I (eTok b) x v hb.dp rx
  exact SeqAt.in_tuple_reads r1 r2 (canLay_toks bs) (canLay_tok b) (room_in hu bs b) ⟨.bl _, H, I, rfl, by rw [any_tok]; exact q⟩
theorem op_notInT (hu : X.A.units + 64 < cLine) : OpR X (compareOp .NotIn) (rInT X.K true) := by
  intro pins s σ H x y v u Q I rx ry h
  obtain ⟨p, xs, bs, b, rfl, hp, hs, hb, q⟩ := h
  obtain ⟨as, r1⟩ := Dp.reads I (.tuple (bs.map eTok)) (.ref p) u (.tup hp hs.dp) ry
  obtain ⟨cs, r2⟩ := Dp.reads I (eTok b) x v hb.dp rx
  exact SeqAt.notIn_tuple_reads r1 r2 (canLay_toks bs) (canLay_tok b) (room_in hu bs b) ⟨.bl _, H, I, rfl, by rw [any_tok]; exact q⟩
end
/-! ### constants of the text -/
def GI (mg : Str → Option Value) (x : Str) (i : Int) : Prop := ∃ t, mg x = some (.int i t)
def GT (K : PySem.W.Frag) (mg : Str → Option Value) (x : Str) (b : Tk) : Prop := ∃ a, mg x = some (.ref a) ∧ ∀ H, SqT K H a (vB b)
section
variable {X : Cx} {x : Str} {pos : Pos}
theorem pe_gi {i : Int} (h : GI X.mg x i) (hg : Gl X x) (hd : (x == ("__debug__" : Str)) = false := by decide) : PE X (.Name x pos) (tC (.int i)) := by
  obtain ⟨t, h⟩ := h
  exact pe_glob hg h ⟨t, rfl⟩ hd
def tTok (K : PySem.W.Frag) (b : Tk) : TE := fun _ H Q => ∀ v, (∀ H', TkAt K H' v b) → Q v H
theorem pe_gt {b : Tk} (h : GT X.K X.mg x b) (hg : Gl X x) (hd : (x == ("__debug__" : Str)) = false := by decide) : PE X (.Name x pos) (tTok X.K b) := by
  obtain ⟨a, h, hs⟩ := h
  intro pins s σ H Q I hq
  exact pe_glob (v := .ref a) hg h rfl hd pins s σ H Q I (hq _ fun H' => ⟨a, rfl, hs H'⟩)
/-- a call of a function that a name holds -/
def tCallL (i : Nat) (f : Addr) (sp : Sp) (E : XK) (t : TA) : TE := fun σ H Q => σ[i]? = some (some (.ref f)) ∧ t σ H fun vs H1 => sp (vs ++ []) H1 Q E
theorem pe_callL {CX : CXT} {k : Nat} {f : Addr} {fd : FuncData} {ps : List Str} {sp : Sp} {E : XK} {p : Pos} {e : Expr} {es : List Expr} {t : TA} (i : Nat) (F : FnOk X.prog X.w X.K X.mg X.base CX k f fd ps sp) (hr : Room k X.A) (hk : PySem.W.keepIn X.K (.ref f) = true) (hb : Binds X.K fd ps []) (hx : Passes CX X E)
    (ha : PA X (e :: es) t) (hn : PE X (.Name x p) (tVar i)) (he : starEach (e :: es) X.env = (false, eval e X.env) :: starEach es X.env := by rfl) (hpl : (backTo pos (starEach es X.env)).any (·.1) = false := by rfl) :
    PE X (.Call (.Name x p) (e :: es) [] pos) (tCallL i f sp E t) := by
  intro pins s σ H Q I h
  obtain ⟨hσ, h⟩ := h
  refine wpAny_Call_Name_kw (thn (hn pins s σ H (fun v H1 => v = .ref f ∧ t σ H1 fun vs H2 => sp (vs ++ []) H2 Q E) I ⟨_, hσ, rfl, h⟩) fun u s1 ⟨v, H1, I1, r, ev, q⟩ => ?_)
  subst ev
  obtain rfl : u = Value.ref f := r
  refine PySem.W.callWith_K (h₀ := X.base) I.ok.mod.kin hk (thn (ha pos pins s1 σ H1 _ I1 q) fun us s2 ⟨vs, H2, I2, r, q⟩ => ⟨I2.kIn, ?_⟩) he hpl
  exact run_fn F hr hb .nil hx I2 r q
end
/-! ### heaps that grow: G is what is settled within H -/
structure Gr (H G G' H' : Hp) : Prop where
  hh : Same H H'
  gg : Same G G'
  gh : Same G' H'
  nw : ∀ b, H b ≠ Option.none → G b = Option.none → G' b = Option.none
theorem same_ne {H H' : Hp} (s : Same H H') {b : Addr} (h : H b ≠ Option.none) : H' b ≠ Option.none := by
  cases q : H b with
  | none => exact absurd q h
  | some o => rw [s b o q]; simp
theorem same_upd {H H' : Hp} (s : Same H H') {l : Addr} {o : HO} (h : H l = Option.none) : Same H (upd H' l o) := fun b u e => by
  rw [upd_ne (ne_of_none e h)]
  exact s b u e
theorem same_new {H : Hp} {l : Addr} {o : HO} (h : H l = Option.none) : Same H (upd H l o) := same_upd (Same.refl H) h
theorem Gr.refl {H G : Hp} (h : Same G H) : Gr H G G H := ⟨Same.refl _, Same.refl _, h, fun _ _ e => e⟩
theorem Gr.trans {H G G1 H1 G2 H2 : Hp} (a : Gr H G G1 H1) (b : Gr H1 G1 G2 H2) : Gr H G G2 H2 :=
  ⟨a.hh.trans b.hh, a.gg.trans b.gg, b.gh, fun x h e => b.nw x (same_ne a.hh h) (a.nw x h e)⟩
/-- more stands in the heap -/
theorem Gr.more {H G G1 H1 H2 : Hp} (a : Gr H G G1 H1) (s : Same H1 H2) : Gr H G G1 H2 := ⟨a.hh.trans s, a.gg, a.gh.trans s, a.nw⟩
theorem Gr.lay {H G G1 H1 : Hp} {l : Addr} {o : HO} (a : Gr H G G1 H1) (h : H1 l = Option.none) : Gr H G G1 (upd H1 l o) := a.more (same_new h)
theorem Gr.fresh {H G G1 H1 : Hp} {l : Addr} (a : Gr H G G1 H1) (h : H1 l = Option.none) : H l = Option.none := a.hh.free h
theorem Gr.freshG {H G G1 H1 : Hp} {l : Addr} (a : Gr H G G1 H1) (h : H1 l = Option.none) : G1 l = Option.none := a.gh.free h
/-- an own object is changed -/
theorem Gr.write {H G G1 H1 : Hp} {l : Addr} {o : HO} (a : Gr H G G1 H1) (h : H l = Option.none) (g : G1 l = Option.none) : Gr H G G1 (upd H1 l o) :=
  ⟨same_upd a.hh h, a.gg, same_upd a.gh g, a.nw⟩
/-- an own object is settled -/
theorem Gr.keep {H G G1 H1 : Hp} {l : Addr} {o : HO} (a : Gr H G G1 H1) (h : H l = Option.none) (g : G1 l = Option.none) (e : H1 l = some o) : Gr H G (upd G1 l o) H1 := by
  refine ⟨a.hh, same_upd a.gg (a.gg.free g), fun b u q => ?_, fun b hb gb => ?_⟩
  · by_cases hbl : b = l
    · subst hbl; rw [upd_same] at q; cases q; exact e
    · rw [upd_ne hbl] at q; exact a.gh b u q
  · have hbl : b ≠ l := fun z => hb (z ▸ h)
    rw [upd_ne hbl]
    exact a.nw b hb gb
theorem Gr.new {H G G1 H1 : Hp} {l : Addr} {o : HO} (a : Gr H G G1 H1) (h : H1 l = Option.none) : Gr H G (upd G1 l o) (upd H1 l o) :=
  (a.lay h).keep (a.fresh h) (a.freshG h) upd_same
theorem Is.newTup {G : Hp} {l : Addr} {xs : List V} {ds : List PyData} (h : IsAll G xs ds) (g : G l = Option.none) : Is (upd G l (.tup xs)) (.ref l) (.tuple ds) := .tup upd_same (h.up (same_new g))
theorem Is.newLst {G : Hp} {l : Addr} {xs : List V} {ds : List PyData} (h : IsAll G xs ds) (g : G l = Option.none) : Is (upd G l (.lst xs)) (.ref l) (.list ds) := .lst upd_same (h.up (same_new g))
theorem take_snoc {α : Type} {l : List α} {i : Nat} {x : α} (h : l[i]? = some x) : l.take (i + 1) = l.take i ++ [x] := by
  rw [List.take_add_one, h]
  rfl
theorem drop_at {α : Type} {l : List α} {i : Nat} {x : α} (h : l[i]? = some x) : l.drop i = x :: l.drop (i + 1) := by
  obtain ⟨hi, e⟩ := List.getElem?_eq_some_iff.mp h
  rw [List.drop_eq_getElem_cons hi, e]
theorem iteDp {p A B : Prop} [Decidable p] (h : p) (a : A) : if decide p = true then A else B := by
  rw [if_pos (decide_eq_true h)]
  exact a
theorem iteDn {p A B : Prop} [Decidable p] (h : ¬ p) (b : B) : if decide p = true then A else B := by
  rw [if_neg (by rw [decide_eq_false h]; exact Bool.false_ne_true)]
  exact b
theorem iteNp {p A B : Prop} [Decidable p] (h : p) (b : B) : if (!decide p) = true then A else B := by
  rw [decide_eq_true h]
  exact iteF b
theorem iteNn {p A B : Prop} [Decidable p] (h : ¬ p) (a : A) : if (!decide p) = true then A else B := by
  rw [decide_eq_false h]
  exact iteT a
theorem iteBt {b : Bool} {A B : Prop} (h : b = true) (a : A) : if b = true then A else B := by
  rw [if_pos h]
  exact a
theorem iteBf {b : Bool} {A B : Prop} (h : b = false) (a : B) : if b = true then A else B := by
  rw [h]
  exact iteF a
theorem sz {n : Nat} (h : n ≤ 100000) : n ≤ sizeLine := Nat.le_trans h (by decide)
theorem szl {n : Nat} (h : n ≤ 100000) : n < sizeLine := Nat.lt_of_le_of_lt h (by decide)
end Wf
end
section
set_option Elab.async false
set_option linter.all false
set_option maxRecDepth 100000
set_option maxHeartbeats 2000000
namespace Wf
open PySem PySem.Spec PyProof.Rows L2
/-! ### max(xs, default = d) of a list of ints -/
def Best (ns : List Int) (old : List Value) : Prop := (ns = [] ∧ old = []) ∨ ∃ M t, old = [.int M t, .int M t] ∧ M ∈ ns ∧ ∀ a ∈ ns, a ≤ M
def Fin' (ns : List Int) (d v : Value) : Prop := (ns = [] ∧ v = d) ∨ ∃ M t, v = .int M t ∧ M ∈ ns ∧ ∀ a ∈ ns, a ≤ M
theorem best_more {ns : List Int} {i : Nat} {n : Int} {t : Tok} {M : Int} (hn : ns[i]? = some n) (h : M ∈ ns.take i ∧ ∀ a ∈ ns.take i, a ≤ M) :
    (n > M → n ∈ ns.take (i + 1) ∧ ∀ a ∈ ns.take (i + 1), a ≤ n) ∧ (¬ n > M → M ∈ ns.take (i + 1) ∧ ∀ a ∈ ns.take (i + 1), a ≤ M) := by
  have e : ns.take (i + 1) = ns.take i ++ [n] := by
    rw [List.take_add_one, hn]; rfl
  rw [e]
  refine ⟨fun g => ⟨by simp, fun a ha => ?_⟩, fun g => ⟨by simp [h.1], fun a ha => ?_⟩⟩
  · rcases List.mem_append.mp ha with hb | hb
    · have := h.2 a hb; omega
    · have : a = n := by simpa using hb
      omega
  · rcases List.mem_append.mp ha with hb | hb
    · exact h.2 a hb
    · have : a = n := by simpa using hb
      omega
theorem argsOk_maxD (a v : Value) : argsOk "max" ⟨[a], [(Str.ofString "default", v)]⟩ := by unfold argsOk; kernel_rfl
theorem loop_name : (toString "max" ++ toString ".loop" : String) = "max.loop" := rfl
section
variable {prog : Program} {w : World} {A : Around} {s : Shared} {E : Value → Shared → Prop}
theorem loop_head {R : Result → Shared → Prop} {args : Args} (h : wpAny (model prog w) A.in1 (Builtin.«max.loop» args) (fun fin s' => match fin with
      | .done f => R (.ok f) s'
      | .again c => c.quiet = true ∧ codeAny (model prog w) A c R s') (fun e s' => R (.error e) s') s) : codeAny (model prog w) A (.builtin "max.loop" args) R s := by
  refine codeAny_builtin F.entry_max_loop (by rw [Around.under_plainId F.plain_max_loop _]; exact h)
theorem maxD_loop {R : Result → Shared → Prop} {vs : List Value} {ns : List Int} {l I S : Addr} {d : Value} (hh : A.handled = none) (hi : IntsAre vs ns) (hlI : l ≠ I) (hSI : S ≠ I) (hSl : S ≠ l) :
    ∀ (k i : Nat) (h : Heap) (tk : Nat) (old : List Value) (c : Nat), vs.length - i = k → i ≤ vs.length → h.IsListIter I l i → h.IsList l vs.toArray → Best (ns.take i) old →
      h.get? S = some { cls := .type "list", dict := none, data := .seq old.toArray c, slots := #[] } →
      (∀ v h' tk', Fin' ns d v → (∀ b o, b ≠ S → b ≠ I → h.get? b = some o → h'.get? b = some o) → R (.ok (.ret v)) { s with heap := h', toks := tk' }) →
      codeAny (model prog w) A (.builtin "max.loop" ⟨[.ref I, .none, .ref S], [(Str.ofString "default", d)]⟩) R { s with heap := h, toks := tk } := by
  have W := Walks.list (A := A.in1) (w := w) (prog := prog) hh I l hlI vs.toArray
  have size : vs.toArray.size = vs.length := List.size_toArray
  have hln := hi.length
  intro k
  induction k with
  | zero =>
    intro i h tk old c hk hil hit hl hb hS hR
    have e : i = vs.length := by omega
    subst e
    rw [List.take_of_length_le (by omega)] at hb
    refine loop_head ?_
    refine wpAny_bind (m := seqItems? (.ref S)) (wpAny_seqItems hS rfl (wpAny_bind (m := tryCatch (pyNext (.ref I)) _) ?_))
    refine wpAny_tryCatch (W.done _ _ _ ⟨by rw [size]; exact hit, hl⟩ fun h' tk' hk' => ?_)
    have keep : ∀ b o, b ≠ S → b ≠ I → h.get? b = some o → h'.get? b = some o := fun b o _ hb e => hk' b o (by simpa using hb) e
    have hS' := hk' S _ (by simpa using hSI) hS
    rcases hb with ⟨e1, rfl⟩ | ⟨M, t, rfl, hM⟩
    · refine wpAny_bind (m := rule _) (wpAny_rule (wpAny_pure ?_))
      exact hR d _ _ (.inl ⟨e1, rfl⟩) keep
    · show wpAny _ A.in1 (updateSeq S (fun _ => #[]) >>= _) _ _ _
      refine wpAny_bind (wpAny_updateSeq hS' rfl (wpAny_bind (wpAny_letGo (wpAny_pure ?_))))
      exact hR _ _ _ (.inr ⟨M, t, rfl, hM⟩) fun b o h1 h2 e => (Heap.get?_update_other _ _ (Ne.symm h1)).trans (keep b o h1 h2 e)
  | succ k ih =>
    intro i h tk old c hk hil hit hl hb hS hR
    have hlt : i < vs.length := by omega
    obtain ⟨n, t, hn, ht⟩ : ∃ n t, ns[i]? = some n ∧ vs[i]? = some (.int n t) := by
      have hn := List.getElem?_eq_getElem (l := ns) (i := i) (by omega)
      exact ⟨_, _, hn, (hi.get i _ hn).choose_spec⟩
    refine loop_head ?_
    refine wpAny_bind (m := seqItems? (.ref S)) (wpAny_seqItems hS rfl (wpAny_bind (m := tryCatch (pyNext (.ref I)) _) ?_))
    refine wpAny_tryCatch (W.item i _ _ _ (by rw [size]; exact hlt) ⟨hit, hl⟩ fun v h' tk' hP hst' hk' => ?_)
    cases ht.symm.trans (show vs[i]? = some v by simpa using hP)
    have keep : ∀ b o, b ≠ S → b ≠ I → h.get? b = some o → h'.get? b = some o := fun b o _ hb e => hk' b o (by simpa using hb) e
    have hS' := hk' S _ (by simpa using hSI) hS
    -- the next turn, S holding the number twice
    have put : ∀ (old : Array Value) (c : Nat) (tk2 : Nat), h'.get? S = some { cls := .type "list", dict := none, data := .seq old c, slots := #[] } → (n ∈ ns.take (i + 1) ∧ ∀ a ∈ ns.take (i + 1), a ≤ n) →
        codeAny (model prog w) A (.builtin "max.loop" ⟨[.ref I, .none, .ref S], [(Str.ofString "default", d)]⟩) R { s with heap := h'.update S (Obj.mapSeq fun _ => #[.int n t, .int n t]), toks := tk2 } := fun old c tk2 hS2 hn2 => by
      refine ih (i + 1) _ _ [.int n t, .int n t] _ (by omega) hlt (hst'.1.at fun o e => (Heap.get?_update_other _ _ hSI).trans e) (hst'.2.at fun o e => (Heap.get?_update_other _ _ hSl).trans e) (.inr ⟨n, t, rfl, hn2⟩) (Heap.get?_update_self _ hS2 rfl) fun v' h'' tk'' hf hk2 => ?_
      exact hR v' h'' tk'' hf fun b o h1 h2 e => hk2 b o h1 h2 ((Heap.get?_update_other _ _ (Ne.symm h1)).trans (keep b o h1 h2 e))
    rcases hb with ⟨e1, rfl⟩ | ⟨M, tM, rfl, hM⟩
    · show wpAny _ A.in1 (updateSeq S (fun _ => #[.int n t, .int n t]) >>= _) _ _ _
      rw [loop_name]
      refine wpAny_bind (wpAny_updateSeq hS' rfl (wpAny_pure ⟨plainId_quiet PySem.F.plain_max_loop _, put _ _ _ hS' ?_⟩))
      have e : ns.take (i + 1) = [n] := by rw [List.take_add_one, e1, hn]; rfl
      rw [e]
      exact ⟨by simp, fun a ha => by have : a = n := by simpa using ha
                                     omega⟩
    · obtain ⟨b1, b2⟩ := best_more (t := t) hn hM
      show wpAny _ A.in1 (tryCatch (holding [.int n t, .int n t] (richCompare .Gt (.int n t) (.int M tM) >>= _)) _ >>= _) _ _ _
      refine wpAny_bind (wpAny_tryCatch (wpAny_holding (wpAny_bind (CmpOf.ints_gt (prog := prog) (w := w) (A := A.in1) (P := fun (j : Nat) v => ∃ t, v = .int (if j = 0 then n else M) t) (fun j => if j = 0 then n else M) (fun i v h => h) 0 1 _ _ _ _ _ ⟨t, rfl⟩ ⟨tM, rfl⟩ ?_))))
      refine wpAny_bind (wpAny_holding (wpAny_truthy_bool (wpAny_bind (wpAny_letGo (wpAny_pure ?_)))))
      show wpAny _ A.in1 (if decide (n > M) = true then _ else _) _ _ _
      by_cases hg : n > M
      · rw [if_pos (decide_eq_true hg)]
        refine wpAny_bind (wpAny_updateSeq hS' rfl (wpAny_bind (wpAny_letGo ?_)))
        rw [loop_name]
        exact wpAny_pure ⟨plainId_quiet PySem.F.plain_max_loop _, put _ _ _ hS' (b1 hg)⟩
      · rw [if_neg (by simpa using hg), loop_name]
        refine wpAny_bind (wpAny_letGo ?_) -- nothing is kept
        refine wpAny_pure ⟨plainId_quiet PySem.F.plain_max_loop _, ih (i + 1) _ _ _ _ (by omega) hlt hst'.1 hst'.2 (.inr ⟨M, tM, rfl, b2 hg⟩) hS' fun v' h'' tk'' hf hk2 => ?_⟩
        exact hR v' h'' tk'' hf fun b o h1 h2 e => hk2 b o h1 h2 (keep b o h1 h2 e)
theorem maxD_raw {Q : Value → Shared → Prop} {l : Addr} {vs : List Value} {ns : List Int} {d : Value} (hh : A.handled = none) (hl : s.heap.IsList l vs.toArray) (hi : IntsAre vs ns)
    (hQ : ∀ v h' tk, Fin' ns d v → (∀ b o, s.heap.get? b = some o → h'.get? b = some o) → Q v { s with heap := h', toks := tk }) :
    wpAny (model prog w) A (call (.builtin "max") [.ref l] [(Str.ofString "default", d)]) Q E s := by
  obtain ⟨ol, hol, _⟩ := id hl
  have below : l < s.heap.objs.size := Heap.lt_size hol
  refine kmk_tree PySem.F.kind_max PySem.F.plain_max PySem.F.entry_max (argsOk_maxD _ _) ?_
  show wpAny _ A.in1 (Builtin.Builtins.bindParams "max" ["key", "default"] 0 ⟨[], [(Str.ofString "default", d)]⟩ >>= _) _ _ s
  refine wpAny_bind (wpAny_of_eq (show Builtin.Builtins.bindParams "max" ["key", "default"] 0 ⟨[], [(Str.ofString "default", d)]⟩ = pure [none, some d] from rfl) ?_)
  refine wpAny_bind (wpAny_pure (wpAny_bind (wpAny_pyIter_list hl (wpAny_bind (wpAny_newList ?_ (Nat.zero_le _))))))
  rw [loop_name]
  have hS : (s.heap.push { cls := .type "list_iterator", data := .fields #[.ref l, .int 0 0] }).objs.size = s.heap.objs.size + 1 := Heap.size_push ..
  refine wpAny_pure ⟨plainId_quiet F.plain_max_loop _, ?_⟩
  refine maxD_loop (d := d) (l := l) (I := s.heap.objs.size) (S := (s.heap.push { cls := .type "list_iterator", data := .fields #[.ref l, .int 0 0] }).objs.size) hh hi (Nat.ne_of_lt below) (by rw [hS]; exact Nat.ne_of_gt (Nat.lt_succ_self _)) (by rw [hS]; exact Nat.ne_of_gt (Nat.lt_succ_of_lt below)) _ 0 _ _ [] 0 rfl (Nat.zero_le _)
    ⟨_, Heap.get?_push_of_some _ (Heap.get?_push_size _ rfl), rfl, rfl⟩ ((hl.push _).push _) (.inl ⟨rfl, rfl⟩) (Heap.get?_push_size _ rfl) fun v h' tk' hf hk => ?_
  exact hQ v h' tk' hf fun b o e => hk b o (by rw [hS]; exact Nat.ne_of_lt (Nat.lt_succ_of_lt (Heap.lt_size e))) (Nat.ne_of_lt (Heap.lt_size e)) (Heap.get?_push_of_some _ (Heap.get?_push_of_some _ e))
end
end Wf
end
section
set_option Elab.async false
set_option linter.all false
set_option maxRecDepth 100000
set_option maxHeartbeats 2000000
namespace Wf
open PySem PySem.Spec PyProof.Rows L2
/-! ### max(xs, default = d), by values -/
def tMaxD (K : PySem.W.Frag) (t tk : TA) : TE := fun σ H Q => t σ H fun vs H1 => tk σ H1 fun zs H2 => ∃ (a : Addr) (ns : List Int) (d : Int), vs = [.ref a] ∧ zs = [.int d] ∧ SqL K H2 a (ns.map V.int) ∧ (ns = [] → Q (.int d) H2) ∧ ∀ m, m ∈ ns → (∀ y, y ∈ ns → y ≤ m) → Q (.int m) H2
theorem pe_maxD {X : Cx} {e d : Expr} {t : TA} {td : TE} {p pos kpos : Pos} (hc : X.calm = true) (hg : Gl X "max") (hm : X.mg "max" = none) (ha : PA X [e] t) (hd : PE X d td)
    (he : backTo pos (starEach [e] X.env) = (false, eval e X.env) :: backTo pos (starEach [] X.env) := by rfl) (hpl : (backTo pos (starEach [e] X.env)).any (·.1) = false := by rfl) :
    PE X (.Call (.Name "max" p) [e] [⟨some "default", d, kpos⟩] pos) (tMaxD X.K t (tCons td tNil)) := by
  intro pins s σ H Q I h
  refine wpAny_Call_Name_kw (ld_blt I hg hm boot_max ?_ (by decide) (by decide))
  refine callWith_kw (thn (ha pos pins s σ H _ I h) fun us s1 ⟨vs, H1, I1, r1, q1⟩ => ?_) he hpl rfl rfl
  refine thn (pk_cons (nm := some "default") (kpos := kpos) hd pk_nil pos pins s1 σ H1 _ I1 q1) fun ws s2 ⟨zs, H2, I2, rz, q2⟩ => ?_
  obtain ⟨a, ns, dv, rfl, rfl, hs, q3, q4⟩ := q2
  rw [Vals.ref1 r1]
  obtain ⟨u, rfl, td, rfl⟩ := vals1 rz
  obtain ⟨its, rv, hl, _⟩ := I2.list hs
  show wpAny _ _ (call (.builtin "max") [.ref a] [(Str.ofString "default", .int dv td)]) _ _ _
  refine maxD_raw (I2.ok.hd hc) hl.isList rv.ints fun v h' tk hf hk => ?_
  rcases hf with ⟨e, rfl⟩ | ⟨M, t, rfl, h1, h2⟩
  · exact ⟨.int dv, H2, I2.kept hk, ⟨_, rfl⟩, q3 e⟩
  · exact ⟨.int M, H2, I2.kept hk, ⟨_, rfl⟩, q4 M h1 h2⟩
end Wf
end
section
set_option Elab.async false
set_option linter.all false
set_option maxRecDepth 100000
set_option maxHeartbeats 2000000
namespace Wf
open PySem PySem.Spec PyProof.Rows L2
/-! ### the text by places -/
def top (i : Nat) : Stmt := PySem.Challenge.pw_wordforms_s03_pl_same.main.body.getD i (.Pass ⟨0, 0, 0, 0⟩)
abbrev sRun : Stmt := top 27
abbrev sSize : Stmt := top 28
abbrev sToks : Stmt := top 29
abbrev sIsW : Stmt := top 30
abbrev sIsN : Stmt := top 31
abbrev sNum : Stmt := top 32
abbrev sPart : Stmt := top 33
abbrev sParts : Stmt := top 34
abbrev sRange : Stmt := top 35
abbrev sOne : Stmt := top 36
abbrev sBoth : Stmt := top 37
abbrev sEither : Stmt := top 38
abbrev sForm : Stmt := top 39
abbrev sRule : Stmt := top 40
abbrev sOnes : Stmt := top 41
abbrev sRanges : Stmt := top 42
abbrev sDivs : Stmt := top 43
abbrev sWords : Stmt := top 44
abbrev sGcd : Stmt := top 45
abbrev sLcm : Stmt := top 46
abbrev sJudged : Stmt := top 47
abbrev sRead : Stmt := top 48
abbrev sIn : Stmt := top 49
abbrev sOneH : Stmt := top 50
abbrev sBothH : Stmt := top 51
abbrev sEitherH : Stmt := top 52
abbrev sFormOf : Stmt := top 53
abbrev sFormC : Stmt := top 0
abbrev sSettled : Stmt := top 54
abbrev sFirst : Stmt := top 55
abbrev sSameC : Stmt := top 56
structure Txt (K : PySem.W.Frag) (mg : Str → Option Value) : Prop where
  len : mg "len" = none
  tup : mg "tuple" = none
  any : mg "any" = none
  all : mg "all" = none
  list : mg "list" = none
  max : mg "max" = none
  range : mg "range" = none
  mostBytes : GI mg "MOST_BYTES" 2048
  mostLetters : GI mg "MOST_LETTERS" 16
  mostDigits : GI mg "MOST_DIGITS" 4
  mostForms : GI mg "MOST_FORMS" 8
  mostRanges : GI mg "MOST_RANGES" 64
  mostMultiple : GI mg "MOST_MULTIPLE" 10000
  wrong : GI mg "WRONG" (-22)
  tooMuch : GI mg "TOO_MUCH" (-28)
  noRule : GI mg "NO_RULE" (-71)
  newline : GI mg "NEWLINE" 10
  space : GI mg "SPACE" 32
  digit0 : GI mg "DIGIT_0" 48
  digit9 : GI mg "DIGIT_9" 57
  letterA : GI mg "LETTER_A" 97
  letterZ : GI mg "LETTER_Z" 122
  colon : GT K mg "COLON" [58]
  semicolon : GT K mg "SEMICOLON" [59]
  comma : GT K mg "COMMA" [44]
  dots : GT K mg "DOTS" [46, 46]
  equal : GT K mg "EQUAL" [61]
  unequal : GT K mg "UNEQUAL" [33, 61]
  percent : GT K mg "PERCENT" [37]
  wordN : GT K mg "WORD_N" [110]
  wordOr : GT K mg "WORD_OR" [111, 114]
  wordAnd : GT K mg "WORD_AND" [97, 110, 100]
  wordOther : GT K mg "WORD_OTHER" [111, 116, 104, 101, 114]
/-- a def of the text that keeps a promise -/
def Callee (P : Program) (w : World) (K : PySem.W.Frag) (mg : Str → Option Value) (base : Heap) (x : Str) (k : Nat) (ps : List Str) (sp : Sp) : Prop :=
  ∃ f fd, FnOk P w K mg base CX0 k f fd ps sp ∧ mg x = some (.ref f) ∧ PySem.W.keepIn K (.ref f) = true ∧ Binds K fd ps []
/-- a def of the text -/
structure DefAt (K : PySem.W.Frag) (mg : Str → Option Value) (x : Str) (st : Stmt) (ps : List Str) : Prop where
  ex : ∃ f fd, Fun K x x st f fd ∧ mg x = some (.ref f) ∧ Binds K fd ps []
section
variable {P : Program} {w : World} {K : PySem.W.Frag} {mg : Str → Option Value} {base : Heap}
theorem DefAt.ok {x : Str} {st : Stmt} {N ps : List Str} {k : Nat} {sp : Sp} (D : DefAt K mg x st ps) (S : FnScope N ps (defScope st)) (len : ∀ vs H Q E, sp vs H Q E → vs.length = ps.length)
    (hbody : ∀ (f : Addr) (cdv : Value) (A : Around) (outer : List Env) (s : Shared) (H : Hp) (vs : List V) (Q : VK) (E : XK), Room k (A.deeper (envOfC x (defScope st) s.heap.objs.size f cdv)) → sp vs H Q E →
      ∃ t, PSs (cxOf CX0 P w K mg base N x (defScope st) f cdv A outer s H E).nox (defBody st) t ∧ t { nx := fun _ H' => Q .non H', rt := Q } (start N vs) H) : Callee P w K mg base x (k + 1) ps sp := by
  obtain ⟨f, fd, F, hm, hb⟩ := D.ex
  exact ⟨f, fd, F.ok S len (hbody f), hm, F.kp, hb⟩
theorem pe_fn {X : Cx} {x : Str} {k : Nat} {ps : List Str} {sp : Sp} {p pos : Pos} {e : Expr} {es : List Expr} {t : TA} (C : Callee X.prog X.w X.K X.mg X.base x k ps sp) (hr : Room k X.A) (hg : Gl X x) (ha : PA X (e :: es) t)
    (hdb : (x == ("__debug__" : Str)) = false := by decide) (he : starEach (e :: es) X.env = (false, eval e X.env) :: starEach es X.env := by rfl) (hpl : (backTo pos (starEach es X.env)).any (·.1) = false := by rfl) :
    PE X (.Call (.Name x p) (e :: es) [] pos) (tCall sp [] E0 t) := by
  obtain ⟨f, fd, F, hm, hk, hb⟩ := C
  exact pe_call F hr hg hm hk hb .nil pass0 ha hdb he hpl
/-- len of a list or a tuple -/
theorem pe_len {X : Cx} {e : Expr} {te : TE} {p pos : Pos} (hm : X.mg "len" = none) (hg : Gl X "len") (he : PE X e te) (h1 : starEach [e] X.env = [(false, eval e X.env)] := by rfl) :
    PE X (.Call (.Name "len" p) [e] [] pos) (tCB (fun xs H Q => ∃ p ys, xs = [.ref p] ∧ (SqL X.K H p ys ∨ SqT X.K H p ys) ∧ Q (.int ys.length) H) (tCons te tNil)) :=
  pe_callB call_len_seq hg hm PySem.boot_len (pa_cons he pa_nil h1) (by decide) (by decide) h1 rfl
/-! ### run_size -/
def spRun (K : PySem.W.Frag) : Sp := fun vs H Q _ => ∃ (a : Addr) (t : List Nat) (s lo hi : Nat), vs = [.ref a, .int (s : Int), .int (lo : Int), .int (hi : Int)] ∧ SqL K H a (vB t) ∧ Q (.int (run (fun c => decide (lo ≤ c) && decide (c ≤ hi)) (t.drop s) : Nat)) H
theorem scRun : FnScope ["t", "start", "low", "high", "end"] ["t", "start", "low", "high"] (defScope sRun) := ⟨rfl, rfl, rfl, by decide +kernel, rfl, by decide +kernel, by decide +kernel⟩
theorem run_nil (p : Nat → Bool) : run p [] = 0 := rfl
theorem ok_run (D : DefAt K mg "run_size" sRun ["t", "start", "low", "high"]) (T : Txt K mg) : Callee P w K mg base "run_size" 1 ["t", "start", "low", "high"] (spRun K) := by
  refine D.ok scRun (fun vs H Q E h => ?_) (fun f cdv A outer s H vs Q E hr h => ?_)
  · obtain ⟨a, t, s, lo, hi, rfl, _⟩ := h
    rfl
  · obtain ⟨a, t, s, lo, hi, rfl, hS, k⟩ := h
    refine ⟨_, pss_cons (ps_set (i := 4) scRun.nd rfl (Or.inl rfl) (pv 1))
      (pss_cons (ps_while PassesOwn.never (PW.pt (pw_and (pt_cmpR op_lt (pv 4) (pe_len T.len rfl (pv 0)) (nomark _)) (pw_and1 (pt_chain op_le op_le (pv 2) (pe_ix ix_list (pv 0) (pv 4) (fun _ _ => rfl)) (pv 3)))))
        (pss_one (ps_aug (i := 4) scRun.nd rfl (Or.inl rfl) pe_int ip_add)))
      (pss_one (ps_ret (pe_op op_sub (pv 4) (pv 1))))), ?_⟩
    refine ⟨_, rfl, ?_⟩
    refine ⟨fun m σ H' => ∃ j : Nat, m = t.length - (s + j) ∧ σ = [some (.ref a), some (.int (s : Int)), some (.int (lo : Int)), some (.int (hi : Int)), some (.int ((s + j : Nat) : Int))] ∧ H' = H ∧
      run (fun c => decide (lo ≤ c) && decide (c ≤ hi)) (t.drop s) = j + run (fun c => decide (lo ≤ c) && decide (c ≤ hi)) (t.drop (s + j)), ⟨_, 0, rfl, rfl, rfl, by simp⟩, ?_⟩
    rintro m σ H' ⟨j, rfl, rfl, rfl, hj⟩
    have fin : run (fun c => decide (lo ≤ c) && decide (c ≤ hi)) (t.drop (s + j)) = 0 → Q (.int (((s + j : Nat) : Int) - (s : Int))) H' := fun h0 => by
      have e : ((s + j : Nat) : Int) - (s : Int) = (run (fun c => decide (lo ≤ c) && decide (c ≤ hi)) (t.drop s) : Nat) := by rw [hj, h0]; omega
      rw [e]; exact k
    refine ⟨_, rfl, _, rfl, a, _, rfl, .inl hS, _, _, rfl, rfl, _, rfl, ?_⟩
    have hv := vB_len t
    by_cases hlt : s + j < t.length
    · refine iteDp (by omega) ?_
      obtain ⟨c, hc⟩ : ∃ c, t[s + j]? = some c := ⟨_, List.getElem?_eq_getElem hlt⟩
      have hd := drop_at hc
      refine ⟨_, rfl, _, rfl, _, rfl, a, _, _, _, rfl, rfl, hS, atI_nat (vB_get hc), _, _, rfl, rfl, _, rfl, ?_⟩
      by_cases h1 : lo ≤ c
      · refine iteDp (by omega) ?_
        refine ⟨_, rfl, _, _, rfl, rfl, _, rfl, ?_⟩
        by_cases h2 : c ≤ hi
        · refine iteDp (by omega) ?_
          refine ⟨fun σ' H'' => ∃ m', m' < t.length - (s + j) ∧ ∃ j : Nat, m' = t.length - (s + j) ∧ σ' = [some (.ref a), some (.int (s : Int)), some (.int (lo : Int)), some (.int (hi : Int)), some (.int ((s + j : Nat) : Int))] ∧ H'' = H' ∧
            run (fun c => decide (lo ≤ c) && decide (c ≤ hi)) (t.drop s) = j + run (fun c => decide (lo ≤ c) && decide (c ≤ hi)) (t.drop (s + j)), fun _ _ h => h, ?_⟩
          refine ⟨_, rfl, _, _, rfl, rfl, t.length - (s + (j + 1)), by omega, j + 1, rfl, rfl, rfl, ?_⟩
          rw [hj, hd, run_pos (by simp [h1, h2])]
          show j + (run _ (t.drop (s + j + 1)) + 1) = j + 1 + run _ (t.drop (s + (j + 1)))
          rw [Nat.add_assoc s j 1]; omega
        · refine iteDn (by omega) ?_
          refine ⟨_, rfl, _, rfl, _, _, rfl, rfl, fin ?_⟩
          rw [hd, run_neg (by simp; omega)]
      · refine iteDn (by omega) ?_
        refine ⟨_, rfl, ?_⟩
        refine iteF ?_
        refine ⟨_, rfl, _, rfl, _, _, rfl, rfl, fin ?_⟩
        rw [hd, run_neg (by simp; omega)]
    · refine iteDn (by omega) (iteF ?_)
      refine ⟨_, rfl, _, rfl, _, _, rfl, rfl, fin ?_⟩
      rw [List.drop_eq_nil_of_le (by omega)]; rfl
end
end Wf
end
section
set_option Elab.async false
set_option linter.all false
set_option maxRecDepth 100000
set_option maxHeartbeats 2000000
namespace Wf
open PySem PySem.Spec PyProof.Rows L2
section
variable {P : Program} {w : World} {K : PySem.W.Frag} {mg : Str → Option Value} {base : Heap}
/-! ### is_word, is_number -/
def spIs (K : PySem.W.Frag) (p : Nat → Bool) : Sp := fun vs H Q _ => ∃ (v : V) (b : Tk), vs = [v] ∧ TkAt K H v b ∧ b ≠ [] ∧ Q (.bl (p (b.headD 0))) H
theorem scIsW : FnScope ["token"] ["token"] (defScope sIsW) := ⟨rfl, rfl, rfl, by decide +kernel, rfl, by decide +kernel, by decide +kernel⟩
theorem scIsN : FnScope ["token"] ["token"] (defScope sIsN) := ⟨rfl, rfl, rfl, by decide +kernel, rfl, by decide +kernel, by decide +kernel⟩
theorem ok_isW (D : DefAt K mg "is_word" sIsW ["token"]) (T : Txt K mg) : Callee P w K mg base "is_word" 1 ["token"] (spIs K Kp181.small) := by
  refine D.ok scIsW (fun vs H Q E h => ?_) (fun f cdv A outer s H vs Q E hr h => ?_)
  · obtain ⟨v, b, rfl, _⟩ := h
    rfl
  · obtain ⟨v, b, rfl, ⟨a, rfl, ha⟩, hb, k⟩ := h
    obtain ⟨c, r, rfl⟩ := List.exists_cons_of_ne_nil hb
    refine ⟨_, pss_one (ps_ret (pe_chain op_le op_le (pe_gi T.letterA rfl) (pe_ix ix_tup (pv 0) pe_int (fun _ _ => rfl)) (pe_gi T.letterZ rfl))), ?_⟩
    refine ⟨_, rfl, a, _, _, _, rfl, rfl, ha, atI_nat (j := 0) (vB_get (i := 0) (c := c) rfl), _, _, rfl, rfl, _, rfl, ?_⟩
    have k : Q (.bl (Kp181.small c)) H := k
    by_cases h1 : 97 ≤ c
    · refine iteDp (by omega) ?_
      refine ⟨_, _, rfl, rfl, ?_⟩
      have e : Kp181.small c = decide ((c : Int) ≤ 122) := by
        unfold Kp181.small
        rw [decide_eq_true h1, Bool.true_and]
        exact decide_eq_decide.mpr (by omega)
      rw [e] at k
      exact k
    · refine iteDn (by omega) ?_
      have e : Kp181.small c = false := by
        unfold Kp181.small
        rw [decide_eq_false h1, Bool.false_and]
      rw [e] at k
      exact k
theorem ok_isN (D : DefAt K mg "is_number" sIsN ["token"]) (T : Txt K mg) : Callee P w K mg base "is_number" 1 ["token"] (spIs K Kp181.digit) := by
  refine D.ok scIsN (fun vs H Q E h => ?_) (fun f cdv A outer s H vs Q E hr h => ?_)
  · obtain ⟨v, b, rfl, _⟩ := h
    rfl
  · obtain ⟨v, b, rfl, ⟨a, rfl, ha⟩, hb, k⟩ := h
    obtain ⟨c, r, rfl⟩ := List.exists_cons_of_ne_nil hb
    refine ⟨_, pss_one (ps_ret (pe_chain op_le op_le (pe_gi T.digit0 rfl) (pe_ix ix_tup (pv 0) pe_int (fun _ _ => rfl)) (pe_gi T.digit9 rfl))), ?_⟩
    refine ⟨_, rfl, a, _, _, _, rfl, rfl, ha, atI_nat (j := 0) (vB_get (i := 0) (c := c) rfl), _, _, rfl, rfl, _, rfl, ?_⟩
    have k : Q (.bl (Kp181.digit c)) H := k
    by_cases h1 : 48 ≤ c
    · refine iteDp (by omega) ?_
      refine ⟨_, _, rfl, rfl, ?_⟩
      have e : Kp181.digit c = decide ((c : Int) ≤ 57) := by
        unfold Kp181.digit
        rw [decide_eq_true h1, Bool.true_and]
        exact decide_eq_decide.mpr (by omega)
      rw [e] at k
      exact k
    · refine iteDn (by omega) ?_
      have e : Kp181.digit c = false := by
        unfold Kp181.digit
        rw [decide_eq_false h1, Bool.false_and]
      rw [e] at k
      exact k
/-! ### number_of -/
def spNum (K : PySem.W.Frag) : Sp := fun vs H Q _ => ∃ (v : V) (b : Tk), vs = [v] ∧ TkAt K H v b ∧ (∀ c ∈ b, Kp181.digit c = true) ∧ Q (.int (Kp181.number b : Nat)) H
theorem scNum : FnScope ["token", "number", "digit"] ["token"] (defScope sNum) := ⟨rfl, rfl, rfl, by decide +kernel, rfl, by decide +kernel, by decide +kernel⟩
theorem ok_num (D : DefAt K mg "number_of" sNum ["token"]) (T : Txt K mg) : Callee P w K mg base "number_of" 1 ["token"] (spNum K) := by
  refine D.ok scNum (fun vs H Q E h => ?_) (fun f cdv A outer s H vs Q E hr h => ?_)
  · obtain ⟨v, b, rfl, _⟩ := h
    rfl
  · obtain ⟨v, b, rfl, ⟨a, rfl, ha⟩, hb, k⟩ := h
    refine ⟨_, pss_cons (ps_set (i := 1) scNum.nd rfl (Or.inl rfl) pe_int)
      (pss_cons (ps_for PassesOwn.never rfl (pi_tup (pv 0)) (pg_name (i := 2) scNum.nd rfl (Or.inl rfl))
        (pss_one (ps_set (i := 1) scNum.nd rfl (Or.inl rfl) (pe_op op_sub (pe_op op_add (pe_op op_mul (pv 1) pe_int) (pv 2)) (pe_gi T.digit0 rfl)))))
      (pss_one (ps_ret (pv 1)))), ?_⟩
    refine ⟨_, rfl, a, rfl, ⟨_, ha⟩, for_tup (K := K) (a := a) (xs := vB b) (fun i σ H' => ∃ d : Option V, σ = [some (.ref a), some (.int (Kp181.number (b.take i) : Nat)), d] ∧ H' = H)
      ⟨none, rfl, rfl⟩ (fun i σ H' _ ⟨_, _, e⟩ => by rw [e]; exact ha) ?_ ?_⟩
    · rintro i y σ H' hi ⟨d, rfl, rfl⟩
      obtain ⟨c, hc, rfl⟩ := vB_get' hi
      have hd := digit_iff.mp (hb c (List.mem_of_getElem? hc))
      refine ⟨_, rfl, _, _, rfl, rfl, .inr ⟨by decide, by decide⟩, _, rfl, _, _, rfl, rfl, _, _, rfl, rfl, some (.int (c : Int)), ?_, rfl⟩
      have e : ((Kp181.number (b.take i) : Nat) : Int) * 10 + (c : Int) - 48 = (Kp181.number (b.take (i + 1)) : Nat) := by
        rw [take_snoc hc, number_app]; omega
      show [_, some (V.int (((Kp181.number (b.take i) : Nat) : Int) * 10 + (c : Int) - 48)), _] = _
      rw [e]
    · rintro σ H' ⟨d, rfl, rfl⟩
      rw [vB_len, List.take_length]
      exact ⟨_, rfl, k⟩
end
end Wf
end
section
set_option Elab.async false
set_option linter.all false
set_option maxRecDepth 100000
set_option maxHeartbeats 2000000
namespace Wf
open PySem PySem.Spec PyProof.Rows L2
section
variable {P : Program} {w : World} {K : PySem.W.Frag} {mg : Str → Option Value} {base : Heap}
/-! ### token_size -/
theorem cut_nat (t : List Nat) (s k : Nat) : cutV (vB t) (some (s : Int)) (some ((s : Int) + (k : Int))) = vB ((t.drop s).take k) := by
  unfold cutV
  rw [show ((s : Int) + (k : Int)) = ((s + k : Nat) : Int) from rfl, HT.sIx_nat, HT.sIx_nat, vB_len]
  unfold vB
  rw [← List.map_drop, ← List.map_take]
  congr 1
  by_cases h : s ≤ t.length
  · rw [Nat.min_eq_left h]
    by_cases h2 : s + k ≤ t.length
    · rw [Nat.min_eq_left h2, Nat.add_sub_cancel_left]
    · rw [Nat.min_eq_right (by omega), List.take_of_length_le (by simp), List.take_of_length_le (by simp; omega)]
  · rw [Nat.min_eq_right (by omega), Nat.min_eq_right (by omega), List.drop_of_length_le (Nat.le_refl _), List.drop_of_length_le (by omega)]
    simp
theorem find_first {α : Type} {p : α → Bool} : ∀ {l : List α} {i : Nat} {x : α}, l[i]? = some x → p x = true → (∀ y ∈ l.take i, p y = false) → l.find? p = some x
  | [], i, x, h, _, _ => by simp at h
  | a :: l, 0, x, h, hx, _ => by
    have e : a = x := Option.some.inj h
    subst e
    rw [List.find?_cons, hx]
  | a :: l, i + 1, x, h, hx, hn => by
    rw [List.find?_cons, hn a (by simp)]
    exact find_first (l := l) (i := i) h hx (fun y hy => hn y (by simp [hy]))
def spSize (K : PySem.W.Frag) : Sp := fun vs H Q _ => ∃ (a : Addr) (t : List Nat) (s : Nat), vs = [.ref a, .int (s : Int)] ∧ SqL K H a (vB t) ∧ ∀ H', Same H H' → Q (.int (tokSize (t.drop s) : Nat)) H'
theorem scSize : FnScope ["t", "start", "letters", "digits", "mark"] ["t", "start"] (defScope sSize) := ⟨rfl, rfl, rfl, by decide +kernel, rfl, by decide +kernel, by decide +kernel⟩
theorem ok_size (D : DefAt K mg "token_size" sSize ["t", "start"]) (T : Txt K mg) (CR : Callee P w K mg base "run_size" 1 ["t", "start", "low", "high"] (spRun K)) : Callee P w K mg base "token_size" 2 ["t", "start"] (spSize K) := by
  refine D.ok scSize (fun vs H Q E h => ?_) (fun f cdv A outer s H vs Q E hr h => ?_)
  · obtain ⟨a, t, s, rfl, _⟩ := h
    rfl
  · obtain ⟨a, t, n, rfl, hS, k⟩ := h
    refine ⟨_, pss_cons (ps_set (i := 2) scSize.nd rfl (Or.inl rfl) (pe_fn CR hr rfl (pa_cons (pv 0) (pa_cons (pv 1) (pa_cons (pe_gi T.letterA rfl) (pa_cons (pe_gi T.letterZ rfl) pa_nil))))))
      (pss_cons (ps_set (i := 3) scSize.nd rfl (Or.inl rfl) (pe_fn CR hr rfl (pa_cons (pv 0) (pa_cons (pv 1) (pa_cons (pe_gi T.digit0 rfl) (pa_cons (pe_gi T.digit9 rfl) pa_nil))))))
      (pss_cons (ps_if (PW.pt (pw_or (pt_cmpR op_gt (pv 2) (pe_gi T.mostLetters rfl) (nomark _)) (pw_or1 (pt_cmpR op_gt (pv 3) (pe_gi T.mostDigits rfl) (nomark _))))) (pss_one (ps_ret pe_int)) pss_nil)
      (pss_cons (ps_for PassesOwn.never rfl (pi_tup (pe_tup (pa_cons (pe_gt T.colon rfl) (pa_cons (pe_gt T.semicolon rfl) (pa_cons (pe_gt T.comma rfl) (pa_cons (pe_gt T.dots rfl) (pa_cons (pe_gt T.equal rfl) (pa_cons (pe_gt T.unequal rfl) (pa_cons (pe_gt T.percent rfl) pa_nil))))))))) (pg_name (i := 4) scSize.nd rfl (Or.inl rfl))
        (pss_one (ps_if (pt_cmpR (op_eqT hr.units) (pe_callTy call_tuple_of rfl T.tup boot_tuple (pa_cons (pe_slice sl_list (pv 0) (po_some (pv 1)) (po_some (pe_op op_add (pv 1) (pe_len T.len rfl (pv 4))))) pa_nil)) (pv 4) (nomark _)) (pss_one (ps_ret (pe_len T.len rfl (pv 4)))) pss_nil)))
      (pss_one (ps_ret (pe_op op_add (pv 2) (pv 3))))))), ?_⟩
    refine ⟨_, rfl, _, rfl, a, t, n, 97, 122, rfl, hS, ?_⟩
    refine ⟨_, rfl, _, rfl, a, t, n, 48, 57, rfl, hS, ?_⟩
    have eS : run (fun c => decide (97 ≤ c) && decide (c ≤ 122)) (t.drop n) = run Kp181.small (t.drop n) := rfl
    have eD : run (fun c => decide (48 ≤ c) && decide (c ≤ 57)) (t.drop n) = run Kp181.digit (t.drop n) := rfl
    rw [eS, eD]
    refine ⟨_, rfl, _, _, rfl, rfl, _, rfl, ?_⟩
    have big : 16 < run Kp181.small (t.drop n) ∨ 4 < run Kp181.digit (t.drop n) → Q (.int 0) H := fun hb => by
      have e : tokSize (t.drop n) = 0 := by unfold tokSize; rw [if_pos hb]
      have k := k H (Same.refl H)
      rw [e] at k
      exact k
    by_cases h1 : 16 < run Kp181.small (t.drop n)
    · refine iteDp (by omega) (iteT ?_)
      exact big (.inl h1)
    · refine iteDn (by omega) ?_
      refine ⟨_, rfl, _, _, rfl, rfl, _, rfl, ?_⟩
      by_cases h2 : 4 < run Kp181.digit (t.drop n)
      · refine iteDp (by omega) ?_
        exact big (.inr h2)
      · refine iteDn (by omega) ?_
        have eT : tokSize (t.drop n) = match marks.find? (fun m => (t.drop n).take m.length == m) with
            | some m => m.length
            | none => run Kp181.small (t.drop n) + run Kp181.digit (t.drop n) := by
          unfold tokSize; rw [if_neg (by omega)] <;> rfl
        intro v1 m1 v2 m2 v3 m3 v4 m4 v5 m5 v6 m6 v7 m7
        refine ⟨by show 7 ≤ sizeLine; decide, fun p hp => ?_⟩
        have sp1 : Same H (upd H p (.tup [v1, v2, v3, v4, v5, v6, v7])) := same_new hp
        have get : ∀ (i : Nat) (x : V), [v1, v2, v3, v4, v5, v6, v7][i]? = some x → ∃ m, marks[i]? = some m ∧ ∀ H', TkAt K H' x m := fun i x hx => by
          match i, hx with
          | 0, hx => cases hx; exact ⟨_, rfl, m1⟩
          | 1, hx => cases hx; exact ⟨_, rfl, m2⟩
          | 2, hx => cases hx; exact ⟨_, rfl, m3⟩
          | 3, hx => cases hx; exact ⟨_, rfl, m4⟩
          | 4, hx => cases hx; exact ⟨_, rfl, m5⟩
          | 5, hx => cases hx; exact ⟨_, rfl, m6⟩
          | 6, hx => cases hx; exact ⟨_, rfl, m7⟩
          | _ + 7, hx => simp at hx
        refine ⟨p, rfl, ⟨_, SqT.of upd_same⟩, for_tup (K := K) (a := p) (xs := [v1, v2, v3, v4, v5, v6, v7]) (fun i σ H' => ∃ d : Option V, σ = [some (.ref a), some (.int (n : Int)), some (.int (run Kp181.small (t.drop n) : Nat)), some (.int (run Kp181.digit (t.drop n) : Nat)), d] ∧ Same (upd H p (.tup [v1, v2, v3, v4, v5, v6, v7])) H' ∧ ∀ m ∈ marks.take i, ((t.drop n).take m.length == m) = false)
          ⟨none, rfl, Same.refl _, by simp⟩ (fun i σ H' _ ⟨_, _, e, _⟩ => SqT.of (e _ _ upd_same)) ?_ ?_⟩
        · rintro i x σ H' hi ⟨d, rfl, s1, hm⟩
          obtain ⟨m, hmi, hx⟩ := get i x hi
          have hS' : SqL K H' a (vB t) := (sp1.trans s1).seq hS
          obtain ⟨ma, rfl, hma⟩ := hx H'
          refine ⟨_, rfl, _, rfl, _, rfl, _, rfl, _, rfl, ma, _, rfl, .inr hma, _, _, rfl, rfl, _, rfl, a, _, rfl, hS', fun q hq => ?_⟩
          rw [vB_len, cut_nat]
          refine ⟨q, _, rfl, .inl ⟨SqL.of upd_same, fun u hu => ?_⟩⟩
          have s2 : Same H' (upd (upd H' q (.lst (vB ((t.drop n).take m.length)))) u (.tup (vB ((t.drop n).take m.length)))) := same_upd (same_new hq) ((same_new hq).free hu)
          refine ⟨_, rfl, _, m, ⟨u, rfl, SqT.of upd_same⟩, hx _, _, rfl, ?_⟩
          by_cases he : (t.drop n).take m.length = m
          · refine iteDp he ?_
            obtain ⟨mb, emb, hmb⟩ := hx (upd (upd H' q (.lst (vB ((t.drop n).take m.length)))) u (.tup (vB ((t.drop n).take m.length))))
            refine ⟨_, rfl, mb, _, ?_, .inr hmb, ?_⟩
            · rw [emb]
            · rw [vB_len]
              have k := k _ ((sp1.trans s1).trans s2)
              rw [eT, find_first (p := fun m => (t.drop n).take m.length == m) hmi (by simpa using he) hm] at k
              exact k
          · refine iteDn he ?_
            refine ⟨_, rfl, s1.trans s2, fun y hy => ?_⟩
            rw [take_snoc hmi] at hy
            rcases List.mem_append.mp hy with hy | hy
            · exact hm y hy
            · rw [List.mem_singleton] at hy
              subst hy
              simpa using he
        · rintro σ H' ⟨d, rfl, s1, hm⟩
          refine ⟨_, rfl, _, rfl, _, _, rfl, rfl, ?_⟩
          have k := k _ (sp1.trans s1)
          have hn : marks.find? (fun m => (t.drop n).take m.length == m) = none := by
            rw [List.find?_eq_none]
            intro m hmm
            have := hm m hmm
            simpa using this
          rw [eT, hn] at k
          exact k
end
end Wf
end
section
set_option Elab.async false
set_option linter.all false
set_option maxRecDepth 100000
set_option maxHeartbeats 2000000
namespace Wf
open PySem PySem.Spec PyProof.Rows L2
section
variable {P : Program} {w : World} {K : PySem.W.Frag} {mg : Str → Option Value} {base : Heap}
/-! ### tokens_of -/
def spToks (K : PySem.W.Frag) : Sp := fun vs H Q _ => ∃ (a : Addr) (t : List Nat) (G : Hp), vs = [.ref a] ∧ SqL K H a (vB t) ∧ t.length ≤ 2100 ∧ Same G H ∧ ∀ v H' G', Gr H G G' H' → Is G' v (eOpt eToks (toks t)) → Q v H'
theorem scToks : FnScope ["t", "tokens", "start", "size"] ["t"] (defScope sToks) := ⟨rfl, rfl, rfl, by decide +kernel, rfl, by decide +kernel, by decide +kernel⟩
theorem in_blank (c : Nat) : inV (.int (c : Int)) [.int 32, .int 10] = decide (c = 32 ∨ c = 10) := by
  show (((32 : Int) == (c : Int)) || (((10 : Int) == (c : Int)) || false)) = _
  by_cases h1 : c = 32
  · subst h1; rfl
  · by_cases h2 : c = 10
    · subst h2; rfl
    · have e1 : ((32 : Int) == (c : Int)) = false := beq_eq_false_iff_ne.mpr (by omega)
      have e2 : ((10 : Int) == (c : Int)) = false := beq_eq_false_iff_ne.mpr (by omega)
      rw [e1, e2, decide_eq_false (by omega)]; rfl
theorem drop_drop' {α : Type} (l : List α) (i j : Nat) : (l.drop i).drop j = l.drop (i + j) := by rw [List.drop_drop]
structure TokInv (H G : Hp) (t : List Nat) (a l : Addr) (m : Nat) (σ : L2.St) (H' : Hp) : Prop where
  ex : ∃ (st : Nat) (G1 : Hp) (vs : List V) (acc : List Tk) (sv : Option V), m = t.length - st ∧ σ = [some (.ref a), some (.ref l), some (.int (st : Int)), sv] ∧ st ≤ t.length ∧ Gr H G G1 H' ∧ G1 l = Option.none ∧ H' l = some (.lst vs) ∧ IsAll G1 vs (acc.map eTok) ∧ acc.length ≤ st ∧
      toks t = (toks (t.drop st)).map (fun r => acc ++ r)
theorem ok_toks (D : DefAt K mg "tokens_of" sToks ["t"]) (T : Txt K mg) (CS : Callee P w K mg base "token_size" 2 ["t", "start"] (spSize K)) : Callee P w K mg base "tokens_of" 3 ["t"] (spToks K) := by
  refine D.ok scToks (fun vs H Q E h => ?_) (fun f cdv A outer s H vs Q E hr h => ?_)
  · obtain ⟨a, t, G, rfl, _⟩ := h
    rfl
  · obtain ⟨a, t, G, rfl, hS, hlen, hG, k⟩ := h
    refine ⟨_, pss_cons (ps_set (i := 1) scToks.nd rfl (Or.inl rfl) (pe_lst pa_nil))
      (pss_cons (ps_set (i := 2) scToks.nd rfl (Or.inl rfl) pe_int)
      (pss_cons (ps_while PassesOwn.never (pt_cmpR op_lt (pv 2) (pe_len T.len rfl (pv 0)) (nomark _))
        (pss_one (ps_if (pt_cmpR op_in_seq (pe_ix ix_list (pv 0) (pv 2) (fun _ _ => rfl)) (pe_tup (pa_cons (pe_gi T.space rfl) (pa_cons (pe_gi T.newline rfl) pa_nil))) (by with_unfolding_all rfl))
          (pss_one (ps_aug (i := 2) scToks.nd rfl (Or.inl rfl) pe_int ip_add))
          (pss_cons (ps_set (i := 3) scToks.nd rfl (Or.inl rfl) (pe_fn CS hr rfl (pa_cons (pv 0) (pa_cons (pv 2) pa_nil))))
          (pss_cons (ps_if (pt_cmpR op_eq (pv 3) pe_int (nomark _)) (pss_one (ps_ret pe_non)) pss_nil)
          (pss_cons (ps_expr (pe_bm PySem.F.plainAttrs_list PySem.F.slot_list_append PySem.F.type_list_append mt_append (pv 1) (pa_cons (pe_callTy call_tuple_of rfl T.tup boot_tuple (pa_cons (pe_slice sl_list (pv 0) (po_some (pv 2)) (po_some (pe_op op_add (pv 2) (pv 3)))) pa_nil)) pa_nil)))
          (pss_one (ps_aug (i := 2) scToks.nd rfl (Or.inl rfl) (pv 3) ip_add))))))))
      (pss_one (ps_ret (pv 1))))), ?_⟩
    refine ⟨Nat.zero_le _, fun l hl => ?_⟩
    have hlG : G l = Option.none := hG.free hl
    refine ⟨TokInv H G t a l, ⟨_, ⟨0, G, [], [], none, rfl, rfl, Nat.zero_le _, (Gr.refl hG).lay hl, hlG, upd_same, .nil, Nat.zero_le _, by rw [List.drop_zero]; cases toks t <;> rfl⟩⟩, ?_⟩
    rintro m σ H' ⟨st, G1, us, acc, sv, rfl, rfl, hst, gr, g1, hl1, hA, hacc, hT⟩
    have hS' : SqL K H' a (vB t) := gr.hh.seq hS
    have hv := vB_len t
    refine ⟨_, rfl, _, rfl, a, _, rfl, .inl hS', _, _, rfl, rfl, _, rfl, ?_⟩
    by_cases hlt : st < t.length
    · refine iteDp (by omega) ?_
      obtain ⟨c, hc⟩ : ∃ c, t[st]? = some c := ⟨_, List.getElem?_eq_getElem hlt⟩
      have hd := drop_at hc
      refine ⟨fun σ' H'' => ∃ m', m' < t.length - st ∧ TokInv H G t a l m' σ' H'', fun _ _ h => h, ?_⟩
      refine ⟨_, rfl, _, rfl, a, _, _, _, rfl, rfl, hS', atI_nat (vB_get hc), ?_⟩
      refine ⟨by show 2 ≤ sizeLine; decide, fun p hp => ?_⟩
      have gr2 : Gr H G G1 (upd H' p (.tup [.int 32, .int 10])) := gr.lay hp
      have hl2 : (upd H' p (.tup [.int 32, .int 10])) l = some (.lst us) := by rw [upd_ne (ne_of_none hl1 hp)]; exact hl1
      have hS2 : SqL K (upd H' p (.tup [.int 32, .int 10])) a (vB t) := gr2.hh.seq hS
      refine ⟨p, _, rfl, .inr (SqT.of upd_same), rfl, rfl, _, rfl, ?_⟩
      show if inV (.int (c : Int)) [.int 32, .int 10] = true then _ else _
      rw [in_blank]
      by_cases hsp : c = 32 ∨ c = 10
      · refine iteDp hsp ?_
        refine ⟨_, rfl, _, _, rfl, rfl, t.length - (st + 1), by omega, ⟨st + 1, G1, us, acc, sv, rfl, rfl, by omega, gr2, g1, hl2, hA, by omega, ?_⟩⟩
        rw [hT, hd, toks_sp hsp]
      · refine iteDn hsp ?_
        refine ⟨_, rfl, _, rfl, a, t, st, rfl, hS2, fun H3 s3 => ?_⟩
        have gr3 : Gr H G G1 H3 := gr2.more s3
        have hl3 : H3 l = some (.lst us) := s3 _ _ hl2
        have hS3 : SqL K H3 a (vB t) := gr3.hh.seq hS
        refine ⟨_, rfl, rfl, _, rfl, ?_⟩
        by_cases h0 : tokSize (t.drop st) = 0
        · refine iteDp (by rw [h0]; rfl) ?_
          have e : toks t = none := by rw [hT, hd, toks_bad hsp (by rw [← hd]; exact h0)]; rfl
          refine k _ _ _ gr3 ?_
          rw [e]
          exact .non
        · refine iteDn (by intro z; injection z with z; omega) ?_
          refine ⟨_, rfl, .inl ⟨rfl, _, SqL.of hl3⟩, ?_⟩
          refine ⟨_, rfl, _, rfl, _, rfl, _, rfl, _, rfl, _, _, rfl, rfl, _, rfl, a, _, rfl, hS3, fun q hq => ?_⟩
          rw [cut_nat]
          refine ⟨q, _, rfl, .inl ⟨SqL.of upd_same, fun u hu => ?_⟩⟩
          have gr4 : Gr H G G1 (upd H3 q (.lst (vB ((t.drop st).take (tokSize (t.drop st)))))) := gr3.lay hq
          have hl4 : (upd H3 q (.lst (vB ((t.drop st).take (tokSize (t.drop st)))))) l = some (.lst us) := by rw [upd_ne (ne_of_none hl3 hq)]; exact hl3
          have gr5 := gr4.new (o := .tup (vB ((t.drop st).take (tokSize (t.drop st))))) hu
          have g5 : (upd G1 u (.tup (vB ((t.drop st).take (tokSize (t.drop st)))))) l = Option.none := by rw [upd_ne (ne_of_none hl4 hu)]; exact g1
          have hl5 : (upd (upd H3 q (.lst (vB ((t.drop st).take (tokSize (t.drop st)))))) u (.tup (vB ((t.drop st).take (tokSize (t.drop st)))))) l = some (.lst us) := by rw [upd_ne (ne_of_none hl4 hu)]; exact hl4
          have hus := hA.len
          rw [List.length_map] at hus
          refine ⟨l, _, _, rfl, rfl, hl5, szl (by omega), ?_⟩
          refine ⟨_, rfl, _, rfl, _, _, rfl, rfl, ?_⟩
          have hle := tokSize_len (t.drop st)
          rw [List.length_drop] at hle
          refine ⟨t.length - (st + tokSize (t.drop st)), by omega, ⟨st + tokSize (t.drop st), _, _, acc ++ [(t.drop st).take (tokSize (t.drop st))], _, rfl, rfl, ?_, gr5.write hl g5, g5, upd_same, ?_, ?_, ?_⟩⟩
          · omega
          · exact (hA.up (same_new (gr4.freshG hu))).snocM (is_tok.mpr ⟨u, rfl, upd_same⟩)
          · rw [List.length_append, List.length_singleton]; omega
          · rw [hT, hd, toks_tok hsp (by rw [← hd]; exact h0), ← hd, drop_drop']
            cases toks (t.drop (st + tokSize (t.drop st))) with
            | none => rfl
            | some r =>
              show some (acc ++ _ :: r) = some ((acc ++ [_]) ++ r)
              rw [List.append_assoc]; rfl
    · refine iteDn (by omega) ?_
      refine ⟨_, rfl, ?_⟩
      rw [List.drop_eq_nil_of_le (by omega), toks_nil] at hT
      have hT : toks t = some (acc ++ []) := hT
      rw [List.append_nil] at hT
      refine k _ _ _ (gr.keep hl g1 hl1) ?_
      rw [hT]
      exact Is.newLst hA g1
end
end Wf
end
section
set_option Elab.async false
set_option linter.all false
set_option maxRecDepth 100000
set_option maxHeartbeats 2000000
namespace Wf
open PySem PySem.Spec PyProof.Rows L2
section
variable {P : Program} {w : World} {K : PySem.W.Frag} {mg : Str → Option Value} {base : Heap}
/-! ### parted_at -/
def spPart (K : PySem.W.Frag) : Sp := fun vs H Q _ => ∃ (vt vm : V) (ts : List Tk) (m : Tk) (G : Hp), vs = [vt, vm] ∧ Same G H ∧ Is G vt (eToks ts) ∧ TkAt K H vm m ∧ ts.length ≤ 2100 ∧ ∀ v H' G', Gr H G G' H' → Is G' v (eList eToks (split m ts)) → Q v H'
theorem scPart : FnScope ["tokens", "mark", "parts", "part", "token"] ["tokens", "mark"] (defScope sPart) := ⟨rfl, rfl, rfl, by decide +kernel, rfl, by decide +kernel, by decide +kernel⟩
structure PartInv (H G : Hp) (vt vm : V) (ts : List Tk) (m : Tk) (p : Addr) (i : Nat) (σ : L2.St) (H' : Hp) : Prop where
  ex : ∃ (G1 : Hp) (q : Addr) (ps qs : List V) (done : List (List Tk)) (cur : List Tk) (tv : Option V), σ = [some vt, some vm, some (.ref p), some (.ref q), tv] ∧ Gr H G G1 H' ∧ H q = Option.none ∧ G1 p = Option.none ∧ G1 q = Option.none ∧ p ≠ q ∧ H' p = some (.lst ps) ∧ H' q = some (.lst qs) ∧
    IsAll G1 ps (done.map eToks) ∧ IsAll G1 qs (cur.map eTok) ∧ done.length ≤ i ∧ cur.length ≤ i ∧ split m ts = done ++ glue cur (split m (ts.drop i))
theorem ok_part (D : DefAt K mg "parted_at" sPart ["tokens", "mark"]) (T : Txt K mg) : Callee P w K mg base "parted_at" 1 ["tokens", "mark"] (spPart K) := by
  refine D.ok scPart (fun vs H Q E h => ?_) (fun f cdv A outer s H vs Q E hr h => ?_)
  · obtain ⟨vt, vm, ts, m, G, rfl, _⟩ := h
    rfl
  · obtain ⟨vt, vm, ts, m, G, rfl, hG, hT, hM, hlen, k⟩ := h
    refine ⟨_, pss_cons (ps_set (i := 2) scPart.nd rfl (Or.inl rfl) (pe_lst pa_nil))
      (pss_cons (ps_set (i := 3) scPart.nd rfl (Or.inl rfl) (pe_lst pa_nil))
      (pss_cons (ps_for PassesOwn.never rfl (pi_list (pv 0)) (pg_name (i := 4) scPart.nd rfl (Or.inl rfl))
        (pss_one (ps_if (pt_cmpR (op_eqT hr.units) (pv 4) (pv 1) (nomark _))
          (pss_cons (ps_expr (pe_bm PySem.F.plainAttrs_list PySem.F.slot_list_append PySem.F.type_list_append mt_append (pv 2) (pa_cons (pv 3) pa_nil)))
          (pss_one (ps_set (i := 3) scPart.nd rfl (Or.inl rfl) (pe_lst pa_nil))))
          (pss_one (ps_expr (pe_bm PySem.F.plainAttrs_list PySem.F.slot_list_append PySem.F.type_list_append mt_append (pv 3) (pa_cons (pv 4) pa_nil)))))))
      (pss_cons (ps_expr (pe_bm PySem.F.plainAttrs_list PySem.F.slot_list_append PySem.F.type_list_append mt_append (pv 2) (pa_cons (pv 3) pa_nil)))
      (pss_one (ps_ret (pv 2)))))), ?_⟩
    obtain ⟨a, xs, rfl, ha, hxs⟩ := is_list.mp hT
    refine ⟨Nat.zero_le _, fun p hp => ?_⟩
    refine ⟨Nat.zero_le _, fun q0 hq0 => ?_⟩
    have gp : G p = Option.none := hG.free hp
    have gr0 : Gr H G G (upd H p (.lst [])) := (Gr.refl hG).lay hp
    have hpq0 : p ≠ q0 := ne_of_none (upd_same (H := H) (a := p) (o := .lst [])) hq0
    have gr1 : Gr H G G (upd (upd H p (.lst [])) q0 (.lst [])) := gr0.lay hq0
    have lx := hxs.len
    rw [List.length_map] at lx
    refine ⟨_, rfl, a, rfl, ⟨_, SqL.of (gr1.gh _ _ ha)⟩, for_list (K := K) (a := a) (xs := xs) (PartInv H G (.ref a) vm ts m p)
      ⟨G, q0, [], [], [], [], none, rfl, gr1, gr0.fresh hq0, gp, gr0.freshG hq0, hpq0, (by rw [upd_ne hpq0]; exact upd_same), upd_same, .nil, .nil, Nat.le_refl _, Nat.le_refl _, (by rw [List.drop_zero, glue_nil]; rfl)⟩
      (fun i σ H' _ ⟨G1, q, ps, qs, done, cur, tv, _, gr, _⟩ => SqL.of (gr.gh _ _ (gr.gg _ _ ha))) ?_ ?_⟩
    · rintro i x σ H' hi ⟨G1, q, ps, qs, done, cur, tv, rfl, gr, hq, g1, g2, hpq, hp1, hq1, hA, hB, hd, hc, hs⟩
      obtain ⟨b, hb, hx⟩ := hxs.getM hi
      have hx1 : Is G1 x (eTok b) := hx.up gr.gg
      have hbd := drop_at hb
      have hi2 : i < ts.length := (List.getElem?_eq_some_iff.mp hb).1
      have la := hA.len
      have lb := hB.len
      rw [List.length_map] at la lb
      refine ⟨_, rfl, _, rfl, b, m, (hx1.up gr.gh).tk, hM.up gr.hh, _, rfl, ?_⟩
      by_cases he : b = m
      · refine iteDp he ?_
        refine ⟨_, rfl, .inl ⟨rfl, _, SqL.of hp1⟩, _, rfl, p, _, _, rfl, rfl, hp1, szl (by omega), ?_⟩
        refine ⟨Nat.zero_le _, fun q' hq' => ?_⟩
        have gr2 : Gr H G (upd G1 q (.lst qs)) H' := gr.keep hq g2 hq1
        have gp2 : (upd G1 q (.lst qs)) p = Option.none := by rw [upd_ne hpq]; exact g1
        have gr3 := gr2.write (o := .lst (ps ++ [.ref q])) hp gp2
        have gr4 := gr3.lay (o := .lst []) hq'
        have hpq' : p ≠ q' := ne_of_none (upd_same (H := H') (a := p) (o := .lst (ps ++ [.ref q]))) hq'
        refine ⟨upd G1 q (.lst qs), q', ps ++ [.ref q], [], done ++ [cur], [], _, rfl, gr4, gr3.fresh hq', gp2, gr3.freshG hq', hpq', (by rw [upd_ne hpq']; exact upd_same), upd_same,
          (hA.up (same_new g2)).snocM (Is.newLst hB g2), .nil, (by rw [List.length_append, List.length_singleton]; omega), Nat.zero_le _, ?_⟩
        rw [hs, hbd, he, glue_mark, glue_nil, List.append_assoc]
        rfl
      · refine iteDn he ?_
        refine ⟨_, rfl, .inl ⟨rfl, _, SqL.of hq1⟩, _, rfl, q, _, _, rfl, rfl, hq1, szl (by omega), ?_⟩
        refine ⟨G1, q, ps, qs ++ [x], done, cur ++ [b], _, rfl, gr.write hq g2, hq, g1, g2, hpq, (by rw [upd_ne hpq]; exact hp1), upd_same, hA, hB.snocM hx1, by omega, (by rw [List.length_append, List.length_singleton]; omega), ?_⟩
        rw [hs, hbd, glue_tok he]
    · rintro σ H' ⟨G1, q, ps, qs, done, cur, tv, rfl, gr, hq, g1, g2, hpq, hp1, hq1, hA, hB, hd, hc, hs⟩
      have la := hA.len
      rw [List.length_map] at la
      refine ⟨_, rfl, .inl ⟨rfl, _, SqL.of hp1⟩, _, rfl, p, _, _, rfl, rfl, hp1, szl (by omega), ?_⟩
      refine ⟨_, rfl, ?_⟩
      have gr2 : Gr H G (upd G1 q (.lst qs)) H' := gr.keep hq g2 hq1
      have gp2 : (upd G1 q (.lst qs)) p = Option.none := by rw [upd_ne hpq]; exact g1
      have gr3 := gr2.write (o := .lst (ps ++ [.ref q])) hp gp2
      rw [List.drop_eq_nil_of_le (by omega), glue_end] at hs
      refine k _ _ _ (gr3.keep hp gp2 upd_same) ?_
      rw [hs]
      exact Is.newLst ((hA.up (same_new g2)).snocM (Is.newLst hB g2)) gp2
/-! ### read_parts -/
/-- a reader's promise -/
def spR {α : Type} (e : α → PyData) (g : List Tk → Option α) : Sp := fun vs H Q _ => ∃ (v : V) (ts : List Tk) (G : Hp), vs = [v] ∧ Same G H ∧ Is G v (eToks ts) ∧ ts.length ≤ 2100 ∧ (∀ b ∈ ts, Wt b) ∧ ∀ v' H' G', Gr H G G' H' → Is G' v' (eOpt e (g ts)) → Q v' H'
def spP {α : Type} (K : PySem.W.Frag) (f : Addr) (e : α → PyData) (g : List Tk → Option α) : Sp := fun vs H Q _ => ∃ (vt vm : V) (ts : List Tk) (m : Tk) (G : Hp), vs = [vt, vm, .ref f] ∧ Same G H ∧ Is G vt (eToks ts) ∧ TkAt K H vm m ∧ ts.length ≤ 2100 ∧ (∀ b ∈ ts, Wt b) ∧
  ∀ v' H' G', Gr H G G' H' → Is G' v' (eOpt (eList e) (allOf g (split m ts))) → Q v' H'
theorem scParts : FnScope ["tokens", "mark", "read_part", "found", "part", "thing"] ["tokens", "mark", "read_part"] (defScope sParts) := ⟨rfl, rfl, rfl, by decide +kernel, rfl, by decide +kernel, by decide +kernel⟩
structure PartsInv {α : Type} (e : α → PyData) (g : List Tk → Option α) (H G G2 : Hp) (vt vm : V) (f : Addr) (parts : List (List Tk)) (l : Addr) (i : Nat) (σ : L2.St) (H' : Hp) : Prop where
  ex : ∃ (G1 : Hp) (vs : List V) (ys : List α) (pv tv : Option V), σ = [some vt, some vm, some (.ref f), some (.ref l), pv, tv] ∧ Gr H G G1 H' ∧ Same G2 G1 ∧ G1 l = Option.none ∧ H' l = some (.lst vs) ∧ IsAll G1 vs (ys.map e) ∧ ys.length = i ∧ allOf g parts = (allOf g (parts.drop i)).map (fun r => ys ++ r)
theorem ok_parts {α : Type} {e : α → PyData} {g : List Tk → Option α} {j : Nat} {fR : Addr} {fdR : FuncData} (D : DefAt K mg "read_parts" sParts ["tokens", "mark", "read_part"]) (T : Txt K mg) (CP : Callee P w K mg base "parted_at" 1 ["tokens", "mark"] (spPart K))
    (FR : FnOk P w K mg base CX0 j fR fdR ["tokens"] (spR e g)) (hk : PySem.W.keepIn K (.ref fR) = true) (hbR : Binds K fdR ["tokens"] []) (nn : ∀ x, e x ≠ .none) (hj : 1 ≤ j) : Callee P w K mg base "read_parts" (j + 1) ["tokens", "mark", "read_part"] (spP K fR e g) := by
  refine D.ok scParts (fun vs H Q E h => ?_) (fun f cdv A outer s H vs Q E hr h => ?_)
  · obtain ⟨vt, vm, ts, m, G, rfl, _⟩ := h
    rfl
  · obtain ⟨vt, vm, ts, m, G, rfl, hG, hT, hM, hlen, hw, k⟩ := h
    refine ⟨_, pss_cons (ps_set (i := 3) scParts.nd rfl (Or.inl rfl) (pe_lst pa_nil))
      (pss_cons (ps_for PassesOwn.never rfl (pi_list (pe_fn CP (hr.mono hj) rfl (pa_cons (pv 0) (pa_cons (pv 1) pa_nil)))) (pg_name (i := 4) scParts.nd rfl (Or.inl rfl))
        (pss_cons (ps_set (i := 5) scParts.nd rfl (Or.inl rfl) (pe_callL 2 FR hr hk hbR pass0 (pa_cons (pv 4) pa_nil) (pv 2)))
        (pss_cons (ps_if (pt_cmp (pc_isN (pv 5))) (pss_one (ps_ret pe_non)) pss_nil)
        (pss_one (ps_expr (pe_bm PySem.F.plainAttrs_list PySem.F.slot_list_append PySem.F.type_list_append mt_append (pv 3) (pa_cons (pv 5) pa_nil)))))))
      (pss_one (ps_ret (pv 3)))), ?_⟩
    refine ⟨Nat.zero_le _, fun l hl => ?_⟩
    have gl : G l = Option.none := hG.free hl
    have gr0 : Gr H G G (upd H l (.lst [])) := (Gr.refl hG).lay hl
    refine ⟨_, rfl, _, rfl, vt, vm, ts, m, G, rfl, gr0.gh, hT, hM.up gr0.hh, hlen, fun v H2 G2 gr2 hIs => ?_⟩
    obtain ⟨pa, ps, rfl, hpa, hps⟩ := is_list.mp hIs
    have lp := hps.len
    rw [List.length_map] at lp
    have ls := split_len m ts
    refine ⟨pa, rfl, ⟨_, SqL.of (gr2.gh _ _ hpa)⟩, for_list (K := K) (a := pa) (xs := ps) (PartsInv e g H G G2 vt vm fR (split m ts) l)
      ⟨G2, [], [], none, none, rfl, gr0.trans gr2, Same.refl _, gr2.nw l (by rw [upd_same]; simp) gl, gr2.hh _ _ upd_same, .nil, rfl, (by rw [List.drop_zero]; cases allOf g (split m ts) <;> rfl)⟩
      (fun i σ H' _ ⟨G1, vs, ys, pv, tv, _, gr, s1, _⟩ => SqL.of (gr.gh _ _ (s1 _ _ hpa))) ?_ ?_⟩
    · rintro i x σ H' hi ⟨G1, vs, ys, pv, tv, rfl, gr, s1, g1, hl1, hA, hy, hs⟩
      obtain ⟨part, hp, hx⟩ := hps.getM hi
      have hpm := List.mem_of_getElem? hp
      have hpd := drop_at hp
      have hil : i < ps.length := (List.getElem?_eq_some_iff.mp hi).1
      refine ⟨rfl, _, rfl, x, part, G1, rfl, gr.gh, hx.up s1, Nat.le_trans (part_len m ts part hpm) hlen, wt_part hw hpm, fun v' H3 G3 gr3 hv => ?_⟩
      have hl3 : H3 l = some (.lst vs) := gr3.hh _ _ hl1
      have g3 : G3 l = Option.none := gr3.nw l (by rw [hl1]; simp) g1
      have gr4 := gr.trans gr3
      refine ⟨_, rfl, _, rfl, ?_⟩
      rw [hpd, allOf_cons] at hs
      cases eg : g part with
      | none =>
        rw [eg] at hv hs
        refine iteDp (hv.none_iff.mpr rfl) ?_
        refine k _ _ _ gr4 ?_
        rw [hs]
        exact .non
      | some y =>
        rw [eg] at hv hs
        have hv : Is G3 v' (e y) := hv
        refine iteDn (fun z => nn y (hv.none_iff.mp z)) ?_
        have la := hA.len
        rw [List.length_map] at la
        refine ⟨_, rfl, .inl ⟨rfl, _, SqL.of hl3⟩, _, rfl, l, _, _, rfl, rfl, hl3, szl (by omega), ?_⟩
        refine ⟨G3, vs ++ [v'], ys ++ [y], _, _, rfl, gr4.write hl g3, s1.trans gr3.gg, g3, upd_same, (hA.up gr3.gg).snocM hv, (by rw [List.length_append, List.length_singleton, hy]), ?_⟩
        rw [hs]
        cases allOf g ((split m ts).drop (i + 1)) with
        | none => rfl
        | some r =>
          show some (ys ++ y :: r) = some (ys ++ [y] ++ r)
          rw [List.append_assoc]; rfl
    · rintro σ H' ⟨G1, vs, ys, pv, tv, rfl, gr, s1, g1, hl1, hA, hy, hs⟩
      refine ⟨_, rfl, ?_⟩
      rw [List.drop_eq_nil_of_le (by omega)] at hs
      have hs : allOf g (split m ts) = some (ys ++ []) := hs
      rw [List.append_nil] at hs
      refine k _ _ _ (gr.keep hl g1 hl1) ?_
      rw [hs]
      exact Is.newLst hA g1
end
end Wf
end
section
set_option Elab.async false
set_option linter.all false
set_option maxRecDepth 100000
set_option maxHeartbeats 2000000
namespace Wf
open PySem PySem.Spec PyProof.Rows L2
theorem iteIp {i j : Int} {A B : Prop} (h : i = j) (a : A) : if decide (V.int i = V.int j) = true then A else B := iteDp (by rw [h]) a
theorem iteIn {i j : Int} {A B : Prop} (h : i ≠ j) (b : B) : if decide (V.int i = V.int j) = true then A else B := iteDn (by intro z; injection z with z; exact h z) b
section
variable {P : Program} {w : World} {K : PySem.W.Frag} {mg : Str → Option Value} {base : Heap}
/-! ### read_range -/
theorem scRange : FnScope ["tokens"] ["tokens"] (defScope sRange) := ⟨rfl, rfl, rfl, by decide +kernel, rfl, by decide +kernel, by decide +kernel⟩
theorem ok_range (D : DefAt K mg "read_range" sRange ["tokens"]) (T : Txt K mg) (CN : Callee P w K mg base "is_number" 1 ["token"] (spIs K Kp181.digit)) (CM : Callee P w K mg base "number_of" 1 ["token"] (spNum K)) :
    Callee P w K mg base "read_range" 2 ["tokens"] (spR eRange mRange) := by
  refine D.ok scRange (fun vs H Q E h => ?_) (fun f cdv A outer s H vs Q E hr h => ?_)
  · obtain ⟨v, ts, G, rfl, _⟩ := h
    rfl
  · obtain ⟨v, ts, G, rfl, hG, hT, hlen, hw, k⟩ := h
    refine ⟨_, pss_cons (ps_if (PW.pt (pw_and (pt_cmpR op_eq (pe_len T.len rfl (pv 0)) pe_int (nomark _)) (pw_and1 (pt_val (pe_fn CN hr rfl (pa_cons (pe_ix ix_list (pv 0) pe_int (fun _ _ => rfl)) pa_nil))))))
        (pss_one (ps_ret (pe_tup (pa_cons (pe_fn CM hr rfl (pa_cons (pe_ix ix_list (pv 0) pe_int (fun _ _ => rfl)) pa_nil)) (pa_cons (pe_fn CM hr rfl (pa_cons (pe_ix ix_list (pv 0) pe_int (fun _ _ => rfl)) pa_nil)) pa_nil))))) pss_nil)
      (pss_cons (ps_if (PW.pt (pw_and (pt_cmpR op_eq (pe_len T.len rfl (pv 0)) pe_int (nomark _)) (pw_and (pt_val (pe_fn CN hr rfl (pa_cons (pe_ix ix_list (pv 0) pe_int (fun _ _ => rfl)) pa_nil)))
          (pw_and (pt_cmpR (op_eqT hr.units) (pe_ix ix_list (pv 0) pe_int (fun _ _ => rfl)) (pe_gt T.dots rfl) (nomark _)) (pw_and1 (pt_val (pe_fn CN hr rfl (pa_cons (pe_ix ix_list (pv 0) pe_int (fun _ _ => rfl)) pa_nil))))))))
        (pss_one (ps_ret (pe_tup (pa_cons (pe_fn CM hr rfl (pa_cons (pe_ix ix_list (pv 0) pe_int (fun _ _ => rfl)) pa_nil)) (pa_cons (pe_fn CM hr rfl (pa_cons (pe_ix ix_list (pv 0) pe_int (fun _ _ => rfl)) pa_nil)) pa_nil))))) pss_nil)
      (pss_one (ps_ret pe_non))), ?_⟩
    obtain ⟨a, xs, rfl, ha, hxs⟩ := is_list.mp hT
    have hS : SqL K H a xs := SqL.of (hG _ _ ha)
    have lx := hxs.len
    rw [List.length_map] at lx
    have gr0 : Gr H G G H := Gr.refl hG
    have knone : mRange ts = none → Q .non H := fun e => k _ _ _ gr0 (by rw [e]; exact .non)
    refine ⟨_, rfl, a, _, rfl, .inl hS, rfl, _, rfl, ?_⟩
    match ts, hxs, lx, hw, k, knone with
    | [], hxs, lx, hw, k, knone =>
      refine iteIn (by rw [lx]; decide) (iteF ?_)
      refine ⟨_, rfl, a, _, rfl, .inl hS, rfl, _, rfl, ?_⟩
      exact iteIn (by rw [lx]; decide) (iteF (knone rfl))
    | [b], hxs, lx, hw, k, knone =>
      cases hxs with
      | @cons v1 _ _ _ h1 h2 =>
        cases h2
        have t1 : TkAt K H v1 b := (h1.up hG).tk
        have w1 := hw b (by simp)
        refine iteIp (by simp) ?_
        refine ⟨_, rfl, a, _, _, v1, rfl, rfl, hS, atI_nat (j := 0) rfl, v1, b, rfl, t1, w1.ne, _, rfl, ?_⟩
        by_cases hd : Kp181.digit (b.headD 0) = true
        · refine iteBt hd ?_
          refine ⟨_, rfl, a, _, _, v1, rfl, rfl, hS, atI_nat (j := 0) rfl, v1, b, rfl, t1, w1.dg hd, ?_⟩
          refine ⟨_, rfl, a, _, _, v1, rfl, rfl, hS, atI_nat (j := 0) rfl, v1, b, rfl, t1, w1.dg hd, ?_⟩
          refine ⟨by show 2 ≤ sizeLine; decide, fun p hp => ?_⟩
          refine k _ _ _ (gr0.new hp) ?_
          have e : mRange [b] = some (Kp181.number b, Kp181.number b) := by show (if _ then _ else _) = _; rw [if_pos hd]
          rw [e]
          exact Is.newTup (.cons (.int _) (.cons (.int _) .nil)) (hG.free hp)
        · refine iteBf (by simpa using hd) ?_
          refine ⟨_, rfl, a, _, rfl, .inl hS, rfl, _, rfl, ?_⟩
          refine iteIn (by simp) (iteF (knone ?_))
          show (if _ then _ else _) = none
          rw [if_neg hd]
    | [b, d], hxs, lx, hw, k, knone =>
      refine iteIn (by simp at lx; omega) (iteF ?_)
      refine ⟨_, rfl, a, _, rfl, .inl hS, rfl, _, rfl, ?_⟩
      exact iteIn (by simp at lx; omega) (iteF (knone rfl))
    | [b, d, c], hxs, lx, hw, k, knone =>
      cases hxs with
      | @cons v1 _ _ _ h1 h2 =>
        cases h2 with
        | @cons v2 _ _ _ h2 h3 =>
          cases h3 with
          | @cons v3 _ _ _ h3 h4 =>
            cases h4
            have t1 : TkAt K H v1 b := (h1.up hG).tk
            have t2 : TkAt K H v2 d := (h2.up hG).tk
            have t3 : TkAt K H v3 c := (h3.up hG).tk
            have w1 := hw b (by simp)
            have w3 := hw c (by simp)
            have no : ¬ (Kp181.digit (b.headD 0) = true ∧ d = [46, 46] ∧ Kp181.digit (c.headD 0) = true) → Q .non H := fun h => knone (by show (if _ then _ else _) = none; rw [if_neg h])
            refine iteIn (by simp) (iteF ?_)
            refine ⟨_, rfl, a, _, rfl, .inl hS, rfl, _, rfl, ?_⟩
            refine iteIp (by simp) ?_
            refine ⟨_, rfl, a, _, _, v1, rfl, rfl, hS, atI_nat (j := 0) rfl, v1, b, rfl, t1, w1.ne, _, rfl, ?_⟩
            by_cases hd : Kp181.digit (b.headD 0) = true
            · refine iteBt hd ?_
              refine ⟨_, rfl, a, _, _, v2, rfl, rfl, hS, atI_nat (j := 1) rfl, fun vd hvd => ?_⟩
              refine ⟨d, [46, 46], t2, hvd H, _, rfl, ?_⟩
              by_cases hdd : d = [46, 46]
              · refine iteDp hdd ?_
                refine ⟨_, rfl, a, _, _, v3, rfl, rfl, hS, atI_nat (j := 2) rfl, v3, c, rfl, t3, w3.ne, _, rfl, ?_⟩
                by_cases hc : Kp181.digit (c.headD 0) = true
                · refine iteBt hc ?_
                  refine ⟨_, rfl, a, _, _, v1, rfl, rfl, hS, atI_nat (j := 0) rfl, v1, b, rfl, t1, w1.dg hd, ?_⟩
                  refine ⟨_, rfl, a, _, _, v3, rfl, rfl, hS, atI_nat (j := 2) rfl, v3, c, rfl, t3, w3.dg hc, ?_⟩
                  refine ⟨by show 2 ≤ sizeLine; decide, fun p hp => ?_⟩
                  refine k _ _ _ (gr0.new hp) ?_
                  have e : mRange [b, d, c] = some (Kp181.number b, Kp181.number c) := by show (if _ then _ else _) = _; rw [if_pos ⟨hd, hdd, hc⟩]
                  rw [e]
                  exact Is.newTup (.cons (.int _) (.cons (.int _) .nil)) (hG.free hp)
                · exact iteBf (by simpa using hc) (no fun z => hc z.2.2)
              · exact iteDn hdd (iteF (no fun z => hdd z.2.1))
            · exact iteBf (by simpa using hd) (iteF (no fun z => hd z.1))
    | b :: d :: c :: z :: r, hxs, lx, hw, k, knone =>
      simp only [List.length_cons] at lx
      refine iteIn (by omega) (iteF ?_)
      refine ⟨_, rfl, a, _, rfl, .inl hS, rfl, _, rfl, ?_⟩
      exact iteIn (by omega) (iteF (knone rfl))
end
end Wf
end
section
set_option Elab.async false
set_option linter.all false
set_option maxRecDepth 100000
set_option maxHeartbeats 2000000
namespace Wf
open PySem PySem.Spec PyProof.Rows L2
theorem cut_take (xs : List V) (k : Nat) : cutV xs none (some (k : Int)) = xs.take k := by
  unfold cutV
  rw [HT.sIx_nat, HT.sIx_none, Nat.sub_zero, List.drop_zero]
  by_cases h : k ≤ xs.length
  · rw [Nat.min_eq_left h]
  · rw [Nat.min_eq_right (by omega), List.take_length, List.take_of_length_le (by omega)]
theorem cut_drop (xs : List V) (k : Nat) : cutV xs (some (k : Int)) none = xs.drop k := by
  unfold cutV
  rw [HT.sIx_nat, HT.sIx_none]
  by_cases h : k ≤ xs.length
  · rw [Nat.min_eq_left h, List.take_of_length_le (by simp)]
  · rw [Nat.min_eq_right (by omega), List.drop_of_length_le (Nat.le_refl _), List.drop_of_length_le (by omega)]; simp
theorem isTake {H : Hp} {ts : List Tk} {xs : List V} (h : IsAll H xs (ts.map eTok)) (n : Nat) : IsAll H (xs.take n) ((ts.take n).map eTok) := by
  rw [List.map_take]; exact h.take n
theorem isDrop {H : Hp} {ts : List Tk} {xs : List V} (h : IsAll H xs (ts.map eTok)) (n : Nat) : IsAll H (xs.drop n) ((ts.drop n).map eTok) := by
  rw [List.map_drop]; exact h.drop n
section
variable {P : Program} {w : World} {K : PySem.W.Frag} {mg : Str → Option Value} {base : Heap}
/-- read_parts for one reader -/
def CParts {α : Type} (P : Program) (w : World) (K : PySem.W.Frag) (mg : Str → Option Value) (base : Heap) (x : Str) (j : Nat) (e : α → PyData) (g : List Tk → Option α) : Prop :=
  ∃ fR, mg x = some (.ref fR) ∧ Callee P w K mg base "read_parts" j ["tokens", "mark", "read_part"] (spP K fR e g)
theorem parts_of {α : Type} {x : Str} {j : Nat} {e : α → PyData} {g : List Tk → Option α} (D : DefAt K mg "read_parts" sParts ["tokens", "mark", "read_part"]) (T : Txt K mg) (CP : Callee P w K mg base "parted_at" 1 ["tokens", "mark"] (spPart K))
    (C : Callee P w K mg base x j ["tokens"] (spR e g)) (nn : ∀ x, e x ≠ .none) (hj : 1 ≤ j) : CParts P w K mg base x (j + 1) e g := by
  obtain ⟨f, fd, F, hm, hk, hb⟩ := C
  exact ⟨f, hm, ok_parts D T CP F hk hb nn hj⟩
/-! ### read_one -/
theorem scOne : FnScope ["tokens", "divisor", "rest", "ranges"] ["tokens"] (defScope sOne) := ⟨rfl, rfl, rfl, by decide +kernel, rfl, by decide +kernel, by decide +kernel⟩
theorem ok_one (D : DefAt K mg "read_one" sOne ["tokens"]) (T : Txt K mg) (CN : Callee P w K mg base "is_number" 1 ["token"] (spIs K Kp181.digit)) (CM : Callee P w K mg base "number_of" 1 ["token"] (spNum K)) (CR : CParts P w K mg base "read_range" 3 eRange mRange) :
    Callee P w K mg base "read_one" 4 ["tokens"] (spR eOne mOne) := by
  obtain ⟨fR, hmR, CR⟩ := CR
  refine D.ok scOne (fun vs H Q E h => ?_) (fun f cdv A outer s H vs Q E hr h => ?_)
  · obtain ⟨v, ts, G, rfl, _⟩ := h
    rfl
  · obtain ⟨v, ts, G, rfl, hG, hT, hlen, hw, k⟩ := h
    obtain ⟨a, xs, rfl, ha, hxs⟩ := is_list.mp hT
    have hr1 : Room 1 _ := hr.mono (by decide)
    obtain ⟨tt, hP, hq⟩ : ∃ tt : TS, PSs (cxOf CX0 P w K mg base ["tokens", "divisor", "rest", "ranges"] "read_one" (defScope sOne) f cdv A outer s H E).nox ((defBody sOne).drop 4) tt ∧
        ∀ (m : Option Nat) (zs : List Tk) (G1 H1 : Hp) (dv : V) (r : Addr) (us : List V), Gr H G G1 H1 → Is G1 dv (eOpt eNat m) → G1 r = some (.lst us) → IsAll G1 us (zs.map eTok) → zs.length ≤ 2100 → (∀ b ∈ zs, Wt b) → mOne ts = mTail m zs →
          tt { nx := fun _ H' => Q .non H', rt := Q } [some (.ref a), some dv, some (.ref r), none] H1 := by
      refine ⟨_, pss_cons (ps_if (PW.pt (pw_or (pt_cmpR op_eq (pe_len T.len rfl (pv 2)) pe_int (nomark _)) (pw_or1 (pt_cmpR (op_notInT hr.units) (pe_ix ix_list (pv 2) pe_int (fun _ _ => rfl)) (pe_tup (pa_cons (pe_gt T.equal rfl) (pa_cons (pe_gt T.unequal rfl) pa_nil))) (by with_unfolding_all rfl))))) (pss_one (ps_ret pe_non)) pss_nil)
        (pss_cons (ps_set (i := 3) scOne.nd rfl (Or.inl rfl) (pe_fn CR hr rfl (pa_cons (pe_slice sl_list (pv 2) (po_some pe_int) po_none) (pa_cons (pe_gt T.comma rfl) (pa_cons (pe_glob (v := .ref fR) rfl hmR rfl) pa_nil)))))
        (pss_cons (ps_if (pt_cmp (pc_isN (pv 3))) (pss_one (ps_ret pe_non)) pss_nil)
        (pss_one (ps_ret (pe_tup (pa_cons (pv 1) (pa_cons (pe_cmpR (op_eqT hr.units) (pe_ix ix_list (pv 2) pe_int (fun _ _ => rfl)) (pe_gt T.equal rfl) (nomark _)) (pa_cons (pv 3) pa_nil)))))))), ?_⟩
      intro m zs G1 H1 dv r us gr hdv hr1 hus hzl hzw hm
      have knone : ∀ H2, Gr H G G1 H2 → mTail m zs = none → Q .non H2 := fun H2 g e => k _ _ _ g (by rw [hm, e]; exact .non)
      have hS : SqL K H1 r us := SqL.of (gr.gh _ _ hr1)
      have lu := hus.len
      rw [List.length_map] at lu
      refine ⟨_, rfl, r, _, rfl, .inl hS, rfl, _, rfl, ?_⟩
      match zs, hus, hzl, hzw, hm, knone, lu with
      | [], hus, hzl, hzw, hm, knone, lu => exact iteIp (by rw [lu]; rfl) (iteT (knone H1 gr rfl))
      | e :: z, hus, hzl, hzw, hm, knone, lu =>
        refine iteIn (by simp only [List.length_cons] at lu; omega) ?_
        cases hus with
        | @cons v1 us _ _ h1 h2 =>
          refine ⟨_, rfl, r, _, _, v1, rfl, rfl, hS, atI_nat (j := 0) rfl, ?_⟩
          intro ve me vn mn
          refine ⟨by show 2 ≤ sizeLine; decide, fun p hp => ?_⟩
          have gr2 : Gr H G G1 (upd H1 p (.tup [ve, vn])) := gr.lay hp
          have he1 : TkAt K (upd H1 p (.tup [ve, vn])) v1 e := (h1.up gr2.gh).tk
          refine ⟨p, _, [[61], [33, 61]], e, rfl, SqT.of upd_same, .cons (me _) (.cons (mn _) .nil), he1, _, rfl, ?_⟩
          show if (!([[61], [33, 61]] : List Tk).contains e) = true then _ else _
          have hS2 : SqL K (upd H1 p (.tup [ve, vn])) r (v1 :: us) := (same_new hp).seq hS
          by_cases hin : e = [61] ∨ e = [33, 61]
          · have hc : (!([[61], [33, 61]] : List Tk).contains e) = false := by rcases hin with rfl | rfl <;> rfl
            refine iteBf hc ?_
            refine ⟨_, rfl, _, rfl, r, _, rfl, hS2, fun q hq => ?_⟩
            rw [show cutV (v1 :: us) (some 1) none = (v1 :: us).drop 1 from cut_drop _ 1]
            intro vc mc
            have gr3 := gr2.new (o := .lst us) hq
            refine ⟨.ref q, vc, z, [44], upd G1 q (.lst us), rfl, gr3.gh, Is.newLst h2 (gr2.freshG hq), mc _, by simp only [List.length_cons] at hzl; omega, fun b hb => hzw b (List.mem_cons_of_mem _ hb), fun v' H4 G4 gr4 hv => ?_⟩
            have gr5 := gr3.trans gr4
            have s14 : Same G1 G4 := (same_new (gr2.freshG hq)).trans gr4.gg
            have emt : mTail m (e :: z) = (mRanges z).map fun l => (⟨m, decide (e = [61]), l⟩ : Kp181.One) := by
              show (if e = [61] then _ else _) = _
              by_cases h61 : e = [61]
              · rw [if_pos h61, decide_eq_true h61]
              · rw [if_neg h61, if_pos (hin.resolve_left h61), decide_eq_false h61]
            have hv : Is G4 v' (eOpt (eList eRange) (mRanges z)) := hv
            refine ⟨_, rfl, _, rfl, ?_⟩
            cases er : mRanges z with
            | none =>
              rw [er] at hv emt
              refine iteDp (hv.none_iff.mpr rfl) ?_
              exact k _ _ _ gr5 (by rw [hm, emt]; exact .non)
            | some l =>
              rw [er] at hv emt
              have hv : Is G4 v' (eList eRange l) := hv
              refine iteDn (fun z => nomatch hv.none_iff.mp z) ?_
              have hS4 : SqL K H4 r (v1 :: us) := SqL.of (gr5.gh _ _ (s14 _ _ hr1))
              refine ⟨_, rfl, _, rfl, r, _, _, v1, rfl, rfl, hS4, atI_nat (j := 0) rfl, ?_⟩
              intro vq mq
              refine ⟨e, [61], ((h1.up s14).up gr5.gh).tk, mq _, ?_⟩
              refine ⟨_, rfl, ?_⟩
              refine ⟨by show 3 ≤ sizeLine; decide, fun p2 hp2 => ?_⟩
              refine k _ _ _ (gr5.new hp2) ?_
              rw [hm, emt]
              exact Is.newTup (.cons (hdv.up s14) (.cons (.bl _) (.cons hv .nil))) (gr5.freshG hp2)
          · have hc : (!([[61], [33, 61]] : List Tk).contains e) = true := by
              rw [not_or] at hin
              simp [hin.1, hin.2]
            refine iteBt hc ?_
            refine knone _ gr2 ?_
            rw [not_or] at hin
            show (if e = [61] then _ else _) = none
            rw [if_neg hin.1, if_neg hin.2]
    refine ⟨_, pss_cons (ps_if (pt_cmpR (op_neTs hr.units) (pe_slice sl_list (pv 0) po_none (po_some pe_int)) (pe_lst (pa_cons (pe_gt T.wordN rfl) pa_nil)) (nomark _)) (pss_one (ps_ret pe_non)) pss_nil)
      (pss_cons (ps_set (i := 1) scOne.nd rfl (Or.inl rfl) pe_non)
      (pss_cons (ps_set (i := 2) scOne.nd rfl (Or.inl rfl) (pe_slice sl_list (pv 0) (po_some pe_int) po_none))
      (pss_cons (ps_if (pt_cmpR (op_eqTs hr.units) (pe_slice sl_list (pv 2) po_none (po_some pe_int)) (pe_lst (pa_cons (pe_gt T.percent rfl) pa_nil)) (nomark _))
        (pss_cons (ps_if (PW.pt (pw_or (pt_cmpR op_lt (pe_len T.len rfl (pv 2)) pe_int (nomark _)) (pw_or1 (pt_not (pt_val (pe_fn CN hr1 rfl (pa_cons (pe_ix ix_list (pv 2) pe_int (fun _ _ => rfl)) pa_nil))))))) (pss_one (ps_ret pe_non)) pss_nil)
        (pss_cons (ps_set (i := 1) scOne.nd rfl (Or.inl rfl) (pe_fn CM hr1 rfl (pa_cons (pe_ix ix_list (pv 2) pe_int (fun _ _ => rfl)) pa_nil)))
        (pss_one (ps_set (i := 2) scOne.nd rfl (Or.inl rfl) (pe_slice sl_list (pv 2) (po_some pe_int) po_none))))) pss_nil)
      hP))), ?_⟩
    have gr0 : Gr H G G H := Gr.refl hG
    have hS : SqL K H a xs := SqL.of (hG _ _ ha)
    refine ⟨_, rfl, _, rfl, a, _, rfl, hS, fun p hp => ?_⟩
    rw [show cutV xs none (some 1) = xs.take 1 from cut_take _ 1]
    intro vn mn
    refine ⟨by show 1 ≤ sizeLine; decide, fun q hq => ?_⟩
    have gr1 : Gr H G G (upd H p (.lst (xs.take 1))) := gr0.lay hp
    have gr2 : Gr H G G (upd (upd H p (.lst (xs.take 1))) q (.lst [vn])) := gr1.lay hq
    have hpq : p ≠ q := ne_of_none (upd_same (H := H) (a := p) (o := .lst (xs.take 1))) hq
    refine ⟨ts.take 1, [[110]], ⟨p, _, rfl, SqL.of (by rw [upd_ne hpq]; exact upd_same), ((isTake hxs 1).up gr2.gh).tks⟩, ⟨q, _, rfl, SqL.of upd_same, .cons (mn _) .nil⟩, _, rfl, ?_⟩
    by_cases hn : ts.take 1 = [[110]]
    · refine iteNp hn ?_
      obtain ⟨rest, rfl⟩ : ∃ rest, ts = [110] :: rest := by
        match ts, hn with
        | n :: r, hn =>
          have e : [n] = [[110]] := hn
          injection e with e1 _
          subst e1
          exact ⟨r, rfl⟩
      have em : mOne ([110] :: rest) = mRest rest := by
        show (if ([110] : Tk) = [110] then mRest rest else none) = _
        rw [if_pos rfl]
      have hSx : SqL K (upd (upd H p (.lst (xs.take 1))) q (.lst [vn])) a xs := gr2.hh.seq hS
      refine ⟨_, rfl, _, rfl, a, _, rfl, hSx, fun r hr2 => ?_⟩
      rw [show cutV xs (some 1) none = xs.drop 1 from cut_drop _ 1]
      have gr3 := gr2.new (o := .lst (xs.drop 1)) hr2
      have hd1 : IsAll G (xs.drop 1) (rest.map eTok) := isDrop hxs 1
      have hgr : G r = Option.none := gr2.freshG hr2
      have hGr : (upd G r (.lst (xs.drop 1))) r = some (.lst (xs.drop 1)) := upd_same
      have hd2 : IsAll (upd G r (.lst (xs.drop 1))) (xs.drop 1) (rest.map eTok) := hd1.up (same_new hgr)
      generalize upd (upd (upd H p (.lst (xs.take 1))) q (.lst [vn])) r (.lst (xs.drop 1)) = H3 at gr3
      generalize upd G r (.lst (xs.drop 1)) = G3 at gr3 hGr hd2
      generalize xs.drop 1 = ys at hGr hd2
      have hSy : SqL K H3 r ys := SqL.of (gr3.gh _ _ hGr)
      have ly := hd2.len
      rw [List.length_map] at ly
      have hwr : ∀ b ∈ rest, Wt b := fun b hb => hw b (List.mem_cons_of_mem _ hb)
      have hlr : rest.length ≤ 2100 := by simp only [List.length_cons] at hlen; omega
      refine ⟨_, rfl, _, rfl, r, _, rfl, hSy, fun p2 hp2 => ?_⟩
      rw [show cutV ys none (some 1) = ys.take 1 from cut_take _ 1]
      intro vp mp
      refine ⟨by show 1 ≤ sizeLine; decide, fun q2 hq2 => ?_⟩
      have gr4 : Gr H G G3 (upd H3 p2 (.lst (ys.take 1))) := gr3.lay hp2
      have gr5 : Gr H G G3 (upd (upd H3 p2 (.lst (ys.take 1))) q2 (.lst [vp])) := gr4.lay hq2
      have hpq2 : p2 ≠ q2 := ne_of_none (upd_same (H := H3) (a := p2) (o := .lst (ys.take 1))) hq2
      refine ⟨rest.take 1, [[37]], ⟨p2, _, rfl, SqL.of (by rw [upd_ne hpq2]; exact upd_same), ((isTake hd2 1).up gr5.gh).tks⟩, ⟨q2, _, rfl, SqL.of upd_same, .cons (mp _) .nil⟩, _, rfl, ?_⟩
      generalize upd (upd H3 p2 (.lst (ys.take 1))) q2 (.lst [vp]) = H5 at gr5
      have hSy : SqL K H5 r ys := SqL.of (gr5.gh _ _ hGr)
      by_cases hpc : rest.take 1 = [[37]]
      · refine iteDp hpc ?_
        obtain ⟨rest2, rfl⟩ : ∃ rest2, rest = [37] :: rest2 := by
          match rest, hpc with
          | n :: r, hpc =>
            have e : [n] = [[37]] := hpc
            injection e with e1 _
            subst e1
            exact ⟨r, rfl⟩
        have em2 : mRest ([37] :: rest2) = mPc rest2 := by
          show (if ([37] : Tk) = [37] then mPc rest2 else mTail none ([37] :: rest2)) = _
          rw [if_pos rfl]
        refine ⟨_, rfl, r, _, rfl, .inl hSy, _, _, rfl, rfl, _, rfl, ?_⟩
        match rest2, em2, ly, hd2, hwr, hlr, em with
        | [], em2, ly, hd2, hwr, hlr, em =>
          refine iteDp (by rw [ly]; decide) (iteT ?_)
          exact k _ _ _ gr5 (by rw [em, em2]; exact .non)
        | kk :: z, em2, ly, hd2, hwr, hlr, em =>
          refine iteDn (by simp only [List.length_cons] at ly; omega) ?_
          cases hd2 with
          | @cons v1 _ _ _ h1 h2 =>
            cases h2 with
            | @cons v2 ys _ _ h2 h3 =>
              have t2 : TkAt K H5 v2 kk := (h2.up gr5.gh).tk
              have w2 := hwr kk (by simp)
              refine ⟨_, rfl, r, _, _, v2, rfl, rfl, hSy, atI_nat (j := 1) rfl, v2, kk, rfl, t2, w2.ne, _, rfl, ?_⟩
              have em3 : mPc (kk :: z) = if Kp181.digit (kk.headD 0) = true then mTail (some (Kp181.number kk)) z else none := rfl
              by_cases hk : Kp181.digit (kk.headD 0) = true
              · refine iteBf (by rw [hk]; rfl) ?_
                refine ⟨_, rfl, r, _, _, v2, rfl, rfl, hSy, atI_nat (j := 1) rfl, v2, kk, rfl, t2, w2.dg hk, ?_⟩
                refine ⟨_, rfl, _, rfl, r, _, rfl, hSy, fun r2 hr3 => ?_⟩
                rw [show cutV (v1 :: v2 :: ys) (some 2) none = (v1 :: v2 :: ys).drop 2 from cut_drop _ 2]
                rw [if_pos hk] at em3
                have gr6 := gr5.new (o := .lst ys) hr3
                exact hq (some (Kp181.number kk)) z _ _ _ r2 ys gr6 (.int _) upd_same (h3.up (same_new (gr5.freshG hr3))) (by simp only [List.length_cons] at hlr; omega) (fun b hb => hwr b (by simp [hb])) (by rw [em, em2, em3])
              · refine iteBt (by rw [Bool.eq_false_iff.mpr hk]; rfl) ?_
                rw [if_neg hk] at em3
                exact k _ _ _ gr5 (by rw [em, em2, em3]; exact .non)
      · refine iteDn hpc ?_
        refine hq none rest _ _ _ r ys gr5 .non hGr hd2 hlr hwr ?_
        rw [em]
        match rest, hpc with
        | [], _ => rfl
        | n :: r, hpc =>
          show (if n = [37] then _ else _) = _
          rw [if_neg (fun z => hpc (by rw [z]; rfl))]
    · refine iteNn hn ?_
      refine k _ _ _ gr2 ?_
      have e : mOne ts = none := by
        match ts, hn with
        | [], _ => rfl
        | n :: r, hn =>
          show (if n = [110] then _ else _) = _
          rw [if_neg (fun z => hn (by rw [z]; rfl))]
      rw [e]
      exact .non
end
end Wf
end
section
set_option Elab.async false
set_option linter.all false
set_option maxRecDepth 100000
set_option maxHeartbeats 2000000
namespace Wf
open PySem PySem.Spec PyProof.Rows L2
section
variable {P : Program} {w : World} {K : PySem.W.Frag} {mg : Str → Option Value} {base : Heap}
/-! ### read_both, read_either -/
theorem scBoth : FnScope ["tokens"] ["tokens"] (defScope sBoth) := ⟨rfl, rfl, rfl, by decide +kernel, rfl, by decide +kernel, by decide +kernel⟩
theorem scEither : FnScope ["tokens"] ["tokens"] (defScope sEither) := ⟨rfl, rfl, rfl, by decide +kernel, rfl, by decide +kernel, by decide +kernel⟩
theorem ok_both (D : DefAt K mg "read_both" sBoth ["tokens"]) (T : Txt K mg) (C : CParts P w K mg base "read_one" 5 eOne mOne) : Callee P w K mg base "read_both" 6 ["tokens"] (spR eBoth mBoth) := by
  obtain ⟨fR, hmR, CR⟩ := C
  refine D.ok scBoth (fun vs H Q E h => ?_) (fun f cdv A outer s H vs Q E hr h => ?_)
  · obtain ⟨v, ts, G, rfl, _⟩ := h
    rfl
  · obtain ⟨v, ts, G, rfl, hG, hT, hlen, hw, k⟩ := h
    refine ⟨_, pss_one (ps_ret (pe_fn CR hr rfl (pa_cons (pv 0) (pa_cons (pe_gt T.wordAnd rfl) (pa_cons (pe_glob (v := .ref fR) rfl hmR rfl) pa_nil))))), ?_⟩
    exact ⟨_, rfl, fun vm mm => ⟨v, vm, ts, [97, 110, 100], G, rfl, hG, hT, mm H, hlen, hw, fun v' H' G' gr hv => k _ _ _ gr hv⟩⟩
theorem ok_either (D : DefAt K mg "read_either" sEither ["tokens"]) (T : Txt K mg) (C : CParts P w K mg base "read_both" 7 eBoth mBoth) : Callee P w K mg base "read_either" 8 ["tokens"] (spR eEither mEither) := by
  obtain ⟨fR, hmR, CR⟩ := C
  refine D.ok scEither (fun vs H Q E h => ?_) (fun f cdv A outer s H vs Q E hr h => ?_)
  · obtain ⟨v, ts, G, rfl, _⟩ := h
    rfl
  · obtain ⟨v, ts, G, rfl, hG, hT, hlen, hw, k⟩ := h
    refine ⟨_, pss_one (ps_ret (pe_fn CR hr rfl (pa_cons (pv 0) (pa_cons (pe_gt T.wordOr rfl) (pa_cons (pe_glob (v := .ref fR) rfl hmR rfl) pa_nil))))), ?_⟩
    exact ⟨_, rfl, fun vm mm => ⟨v, vm, ts, [111, 114], G, rfl, hG, hT, mm H, hlen, hw, fun v' H' G' gr hv => k _ _ _ gr hv⟩⟩
/-! ### read_form -/
theorem scForm : FnScope ["tokens", "either"] ["tokens"] (defScope sForm) := ⟨rfl, rfl, rfl, by decide +kernel, rfl, by decide +kernel, by decide +kernel⟩
theorem ok_form (D : DefAt K mg "read_form" sForm ["tokens"]) (T : Txt K mg) (CW : Callee P w K mg base "is_word" 1 ["token"] (spIs K Kp181.small)) (CE : Callee P w K mg base "read_either" 8 ["tokens"] (spR eEither mEither)) :
    Callee P w K mg base "read_form" 9 ["tokens"] (spR eForm mForm) := by
  refine D.ok scForm (fun vs H Q E h => ?_) (fun f cdv A outer s H vs Q E hr h => ?_)
  · obtain ⟨v, ts, G, rfl, _⟩ := h
    rfl
  · obtain ⟨v, ts, G, rfl, hG, hT, hlen, hw, k⟩ := h
    have hr1 : Room 1 _ := hr.mono (by decide)
    refine ⟨_, pss_cons (ps_if (PW.pt (pw_or (pt_cmpR op_lt (pe_len T.len rfl (pv 0)) pe_int (nomark _)) (pw_or (pt_not (pt_val (pe_fn CW hr1 rfl (pa_cons (pe_ix ix_list (pv 0) pe_int (fun _ _ => rfl)) pa_nil)))) (pw_or1 (pt_cmpR (op_neT hr.units) (pe_ix ix_list (pv 0) pe_int (fun _ _ => rfl)) (pe_gt T.colon rfl) (nomark _)))))) (pss_one (ps_ret pe_non)) pss_nil)
      (pss_cons (ps_set (i := 1) scForm.nd rfl (Or.inl rfl) (pe_fn CE hr rfl (pa_cons (pe_slice sl_list (pv 0) (po_some pe_int) po_none) pa_nil)))
      (pss_cons (ps_if (pt_cmp (pc_isN (pv 1))) (pss_one (ps_ret pe_non)) pss_nil)
      (pss_one (ps_ret (pe_tup (pa_cons (pe_ix ix_list (pv 0) pe_int (fun _ _ => rfl)) (pa_cons (pv 1) pa_nil))))))), ?_⟩
    obtain ⟨a, xs, rfl, ha, hxs⟩ := is_list.mp hT
    have hS : SqL K H a xs := SqL.of (hG _ _ ha)
    have lx := hxs.len
    rw [List.length_map] at lx
    have gr0 : Gr H G G H := Gr.refl hG
    have knone : mForm ts = none → Q .non H := fun e => k _ _ _ gr0 (by rw [e]; exact .non)
    refine ⟨_, rfl, a, _, rfl, .inl hS, _, _, rfl, rfl, _, rfl, ?_⟩
    match ts, hxs, lx, hw, k, knone, hlen with
    | [], hxs, lx, hw, k, knone, hlen => exact iteDp (by rw [lx]; decide) (iteT (knone rfl))
    | [b], hxs, lx, hw, k, knone, hlen => exact iteDp (by simp at lx; omega) (iteT (knone rfl))
    | b :: c :: r, hxs, lx, hw, k, knone, hlen =>
      refine iteDn (by simp only [List.length_cons] at lx; omega) ?_
      cases hxs with
      | @cons v1 _ _ _ h1 h2 =>
        cases h2 with
        | @cons v2 xs _ _ h2 h3 =>
          have t1 : TkAt K H v1 b := (h1.up hG).tk
          have t2 : TkAt K H v2 c := (h2.up hG).tk
          have w1 := hw b (by simp)
          have no : ¬ (Kp181.small (b.headD 0) = true ∧ c = [58]) → Q .non H := fun h => knone (by show (if _ then _ else _) = none; rw [if_neg h])
          refine ⟨_, rfl, a, _, _, v1, rfl, rfl, hS, atI_nat (j := 0) rfl, v1, b, rfl, t1, w1.ne, _, rfl, ?_⟩
          by_cases hb : Kp181.small (b.headD 0) = true
          · refine iteBf (by rw [hb]; rfl) ?_
            refine ⟨_, rfl, a, _, _, v2, rfl, rfl, hS, atI_nat (j := 1) rfl, ?_⟩
            intro vc mc
            refine ⟨c, [58], t2, mc _, _, rfl, ?_⟩
            by_cases hc : c = [58]
            · refine iteNp hc ?_
              refine ⟨_, rfl, _, rfl, a, _, rfl, hS, fun q hq => ?_⟩
              rw [show cutV (v1 :: v2 :: xs) (some 2) none = (v1 :: v2 :: xs).drop 2 from cut_drop _ 2]
              have gr1 := gr0.new (o := .lst xs) hq
              refine ⟨.ref q, r, upd G q (.lst xs), rfl, gr1.gh, Is.newLst h3 (hG.free hq), by simp only [List.length_cons] at hlen; omega, fun b hb => hw b (by simp [hb]), fun v' H2 G2 gr2 hv => ?_⟩
              have gr3 := gr1.trans gr2
              have s2 : Same G G2 := (same_new (hG.free hq)).trans gr2.gg
              have ef : mForm (b :: c :: r) = (mEither r).map fun e => (b, e) := by
                show (if _ then _ else _) = _
                rw [if_pos ⟨hb, hc⟩]
              refine ⟨_, rfl, _, rfl, ?_⟩
              cases er : mEither r with
              | none =>
                rw [er] at hv ef
                refine iteDp (hv.none_iff.mpr rfl) ?_
                exact k _ _ _ gr3 (by rw [ef]; exact .non)
              | some e =>
                rw [er] at hv ef
                have hv : Is G2 v' (eEither e) := hv
                refine iteDn (fun z => nomatch hv.none_iff.mp z) ?_
                have hS2 : SqL K H2 a (v1 :: v2 :: xs) := SqL.of (gr3.gh _ _ (s2 _ _ ha))
                refine ⟨_, rfl, a, _, _, v1, rfl, rfl, hS2, atI_nat (j := 0) rfl, _, rfl, ?_⟩
                refine ⟨by show 2 ≤ sizeLine; decide, fun p2 hp2 => ?_⟩
                refine k _ _ _ (gr3.new hp2) ?_
                rw [ef]
                exact Is.newTup (.cons (h1.up s2) (.cons hv .nil)) (gr3.freshG hp2)
            · exact iteNn hc (no fun z => hc z.2)
          · exact iteBt (by rw [Bool.eq_false_iff.mpr hb]; rfl) (iteT (no fun z => hb z.1))
/-! ### read_rule -/
def spRule (K : PySem.W.Frag) : Sp := fun vs H Q _ => ∃ (a : Addr) (t : List Nat) (G : Hp), vs = [.ref a] ∧ SqL K H a (vB t) ∧ t.length ≤ 2100 ∧ Same G H ∧ ∀ v H' G', Gr H G G' H' → Is G' v (eOpt eForms (mRead t)) → Q v H'
theorem scRule : FnScope ["t", "tokens"] ["t"] (defScope sRule) := ⟨rfl, rfl, rfl, by decide +kernel, rfl, by decide +kernel, by decide +kernel⟩
theorem cut_last (xs : List V) : cutV xs none (some (-1)) = xs.dropLast := by
  unfold cutV
  rw [HT.sIx_none, Nat.sub_zero, List.drop_zero, List.dropLast_eq_take]
  congr 1
  unfold HT.sIx
  simp
  omega
theorem ok_rule (D : DefAt K mg "read_rule" sRule ["t"]) (T : Txt K mg) (CT : Callee P w K mg base "tokens_of" 3 ["t"] (spToks K)) (C : CParts P w K mg base "read_form" 10 eForm mForm) : Callee P w K mg base "read_rule" 11 ["t"] (spRule K) := by
  obtain ⟨fR, hmR, CR⟩ := C
  refine D.ok scRule (fun vs H Q E h => ?_) (fun f cdv A outer s H vs Q E hr h => ?_)
  · obtain ⟨a, t, G, rfl, _⟩ := h
    rfl
  · obtain ⟨a, t, G, rfl, hS, hlen, hG, k⟩ := h
    have hr3 : Room 3 _ := hr.mono (by decide)
    refine ⟨_, pss_cons (ps_set (i := 1) scRule.nd rfl (Or.inl rfl) (pe_fn CT hr3 rfl (pa_cons (pv 0) pa_nil)))
      (pss_cons (ps_if (pt_cmp (pc_isN (pv 1))) (pss_one (ps_ret pe_non)) pss_nil)
      (pss_cons (ps_if (pt_cmpR op_eq (pe_len T.len rfl (pv 1)) pe_int (nomark _)) (pss_one (ps_ret (pe_lst pa_nil))) pss_nil)
      (pss_cons (ps_if (pt_cmpR (op_neT hr.units) (pe_ix ix_list (pv 1) (pe_un un_neg pe_int) (fun _ _ => rfl)) (pe_gt T.semicolon rfl) (nomark _)) (pss_one (ps_ret pe_non)) pss_nil)
      (pss_one (ps_ret (pe_fn CR hr rfl (pa_cons (pe_slice sl_list (pv 1) po_none (po_some (pe_un un_neg pe_int))) (pa_cons (pe_gt T.semicolon rfl) (pa_cons (pe_glob (v := .ref fR) rfl hmR rfl) pa_nil))))))))), ?_⟩
    refine ⟨_, rfl, a, t, G, rfl, hS, hlen, hG, fun v1 H1 G1 gr1 hv1 => ?_⟩
    refine ⟨_, rfl, _, rfl, ?_⟩
    cases et : toks t with
    | none =>
      rw [et] at hv1
      refine iteDp (hv1.none_iff.mpr rfl) ?_
      refine k _ _ _ gr1 ?_
      unfold mRead
      rw [et]
      exact .non
    | some ts =>
      rw [et] at hv1
      have hv1 : Is G1 v1 (eToks ts) := hv1
      refine iteDn (fun z => nomatch hv1.none_iff.mp z) ?_
      obtain ⟨hw, hts⟩ := toks_wt _ t (Nat.le_refl _) ts et
      obtain ⟨b, xs, rfl, hb, hxs⟩ := is_list.mp hv1
      have hS1 : SqL K H1 b xs := SqL.of (gr1.gh _ _ hb)
      have lx := hxs.len
      rw [List.length_map] at lx
      have em : mRead t = mRule ts := by unfold mRead; rw [et]; rfl
      rw [em] at k
      refine ⟨_, rfl, b, _, rfl, .inl hS1, rfl, _, rfl, ?_⟩
      by_cases h0 : ts = []
      · subst h0
        refine iteIp (by rw [lx]; rfl) ?_
        refine ⟨Nat.zero_le _, fun p hp => ?_⟩
        refine k _ _ _ (gr1.new hp) ?_
        exact Is.newLst .nil (gr1.freshG hp)
      · refine iteIn (by
          intro z
          have : ts.length = 0 := by omega
          exact h0 (List.eq_nil_of_length_eq_zero this)) ?_
        rcases List.eq_nil_or_concat ts with e | ⟨q, c, rfl⟩
        · exact absurd e h0
        · rw [List.concat_eq_append] at *
          have hxs' : IsAll G1 xs ((q ++ [c]).map eTok) := hxs
          obtain ⟨vc, hvc, hc⟩ := hxs'.atM (i := q.length) (x := c) (by rw [List.getElem?_append_right (Nat.le_refl _), Nat.sub_self]; rfl)
          obtain ⟨ys, rfl⟩ : ∃ ys, xs = ys ++ [vc] := by
            refine ⟨xs.dropLast, ?_⟩
            rcases List.eq_nil_or_concat xs with e | ⟨ys, y, e⟩
            · subst e; simp at hvc
            · rw [List.concat_eq_append] at e
              subst e
              rw [List.dropLast_concat]
              have ly : ys.length = q.length := by simp at lx; omega
              rw [List.getElem?_append_right (by omega), ly, Nat.sub_self] at hvc
              have : y = vc := Option.some.inj hvc
              rw [this]
          refine ⟨_, rfl, _, rfl, b, _, _, vc, rfl, rfl, hS1, atI_last _ _, ?_⟩
          intro vs ms
          refine ⟨c, [59], (hc.up gr1.gh).tk, ms _, _, rfl, ?_⟩
          have er : mRule (q ++ [c]) = if c = [59] then allOf mForm (split [59] q) else none := by
            unfold mRule
            rw [if_neg h0, List.getLast?_concat, List.dropLast_concat]
            by_cases hcc : c = [59]
            · rw [if_pos (by rw [hcc]), if_pos hcc]
            · rw [if_neg (by intro z; exact hcc (Option.some.inj z)), if_neg hcc]
          by_cases hcc : c = [59]
          · refine iteNp hcc ?_
            rw [if_pos hcc] at er
            refine ⟨_, rfl, _, rfl, _, rfl, b, _, rfl, hS1, fun p hp => ?_⟩
            rw [show cutV (ys ++ [vc]) none (some (-1)) = (ys ++ [vc]).dropLast from cut_last _, List.dropLast_concat]
            intro vm mm
            have gr2 := gr1.new (o := .lst ys) hp
            have hys : IsAll G1 ys (q.map eTok) := by
              have := isTake hxs q.length
              have ly : ys.length = q.length := by simp at lx; omega
              rw [List.take_left' rfl, List.take_left' ly] at this
              exact this
            refine ⟨.ref p, vm, q, [59], upd G1 p (.lst ys), rfl, gr2.gh, Is.newLst hys (gr1.freshG hp), mm _, by simp at hts; omega, fun x hx => hw x (by simp [hx]), fun v' H' G' gr hv => ?_⟩
            refine k _ _ _ (gr2.trans gr) ?_
            rw [er]
            exact hv
          · refine iteNn hcc ?_
            rw [if_neg hcc] at er
            refine k _ _ _ gr1 ?_
            rw [er]
            exact .non
end
end Wf
end
section
set_option Elab.async false
set_option linter.all false
set_option maxRecDepth 100000
set_option maxHeartbeats 2000000
namespace Wf
open PySem PySem.Spec PyProof.Rows L2
/-! ### lists of parts -/
theorem ones_at {r : Kp181.Rule} {i : Nat} {x : Kp181.Bytes × Kp181.Either} (h : r[i]? = some x) : Kp181.ones (r.take (i + 1)) = Kp181.ones (r.take i) ++ x.2.flatten := by
  unfold Kp181.ones
  rw [take_snoc h, List.flatMap_append]
  simp
theorem flatten_at {α : Type} {e : List (List α)} {j : Nat} {b : List α} (h : e[j]? = some b) : (e.take (j + 1)).flatten = (e.take j).flatten ++ b := by
  rw [take_snoc h, List.flatten_append]
  simp
theorem ones_le {r : Kp181.Rule} {i : Nat} {x : Kp181.Bytes × Kp181.Either} (h : r[i]? = some x) : (Kp181.ones (r.take i)).length + x.2.flatten.length ≤ (Kp181.ones r).length := by
  have e : Kp181.ones r = Kp181.ones (r.take (i + 1)) ++ Kp181.ones (r.drop (i + 1)) := by
    unfold Kp181.ones
    rw [← List.flatMap_append, List.take_append_drop]
  rw [e, ones_at h, List.length_append, List.length_append]
  omega
theorem flatten_le {α : Type} (e : List (List α)) (j : Nat) : (e.take j).flatten.length ≤ e.flatten.length := by
  have h : e.flatten = (e.take j).flatten ++ (e.drop j).flatten := by rw [← List.flatten_append, List.take_append_drop]
  rw [h, List.length_append]
  omega
theorem flatMap_at {α β : Type} {f : α → List β} {l : List α} {i : Nat} {x : α} (h : l[i]? = some x) : (l.take (i + 1)).flatMap f = (l.take i).flatMap f ++ f x := by
  rw [take_snoc h, List.flatMap_append]
  simp
theorem flatMap_le {α β : Type} {f : α → List β} {l : List α} {i : Nat} {x : α} (h : l[i]? = some x) : ((l.take i).flatMap f).length + (f x).length ≤ (l.flatMap f).length := by
  have e : l.flatMap f = (l.take (i + 1)).flatMap f ++ (l.drop (i + 1)).flatMap f := by rw [← List.flatMap_append, List.take_append_drop]
  rw [e, flatMap_at h, List.length_append, List.length_append]
  omega
theorem IsAll.appM {α : Type} {e : α → PyData} {H : Hp} {l m : List α} {vs us : List V} (h : IsAll H vs (l.map e)) (g : IsAll H us (m.map e)) : IsAll H (vs ++ us) ((l ++ m).map e) := by
  rw [List.map_append]
  exact h.app g
section
variable {P : Program} {w : World} {K : PySem.W.Frag} {mg : Str → Option Value} {base : Heap}
/-! ### ones_of -/
def spOnes : Sp := fun vs H Q _ => ∃ (v : V) (r : Kp181.Rule) (G : Hp), vs = [v] ∧ Same G H ∧ Is G v (eForms r) ∧ (Kp181.ones r).length ≤ 9000 ∧ ∀ v' H' G', Gr H G G' H' → Is G' v' (eList eOne (Kp181.ones r)) → Q v' H'
theorem scOnes : FnScope ["forms", "ones", "word", "either", "both"] ["forms"] (defScope sOnes) := ⟨rfl, rfl, rfl, by decide +kernel, rfl, by decide +kernel, by decide +kernel⟩
theorem ok_ones (D : DefAt K mg "ones_of" sOnes ["forms"]) (T : Txt K mg) : Callee P w K mg base "ones_of" 1 ["forms"] spOnes := by
  refine D.ok scOnes (fun vs H Q E h => ?_) (fun f cdv A outer s H vs Q E hr h => ?_)
  · obtain ⟨v, r, G, rfl, _⟩ := h
    rfl
  · obtain ⟨v, r, G, rfl, hG, hT, hlen, k⟩ := h
    refine ⟨_, pss_cons (ps_set (i := 1) scOnes.nd rfl (Or.inl rfl) (pe_lst pa_nil))
      (pss_cons (ps_for PassesOwn.never rfl (pi_list (pv 0)) (pg_tup rfl (pgs_cons (pg_name (i := 2) scOnes.nd rfl (Or.inl rfl)) (pgs_cons (pg_name (i := 3) scOnes.nd rfl (Or.inl rfl)) pgs_nil)))
        (pss_one (ps_for PassesOwn.never rfl (pi_list (pv 3)) (pg_name (i := 4) scOnes.nd rfl (Or.inl rfl))
          (pss_one (ps_expr (pe_bm PySem.F.plainAttrs_list PySem.F.slot_list_extend PySem.F.type_list_extend mt_extend (pv 1) (pa_cons (pv 4) pa_nil)))))))
      (pss_one (ps_ret (pv 1)))), ?_⟩
    obtain ⟨a, xs, rfl, ha, hxs⟩ := is_list.mp hT
    have lx := hxs.len
    rw [List.length_map] at lx
    refine ⟨Nat.zero_le _, fun l hl => ?_⟩
    have gl : G l = Option.none := hG.free hl
    have gr0 : Gr H G G (upd H l (.lst [])) := (Gr.refl hG).lay hl
    refine ⟨_, rfl, a, rfl, ⟨_, SqL.of (gr0.gh _ _ ha)⟩, for_list (K := K) (a := a) (xs := xs) (fun i σ H' => ∃ (us : List V) (o1 o2 o3 : Option V), σ = [some (.ref a), some (.ref l), o1, o2, o3] ∧ Gr H G G H' ∧ H' l = some (.lst us) ∧ IsAll G us ((Kp181.ones (r.take i)).map eOne))
      ⟨[], none, none, none, rfl, gr0, upd_same, .nil⟩ (fun i σ H' _ ⟨_, _, _, _, _, gr, _⟩ => SqL.of (gr.gh _ _ ha)) ?_ ?_⟩
    · rintro i x σ H' hi ⟨us, o1, o2, o3, rfl, gr, hl1, hA⟩
      obtain ⟨⟨wd, e⟩, hx, hIs⟩ := hxs.getM hi
      cases hIs with
      | tup hfa hfs =>
        rename_i fa fs
        cases hfs with
        | cons h1 h2 =>
          cases h2 with
          | cons h2 h3 =>
            cases h3
            rename_i vw ve
            refine ⟨fa, _, rfl, SqT.of (gr.gh _ _ hfa), rfl, vw, _, rfl, ve, _, rfl, rfl, ?_⟩
            obtain ⟨ea, es, rfl, hea, hes⟩ := is_list.mp h2
            refine ⟨_, rfl, ea, rfl, ⟨_, SqL.of (gr.gh _ _ hea)⟩, for_list (K := K) (a := ea) (xs := es) (fun j σ H' => ∃ (us : List V) (o3 : Option V), σ = [some (.ref a), some (.ref l), some vw, some (.ref ea), o3] ∧ Gr H G G H' ∧ H' l = some (.lst us) ∧ IsAll G us ((Kp181.ones (r.take i) ++ (e.take j).flatten).map eOne))
              ⟨us, o3, rfl, gr, hl1, by simpa using hA⟩ (fun j σ H' _ ⟨_, _, _, gr, _⟩ => SqL.of (gr.gh _ _ hea)) ?_ ?_⟩
            · rintro j y σ H2 hj ⟨us2, o3, rfl, gr2, hl2, hA2⟩
              obtain ⟨b, hb, hbI⟩ := hes.getM hj
              obtain ⟨ba, bs, rfl, hba, hbs⟩ := is_list.mp hbI
              have la := hA2.len
              have lb := hbs.len
              rw [List.length_map] at la lb
              have m1 : (Kp181.ones (r.take i)).length + e.flatten.length ≤ (Kp181.ones r).length := ones_le hx
              have m2 := flatten_le e (j + 1)
              rw [flatten_at hb] at m2
              simp only [List.length_append] at la m2
              refine ⟨_, rfl, .inl ⟨rfl, _, SqL.of hl2⟩, _, rfl, l, ba, _, _, rfl, rfl, hl2, gr2.gh _ _ hba, sz (by omega), ?_⟩
              refine ⟨us2 ++ bs, _, rfl, gr2.write hl gl, upd_same, ?_⟩
              rw [flatten_at hb, ← List.append_assoc]
              exact hA2.appM hbs
            · rintro σ H2 ⟨us2, o3, rfl, gr2, hl2, hA2⟩
              have le : es.length = e.length := by
                have := hes.len
                rw [List.length_map] at this
                exact this
              refine ⟨us2, _, _, _, rfl, gr2, hl2, ?_⟩
              rw [ones_at hx]
              rw [List.take_of_length_le (l := e) (by omega)] at hA2
              exact hA2
    · rintro σ H' ⟨us, o1, o2, o3, rfl, gr, hl1, hA⟩
      rw [List.take_of_length_le (by omega)] at hA
      refine ⟨_, rfl, k _ _ _ (gr.keep hl gl hl1) ?_⟩
      exact Is.newLst hA gl
/-! ### ranges_of -/
def spRanges : Sp := fun vs H Q _ => ∃ (v : V) (os : List Kp181.One) (G : Hp), vs = [v] ∧ Same G H ∧ Is G v (eList eOne os) ∧ (os.flatMap Kp181.One.ranges).length ≤ 9000 ∧ ∀ v' H' G', Gr H G G' H' → Is G' v' (eList eRange (os.flatMap Kp181.One.ranges)) → Q v' H'
theorem scRanges : FnScope ["ones", "found", "divisor", "is_equal", "ranges"] ["ones"] (defScope sRanges) := ⟨rfl, rfl, rfl, by decide +kernel, rfl, by decide +kernel, by decide +kernel⟩
theorem ok_ranges (D : DefAt K mg "ranges_of" sRanges ["ones"]) (T : Txt K mg) : Callee P w K mg base "ranges_of" 1 ["ones"] spRanges := by
  refine D.ok scRanges (fun vs H Q E h => ?_) (fun f cdv A outer s H vs Q E hr h => ?_)
  · obtain ⟨v, os, G, rfl, _⟩ := h
    rfl
  · obtain ⟨v, os, G, rfl, hG, hT, hlen, k⟩ := h
    refine ⟨_, pss_cons (ps_set (i := 1) scRanges.nd rfl (Or.inl rfl) (pe_lst pa_nil))
      (pss_cons (ps_for PassesOwn.never rfl (pi_list (pv 0)) (pg_tup rfl (pgs_cons (pg_name (i := 2) scRanges.nd rfl (Or.inl rfl)) (pgs_cons (pg_name (i := 3) scRanges.nd rfl (Or.inl rfl)) (pgs_cons (pg_name (i := 4) scRanges.nd rfl (Or.inl rfl)) pgs_nil))))
        (pss_one (ps_expr (pe_bm PySem.F.plainAttrs_list PySem.F.slot_list_extend PySem.F.type_list_extend mt_extend (pv 1) (pa_cons (pv 4) pa_nil)))))
      (pss_one (ps_ret (pv 1)))), ?_⟩
    obtain ⟨a, xs, rfl, ha, hxs⟩ := is_list.mp hT
    have lx := hxs.len
    rw [List.length_map] at lx
    refine ⟨Nat.zero_le _, fun l hl => ?_⟩
    have gl : G l = Option.none := hG.free hl
    have gr0 : Gr H G G (upd H l (.lst [])) := (Gr.refl hG).lay hl
    refine ⟨_, rfl, a, rfl, ⟨_, SqL.of (gr0.gh _ _ ha)⟩, for_list (K := K) (a := a) (xs := xs) (fun i σ H' => ∃ (us : List V) (o1 o2 o3 : Option V), σ = [some (.ref a), some (.ref l), o1, o2, o3] ∧ Gr H G G H' ∧ H' l = some (.lst us) ∧ IsAll G us (((os.take i).flatMap Kp181.One.ranges).map eRange))
      ⟨[], none, none, none, rfl, gr0, upd_same, .nil⟩ (fun i σ H' _ ⟨_, _, _, _, _, gr, _⟩ => SqL.of (gr.gh _ _ ha)) ?_ ?_⟩
    · rintro i x σ H' hi ⟨us, o1, o2, o3, rfl, gr, hl1, hA⟩
      obtain ⟨o, hx, hIs⟩ := hxs.getM hi
      cases hIs with
      | tup hfa hfs =>
        rename_i fa fs
        cases hfs with
        | cons h1 h2 =>
          cases h2 with
          | cons h2 h3 =>
            cases h3 with
            | cons h3 h4 =>
              cases h4
              rename_i v1 v2 v3
              refine ⟨fa, _, rfl, SqT.of (gr.gh _ _ hfa), rfl, v1, _, rfl, v2, _, rfl, v3, _, rfl, rfl, ?_⟩
              obtain ⟨ba, bs, rfl, hba, hbs⟩ := is_list.mp h3
              have la := hA.len
              have lb := hbs.len
              rw [List.length_map] at la lb
              have m1 := flatMap_le (f := Kp181.One.ranges) hx
              refine ⟨_, rfl, .inl ⟨rfl, _, SqL.of hl1⟩, _, rfl, l, ba, _, _, rfl, rfl, hl1, gr.gh _ _ hba, sz (by omega), ?_⟩
              refine ⟨us ++ bs, _, _, _, rfl, gr.write hl gl, upd_same, ?_⟩
              rw [flatMap_at hx]
              exact hA.appM hbs
    · rintro σ H' ⟨us, o1, o2, o3, rfl, gr, hl1, hA⟩
      rw [List.take_of_length_le (by omega)] at hA
      refine ⟨_, rfl, k _ _ _ (gr.keep hl gl hl1) ?_⟩
      exact Is.newLst hA gl
/-! ### the greatest divisor, the least multiple -/
def spGcd : Sp := fun vs H Q _ => ∃ a b : Nat, vs = [.int (a : Int), .int (b : Int)] ∧ Q (.int (Nat.gcd a b : Nat)) H
theorem scGcd : FnScope ["a", "b", "larger", "smaller", "rest"] ["a", "b"] (defScope sGcd) := ⟨rfl, rfl, rfl, by decide +kernel, rfl, by decide +kernel, by decide +kernel⟩
theorem ok_gcd (D : DefAt K mg "greatest_divisor" sGcd ["a", "b"]) : Callee P w K mg base "greatest_divisor" 1 ["a", "b"] spGcd := by
  refine D.ok scGcd (fun vs H Q E h => ?_) (fun f cdv A outer s H vs Q E hr h => ?_)
  · obtain ⟨a, b, rfl, _⟩ := h
    rfl
  · obtain ⟨a, b, rfl, k⟩ := h
    refine ⟨_, pss_cons (ps_set (i := 2) scGcd.nd rfl (Or.inl rfl) (pv 0))
      (pss_cons (ps_set (i := 3) scGcd.nd rfl (Or.inl rfl) (pv 1))
      (pss_cons (ps_while PassesOwn.never (pt_cmpR op_gt (pv 3) pe_int (nomark _))
        (pss_cons (ps_set (i := 4) scGcd.nd rfl (Or.inl rfl) (pe_op op_mod (pv 2) (pv 3)))
        (pss_cons (ps_set (i := 2) scGcd.nd rfl (Or.inl rfl) (pv 3))
        (pss_one (ps_set (i := 3) scGcd.nd rfl (Or.inl rfl) (pv 4))))))
      (pss_one (ps_ret (pv 2))))), ?_⟩
    refine ⟨_, rfl, _, rfl, ?_⟩
    refine ⟨fun m σ H' => ∃ (x y : Nat) (rv : Option V), m = y ∧ σ = [some (.int (a : Int)), some (.int (b : Int)), some (.int (x : Int)), some (.int (y : Int)), rv] ∧ H' = H ∧ Nat.gcd x y = Nat.gcd a b, ⟨_, a, b, none, rfl, rfl, rfl, rfl⟩, ?_⟩
    rintro m σ H' ⟨x, y, rv, rfl, rfl, rfl, hg⟩
    refine ⟨_, rfl, _, _, rfl, rfl, _, rfl, ?_⟩
    by_cases hy : 0 < m
    · refine iteDp (by omega) ?_
      refine ⟨fun σ' H'' => ∃ m', m' < m ∧ ∃ (x y : Nat) (rv : Option V), m' = y ∧ σ' = [some (.int (a : Int)), some (.int (b : Int)), some (.int (x : Int)), some (.int (y : Int)), rv] ∧ H'' = H' ∧ Nat.gcd x y = Nat.gcd a b, fun _ _ h => h, ?_⟩
      refine ⟨_, rfl, _, rfl, _, _, rfl, rfl, by omega, ?_⟩
      refine ⟨_, rfl, _, rfl, x % m, Nat.mod_lt _ hy, m, x % m, _, rfl, rfl, rfl, ?_⟩
      rw [gcd_step, hg]
    · refine iteDn (by omega) ?_
      have e : m = 0 := by omega
      subst e
      rw [Nat.gcd_zero_right] at hg
      refine ⟨_, rfl, ?_⟩
      rw [hg]
      exact k
def spLcm : Sp := fun vs H Q _ => ∃ (v : V) (ns : List Nat) (G : Hp), vs = [v] ∧ Same G H ∧ Is G v (eList eNat ns) ∧ (∀ n ∈ ns, 0 < n ∧ n < 10000) ∧ Q (.int (Kp181.multiple ns : Nat)) H
theorem scLcm : FnScope ["numbers", "multiple", "number"] ["numbers"] (defScope sLcm) := ⟨rfl, rfl, rfl, by decide +kernel, rfl, by decide +kernel, by decide +kernel⟩
theorem ok_lcm (D : DefAt K mg "least_multiple" sLcm ["numbers"]) (CG : Callee P w K mg base "greatest_divisor" 1 ["a", "b"] spGcd) : Callee P w K mg base "least_multiple" 2 ["numbers"] spLcm := by
  refine D.ok scLcm (fun vs H Q E h => ?_) (fun f cdv A outer s H vs Q E hr h => ?_)
  · obtain ⟨v, ns, G, rfl, _⟩ := h
    rfl
  · obtain ⟨v, ns, G, rfl, hG, hT, hn, k⟩ := h
    refine ⟨_, pss_cons (ps_set (i := 1) scLcm.nd rfl (Or.inl rfl) pe_int)
      (pss_cons (ps_for PassesOwn.never rfl (pi_list (pv 0)) (pg_name (i := 2) scLcm.nd rfl (Or.inl rfl))
        (pss_one (ps_set (i := 1) scLcm.nd rfl (Or.inl rfl) (pe_op op_mul (pe_op op_fdiv (pv 1) (pe_fn CG hr rfl (pa_cons (pv 1) (pa_cons (pv 2) pa_nil)))) (pv 2)))))
      (pss_one (ps_ret (pv 1)))), ?_⟩
    obtain ⟨a, xs, rfl, ha, hxs⟩ := is_list.mp hT
    rw [isAll_nats] at hxs
    subst hxs
    have hS : SqL K H a (vB ns) := SqL.of (hG _ _ ha)
    refine ⟨_, rfl, a, rfl, ⟨_, hS⟩, for_list (K := K) (a := a) (xs := vB ns) (fun i σ H' => ∃ d : Option V, σ = [some (.ref a), some (.int (Kp181.multiple (ns.take i) : Nat)), d] ∧ H' = H)
      ⟨none, rfl, rfl⟩ (fun i σ H' _ ⟨_, _, e⟩ => by rw [e]; exact hS) ?_ ?_⟩
    · rintro i y σ H' hi ⟨d, rfl, rfl⟩
      obtain ⟨c, hc, rfl⟩ := vB_get' hi
      have hcc := hn c (List.mem_of_getElem? hc)
      have hgp : 0 < Nat.gcd (Kp181.multiple (ns.take i)) c := Nat.gcd_pos_of_pos_right _ hcc.1
      have hgl : Nat.gcd (Kp181.multiple (ns.take i)) c ≤ c := Nat.gcd_le_right _ hcc.1
      refine ⟨_, rfl, _, rfl, _, rfl, _, _, rfl, ?_⟩
      refine ⟨_, _, rfl, rfl, ⟨by omega, by omega⟩, ?_⟩
      refine ⟨_, rfl, _, _, rfl, rfl, .inr ⟨by omega, by omega⟩, some (.int (c : Int)), ?_, rfl⟩
      have e : ((Kp181.multiple (ns.take i) : Nat) : Int) / ((Nat.gcd (Kp181.multiple (ns.take i)) c : Nat) : Int) * (c : Int) = (Kp181.multiple (ns.take (i + 1)) : Nat) := by
        have e1 : Kp181.multiple (ns.take (i + 1)) = Nat.lcm (Kp181.multiple (ns.take i)) c := by
          unfold Kp181.multiple
          rw [take_snoc hc, List.foldl_append]
          rfl
        rw [e1, ← lcm_step]
        rfl
      show [_, some (V.int (((Kp181.multiple (ns.take i) : Nat) : Int) / ((Nat.gcd (Kp181.multiple (ns.take i)) c : Nat) : Int) * (c : Int))), _] = _
      rw [e]
    · rintro σ H' ⟨d, rfl, rfl⟩
      rw [vB_len, List.take_length]
      exact ⟨_, rfl, k⟩
end
end Wf
end
section
set_option Elab.async false
set_option linter.all false
set_option maxRecDepth 100000
set_option maxHeartbeats 2000000
namespace Wf
open PySem PySem.Spec PyProof.Rows L2
theorem filterMap_at {α β : Type} {f : α → Option β} {l : List α} {i : Nat} {x : α} (h : l[i]? = some x) : (l.take (i + 1)).filterMap f = (l.take i).filterMap f ++ (f x).toList := by
  rw [take_snoc h, List.filterMap_append]
  cases e : f x with
  | none => simp [e]
  | some y => simp [e]
theorem filterMap_len {α β : Type} {f : α → Option β} (l : List α) (i : Nat) : ((l.take i).filterMap f).length ≤ l.length := Nat.le_trans (List.length_filterMap_le _ _) (by simp; omega)
def keyB (b : Tk) : List Key := b.map fun (n : Nat) => Sum.inl (n : Int)
theorem keyB_vB (b : Tk) : (keyB b).map kV = vB b := by
  unfold keyB vB
  rw [List.map_map]
  rfl
theorem keyB_inj : ∀ {b c : Tk}, keyB b = keyB c → b = c
  | [], [], _ => rfl
  | [], _ :: _, h => by cases h
  | _ :: _, [], h => by cases h
  | x :: b, y :: c, h => by
    have h : (Sum.inl (x : Int) : Key) :: keyB b = (Sum.inl (y : Int) : Key) :: keyB c := h
    injection h with h1 h2
    injection h1 with h1
    rw [keyB_inj h2, Int.ofNat.inj h1]
def seenD (ws : List Tk) : List (List Key × V) := ws.map fun b => (keyB b, V.bl true)
theorem seen_has (ws : List Tk) (b : Tk) : (valV (seenD ws) (keyB b)).isSome = decide (b ∈ ws) := by
  rw [← valV_any]
  induction ws with
  | nil => rfl
  | cons c ws ih =>
    show (decide (keyB c = keyB b) || _) = _
    have ih : ((seenD ws).any fun kv => decide (kv.1 = keyB b)) = decide (b ∈ ws) := ih
    rw [show (List.map (fun b => (keyB b, V.bl true)) ws) = seenD ws from rfl, ih]
    by_cases h : b = c
    · subst h; simp
    · have h2 : ¬ keyB c = keyB b := fun z => h (keyB_inj z).symm
      simp [h, h2]
theorem seen_put {ws : List Tk} {b : Tk} (h : b ∉ ws) : putK (seenD ws) (keyB b) (.bl true) = seenD (ws ++ [b]) := by
  have hn : valV (seenD ws) (keyB b) = Option.none := by
    have := seen_has ws b
    rw [decide_eq_false h] at this
    cases e : valV (seenD ws) (keyB b) with
    | none => rfl
    | some v => rw [e] at this; cases this
  rw [putK_new _ hn]
  unfold seenD
  rw [List.map_append]
  rfl
theorem noForm_eq (b : Tk) : ([[110], [111, 114], [97, 110, 100], [111, 116, 104, 101, 114]] : List Tk).contains b = Kp181.noForm b := by
  unfold Kp181.noForm
  rw [List.map_cons, List.map_cons, List.map_cons, List.map_cons, List.map_nil, b_n, b_or, b_and, b_other]
theorem tYes_if {σ : L2.St} {H : Hp} {A B : Hp → Prop} (h : A H) : tYes σ H (fun b H3 => if b = true then A H3 else B H3) := by
  show (if true = true then A H else B H)
  rw [if_pos rfl]
  exact h
theorem pg_tupK {X : Cx} {K : PySem.W.Frag} {pos : Pos} {es : List Expr} {k : Nat} {t : TGs} {n : Nat} (hK : X.K = K) (hc : X.calm = true) (h : PGs X es t) (hn : (assignEach es X.env).length = n := by rfl) (hst : (assignEach es X.env).findIdx? (·.1) = none := by rfl) : PG X (.Tuple es k pos) (gTup K n t) :=
  hK ▸ pg_tup hc h hn hst
theorem ix_tupK {X : Cx} {K : PySem.W.Frag} (h : X.K = K) : IxR X (rIxT K) := h ▸ ix_tup
section
variable {P : Program} {w : World} {K : PySem.W.Frag} {mg : Str → Option Value} {base : Heap}
/-! ### divisors_of -/
def spDivs : Sp := fun vs H Q _ => ∃ (v : V) (os : List Kp181.One) (G : Hp), vs = [v] ∧ Same G H ∧ Is G v (eList eOne os) ∧ os.length ≤ 9000 ∧ ∀ v' H' G', Gr H G G' H' → Is G' v' (eList eNat (os.filterMap Kp181.One.mod)) → Q v' H'
theorem scDivs : FnScope ["ones", "one"] ["ones"] (defScope sDivs) := ⟨rfl, rfl, rfl, by decide +kernel, rfl, by decide +kernel, by decide +kernel⟩
theorem ok_divs (D : DefAt K mg "divisors_of" sDivs ["ones"]) (T : Txt K mg) : Callee P w K mg base "divisors_of" 1 ["ones"] spDivs := by
  refine D.ok scDivs (fun vs H Q E h => ?_) (fun f cdv A outer s H vs Q E hr h => ?_)
  · obtain ⟨v, os, G, rfl, _⟩ := h
    rfl
  · obtain ⟨v, os, G, rfl, hG, hT, hlen, k⟩ := h
    refine ⟨_, pss_one (ps_ret (pe_lc (own := [("one", 1)]) rfl scDivs.nd (pi_list (pv 0)) (blkOk_by rfl)
      (fun _ _ _ _ _ => pg_name (i := 1) scDivs.nd rfl (Or.inl rfl))
      (fun _ _ _ _ _ => pts_one (pt_cmp (pc_notN (pe_ix (ix_tupK (K := K) rfl) (pv 1) pe_int (fun _ _ => rfl)))))
      (fun _ _ _ _ _ => pe_ix (ix_tupK (K := K) rfl) (pv 1) pe_int (fun _ _ => rfl)))), ?_⟩
    obtain ⟨a, xs, rfl, ha, hxs⟩ := is_list.mp hT
    have lx := hxs.len
    rw [List.length_map] at lx
    refine ⟨_, rfl, a, rfl, ⟨_, SqL.of (hG _ _ ha)⟩, fun l hl => ?_⟩
    have gl : G l = Option.none := hG.free hl
    have gr0 : Gr H G G (upd H l (.lst [])) := (Gr.refl hG).lay hl
    refine lc_list (K := K) (a := a) (xs := xs) (fun i H' => ∃ us : List V, Gr H G G H' ∧ H' l = some (.lst us) ∧ IsAll G us (((os.take i).filterMap Kp181.One.mod).map eNat))
      ⟨[], gr0, upd_same, .nil⟩ (fun i H' _ ⟨_, gr, _⟩ => SqL.of (gr.gh _ _ ha)) ?_ ?_
    · rintro i x H' hi ⟨us, gr, hl1, hA⟩
      obtain ⟨o, hx, hIs⟩ := hxs.getM hi
      cases hIs with
      | tup hfa hfs =>
        rename_i fa fs
        cases hfs with
        | @cons v1 fs _ _ h1 h2 =>
          have hSf : SqT K H' fa (v1 :: fs) := SqT.of (gr.gh _ _ hfa)
          refine ⟨rfl, ?_⟩
          refine ⟨_, rfl, fa, _, _, v1, rfl, rfl, hSf, atI_nat (j := 0) rfl, _, rfl, ?_⟩
          have la := hA.len
          rw [List.length_map] at la
          have lf := filterMap_len (f := Kp181.One.mod) os i
          cases em : o.mod with
          | none =>
            rw [em] at h1
            refine iteNp (h1.none_iff.mpr rfl) ?_
            refine ⟨us, gr, hl1, ?_⟩
            rw [filterMap_at hx, em]
            simpa using hA
          | some n =>
            rw [em] at h1
            have h1 : Is G v1 (eNat n) := h1
            refine iteNn (fun z => nomatch h1.none_iff.mp z) ?_
            refine ⟨_, rfl, fa, _, _, v1, rfl, rfl, hSf, atI_nat (j := 0) rfl, us, hl1, szl (by omega), us ++ [v1], gr.write hl gl, upd_same, ?_⟩
            rw [filterMap_at hx, em]
            exact hA.snocM h1
    · rintro H' ⟨us, gr, hl1, hA⟩
      rw [List.take_of_length_le (by omega)] at hA
      exact k _ _ _ (gr.keep hl gl hl1) (Is.newLst hA gl)
/-! ### words_are_forms -/
def spWords : Sp := fun vs H Q _ => ∃ (v : V) (ws : List Tk) (G : Hp), vs = [v] ∧ Same G H ∧ Is G v (eList eTok ws) ∧ ws.length ≤ 9000 ∧ ∀ H', Same H H' → Q (.bl (wordsOk [] ws)) H'
theorem scWords : FnScope ["words", "seen", "word"] ["words"] (defScope sWords) := ⟨rfl, rfl, rfl, by decide +kernel, rfl, by decide +kernel, by decide +kernel⟩
theorem ok_words (D : DefAt K mg "words_are_forms" sWords ["words"]) (T : Txt K mg) : Callee P w K mg base "words_are_forms" 1 ["words"] spWords := by
  refine D.ok scWords (fun vs H Q E h => ?_) (fun f cdv A outer s H vs Q E hr h => ?_)
  · obtain ⟨v, ws, G, rfl, _⟩ := h
    rfl
  · obtain ⟨v, ws, G, rfl, hG, hT, hlen, k⟩ := h
    refine ⟨_, pss_cons (ps_set (i := 1) scWords.nd rfl (Or.inl rfl) pe_dnewT)
      (pss_cons (ps_for PassesOwn.never rfl (pi_list (pv 0)) (pg_name (i := 2) scWords.nd rfl (Or.inl rfl))
        (pss_cons (ps_if (PW.pt (pw_or (pt_cmpR (op_inT hr.units) (pv 2) (pe_tup (pa_cons (pe_gt T.wordN rfl) (pa_cons (pe_gt T.wordOr rfl) (pa_cons (pe_gt T.wordAnd rfl) (pa_cons (pe_gt T.wordOther rfl) pa_nil))))) (by with_unfolding_all rfl)) (pw_or1 (pt_cmp (pc_din (hu_of hr) (pv 2) (pv 1)))))) (pss_one (ps_ret pe_bl)) pss_nil)
        (pss_one (ps_dput (hu_of hr) (pv 1) (pv 2) pe_bl rfl))))
      (pss_one (ps_ret pe_bl))), ?_⟩
    obtain ⟨a, xs, rfl, ha, hxs⟩ := is_list.mp hT
    have lx := hxs.len
    rw [List.length_map] at lx
    intro d hd
    refine ⟨_, rfl, a, rfl, ⟨_, SqL.of ((same_new hd) _ _ (hG _ _ ha))⟩, for_list (K := K) (a := a) (xs := xs) (fun i σ H' => ∃ o : Option V, σ = [some (.ref a), some (.ref d), o] ∧ Same H H' ∧ H' d = some (.dT (seenD (ws.take i))) ∧ wordsOk [] ws = wordsOk (ws.take i) (ws.drop i))
      ⟨none, rfl, same_new hd, upd_same, by simp⟩ (fun i σ H' _ ⟨_, _, s1, _⟩ => SqL.of (s1 _ _ (hG _ _ ha))) ?_ ?_⟩
    · rintro i x σ H' hi ⟨o, rfl, s1, hd1, hk⟩
      obtain ⟨b, hb, hx⟩ := hxs.getM hi
      have hbd := drop_at hb
      obtain ⟨xa, rfl, hxa⟩ := is_tok.mp (hx.up hG)
      refine ⟨_, rfl, ?_⟩
      intro v1 m1 v2 m2 v3 m3 v4 m4
      refine ⟨by show 4 ≤ sizeLine; decide, fun p hp => ?_⟩
      have s2 : Same H (upd H' p (.tup [v1, v2, v3, v4])) := s1.trans (same_new hp)
      have hd2 : (upd H' p (.tup [v1, v2, v3, v4])) d = some (.dT (seenD (ws.take i))) := by rw [upd_ne (ne_of_none hd1 hp)]; exact hd1
      have hx2 : (upd H' p (.tup [v1, v2, v3, v4])) xa = some (.tup ((keyB b).map kV)) := by rw [keyB_vB]; exact s2 _ _ hxa
      refine ⟨p, _, [[110], [111, 114], [97, 110, 100], [111, 116, 104, 101, 114]], b, rfl, SqT.of upd_same, .cons (m1 _) (.cons (m2 _) (.cons (m3 _) (.cons (m4 _) .nil))), ⟨xa, rfl, SqT.of (s2 _ _ hxa)⟩, _, rfl, ?_⟩
      show if (([[110], [111, 114], [97, 110, 100], [111, 116, 104, 101, 114]] : List Tk).contains b) = true then _ else _
      rw [noForm_eq]
      rw [hbd] at hk
      have hk : wordsOk [] ws = if Kp181.noForm b = true ∨ b ∈ ws.take i then false else wordsOk (ws.take i ++ [b]) (ws.drop (i + 1)) := hk
      have bad : (Kp181.noForm b = true ∨ b ∈ ws.take i) → Q (.bl false) (upd H' p (.tup [v1, v2, v3, v4])) := fun h => by
        have k := k _ s2
        rw [hk, if_pos h] at k
        exact k
      by_cases hn : Kp181.noForm b = true
      · exact iteBt hn (iteT (bad (.inl hn)))
      · refine iteBf (Bool.eq_false_iff.mpr hn) ?_
        refine ⟨_, rfl, _, rfl, d, _, rfl, DGet.t hd2 hx2, _, rfl, ?_⟩
        rw [seen_has]
        by_cases hm : b ∈ ws.take i
        · exact iteDp hm (bad (.inr hm))
        · refine iteDn hm ?_
          have hil : i < ws.length := (List.getElem?_eq_some_iff.mp hb).1
          refine ⟨_, rfl, _, rfl, d, _, rfl, DPut.t hd2 hx2 (by unfold seenD; rw [List.length_map, List.length_take]; exact szl (by omega)), ?_⟩
          refine ⟨_, rfl, same_upd s2 hd, ?_, ?_⟩
          · rw [upd_same, seen_put hm, take_snoc hb]
          · rw [hk, if_neg (by rw [not_or]; exact ⟨hn, hm⟩), take_snoc hb]
    · rintro σ H' ⟨o, rfl, s1, hd1, hk⟩
      rw [List.drop_eq_nil_of_le (by omega)] at hk
      have k := k _ s1
      rw [hk] at k
      exact k
/-! ### judged -/
def spJudged : Sp := fun vs H Q _ => ∃ (v : V) (r : Kp181.Rule) (G : Hp), vs = [v] ∧ Same G H ∧ Is G v (eForms r) ∧ r.length ≤ 9000 ∧ (Kp181.ones r).length ≤ 9000 ∧ ((Kp181.ones r).flatMap Kp181.One.ranges).length ≤ 9000 ∧ (∀ n ∈ Kp181.mods r, n < 10000) ∧ ∀ H', Same H H' → Q (.int (mJudged r)) H'
theorem scJudged : FnScope ["forms", "ones", "ranges", "divisors", "form", "first", "last"] ["forms"] (defScope sJudged) := ⟨rfl, rfl, rfl, by decide +kernel, rfl, by decide +kernel, by decide +kernel⟩
theorem any_map_id {α : Type} (p : α → Bool) (l : List α) : (l.map p).any id = l.any p := by
  rw [List.any_map]; rfl
theorem in_zero (ns : List Nat) : inV (.int 0) (vB ns) = decide (0 ∈ ns) := by
  unfold inV vB
  induction ns with
  | nil => rfl
  | cons n ns ih =>
    rw [List.map_cons, List.any_cons, ih]
    show (((n : Int) == 0) || decide (0 ∈ ns)) = _
    by_cases h : n = 0
    · subst h; simp
    · have : ((n : Int) == 0) = false := beq_eq_false_iff_ne.mpr (by omega)
      have h2 : ¬ 0 = n := fun z => h z.symm
      simp [this, h2]
theorem flat_vB (ns : List Nat) : (vB ns).all flatV = true := by
  unfold vB
  rw [List.all_map]
  exact List.all_eq_true.mpr fun _ _ => rfl
theorem ok_judged (D : DefAt K mg "judged" sJudged ["forms"]) (T : Txt K mg) (C1 : Callee P w K mg base "ones_of" 1 ["forms"] spOnes) (C2 : Callee P w K mg base "ranges_of" 1 ["ones"] spRanges) (C3 : Callee P w K mg base "divisors_of" 1 ["ones"] spDivs)
    (C4 : Callee P w K mg base "words_are_forms" 1 ["words"] spWords) (C5 : Callee P w K mg base "least_multiple" 2 ["numbers"] spLcm) : Callee P w K mg base "judged" 3 ["forms"] spJudged := by
  refine D.ok scJudged (fun vs H Q E h => ?_) (fun f cdv A outer s H vs Q E hr h => ?_)
  · obtain ⟨v, r, G, rfl, _⟩ := h
    rfl
  · obtain ⟨v, r, G, rfl, hG, hT, hl1, hl2, hl3, hmod, k⟩ := h
    have hr1 : Room 1 _ := hr.mono (by decide)
    refine ⟨_, pss_cons (ps_set (i := 1) scJudged.nd rfl (Or.inl rfl) (pe_fn C1 hr1 rfl (pa_cons (pv 0) pa_nil)))
      (pss_cons (ps_set (i := 2) scJudged.nd rfl (Or.inl rfl) (pe_fn C2 hr1 rfl (pa_cons (pv 1) pa_nil)))
      (pss_cons (ps_set (i := 3) scJudged.nd rfl (Or.inl rfl) (pe_fn C3 hr1 rfl (pa_cons (pv 1) pa_nil)))
      (pss_cons (ps_if (pt_not (pt_val (pe_fn C4 hr1 rfl (pa_cons (pe_lc (own := [("form", 4)]) rfl scJudged.nd (pi_list (pv 0)) (blkOk_by rfl)
          (fun _ _ _ _ _ => pg_name (i := 4) scJudged.nd rfl (Or.inl rfl)) (fun _ _ _ _ _ => pts_nil) (fun _ _ _ _ _ => pe_ix (ix_tupK (K := K) rfl) (pv 4) pe_int (fun _ _ => rfl))) pa_nil)))) (pss_one (ps_ret (pe_gi T.wrong rfl))) pss_nil)
      (pss_cons (ps_if (PW.pt (pw_or (pt_cmpR op_gt (pe_len T.len rfl (pv 0)) (pe_gi T.mostForms rfl) (nomark _)) (pw_or1 (pt_cmpR op_gt (pe_len T.len rfl (pv 2)) (pe_gi T.mostRanges rfl) (nomark _))))) (pss_one (ps_ret (pe_gi T.tooMuch rfl))) pss_nil)
      (pss_cons (ps_if (PW.pt (pw_or (pt_cmpR op_in_seq pe_int (pv 3) (by with_unfolding_all rfl)) (pw_or1 (pt_val (pe_callB (cr_any rfl) rfl T.any boot_any (pa_cons (pe_lc (own := [("first", 5), ("last", 6)]) rfl scJudged.nd (pi_list (pv 2)) (blkOk_by rfl)
          (fun _ _ _ _ _ => pg_tupK (K := K) (n := 2) rfl rfl (pgs_cons (pg_name (i := 5) scJudged.nd rfl (Or.inl rfl)) (pgs_cons (pg_name (i := 6) scJudged.nd rfl (Or.inl rfl)) pgs_nil))) (fun _ _ _ _ _ => pts_nil) (fun _ _ _ _ _ => pe_cmpR op_lt (pv 6) (pv 5) (nomark _))) pa_nil)))))) (pss_one (ps_ret (pe_gi T.wrong rfl))) pss_nil)
      (pss_cons (ps_if (pt_cmpR op_gt (pe_fn C5 hr rfl (pa_cons (pv 3) pa_nil)) (pe_gi T.mostMultiple rfl) (nomark _)) (pss_one (ps_ret (pe_gi T.tooMuch rfl))) pss_nil)
      (pss_one (ps_ret (pe_len T.len rfl (pv 0)))))))))), ?_⟩
    have gr0 : Gr H G G H := Gr.refl hG
    refine ⟨_, rfl, v, r, G, rfl, hG, hT, hl2, fun v1 H1 G1 gr1 hv1 => ?_⟩
    refine ⟨_, rfl, v1, _, G1, rfl, gr1.gh, hv1, hl3, fun v2 H2 G2 gr2 hv2 => ?_⟩
    refine ⟨_, rfl, v1, _, G2, rfl, gr2.gh, hv1.up gr2.gg, hl2, fun v3 H3 G3 gr3 hv3 => ?_⟩
    have gr13 := (gr1.trans gr2).trans gr3
    have hv2 : Is G3 v2 (eList eRange ((Kp181.ones r).flatMap Kp181.One.ranges)) := hv2.up gr3.gg
    have hv0 : Is G3 v (eForms r) := hT.up gr13.gg
    obtain ⟨a, xs, rfl, ha, hxs⟩ := is_list.mp hv0
    obtain ⟨ra, rs, rfl, hra, hrs⟩ := is_list.mp hv2
    obtain ⟨da, ds, rfl, hda, hds⟩ := is_list.mp hv3
    rw [isAll_nats] at hds
    subst hds
    have lx := hxs.len
    have lr := hrs.len
    rw [List.length_map] at lx lr
    have hS : SqL K H3 a xs := SqL.of (gr13.gh _ _ ha)
    refine ⟨_, rfl, a, rfl, ⟨_, hS⟩, fun l hl => ?_⟩
    have gl : G3 l = Option.none := gr13.freshG hl
    refine lc_list (K := K) (a := a) (xs := xs) (fun i H' => ∃ us : List V, Gr H3 G3 G3 H' ∧ H' l = some (.lst us) ∧ IsAll G3 us (((r.map Prod.fst).take i).map eTok))
      ⟨[], (Gr.refl gr13.gh).lay hl, upd_same, .nil⟩ (fun i H' _ ⟨_, gr, _⟩ => SqL.of (gr.gh _ _ ha)) ?_ ?_
    · rintro i x H' hi ⟨us, gr, hu1, hA⟩
      obtain ⟨⟨wd, e⟩, hx, hIs⟩ := hxs.getM hi
      have hil : i < r.length := (List.getElem?_eq_some_iff.mp hx).1
      cases hIs with
      | tup hfa hfs =>
        rename_i fa fs
        cases hfs with
        | @cons vw fs _ _ h1 h2 =>
          refine ⟨rfl, tYes_if ?_⟩
          have la := hA.len
          rw [List.length_map, List.length_take] at la
          refine ⟨_, rfl, fa, _, _, vw, rfl, rfl, SqT.of (gr.gh _ _ hfa), atI_nat (j := 0) rfl, us, hu1, szl (by omega), us ++ [vw], gr.write hl gl, upd_same, ?_⟩
          rw [take_snoc (x := wd) (by rw [List.getElem?_map, hx]; rfl)]
          exact hA.snocM h1
    · rintro H4 ⟨us, gr4, hu1, hA⟩
      rw [List.take_of_length_le (by rw [List.length_map]; omega)] at hA
      have gr5 : Gr H3 G3 (upd G3 l (.lst us)) H4 := gr4.keep hl gl hu1
      refine ⟨.ref l, r.map Prod.fst, upd G3 l (.lst us), rfl, gr5.gh, Is.newLst hA gl, by rw [List.length_map]; exact hl1, fun H5 s5 => ?_⟩
      have s35 : Same H3 H5 := gr4.hh.trans s5
      have s05 : Same H H5 := gr13.hh.trans s35
      refine ⟨_, rfl, ?_⟩
      by_cases hw : wordsOk [] (r.map Prod.fst) = false
      · refine iteBt (by rw [hw]; rfl) ?_
        have k := k _ s05
        unfold mJudged at k
        rw [if_pos hw] at k
        exact k
      · refine iteBf (by rw [Bool.not_eq_false _ |>.mp hw]; rfl) ?_
        have hS5 : SqL K H5 a xs := s35.seq hS
        have hR5 : SqL K H5 ra rs := s35.seq (SqL.of (gr13.gh _ _ hra))
        have hD5 : SqL K H5 da (vB (Kp181.mods r)) := s35.seq (SqL.of (gr13.gh _ _ hda))
        refine ⟨_, rfl, a, _, rfl, .inl hS5, _, _, rfl, rfl, _, rfl, ?_⟩
        have big : (8 < r.length ∨ 64 < ((Kp181.ones r).flatMap Kp181.One.ranges).length) → Q (.int (-28)) H5 := fun h => by
          have k := k _ s05
          unfold mJudged at k
          rw [if_neg hw, if_pos h] at k
          exact k
        by_cases h8 : 8 < r.length
        · exact iteDp (by omega) (iteT (big (.inl h8)))
        · refine iteDn (by omega) ?_
          refine ⟨_, rfl, ra, _, rfl, .inl hR5, _, _, rfl, rfl, _, rfl, ?_⟩
          by_cases h64 : 64 < ((Kp181.ones r).flatMap Kp181.One.ranges).length
          · exact iteDp (by omega) (big (.inr h64))
          · refine iteDn (by omega) ?_
            have hnb : ¬ (8 < r.length ∨ 64 < ((Kp181.ones r).flatMap Kp181.One.ranges).length) := by omega
            refine ⟨_, rfl, da, _, rfl, .inl hD5, rfl, flat_vB _, _, rfl, ?_⟩
            show if inV (.int 0) (vB (Kp181.mods r)) = true then _ else _
            rw [in_zero]
            have wrongs : ∀ H6, Same H5 H6 → (0 ∈ Kp181.mods r ∨ ((Kp181.ones r).flatMap Kp181.One.ranges).any (fun x => decide (x.2 < x.1)) = true) → Q (.int (-22)) H6 := fun H6 s6 h => by
              have k := k _ (s05.trans s6)
              unfold mJudged at k
              rw [if_neg hw, if_neg hnb, if_pos h] at k
              exact k
            by_cases hz : 0 ∈ Kp181.mods r
            · exact iteDp hz (iteT (wrongs H5 (Same.refl _) (.inl hz)))
            · refine iteDn hz ?_
              refine ⟨_, rfl, ra, rfl, ⟨_, hR5⟩, fun m hm => ?_⟩
              refine lc_list (K := K) (a := ra) (xs := rs) (fun i H' => Same H5 H' ∧ H' m = some (.lst ((((((Kp181.ones r).flatMap Kp181.One.ranges).take i).map fun x => decide (x.2 < x.1))).map V.bl)))
                ⟨same_new hm, upd_same⟩ (fun i H' _ ⟨s1, _⟩ => s1.seq hR5) ?_ ?_
              · rintro i x H' hi ⟨s6, hm1⟩
                obtain ⟨⟨p1, p2⟩, hx, hIs⟩ := hrs.getM hi
                have hil : i < rs.length := (List.getElem?_eq_some_iff.mp hi).1
                cases hIs with
                | tup hfa hfs =>
                  rename_i fa fs
                  cases hfs with
                  | cons h1 h2 =>
                    cases h2 with
                    | cons h2 h3 =>
                      cases h3
                      cases h1
                      cases h2
                      refine ⟨fa, _, rfl, SqT.of (s6 _ _ (s35 _ _ (gr13.gh _ _ hfa))), rfl, _, _, rfl, _, _, rfl, rfl, rfl, tYes_if ?_⟩
                      refine ⟨_, rfl, _, rfl, _, _, rfl, rfl, _, hm1, ?_, same_upd s6 hm, ?_⟩
                      · rw [List.length_map, List.length_map, List.length_take]
                        exact szl (by omega)
                      · rw [upd_same, take_snoc hx, List.map_append, List.map_append]
                        show some (HO.lst (_ ++ [V.bl (decide ((p2 : Int) < (p1 : Int)))])) = some (HO.lst (_ ++ [V.bl (decide (p2 < p1))]))
                        rw [show decide ((p2 : Int) < (p1 : Int)) = decide (p2 < p1) from decide_eq_decide.mpr (by omega)]
              · rintro H6 ⟨s6, hm1⟩
                rw [List.take_of_length_le (by omega)] at hm1
                refine ⟨m, _, rfl, SqL.of hm1, _, rfl, ?_⟩
                rw [any_map_id]
                by_cases ha : ((Kp181.ones r).flatMap Kp181.One.ranges).any (fun x => decide (x.2 < x.1)) = true
                · exact iteBt ha (wrongs H6 s6 (.inr ha))
                · refine iteBf (Bool.eq_false_iff.mpr ha) ?_
                  have hnw : ¬ (0 ∈ Kp181.mods r ∨ ((Kp181.ones r).flatMap Kp181.One.ranges).any (fun x => decide (x.2 < x.1)) = true) := by
                    rw [not_or]; exact ⟨hz, ha⟩
                  refine ⟨_, rfl, .ref da, Kp181.mods r, G3, rfl, (gr13.gh.trans s35).trans s6, .lst hda ((isAll_nats _ _).mpr rfl), fun n hn => ⟨Nat.pos_of_ne_zero fun z => hz (z ▸ hn), hmod n hn⟩, ?_⟩
                  refine ⟨_, _, rfl, rfl, _, rfl, ?_⟩
                  by_cases ht : 10000 < Kp181.multiple (Kp181.mods r)
                  · refine iteDp (by omega) ?_
                    have k := k _ (s05.trans s6)
                    unfold mJudged at k
                    rw [if_neg hw, if_neg hnb, if_neg hnw, if_pos ht] at k
                    exact k
                  · refine iteDn (by omega) ?_
                    refine ⟨_, rfl, a, _, rfl, .inl (s6.seq hS5), ?_⟩
                    have k := k _ (s05.trans s6)
                    unfold mJudged at k
                    rw [if_neg hw, if_neg hnb, if_neg hnw, if_neg ht] at k
                    rw [lx]
                    exact k
/-! ### pl_read -/
def spRead (K : PySem.W.Frag) : Sp := fun vs H Q _ => ∃ (a : Addr) (t : List Nat), vs = [.ref a] ∧ SqL K H a (vB t) ∧ t.length ≤ 2100 ∧ ∀ (H' : Hp) (p : Addr), Same H H' → H' p = some (.lst [.int 0, .int (plRead t)]) → Q (.ref p) H'
theorem scRead : FnScope ["t", "forms"] ["t"] (defScope sRead) := ⟨rfl, rfl, rfl, by decide +kernel, rfl, by decide +kernel, by decide +kernel⟩
theorem ok_read {f : Addr} {fd : FuncData} (F : Fun K "pl_read" "pl_read" sRead f fd) (T : Txt K mg) (C1 : Callee P w K mg base "read_rule" 11 ["t"] (spRule K)) (C2 : Callee P w K mg base "judged" 3 ["forms"] spJudged) : FnOk P w K mg base CX0 12 f fd ["t"] (spRead K) := by
  refine F.ok scRead (fun vs H Q E h => ?_) (fun cdv A outer s H vs Q E hr h => ?_)
  · obtain ⟨a, t, rfl, _⟩ := h
    rfl
  · obtain ⟨a, t, rfl, hS, hlen, k⟩ := h
    have hr3 : Room 3 _ := hr.mono (by decide)
    refine ⟨_, pss_cons (ps_if (pt_cmpR op_gt (pe_len T.len rfl (pv 0)) (pe_gi T.mostBytes rfl) (nomark _)) (pss_one (ps_ret (pe_lst (pa_cons pe_int (pa_cons (pe_gi T.tooMuch rfl) pa_nil))))) pss_nil)
      (pss_cons (ps_set (i := 1) scRead.nd rfl (Or.inl rfl) (pe_fn C1 hr rfl (pa_cons (pv 0) pa_nil)))
      (pss_cons (ps_if (pt_cmp (pc_isN (pv 1))) (pss_one (ps_ret (pe_lst (pa_cons pe_int (pa_cons (pe_gi T.noRule rfl) pa_nil))))) pss_nil)
      (pss_one (ps_ret (pe_lst (pa_cons pe_int (pa_cons (pe_fn C2 hr3 rfl (pa_cons (pv 1) pa_nil)) pa_nil))))))), ?_⟩
    have hv := vB_len t
    refine ⟨_, rfl, a, _, rfl, .inl hS, _, _, rfl, rfl, _, rfl, ?_⟩
    by_cases hb : 2048 < t.length
    · refine iteDp (by omega) ?_
      refine ⟨by show 2 ≤ sizeLine; decide, fun p hp => k _ p (same_new hp) ?_⟩
      unfold plRead
      rw [if_pos hb]
      exact upd_same
    · refine iteDn (by omega) ?_
      refine ⟨_, rfl, a, t, fun _ => Option.none, rfl, hS, hlen, (fun b o e => by cases e), fun v1 H1 G1 gr1 hv1 => ?_⟩
      refine ⟨_, rfl, _, rfl, ?_⟩
      have ep : plRead t = match mRead t with
          | none => -71
          | some r => mJudged r := by unfold plRead; rw [if_neg hb] <;> rfl
      cases em : mRead t with
      | none =>
        rw [em] at hv1 ep
        refine iteDp (hv1.none_iff.mpr rfl) ?_
        refine ⟨by show 2 ≤ sizeLine; decide, fun p hp => k _ p (gr1.hh.trans (same_new hp)) ?_⟩
        rw [ep]
        exact upd_same
      | some r =>
        rw [em] at hv1 ep
        have hv1 : Is G1 v1 (eForms r) := hv1
        refine iteDn (fun z => nomatch hv1.none_iff.mp z) ?_
        unfold mRead at em
        cases et : toks t with
        | none => rw [et] at em; cases em
        | some ts =>
          rw [et] at em
          have em : mRule ts = some r := em
          obtain ⟨hw, hts⟩ := toks_wt _ t (Nat.le_refl _) ts et
          obtain ⟨z1, z2, z3⟩ := rule_size em
          rw [← ones_size] at z2
          rw [← oranges_size] at z3
          refine ⟨_, rfl, v1, r, G1, rfl, gr1.gh, hv1, by omega, by omega, by omega, rule_mod hw em, fun H2 s2 => ?_⟩
          refine ⟨by show 2 ≤ sizeLine; decide, fun p hp => k _ p ((gr1.hh.trans s2).trans (same_new hp)) ?_⟩
          rw [ep]
          exact upd_same
theorem read_of (D : DefAt K mg "pl_read" sRead ["t"]) (T : Txt K mg) (C1 : Callee P w K mg base "read_rule" 11 ["t"] (spRule K)) (C2 : Callee P w K mg base "judged" 3 ["forms"] spJudged) : Callee P w K mg base "pl_read" 12 ["t"] (spRead K) := by
  obtain ⟨f, fd, F, hm, hb⟩ := D.ex
  exact ⟨f, fd, ok_read F T C1 C2, hm, F.kp, hb⟩
end
end Wf
end
section
set_option Elab.async false
set_option linter.all false
set_option maxRecDepth 100000
set_option maxHeartbeats 2000000
namespace Wf
open PySem PySem.Spec PyProof.Rows L2
section
variable {K : PySem.W.Frag} {h : Heap} {mg : Str → Option Value}
theorem gi_mk {x : Str} {i : Int} {t : Tok} (X : K.In h) (G : h.Ns mainGlobals mg) (c : PySem.W.nsIn K mainGlobals x = some (some (.int i t))) : GI mg x i := ⟨t, PySem.W.mg_of X G c⟩
theorem gt_mk {x : Str} {b : Tk} {a : Addr} {e : Option Addr} {its : Array Value} {n : Nat} {sl : Array (Option Value)} (X : K.In h) (G : h.Ns mainGlobals mg) (c : PySem.W.nsIn K mainGlobals x = some (some (.ref a))) (d : K.lookup a = some ⟨.type "tuple", e, .seq its n, sl⟩) (v : Vals (vB b) its.toList) (hz : b.length ≤ 1000) : GT K mg x b :=
  ⟨a, PySem.W.mg_of X G c, fun H => .inr ⟨_, its, n, d, rfl, rfl, by
    have := v.length
    rw [vB_len] at this
    rw [← Array.length_toList, ← this]
    exact sz (by omega), v⟩⟩
theorem def_mk {x : Str} {st : Stmt} {ps : List Str} {f : Addr} {oc : Value} {od an : Option Addr} {osl : Array (Option Value)} {kV doc pm cdv ct : Value} (X : K.In h) (G : h.Ns mainGlobals mg) (a : PySem.W.nsIn K mainGlobals x = some (some (.ref f)))
    (l : K.lookup f = some ⟨oc, od, .func (PySem.W.fnOf x x (defArgs st) (defBody st) (defScope st) .none kV doc pm an cdv ct), osl⟩) (c : PySem.W.codeIn K cdv x = true) (k : PySem.W.keepIn K (.ref f) = true)
    (hb : ∀ (kV doc pm : Value) (an : Option Addr) (cdv ct : Value) (us : List Value), us.length = ps.length → bindArgs (PySem.W.fnOf x x (defArgs st) (defBody st) (defScope st) .none kV doc pm an cdv ct) ⟨us, []⟩ = pure (ps.zip us)) : DefAt K mg x st ps :=
  have F := fun_mk (st := st) l c k
  ⟨⟨f, _, F, PySem.W.mg_of X G a, F.binds hb⟩⟩
structure Defs (K : PySem.W.Frag) (mg : Str → Option Value) : Prop where
  run : DefAt K mg "run_size" sRun ["t", "start", "low", "high"]
  size : DefAt K mg "token_size" sSize ["t", "start"]
  toks : DefAt K mg "tokens_of" sToks ["t"]
  isW : DefAt K mg "is_word" sIsW ["token"]
  isN : DefAt K mg "is_number" sIsN ["token"]
  num : DefAt K mg "number_of" sNum ["token"]
  part : DefAt K mg "parted_at" sPart ["tokens", "mark"]
  parts : DefAt K mg "read_parts" sParts ["tokens", "mark", "read_part"]
  range : DefAt K mg "read_range" sRange ["tokens"]
  one : DefAt K mg "read_one" sOne ["tokens"]
  both : DefAt K mg "read_both" sBoth ["tokens"]
  either : DefAt K mg "read_either" sEither ["tokens"]
  form : DefAt K mg "read_form" sForm ["tokens"]
  rule : DefAt K mg "read_rule" sRule ["t"]
  ones : DefAt K mg "ones_of" sOnes ["forms"]
  ranges : DefAt K mg "ranges_of" sRanges ["ones"]
  divs : DefAt K mg "divisors_of" sDivs ["ones"]
  words : DefAt K mg "words_are_forms" sWords ["words"]
  gcd : DefAt K mg "greatest_divisor" sGcd ["a", "b"]
  lcm : DefAt K mg "least_multiple" sLcm ["numbers"]
  judged : DefAt K mg "judged" sJudged ["forms"]
theorem rule_ok {P : Program} {w : World} {base : Heap} (T : Txt K mg) (D : Defs K mg) : Callee P w K mg base "read_rule" 11 ["t"] (spRule K) := by
  have cW := ok_isW (P := P) (w := w) (base := base) D.isW T
  have cN := ok_isN (P := P) (w := w) (base := base) D.isN T
  have cM := ok_num (P := P) (w := w) (base := base) D.num T
  have cP := ok_part (P := P) (w := w) (base := base) D.part T
  have c1 := ok_range D.range T cN cM
  have c2 := ok_one D.one T cN cM (parts_of D.parts T cP c1 (fun _ z => nomatch z) (by decide))
  have c3 := ok_both D.both T (parts_of D.parts T cP c2 (fun _ z => nomatch z) (by decide))
  have c4 := ok_either D.either T (parts_of D.parts T cP c3 (fun _ z => nomatch z) (by decide))
  have c5 := ok_form D.form T cW c4
  exact ok_rule D.rule T (ok_toks D.toks T (ok_size D.size T (ok_run D.run T))) (parts_of D.parts T cP c5 (fun _ z => nomatch z) (by decide))
theorem judged_ok {P : Program} {w : World} {base : Heap} (T : Txt K mg) (D : Defs K mg) : Callee P w K mg base "judged" 3 ["forms"] spJudged :=
  ok_judged D.judged T (ok_ones D.ones T) (ok_ranges D.ranges T) (ok_divs D.divs T) (ok_words D.words T) (ok_lcm D.lcm (ok_gcd D.gcd))
end
theorem of_bytes : ∀ (l : List Int), (∀ x ∈ l, 0 ≤ x) → (l.map Int.toNat).map Int.ofNat = l
  | [], _ => rfl
  | x :: l, h => by
    rw [List.map_cons, List.map_cons, of_bytes l fun y hy => h y (List.mem_cons_of_mem _ hy)]
    congr 1
    exact Int.toNat_of_nonneg (h x List.mem_cons_self)
theorem vB_ints (t : List Nat) : vB t = (t.map Int.ofNat).map V.int := by
  unfold vB
  rw [List.map_map]
  rfl
end Wf
end
set_option Elab.async false
set_option linter.all false
set_option maxRecDepth 100000
set_option maxHeartbeats 2000000
namespace Wf
open PySem PySem.Spec PyProof.Rows L2
section
variable {P : Program} {w : World} {K : PySem.W.Frag} {mg : Str → Option Value} {base : Heap}
theorem all_map_id {α : Type} (p : α → Bool) (l : List α) : (l.map p).all id = l.all p := by
  rw [List.all_map]; rfl
/-! ### in_ranges -/
def inR (x : Nat) (rs : List (Nat × Nat)) : Bool := rs.any fun r => decide (r.1 ≤ x) && decide (x ≤ r.2)
def spIn : Sp := fun vs H Q _ => ∃ (x : Nat) (v : V) (rs : List (Nat × Nat)) (G : Hp), vs = [.int (x : Int), v] ∧ Same G H ∧ Is G v (eList eRange rs) ∧ rs.length ≤ 3000 ∧ ∀ H', Same H H' → Q (.bl (inR x rs)) H'
theorem scIn : FnScope ["value", "ranges", "first", "last"] ["value", "ranges"] (defScope sIn) := ⟨rfl, rfl, rfl, by decide +kernel, rfl, by decide +kernel, by decide +kernel⟩
theorem ok_in (D : DefAt K mg "in_ranges" sIn ["value", "ranges"]) (T : Txt K mg) : Callee P w K mg base "in_ranges" 1 ["value", "ranges"] spIn := by
  refine D.ok scIn (fun vs H Q E h => ?_) (fun f cdv A outer s H vs Q E hr h => ?_)
  · obtain ⟨x, v, rs, G, rfl, _⟩ := h
    rfl
  · obtain ⟨x, v, rs, G, rfl, hG, hT, hlen, k⟩ := h
    refine ⟨_, pss_one (ps_ret (pe_callB (cr_any rfl) rfl T.any boot_any (pa_cons (pe_lc (own := [("first", 2), ("last", 3)]) rfl scIn.nd (pi_list (pv 1)) (blkOk_by rfl)
      (fun _ _ _ _ _ => pg_tupK (K := K) (n := 2) rfl rfl (pgs_cons (pg_name (i := 2) scIn.nd rfl (Or.inl rfl)) (pgs_cons (pg_name (i := 3) scIn.nd rfl (Or.inl rfl)) pgs_nil))) (fun _ _ _ _ _ => pts_nil) (fun _ _ _ _ _ => pe_chain op_le op_le (pv 2) (pv 0) (pv 3))) pa_nil))), ?_⟩
    obtain ⟨ra, us, rfl, hra, hrs⟩ := is_list.mp hT
    have lr := hrs.len
    rw [List.length_map] at lr
    have hR : SqL K H ra us := SqL.of (hG _ _ hra)
    refine ⟨_, rfl, ra, rfl, ⟨_, hR⟩, fun m hm => ?_⟩
    refine lc_list (K := K) (a := ra) (xs := us) (fun i H' => Same H H' ∧ H' m = some (.lst (((rs.take i).map fun r => decide (r.1 ≤ x) && decide (x ≤ r.2)).map V.bl)))
      ⟨same_new hm, upd_same⟩ (fun i H' _ ⟨s1, _⟩ => s1.seq hR) ?_ ?_
    · rintro i y H' hi ⟨s1, hm1⟩
      obtain ⟨⟨p1, p2⟩, hx, hIs⟩ := hrs.getM hi
      have hil : i < us.length := (List.getElem?_eq_some_iff.mp hi).1
      have hsz : (((rs.take i).map fun r => decide (r.1 ≤ x) && decide (x ≤ r.2)).map V.bl).length < sizeLine := by
        rw [List.length_map, List.length_map, List.length_take]
        exact szl (by omega)
      cases hIs with
      | tup hfa hfs =>
        rename_i fa fs
        cases hfs with
        | cons h1 h2 =>
          cases h2 with
          | cons h2 h3 =>
            cases h3
            cases h1
            cases h2
            refine ⟨fa, _, rfl, SqT.of (s1 _ _ (hG _ _ hfa)), rfl, _, _, rfl, _, _, rfl, rfl, rfl, tYes_if ?_⟩
            refine ⟨_, rfl, _, rfl, _, _, rfl, rfl, _, rfl, ?_⟩
            by_cases c1 : p1 ≤ x
            · refine iteDp (by omega) ?_
              refine ⟨_, rfl, _, _, rfl, rfl, _, hm1, hsz, same_upd s1 hm, ?_⟩
              rw [upd_same, take_snoc hx, List.map_append, List.map_append]
              show some (HO.lst (_ ++ [V.bl (decide ((x : Int) ≤ (p2 : Int)))])) = some (HO.lst (_ ++ [V.bl (decide (p1 ≤ x) && decide (x ≤ p2))]))
              rw [show decide ((x : Int) ≤ (p2 : Int)) = decide (x ≤ p2) from decide_eq_decide.mpr (by omega), decide_eq_true c1, Bool.true_and]
            · refine iteDn (by omega) ?_
              refine ⟨_, hm1, hsz, same_upd s1 hm, ?_⟩
              rw [upd_same, take_snoc hx, List.map_append, List.map_append]
              show some (HO.lst (_ ++ [V.bl false])) = some (HO.lst (_ ++ [V.bl (decide (p1 ≤ x) && decide (x ≤ p2))]))
              rw [decide_eq_false c1, Bool.false_and]
    · rintro H6 ⟨s6, hm1⟩
      rw [List.take_of_length_le (by omega)] at hm1
      refine ⟨m, _, rfl, SqL.of hm1, ?_⟩
      rw [any_map_id]
      exact k _ s6
/-! ### one_holds -/
def OneOk (o : Kp181.One) : Prop := o.ranges.length ≤ 3000 ∧ ∀ k, o.mod = some k → 0 < k
def spOneH : Sp := fun vs H Q _ => ∃ (vd v : V) (o : Kp181.One) (x : Nat) (G : Hp), vs = [vd, .bl o.inside, v, .int (x : Int)] ∧ Same G H ∧ Is G vd (eOpt eNat o.mod) ∧ Is G v (eList eRange o.ranges) ∧ OneOk o ∧ ∀ H', Same H H' → Q (.bl (Kp181.holds x o)) H'
theorem scOneH : FnScope ["divisor", "is_equal", "ranges", "number", "value"] ["divisor", "is_equal", "ranges", "number"] (defScope sOneH) := ⟨rfl, rfl, rfl, by decide +kernel, rfl, by decide +kernel, by decide +kernel⟩
theorem ok_oneH (D : DefAt K mg "one_holds" sOneH ["divisor", "is_equal", "ranges", "number"]) (C : Callee P w K mg base "in_ranges" 1 ["value", "ranges"] spIn) : Callee P w K mg base "one_holds" 2 ["divisor", "is_equal", "ranges", "number"] spOneH := by
  refine D.ok scOneH (fun vs H Q E h => ?_) (fun f cdv A outer s H vs Q E hr h => ?_)
  · obtain ⟨vd, v, o, x, G, rfl, _⟩ := h
    rfl
  · obtain ⟨vd, v, o, x, G, rfl, hG, hd, hT, ho, k⟩ := h
    refine ⟨_, pss_cons (ps_set (i := 4) scOneH.nd rfl (Or.inl rfl) (pe_ifExp (pt_cmp (pc_isN (pv 0))) (pv 3) (pe_op op_mod (pv 3) (pv 0))))
      (pss_one (ps_ret (pe_cmpR op_eq (pe_fn C hr rfl (pa_cons (pv 4) (pa_cons (pv 2) pa_nil))) (pv 1) (nomark _)))), ?_⟩
    refine ⟨_, rfl, _, rfl, ?_⟩
    cases em : o.mod with
    | none =>
      rw [em] at hd
      refine iteDp (hd.none_iff.mpr rfl) ?_
      refine ⟨_, rfl, _, rfl, _, rfl, x, v, o.ranges, G, rfl, hG, hT, ho.1, fun H1 s1 => ?_⟩
      refine ⟨_, rfl, rfl, ?_⟩
      have k := k _ s1
      unfold Kp181.holds at k
      rw [em] at k
      rw [dec_bl]
      exact k
    | some n =>
      rw [em] at hd
      have hd : Is G vd (eNat n) := hd
      have hn := ho.2 n em
      refine iteDn (fun z => nomatch hd.none_iff.mp z) ?_
      cases hd
      refine ⟨_, rfl, _, rfl, _, _, rfl, rfl, by omega, ?_⟩
      refine ⟨_, rfl, _, rfl, x % n, v, o.ranges, G, rfl, hG, hT, ho.1, fun H1 s1 => ?_⟩
      refine ⟨_, rfl, rfl, ?_⟩
      have k := k _ s1
      unfold Kp181.holds at k
      rw [em] at k
      rw [dec_bl]
      exact k
/-! ### both_holds -/
def spBothH : Sp := fun vs H Q _ => ∃ (v : V) (b : List Kp181.One) (x : Nat) (G : Hp), vs = [v, .int (x : Int)] ∧ Same G H ∧ Is G v (eBoth b) ∧ b.length ≤ 3000 ∧ (∀ o ∈ b, OneOk o) ∧ ∀ H', Same H H' → Q (.bl (b.all (Kp181.holds x))) H'
theorem scBothH : FnScope ["both", "number", "divisor", "is_equal", "ranges"] ["both", "number"] (defScope sBothH) := ⟨rfl, rfl, rfl, by decide +kernel, rfl, by decide +kernel, by decide +kernel⟩
theorem ok_bothH (D : DefAt K mg "both_holds" sBothH ["both", "number"]) (T : Txt K mg) (C : Callee P w K mg base "one_holds" 2 ["divisor", "is_equal", "ranges", "number"] spOneH) : Callee P w K mg base "both_holds" 3 ["both", "number"] spBothH := by
  refine D.ok scBothH (fun vs H Q E h => ?_) (fun f cdv A outer s H vs Q E hr h => ?_)
  · obtain ⟨v, b, x, G, rfl, _⟩ := h
    rfl
  · obtain ⟨v, b, x, G, rfl, hG, hT, hlen, hok, k⟩ := h
    refine ⟨_, pss_one (ps_ret (pe_callB (cr_all rfl) rfl T.all boot_all (pa_cons (pe_lc (own := [("divisor", 2), ("is_equal", 3), ("ranges", 4)]) rfl scBothH.nd (pi_list (pv 0)) (blkOk_by rfl)
      (fun _ _ _ _ _ => pg_tupK (K := K) (n := 3) rfl rfl (pgs_cons (pg_name (i := 2) scBothH.nd rfl (Or.inl rfl)) (pgs_cons (pg_name (i := 3) scBothH.nd rfl (Or.inl rfl)) (pgs_cons (pg_name (i := 4) scBothH.nd rfl (Or.inl rfl)) pgs_nil)))) (fun _ _ _ _ _ => pts_nil)
      (fun _ _ _ _ _ => pe_fn C hr rfl (pa_cons (pv 2) (pa_cons (pv 3) (pa_cons (pv 4) (pa_cons (pv 1) pa_nil)))))) pa_nil))), ?_⟩
    obtain ⟨ra, us, rfl, hra, hrs⟩ := is_list.mp hT
    have lr := hrs.len
    rw [List.length_map] at lr
    have hR : SqL K H ra us := SqL.of (hG _ _ hra)
    refine ⟨_, rfl, ra, rfl, ⟨_, hR⟩, fun m hm => ?_⟩
    refine lc_list (K := K) (a := ra) (xs := us) (fun i H' => Same H H' ∧ H' m = some (.lst (((b.take i).map (Kp181.holds x)).map V.bl)))
      ⟨same_new hm, upd_same⟩ (fun i H' _ ⟨s1, _⟩ => s1.seq hR) ?_ ?_
    · rintro i y H' hi ⟨s1, hm1⟩
      obtain ⟨o, hx, hIs⟩ := hrs.getM hi
      have hil : i < us.length := (List.getElem?_eq_some_iff.mp hi).1
      have hsz : (((b.take i).map (Kp181.holds x)).map V.bl).length < sizeLine := by
        rw [List.length_map, List.length_map, List.length_take]
        exact szl (by omega)
      cases hIs with
      | tup hfa hfs =>
        rename_i fa fs
        cases hfs with
        | @cons v1 _ _ _ h1 h2 =>
          cases h2 with
          | @cons v2 _ _ _ h2 h3 =>
            cases h3 with
            | @cons v3 _ _ _ h3 h4 =>
              cases h4
              cases h2
              refine ⟨fa, _, rfl, SqT.of (s1 _ _ (hG _ _ hfa)), rfl, v1, _, rfl, .bl o.inside, _, rfl, v3, _, rfl, rfl, rfl, tYes_if ?_⟩
              refine ⟨_, rfl, _, rfl, _, rfl, _, rfl, v1, v3, o, x, G, rfl, hG.trans s1, h1, h3, hok o (List.mem_of_getElem? hx), fun H2 s2 => ?_⟩
              refine ⟨_, s2 _ _ hm1, hsz, same_upd (s1.trans s2) hm, ?_⟩
              rw [upd_same, take_snoc hx, List.map_append, List.map_append]
              rfl
    · rintro H6 ⟨s6, hm1⟩
      rw [List.take_of_length_le (by omega)] at hm1
      refine ⟨m, _, rfl, SqL.of hm1, ?_⟩
      rw [all_map_id]
      exact k _ s6
/-! ### either_holds -/
def BothOk (b : List Kp181.One) : Prop := b.length ≤ 3000 ∧ ∀ o ∈ b, OneOk o
def spEitherH : Sp := fun vs H Q _ => ∃ (v : V) (e : Kp181.Either) (x : Nat) (G : Hp), vs = [v, .int (x : Int)] ∧ Same G H ∧ Is G v (eEither e) ∧ e.length ≤ 3000 ∧ (∀ b ∈ e, BothOk b) ∧ ∀ H', Same H H' → Q (.bl (Kp181.holdsE x e)) H'
theorem scEitherH : FnScope ["either", "number", "both"] ["either", "number"] (defScope sEitherH) := ⟨rfl, rfl, rfl, by decide +kernel, rfl, by decide +kernel, by decide +kernel⟩
theorem ok_eitherH (D : DefAt K mg "either_holds" sEitherH ["either", "number"]) (T : Txt K mg) (C : Callee P w K mg base "both_holds" 3 ["both", "number"] spBothH) : Callee P w K mg base "either_holds" 4 ["either", "number"] spEitherH := by
  refine D.ok scEitherH (fun vs H Q E h => ?_) (fun f cdv A outer s H vs Q E hr h => ?_)
  · obtain ⟨v, e, x, G, rfl, _⟩ := h
    rfl
  · obtain ⟨v, e, x, G, rfl, hG, hT, hlen, hok, k⟩ := h
    refine ⟨_, pss_one (ps_ret (pe_callB (cr_any rfl) rfl T.any boot_any (pa_cons (pe_lc (own := [("both", 2)]) rfl scEitherH.nd (pi_list (pv 0)) (blkOk_by rfl)
      (fun _ _ _ _ _ => pg_name (i := 2) scEitherH.nd rfl (Or.inl rfl)) (fun _ _ _ _ _ => pts_nil)
      (fun _ _ _ _ _ => pe_fn C hr rfl (pa_cons (pv 2) (pa_cons (pv 1) pa_nil)))) pa_nil))), ?_⟩
    obtain ⟨ra, us, rfl, hra, hrs⟩ := is_list.mp hT
    have lr := hrs.len
    rw [List.length_map] at lr
    have hR : SqL K H ra us := SqL.of (hG _ _ hra)
    refine ⟨_, rfl, ra, rfl, ⟨_, hR⟩, fun m hm => ?_⟩
    refine lc_list (K := K) (a := ra) (xs := us) (fun i H' => Same H H' ∧ H' m = some (.lst (((e.take i).map fun b => b.all (Kp181.holds x)).map V.bl)))
      ⟨same_new hm, upd_same⟩ (fun i H' _ ⟨s1, _⟩ => s1.seq hR) ?_ ?_
    · rintro i y H' hi ⟨s1, hm1⟩
      obtain ⟨b, hx, hIs⟩ := hrs.getM hi
      have hil : i < us.length := (List.getElem?_eq_some_iff.mp hi).1
      have hsz : (((e.take i).map fun b => b.all (Kp181.holds x)).map V.bl).length < sizeLine := by
        rw [List.length_map, List.length_map, List.length_take]
        exact szl (by omega)
      have hb := hok b (List.mem_of_getElem? hx)
      refine ⟨rfl, tYes_if ?_⟩
      refine ⟨_, rfl, _, rfl, y, b, x, G, rfl, hG.trans s1, hIs, hb.1, hb.2, fun H2 s2 => ?_⟩
      refine ⟨_, s2 _ _ hm1, hsz, same_upd (s1.trans s2) hm, ?_⟩
      rw [upd_same, take_snoc hx, List.map_append, List.map_append]
      rfl
    · rintro H6 ⟨s6, hm1⟩
      rw [List.take_of_length_le (by omega)] at hm1
      refine ⟨m, _, rfl, SqL.of hm1, ?_⟩
      rw [any_map_id]
      exact k _ s6
/-! ### form_of -/
def RuleOk (r : Kp181.Rule) : Prop := ∀ q ∈ r, q.2.length ≤ 3000 ∧ ∀ b ∈ q.2, BothOk b
def spFormOf (K : PySem.W.Frag) : Sp := fun vs H Q _ => ∃ (v : V) (r : Kp181.Rule) (x : Nat) (G : Hp), vs = [v, .int (x : Int)] ∧ Same G H ∧ Is G v (eForms r) ∧ RuleOk r ∧ ∀ v' H', Same H H' → TkAt K H' v' (Kp181.form r x) → Q v' H'
theorem scFormOf : FnScope ["forms", "number", "word", "either"] ["forms", "number"] (defScope sFormOf) := ⟨rfl, rfl, rfl, by decide +kernel, rfl, by decide +kernel, by decide +kernel⟩
theorem ok_formOf (D : DefAt K mg "form_of" sFormOf ["forms", "number"]) (T : Txt K mg) (C : Callee P w K mg base "either_holds" 4 ["either", "number"] spEitherH) : Callee P w K mg base "form_of" 5 ["forms", "number"] (spFormOf K) := by
  refine D.ok scFormOf (fun vs H Q E h => ?_) (fun f cdv A outer s H vs Q E hr h => ?_)
  · obtain ⟨v, r, x, G, rfl, _⟩ := h
    rfl
  · obtain ⟨v, r, x, G, rfl, hG, hT, hok, k⟩ := h
    refine ⟨_, pss_cons (ps_for PassesOwn.never rfl (pi_list (pv 0)) (pg_tup rfl (pgs_cons (pg_name (i := 2) scFormOf.nd rfl (Or.inl rfl)) (pgs_cons (pg_name (i := 3) scFormOf.nd rfl (Or.inl rfl)) pgs_nil)))
        (pss_one (ps_if (pt_val (pe_fn C hr rfl (pa_cons (pv 3) (pa_cons (pv 1) pa_nil)))) (pss_one (ps_ret (pv 2))) pss_nil)))
      (pss_one (ps_ret (pe_gt T.wordOther rfl))), ?_⟩
    obtain ⟨a, xs, rfl, ha, hxs⟩ := is_list.mp hT
    have lx := hxs.len
    rw [List.length_map] at lx
    refine ⟨_, rfl, a, rfl, ⟨_, SqL.of (hG _ _ ha)⟩, for_list (K := K) (a := a) (xs := xs) (fun i σ H' => ∃ (o1 o2 : Option V), σ = [some (.ref a), some (.int (x : Int)), o1, o2] ∧ Same H H' ∧ Kp181.form r x = Kp181.form (r.drop i) x)
      ⟨none, none, rfl, Same.refl _, by simp⟩ (fun i σ H' _ ⟨_, _, _, s1, _⟩ => SqL.of (s1 _ _ (hG _ _ ha))) ?_ ?_⟩
    · rintro i y σ H' hi ⟨o1, o2, rfl, s1, hk⟩
      obtain ⟨⟨wd, e⟩, hx, hIs⟩ := hxs.getM hi
      rw [drop_at hx] at hk
      have hq := hok _ (List.mem_of_getElem? hx)
      cases hIs with
      | tup hfa hfs =>
        rename_i fa fs
        cases hfs with
        | @cons v1 _ _ _ h1 h2 =>
          cases h2 with
          | @cons v2 _ _ _ h2 h3 =>
            cases h3
            have h1 : Is G v1 (eTok wd) := h1
            refine ⟨fa, _, rfl, SqT.of (s1 _ _ (hG _ _ hfa)), rfl, v1, _, rfl, v2, _, rfl, rfl, ?_⟩
            refine ⟨_, rfl, _, rfl, v2, e, x, G, rfl, hG.trans s1, h2, hq.1, hq.2, fun H2 s2 => ?_⟩
            refine ⟨_, rfl, ?_⟩
            have s12 := s1.trans s2
            by_cases hh : Kp181.holdsE x e = true
            · refine iteBt hh ?_
              refine ⟨_, rfl, k _ _ s12 ?_⟩
              rw [hk, form_yes hh]
              exact (h1.up (hG.trans s12)).tk
            · have hh : Kp181.holdsE x e = false := Bool.eq_false_iff.mpr hh
              refine iteBf hh ?_
              refine ⟨some v1, some v2, rfl, s12, ?_⟩
              rw [hk, form_no hh]
    · rintro σ H' ⟨o1, o2, rfl, s1, hk⟩
      rw [List.drop_eq_nil_of_le (by omega), form_nil] at hk
      intro v' hv
      refine k _ _ s1 ?_
      rw [hk]
      exact hv H'
end
end Wf
set_option Elab.async false
set_option linter.all false
set_option maxRecDepth 100000
set_option maxHeartbeats 2000000
namespace Wf
open PySem PySem.Spec PyProof.Rows L2
section
variable {P : Program} {w : World} {K : PySem.W.Frag} {mg : Str → Option Value} {base : Heap}
theorem rule_ok_of {t : List Nat} {r : Kp181.Rule} (h : Sum t r) : RuleOk r := fun q hq => by
  have g := read_good h.read
  have hl := h.len
  refine ⟨by have := g.eith q hq; omega, fun b hb => ⟨by have := g.both hq hb; omega, fun o ho => ?_⟩⟩
  have hO := mem_ones hq hb ho
  exact ⟨by have := g.rng hO; omega, fun k hk => h.mod k (mem_mods hO hk)⟩
theorem form_len {t : List Nat} {r : Kp181.Rule} (h : Sum t r) (x : Nat) : (Kp181.form r x).length ≤ 3000 := by
  have g := read_good h.read
  have hl := h.len
  unfold Kp181.form
  cases e : r.find? (fun q => Kp181.holdsE x q.2) with
  | none => show (Kp181.bytesOf "other").length ≤ 3000; rw [b_other]; decide
  | some q =>
    have := g.word q (List.mem_of_find?_eq_some e)
    show q.1.length ≤ 3000
    omega
/-! ### the defs -/
structure DefsF (K : PySem.W.Frag) (mg : Str → Option Value) : Prop where
  read : DefAt K mg "pl_read" sRead ["t"]
  inr : DefAt K mg "in_ranges" sIn ["value", "ranges"]
  oneH : DefAt K mg "one_holds" sOneH ["divisor", "is_equal", "ranges", "number"]
  bothH : DefAt K mg "both_holds" sBothH ["both", "number"]
  eitherH : DefAt K mg "either_holds" sEitherH ["either", "number"]
  formOf : DefAt K mg "form_of" sFormOf ["forms", "number"]
theorem formOf_ok (T : Txt K mg) (D : DefsF K mg) : Callee P w K mg base "form_of" 5 ["forms", "number"] (spFormOf K) :=
  ok_formOf D.formOf T (ok_eitherH D.eitherH T (ok_bothH D.bothH T (ok_oneH D.oneH (ok_in D.inr T))))
end
end Wf
section
set_option Elab.async false
set_option linter.all false
set_option maxRecDepth 100000
set_option maxHeartbeats 2000000
namespace Wf
open PySem PySem.Spec PyProof.Rows L2
theorem without_at {os : List Kp181.One} {i : Nat} {o : Kp181.One} (h : os[i]? = some o) : without (os.take (i + 1)) = without (os.take i) ++ (if o.mod.isNone = true then [o] else []) := by
  unfold without
  rw [take_snoc h, List.filter_append, List.filter_cons, List.filter_nil]
theorem without_len1 (os : List Kp181.One) (i : Nat) : (without (os.take i)).length ≤ os.length := by
  unfold without
  refine Nat.le_trans (List.length_filter_le _ _) ?_
  rw [List.length_take]
  omega
section
variable {P : Program} {w : World} {K : PySem.W.Frag} {mg : Str → Option Value} {base : Heap}
/-! ### settled_from -/
def spSettled : Sp := fun vs H Q _ => ∃ (v : V) (os : List Kp181.One) (G : Hp), vs = [v] ∧ Same G H ∧ Is G v (eList eOne os) ∧ os.length ≤ 9000 ∧ (os.flatMap Kp181.One.ranges).length ≤ 9000 ∧ ∀ (s : Nat) H', Settled os s → Same H H' → Q (.int (s : Int)) H'
theorem scSettled : FnScope ["ones", "without", "one", "first", "last"] ["ones"] (defScope sSettled) := ⟨rfl, rfl, rfl, by decide +kernel, rfl, by decide +kernel, by decide +kernel⟩
theorem ok_settled (D : DefAt K mg "settled_from" sSettled ["ones"]) (T : Txt K mg) (C : Callee P w K mg base "ranges_of" 1 ["ones"] spRanges) : Callee P w K mg base "settled_from" 2 ["ones"] spSettled := by
  refine D.ok scSettled (fun vs H Q E h => ?_) (fun f cdv A outer s H vs Q E hr h => ?_)
  · obtain ⟨v, os, G, rfl, _⟩ := h
    rfl
  · obtain ⟨v, os, G, rfl, hG, hT, hlen, hlen2, k⟩ := h
    refine ⟨_, pss_cons (ps_setLc (i := 1) (own := [("one", 2)]) rfl scSettled.nd rfl rfl (sw_true rfl rfl rfl rfl) (pi_list (pv 0)) (blkOk_by rfl)
        (fun _ _ _ _ _ => pg_name (i := 2) scSettled.nd rfl (Or.inl rfl))
        (fun _ _ _ _ _ => pts_one (pt_cmp (pc_isN (pe_ix (ix_tupK (K := K) rfl) (pv 2) pe_int (fun _ _ => rfl)))))
        (fun _ _ _ _ _ => pv 2))
      (pss_one (ps_ret (pe_op op_add (pe_maxD rfl rfl T.max (pa_cons (pe_lc (own := [("first", 3), ("last", 4)]) rfl scSettled.nd (pi_list (pe_fn C hr rfl (pa_cons (pv 1) pa_nil))) (blkOk_by rfl)
        (fun _ _ _ _ _ => pg_tupK (K := K) (n := 2) rfl rfl (pgs_cons (pg_name (i := 3) scSettled.nd rfl (Or.inl rfl)) (pgs_cons (pg_name (i := 4) scSettled.nd rfl (Or.inl rfl)) pgs_nil))) (fun _ _ _ _ _ => pts_nil)
        (fun _ _ _ _ _ => pv 4)) pa_nil) (pe_un un_neg pe_int)) pe_int))), ?_⟩
    obtain ⟨a, xs, rfl, ha, hxs⟩ := is_list.mp hT
    have lx := hxs.len
    rw [List.length_map] at lx
    refine ⟨_, rfl, a, rfl, ⟨_, SqL.of (hG _ _ ha)⟩, fun l hl => ?_⟩
    have gl : G l = Option.none := hG.free hl
    have gr0 : Gr H G G (upd H l (.lst [])) := (Gr.refl hG).lay hl
    refine lc_list (K := K) (a := a) (xs := xs) (fun i H' => ∃ us : List V, Gr H G G H' ∧ H' l = some (.lst us) ∧ IsAll G us ((without (os.take i)).map eOne))
      ⟨[], gr0, upd_same, .nil⟩ (fun i H' _ ⟨_, gr, _⟩ => SqL.of (gr.gh _ _ ha)) ?_ ?_
    · rintro i x H' hi ⟨us, gr, hl1, hA⟩
      obtain ⟨o, hx, hIs⟩ := hxs.getM hi
      have hIs0 := hIs
      cases hIs with
      | tup hfa hfs =>
        rename_i fa fs
        cases hfs with
        | @cons v1 fs _ _ h1 h2 =>
          have hSf : SqT K H' fa (v1 :: fs) := SqT.of (gr.gh _ _ hfa)
          refine ⟨rfl, ?_⟩
          refine ⟨_, rfl, fa, _, _, v1, rfl, rfl, hSf, atI_nat (j := 0) rfl, _, rfl, ?_⟩
          have la := hA.len
          rw [List.length_map] at la
          have lf := without_len1 os i
          cases em : o.mod with
          | none =>
            rw [em] at h1
            refine iteDp (h1.none_iff.mpr rfl) ?_
            refine ⟨_, rfl, us, hl1, szl (by omega), us ++ [.ref fa], gr.write hl gl, upd_same, ?_⟩
            rw [without_at hx, em]
            exact hA.snocM hIs0
          | some n =>
            rw [em] at h1
            have h1 : Is G v1 (eNat n) := h1
            refine iteDn (fun z => nomatch h1.none_iff.mp z) ?_
            refine ⟨us, gr, hl1, ?_⟩
            rw [without_at hx, em]
            simpa using hA
    · rintro H1 ⟨us, gr, hl1, hA⟩
      rw [List.take_of_length_le (by omega)] at hA
      have gr1 := gr.keep hl gl hl1
      have hW : Is (upd G l (.lst us)) (.ref l) (eList eOne (without os)) := Is.newLst hA gl
      have hwl := without_len os
      refine ⟨_, rfl, .ref l, without os, _, rfl, gr1.gh, hW, by omega, fun v2 H2 G2 gr2 hv2 => ?_⟩
      obtain ⟨ra, rs, rfl, hra, hrs⟩ := is_list.mp hv2
      have lr := hrs.len
      rw [List.length_map] at lr
      have hR : SqL K H2 ra rs := SqL.of (gr2.gh _ _ hra)
      refine ⟨ra, rfl, ⟨_, hR⟩, fun m hm => ?_⟩
      refine lc_list (K := K) (a := ra) (xs := rs) (fun i H' => Same H2 H' ∧ H' m = some (.lst (vB ((((without os).flatMap Kp181.One.ranges).take i).map Prod.snd))))
        ⟨same_new hm, upd_same⟩ (fun i H' _ ⟨s1, _⟩ => s1.seq hR) ?_ ?_
      · rintro i y H' hi ⟨s1, hm1⟩
        obtain ⟨⟨p1, p2⟩, hx, hIs⟩ := hrs.getM hi
        have hil : i < rs.length := (List.getElem?_eq_some_iff.mp hi).1
        have hsz : (vB ((((without os).flatMap Kp181.One.ranges).take i).map Prod.snd)).length < sizeLine := by
          rw [vB_len, List.length_map, List.length_take]
          exact szl (by omega)
        cases hIs with
        | tup hfa hfs =>
          rename_i fa fs
          cases hfs with
          | cons h1 h2 =>
            cases h2 with
            | cons h2 h3 =>
              cases h3
              cases h1
              cases h2
              refine ⟨fa, _, rfl, SqT.of (s1 _ _ (gr2.gh _ _ hfa)), rfl, _, _, rfl, _, _, rfl, rfl, rfl, tYes_if ?_⟩
              refine ⟨_, rfl, _, hm1, hsz, same_upd s1 hm, ?_⟩
              rw [upd_same, take_snoc hx, List.map_append]
              unfold vB
              rw [List.map_append]
              rfl
      · rintro H6 ⟨s6, hm1⟩
        rw [List.take_of_length_le (by omega)] at hm1
        have hm1 : H6 m = some (.lst (((lasts os).map Int.ofNat).map V.int)) := by
          rw [← vB_ints]; exact hm1
        have sH : Same H H6 := (gr.hh.trans gr2.hh).trans s6
        refine ⟨_, rfl, m, _, _, rfl, rfl, SqL.of hm1, fun he => ?_, fun z hz hle => ?_⟩
        · refine ⟨_, _, rfl, rfl, k 0 _ (.inl ⟨List.map_eq_nil_iff.mp he, rfl⟩) sH⟩
        · obtain ⟨n, hn, rfl⟩ := List.mem_map.mp hz
          refine ⟨_, _, rfl, rfl, k (n + 1) _ (.inr ⟨n, hn, fun c hc => ?_, rfl⟩) sH⟩
          have := hle (Int.ofNat c) (List.mem_map.mpr ⟨c, hc, rfl⟩)
          exact Int.ofNat_le.mp this
/-! ### first_difference -/
def vDiff : Option Nat → V
  | none => .non
  | some x => .int (x : Int)
def spFirst : Sp := fun vs H Q _ => ∃ (v1 v2 : V) (r q : Kp181.Rule) (n : Nat) (G : Hp), vs = [v1, v2, .int (n : Int)] ∧ Same G H ∧ Is G v1 (eForms r) ∧ Is G v2 (eForms q) ∧ RuleOk r ∧ RuleOk q ∧ n ≤ 100000 ∧ ∀ H', Same H H' → Q (vDiff (Kp181.differ r q n)) H'
theorem scFirst : FnScope ["forms", "others", "count", "number"] ["forms", "others", "count"] (defScope sFirst) := ⟨rfl, rfl, rfl, by decide +kernel, rfl, by decide +kernel, by decide +kernel⟩
theorem ok_first (D : DefAt K mg "first_difference" sFirst ["forms", "others", "count"]) (T : Txt K mg) (C : Callee P w K mg base "form_of" 5 ["forms", "number"] (spFormOf K)) : Callee P w K mg base "first_difference" 6 ["forms", "others", "count"] spFirst := by
  refine D.ok scFirst (fun vs H Q E h => ?_) (fun f cdv A outer s H vs Q E hr h => ?_)
  · obtain ⟨v1, v2, r, q, n, G, rfl, _⟩ := h
    rfl
  · obtain ⟨v1, v2, r, q, n, G, rfl, hG, h1, h2, hr1, hq1, hn, k⟩ := h
    refine ⟨_, pss_cons (ps_for PassesOwn.never rfl (pi_range1 rfl T.range (pa_cons (pv 2) pa_nil)) (pg_name (i := 3) scFirst.nd rfl (Or.inl rfl))
        (pss_one (ps_if (pt_cmpR (op_neT hr.units) (pe_fn C hr rfl (pa_cons (pv 0) (pa_cons (pv 3) pa_nil))) (pe_fn C hr rfl (pa_cons (pv 1) (pa_cons (pv 3) pa_nil))) (nomark _)) (pss_one (ps_ret (pv 3))) pss_nil)))
      (pss_one (ps_ret pe_non)), ?_⟩
    have hN : ((n : Int)).toNat = n := Int.toNat_natCast n
    refine ⟨_, rfl, (n : Int), rfl, by omega, by omega, for_range (lo := 0) (n := ((n : Int)).toNat) (fun i σ H' => ∃ o : Option V, σ = [some v1, some v2, some (.int (n : Int)), o] ∧ Same H H' ∧ ∀ y, y < i → Kp181.form r y = Kp181.form q y)
      ⟨none, rfl, Same.refl _, fun y hy => absurd hy (Nat.not_lt_zero _)⟩ ?_ ?_⟩
    · rintro i σ H' hi ⟨o, rfl, s1, hy⟩
      rw [hN] at hi
      have e0 : (0 : Int) + (i : Int) = (i : Int) := Int.zero_add _
      rw [e0]
      refine ⟨_, rfl, _, rfl, v1, r, i, G, rfl, hG.trans s1, h1, hr1, fun w1 H2 s2 hw1 => ?_⟩
      refine ⟨_, rfl, _, rfl, v2, q, i, G, rfl, (hG.trans s1).trans s2, h2, hq1, fun w2 H3 s3 hw2 => ?_⟩
      refine ⟨_, _, hw1.up s3, hw2, _, rfl, ?_⟩
      have sH : Same H H3 := (s1.trans s2).trans s3
      by_cases he : Kp181.form r i = Kp181.form q i
      · refine iteNp he ?_
        refine ⟨_, rfl, sH, fun y hy2 => ?_⟩
        by_cases hyi : y = i
        · rw [hyi]; exact he
        · exact hy y (by omega)
      · refine iteNn he ?_
        have ed : Kp181.differ r q n = some i := by
          unfold Kp181.differ
          refine range_find.mpr ⟨bne_iff_ne.mpr he, hi, fun y hyi => ?_⟩
          rw [hy y hyi]
          simp
        have k := k _ sH
        rw [ed] at k
        exact ⟨_, rfl, k⟩
    · rintro σ H' ⟨o, rfl, s1, hy⟩
      rw [hN] at hy
      have ed : Kp181.differ r q n = none := by
        unfold Kp181.differ
        refine range_find_none.mpr fun y hyn => ?_
        rw [hy y hyn]
        simp
      have k := k _ s1
      rw [ed] at k
      exact k
end
end Wf
end
section
set_option Elab.async false
set_option linter.all false
set_option maxRecDepth 100000
set_option maxHeartbeats 2000000
namespace Wf
open PySem PySem.Spec PyProof.Rows L2
section
variable {P : Program} {w : World} {K : PySem.W.Frag} {mg : Str → Option Value} {base : Heap}
/-! ### pl_same -/
def spSame (K : PySem.W.Frag) : Sp := fun vs H Q _ => ∃ (a b : Addr) (t u : List Nat), vs = [.ref a, .ref b] ∧ SqL K H a (vB t) ∧ SqL K H b (vB u) ∧ t.length ≤ 2100 ∧ u.length ≤ 2100 ∧ ∀ (H' : Hp) (p : Addr), H' p = some (.lst ((plSame t u).map V.int)) → Q (.ref p) H'
theorem scSame : FnScope ["t", "u", "rule", "answer", "forms", "others", "ones", "period", "where"] ["t", "u"] (defScope sSameC) := ⟨rfl, rfl, rfl, by decide +kernel, rfl, by decide +kernel, by decide +kernel⟩
theorem ok_plSame {f : Addr} {fd : FuncData} (F : Fun K "pl_same" "pl_same" sSameC f fd) (T : Txt K mg) (C1 : Callee P w K mg base "pl_read" 12 ["t"] (spRead K)) (C2 : Callee P w K mg base "read_rule" 11 ["t"] (spRule K))
    (C3 : Callee P w K mg base "ones_of" 1 ["forms"] spOnes) (C4 : Callee P w K mg base "divisors_of" 1 ["ones"] spDivs) (C5 : Callee P w K mg base "least_multiple" 2 ["numbers"] spLcm)
    (C6 : Callee P w K mg base "settled_from" 2 ["ones"] spSettled) (C7 : Callee P w K mg base "first_difference" 6 ["forms", "others", "count"] spFirst) : FnOk P w K mg base CX0 13 f fd ["t", "u"] (spSame K) := by
  refine F.ok scSame (fun vs H Q E h => ?_) (fun cdv A outer s H vs Q E hr h => ?_)
  · obtain ⟨a, b, t, u, rfl, _⟩ := h
    rfl
  · obtain ⟨a, b, t, u, rfl, hS, hU, hlen, hlenU, k⟩ := h
    have hr11 : Room 11 _ := hr.mono (by decide)
    have hr6 : Room 6 _ := hr.mono (by decide)
    have hr2 : Room 2 _ := hr.mono (by decide)
    have hr1 : Room 1 _ := hr.mono (by decide)
    refine ⟨_, pss_cons (ps_for PassesOwn.never rfl (pi_tup (pe_tup (pa_cons (pv 0) (pa_cons (pv 1) pa_nil)))) (pg_name (i := 2) scSame.nd rfl (Or.inl rfl))
        (pss_cons (ps_set (i := 3) scSame.nd rfl (Or.inl rfl) (pe_fn C1 hr rfl (pa_cons (pv 2) pa_nil)))
        (pss_one (ps_if (pt_cmpR op_lt (pe_ix ix_list (pv 3) pe_int (fun _ _ => rfl)) pe_int (nomark _)) (pss_one (ps_ret (pv 3))) pss_nil))))
      (pss_cons (ps_set (i := 4) scSame.nd rfl (Or.inl rfl) (pe_fn C2 hr11 rfl (pa_cons (pv 0) pa_nil)))
      (pss_cons (ps_set (i := 5) scSame.nd rfl (Or.inl rfl) (pe_fn C2 hr11 rfl (pa_cons (pv 1) pa_nil)))
      (pss_cons (ps_set (i := 6) scSame.nd rfl (Or.inl rfl) (pe_fn C3 hr1 rfl (pa_cons (pe_op op_cat (pv 4) (pv 5)) pa_nil)))
      (pss_cons (ps_set (i := 7) scSame.nd rfl (Or.inl rfl) (pe_fn C5 hr2 rfl (pa_cons (pe_fn C4 hr1 rfl (pa_cons (pv 6) pa_nil)) pa_nil)))
      (pss_cons (ps_if (pt_cmpR op_gt (pv 7) (pe_gi T.mostMultiple rfl) (nomark _)) (pss_one (ps_ret (pe_lst (pa_cons pe_int (pa_cons (pe_gi T.tooMuch rfl) pa_nil))))) pss_nil)
      (pss_cons (ps_set (i := 8) scSame.nd rfl (Or.inl rfl) (pe_fn C7 hr6 rfl (pa_cons (pv 4) (pa_cons (pv 5) (pa_cons (pe_op op_add (pe_fn C6 hr2 rfl (pa_cons (pv 6) pa_nil)) (pv 7)) pa_nil)))))
      (pss_cons (ps_if (pt_cmp (pc_isN (pv 8))) (pss_one (ps_ret (pe_lst (pa_cons pe_int (pa_cons pe_int pa_nil))))) pss_nil)
      (pss_one (ps_ret (pe_lst (pa_cons pe_int (pa_cons (pv 8) pa_nil)))))))))))), ?_⟩
    refine ⟨_, rfl, _, rfl, by show 2 ≤ sizeLine; decide, fun p hp => ?_⟩
    have get : ∀ (i : Nat) (x : V), ([.ref a, .ref b] : List V)[i]? = some x → (0 < i → ∃ r, mSum t = .inr r) → ∃ (c : Addr) (z : List Nat), x = .ref c ∧ SqL K H c (vB z) ∧ z.length ≤ 2100 ∧ (∀ v, mSum z = .inl v → plSame t u = [0, v]) ∧
        (∀ r, mSum z = .inr r → (∃ r, mSum t = .inr r) ∧ (1 < i + 1 → ∃ q, mSum u = .inr q)) := fun i x hx h0 => by
      match i, hx, h0 with
      | 0, hx, _ => cases hx; exact ⟨a, t, rfl, hS, hlen, fun v hv => same_left hv, fun r hr => ⟨⟨r, hr⟩, fun z => absurd z (by decide)⟩⟩
      | 1, hx, h0 =>
        cases hx
        obtain ⟨r, hr⟩ := h0 (by decide)
        exact ⟨b, u, rfl, hU, hlenU, fun v hv => same_right hr hv, fun q hq => ⟨⟨r, hr⟩, fun _ => ⟨q, hq⟩⟩⟩
      | _ + 2, hx, _ => simp at hx
    refine ⟨p, rfl, ⟨_, SqT.of upd_same⟩, for_tup (K := K) (a := p) (xs := [.ref a, .ref b]) (fun i σ H' => ∃ o1 o2 : Option V, σ = [some (.ref a), some (.ref b), o1, o2, none, none, none, none, none] ∧ Same (upd H p (.tup [.ref a, .ref b])) H' ∧ (0 < i → ∃ r, mSum t = .inr r) ∧ (1 < i → ∃ q, mSum u = .inr q))
      ⟨none, none, rfl, Same.refl _, fun z => absurd z (by decide), fun z => absurd z (by decide)⟩ (fun i σ H' _ ⟨_, _, _, e, _⟩ => SqT.of (e _ _ upd_same)) ?_ ?_⟩
    · rintro i x σ H' hi ⟨o1, o2, rfl, s1, h0, _⟩
      obtain ⟨c, z, rfl, hc, hz, z1, z2⟩ := get i x hi h0
      have s0 : Same H H' := (same_new hp).trans s1
      refine ⟨_, rfl, c, z, rfl, s0.seq hc, hz, fun H1 p1 s2 hp1 => ?_⟩
      refine ⟨_, rfl, p1, _, _, _, rfl, rfl, SqL.of hp1, atI_nat (j := 1) rfl, _, _, rfl, rfl, _, rfl, ?_⟩
      have hs := read_of_sum z
      cases e : mSum z with
      | inl v =>
        rw [e] at hs
        have hs : plRead z = v := hs
        have hv := sum_neg e
        refine iteDp (by omega) ?_
        refine ⟨_, rfl, k _ p1 ?_⟩
        rw [z1 v e]
        rw [hs] at hp1
        exact hp1
      | inr r =>
        rw [e] at hs
        have hs : plRead z = (r.length : Nat) := hs
        refine iteDn (by omega) ?_
        obtain ⟨y1, y2⟩ := z2 r e
        exact ⟨_, _, rfl, s1.trans s2, fun _ => y1, y2⟩
    · rintro σ H' ⟨o1, o2, rfl, s1, h0, h1⟩
      obtain ⟨r, er⟩ := h0 (Nat.zero_lt_two)
      obtain ⟨q, eq⟩ := h1 (Nat.one_lt_two)
      have sr := sum_some er
      have sq := sum_some eq
      have s0 : Same H H' := (same_new hp).trans s1
      refine ⟨_, rfl, a, t, fun _ => Option.none, rfl, s0.seq hS, hlen, (fun b o e => by cases e), fun v2 H2 G2 gr2 hv2 => ?_⟩
      rw [sr.read] at hv2
      have hv2 : Is G2 v2 (eForms r) := hv2
      have s2 : Same H H2 := s0.trans gr2.hh
      refine ⟨_, rfl, b, u, G2, rfl, s2.seq hU, hlenU, gr2.gh, fun v3 H3 G3 gr3 hv3 => ?_⟩
      rw [sq.read] at hv3
      have hv3 : Is G3 v3 (eForms q) := hv3
      have hv2 : Is G3 v2 (eForms r) := hv2.up gr3.gg
      have hv2' := hv2
      have hv3' := hv3
      obtain ⟨fa, fs, rfl, hfa, hfs⟩ := is_list.mp hv2
      obtain ⟨ga, gs, rfl, hga, hgs⟩ := is_list.mp hv3
      have lf := hfs.len
      have lg := hgs.len
      rw [List.length_map] at lf lg
      have l1 := sr.forms
      have l2 := sq.forms
      refine ⟨_, rfl, _, rfl, fa, ga, fs, gs, rfl, rfl, gr3.gh _ _ hfa, gr3.gh _ _ hga, sz (by omega), fun c hc => ?_⟩
      have gr4 : Gr H3 G3 (upd G3 c (.lst (fs ++ gs))) (upd H3 c (.lst (fs ++ gs))) := (Gr.refl gr3.gh).new hc
      have hv4 : Is (upd G3 c (.lst (fs ++ gs))) (.ref c) (eForms (r ++ q)) := Is.newLst (hfs.appM hgs) (gr3.freshG hc)
      have g1 := read_good sr.read
      have g2 := read_good sq.read
      have n1 := sr.len
      have n2 := sq.len
      have o1' := g1.ones
      have o2' := g2.ones
      have rn1 := g1.ranges
      have rn2 := g2.ranges
      have hone : (Kp181.ones (r ++ q)).length ≤ 9000 := by rw [ones_app, List.length_append]; omega
      have hrng : ((Kp181.ones (r ++ q)).flatMap Kp181.One.ranges).length ≤ 9000 := by rw [ones_app, List.flatMap_append, List.length_append]; omega
      have hsm : ∀ o ∈ Kp181.ones (r ++ q), oneSmall o := fun o ho => by
        rw [ones_app] at ho
        rcases List.mem_append.mp ho with ho | ho
        · exact g1.one o ho
        · exact g2.one o ho
      have hmod : ∀ n ∈ Kp181.mods (r ++ q), 0 < n ∧ n < 10000 := fun n hn => by
        rw [mods_app] at hn
        rcases List.mem_append.mp hn with hn | hn
        · exact ⟨sr.mod n hn, g1.mod n hn⟩
        · exact ⟨sq.mod n hn, g2.mod n hn⟩
      refine ⟨.ref c, r ++ q, _, rfl, gr4.gh, hv4, hone, fun v5 H5 G5 gr5 hv5 => ?_⟩
      refine ⟨_, rfl, v5, _, G5, rfl, gr5.gh, hv5, hone, fun v6 H6 G6 gr6 hv6 => ?_⟩
      refine ⟨v6, Kp181.mods (r ++ q), G6, rfl, gr6.gh, hv6, hmod, ?_⟩
      refine ⟨_, rfl, _, _, rfl, rfl, _, rfl, ?_⟩
      by_cases hm : 10000 < Kp181.multiple (Kp181.mods (r ++ q))
      · refine iteDp (by omega) ?_
        refine ⟨by show 2 ≤ sizeLine; decide, fun d hd => k _ d ?_⟩
        rw [same_much er eq hm]
        exact upd_same
      · refine iteDn (by omega) ?_
        refine ⟨_, rfl, _, rfl, _, rfl, v5, _, G6, rfl, gr6.gh, hv5.up gr6.gg, hone, hrng, fun n H7 hset s7 => ?_⟩
        refine ⟨_, rfl, _, _, rfl, rfl, ?_⟩
        have gg : Same G3 G6 := (gr4.gg.trans gr5.gg).trans gr6.gg
        have hlow := hset.low hsm
        refine ⟨.ref fa, .ref ga, r, q, n + Kp181.multiple (Kp181.mods (r ++ q)), G6, rfl, gr6.gh.trans s7, hv2'.up gg, hv3'.up gg, rule_ok_of sr, rule_ok_of sq, by omega, fun H8 s8 => ?_⟩
        have hd := differ_settled hset hsm (fun k hk => (hmod k hk).1)
        refine ⟨_, rfl, _, rfl, ?_⟩
        cases e : Kp181.differ r q (10000 + Kp181.multiple (Kp181.mods r ++ Kp181.mods q)) with
        | none =>
          rw [hd, e]
          refine iteDp rfl ?_
          refine ⟨by show 2 ≤ sizeLine; decide, fun d hd => k _ d ?_⟩
          rw [same_all er eq hm e]
          exact upd_same
        | some x =>
          rw [hd, e]
          refine iteDn (fun z => nomatch z) ?_
          refine ⟨_, rfl, by show 2 ≤ sizeLine; decide, fun d hd => k _ d ?_⟩
          rw [same_not er eq hm e]
          exact upd_same
/-! ### the head -/
structure DefsS (K : PySem.W.Frag) (mg : Str → Option Value) : Prop where
  settled : DefAt K mg "settled_from" sSettled ["ones"]
  first : DefAt K mg "first_difference" sFirst ["forms", "others", "count"]
theorem same_mk {h : Heap} {fa f : Addr} {oc : Value} {od an : Option Addr} {osl : Array (Option Value)} {kV doc pm cdv ct : Value} (T : Txt K mg) (D : Defs K mg) (DF : DefsF K mg) (DS : DefsS K mg) (X : K.In h) (G : h.Ns mainGlobals mg) (hfa : mg "pl_same" = some (.ref fa)) (a : PySem.W.nsIn K mainGlobals "pl_same" = some (some (.ref f)))
    (l : K.lookup f = some ⟨oc, od, .func (PySem.W.fnOf "pl_same" "pl_same" (defArgs sSameC) (defBody sSameC) (defScope sSameC) .none kV doc pm an cdv ct), osl⟩) (c : PySem.W.codeIn K cdv "pl_same" = true) (k : PySem.W.keepIn K (.ref f) = true) :
    ∃ fd : FuncData, (∀ (s : Shared) (us : List Value), us.length = (["t", "u"] : List Str).length → BindsTo s fd ⟨us, []⟩ ((["t", "u"] : List Str).zip us)) ∧ ∀ base : Heap, K.In base → base.Ns mainGlobals mg → FnOk P w K mg base CX0 13 fa fd ["t", "u"] (spSame K) := by
  have e := hfa.symm.trans (PySem.W.mg_of X G a)
  cases e
  have F := fun_mk (st := sSameC) l c k
  exact ⟨_, fun s us hu => match us, hu with | [_, _], _ => .of_eq rfl, fun base _ _ => ok_plSame F T (read_of DF.read T (rule_ok T D) (judged_ok T D)) (rule_ok T D) (ok_ones D.ones T) (ok_divs D.divs T) (ok_lcm D.lcm (ok_gcd D.gcd)) (ok_settled DS.settled T (ok_ranges D.ranges T)) (ok_first DS.first T (formOf_ok T DF))⟩
end
end Wf
end
set_option Elab.async false
set_option linter.all false
open PySem PySem.W PyProof.Rows
set_option maxRecDepth 100000 in
set_option maxHeartbeats 0 in
theorem PySem.Challenge.cw_wordforms_s03_pl_same_holds : PySem.Challenge.rw_wordforms_s03_pl_same.Holds := by
  w_on; k_headS; (case hw => exact ⟨[.list [], .list []], by decide +kernel, by decide +kernel⟩)
  k_fillS
  refine L2.walk_specK (r := PySem.Challenge.rw_wordforms_s03_pl_same) (k := 13) (CX := L2.CX0) (ps := ["t", "u"]) (sp := Wf.spSame) (by decide +kernel) rfl rfl ⟨rfl, by decide, by decide⟩ (fun w h Y => PySem.W.kIn_of Y) ?F ?S (fun _ _ _ _ z => z)
  case F =>
    intro w mg fa h Y KX G hmg
    refine' Wf.same_mk ?T ?D ?DF ?DS KX G hmg ?a ?l ?c ?k
    case a => k_is
    case l => k_is
    case c => k_is
    case k => k_is
    case T =>
      constructor
      all_goals first
        | (refine' PySem.W.mg_none_of KX G ?c; (case c => k_is); done)
        | (refine' Wf.gi_mk KX G ?c; (case c => k_is); done)
        | (refine' Wf.gt_mk KX G ?c ?d ?v ?z; (case c => k_is); (case d => k_is); (case v => repeat (first | exact .nil | refine .cons ⟨_, rfl⟩ ?_)); (case z => decide))
    case D =>
      constructor
      all_goals
        refine' Wf.def_mk KX G ?a ?l ?c ?k ?hb
        (case a => k_is)
        (case l => k_is)
        (case c => k_is)
        (case k => k_is)
        (case hb => first | (exact (fun _ _ _ _ _ _ us hl => match us, hl with | [_], _ => rfl)) | (exact (fun _ _ _ _ _ _ us hl => match us, hl with | [_, _], _ => rfl)) | (exact (fun _ _ _ _ _ _ us hl => match us, hl with | [_, _, _], _ => rfl)) | (exact (fun _ _ _ _ _ _ us hl => match us, hl with | [_, _, _, _], _ => rfl)))
    case DF =>
      constructor
      all_goals
        refine' Wf.def_mk KX G ?a ?l ?c ?k ?hb
        (case a => k_is)
        (case l => k_is)
        (case c => k_is)
        (case k => k_is)
        (case hb => first | (exact (fun _ _ _ _ _ _ us hl => match us, hl with | [_], _ => rfl)) | (exact (fun _ _ _ _ _ _ us hl => match us, hl with | [_, _], _ => rfl)) | (exact (fun _ _ _ _ _ _ us hl => match us, hl with | [_, _, _], _ => rfl)) | (exact (fun _ _ _ _ _ _ us hl => match us, hl with | [_, _, _, _], _ => rfl)))
    case DS =>
      constructor
      all_goals
        refine' Wf.def_mk KX G ?a ?l ?c ?k ?hb
        (case a => k_is)
        (case l => k_is)
        (case c => k_is)
        (case k => k_is)
        (case hb => first | (exact (fun _ _ _ _ _ _ us hl => match us, hl with | [_], _ => rfl)) | (exact (fun _ _ _ _ _ _ us hl => match us, hl with | [_, _], _ => rfl)) | (exact (fun _ _ _ _ _ _ us hl => match us, hl with | [_, _, _], _ => rfl)) | (exact (fun _ _ _ _ _ _ us hl => match us, hl with | [_, _, _, _], _ => rfl)))
  case S =>
    intro K H xs a hO hwi hask hx
    cases hx with
    | cons h1 h2 =>
      cases h2 with
      | cons h2 h3 =>
      cases h3
      cases h1 with
      | lst hs1 ha1 =>
        cases h2 with
        | lst hs2 ha2 =>
          have e1 := L2.ints_dw a.1 _ ha1
          have e2 := L2.ints_dw a.2.1 _ ha2
          subst e1
          subst e2
          rename_i adr1 adr2
          have q : ((Codec.inLen 0 2100 a.1 && a.1.all (Codec.inInt 0 255)) && ((Codec.inLen 0 2100 a.2.1 && a.2.1.all (Codec.inInt 0 255)) && true)) = true := hwi
          rw [Bool.and_eq_true, Bool.and_eq_true, Bool.and_eq_true, Bool.and_eq_true] at q
          have ea : (a.1.map Int.toNat).map Int.ofNat = a.1 := Wf.of_bytes a.1 fun x hx => (Codec.inInt_iff.mp (List.all_eq_true.mp q.1.2 x hx)).1
          have eb : (a.2.1.map Int.toNat).map Int.ofNat = a.2.1 := Wf.of_bytes a.2.1 fun x hx => (Codec.inInt_iff.mp (List.all_eq_true.mp q.2.1.2 x hx)).1
          refine ⟨adr1, adr2, a.1.map Int.toNat, a.2.1.map Int.toNat, rfl, ?_, ?_, ?_, ?_, fun H' p hp => ?_⟩
          · rw [Wf.vB_ints, ea]; exact hs1
          · rw [Wf.vB_ints, eb]; exact hs2
          · rw [List.length_map]; exact (Codec.inNat_iff.mp q.1.1).2
          · rw [List.length_map]; exact (Codec.inNat_iff.mp q.2.1.1).2
          · have e := Wf.same_eq (a.1.map Int.toNat) (a.2.1.map Int.toNat)
            rw [ea, eb] at e
            show L2.Dw K H' _ (.list ((PyKp181.pl_same a.1 a.2.1).map WData.int))
            rw [e]
            exact .lst (L2.SqL.of hp) (L2.dw_ints _)
#print axioms PySem.Challenge.cw_wordforms_s03_pl_same_holds
