import PyProof.Rows.All
import Wide.All
import OpenK.AllK
import Wide.FinOn
import PyProof.EqAt
import PyProof.EqKinds
import PyProof.TupleCall
import KE.BitLaws
import KE.KCallOwn
import KE.KRevSl
import KE.KUnpackStar
import KE.KTops
import PySem.Challenge.RW_crewpay_k96_refusals_apart
set_option Elab.async false
set_option linter.all false
set_option maxRecDepth 100000
namespace L2
open PySem PySem.Spec PyProof.Rows
/-- a key: an int or a str -/
abbrev Key := Sum Int Str
def keyIs : Key → Value → Bool
  | .inl k, v => Value.isInt k v
  | .inr x, v => Value.isStrOf x v
def keyH (w : World) : Key → Int
  | .inl k => hashInt k
  | .inr x => hashStr w x
theorem keyIs_shape : ∀ {k : Key} {v : Value}, keyIs k v = true → (∃ i t, k = Sum.inl i ∧ v = Value.int i t) ∨ (∃ x t, k = Sum.inr x ∧ v = Value.str x t)
  | .inl i, v, h => by
    obtain ⟨t, e⟩ := Value.isInt_shape (k := i) (v := v) h
    exact .inl ⟨i, t, rfl, e⟩
  | .inr x, v, h => by
    obtain ⟨t, e⟩ := Value.isStrOf_shape (x := x) (v := v) h
    exact .inr ⟨x, t, rfl, e⟩
theorem keyIs_int (i : Int) (t : Tok) : keyIs (.inl i) (.int i t) = true := by simp [keyIs, Value.isInt]
theorem keyIs_str (x : Str) (t : Tok) : keyIs (.inr x) (.str x t) = true := by simp [keyIs, Value.isStrOf]
theorem key_ll (a b : Int) : decide ((Sum.inl a : Key) = Sum.inl b) = (a == b) := by
  by_cases e : a = b
  · subst e; simp
  · have h : ¬ (Sum.inl a : Key) = Sum.inl b := fun q => e (Sum.inl.inj q)
    rw [decide_eq_false h]
    exact (beq_eq_false_iff_ne.mpr e).symm
theorem key_rr (a b : Str) : decide ((Sum.inr a : Key) = Sum.inr b) = decide (a = b) := by
  by_cases e : a = b
  · subst e; simp
  · have h : ¬ (Sum.inr a : Key) = Sum.inr b := fun q => e (Sum.inr.inj q)
    rw [decide_eq_false h, decide_eq_false e]
theorem key_lr (a : Int) (b : Str) : decide ((Sum.inl a : Key) = Sum.inr b) = false := decide_eq_false (fun q => nomatch q)
theorem key_rl (a : Str) (b : Int) : decide ((Sum.inr a : Key) = Sum.inl b) = false := decide_eq_false (fun q => nomatch q)
def mixKind (prog : Program) (w : World) : PySem.KeyKind prog w Key where
  is := keyIs
  hash := keyH w
  inj := fun v a b ha hb => by
    rcases keyIs_shape ha with ⟨i, t, rfl, rfl⟩ | ⟨x, t, rfl, rfl⟩
    · rcases keyIs_shape hb with ⟨j, u, rfl, e⟩ | ⟨y, u, rfl, e⟩
      · injection e with e1 _; rw [e1]
      · exact nomatch e
    · rcases keyIs_shape hb with ⟨j, u, rfl, e⟩ | ⟨y, u, rfl, e⟩
      · exact nomatch e
      · injection e with e1 _; rw [e1]
  byValue := fun k v h => by
    rcases keyIs_shape h with ⟨i, t, rfl, rfl⟩ | ⟨x, t, rfl, rfl⟩ <;> rfl
  pyHash := fun hv h => by
    rcases keyIs_shape hv with ⟨i, t, rfl, rfl⟩ | ⟨x, t, rfl, rfl⟩
    · exact wpAny_pyHash_int h
    · exact wpAny_pyHash_str h
  eqBool := fun hu hv h => by
    rcases keyIs_shape hu with ⟨i, t, rfl, rfl⟩ | ⟨x, t, rfl, rfl⟩
    · rcases keyIs_shape hv with ⟨j, u, rfl, rfl⟩ | ⟨y, u, rfl, rfl⟩
      · rw [key_ll] at h; exact wpAny_eqBool_int h
      · rw [key_lr] at h; exact SeqAt.EqAt.int_str i t y u _ _ _ _ h
    · rcases keyIs_shape hv with ⟨j, u, rfl, rfl⟩ | ⟨y, u, rfl, rfl⟩
      · rw [key_rl] at h; exact SeqAt.EqAt.str_int x t j u _ _ _ _ h
      · rw [key_rr] at h; exact wpAny_eqBool_str h
  «strs» := fun k x t v h => by
    rcases keyIs_shape h with ⟨i, u, rfl, e⟩ | ⟨y, u, rfl, e⟩
    · exact nomatch e
    · injection e with e1 _
      subst e1
      cases v <;> rfl
theorem mixKind_int (prog : Program) (w : World) (i : Int) (t : Tok) : (mixKind prog w).is (.inl i) (.int i t) = true := keyIs_int i t
theorem mixKind_str (prog : Program) (w : World) (x : Str) (t : Tok) : (mixKind prog w).is (.inr x) (.str x t) = true := keyIs_str x t
end L2
namespace L2
open PySem PySem.Spec PyProof.Rows
/-- a value, without the heap -/
inductive V where
  | non | bl (b : Bool) | int (i : Int) | str (x : Str) | byt (b : Array UInt8) | flt (b : UInt64) | ref (a : Addr) | ty (n : String)
  deriving DecidableEq
def RelV : V → Value → Prop
  | .non, u => u = Value.none
  | .bl b, u => u = Value.bool b
  | .int i, u => ∃ t, u = Value.int i t
  | .str x, u => ∃ t, u = Value.str x t
  | .byt b, u => ∃ t, u = Value.bytes b t
  | .flt b, u => ∃ t, u = Value.float b t
  | .ref a, u => u = Value.ref a
  | .ty n, u => u = Value.type n
abbrev Vals : List V → List Value → Prop := Paired RelV
theorem Vals.length {xs : List V} {us : List Value} (r : Vals xs us) : xs.length = us.length := Paired.length r
theorem Vals.get : ∀ {xs : List V} {us : List Value} {i : Nat} {x : V}, Vals xs us → xs[i]? = some x → ∃ u, us[i]? = some u ∧ RelV x u
  | _, _, _, _, .nil, e => by simp at e
  | _, _, 0, _, .cons r _, e => by simp at e; subst e; exact ⟨_, rfl, r⟩
  | _, _, i + 1, x, .cons _ t, e => by
    obtain ⟨u, h1, h2⟩ := Vals.get (i := i) (x := x) t (by simpa using e)
    exact ⟨u, by simpa using h1, h2⟩
theorem Vals.set {x : V} {u : Value} (r : RelV x u) : ∀ {xs : List V} {us : List Value} (i : Nat), Vals xs us → Vals (xs.set i x) (us.set i u)
  | _, _, _, .nil => .nil
  | _, _, 0, .cons _ t => .cons r t
  | _, _, i + 1, .cons q t => .cons q (Vals.set r i t)
theorem Vals.append : ∀ {xs ys : List V} {us ws : List Value}, Vals xs us → Vals ys ws → Vals (xs ++ ys) (us ++ ws)
  | _, _, _, _, .nil, s => s
  | _, _, _, _, .cons r t, s => .cons r (Vals.append t s)
theorem Vals.take : ∀ {xs : List V} {us : List Value} (n : Nat), Vals xs us → Vals (xs.take n) (us.take n)
  | _, _, 0, _ => .nil
  | _, _, _ + 1, .nil => .nil
  | _, _, n + 1, .cons r t => .cons r (Vals.take n t)
theorem Vals.drop : ∀ {xs : List V} {us : List Value} (n : Nat), Vals xs us → Vals (xs.drop n) (us.drop n)
  | _, _, 0, r => r
  | _, _, _ + 1, .nil => .nil
  | _, _, n + 1, .cons _ t => Vals.drop n t
theorem Vals.none_of : ∀ {xs : List V} {us : List Value} {i : Nat}, Vals xs us → xs[i]? = none → us[i]? = none := fun {xs us i} r e => by
  have h1 := r.length
  have h2 : xs.length ≤ i := List.getElem?_eq_none_iff.mp e
  exact List.getElem?_eq_none_iff.mpr (by omega)
def RelO : Option V → Option Value → Prop
  | some v, some u => RelV v u
  | none, none => True
  | _, _ => False
def KV {κ : Type} : List (κ × V) → List (κ × Value) → Prop := Paired fun (p : κ × V) (q : κ × Value) => p.1 = q.1 ∧ RelV p.2 q.2
/-- a key of a dict (00_mix): an int or a text -/
def kV : Key → V
  | .inl i => .int i
  | .inr x => .str x
/-- what stands at a tracked address -/
inductive HO where
  /-- a list -/
  | lst (xs : List V)
  /-- a tuple (never changes) -/
  | tup (xs : List V)
  /-- a dict whose keys are ints and texts; one whose keys are tuples of ints and texts (the empty one is both) -/
  | dK (kvs : List (Key × V)) | dT (kvs : List (List Key × V))
  /-- a set of ints: its members, its size -/
  | set (S : Int → Bool) (n : Nat)
  /-- an instance of the class at C, its dict at dx, its attributes -/
  | ins (C dx : Addr) (fs : List (Str × V))
  /-- the dict of the instance at x -/
  | own (x : Addr)
  /-- the dict of an exception -/
  | xd (fs : List (Str × V))
  /-- a bound method, f of x -/
  | met (f x : Addr)
  /-- a range object lo, lo + 1, .. below hi -/
  | rng (lo hi : Int)
  /-- a thing that is known to the object (the script; a dict while a loop walks it): read, never written while it is so -/
  | frz (o : Obj) (u : HO)
  /-- a code object's table -/
  | tbl (ps : Array Value)
  /-- any other thing, by what is true of its one object (a def of one's own: SetO a S n := HO.ext fun h => ..) -/
  | ext (φ : Heap → Prop)
abbrev Hp := Addr → Option HO
def upd (H : Hp) (a : Addr) (o : HO) : Hp := fun b => if b = a then some o else H b
theorem upd_same {H : Hp} {a : Addr} {o : HO} : upd H a o a = some o := by unfold upd; rw [if_pos rfl]
theorem upd_ne {H : Hp} {a b : Addr} {o : HO} (h : b ≠ a) : upd H a o b = H b := by unfold upd; rw [if_neg h]
theorem ne_of_none {H : Hp} {a b : Addr} {o : HO} (h : H a = some o) (h' : H b = none) : a ≠ b := by
  intro e; subst e; rw [h] at h'; cases h'
section
variable (P : Program) (w : World)
def ObjOk (H : Hp) (h : Heap) (a : Addr) : HO → Prop
  | .lst xs => xs.length ≤ sizeLine ∧ ∃ (its : List Value) (n : Nat), Vals xs its ∧ h.get? a = some { cls := .type "list", data := .seq its.toArray n }
  | .tup xs => xs.length ≤ sizeLine ∧ ∃ its : List Value, Vals xs its ∧ IsTup h a its.toArray
  | .dK kvs => kvs.length ≤ sizeLine ∧ (a == sysModules) = false ∧ ∃ vs, KV kvs vs ∧ h.DictOf (mixKind P w) a vs
  | .dT kvs => kvs.length ≤ sizeLine ∧ (a == sysModules) = false ∧ ∃ xs : List (List Key × Addr × Value),
      Paired (fun (p : List Key × V) (q : List Key × Addr × Value) => p.1 = q.1 ∧ H q.2.1 = some (.tup (p.1.map kV)) ∧ RelV p.2 q.2.2) kvs xs ∧
      ∃ o es ep, h.get? a = some o ∧ o.ExactDict ∧ o.data = .dict es ep ∧ es.toList = xs.map (entryOfKey (tupleKind (mixKind P w))) ∧ (xs.map (·.1)).Nodup
  | .set S n => h.SetOf (intKind P w) a S n
  | .ins C dx fs => H dx = some (.own a) ∧ fs.length ≤ 1000 ∧ dx ≠ a ∧ h.get? a = some (PySem.W.instObj C dx) ∧
      ∃ mA, h.Ns1 dx mA ∧ (∀ f, RelO (fs.lookup f) (mA f)) ∧ PySem.Within mA (fs.map (·.1))
  | .own _ => ∃ o, h.get? a = some o
  | .xd fs => ∃ mA, h.Ns1 a mA ∧ ∀ f, RelO (fs.lookup f) (mA f)
  | .rng lo hi => ∃ t u v, h.get? a = some { cls := .type "range", data := .fields #[.int lo t, .int hi u, .int 1 v] }
  | .frz o u => h.get? a = some o ∧ ObjOk H h a u
  | .tbl ps => h.get? a = some { cls := .none, data := .fields ps }
  | .met f x => h.get? a = some (PySem.W.methodObj (.ref f) (.ref x))
  | .ext φ => φ h ∧ (∃ o, h.get? a = some o) ∧ ∀ h1 h2 : Heap, φ h1 → (∀ o, h1.get? a = some o → h2.get? a = some o) → φ h2
/-- the abstract heap is held -/
def HOk (H : Hp) (h : Heap) : Prop := ∀ a o, H a = some o → ObjOk P w H h a o
end
section
variable {P : Program} {w : World} {H H' : Hp} {h h' : Heap} {a : Addr} {o : HO}
theorem ObjOk.lt (x : ObjOk P w H h a o) : a < h.objs.size := by
  cases o with
  | lst xs => obtain ⟨_, _, _, _, e⟩ := x; exact Heap.lt_size e
  | tup xs => obtain ⟨_, _, _, p⟩ := x; exact p.lt
  | dK kvs => obtain ⟨_, _, _, _, o, _, _, e, _⟩ := x; exact Heap.lt_size e
  | dT kvs => obtain ⟨_, _, _, _, o, _, _, e, _⟩ := x; exact Heap.lt_size e
  | set S n => obtain ⟨o, _, _, _, e, _⟩ := x; exact Heap.lt_size e
  | ins C dx fs => obtain ⟨_, _, _, e, _⟩ := x; exact Heap.lt_size e
  | own y => obtain ⟨_, e⟩ := x; exact Heap.lt_size e
  | xd fs => obtain ⟨_, ⟨_, _, _, e, _⟩, _⟩ := x; exact Heap.lt_size e
  | rng lo hi => obtain ⟨_, _, _, e⟩ := x; exact Heap.lt_size e
  | frz ob u => obtain ⟨e, _⟩ := x; exact Heap.lt_size e
  | tbl ps => exact Heap.lt_size (show h.get? a = some _ from x)
  | met f y => exact Heap.lt_size (show h.get? a = some _ from x)
  | ext φ => obtain ⟨_, ⟨_, e⟩, _⟩ := x; exact Heap.lt_size e
theorem Paired.mapP {α β : Type} {F G : α → β → Prop} : ∀ {l₁ : List α} {l₂ : List β}, Paired F l₁ l₂ → (∀ a b, F a b → G a b) → Paired G l₁ l₂
  | _, _, .nil, _ => .nil
  | _, _, .cons r t, f => .cons (f _ _ r) (Paired.mapP t f)
/-- what an object's description leans on: its own object, its own dict, the tuples -/
theorem ObjOk.stay (x : ObjOk P w H h a o) (k : ∀ b u, (b = a ∨ H b = some (.own a)) → h.get? b = some u → h'.get? b = some u)
    (ho : ∀ b, H b = some (.own a) → H' b = some (.own a)) (ht : ∀ b xs, H b = some (.tup xs) → H' b = some (.tup xs)) : ObjOk P w H' h' a o := by
  induction o with
  | lst xs => obtain ⟨z, its, n, r, e⟩ := x; exact ⟨z, its, n, r, k _ _ (.inl rfl) e⟩
  | tup xs => obtain ⟨z, its, r, ob, e, c⟩ := x; exact ⟨z, its, r, ob, k _ _ (.inl rfl) e, c⟩
  | dK kvs => obtain ⟨z, y, vs, r, ob, es, ep, e, c⟩ := x; exact ⟨z, y, vs, r, ob, es, ep, k _ _ (.inl rfl) e, c⟩
  | dT kvs =>
    obtain ⟨z, y, xs, r, ob, es, ep, e, c⟩ := x
    exact ⟨z, y, xs, Paired.mapP r fun p q z => ⟨z.1, ht _ _ z.2.1, z.2.2⟩, ob, es, ep, k _ _ (.inl rfl) e, c⟩
  | set S n => obtain ⟨ob, es, ep, t, e, c⟩ := x; exact ⟨ob, es, ep, t, k _ _ (.inl rfl) e, c⟩
  | ins C dx fs =>
    obtain ⟨d, z, ne, e, mA, ⟨od, es, ep, e2, c⟩, r⟩ := x
    exact ⟨ho _ d, z, ne, k _ _ (.inl rfl) e, mA, ⟨od, es, ep, k _ _ (.inr d) e2, c⟩, r⟩
  | own y => obtain ⟨ob, e⟩ := x; exact ⟨ob, k _ _ (.inl rfl) e⟩
  | xd fs => obtain ⟨mA, ⟨od, es, ep, e, c⟩, r⟩ := x; exact ⟨mA, ⟨od, es, ep, k _ _ (.inl rfl) e, c⟩, r⟩
  | rng lo hi => obtain ⟨t, u, v, e⟩ := x; exact ⟨t, u, v, k _ _ (.inl rfl) e⟩
  | frz ob u ih => obtain ⟨e, q⟩ := x; exact ⟨k _ _ (.inl rfl) e, ih q⟩
  | tbl ps =>
    have e : h.get? a = some { cls := .none, data := .fields ps } := x
    show h'.get? a = some { cls := .none, data := .fields ps }
    exact k a _ (.inl rfl) e
  | met f y =>
    have e : h.get? a = some (PySem.W.methodObj (.ref f) (.ref y)) := x
    show h'.get? a = some (PySem.W.methodObj (.ref f) (.ref y))
    exact k a _ (.inl rfl) e
  | ext φ => obtain ⟨p, ⟨o, e⟩, st⟩ := x; exact ⟨st _ _ p fun o q => k _ _ (.inl rfl) q, ⟨o, k _ _ (.inl rfl) e⟩, st⟩
theorem HOk.lt (x : HOk P w H h) (e : H a = some o) : a < h.objs.size := (x a o e).lt
theorem HOk.fresh (x : HOk P w H h) (e : h.objs.size ≤ a) : H a = none := by
  cases q : H a with
  | none => rfl
  | some u => exact absurd (Nat.lt_of_lt_of_le (x.lt q) e) (Nat.lt_irrefl _)
/-- every object of the heap is kept -/
theorem HOk.kept (x : HOk P w H h) (k : ∀ b u, h.get? b = some u → h'.get? b = some u) : HOk P w H h' := fun a o e =>
  (x a o e).stay (fun b u _ q => k b u q) (fun _ q => q) fun _ _ q => q
/-- a new object is laid and tracked -/
theorem HOk.laid (x : HOk P w H h) (k : ∀ b u, h.get? b = some u → h'.get? b = some u) (hp : h.objs.size ≤ a) (new : ObjOk P w (upd H a o) h' a o) : HOk P w (upd H a o) h' := fun b u e => by
  have hn := x.fresh hp
  by_cases hb : b = a
  · subst hb; rw [upd_same] at e; cases e; exact new
  · rw [upd_ne hb] at e
    exact (x b u e).stay (fun c v _ q => k c v q) (fun c q => by rw [upd_ne (ne_of_none q hn)]; exact q) fun c xs q => by rw [upd_ne (ne_of_none q hn)]; exact q
end
/-- what may be read as u: it is u, or a known u -/
def Rd (H : Hp) (a : Addr) (u : HO) : Prop := H a = some u ∨ ∃ o, H a = some (.frz o u)
theorem Rd.of {H : Hp} {a : Addr} {u : HO} (h : H a = some u) : Rd H a u := .inl h
theorem Rd.ok {P : Program} {w : World} {H : Hp} {h : Heap} {a : Addr} {u : HO} (r : Rd H a u) (x : HOk P w H h) : ObjOk P w H h a u := by
  rcases r with r | ⟨o, r⟩
  · exact x a u r
  · obtain ⟨_, q⟩ := x a _ r
    exact q
/-- what may be written -/
def Mut : Option HO → Prop
  | some (.lst _) => True
  | some (.dK _) => True
  | some (.dT _) => True
  | some (.set _ _) => True
  | some (.ins _ _ _) => True
  | some (.ext _) => True
  | _ => False
section
variable {P : Program} {w : World} {H : Hp} {h h' : Heap} {x e : Addr} {o' : HO}
/-- the object at e is changed: x itself, or the dict of the instance x -/
theorem HOk.write (ok : HOk P w H h) (mu : Mut (H x)) (he : e = x ∨ H e = some (.own x)) (k : ∀ b u, b ≠ e → h.get? b = some u → h'.get? b = some u) (heo : ∃ u, h'.get? e = some u)
    (new : ObjOk P w (upd H x o') h' x o') : HOk P w (upd H x o') h' := fun b u q => by
  have nown : ∀ c y, H c = some (.own y) → c ≠ x := fun c y r z => by subst z; rw [r] at mu; exact mu
  have ntup : ∀ c xs, H c = some (.tup xs) → c ≠ x := fun c xs r z => by subst z; rw [r] at mu; exact mu
  by_cases hb : b = x
  · subst hb; rw [upd_same] at q; cases q; exact new
  · rw [upd_ne hb] at q
    by_cases hbe : b = e
    · have q' : H b = some (.own x) := by
        rcases he with z | z
        · exact absurd (hbe.trans z) hb
        · rw [hbe]; exact z
      rw [q] at q'; cases q'
      obtain ⟨v, hv⟩ := heo
      exact ⟨v, by rw [hbe]; exact hv⟩
    · refine (ok b u q).stay (fun c v hc r => k c v ?_ r) (fun c r => by rw [upd_ne (nown c b r)]; exact r) fun c xs r => by rw [upd_ne (ntup c xs r)]; exact r
      rcases hc with rfl | hc
      · exact hbe
      · rintro rfl
        rcases he with z | z
        · exact nown c b hc z
        · rw [hc] at z; cases z; exact hb rfl
end
structure Un (fs ex : List Addr) (H H' : Hp) (h h' : Heap) : Prop where
  keep : ∀ b o, h.get? b = some o → H b = none → b ∉ fs → b ∉ ex → h'.get? b = some o
  slot : ∀ b o, h.get? b = some o → H b = none → b ∈ fs → b ∉ ex → ∃ sl, h'.get? b = some { o with slots := sl }
  free : ∀ b o, h.get? b = some o → H b = none → b ∉ ex → H' b = none
  there : ∀ b o, h.get? b = some o → b ∉ ex → ∃ o', h'.get? b = some o'
  tups : ∀ b xs, H b = some (.tup xs) → H' b = some (.tup xs)
  frzs : ∀ b o u, H b = some (.frz o u) → H' b = some (.frz o u)
  tbls : ∀ b ps, H b = some (.tbl ps) → ∃ more, H' b = some (.tbl (ps ++ more))
section
variable {fs fs' ex ex' : List Addr} {H H1 H2 : Hp} {h h1 h2 h' : Heap} {a x e : Addr} {o : HO}
theorem Un.any (u : Un fs ex H H1 h h1) {b : Addr} {ob : Obj} (q : h.get? b = some ob) (n : H b = none) (hx : b ∉ ex) : ∃ sl, h1.get? b = some { ob with slots := sl } := by
  by_cases hb : b ∈ fs
  · exact u.slot b ob q n hb hx
  · exact ⟨ob.slots, u.keep b ob q n hb hx⟩
theorem Un.trans (a : Un fs ex H H1 h h1) (b : Un fs ex H1 H2 h1 h2) : Un fs ex H H2 h h2 where
  keep := fun c ob q n hc hx => b.keep c ob (a.keep c ob q n hc hx) (a.free c ob q n hx) hc hx
  slot := fun c ob q n hc hx => by
    obtain ⟨sl, e1⟩ := a.slot c ob q n hc hx
    obtain ⟨sl', e2⟩ := b.slot c _ e1 (a.free c ob q n hx) hc hx
    exact ⟨sl', e2⟩
  free := fun c ob q n hx => by
    obtain ⟨o', e1⟩ := a.there c ob q hx
    exact b.free c o' e1 (a.free c ob q n hx) hx
  there := fun c ob q hx => by
    obtain ⟨o', e1⟩ := a.there c ob q hx
    exact b.there c o' e1 hx
  tups := fun c xs q => b.tups c xs (a.tups c xs q)
  frzs := fun c ob xs q => b.frzs c ob xs (a.frzs c ob xs q)
  tbls := fun c ps q => by
    obtain ⟨m1, e1⟩ := a.tbls c ps q
    obtain ⟨m2, e2⟩ := b.tbls c _ e1
    exact ⟨m1 ++ m2, by rw [e2, Array.append_assoc]⟩
theorem Un.kept (k : ∀ b u, h.get? b = some u → h'.get? b = some u) : Un fs ex H H h h' :=
  ⟨fun b ob q _ _ _ => k b ob q, fun b ob q _ _ _ => ⟨ob.slots, k b ob q⟩, fun _ _ _ n _ => n, fun b ob q _ => ⟨ob, k b ob q⟩, fun _ _ q => q, fun _ _ _ q => q, fun _ ps q => ⟨#[], by rw [q]; simp⟩⟩
theorem Un.refl : Un fs ex H H h h := Un.kept fun _ _ q => q
theorem Un.laid (k : ∀ b u, h.get? b = some u → h'.get? b = some u) (hp : h.objs.size ≤ a) (hn : H a = none) : Un fs ex H (upd H a o) h h' where
  keep := fun b u q _ _ _ => k b u q
  slot := fun b u q _ _ _ => ⟨u.slots, k b u q⟩
  free := fun b u q n _ => by rw [upd_ne (Nat.ne_of_lt (Nat.lt_of_lt_of_le (Heap.lt_size q) hp))]; exact n
  there := fun b u q _ => ⟨u, k b u q⟩
  tups := fun b xs q => by rw [upd_ne (ne_of_none q hn)]; exact q
  frzs := fun b u xs q => by rw [upd_ne (ne_of_none q hn)]; exact q
  tbls := fun b ps q => ⟨#[], by rw [upd_ne (ne_of_none q hn), q]; simp⟩
theorem Un.write (mu : Mut (H x)) (he : e = x ∨ H e = some (.own x)) (k : ∀ b u, b ≠ e → h.get? b = some u → h'.get? b = some u) (heo : ∃ u, h'.get? e = some u) : Un fs ex H (upd H x o) h h' := by
  have hx : ∀ b, H b = none → b ≠ x := fun b n z => by subst z; rw [n] at mu; exact mu
  have hb : ∀ b, H b = none → b ≠ e := fun b n z => by
    subst z
    rcases he with r | r
    · exact hx b n r
    · rw [n] at r; cases r
  have hm : ∀ b u, H b = some u → ¬ Mut (some u) → b ≠ x := fun b u q nm z => by subst z; rw [q] at mu; exact nm mu
  refine ⟨fun b u q n _ _ => k b u (hb b n) q, fun b u q n _ _ => ⟨u.slots, k b u (hb b n) q⟩, fun b u q n _ => by rw [upd_ne (hx b n)]; exact n, fun b u q _ => ?_,
    fun b xs q => by rw [upd_ne (hm b _ q fun z => z)]; exact q, fun b u xs q => by rw [upd_ne (hm b _ q fun z => z)]; exact q, fun b ps q => ⟨#[], by rw [upd_ne (hm b _ q fun z => z), q]; simp⟩⟩
  by_cases hbe : b = e
  · subst hbe; exact heo
  · exact ⟨u, k b u hbe q⟩
theorem Un.mono (u : Un fs ex H H1 h h1) (hs : ∀ b ∈ fs, b ∈ fs') (hx : ∀ b ∈ ex, b ∈ ex') : Un fs' ex' H H1 h h1 :=
  ⟨fun b ob q n hb he => u.keep b ob q n (fun z => hb (hs b z)) fun z => he (hx b z), fun _ _ q n _ he => u.any q n fun z => he (hx _ z), fun b ob q n he => u.free b ob q n fun z => he (hx b z), fun b ob q he => u.there b ob q fun z => he (hx b z), u.tups, u.frzs, u.tbls⟩
end
def trk (h : Heap) (H : Hp) : List Addr := (List.range h.objs.size).filter fun a => (H a).isSome
def hidT (h : Heap) (H : Hp) : Heap := PySem.W.hideAll h (trk h H)
theorem hidT_size (h : Heap) (H : Hp) : (hidT h H).objs.size = h.objs.size := PySem.W.hideAll_size _ _
theorem hidT_get {h : Heap} {H : Hp} {b : Addr} {o : Obj} (e : h.get? b = some o) (n : H b = none) : (hidT h H).get? b = some o :=
  PySem.W.hideAll_get _ e fun hm => by
    have q : (H b).isSome = true := (List.mem_filter.mp hm).2
    rw [n] at q; simp at q
theorem of_hidT {h : Heap} {H : Hp} {b : Addr} {o : Obj} (e : (hidT h H).get? b = some o) : h.get? b = some o ∧ H b = none := by
  have e' : h.get? b = some o := PySem.W.of_hideAll (trk h H) e
  refine ⟨e', ?_⟩
  cases q : H b with
  | none => rfl
  | some x =>
    have hm : b ∈ trk h H := List.mem_filter.mpr ⟨List.mem_range.mpr (Heap.lt_size e'), by simp [q]⟩
    have z : (hidT h H).get? b = none := PySem.W.hideAll_none (trk h H) hm
    rw [z] at e; cases e
def allNews (g h : Heap) (L : Addr) : List (Addr × Obj) := (List.range h.objs.size).filterMap fun a => if a = L ∨ (g.get? a).isSome = true then none else (h.get? a).map fun o => (a, o)
def rest (g h : Heap) (L d : Addr) : List (Addr × Obj) := (allNews g h L).filter fun p => decide (p.1 ≠ d)
end L2
namespace L2
open PySem PySem.Spec PyProof.Rows
/-- the module's facts, over the base: the heap at the law's entry without what is tracked there -/
structure Mod (K : PySem.W.Frag) (mg : Str → Option Value) (base : Heap) : Prop where
  kin : K.In base
  glob : base.Ns mainGlobals mg
  blt : ∃ mb, base.Ns builtinsNs mb ∧ ∀ x : Str, x ≠ "__name__" → mb x = bootBuiltins x
  nolimit : base.NoLimit
/-- the context: a def's body (or a comprehension's block) running. base: fixed through the whole law; s₀, H₀: the entry; outer: the frames whose slots others may change (a def's callers); stack: all frames that run;
   ex: iterators that were made ahead of the entry and are walked here (a comprehension's); fn: the names whose cells were made at the entry (a def: all; a comprehension's block: its own); calm: not within an except suite; pn: pins that every state bears; xe: what is wanted of an exception that leaves the code -/
structure Cx where
  prog : Program
  w : World
  K : PySem.W.Frag
  mg : Str → Option Value
  base : Heap
  A : Around
  N : List Str
  s_0 : Shared
  H_0 : Hp
  env : Env
  outer : List Env
  stack : List Env
  ex : List Addr
  fn : Str → Bool
  calm : Bool
  pn : List (Addr × Obj)
  xe : Value → Shared → Prop
/-- the callers' frames -/
def frs (l : List Env) : List Addr := l.filterMap (·.frame)
abbrev Cx.fs (X : Cx) : List Addr := frs X.outer
def Vis (sc : Scope) (x : Str) : Prop := sc.names.lookup x = some .local ∨ sc.names.lookup x = some .cell ∨ sc.names.lookup x = some .free
def Loc (sc : Scope) (x : Str) : Prop := sc.names.lookup x = some .local ∨ sc.names.lookup x = some .cell
def Look (env : Env) (h : Heap) (m : Str → Option Value) (x : Str) (u : Value) : Prop :=
  (env.kindOf x = some .local ∧ m x = some u) ∨ ((env.kindOf x = some .cell ∨ env.kindOf x = some .free) ∧ ∃ c, env.cells.lookup x = some c ∧ h.IsCell c (some u))
structure Cx.Ok (X : Cx) : Prop where
  mod : Mod X.K X.mg X.base
  kind : X.env.scope.kind = .function
  glob : X.env.globals = mainGlobals
  blt : X.env.builtins = builtinsNs
  above : X.s_0.heap.objs.size ≤ X.env.locals
  inj : ∀ x y c, X.env.cells.lookup x = some c → X.env.cells.lookup y = some c → x = y
  has : ∀ x, (X.env.kindOf x = some .cell ∨ X.env.kindOf x = some .free) → ∃ c, X.env.cells.lookup x = some c
  cab : ∀ x c, X.fn x = true → X.env.cells.lookup x = some c → X.s_0.heap.objs.size ≤ c
  hd : X.calm = true → X.A.handled = none
  frames : X.A.frames = some X.stack
  stk : X.stack = X.outer ∨ (X.stack = X.env :: X.outer ∧ X.env.frame = some X.env.locals)
  exf : ∀ b ∈ X.ex, b ≠ X.env.locals ∧ ∀ x c, X.env.cells.lookup x = some c → c ≠ b
  bs : ∀ b o, X.base.get? b = some o → X.s_0.heap.get? b = some o ∧ X.H_0 b = none
  bsz : X.base.objs.size ≤ X.s_0.heap.objs.size
  noex : ∀ b o, X.base.get? b = some o → b ∉ X.ex
  exfs : ∀ b ∈ X.ex, b ∉ X.fs
  funs : X.s_0.heap.FunFrames X.base X.outer
  frf : ∀ b ∈ X.fs, X.H_0 b = none
structure Inv (X : Cx) (pins : List (Addr × Obj)) (σ : List (Option V)) (H : Hp) (s : Shared) : Prop where
  ok : X.Ok
  os : s.os = X.s_0.os
  bare : AllBare s.gens
  base : Un X.fs X.ex X.H_0 H X.s_0.heap s.heap
  loc : ∃ m, s.heap.Ns X.env.locals m ∧ ∀ (i : Nat) (x : Str) (v : V), X.N[i]? = some x → σ[i]? = some (some v) → Vis X.env.scope x → ∃ u, RelV v u ∧ Look X.env s.heap m x u
  cell : ∀ x c, X.env.cells.lookup x = some c → ∃ v, s.heap.IsCell c v
  free : H X.env.locals = none
  freeC : ∀ x c, X.env.cells.lookup x = some c → H c = none
  pin : ∀ p ∈ X.pn ++ pins, s.heap.get? p.1 = some p.2 ∧ H p.1 = none ∧ p.1 ≠ X.env.locals ∧ p.1 ∉ X.fs ∧ ∀ v, p.2.data ≠ .cell v
  hok : HOk X.prog X.w H s.heap
  len : σ.length = X.N.length
section
variable {X : Cx} {pins : List (Addr × Obj)} {σ : List (Option V)} {H H' : Hp} {s : Shared} {h' : Heap}
theorem Cx.Ok.nofr (ok : X.Ok) {b : Addr} {o : Obj} (e : X.base.get? b = some o) : b ∉ X.fs := fun hb => by
  have := (ok.funs.mem hb).1
  rw [e] at this; cases this
theorem Inv.bs (I : Inv X pins σ H s) : ∀ b o, X.base.get? b = some o → s.heap.get? b = some o ∧ H b = none := fun b o e =>
  ⟨I.base.keep b o (I.ok.bs b o e).1 (I.ok.bs b o e).2 (I.ok.nofr e) (I.ok.noex b o e), I.base.free b o (I.ok.bs b o e).1 (I.ok.bs b o e).2 (I.ok.noex b o e)⟩
theorem Inv.bk (I : Inv X pins σ H s) : ∀ b o, X.base.get? b = some o → s.heap.get? b = some o := fun b o e => (I.bs b o e).1
theorem Inv.mod (I : Inv X pins σ H s) : Mod X.K X.mg X.base := I.ok.mod
theorem Inv.kIn (I : Inv X pins σ H s) : X.K.In s.heap := I.ok.mod.kin.keeps I.bk
theorem Inv.nolimit (I : Inv X pins σ H s) : s.heap.NoLimit := I.ok.mod.nolimit.keeps I.bk
/-- the frame over the base: for OpenK's rules (K.In X.base is I.mod.kin) -/
theorem Inv.fr (I : Inv X pins σ H s) : ∃ m, Fr X.base X.env.locals s.heap m :=
  let ⟨m, hn, _⟩ := I.loc
  ⟨m, hn, I.bk, Nat.le_trans I.ok.bsz I.ok.above⟩
theorem Inv.lt (I : Inv X pins σ H s) : X.env.locals < s.heap.objs.size := let ⟨_, hn, _⟩ := I.loc; hn.lt
theorem Inv.sz (I : Inv X pins σ H s) : X.s_0.heap.objs.size ≤ s.heap.objs.size := Nat.le_trans I.ok.above (Nat.le_of_lt I.lt)
theorem Inv.nofs (I : Inv X pins σ H s) {a : Addr} (h : s.heap.objs.size ≤ a) : a ∉ X.fs := fun hb => by
  obtain ⟨_, o, ho, _⟩ := I.ok.funs.mem hb
  exact absurd (Nat.lt_of_lt_of_le (Heap.lt_size ho) (Nat.le_trans I.sz h)) (Nat.lt_irrefl _)
theorem Inv.cne (I : Inv X pins σ H s) : ∀ x c, X.env.cells.lookup x = some c → c ≠ X.env.locals := fun x c e z => by
  obtain ⟨v, o, ho, hd⟩ := I.cell x c e
  obtain ⟨m, ⟨o', es, ep, ho', hd', _⟩, _⟩ := I.loc
  rw [z, ho'] at ho; cases ho; rw [hd'] at hd; cases hd
theorem Inv.funs (I : Inv X pins σ H s) : s.heap.FunFrames X.base X.outer := by
  have all : ∀ (l : List Env), (∀ b ∈ frs l, b ∈ X.fs) → X.s_0.heap.FunFrames X.base l → s.heap.FunFrames X.base l := by
    intro l
    induction l with
    | nil => intro _ _; trivial
    | cons env r ih =>
      intro hs hl
      obtain ⟨hk, ⟨L, o, hf, hn, ho, hd⟩, hr⟩ := hl
      have hL : L ∈ X.fs := hs L (by unfold frs; rw [List.filterMap_cons, hf]; exact List.mem_cons_self)
      obtain ⟨sl, e⟩ := I.base.slot L o ho (I.ok.frf L hL) hL fun z => I.ok.exfs L z hL
      exact ⟨hk, ⟨L, _, hf, hn, e, hd⟩, ih (fun b hb => hs b (by unfold frs; rw [List.filterMap_cons, hf]; exact List.mem_cons_of_mem _ hb)) hr⟩
  exact all X.outer (fun _ hb => hb) I.ok.funs
/-- the frames that run, for a call -/
theorem Inv.stack (I : Inv X pins σ H s) : s.heap.FunFrames X.base X.stack := by
  rcases I.ok.stk with e | ⟨e, hf⟩
  · rw [e]; exact I.funs
  · rw [e]
    obtain ⟨m, hn, _⟩ := I.loc
    refine .cons (by rw [I.ok.kind]; decide) hf hn ?_ I.funs
    exact Heap.get?_none_of_le (Nat.le_trans I.ok.bsz I.ok.above)
theorem Inv.stkSub (I : Inv X pins σ H s) : ∀ b ∈ frs X.stack, b ∈ X.env.locals :: X.fs := fun b hb => by
  rcases I.ok.stk with e | ⟨e, hf⟩
  · rw [e] at hb; exact List.mem_cons_of_mem _ hb
  · rw [e] at hb
    unfold frs at hb
    rw [List.filterMap_cons, hf] at hb
    exact hb
theorem Inv.stkFree (I : Inv X pins σ H s) : ∀ b ∈ frs X.stack, H b = none := fun b hb => by
  rcases List.mem_cons.mp (I.stkSub b hb) with e | hb
  · rw [e]; exact I.free
  · obtain ⟨_, o, ho, _⟩ := I.ok.funs.mem hb
    exact I.base.free b o ho (I.ok.frf b hb) fun z => I.ok.exfs b z hb
/-- THE STEP: the untracked objects but the frame and the records at ch are kept (the callers' frames up to slots), the frame's map is kept, the new abstract heap is held -/
theorem Inv.step {g' : Array GenState} {t' : Nat} {d' : Drawn} {ch : List Addr} (I : Inv X pins σ H s)
    (hch : ∀ b ∈ ch, (b ∈ X.ex ∨ X.s_0.heap.objs.size ≤ b) ∧ b ≠ X.env.locals ∧ (∀ x c, X.env.cells.lookup x = some c → c ≠ b) ∧ ∀ p ∈ X.pn ++ pins, p.1 ≠ b)
    (keep : ∀ b o, b ≠ X.env.locals → b ∉ X.fs → b ∉ ch → s.heap.get? b = some o → H b = none → h'.get? b = some o)
    (slot : ∀ b o, b ≠ X.env.locals → b ∈ X.fs → b ∉ ch → s.heap.get? b = some o → H b = none → ∃ sl, h'.get? b = some { o with slots := sl }) (free : ∀ b o, b ∉ ch → s.heap.get? b = some o → H b = none → H' b = none)
    (there : ∀ b o, b ∉ ch → s.heap.get? b = some o → ∃ o', h'.get? b = some o')
    (tups : ∀ b xs, H b = some (.tup xs) → H' b = some (.tup xs)) (frzs : ∀ b o u, H b = some (.frz o u) → H' b = some (.frz o u)) (tbls : ∀ b ps, H b = some (.tbl ps) → ∃ more, H' b = some (.tbl (ps ++ more)))
    (ns : ∀ m, s.heap.Ns X.env.locals m → h'.Ns X.env.locals m) (hok : HOk X.prog X.w H' h') (hg : AllBare g') :
    Inv X pins σ H' { s with heap := h', gens := g', drawn := d', toks := t' } := by
  have neL : ∀ b o, X.s_0.heap.get? b = some o → b ≠ X.env.locals := fun b o e => Nat.ne_of_lt (Nat.lt_of_lt_of_le (Heap.lt_size e) I.ok.above)
  have neC : ∀ b o, X.s_0.heap.get? b = some o → b ∉ X.ex → b ∉ ch := fun b o e hx hb => by
    rcases (hch b hb).1 with z | z
    · exact hx z
    · exact absurd (Nat.lt_of_lt_of_le (Heap.lt_size e) z) (Nat.lt_irrefl _)
  have cellK : ∀ x c, X.env.cells.lookup x = some c → ∀ v, s.heap.IsCell c v → h'.IsCell c v := fun x c e v ⟨o, ho, hd⟩ => by
    have nch : c ∉ ch := fun z => (hch c z).2.2.1 x c e rfl
    by_cases hc : c ∈ X.fs
    · obtain ⟨sl, q⟩ := slot c o (I.cne x c e) hc nch ho (I.freeC x c e)
      exact ⟨_, q, hd⟩
    · exact ⟨o, keep c o (I.cne x c e) hc nch ho (I.freeC x c e), hd⟩
  refine ⟨I.ok, I.os, hg, ⟨fun b o e n hb hx => ?_, fun b o e n hb hx => ?_, fun b o e n hx => ?_, fun b o e hx => ?_, fun b xs e => tups b xs (I.base.tups b xs e), fun b o xs e => frzs b o xs (I.base.frzs b o xs e), fun b ps e => ?_⟩, ?_, fun x c e => ?_, ?_, fun x c e => ?_, fun p hp => ?_, hok, I.len⟩
  · exact keep b o (neL b o e) hb (neC b o e hx) (I.base.keep b o e n hb hx) (I.base.free b o e n hx)
  · obtain ⟨sl, e1⟩ := I.base.slot b o e n hb hx
    obtain ⟨sl', e2⟩ := slot b _ (neL b o e) hb (neC b o e hx) e1 (I.base.free b o e n hx)
    exact ⟨sl', e2⟩
  · obtain ⟨o', e1⟩ := I.base.there b o e hx
    exact free b o' (neC b o e hx) e1 (I.base.free b o e n hx)
  · obtain ⟨o', e1⟩ := I.base.there b o e hx
    exact there b o' (neC b o e hx) e1
  · obtain ⟨m1, e1⟩ := I.base.tbls b ps e
    obtain ⟨m2, e2⟩ := tbls b _ e1
    exact ⟨m1 ++ m2, by rw [e2, Array.append_assoc]⟩
  · obtain ⟨m, hn, hl⟩ := I.loc
    refine ⟨m, ns m hn, fun i x v e1 e2 e3 => ?_⟩
    obtain ⟨u, r, l⟩ := hl i x v e1 e2 e3
    refine ⟨u, r, ?_⟩
    rcases l with l | ⟨k, c, e, z⟩
    · exact .inl l
    · exact .inr ⟨k, c, e, cellK x c e _ z⟩
  · obtain ⟨v, z⟩ := I.cell x c e
    exact ⟨v, cellK x c e v z⟩
  · obtain ⟨m, ⟨o, _, _, ho, _⟩, _⟩ := I.loc
    exact free _ o (fun z => (hch _ z).2.1 rfl) ho I.free
  · obtain ⟨v, o, ho, hd⟩ := I.cell x c e
    exact free c o (fun z => (hch c z).2.2.1 x c e rfl) ho (I.freeC x c e)
  · obtain ⟨e, n, ne, nf, d⟩ := I.pin p hp
    have nch : p.1 ∉ ch := fun z => (hch p.1 z).2.2.2 p hp rfl
    exact ⟨keep p.1 p.2 ne nf nch e n, free p.1 p.2 nch e n, ne, nf, d⟩
/-- .. where the frame's own object is kept too -/
theorem Inv.un {t' : Nat} (I : Inv X pins σ H s) (u : Un X.fs [] H H' s.heap h') (hok : HOk X.prog X.w H' h') : Inv X pins σ H' { s with heap := h', toks := t' } := by
  obtain ⟨m, ⟨o, es, ep, ho, r⟩, _⟩ := id I.loc
  obtain ⟨sl, hL⟩ := u.any ho I.free (by simp)
  exact I.step (g' := s.gens) (d' := s.drawn) (ch := []) (fun _ z => nomatch z) (fun b o _ hb _ e n => u.keep b o e n hb (by simp)) (fun b o _ hb _ e n => u.slot b o e n hb (by simp)) (fun b o _ e n => u.free b o e n (by simp)) (fun b o _ e => u.there b o e (by simp)) u.tups u.frzs u.tbls (fun m' hm => by
    obtain ⟨o', es', ep', ho', r'⟩ := hm
    rw [ho] at ho'; cases ho'
    exact ⟨_, es', ep', hL, r'⟩) hok I.bare
/-- behind a call (or a comprehension's block): the slots of this frame may have changed too, the records at ch may have turned -/
theorem Inv.call {g' : Array GenState} {t' : Nat} {d' : Drawn} {ch : List Addr} (I : Inv X pins σ H s) (u : Un (frs X.stack) ch H H' s.heap h') (hok : HOk X.prog X.w H' h') (hg : AllBare g')
    (hch : ∀ b ∈ ch, (b ∈ X.ex ∨ X.s_0.heap.objs.size ≤ b) ∧ b ≠ X.env.locals ∧ (∀ x c, X.env.cells.lookup x = some c → c ≠ b) ∧ ∀ p ∈ X.pn ++ pins, p.1 ≠ b) :
    Inv X pins σ H' { s with heap := h', gens := g', drawn := d', toks := t' } := by
  obtain ⟨m, ⟨o, es, ep, ho, r⟩, _⟩ := id I.loc
  obtain ⟨sl, hL⟩ := u.any ho I.free fun z => (hch _ z).2.1 rfl
  exact I.step (ch := ch) hch (fun b o hL hb hc e n => u.keep b o e n (fun z => (List.mem_cons.mp (I.stkSub b z)).elim hL hb) hc) (fun b o _ _ hc e n => u.any e n hc) (fun b o hc e n => u.free b o e n hc) (fun b o hc e => u.there b o e hc) u.tups u.frzs u.tbls (fun m' hm => by
    obtain ⟨o', es', ep', ho', r'⟩ := hm
    rw [ho] at ho'; cases ho'
    exact ⟨_, es', ep', hL, r'⟩) hok hg
/-- an untracked record of ours (an iterator) has turned -/
theorem Inv.turned {t' : Nat} {it : Addr} (I : Inv X pins σ H s) (k : ∀ b o, b ≠ it → s.heap.get? b = some o → h'.get? b = some o) (hn : H it = none) (hL : it ≠ X.env.locals)
    (h1 : it ∈ X.ex ∨ X.s_0.heap.objs.size ≤ it) (h2 : ∀ x c, X.env.cells.lookup x = some c → c ≠ it) (h3 : ∀ p ∈ X.pn ++ pins, p.1 ≠ it) : Inv X pins σ H { s with heap := h', toks := t' } := by
  have nit : ∀ b u, H b = some u → b ≠ it := fun b u e z => by rw [z, hn] at e; cases e
  refine I.step (g' := s.gens) (d' := s.drawn) (ch := [it]) (fun b hb => ?_) (fun b o _ _ hc e _ => k b o (fun z => hc (by simp [z])) e) (fun b o _ _ hc e _ => ⟨o.slots, k b o (fun z => hc (by simp [z])) e⟩) (fun _ _ _ _ n => n)
    (fun b o hc e => ⟨o, k b o (fun z => hc (by simp [z])) e⟩) (fun _ _ e => e) (fun _ _ _ e => e) (fun b ps e => ⟨#[], by rw [e]; simp⟩) (fun m hm => ?_) (fun b u e => ?_) I.bare
  · have e : b = it := by simpa using hb
    subst e
    exact ⟨h1, hL, h2, h3⟩
  · obtain ⟨o, es, ep, ho, r⟩ := hm
    exact ⟨o, es, ep, k _ o (Ne.symm hL) ho, r⟩
  · refine (I.hok b u e).stay (fun c v hc q => k c v ?_ q) (fun _ q => q) fun _ _ q => q
    rcases hc with z | z
    · rw [z]; exact nit b u e
    · exact nit c _ z
theorem Inv.tok (I : Inv X pins σ H s) (t : Nat) : Inv X pins σ H { s with toks := t } := I.un (h' := s.heap) (t' := t) Un.refl I.hok
/-- all objects kept -/
theorem Inv.kept {t' : Nat} (I : Inv X pins σ H s) (k : ∀ b u, s.heap.get? b = some u → h'.get? b = some u) : Inv X pins σ H { s with heap := h', toks := t' } := I.un (Un.kept k) (I.hok.kept k)
/-- a new object laid and tracked -/
theorem Inv.laid {a : Addr} {o : HO} {t' : Nat} (I : Inv X pins σ H s) (k : ∀ b u, s.heap.get? b = some u → h'.get? b = some u) (hp : s.heap.objs.size ≤ a) (new : ObjOk X.prog X.w (upd H a o) h' a o) :
    Inv X pins σ (upd H a o) { s with heap := h', toks := t' } := I.un (Un.laid k hp (I.hok.fresh hp)) (I.hok.laid k hp new)
/-- an object written -/
theorem Inv.write {x e : Addr} {o : HO} {t' : Nat} (I : Inv X pins σ H s) (mu : Mut (H x)) (he : e = x ∨ H e = some (.own x)) (k : ∀ b u, b ≠ e → s.heap.get? b = some u → h'.get? b = some u) (heo : ∃ u, h'.get? e = some u)
    (new : ObjOk X.prog X.w (upd H x o) h' x o) : Inv X pins σ (upd H x o) { s with heap := h', toks := t' } := I.un (Un.write mu he k heo) (I.hok.write mu he k heo new)
/-- forgetting slots, pins -/
theorem Inv.weak {σ' : List (Option V)} (I : Inv X pins σ H s) (hl : σ'.length = σ.length) (w : ∀ (i : Nat) v, σ'[i]? = some (some v) → σ[i]? = some (some v)) : Inv X pins σ' H s :=
  ⟨I.ok, I.os, I.bare, I.base, let ⟨m, hn, hl'⟩ := I.loc; ⟨m, hn, fun i x v e1 e2 e3 => hl' i x v e1 (w i v e2) e3⟩, I.cell, I.free, I.freeC, I.pin, I.hok, hl.trans I.len⟩
theorem Inv.pins_of {pins' : List (Addr × Obj)} (I : Inv X pins σ H s) (h : ∀ p ∈ pins', s.heap.get? p.1 = some p.2 ∧ H p.1 = none ∧ p.1 ≠ X.env.locals ∧ p.1 ∉ X.fs ∧ ∀ v, p.2.data ≠ .cell v) : Inv X pins' σ H s :=
  ⟨I.ok, I.os, I.bare, I.base, I.loc, I.cell, I.free, I.freeC, fun p hp => (List.mem_append.mp hp).elim (fun z => I.pin p (List.mem_append_left _ z)) (h p), I.hok, I.len⟩
theorem nodup_ix {N : List Str} (hN : N.Nodup) {i j : Nat} {x : Str} (a : N[i]? = some x) (b : N[j]? = some x) : i = j := by
  obtain ⟨h1, e1⟩ := List.getElem?_eq_some_iff.mp a
  obtain ⟨h2, e2⟩ := List.getElem?_eq_some_iff.mp b
  exact (List.getElem_inj hN).mp (e1.trans e2.symm)
/-- a name is stored; what changed -/
theorem store_ok2 {M : Model} {A : Around} {E : Value → Shared → Prop} {i : Nat} {x : Str} {v : V} {u : Value} {Q : Unit → Shared → Prop} (I : Inv X pins σ H s) (hN : X.N.Nodup) (hi : X.N[i]? = some x) (hx : Loc X.env.scope x) (r : RelV v u)
    (h : ∀ s', Inv X pins (σ.set i (some v)) H s' → (∃ a, Heap.SameBut a s.heap s'.heap ∧ (a = X.env.locals ∨ X.env.cells.lookup x = some a)) → Q () s') (hf : X.fn x = true ∨ X.env.scope.names.lookup x = some .local := by first | exact .inl rfl | exact .inr rfl | assumption) : wpAny M A (storeName X.env x u) Q E s := by
  obtain ⟨m, hn, hl⟩ := id I.loc
  have hcls : (X.env.scope.kind == .class || (X.env.scope.kind == .module && X.env.locals != X.env.globals)) = false := by rw [I.ok.kind]; rfl
  have hiσ : i < σ.length := by rw [I.len]; exact (List.getElem?_eq_some_iff.mp hi).1
  have cne := I.cne
  have tracked : ∀ {a : Addr} {h' : Heap}, (∃ o, s.heap.get? a = some o ∧ H a = none) → Heap.SameBut a s.heap h' → HOk X.prog X.w H h' := fun {a h'} ha hs b ob e => by
    obtain ⟨_, _, hfree⟩ := ha
    refine (I.hok b ob e).stay (fun c w' hc q => (hs.2 c ?_).trans q) (fun _ q => q) fun _ _ q => q
    rintro rfl
    rcases hc with rfl | hc
    · rw [hfree] at e; cases e
    · rw [hfree] at hc; cases hc
  rcases hx with hk | hk
  · refine wpAny_storeName_local hk hn (fun h' hn' hs => ?_) hcls
    obtain ⟨oL, _, _, hoL, _⟩ := id hn
    refine h _ ⟨I.ok, I.os, I.bare, ⟨fun b o e n hb hx => ?_, fun b o e n hb hx => ?_, I.base.free, fun b o e hx => ?_, I.base.tups, I.base.frzs, I.base.tbls⟩, ⟨_, hn', fun j y v' e1 e2 e3 => ?_⟩, fun y c e => ?_, I.free, I.freeC, fun p hp => ?_, tracked ⟨oL, hoL, I.free⟩ hs, by simpa using I.len⟩ ⟨_, hs, .inl rfl⟩
    · exact (hs.2 b (Nat.ne_of_lt (Nat.lt_of_lt_of_le (Heap.lt_size e) I.ok.above))).trans (I.base.keep b o e n hb hx)
    · obtain ⟨sl, e1⟩ := I.base.slot b o e n hb hx
      exact ⟨sl, (hs.2 b (Nat.ne_of_lt (Nat.lt_of_lt_of_le (Heap.lt_size e) I.ok.above))).trans e1⟩
    · obtain ⟨o', e1⟩ := I.base.there b o e hx
      exact ⟨o', (hs.2 b (Nat.ne_of_lt (Nat.lt_of_lt_of_le (Heap.lt_size e) I.ok.above))).trans e1⟩
    · by_cases hj : j = i
      · subst hj
        rw [hi] at e1; cases e1
        rw [List.getElem?_set_self hiσ] at e2
        cases e2
        exact ⟨u, r, .inl ⟨hk, by simp⟩⟩
      · rw [List.getElem?_set_ne (Ne.symm hj)] at e2
        obtain ⟨u', r', q⟩ := hl j y v' e1 e2 e3
        refine ⟨u', r', ?_⟩
        rcases q with ⟨k, e⟩ | ⟨k, c, e, z⟩
        · refine .inl ⟨k, ?_⟩
          have : y ≠ x := fun e => hj (nodup_ix hN e1 (e ▸ hi))
          simp [this, e]
        · exact .inr ⟨k, c, e, z.sameBut hs (cne y c e)⟩
    · obtain ⟨w', z⟩ := I.cell y c e
      exact ⟨w', z.sameBut hs (cne y c e)⟩
    · obtain ⟨e, n, ne, nf, d⟩ := I.pin p hp
      exact ⟨(hs.2 p.1 ne).trans e, n, ne, nf, d⟩
  · have hfn : X.fn x = true := by
      rcases hf with z | z
      · exact z
      · rw [z] at hk; cases hk
    obtain ⟨c, hc⟩ := I.ok.has x (.inl hk)
    obtain ⟨w', z⟩ := I.cell x c hc
    refine wpAny_storeName_cell I.ok.kind hk hc z (fun h' hc' hs => ?_)
    obtain ⟨oc, hoc, hocd⟩ := id z
    refine h { s with heap := h' } ⟨I.ok, I.os, I.bare, ⟨fun b o e n hb hx => ?_, fun b o e n hb hx => ?_, I.base.free, fun b o e hx => ?_, I.base.tups, I.base.frzs, I.base.tbls⟩, ⟨m, hn.sameBut hs (Ne.symm (cne x c hc)), fun j y v' e1 e2 e3 => ?_⟩, fun y c' e => ?_, I.free, I.freeC, fun p hp => ?_, tracked ⟨oc, hoc, I.freeC x c hc⟩ hs, by simpa using I.len⟩ ⟨c, hs, .inr hc⟩
    · exact (hs.2 b (Nat.ne_of_lt (Nat.lt_of_lt_of_le (Heap.lt_size e) (I.ok.cab x c hfn hc)))).trans (I.base.keep b o e n hb hx)
    · obtain ⟨sl, e1⟩ := I.base.slot b o e n hb hx
      exact ⟨sl, (hs.2 b (Nat.ne_of_lt (Nat.lt_of_lt_of_le (Heap.lt_size e) (I.ok.cab x c hfn hc)))).trans e1⟩
    · obtain ⟨o', e1⟩ := I.base.there b o e hx
      exact ⟨o', (hs.2 b (Nat.ne_of_lt (Nat.lt_of_lt_of_le (Heap.lt_size e) (I.ok.cab x c hfn hc)))).trans e1⟩
    · by_cases hj : j = i
      · subst hj
        rw [hi] at e1; cases e1
        rw [List.getElem?_set_self hiσ] at e2
        cases e2
        exact ⟨u, r, .inr ⟨.inl hk, c, hc, hc'⟩⟩
      · rw [List.getElem?_set_ne (Ne.symm hj)] at e2
        obtain ⟨u', r', q⟩ := hl j y v' e1 e2 e3
        refine ⟨u', r', ?_⟩
        rcases q with q | ⟨k, c', e, z'⟩
        · exact .inl q
        · refine .inr ⟨k, c', e, z'.sameBut hs ?_⟩
          rintro rfl
          exact hj (nodup_ix hN e1 (I.ok.inj _ _ _ e hc ▸ hi))
    · by_cases hcc : c' = c
      · subst hcc; exact ⟨_, hc'⟩
      · obtain ⟨w2, z2⟩ := I.cell y c' e
        exact ⟨w2, z2.sameBut hs hcc⟩
    · obtain ⟨e, n, ne, nf, d⟩ := I.pin p hp
      refine ⟨(hs.2 p.1 ?_).trans e, n, ne, nf, d⟩
      intro q
      rw [q, hoc] at e
      have q' : oc = p.2 := Option.some.inj e
      exact d w' (by rw [← q']; exact hocd)
theorem store_ok {M : Model} {A : Around} {E : Value → Shared → Prop} {i : Nat} {x : Str} {v : V} {u : Value} {Q : Unit → Shared → Prop} (I : Inv X pins σ H s) (hN : X.N.Nodup) (hi : X.N[i]? = some x) (hx : Loc X.env.scope x) (r : RelV v u)
    (h : ∀ s', Inv X pins (σ.set i (some v)) H s' → Q () s') (hf : X.fn x = true ∨ X.env.scope.names.lookup x = some .local := by first | exact .inl rfl | exact .inr rfl | assumption) : wpAny M A (storeName X.env x u) Q E s :=
  store_ok2 I hN hi hx r (fun s' I' _ => h s' I') hf
/-- behind a call or a block, the state as it is -/
theorem Inv.call' {s' : Shared} {ch : List Addr} (I : Inv X pins σ H s) (ho : s'.os = s.os) (u : Un (frs X.stack) ch H H' s.heap s'.heap) (hok : HOk X.prog X.w H' s'.heap) (hg : AllBare s'.gens)
    (hch : ∀ b ∈ ch, (b ∈ X.ex ∨ X.s_0.heap.objs.size ≤ b) ∧ b ≠ X.env.locals ∧ (∀ x c, X.env.cells.lookup x = some c → c ≠ b) ∧ ∀ p ∈ X.pn ++ pins, p.1 ≠ b) : Inv X pins σ H' s' := by
  obtain ⟨h', g', d', t', o'⟩ := s'
  have e : o' = s.os := ho
  subst e
  exact I.call (g' := g') (t' := t') (d' := d') u hok hg hch
end
/-- an exception: its class, its own dict's address (where it has one), the abstract heap behind it -/
abbrev XK := Value → Option Addr → Hp → Prop
abbrev St := List (Option V)
abbrev VK := V → Hp → Prop
/-- an expression's reading; a test's; an argument list's -/
abbrev TE := St → Hp → VK → Prop
abbrev TT := St → Hp → (Bool → Hp → Prop) → Prop
abbrev TA := St → Hp → (List V → Hp → Prop) → Prop
/-- what is wanted behind a statement -/
structure Ends where
  nx : St → Hp → Prop
  rt : VK
  bk : St → Hp → Prop := fun _ _ => False
  ct : St → Hp → Prop := fun _ _ => False
abbrev TS := Ends → St → Hp → Prop
def EP (X : Cx) (pins : List (Addr × Obj)) (σ : St) (Q : VK) (u : Value) (s' : Shared) : Prop := ∃ v H', Inv X pins σ H' s' ∧ RelV v u ∧ Q v H'
def TP (X : Cx) (pins : List (Addr × Obj)) (σ : St) (Q : Bool → Hp → Prop) (b : Bool) (s' : Shared) : Prop := ∃ H', Inv X pins σ H' s' ∧ Q b H'
def AP (X : Cx) (pins : List (Addr × Obj)) (σ : St) (Q : List V → Hp → Prop) (us : List Value) (s' : Shared) : Prop := ∃ vs H', Inv X pins σ H' s' ∧ Vals vs us ∧ Q vs H'
def SP (X : Cx) (pins : List (Addr × Obj)) (D : Ends) (f : Flow) (s' : Shared) : Prop :=
  match f with
  | .next => ∃ σ' H', Inv X pins σ' H' s' ∧ D.nx σ' H'
  | .brk => ∃ σ' H', Inv X pins σ' H' s' ∧ D.bk σ' H'
  | .cont => ∃ σ' H', Inv X pins σ' H' s' ∧ D.ct σ' H'
  | .ret u => ∃ v σ' H', Inv X pins σ' H' s' ∧ RelV v u ∧ D.rt v H'
def PE (X : Cx) (e : Expr) (t : TE) : Prop :=
  ∀ (pins : List (Addr × Obj)) (s : Shared) (σ : St) (H : Hp) (Q : VK), Inv X pins σ H s → t σ H Q → wpAny (model X.prog X.w) X.A (eval e X.env) (EP X pins σ Q) X.xe s
def PT (X : Cx) (e : Expr) (t : TT) : Prop :=
  ∀ (pins : List (Addr × Obj)) (s : Shared) (σ : St) (H : Hp) (Q : Bool → Hp → Prop), Inv X pins σ H s → t σ H Q → wpAny (model X.prog X.w) X.A (isTrue e X.env (eval e X.env)) (TP X pins σ Q) X.xe s
/-- a test whatever its 'whole' is (and, or) -/
def PW (X : Cx) (e : Expr) (t : TT) : Prop :=
  ∀ (whole : Sem Value) (pins : List (Addr × Obj)) (s : Shared) (σ : St) (H : Hp) (Q : Bool → Hp → Prop), Inv X pins σ H s → t σ H Q → wpAny (model X.prog X.w) X.A (isTrue e X.env whole) (TP X pins σ Q) X.xe s
theorem PW.pt {X : Cx} {e : Expr} {t : TT} (h : PW X e t) : PT X e t := h _
/-- an argument list (no star), from the left -/
def PA (X : Cx) (es : List Expr) (t : TA) : Prop :=
  ∀ (pos : Pos) (pins : List (Addr × Obj)) (s : Shared) (σ : St) (H : Hp) (Q : List V → Hp → Prop), Inv X pins σ H s → t σ H Q → wpAny (model X.prog X.w) X.A (spliced (backTo pos (starEach es X.env))) (AP X pins σ Q) X.xe s
def PS (X : Cx) (st : Stmt) (t : TS) : Prop :=
  ∀ (pins : List (Addr × Obj)) (s : Shared) (σ : St) (H : Hp) (D : Ends), Inv X pins σ H s → t D σ H → wpAny (model X.prog X.w) X.A (exec st X.env) (SP X pins D) X.xe s
def PSs (X : Cx) (st : List Stmt) (t : TS) : Prop :=
  ∀ (pins : List (Addr × Obj)) (s : Shared) (σ : St) (H : Hp) (D : Ends), Inv X pins σ H s → t D σ H → wpAny (model X.prog X.w) X.A (execs st X.env) (SP X pins D) X.xe s
/-- weaken the end -/
theorem thn {α : Type} {t : Sem α} {Q Q' : α → Shared → Prop} {M : Model} {A : Around} {E : Value → Shared → Prop} {s : Shared} (h : wpAny M A t Q E s) (hQ : ∀ a s, Q a s → Q' a s) : wpAny M A t Q' E s := wpAny_mono h hQ fun _ _ x => x
end L2
namespace L2
open PySem PySem.Spec PyProof.Rows
section
variable {X : Cx}
def tVar (i : Nat) : TE := fun σ H Q => ∃ v, σ[i]? = some (some v) ∧ Q v H
def tC (v : V) : TE := fun _ H Q => Q v H
theorem pe_var {i : Nat} {x : Str} {pos : Pos} (hN : X.N[i]? = some x) (hv : Vis X.env.scope x) (hd : (x == ("__debug__" : Str)) = false := by decide) (hcd : (x == ("__classdict__" : Str)) = false := by decide) : PE X (.Name x pos) (tVar i) := by
  intro pins s σ H Q I h
  obtain ⟨v, e, h⟩ := h
  obtain ⟨m, hn, hl⟩ := I.loc
  obtain ⟨u, r, l⟩ := hl i x v hN e hv
  have fin : EP X pins σ Q u s := ⟨v, H, I, r, h⟩
  rcases l with ⟨hk, hm⟩ | ⟨hk, c, hc, hcell⟩
  · exact wpAny_Name (wpAny_loadName_local I.ok.kind hk hn hm fin) hd
  · rcases hk with hk | hk
    · exact wpAny_Name (wpAny_loadName_cell I.ok.kind hk hc hcell fin) hd
    · exact wpAny_Name (wpAny_loadName_free I.ok.kind hk hc hcell fin hcd) hd
theorem pe_int {i j pos} : PE X (.Constant (.int i) j pos) (tC (.int i)) := fun _ _ _ H _ I h => wpAny_Constant_int ⟨.int i, H, I.tok _, ⟨_, rfl⟩, h⟩
theorem pe_bl {b j pos} : PE X (.Constant (.bool b) j pos) (tC (.bl b)) := fun _ _ _ H _ I h => Constant_bool ⟨.bl b, H, I, rfl, h⟩
theorem pe_str {x j pos} : PE X (.Constant (.str x) j pos) (tC (.str x)) := fun _ _ _ H _ I h => Calls.Constant_str ⟨.str x, H, I.tok _, ⟨_, rfl⟩, h⟩
/-- a global name of the def -/
def Gl (X : Cx) (x : Str) : Prop := X.env.kindOf x = some .globalImplicit
theorem ld_glob {E : Value → Shared → Prop} {pins : List (Addr × Obj)} {s : Shared} {σ : St} {H : Hp} {x : Str} {u : Value} {pos : Pos} {Q : Value → Shared → Prop} (I : Inv X pins σ H s) (hg : Gl X x) (hm : X.mg x = some u) (h : Q u s)
    (hd : (x == ("__debug__" : Str)) = false := by decide) : wpAny (model X.prog X.w) X.A (eval (.Name x pos) X.env) Q E s :=
  Calls.Name_function_global I.ok.kind hg (Calls.loadGlobal_global (by rw [I.ok.glob]; exact I.mod.glob.keeps I.bk) hm h) hd
theorem ld_blt {E : Value → Shared → Prop} {pins : List (Addr × Obj)} {s : Shared} {σ : St} {H : Hp} {x : Str} {u : Value} {pos : Pos} {Q : Value → Shared → Prop} (I : Inv X pins σ H s) (hg : Gl X x) (hm : X.mg x = none) (hv : bootBuiltins x = some u) (h : Q u s)
    (hn : x ≠ "__name__" := by decide) (hd : (x == ("__debug__" : Str)) = false := by decide) : wpAny (model X.prog X.w) X.A (eval (.Name x pos) X.env) Q E s := by
  obtain ⟨mb, h1, h2⟩ := I.mod.blt
  exact Calls.Name_function_global I.ok.kind hg (Calls.loadGlobal_builtin (by rw [I.ok.glob]; exact I.mod.glob.keeps I.bk) hm (by rw [I.ok.blt]; exact h1.keeps I.bk) ((h2 x hn).trans hv) h) hd
/-- a module's constant, a class, a function, as a value -/
theorem pe_glob {x : Str} {v : V} {u : Value} {pos : Pos} (hg : Gl X x) (hm : X.mg x = some u) (r : RelV v u) (hd : (x == ("__debug__" : Str)) = false := by decide) : PE X (.Name x pos) (tC v) :=
  fun _ _ _ H _ I h => ld_glob I hg hm ⟨v, H, I, r, h⟩ hd
theorem pe_bltn {x : Str} {v : V} {u : Value} {pos : Pos} (hg : Gl X x) (hm : X.mg x = none) (hv : bootBuiltins x = some u) (r : RelV v u) (hn : x ≠ "__name__" := by decide) (hd : (x == ("__debug__" : Str)) = false := by decide) : PE X (.Name x pos) (tC v) :=
  fun _ _ _ H _ I h => ld_blt I hg hm hv ⟨v, H, I, r, h⟩ hn hd
variable {a b : Expr} {ta tb : TE} {pos : Pos}
/-- a comparison as a value, as a test -/
def tB (t : TE) : TT := fun σ H Q => t σ H fun x H1 => ∃ c, x = .bl c ∧ Q c H1
/-- an expression whose value is a bool, as a test -/
theorem pt_val {e : Expr} {t : TE} (h : PE X e t) (he : ∀ whole, isTrue e X.env whole = (do let v ← whole; standAt e.pos; holding [v] (truthy v)) := by intro _; rfl) : PT X e (tB t) := by
  intro pins s σ H Q I hw
  refine isTrue_plain (thn (h pins s σ H _ I hw) fun v s1 ⟨x, H1, I1, r1, q1⟩ => ?_) (he _)
  obtain ⟨d, rfl, q⟩ := q1
  cases r1
  exact wpAny_truthy_bool ⟨H1, I1, q⟩
variable {tA tB' : TT} {rest : List Expr}
def tNot (t : TT) : TT := fun σ H Q => t σ H fun c H1 => Q (!c) H1
theorem pt_not (ha : PT X a tA) : PT X (.UnaryOp .Not a pos) (tNot tA) := by
  intro pins s σ H Q I h
  exact isTrue_not (ha pins s σ H (fun c H1 => Q (!c) H1) I h)
/-- .. as values (bools) -/
def tAndV (ta tb : TE) : TE := fun σ H Q => ta σ H fun x H1 => ∃ c, x = .bl c ∧ if c = true then tb σ H1 Q else Q (.bl false) H1
theorem pe_one {op} {t : TE} (h : PE X a t) : PE X (.BoolOp op [a] pos) t := fun pins s σ H Q I hw => BoolOp_one (h pins s σ H Q I hw)
theorem pe_and (ha : PE X a ta) (hb : PE X (.BoolOp .And (b :: rest) pos) tb) : PE X (.BoolOp .And (a :: b :: rest) pos) (tAndV ta tb) := by
  intro pins s σ H Q I h
  refine BoolOp_and (thn (ha pins s σ H _ I h) fun v s1 ⟨x, H1, I1, r1, q1⟩ => ?_)
  obtain ⟨c, rfl, q1⟩ := q1
  cases r1
  refine wpAny_truthy_bool ?_
  cases c with
  | true => exact hb pins s1 σ H1 Q I1 q1
  | false => exact ⟨.bl false, H1, I1, rfl, q1⟩
end
end L2
namespace L2
open PySem PySem.Spec PyProof.Rows
def SqL (K : PySem.W.Frag) (H : Hp) (a : Addr) (xs : List V) : Prop :=
  Rd H a (.lst xs) ∨
    ∃ (o : Obj) (its : Array Value) (n : Nat), K.lookup a = some o ∧ o.cls = .type "list" ∧ o.dict = none ∧ o.data = .seq its n ∧ its.size ≤ sizeLine ∧ Vals xs its.toList
def SqT (K : PySem.W.Frag) (H : Hp) (a : Addr) (xs : List V) : Prop :=
  Rd H a (.tup xs) ∨
    ∃ (o : Obj) (its : Array Value) (n : Nat), K.lookup a = some o ∧ o.cls = .type "tuple" ∧ o.data = .seq its n ∧ its.size ≤ sizeLine ∧ Vals xs its.toList
def absV : Value → Option V
  | .none => some .non
  | .bool b => some (.bl b)
  | .int i _ => some (.int i)
  | .str x _ => some (.str x)
  | .bytes b _ => some (.byt b)
  | .float b _ => some (.flt b)
  | .ref a => some (.ref a)
  | .type n => some (.ty n)
  | _ => none
theorem RelV.abs {x : V} {u : Value} (r : RelV x u) : absV u = some x := by
  cases x with
  | non => cases r; rfl
  | bl _ => cases r; rfl
  | int _ => obtain ⟨t, rfl⟩ := r; rfl
  | str _ => obtain ⟨t, rfl⟩ := r; rfl
  | byt _ => obtain ⟨t, rfl⟩ := r; rfl
  | flt _ => obtain ⟨t, rfl⟩ := r; rfl
  | ref _ => cases r; rfl
  | ty _ => cases r; rfl
theorem RelV.inj {x y : V} {u : Value} (r : RelV x u) (q : RelV y u) : x = y := Option.some.inj (r.abs.symm.trans q.abs)
theorem Vals.inj : ∀ {xs ys : List V} {us : List Value}, Vals xs us → Vals ys us → xs = ys
  | _, _, _, .nil, .nil => rfl
  | _, _, _, .cons r t, .cons r' t' => by rw [r.inj r', Vals.inj t t']
section
variable {X : Cx} {pins : List (Addr × Obj)} {σ : St} {H : Hp} {s : Shared} {a : Addr} {xs ys : List V}
theorem SqL.of {K : PySem.W.Frag} (h : H a = some (.lst xs)) : SqL K H a xs := .inl (.inl h)
theorem SqT.of {K : PySem.W.Frag} (h : H a = some (.tup xs)) : SqT K H a xs := .inl (.inl h)
theorem Inv.list (I : Inv X pins σ H s) (h : SqL X.K H a xs) : ∃ its : List Value, Vals xs its ∧ PlainL s.heap a its.toArray ∧ xs.length ≤ sizeLine := by
  rcases h with h | ⟨o, its, n, hk, hc, hd, hs, hz, r⟩
  · obtain ⟨z, its, n, r, e⟩ := h.ok I.hok
    exact ⟨its, r, ⟨_, n, e, rfl, rfl, rfl⟩, z⟩
  · refine ⟨its.toList, r, ⟨o, n, I.kIn a o hk, hc, hd, by simpa using hs⟩, ?_⟩
    have e := r.length
    simp only [Array.length_toList] at e
    omega
theorem Inv.tuple (I : Inv X pins σ H s) (h : SqT X.K H a xs) : ∃ its : List Value, Vals xs its ∧ IsTup s.heap a its.toArray ∧ xs.length ≤ sizeLine := by
  rcases h with h | ⟨o, its, n, hk, hc, hs, hz, r⟩
  · obtain ⟨z, its, r, p⟩ := h.ok I.hok
    exact ⟨its, r, p, z⟩
  · refine ⟨its.toList, r, ⟨o, I.kIn a o hk, hc, n, by simpa using hs⟩, ?_⟩
    have e := r.length
    simp only [Array.length_toList] at e
    omega
theorem Inv.list_inj (I : Inv X pins σ H s) (h : SqL X.K H a xs) (h' : SqL X.K H a ys) : xs = ys := by
  obtain ⟨its, r, ⟨o, n, e, _, _, d⟩, _⟩ := I.list h
  obtain ⟨its', r', ⟨o', n', e', _, _, d'⟩, _⟩ := I.list h'
  rw [e] at e'; cases e'
  rw [d] at d'
  injection d' with d1 _
  have : its = its' := by simpa using congrArg Array.toList d1
  subst this
  exact r.inj r'
theorem Inv.tuple_inj (I : Inv X pins σ H s) (h : SqT X.K H a xs) (h' : SqT X.K H a ys) : xs = ys := by
  obtain ⟨its, r, ⟨o, e, _, n, d⟩, _⟩ := I.tuple h
  obtain ⟨its', r', ⟨o', e', _, n', d'⟩, _⟩ := I.tuple h'
  rw [e] at e'; cases e'
  rw [d] at d'
  injection d' with d1 _
  have : its = its' := by simpa using congrArg Array.toList d1
  subst this
  exact r.inj r'
end
abbrev Cx.wish (X : Cx) (E : Value → Shared → Prop) : Cx := { X with xe := E }
/-- no exception leaves -/
abbrev Cx.nox (X : Cx) : Cx := X.wish fun _ _ => False
theorem Cx.Ok.wish {X : Cx} (ok : X.Ok) (E : Value → Shared → Prop) : (X.wish E).Ok :=
  ⟨ok.mod, ok.kind, ok.glob, ok.blt, ok.above, ok.inj, ok.has, ok.cab, ok.hd, ok.frames, ok.stk, ok.exf, ok.bs, ok.bsz, ok.noex, ok.exfs, ok.funs, ok.frf⟩
theorem Cx.Ok.unwish {X : Cx} {E : Value → Shared → Prop} (ok : (X.wish E).Ok) : X.Ok :=
  ⟨ok.mod, ok.kind, ok.glob, ok.blt, ok.above, ok.inj, ok.has, ok.cab, ok.hd, ok.frames, ok.stk, ok.exf, ok.bs, ok.bsz, ok.noex, ok.exfs, ok.funs, ok.frf⟩
section
variable {X : Cx} {pins : List (Addr × Obj)} {σ : St} {H : Hp} {s : Shared} {E : Value → Shared → Prop}
theorem Inv.wish (I : Inv X pins σ H s) (E : Value → Shared → Prop) : Inv (X.wish E) pins σ H s := ⟨I.ok.wish E, I.os, I.bare, I.base, I.loc, I.cell, I.free, I.freeC, I.pin, I.hok, I.len⟩
theorem Inv.unwish (I : Inv (X.wish E) pins σ H s) : Inv X pins σ H s := ⟨I.ok.unwish, I.os, I.bare, I.base, I.loc, I.cell, I.free, I.freeC, I.pin, I.hok, I.len⟩
theorem SP.unwish {D : Ends} {f : Flow} {s' : Shared} (h : SP (X.wish E) pins D f s') : SP X pins D f s' := by
  cases f with
  | next => obtain ⟨σ', H', I, q⟩ := h; exact ⟨σ', H', I.unwish, q⟩
  | brk => obtain ⟨σ', H', I, q⟩ := h; exact ⟨σ', H', I.unwish, q⟩
  | cont => obtain ⟨σ', H', I, q⟩ := h; exact ⟨σ', H', I.unwish, q⟩
  | ret u => obtain ⟨v, σ', H', I, r, q⟩ := h; exact ⟨v, σ', H', I.unwish, r, q⟩
theorem PE.nox {e : Expr} {t : TE} (h : PE X.nox e t) : PE X e t := fun pins s σ H Q I hw =>
  wpAny_mono (h pins s σ H Q (I.wish _) hw) (fun _ _ ⟨v, H', I', r, q⟩ => ⟨v, H', I'.unwish, r, q⟩) fun _ _ z => False.elim z
theorem PT.nox {e : Expr} {t : TT} (h : PT X.nox e t) : PT X e t := fun pins s σ H Q I hw =>
  wpAny_mono (h pins s σ H Q (I.wish _) hw) (fun _ _ ⟨H', I', q⟩ => ⟨H', I'.unwish, q⟩) fun _ _ z => False.elim z
theorem PSs.nox {st : List Stmt} {t : TS} (h : PSs X.nox st t) : PSs X st t := fun pins s σ H D I hw =>
  wpAny_mono (h pins s σ H D (I.wish _) hw) (fun _ _ q => q.unwish) fun _ _ z => False.elim z
end
section
variable {X : Cx} {st : Stmt} {rest : List Stmt} {t u : TS} {e : Expr} {te : TE} {pos : Pos}
def tNext : TS := fun D σ H => D.nx σ H
def tSeq (t u : TS) : TS := fun D σ H => t { D with nx := u D } σ H
theorem pss_nil : PSs X [] tNext := fun _ _ σ H _ I h => wpAny_execs_nil ⟨σ, H, I, h⟩
theorem pss_cons (h1 : PS X st t) (h2 : PSs X rest u) : PSs X (st :: rest) (tSeq t u) := by
  intro pins s σ H D I h
  refine wpAny_execs_cons (thn (h1 pins s σ H { D with nx := u D } I h) fun f s1 q => ?_)
  cases f with
  | next =>
    obtain ⟨σ', H', I', q⟩ := q
    exact h2 pins s1 σ' H' D I' q
  | ret v => exact q
  | brk => exact q
  | cont => exact q
theorem pss_one (h1 : PS X st t) : PSs X [st] t := by
  intro pins s σ H D I h
  refine wpAny_execs_cons (thn (h1 pins s σ H D I h) fun f s1 q => ?_)
  cases f with
  | next => exact wpAny_execs_nil q
  | ret v => exact q
  | brk => exact q
  | cont => exact q
/-- in a def's body nothing is shown -/
theorem Inv.quiet {pins : List (Addr × Obj)} {σ : St} {H : Hp} {s : Shared} (I : Inv X pins σ H s) : interactive X.env = false := by simp [interactive, I.ok.kind]
/-- an expression whose value is dropped -/
def tDrop (te : TE) : TS := fun D σ H => te σ H fun _ H1 => D.nx σ H1
theorem ps_expr (he : PE X e te) (hs : swapsWith e none pos.line X.env = pure false := by rfl) : PS X (.Expr e pos) (tDrop te) := by
  intro pins s σ H D I h
  exact wpAny_Expr_any (thn (he pins s σ H _ I h) fun v s1 ⟨x, H1, I1, r1, q1⟩ => ⟨σ, H1, I1, q1⟩) I.quiet hs
def tRet (te : TE) : TS := fun D σ H => te σ H D.rt
theorem ps_ret (he : PE X e te) : PS X (.Return (some e) pos) (tRet te) := by
  intro pins s σ H D I h
  exact wpAny_Return_some (thn (he pins s σ H _ I h) fun v s1 ⟨x, H1, I1, r1, q1⟩ => ⟨x, σ, H1, I1, r1, q1⟩)
def tIfS (c : TT) (t u : TS) : TS := fun D σ H => c σ H fun b H1 => if b = true then t D σ H1 else u D σ H1
theorem ps_if {c : Expr} {a b : List Stmt} {tc : TT} (hc : PT X c tc) (ha : PSs X a t) (hb : PSs X b u) : PS X (.If c a b pos) (tIfS tc t u) := by
  intro pins s σ H D I h
  refine wpAny_If (thn (hc pins s σ H _ I h) fun d s1 ⟨H1, I1, q1⟩ => ?_)
  cases d with
  | true => exact ha pins s1 σ H1 D I1 q1
  | false => exact hb pins s1 σ H1 D I1 q1
end
abbrev TG := V → St → Hp → (St → Hp → Prop) → Prop
def PG (X : Cx) (target : Expr) (t : TG) : Prop :=
  ∀ (pins : List (Addr × Obj)) (s : Shared) (σ : St) (H : Hp) (v : V) (u : Value) (Q : St → Hp → Prop), Inv X pins σ H s → RelV v u → t v σ H Q →
    wpAny (model X.prog X.w) X.A (assign target X.env u) (fun _ s' => ∃ σ' H', Inv X pins σ' H' s' ∧ Q σ' H') X.xe s
/-- o[i] = v, by values -/
abbrev TSet := V → V → V → Hp → (Hp → Prop) → Prop
def PSet (X : Cx) (t : TSet) : Prop :=
  ∀ (pins : List (Addr × Obj)) (s : Shared) (σ : St) (H : Hp) (o i v : V) (ov iv u : Value) (Q : Hp → Prop), Inv X pins σ H s → RelV o ov → RelV i iv → RelV v u → t o i v H Q →
    wpAny (model X.prog X.w) X.A (setItem ov iv u) (fun _ s' => ∃ H', Inv X pins σ H' s' ∧ Q H') X.xe s
section
variable {X : Cx} {pos : Pos}
def gName (i : Nat) : TG := fun v σ H Q => Q (σ.set i (some v)) H
theorem pg_name {i : Nat} {x : Str} (hN : X.N.Nodup) (hi : X.N[i]? = some x) (hx : Loc X.env.scope x) (hf : X.fn x = true ∨ X.env.scope.names.lookup x = some .local := by first | exact .inl rfl | exact .inr rfl | assumption) : PG X (.Name x pos) (gName i) := by
  intro pins s σ H v u Q I r h
  exact wpAny_assign_Name (store_ok I hN hi hx r (fun s' I' => ⟨_, H, I', h⟩) hf)
/-- o[i] = .. -/
def gSub (to ti : TE) (t : TSet) : TG := fun v σ H Q => to σ H fun o H1 => ti σ H1 fun i H2 => t o i v H2 fun H3 => Q σ H3
theorem pg_sub {o i : Expr} {to ti : TE} {t : TSet} (ho : PE X o to) (hi : PE X i ti) (hs : PSet X t)
    (ha : ∀ v, assign (.Subscript o i pos) X.env v = (do
      let ov ← holding [v] (eval o X.env)
      let iv ← holding [v, ov] (eval i X.env)
      standAt pos
      holding [v, ov, iv] (setItem ov iv v)
      release [v, ov, iv] []) := by intro _; rfl) : PG X (.Subscript o i pos) (gSub to ti t) := by
  intro pins s σ H v u Q I r h
  rw [ha]
  refine wpAny_bind (wpAny_holding (thn (ho pins s σ H _ I h) fun ov s1 ⟨x, H1, I1, r1, q1⟩ => ?_))
  refine wpAny_bind (wpAny_holding (thn (hi pins s1 σ H1 _ I1 q1) fun iv s2 ⟨y, H2, I2, r2, q2⟩ => ?_))
  refine wpAny_bind (wpAny_standAt (wpAny_bind (wpAny_holding (thn (hs pins s2 σ H2 x y v ov iv u _ I2 r1 r2 r q2) fun _ s3 ⟨H3, I3, q3⟩ => ?_))))
  exact wpAny_release ⟨σ, H3, I3, q3⟩
/-- target = value -/
def tAsg (te : TE) (g : TG) : TS := fun D σ H => te σ H fun x H1 => g x σ H1 D.nx
theorem ps_asg {tg e : Expr} {te : TE} {g : TG} (he : PE X e te) (hg : PG X tg g) (hs : swapsWithSole [tg] e pos.line X.env = pure false := by rfl) (hw : swappedStores [tg] e X.env = pure none := by rfl)
    (h1 : (assignEach [tg] X.env).map (·.2) = [assign tg X.env] := by rfl) : PS X (.Assign [tg] e pos) (tAsg te g) := by
  intro pins s σ H D I h
  refine wpAny_Assign_stores (thn (he pins s σ H _ I h) fun v s1 ⟨x, H1, I1, r1, q1⟩ => ?_) hs hw
  rw [h1]
  exact thn (hg pins s1 σ H1 x v _ I1 r1 q1) fun _ s2 q => q
/-- name = value -/
theorem ps_set {i : Nat} {x : Str} {e : Expr} {te : TE} {pos' : Pos} (hN : X.N.Nodup) (hi : X.N[i]? = some x) (hx : Loc X.env.scope x) (he : PE X e te) (hs : swapsWith e (some (.Name x pos')) pos.line X.env = pure false := by rfl) (hf : X.fn x = true ∨ X.env.scope.names.lookup x = some .local := by first | exact .inl rfl | exact .inr rfl | assumption) :
    PS X (.Assign [.Name x pos'] e pos) (tAsg te (gName i)) := by
  intro pins s σ H D I h
  refine wpAny_Assign_Name (thn (he pins s σ H _ I h) fun v s1 ⟨y, H1, I1, r1, q1⟩ => ?_) hs
  exact store_ok I1 hN hi hx r1 (fun s2 I2 => ⟨_, H1, I2, q1⟩) hf
end
section
variable {X : Cx} {pos : Pos}
/-- the invariant W with its measure -/
def tWhile (c : TT) (tb : TS) : TS := fun D σ H => ∃ W : Nat → St → Hp → Prop, (∃ m, W m σ H) ∧ ∀ m σ H, W m σ H →
  c σ H fun b H1 => if b = true then ∃ N : St → Hp → Prop, (∀ σ' H', N σ' H' → ∃ m', m' < m ∧ W m' σ' H') ∧ tb { D with nx := N, ct := N, bk := D.nx } σ H1 else D.nx σ H1
theorem ps_while {c : Expr} {body : List Stmt} {tc : TT} {tb : TS} (hp : PassesOwn (model X.prog X.w) X.A X.env X.xe) (hc : PT X c tc) (hb : PSs X body tb) : PS X (.While c body [] pos) (tWhile tc tb) := by
  intro pins s σ H D I h
  obtain ⟨W, ⟨m0, w0⟩, turn⟩ := h
  refine wpAny_While (codeAny_whileLoop (fun n s' => ∃ σ' H', Inv X pins σ' H' s' ∧ W n σ' H') ?_ m0 ⟨σ, H, I, w0⟩)
  rintro n s1 ⟨σ1, H1, I1, w1⟩
  refine wpAny_passesOwn hp (thn (hc pins s1 σ1 H1 _ I1 (turn n σ1 H1 w1)) fun b s2 ⟨H2, I2, q2⟩ => ?_)
  cases b with
  | true =>
    obtain ⟨N, hN, q2⟩ := q2
    rw [if_pos rfl]
    refine wpAny_passesOwn hp (thn (hb pins s2 σ1 H2 _ I2 q2) fun f s3 q3 => ?_)
    cases f with
    | next =>
      obtain ⟨σ3, H3, I3, n3⟩ := q3
      obtain ⟨m', hm, w3⟩ := hN σ3 H3 n3
      exact ⟨m', hm, σ3, H3, I3, w3⟩
    | cont =>
      obtain ⟨σ3, H3, I3, n3⟩ := q3
      obtain ⟨m', hm, w3⟩ := hN σ3 H3 n3
      exact ⟨m', hm, σ3, H3, I3, w3⟩
    | brk => exact q3
    | ret v => exact q3
  | false =>
    rw [if_neg Bool.false_ne_true]
    exact wpAny_execs_nil ⟨σ1, H2, I2, q2⟩
end
/-- at turn i: it yields x (the heap may grow), or it stops -/
structure It where
  go : Nat → Hp → Prop
  yld : Nat → Hp → V → Hp → Prop
  stop : Nat → Hp → Prop
/-- the iterator's own objects may turn: they are not the frame's, not pinned, younger than the entry (or a comprehension's own) -/
def FpOk (X : Cx) (pins : List (Addr × Obj)) (H : Hp) (b : Addr) : Prop :=
  H b = none ∧ b ≠ X.env.locals ∧ b ∉ X.fs ∧ (b ∈ X.ex ∨ X.s_0.heap.objs.size ≤ b) ∧ (∀ x c, X.env.cells.lookup x = some c → c ≠ b) ∧ ∀ p ∈ X.pn ++ pins, p.1 ≠ b
theorem Inv.fpOk {X : Cx} {pins : List (Addr × Obj)} {σ : St} {H H' : Hp} {s : Shared} {b : Addr} (I : Inv X pins σ H s) (hb : s.heap.objs.size ≤ b) (hn : H' b = none) : FpOk X pins H' b := by
  refine ⟨hn, Nat.ne_of_gt (Nat.lt_of_lt_of_le I.lt hb), I.nofs hb, .inr (Nat.le_trans I.sz hb), fun x c e z => ?_, fun p hp z => ?_⟩
  · obtain ⟨v, q⟩ := I.cell x c e
    exact absurd (Nat.lt_of_lt_of_le q.lt (by rw [z]; exact hb)) (Nat.lt_irrefl _)
  · exact absurd (Nat.lt_of_lt_of_le (Heap.lt_size (I.pin p hp).1) (by rw [z]; exact hb)) (Nat.lt_irrefl _)
structure Turn (P : Program) (w : World) (K : PySem.W.Frag) (tg : Expr) (J : It) (fp : List Addr) (it : Addr) (tn : Nat → Heap → Prop) : Prop where
  mem : it ∈ fp
  obj : ∀ i h, tn i h → ∀ b ∈ fp, ∃ o, h.get? b = some o ∧ ∀ v, o.data ≠ .cell v
  keep : ∀ i h h', tn i h → (∀ b ∈ fp, ∀ o, h.get? b = some o → h'.get? b = some o) → tn i h'
  item : ∀ (X : Cx), X.prog = P → X.w = w → X.K = K → X.calm = true → ∀ (i : Nat) (pins : List (Addr × Obj)) (s : Shared) (σ : St) (H : Hp) (E : Value → Shared → Prop), Inv X pins σ H s → (∀ b ∈ fp, FpOk X pins H b) → tn i s.heap → J.go i H →
    wpAny (model P w) X.A (pyNext (.ref it)) (fun r s1 => ∃ u, r = some u ∧
      wpAny (model P w) X.A (letOwnedTupleGo tg (.ref it) u) (fun _ s2 => ∃ x H', Inv X pins σ H' s2 ∧ RelV x u ∧ J.yld i H x H' ∧ tn (i + 1) s2.heap ∧ ∀ b ∈ fp, H' b = none) E s1) E s
  done : ∀ (X : Cx), X.prog = P → X.w = w → X.K = K → X.calm = true → ∀ (i : Nat) (pins : List (Addr × Obj)) (s : Shared) (σ : St) (H : Hp) (E : Value → Shared → Prop), Inv X pins σ H s → (∀ b ∈ fp, FpOk X pins H b) → tn i s.heap → J.stop i H →
    wpAny (model P w) X.A (pyNext (.ref it)) (fun r s1 => r = none ∧ Inv X pins σ H s1) E s
  self : ∀ (A : Around) (i : Nat) (s : Shared) (Q : Value → Shared → Prop) (E : Value → Shared → Prop), tn i s.heap → Q (.ref it) s → wpAny (model P w) A (pyIter (.ref it)) Q E s
abbrev TI := St → Hp → (It → Hp → Prop) → Prop
/-- an iterator has come -/
def PIE (X : Cx) (pins : List (Addr × Obj)) (σ : St) (tg : Expr) (R : It → Hp → Prop) (itv : Value) (s2 : Shared) : Prop :=
  ∃ (it : Addr) (fp : List Addr) (tn : Nat → Heap → Prop) (J : It) (H' : Hp), itv = .ref it ∧ Inv X pins σ H' s2 ∧ Turn X.prog X.w X.K tg J fp it tn ∧ tn 0 s2.heap ∧ (∀ b ∈ fp, FpOk X pins H' b) ∧ R J H'
def PI (X : Cx) (tg iter : Expr) (wi : TI) : Prop :=
  ∀ (pins : List (Addr × Obj)) (s : Shared) (σ : St) (H : Hp) (R : It → Hp → Prop), Inv X pins σ H s → wi σ H R →
    wpAny (model X.prog X.w) X.A (eval iter X.env) (fun v s1 => wpAny (model X.prog X.w) X.A (pyIter v) (PIE X pins σ tg R) X.xe s1) X.xe s
/-- the step ahead of the store is nothing for an iterator that keeps no tuple -/
theorem go_of {M : Model} {A : Around} {E : Value → Shared → Prop} {s : Shared} {tg : Expr} {it : Addr} {u : Value} {o : Obj} {n : String} {vs : Array Value} {Q : Unit → Shared → Prop} (ho : s.heap.get? it = some o) (hc : o.cls = .type n) (hd : o.data = .fields vs)
    (hn : ["enumerate", "zip", "dict_itemiterator", "dict_reverseitemiterator", "odict_iterator", "itertools.zip_longest", "itertools.pairwise"].contains n = false) (hQ : Q () s) : wpAny M A (letOwnedTupleGo tg (.ref it) u) Q E s := by
  unfold letOwnedTupleGo
  cases tg <;> first
    | exact wpAny_pure hQ
    | (cases u <;> first
        | exact wpAny_pure hQ
        | (refine wpAny_bind (wpAny_load ho ?_)
           rw [hc, hd]
           show wpAny M A (if (["enumerate", "zip", "dict_itemiterator", "dict_reverseitemiterator", "odict_iterator", "itertools.zip_longest", "itertools.pairwise"].contains n && vs[0]? == some (rawInt _)) = true then _ else _) Q E s
           rw [if_neg (by intro h; rw [hn, Bool.false_and] at h; cases h)]
           exact wpAny_pure hQ))
/-- the list at a, as it stands at each turn (a loop may append to it) -/
def Itl (K : PySem.W.Frag) (a : Addr) : It :=
  ⟨fun i H => ∃ xs x, SqL K H a xs ∧ xs[i]? = some x, fun i H x H' => H' = H ∧ ∀ xs, SqL K H a xs → xs[i]? = some x, fun i H => ∃ xs, SqL K H a xs ∧ xs.length ≤ i⟩
def Itt (K : PySem.W.Frag) (a : Addr) : It :=
  ⟨fun i H => ∃ xs x, SqT K H a xs ∧ xs[i]? = some x, fun i H x H' => H' = H ∧ ∀ xs, SqT K H a xs → xs[i]? = some x, fun i H => ∃ xs, SqT K H a xs ∧ xs.length ≤ i⟩
/-- lo, lo + 1, .. (n of them) -/
def Itr (lo : Int) (n : Nat) : It := ⟨fun i _ => i < n, fun i H x H' => H' = H ∧ x = .int (lo + i), fun i _ => n ≤ i⟩
theorem turn_list {P : Program} {w : World} {K : PySem.W.Frag} {tg : Expr} (a it : Addr) : Turn P w K tg (Itl K a) [it] it (fun i h => h.IsListIter it a i) where
  mem := by simp
  obj := fun i h st b hb => by
    have e : b = it := by simpa using hb
    subst e
    obtain ⟨o, e, c, d⟩ := st
    exact ⟨o, e, fun v z => by rw [d] at z; cases z⟩
  keep := fun i h h' st k => st.at fun o e => k it (by simp) o e
  item := by
    intro X hP hw hK hc i pins s σ H E I hf st hg
    subst hP hw hK
    obtain ⟨xs, x, hq, hx⟩ := hg
    obtain ⟨its, rv, p, hz⟩ := I.list hq
    obtain ⟨u, hu, ru⟩ := rv.get hx
    obtain ⟨f0, f1, f2, f3, f4, f5⟩ := hf it (by simp)
    refine wpAny_pyNext_list_item st p.isList (x := u) (by simpa using hu) fun h' st' sb => ?_
    have I1 : Inv X pins σ H { s with heap := h' } := I.turned (t' := s.toks) (fun b o hb e => (sb.2 b hb).trans e) f0 f1 f3 f4 f5
    obtain ⟨o, e, c, d⟩ := id st'
    exact ⟨u, rfl, go_of (s := { s with heap := h' }) e c d (by decide) ⟨x, H, I1, ru, ⟨rfl, fun ys hy => by rw [I.list_inj hy hq]; exact hx⟩, st', fun b hb => (hf b hb).1⟩⟩
  done := by
    intro X hP hw hK hc i pins s σ H E I hf st hg
    subst hP hw hK
    obtain ⟨xs, hq, hx⟩ := hg
    obtain ⟨its, rv, p, hz⟩ := I.list hq
    obtain ⟨f0, f1, f2, f3, f4, f5⟩ := hf it (by simp)
    have hl := rv.length
    exact wpAny_pyNext_list_end (I.ok.hd hc) st p.isList (by simp; omega) fun h' eb => ⟨rfl, I.turned (t' := s.toks) (fun b o hb e => eb b o hb e) f0 f1 f3 f4 f5⟩
  self := fun _ _ _ _ _ st h => wpAny_pyIter_listiter st h
theorem turn_tuple {P : Program} {w : World} {K : PySem.W.Frag} {tg : Expr} (a it : Addr) : Turn P w K tg (Itt K a) [it] it (fun i h => h.IsTupleIter it a i) where
  mem := by simp
  obj := fun i h st b hb => by
    have e : b = it := by simpa using hb
    subst e
    obtain ⟨o, e, c, d⟩ := st
    exact ⟨o, e, fun v z => by rw [d] at z; cases z⟩
  keep := fun i h h' st k => st.at fun o e => k it (by simp) o e
  item := by
    intro X hP hw hK hc i pins s σ H E I hf st hg
    subst hP hw hK
    obtain ⟨xs, x, hq, hx⟩ := hg
    obtain ⟨its, rv, p, hz⟩ := I.tuple hq
    obtain ⟨u, hu, ru⟩ := rv.get hx
    obtain ⟨f0, f1, f2, f3, f4, f5⟩ := hf it (by simp)
    refine wpAny_pyNext_tuple_item st (show s.heap.IsTuple a its.toArray from p) (x := u) (by simpa using hu) fun h' st' sb => ?_
    have I1 : Inv X pins σ H { s with heap := h' } := I.turned (t' := s.toks) (fun b o hb e => (sb.2 b hb).trans e) f0 f1 f3 f4 f5
    obtain ⟨o, e, c, d⟩ := id st'
    exact ⟨u, rfl, go_of (s := { s with heap := h' }) e c d (by decide) ⟨x, H, I1, ru, ⟨rfl, fun ys hy => by rw [I.tuple_inj hy hq]; exact hx⟩, st', fun b hb => (hf b hb).1⟩⟩
  done := by
    intro X hP hw hK hc i pins s σ H E I hf st hg
    subst hP hw hK
    obtain ⟨xs, hq, hx⟩ := hg
    obtain ⟨its, rv, p, hz⟩ := I.tuple hq
    obtain ⟨f0, f1, f2, f3, f4, f5⟩ := hf it (by simp)
    have hl := rv.length
    exact wpAny_pyNext_tuple_end (I.ok.hd hc) st (show s.heap.IsTuple a its.toArray from p) (by simp; omega) fun h' eb => ⟨rfl, I.turned (t' := s.toks) (fun b o hb e => eb b o hb e) f0 f1 f3 f4 f5⟩
  self := fun _ _ _ _ _ st h => wpAny_pyIter_tupleiter st h
theorem turn_range {P : Program} {w : World} {K : PySem.W.Frag} {tg : Expr} (it : Addr) (lo : Int) (n : Nat) : Turn P w K tg (Itr lo n) [it] it (fun i h => IsRangeIter h it (lo + (i : Nat) * 1) ((n : Int) - (i : Nat)) 1) where
  mem := by simp
  obj := fun i h st b hb => by
    have e : b = it := by simpa using hb
    subst e
    exact ⟨_, st, fun v z => by
      have z' : Data.fields _ = Data.cell v := z
      cases z'⟩
  keep := fun i h h' st k => k it (by simp) _ st
  item := by
    intro X hP hw hK hc i pins s σ H E I hf st hg
    subst hP hw hK
    obtain ⟨f0, f1, f2, f3, f4, f5⟩ := hf it (by simp)
    have W := Walks.range (prog := X.prog) (w := X.w) (I.ok.hd hc) it lo 1 n
    refine W.item i s _ _ hg st fun v h' tk hv st' kk => ?_
    obtain ⟨t, rfl⟩ := hv
    have I1 : Inv X pins σ H { s with heap := h', toks := tk } := I.turned (fun b o hb e => kk b o (by simpa using hb) e) f0 f1 f3 f4 f5
    refine ⟨_, rfl, go_of (s := { s with heap := h', toks := tk }) (n := "range_iterator") st' rfl rfl (by decide) ⟨.int (lo + i), H, I1, ⟨t, ?_⟩, ⟨rfl, rfl⟩, st', fun b hb => (hf b hb).1⟩⟩
    rw [Int.mul_one]
  done := by
    intro X hP hw hK hc i pins s σ H E I hf st hg
    subst hP hw hK
    obtain ⟨f0, f1, f2, f3, f4, f5⟩ := hf it (by simp)
    exact wpAny_pyNext_range_end (I.ok.hd hc) st (by have : n ≤ i := hg; omega) fun h' eb => ⟨rfl, I.turned (t' := s.toks) (fun b o hb e => eb b o hb e) f0 f1 f3 f4 f5⟩
  self := fun _ _ _ _ _ st h => wpAny_pyIter_rangeiter st h
end L2
namespace L2
open PySem PySem.Spec PyProof.Rows
section
variable {X : Cx} {tg : Expr}
def iList (K : PySem.W.Frag) (tl : TE) : TI := fun σ H R => tl σ H fun x H1 => ∃ a, x = .ref a ∧ (∃ xs, SqL K H1 a xs) ∧ R (Itl K a) H1
def iTup (K : PySem.W.Frag) (tl : TE) : TI := fun σ H R => tl σ H fun x H1 => ∃ a, x = .ref a ∧ (∃ xs, SqT K H1 a xs) ∧ R (Itt K a) H1
theorem pi_list {l : Expr} {tl : TE} (hl : PE X l tl) : PI X tg l (iList X.K tl) := by
  intro pins s σ H R I h
  refine thn (hl pins s σ H _ I h) fun v s1 ⟨x, H1, I1, r1, q1⟩ => ?_
  obtain ⟨a, e, ⟨xs, hq⟩, q⟩ := q1
  subst e
  cases r1
  obtain ⟨its, rv, p, hz⟩ := I1.list hq
  refine wpAny_pyIter_list p.isList ?_
  refine ⟨s1.heap.objs.size, [s1.heap.objs.size], _, _, H1, rfl, I1.kept (t' := s1.toks) fun b o e => Heap.get?_push_of_some _ e, turn_list a _, ⟨_, Heap.get?_push_size _ rfl, rfl, rfl⟩, fun b hb => ?_, q⟩
  have e : b = s1.heap.objs.size := by simpa using hb
  subst e
  exact I1.fpOk (Nat.le_refl _) (I1.hok.fresh (Nat.le_refl _))
theorem pi_tup {l : Expr} {tl : TE} (hl : PE X l tl) : PI X tg l (iTup X.K tl) := by
  intro pins s σ H R I h
  refine thn (hl pins s σ H _ I h) fun v s1 ⟨x, H1, I1, r1, q1⟩ => ?_
  obtain ⟨a, e, ⟨xs, hq⟩, q⟩ := q1
  subst e
  cases r1
  obtain ⟨its, rv, p, hz⟩ := I1.tuple hq
  refine wpAny_pyIter_tuple (show s1.heap.IsTuple a its.toArray from p) ?_
  refine ⟨s1.heap.objs.size, [s1.heap.objs.size], _, _, H1, rfl, I1.kept (t' := s1.toks) fun b o e => Heap.get?_push_of_some _ e, turn_tuple a _, ⟨_, Heap.get?_push_size _ rfl, rfl, rfl⟩, fun b hb => ?_, q⟩
  have e : b = s1.heap.objs.size := by simpa using hb
  subst e
  exact I1.fpOk (Nat.le_refl _) (I1.hok.fresh (Nat.le_refl _))
/-- a range object just made, walked -/
theorem range_it {pins : List (Addr × Obj)} {σ : St} {H : Hp} {s : Shared} {R : It → Hp → Prop} {E : Value → Shared → Prop} {lo hi : Int} {t u v : Tok} {tk : Nat} (I : Inv X pins σ H s) (h1 : -(2 ^ 62) ≤ lo) (h2 : lo < 2 ^ 62) (h3 : -(2 ^ 62) ≤ hi) (h4 : hi < 2 ^ 62)
    (q : R (Itr lo (hi - lo).toNat) H) : wpAny (model X.prog X.w) X.A (pyIter (.ref s.heap.objs.size)) (PIE X pins σ tg R) E { s with heap := s.heap.push { cls := .type "range", data := .fields #[.int lo t, .int hi u, .int 1 v] }, toks := tk } := by
  refine wpAny_pyIter_range (IsRange.new ..) (small_one h1 h2 h3 h4) ?_
  have I1 : Inv X pins σ H { s with heap := s.heap.push { cls := .type "range", data := .fields #[.int lo t, .int hi u, .int 1 v] }, toks := tk } := I.kept fun b o e => Heap.get?_push_of_some _ e
  refine ⟨(s.heap.push { cls := .type "range", data := .fields #[.int lo t, .int hi u, .int 1 v] }).objs.size, [(s.heap.push { cls := .type "range", data := .fields #[.int lo t, .int hi u, .int 1 v] }).objs.size], _, _, H, rfl,
    I1.kept (t' := tk) fun b o e => Heap.get?_push_of_some _ e, turn_range _ lo (hi - lo).toNat, ?_, fun b hb => ?_, q⟩
  · have e1 : lo + ((0 : Nat) : Int) * 1 = lo := by simp
    have e2 : (((hi - lo).toNat : Nat) : Int) - ((0 : Nat) : Int) = Builtin.Range.rangeSize lo hi 1 := by rw [rangeSize_one]; split <;> omega
    show IsRangeIter _ _ (lo + ((0 : Nat) : Int) * 1) ((((hi - lo).toNat : Nat) : Int) - ((0 : Nat) : Int)) 1
    rw [e1, e2]
    exact Heap.get?_push_size _ rfl
  · have e : b = (s.heap.push { cls := .type "range", data := .fields #[.int lo t, .int hi u, .int 1 v] }).objs.size := by simpa using hb
    subst e
    exact I1.fpOk (Nat.le_refl _) (I1.hok.fresh (Nat.le_refl _))
def iRng1 (ta : TA) : TI := fun σ H R => ta σ H fun vs H1 => ∃ j : Int, vs = [.int j] ∧ -(2 ^ 62) ≤ j ∧ j < 2 ^ 62 ∧ R (Itr 0 j.toNat) H1
theorem pi_range1 {a : Expr} {ta : TA} {p pos : Pos} (hg : Gl X "range") (hm : X.mg "range" = none) (ha : PA X [a] ta) (hs : starEach [a] X.env = [(false, eval a X.env)] := by rfl) : PI X tg (.Call (.Name "range" p) [a] [] pos) (iRng1 ta) := by
  intro pins s σ H R I h
  refine Call_ (ld_blt I hg hm boot_range (PyProof.Rows.callWith_type1 (thn (ha pos pins s σ H _ I h) fun us s1 ⟨vs, H1, I1, r1, q1⟩ => ?_) hs rfl))
  obtain ⟨j, e, q1, q2, q⟩ := q1
  subst e
  cases r1 with
  | cons r rr =>
    cases rr
    obtain ⟨t, rfl⟩ := r
    exact call_range_1 (range_it I1 (by omega) (by omega) q1 q2 (by simpa using q))
/-- the records at fp as they stand -/
def pinsAt (fp : List Addr) (h : Heap) : List (Addr × Obj) := fp.filterMap fun b => (h.get? b).map fun o => (b, o)
theorem mem_pinsAt {fp : List Addr} {h : Heap} {b : Addr} {o : Obj} (hb : b ∈ fp) (e : h.get? b = some o) : (b, o) ∈ pinsAt fp h := List.mem_filterMap.mpr ⟨b, hb, by rw [e]; rfl⟩
theorem of_pinsAt {fp : List Addr} {h : Heap} {p : Addr × Obj} (hp : p ∈ pinsAt fp h) : p.1 ∈ fp ∧ h.get? p.1 = some p.2 := by
  obtain ⟨b, hb, e⟩ := List.mem_filterMap.mp hp
  cases q : h.get? b with
  | none => rw [q] at e; cases e
  | some o =>
    rw [q] at e
    have e' : (b, o) = p := Option.some.inj e
    subst e'
    exact ⟨hb, q⟩
theorem Inv.pinned {pins : List (Addr × Obj)} {σ : St} {H : Hp} {s : Shared} {fp : List Addr} (I : Inv X pins σ H s) (hf : ∀ b ∈ fp, FpOk X pins H b) (ho : ∀ b ∈ fp, ∃ o, s.heap.get? b = some o ∧ ∀ v, o.data ≠ .cell v) : Inv X (pins ++ pinsAt fp s.heap) σ H s :=
  I.pins_of fun p hp => (List.mem_append.mp hp).elim (fun z => I.pin p (List.mem_append_right _ z)) fun z => by
    obtain ⟨hb, e⟩ := of_pinsAt z
    obtain ⟨f0, f1, f2, _⟩ := hf p.1 hb
    obtain ⟨o, e', d⟩ := ho p.1 hb
    rw [e] at e'; cases e'
    exact ⟨e, f0, f1, f2, d⟩
theorem Inv.unpinned {pins pl : List (Addr × Obj)} {σ : St} {H : Hp} {s : Shared} (I : Inv X (pins ++ pl) σ H s) : Inv X pins σ H s := I.pins_of fun p hp => I.pin p (List.mem_append_right _ (List.mem_append_left _ hp))
end
end L2
namespace L2
open PySem PySem.Spec PyProof.Rows
abbrev R2 := V → V → Hp → VK → Prop
/-- a two-place operation on values: f is binaryOp op, inplaceOp op or compareOp op -/
def OpR (X : Cx) (f : Value → Value → Sem Value) (r : R2) : Prop :=
  ∀ (pins : List (Addr × Obj)) (s : Shared) (σ : St) (H : Hp) (x y : V) (v u : Value) (Q : VK), Inv X pins σ H s → RelV x v → RelV y u → r x y H Q →
    wpAny (model X.prog X.w) X.A (f v u) (EP X pins σ Q) X.xe s
/-- a call of a value that is known (a builtin, a type) with values -/
def CallR (X : Cx) (f : Value) (r : List V → Hp → VK → Prop) : Prop :=
  ∀ (pins : List (Addr × Obj)) (s : Shared) (σ : St) (H : Hp) (xs : List V) (us : List Value) (Q : VK), Inv X pins σ H s → Vals xs us → r xs H Q →
    wpAny (model X.prog X.w) X.A (call f us) (EP X pins σ Q) X.xe s
def tOp (r : R2) (ta tb : TE) : TE := fun σ H Q => ta σ H fun x H1 => tb σ H1 fun y H2 => r x y H2 Q
/-- ints in, under C, and a value out -/
def rI (C : Int → Int → Prop) (g : Int → Int → V) : R2 := fun x y H Q => ∃ i j, x = .int i ∧ y = .int j ∧ C i j ∧ Q (g i j) H
def rI0 (g : Int → Int → V) : R2 := fun x y H Q => ∃ i j, x = .int i ∧ y = .int j ∧ Q (g i j) H
section
variable {X : Cx} {a b c : Expr} {ta tb tc : TE} {pos : Pos}
theorem binT (ha : PE X a ta) (hb : PE X b tb) {pins : List (Addr × Obj)} {s : Shared} {σ : St} {H : Hp} {R : V → V → Hp → Prop} (I : Inv X pins σ H s)
    (h : ta σ H fun x H1 => tb σ H1 fun y H2 => R x y H2) {Q : Value → Shared → Prop} {f : Value → Value → Sem Value}
    (hf : ∀ v u s2 x y H2, Inv X pins σ H2 s2 → RelV x v → RelV y u → R x y H2 → wpAny (model X.prog X.w) X.A (f v u) Q X.xe s2) :
    wpAny (model X.prog X.w) X.A (eval a X.env) (fun v s₁ => wpAny (model X.prog X.w) X.A (eval b X.env) (fun u s₂ => wpAny (model X.prog X.w) X.A (f v u) Q X.xe s₂) X.xe s₁) X.xe s := by
  refine thn (ha pins s σ H _ I h) fun v s1 ⟨x, H1, I1, r1, q1⟩ => ?_
  refine thn (hb pins s1 σ H1 _ I1 q1) fun u s2 ⟨y, H2, I2, r2, q2⟩ => ?_
  exact hf v u s2 x y H2 I2 r1 r2 q2
theorem pe_op {op : Operator} {r : R2} (ho : OpR X (binaryOp op) r) (ha : PE X a ta) (hb : PE X b tb) : PE X (.BinOp a op b pos) (tOp r ta tb) := by
  intro pins s σ H Q I h
  exact wpAny_BinOp (binT ha hb I h fun v u s2 x y H2 I2 rx ry q => ho pins s2 σ H2 x y v u Q I2 rx ry q)
theorem opI {f : Value → Value → Sem Value} {C : Int → Int → Prop} {g : Int → Int → Int}
    (rule : ∀ (i j : Int) (t u : Tok) (s : Shared) (Q : Value → Shared → Prop) (E : Value → Shared → Prop), C i j → Q (.int (g i j) s.toks) { s with toks := s.toks + 1 } → wpAny (model X.prog X.w) X.A (f (.int i t) (.int j u)) Q E s) :
    OpR X f (rI C fun i j => .int (g i j)) := by
  intro pins s σ H x y v u Q I rx ry h
  obtain ⟨i, j, rfl, rfl, hc, q⟩ := h
  obtain ⟨t, rfl⟩ := rx
  obtain ⟨t', rfl⟩ := ry
  exact rule i j t t' s _ _ hc ⟨.int (g i j), H, I.tok _, ⟨_, rfl⟩, q⟩
theorem opI0 {f : Value → Value → Sem Value} {g : Int → Int → Int}
    (rule : ∀ (i j : Int) (t u : Tok) (s : Shared) (Q : Value → Shared → Prop) (E : Value → Shared → Prop), Q (.int (g i j) s.toks) { s with toks := s.toks + 1 } → wpAny (model X.prog X.w) X.A (f (.int i t) (.int j u)) Q E s) :
    OpR X f (rI0 fun i j => .int (g i j)) := by
  intro pins s σ H x y v u Q I rx ry h
  obtain ⟨i, j, rfl, rfl, q⟩ := h
  obtain ⟨t, rfl⟩ := rx
  obtain ⟨t', rfl⟩ := ry
  exact rule i j t t' s _ _ ⟨.int (g i j), H, I.tok _, ⟨_, rfl⟩, q⟩
theorem opB0 {f : Value → Value → Sem Value} {g : Int → Int → Bool}
    (rule : ∀ (i j : Int) (t u : Tok) (s : Shared) (Q : Value → Shared → Prop) (E : Value → Shared → Prop), Q (.bool (g i j)) s → wpAny (model X.prog X.w) X.A (f (.int i t) (.int j u)) Q E s) :
    OpR X f (rI0 fun i j => .bl (g i j)) := by
  intro pins s σ H x y v u Q I rx ry h
  obtain ⟨i, j, rfl, rfl, q⟩ := h
  obtain ⟨t, rfl⟩ := rx
  obtain ⟨t', rfl⟩ := ry
  exact rule i j t t' s _ _ ⟨.bl (g i j), H, I, rfl, q⟩
def CPow (i j : Int) : Prop := 0 ≤ j ∧ j ≤ 1000000 ∧ i.natAbs < 2 ^ 64
def CMul (i j : Int) : Prop := (-(2 ^ 64) < i ∧ i < 2 ^ 64) ∨ (-(2 ^ 64) < j ∧ j < 2 ^ 64)
theorem CMul.ok {i j : Int} (h : CMul i j) : IntMulOk i j := by
  rcases h with ⟨h1, h2⟩ | ⟨h1, h2⟩
  · exact .of_left (intBits_le_64 h1 h2)
  · exact .of_right (intBits_le_64 h1 h2)
theorem op_add : OpR X (binaryOp .Add) (rI0 fun i j => .int (i + j)) := opI0 fun _ _ _ _ _ _ _ q => add_int q
theorem op_sub : OpR X (binaryOp .Sub) (rI0 fun i j => .int (i - j)) := opI0 fun _ _ _ _ _ _ _ q => sub_int q
/-- % by a positive divisor of any size -/
theorem op_mod : OpR X (binaryOp .Mod) (rI (fun _ j => 0 < j) fun i j => .int (i % j)) := opI fun i j _ _ _ _ _ hc q => by
  have h1 : (0 : Int) < j := hc
  exact mod_int' (by omega) (by rw [Int.fmod_eq_emod_of_nonneg i (by omega)]; exact q)
theorem op_pow : OpR X (binaryOp .Pow) (rI CPow fun i j => .int (i ^ j.toNat)) := opI fun _ _ _ _ _ _ _ hc q => pow_int_small hc.1 hc.2.1 hc.2.2 q
end
/-- the scalars that == tells apart as data does -/
def scal : V → V → Bool
  | .non, .non => true | .non, .int _ => true | .int _, .non => true | .non, .bl _ => true | .bl _, .non => true | .non, .str _ => true | .str _, .non => true
  | .int _, .int _ => true | .bl _, .bl _ => true | .str _, .str _ => true | .byt _, .byt _ => true
  | .int _, .str _ => true | .str _, .int _ => true | .bl _, .str _ => true | .str _, .bl _ => true
  | _, _ => false
def rEq : R2 := fun x y H Q => scal x y = true ∧ Q (.bl (decide (x = y))) H
def rNe : R2 := fun x y H Q => scal x y = true ∧ Q (.bl (!decide (x = y))) H
theorem dec_int {i j : Int} : decide (V.int i = V.int j) = (i == j) := by
  rw [Bool.eq_iff_iff]
  simp
theorem dec_bl {i j : Bool} : decide (V.bl i = V.bl j) = (i == j) := by
  rw [Bool.eq_iff_iff]
  simp
theorem dec_str {i j : Str} : decide (V.str i = V.str j) = (i == j) := by
  rw [Bool.eq_iff_iff]
  simp
theorem dec_byt {i j : Array UInt8} : decide (V.byt i = V.byt j) = (i.toList == j.toList) := by
  rw [Bool.eq_iff_iff]
  cases i
  cases j
  simp
section
variable {X : Cx} {a b c : Expr} {ta tb tc : TE} {pos : Pos}
theorem fin_bl {pins : List (Addr × Obj)} {σ : St} {H : Hp} {s : Shared} {Q : VK} {k k' : Bool} (I : Inv X pins σ H s) (q : Q (.bl k) H) (e : k = k') : EP X pins σ Q (.bool k') s := by
  subst e
  exact ⟨.bl k, H, I, rfl, q⟩
theorem op_eq : OpR X (compareOp .Eq) rEq := by
  intro pins s σ H x y v u Q I rx ry h
  obtain ⟨hs, q⟩ := h
  cases x with
  | non =>
    cases rx
    cases y with
    | non => cases ry; exact PySem.EqNone.eq_none_none (fin_bl I q (by simp))
    | bl j => cases ry; exact PySem.EqNone.eq_none_bool (fin_bl I q (by simp))
    | int j => obtain ⟨t', rfl⟩ := ry; exact PySem.EqNone.eq_none_int (fin_bl I q (by simp))
    | str j => obtain ⟨t', rfl⟩ := ry; exact PySem.EqNone.eq_none_str (fin_bl I q (by simp))
    | _ => exact absurd (show false = true from hs) Bool.false_ne_true
  | bl i =>
    cases rx
    cases y with
    | non => cases ry; exact PySem.EqNone.eq_bool_none (fin_bl I q (by simp))
    | bl j => cases ry; exact eq_bool (fin_bl I q dec_bl)
    | str j => obtain ⟨t', rfl⟩ := ry; exact PySem.EqMixed.eq_bool_str (fin_bl I q (by simp))
    | _ => exact absurd (show false = true from hs) Bool.false_ne_true
  | int i =>
    obtain ⟨t, rfl⟩ := rx
    cases y with
    | non => cases ry; exact PySem.EqNone.eq_int_none (fin_bl I q (by simp))
    | int j => obtain ⟨t', rfl⟩ := ry; exact eq_int (fin_bl I q dec_int)
    | str j => obtain ⟨t', rfl⟩ := ry; exact PySem.EqMixed.eq_int_str (fin_bl I q (by simp))
    | _ => exact absurd (show false = true from hs) Bool.false_ne_true
  | str i =>
    obtain ⟨t, rfl⟩ := rx
    cases y with
    | non => cases ry; exact PySem.EqNone.eq_str_none (fin_bl I q (by simp))
    | bl j => cases ry; exact PySem.EqMixed.eq_str_bool (fin_bl I q (by simp))
    | int j => obtain ⟨t', rfl⟩ := ry; exact PySem.EqMixed.eq_str_int (fin_bl I q (by simp))
    | str j => obtain ⟨t', rfl⟩ := ry; exact eq_str (fin_bl I q dec_str)
    | _ => exact absurd (show false = true from hs) Bool.false_ne_true
  | byt i =>
    obtain ⟨t, rfl⟩ := rx
    cases y with
    | byt j => obtain ⟨t', rfl⟩ := ry; exact PySem.W.eq_bytes (fin_bl I q dec_byt)
    | _ => exact absurd (show false = true from hs) Bool.false_ne_true
  | _ => cases y <;> exact absurd (show false = true from hs) Bool.false_ne_true
theorem op_ne : OpR X (compareOp .NotEq) rNe := by
  intro pins s σ H x y v u Q I rx ry h
  obtain ⟨hs, q⟩ := h
  cases x with
  | non =>
    cases rx
    cases y with
    | non => cases ry; exact PySem.EqNone.ne_none_none (fin_bl I q (by simp))
    | bl j => cases ry; exact PySem.EqNone.ne_none_bool (fin_bl I q (by simp))
    | int j => obtain ⟨t', rfl⟩ := ry; exact PySem.EqNone.ne_none_int (fin_bl I q (by simp))
    | str j => obtain ⟨t', rfl⟩ := ry; exact PySem.EqNone.ne_none_str (fin_bl I q (by simp))
    | _ => exact absurd (show false = true from hs) Bool.false_ne_true
  | bl i =>
    cases rx
    cases y with
    | non => cases ry; exact PySem.EqNone.ne_bool_none (fin_bl I q (by simp))
    | bl j => cases ry; exact ne_bool (fin_bl I q (congrArg not dec_bl))
    | str j => obtain ⟨t', rfl⟩ := ry; exact PySem.EqMixed.ne_bool_str (fin_bl I q (by simp))
    | _ => exact absurd (show false = true from hs) Bool.false_ne_true
  | int i =>
    obtain ⟨t, rfl⟩ := rx
    cases y with
    | non => cases ry; exact PySem.EqNone.ne_int_none (fin_bl I q (by simp))
    | int j => obtain ⟨t', rfl⟩ := ry; exact ne_int (fin_bl I q (congrArg not dec_int))
    | str j => obtain ⟨t', rfl⟩ := ry; exact PySem.EqMixed.ne_int_str (fin_bl I q (by simp))
    | _ => exact absurd (show false = true from hs) Bool.false_ne_true
  | str i =>
    obtain ⟨t, rfl⟩ := rx
    cases y with
    | non => cases ry; exact PySem.EqNone.ne_str_none (fin_bl I q (by simp))
    | bl j => cases ry; exact PySem.EqMixed.ne_str_bool (fin_bl I q (by simp))
    | int j => obtain ⟨t', rfl⟩ := ry; exact PySem.EqMixed.ne_str_int (fin_bl I q (by simp))
    | str j => obtain ⟨t', rfl⟩ := ry; exact ne_str (fin_bl I q (congrArg not dec_str))
    | _ => exact absurd (show false = true from hs) Bool.false_ne_true
  | byt i =>
    obtain ⟨t, rfl⟩ := rx
    cases y with
    | byt j => obtain ⟨t', rfl⟩ := ry; exact PySem.W.ne_bytes (fin_bl I q (congrArg not dec_byt))
    | _ => exact absurd (show false = true from hs) Bool.false_ne_true
  | _ => cases y <;> exact absurd (show false = true from hs) Bool.false_ne_true
theorem op_lt : OpR X (compareOp .Lt) (rI0 fun i j => .bl (decide (i < j))) := opB0 fun _ _ _ _ _ _ _ q => lt_int q
theorem op_le : OpR X (compareOp .LtE) (rI0 fun i j => .bl (decide (i ≤ j))) := opB0 fun _ _ _ _ _ _ _ q => le_int q
theorem op_gt : OpR X (compareOp .Gt) (rI0 fun i j => .bl (decide (j < i))) := opB0 fun _ _ _ _ _ _ _ q => gt_int q
theorem op_ge : OpR X (compareOp .GtE) (rI0 fun i j => .bl (decide (j ≤ i))) := opB0 fun _ _ _ _ _ _ _ q => ge_int q
theorem op_lt_str : OpR X (compareOp .Lt) (fun x y H Q => ∃ i j, x = .str i ∧ y = .str j ∧ Q (.bl (decide (i.cps.toList < j.cps.toList))) H) := by
  intro pins s σ H x y v u Q I rx ry h
  obtain ⟨i, j, rfl, rfl, q⟩ := h
  obtain ⟨t, rfl⟩ := rx
  obtain ⟨t', rfl⟩ := ry
  exact lt_str (fin_bl I q rfl)
/-- is None, is not None: the right side a value none -/
theorem op_isN : OpR X (compareOp .Is) (fun x y H Q => y = .non ∧ Q (.bl (decide (x = .non))) H) := by
  intro pins s σ H x y v u Q I rx ry h
  obtain ⟨rfl, q⟩ := h
  cases ry
  refine is_none_gen (fin_bl I q ?_)
  cases x <;> first
    | (cases rx; rfl)
    | (obtain ⟨t, rfl⟩ := rx; rfl)
theorem op_notN : OpR X (compareOp .IsNot) (fun x y H Q => y = .non ∧ Q (.bl (!decide (x = .non))) H) := by
  intro pins s σ H x y v u Q I rx ry h
  obtain ⟨rfl, q⟩ := h
  cases ry
  refine isnot_none_gen (fin_bl I q ?_)
  cases x <;> first
    | (cases rx; rfl)
    | (obtain ⟨t, rfl⟩ := rx; rfl)
/-- is, is not of two objects that are tracked lists or instances -/
def isObj : HO → Bool
  | .lst _ => true
  | .ins _ _ _ => true
  | _ => false
theorem obj_there {pins : List (Addr × Obj)} {s : Shared} {σ : St} {H : Hp} {a : Addr} {o : HO} (I : Inv X pins σ H s) (h : H a = some o) (p : isObj o = true) : ∃ ob, s.heap.get? a = some ob ∧ ob.cls ≠ .type "tuple" := by
  cases o with
  | lst xs =>
    obtain ⟨_, its, n, _, e⟩ : xs.length ≤ sizeLine ∧ ∃ (its : List Value) (n : Nat), Vals xs its ∧ s.heap.get? a = some { cls := .type "list", data := .seq its.toArray n } := I.hok a _ h
    exact ⟨_, e, (by show Value.type "list" ≠ .type "tuple"; decide +kernel)⟩
  | ins C dx fs =>
    have x := I.hok a _ h
    obtain ⟨_, _, _, e, _⟩ := x
    exact ⟨_, e, (by show Value.ref C ≠ .type "tuple"; exact fun z => by cases z)⟩
  | _ => exact absurd (show false = true from p) Bool.false_ne_true
/-- two rules for one operation: by cases -/
theorem OpR.or {f : Value → Value → Sem Value} {r r' : R2} (h : OpR X f r) (h' : OpR X f r') : OpR X f (fun x y H Q => r x y H Q ∨ r' x y H Q) := by
  intro pins s σ H x y v u Q I rx ry q
  rcases q with q | q
  · exact h pins s σ H x y v u Q I rx ry q
  · exact h' pins s σ H x y v u Q I rx ry q
theorem nomark (b : Expr) {op : CmpOp} (h : op ≠ .In := by decide) (h2 : op ≠ .NotIn := by decide) : behindInMarks op b = false := by
  have e1 : (op == CmpOp.In) = false := by cases op <;> first | rfl | exact absurd rfl h
  have e2 : (op == CmpOp.NotIn) = false := by cases op <;> first | rfl | exact absurd rfl h2
  cases b <;> simp [behindInMarks, e1, e2]
/-- a comparison as a value; hm: nomark b, or (for in, not in) by with_unfolding_all rfl -/
theorem pe_cmpR {op : CmpOp} {r : R2} (ho : OpR X (compareOp op) r) (ha : PE X a ta) (hb : PE X b tb) (hm : behindInMarks op b = false) : PE X (.Compare a [op] [b] pos) (tOp r ta tb) := by
  intro pins s σ H Q I h
  exact wpAny_Compare1 (binT ha hb I h fun v u s2 x y H2 I2 rx ry q => ho pins s2 σ H2 x y v u Q I2 rx ry q) hm
/-- a reading of a value as a test -/
def tTest (t : TE) : TT := fun σ H Q => t σ H fun x H' => ∃ k, x = .bl k ∧ Q k H'
theorem pt_cmpR {op : CmpOp} {r : R2} (ho : OpR X (compareOp op) r) (ha : PE X a ta) (hb : PE X b tb) (hm : behindInMarks op b = false) : PT X (.Compare a [op] [b] pos) (tTest (tOp r ta tb)) := by
  intro pins s σ H Q I h
  refine wpAny_isTrue_Compare1 (thn (ha pins s σ H _ I h) fun v s1 ⟨x, H1, I1, r1, q1⟩ => thn (hb pins s1 σ H1 _ I1 q1) fun u s2 ⟨y, H2, I2, r2, q2⟩ =>
    thn (ho pins s2 σ H2 x y v u _ I2 r1 r2 q2) fun c s3 ⟨z, H3, I3, r3, k, e, q3⟩ => ?_) hm
  subst e
  cases r3
  exact wpAny_truthy_bool ⟨H3, I3, q3⟩
theorem line63 : (sizeLine : Nat) < 2 ^ 63 := by rw [sizeLine_eq]; decide
theorem op_add_str : OpR X (binaryOp .Add) (fun x y H Q => ∃ i j, x = .str i ∧ y = .str j ∧ i.length + j.length ≤ sizeLine ∧ Q (.str (i ++ j)) H) := by
  intro pins s σ H x y v u Q I rx ry h
  obtain ⟨i, j, rfl, rfl, hz, q⟩ := h
  obtain ⟨t, rfl⟩ := rx
  obtain ⟨t', rfl⟩ := ry
  exact add_str (fun t' tk => ⟨.str (i ++ j), H, I.tok _, ⟨_, rfl⟩, q⟩) hz
theorem vals1 {x : V} {us : List Value} (r : Vals [x] us) : ∃ u, us = [u] ∧ RelV x u := by
  cases r with
  | cons r1 r2 => cases r2; exact ⟨_, rfl, r1⟩
theorem vals2 {x y : V} {us : List Value} (r : Vals [x, y] us) : ∃ u w', us = [u, w'] ∧ RelV x u ∧ RelV y w' := by
  cases r with
  | cons r1 r2 =>
    cases r2 with
    | cons r3 r4 => cases r4; exact ⟨_, _, rfl, r1, r3⟩
theorem call_int1 : CallR X (.type "int") (fun xs H Q => (∃ i, xs = [.int i] ∧ Q (.int i) H) ∨ ∃ k, xs = [.bl k] ∧ Q (.int (if k then 1 else 0)) H) := by
  intro pins s σ H xs us Q I r h
  rcases h with ⟨i, rfl, q⟩ | ⟨k, rfl, q⟩
  · obtain ⟨u, rfl, t, rfl⟩ := vals1 r
    exact call_int_int ⟨.int i, H, I, ⟨_, rfl⟩, q⟩
  · obtain ⟨u, rfl, r1⟩ := vals1 r
    cases r1
    exact call_int_bool ⟨.int (if k then 1 else 0), H, I.tok _, ⟨_, rfl⟩, q⟩
end
end L2
namespace L2
open PySem PySem.Spec PyProof.Rows
structure ObjM (h : Heap) (x dx C : Addr) (mA : Str → Option Value) : Prop where
  obj : h.get? x = some (PySem.W.instObj C dx)
  ns : h.Ns1 dx mA
  ne : dx ≠ x
theorem lookIn_ns {h : Heap} {dx : Addr} {mA : Str → Option Value} (n : h.Ns1 dx mA) : ∃ od, h.get? dx = some od ∧ ∀ name, PySem.W.lookIn name od = some (mA name) := by
  obtain ⟨o, es, ep, ho, hd, hk, _, hm⟩ := n
  refine ⟨o, ho, fun name => ?_⟩
  have e := hm name
  unfold nsFind findBy at e
  rw [← Array.find?_toList] at e
  unfold PySem.W.lookIn
  rw [hd]
  dsimp only
  split
  · rename_i y q
    rw [q] at e
    exact congrArg some e
  · rename_i q
    rw [q] at e
    have a : es.toList.any (·.refKey) = false := by
      rw [List.any_eq_false]
      intro y hy
      obtain ⟨z, t, hkey⟩ := hk y (Array.mem_toList_iff.mp hy)
      simp [DictEntry.refKey, hkey]
    have a' : ¬ es.toList.any (·.refKey) = true := by rw [a]; exact Bool.false_ne_true
    rw [if_neg a']
    exact congrArg some e
theorem ObjM.look {h : Heap} {x dx C : Addr} {mA : Str → Option Value} (I : ObjM h x dx C mA) : ∃ od, PySem.W.InstAt h x (PySem.W.instObj C dx) C (some od) ∧ ∀ name, PySem.W.lookIn name od = some (mA name) :=
  let ⟨od, ho, hl⟩ := lookIn_ns I.ns
  ⟨od, ⟨I.obj, rfl, rfl, ho⟩, hl⟩
section
variable {prog : Program} {w : World} {A : Around} {E : Value → Shared → Prop} {s : Shared} {K : PySem.W.Frag} {x dx C f : Addr} {mA : Str → Option Value} {name : Str} {v : Value}
end
theorem RelO.some_of {v : V} {o : Option Value} (r : RelO (some v) o) : ∃ u, o = some u ∧ RelV v u := by
  cases o with
  | none => exact (show False from r).elim
  | some u => exact ⟨u, rfl, r⟩
theorem RelO.none_of {o : Option Value} (r : RelO none o) : o = none := by
  cases o with
  | none => rfl
  | some u => exact (show False from r).elim
theorem handed_of {v : V} {u : Value} (r : RelV v u) : PySem.W.handedIn u = true := by
  cases v with
  | non => cases (show u = Value.none from r); rfl
  | bl b => cases (show u = Value.bool b from r); rfl
  | int i => obtain ⟨t, e⟩ := (show ∃ t, u = Value.int i t from r); cases e; rfl
  | str x => obtain ⟨t, e⟩ := (show ∃ t, u = Value.str x t from r); cases e; rfl
  | byt b => obtain ⟨t, e⟩ := (show ∃ t, u = Value.bytes b t from r); cases e; rfl
  | flt b => obtain ⟨t, e⟩ := (show ∃ t, u = Value.float b t from r); cases e; rfl
  | ref a => cases (show u = Value.ref a from r); rfl
  | ty n => cases (show u = Value.type n from r); rfl
section
variable {P : Program} {w : World} {H H' : Hp} {h h' : Heap} {a C dx : Addr} {fs fs' : List (Str × V)}
end
structure Cls (K : PySem.W.Frag) (C : Addr) : Prop where
  pg : PySem.W.plainGet K C Str.empty = true
  hd : PySem.W.hasDictIn K C = true
  po : PySem.W.plainOver K C = true
  sa : PySem.W.findIn K (.ref C) "__setattr__" = some (some (.builtin "object.__setattr__"))
theorem Cls.get {K : PySem.W.Frag} {C : Addr} (c : Cls K C) (f : Str) : PySem.W.plainGet K C f = true := c.pg
section
variable {X : Cx} {pins : List (Addr × Obj)} {σ : St} {H : Hp} {s : Shared} {a C dx : Addr} {fs : List (Str × V)} {f : Str} {v : V} {A : Around} {E : Value → Shared → Prop}
/-- a new instance, tracked, without attributes -/
theorem Inv.made (I : Inv X pins σ H s) : Inv X pins σ (upd (upd H s.heap.objs.size (.own (s.heap.objs.size + 1))) (s.heap.objs.size + 1) (.ins C s.heap.objs.size []))
    { s with heap := (s.heap.push PySem.W.emptyDict).push (PySem.W.instObj C s.heap.objs.size) } := by
  have e1 : (s.heap.push PySem.W.emptyDict).get? s.heap.objs.size = some PySem.W.emptyDict := Heap.get?_push_size s.heap rfl
  have e2 : ((s.heap.push PySem.W.emptyDict).push (PySem.W.instObj C s.heap.objs.size)).get? (s.heap.objs.size + 1) = some (PySem.W.instObj C s.heap.objs.size) := by
    have := Heap.get?_push_size (s.heap.push PySem.W.emptyDict) (o := PySem.W.instObj C s.heap.objs.size) rfl
    rwa [Heap.size_push] at this
  have e3 : (s.heap.push PySem.W.emptyDict).Ns s.heap.objs.size (fun _ => none) := ⟨PySem.W.emptyDict, #[], _, e1, rfl, (fun e he => absurd he (by simp)), fun _ => rfl⟩
  have I1 := I.laid (a := s.heap.objs.size) (o := .own (s.heap.objs.size + 1)) (h' := s.heap.push PySem.W.emptyDict) (t' := s.toks) (fun b u q => Heap.get?_push_of_some _ q) (Nat.le_refl _) ⟨_, e1⟩
  refine I1.laid (a := s.heap.objs.size + 1) (o := .ins C s.heap.objs.size []) (t' := s.toks) (fun b u q => Heap.get?_push_of_some _ q) (Nat.le_of_eq (Heap.size_push _ _)) ?_
  have ne : s.heap.objs.size ≠ s.heap.objs.size + 1 := Nat.ne_of_lt (Nat.lt_succ_self _)
  refine ⟨by rw [upd_ne ne, upd_same], Nat.zero_le _, ne, e2, fun _ => none, (Heap.Ns1.of_empty e3).at fun o q => Heap.get?_push_of_some _ q, fun _ => True.intro, fun y hy => absurd rfl hy⟩
/-- e.f where nothing but the object is asked: through attributeBase (super) and the last hold -/
theorem attr_of {prog : Program} {w : World} {env : Env} {e : Expr} {f : Str} {pos : Pos} {s : Shared} {Q : Value → Shared → Prop} (hb : attributeBase e f env (eval e env) = eval e env)
    (h : wpAny (model prog w) A (eval e env) (fun o s₁ => wpAny (model prog w) A (getAttr o f true) Q E s₁) E s) : wpAny (model prog w) A (eval (.Attribute e f pos) env) Q E s :=
  Attribute_any_ h (by rw [arm_eval_Attribute, hb])
end
section
variable {X : Cx} {o e value : Expr} {f : Str} {pos pos' tpos : Pos} {ta tv : TE}
end
section
variable {X : Cx} {pins : List (Addr × Obj)} {σ : St} {H : Hp} {s : Shared} {A : Around} {E : Value → Shared → Prop} {Q : Value → Shared → Prop} {c : Value} {b : Bool}
end
end L2
namespace L2
open PySem PySem.Spec PyProof.Rows
structure Room (k : Nat) (A : Around) : Prop where
  hd : A.handled = none
  dp : A.depth + 3 * k + 5 < recursionLimit
  un : A.units + 16 * k + 200 < cLine
theorem Room.mono {j k : Nat} {A : Around} (r : Room k A) (h : j ≤ k) : Room j A := ⟨r.hd, by have := r.dp; omega, by have := r.un; omega⟩
theorem Room.deeper {k : Nat} {A : Around} (r : Room (k + 1) A) (env : Env) : Room k (A.deeper env) :=
  ⟨r.hd, by have := r.dp; show A.depth + 1 + 3 * k + 5 < _; omega, by have := r.un; show A.units + 3 + 16 * k + 200 < _; omega⟩
theorem Room.in1 {k : Nat} {A : Around} (r : Room (k + 1) A) : Room k A.in1 :=
  ⟨r.hd, by have := r.dp; show A.depth + 3 * k + 5 < _; omega, by have := r.un; show A.units + 1 + 16 * k + 200 < _; omega⟩
theorem make_depth {A : Around} {C : Addr} {us : List Value} {kw : List (Str × Value)} : (A.under (.builtin "type.__call__" ⟨.ref C :: us, kw⟩)).depth = A.depth + 1 := by
  first | rfl | simp [Around.under, Code.weight, Code.isCreation, Code.isGuard, Code.isCaller, Code.frames, Code.isFrame, guardIds]
theorem make_units {A : Around} {C : Addr} {us : List Value} {kw : List (Str × Value)} : (A.under (.builtin "type.__call__" ⟨.ref C :: us, kw⟩)).units = A.units + 1 := by
  first | rfl | simp [Around.under, Code.cUnits, Code.frames, Code.isFrame]
theorem Room.make {k : Nat} {A : Around} (r : Room (k + 1) A) (C : Addr) (us : List Value) (kw : List (Str × Value)) : Room k (A.under (.builtin "type.__call__" ⟨.ref C :: us, kw⟩)) :=
  ⟨r.hd, by have := r.dp; rw [make_depth]; omega, by have := r.un; rw [make_units]; omega⟩
theorem Room.depth {k : Nat} {A : Around} (r : Room k A) : A.depth < recursionLimit := by have := r.dp; omega
theorem Room.units {k : Nat} {A : Around} (r : Room k A) : A.units + 64 < cLine := by have := r.un; omega
def tNil : TA := fun _ H Q => Q [] H
def tCons (ta : TE) (tr : TA) : TA := fun σ H Q => ta σ H fun x H1 => tr σ H1 fun xs H2 => Q (x :: xs) H2
section
variable {X : Cx} {e : Expr} {es : List Expr} {te : TE} {t : TA} {pos : Pos}
theorem pa_nil : PA X [] tNil := fun _ _ _ _ H Q I h => Calls.spliced_nil ⟨[], H, I, .nil, h⟩
theorem pa_cons (ha : PE X e te) (hr : PA X es t) (hs : starEach (e :: es) X.env = (false, eval e X.env) :: starEach es X.env := by rfl) : PA X (e :: es) (tCons te t) := by
  intro pos pins s σ H Q I h
  rw [hs]
  show wpAny _ _ (spliced ((false, eval e X.env) :: backTo pos (starEach es X.env))) _ _ s
  refine Calls.spliced_cons (thn (ha pins s σ H _ I h) fun u s1 ⟨x, H1, I1, r1, q1⟩ => ?_)
  exact thn (hr pos pins s1 σ H1 _ I1 q1) fun us s2 ⟨xs, H2, I2, r2, q2⟩ => ⟨x :: xs, H2, I2, .cons r1 r2, q2⟩
/-- a tuple, a list of written items -/
def tTup (t : TA) : TE := fun σ H Q => t σ H fun xs H1 => xs.length ≤ sizeLine ∧ ∀ p, H1 p = none → Q (.ref p) (upd H1 p (.tup xs))
def tLst (t : TA) : TE := fun σ H Q => t σ H fun xs H1 => xs.length ≤ sizeLine ∧ ∀ p, H1 p = none → Q (.ref p) (upd H1 p (.lst xs))
theorem pe_tup {x1} (h : PA X es t) : PE X (.Tuple es x1 pos) (tTup t) := by
  intro pins s σ H Q I hq
  refine wpAny_Tuple_spliced (thn (h pos pins s σ H _ I hq) fun us s1 ⟨xs, H1, I1, r, z, q⟩ => ⟨by rw [← r.length]; exact z, ?_⟩)
  have hf : H1 s1.heap.objs.size = none := I1.hok.fresh (Nat.le_refl _)
  refine ⟨.ref s1.heap.objs.size, upd H1 s1.heap.objs.size (.tup xs), I1.laid (t' := s1.toks) (fun b u e => Heap.get?_push_of_some _ e) (Nat.le_refl _) ?_, rfl, q _ hf⟩
  exact ⟨z, us, r, ⟨_, Heap.get?_push_size _ rfl, rfl, _, rfl⟩⟩
theorem pe_lst (h : PA X es t) : PE X (.List es pos) (tLst t) := by
  intro pins s σ H Q I hq
  refine wpAny_List_spliced (thn (h pos pins s σ H _ I hq) fun us s1 ⟨xs, H1, I1, r, z, q⟩ => ⟨by rw [← r.length]; exact z, ?_⟩)
  have hf : H1 s1.heap.objs.size = none := I1.hok.fresh (Nat.le_refl _)
  refine ⟨.ref s1.heap.objs.size, upd H1 s1.heap.objs.size (.lst xs), I1.laid (t' := s1.toks) (fun b u e => Heap.get?_push_of_some _ e) (Nat.le_refl _) ?_, rfl, q _ hf⟩
  exact ⟨z, us, 0, r, Heap.get?_push_size _ rfl⟩
end
/-- a def's promise: the bound arguments in the parameters' order, the heap, the wanted end, the wanted exception -/
abbrev Sp := List V → Hp → VK → XK → Prop
/-- how an exception lies behind a call (file 08 gives it): the callers' frames, abstract heap and state ahead of the call, the wish, the exception, the state -/
abbrev CXT := List Env → Hp → Shared → XK → Value → Shared → Prop
/-- the state at a call -/
structure Env0 (P : Program) (w : World) (K : PySem.W.Frag) (mg : Str → Option Value) (base : Heap) (A : Around) (outer : List Env) (s : Shared) (H : Hp) : Prop where
  frames : A.frames = some outer
  mod : Mod K mg base
  bs : ∀ b o, base.get? b = some o → s.heap.get? b = some o ∧ H b = none
  bsz : base.objs.size ≤ s.heap.objs.size
  funs : s.heap.FunFrames base outer
  frf : ∀ b ∈ frs outer, H b = none
  hok : HOk P w H s.heap
  bare : AllBare s.gens
/-- a call's end -/
def CE (outer : List Env) (P : Program) (w : World) (H : Hp) (s : Shared) (Q : VK) (u : Value) (s' : Shared) : Prop :=
  ∃ v H', s'.os = s.os ∧ AllBare s'.gens ∧ Un (frs outer) [] H H' s.heap s'.heap ∧ HOk P w H' s'.heap ∧ RelV v u ∧ Q v H'
def CR (CX : CXT) (outer : List Env) (P : Program) (w : World) (H : Hp) (s : Shared) (Q : VK) (E : XK) (r : Result) (s' : Shared) : Prop :=
  match r with
  | .ok (.ret u) => CE outer P w H s Q u s'
  | .ok _ => False
  | .error e => CX outer H s E e s'
structure FnOk (P : Program) (w : World) (K : PySem.W.Frag) (mg : Str → Option Value) (base : Heap) (CX : CXT) (k : Nat) (f : Addr) (fd : FuncData) (ps : List Str) (sp : Sp) : Prop where
  len : ∀ vs H Q E, sp vs H Q E → vs.length = ps.length
  run : ∀ (A : Around) (outer : List Env) (s : Shared) (H : Hp) (args : Args) (us : List Value) (vs : List V) (Q : VK) (E : XK), Room k A → Env0 P w K mg base A outer s H → BindsTo s fd args (ps.zip us) → Vals vs us → sp vs H Q E →
    codeAny (model P w) A (.call (.ref f) args) (CR CX outer P w H s Q E) s
theorem FnOk.mono {P : Program} {w : World} {K : PySem.W.Frag} {mg : Str → Option Value} {base : Heap} {CX : CXT} {j k : Nat} {f : Addr} {fd : FuncData} {ps : List Str} {sp : Sp} (F : FnOk P w K mg base CX j f fd ps sp) (h : j ≤ k) :
    FnOk P w K mg base CX k f fd ps sp := ⟨F.len, fun A outer s H args us vs Q E hr => F.run A outer s H args us vs Q E (hr.mono h)⟩
/-- a weaker promise -/
theorem FnOk.imp {P : Program} {w : World} {K : PySem.W.Frag} {mg : Str → Option Value} {base : Heap} {CX : CXT} {k : Nat} {f : Addr} {fd : FuncData} {ps : List Str} {sp sp' : Sp} (F : FnOk P w K mg base CX k f fd ps sp)
    (h : ∀ vs H Q E, sp' vs H Q E → sp vs H Q E) : FnOk P w K mg base CX k f fd ps sp' :=
  ⟨fun vs H Q E q => F.len vs H Q E (h _ _ _ _ q), fun A outer s H args us vs Q E hr he hb hv hs => F.run A outer s H args us vs Q E hr he hb hv (h _ _ _ _ hs)⟩
theorem Env0.make {P : Program} {w : World} {K : PySem.W.Frag} {mg : Str → Option Value} {base : Heap} {A : Around} {outer : List Env} {s : Shared} {H : Hp} (e : Env0 P w K mg base A outer s H) (C : Addr) (us : List Value) (kw : List (Str × Value)) :
    Env0 P w K mg base (A.under (.builtin "type.__call__" ⟨.ref C :: us, kw⟩)) outer s H := ⟨by first | exact e.frames | (simpa [Around.under, Code.envs, Code.isFrame, pushEnvs] using e.frames), e.mod, e.bs, e.bsz, e.funs, e.frf, e.hok, e.bare⟩
theorem Env0.in1 {P : Program} {w : World} {K : PySem.W.Frag} {mg : Str → Option Value} {base : Heap} {A : Around} {outer : List Env} {s : Shared} {H : Hp} (e : Env0 P w K mg base A outer s H) :
    Env0 P w K mg base A.in1 outer s H := ⟨e.frames, e.mod, e.bs, e.bsz, e.funs, e.frf, e.hok, e.bare⟩
section
variable {X : Cx} {pins : List (Addr × Obj)} {σ : St} {H : Hp} {s s' : Shared}
/-- from a body: what a callee wants -/
theorem Inv.env0 (I : Inv X pins σ H s) : Env0 X.prog X.w X.K X.mg X.base X.A X.stack s H :=
  ⟨I.ok.frames, I.ok.mod, I.bs, Nat.le_trans I.ok.bsz I.sz, I.stack, I.stkFree, I.hok, I.bare⟩
/-- behind a call -/
theorem Inv.after {Q : VK} {u : Value} (I : Inv X pins σ H s) (h : CE X.stack X.prog X.w H s Q u s') : EP X pins σ Q u s' := by
  obtain ⟨v, H', os, bare, un, hok, r, q⟩ := h
  obtain ⟨hh, g, d, t, os'⟩ := s'
  obtain rfl : os' = s.os := os
  exact ⟨v, H', I.call (h' := hh) (g' := g) (d' := d) (t' := t) (ch := []) un hok bare (fun b z => absurd z (by simp)), r, q⟩
end
/-- f(..): the written arguments, then the defaults dvs; E: what is wanted of an exception -/
def tCall (sp : Sp) (dvs : List V) (E : XK) (t : TA) : TE := fun σ H Q => t σ H fun vs H1 => sp (vs ++ dvs) H1 Q E
/-- how the parameters are bound: us the positional arguments, kw the keywords' values by name, ds the defaults that fill up -/
def Binds (K : PySem.W.Frag) (fd : FuncData) (ps : List Str) (ds : List Value) : Prop :=
  ∀ (s : Shared) (us : List Value), K.In s.heap → (us ++ ds).length = ps.length → BindsTo s fd ⟨us, []⟩ (ps.zip (us ++ ds))
/-- every parameter is given -/
theorem Binds.all {K : PySem.W.Frag} {fd : FuncData} {ps : List Str} (h : ∀ us : List Value, us.length = ps.length → bindArgs fd ⟨us, []⟩ = pure (ps.zip us)) : Binds K fd ps [] := fun s us _ hl => by
  rw [List.append_nil] at hl ⊢
  exact .of_eq (h us hl)
/-- an exception of a callee reaches what this body wants of exceptions -/
def Passes (CX : CXT) (X : Cx) (E : XK) : Prop := ∀ (pins : List (Addr × Obj)) (σ : St) (H : Hp) (s : Shared) (e : Value) (s' : Shared), Inv X pins σ H s → CX X.stack H s E e s' → X.xe e s'
section
variable {X : Cx} {CX : CXT} {k : Nat} {f C : Addr} {fd : FuncData} {ps : List Str} {sp : Sp} {dvs : List V} {ds : List Value} {E : XK} {x m : Str} {p pos apos : Pos} {e o : Expr} {es : List Expr} {ta : TE} {t : TA}
/-- the callee runs -/
theorem run_fn {pins : List (Addr × Obj)} {σ : St} {H : Hp} {s : Shared} {Q : VK} {us : List Value} {vs : List V} (F : FnOk X.prog X.w X.K X.mg X.base CX k f fd ps sp) (hr : Room k X.A) (hb : Binds X.K fd ps ds) (hd : Vals dvs ds) (hx : Passes CX X E)
    (I : Inv X pins σ H s) (r : Vals vs us) (h : sp (vs ++ dvs) H Q E) : wpAny (model X.prog X.w) X.A (call (.ref f) us) (EP X pins σ Q) X.xe s := by
  have r2 : Vals (vs ++ dvs) (us ++ ds) := r.append hd
  have hl : (us ++ ds).length = ps.length := by rw [← r2.length]; exact F.len _ _ _ _ h
  refine wpAny_call (codeAny_mono (F.run X.A X.stack s H ⟨us, []⟩ (us ++ ds) (vs ++ dvs) Q E hr I.env0 (hb s us I.kIn hl) r2 h) fun r s' hq => ?_)
  cases r with
  | error e => exact hx pins σ H s e s' I hq
  | ok fl =>
    cases fl with
    | ret u => exact I.after hq
    | next => exact False.elim hq
    | brk => exact False.elim hq
    | cont => exact False.elim hq
theorem pe_call (F : FnOk X.prog X.w X.K X.mg X.base CX k f fd ps sp) (hr : Room k X.A) (hg : Gl X x) (hm : X.mg x = some (.ref f)) (hk : PySem.W.keepIn X.K (.ref f) = true) (hb : Binds X.K fd ps ds) (hd : Vals dvs ds) (hx : Passes CX X E)
    (ha : PA X (e :: es) t) (hdb : (x == ("__debug__" : Str)) = false := by decide) (he : starEach (e :: es) X.env = (false, eval e X.env) :: starEach es X.env := by rfl) (hpl : (backTo pos (starEach es X.env)).any (·.1) = false := by rfl) :
    PE X (.Call (.Name x p) (e :: es) [] pos) (tCall sp dvs E t) := by
  intro pins s σ H Q I h
  refine wpAny_Call_Name_kw (ld_glob I hg hm ?_ hdb)
  refine PySem.W.callWith_K (h₀ := X.base) I.ok.mod.kin hk (thn (ha pos pins s σ H _ I h) fun us s1 ⟨vs, H1, I1, r, q⟩ => ⟨I1.kIn, ?_⟩) he hpl
  exact run_fn F hr hb hd hx I1 r q
end
section
variable {X : Cx} {CX : CXT} {k : Nat} {f C : Addr} {fd : FuncData} {ps ks : List Str} {sp : Sp} {E : XK} {x m : Str} {p pos apos kpos : Pos} {e o : Expr} {es : List Expr} {kws : List Keyword} {te ta : TE} {t tk : TA} {nm : Option Str}
variable {g : List Value → List Value → List Value} {gV : List V → List V → List V}
end
/-- names: the parameters first -/
structure FnScope (N P : List Str) (sc : Scope) : Prop where
  kind : sc.kind = .function
  co : sc.isCoroutine = false
  gen : sc.isGenerator = false
  nd : N.Nodup
  pre : N.take P.length = P
  par : ∀ x ∈ P, sc.names.lookup x = some .local ∨ sc.names.lookup x = some .cell
  nofree : ∀ y ∈ sc.names, y.2 ≠ .free
theorem bindL_out {kindOf : Str → Option NameKind} {x : Str} : ∀ {binds : List (Str × Value)} {m : Str → Option Value}, (∀ v, (x, v) ∉ binds) → bindL kindOf binds m x = m x
  | [], _, _ => rfl
  | (n, v) :: r, m, h => by
    unfold bindL
    rw [bindL_out fun w hw => h w (List.mem_cons_of_mem _ hw)]
    split
    · have : x ≠ n := by rintro rfl; exact h v List.mem_cons_self
      simp [this]
    · rfl
theorem bindC_out {kindOf : Str → Option NameKind} {x : Str} : ∀ {binds : List (Str × Value)} {m : Str → Option Value}, (∀ v, (x, v) ∉ binds) → bindC kindOf binds m x = m x
  | [], _, _ => rfl
  | (n, v) :: r, m, h => by
    unfold bindC
    rw [bindC_out fun w hw => h w (List.mem_cons_of_mem _ hw)]
    split
    · rfl
    · have : x ≠ n := by rintro rfl; exact h v List.mem_cons_self
      simp [this]
theorem bindL_get {kindOf : Str → Option NameKind} {x : Str} {v : Value} : ∀ {P : List Str} {vs : List Value} {i : Nat} {m : Str → Option Value}, P.Nodup → P[i]? = some x → vs[i]? = some v → kindOf x = some .local →
    bindL kindOf (P.zip vs) m x = some v
  | [], _, _, _, _, h, _, _ => by simp at h
  | _ :: _, [], _, _, _, _, h, _ => by simp at h
  | p :: P, w :: vs, 0, m, nd, h1, h2, hk => by
    simp at h1 h2; subst h1; subst h2
    show bindL kindOf ((p, w) :: P.zip vs) m p = _
    unfold bindL
    rw [bindL_out fun v hv => (List.nodup_cons.mp nd).1 (List.of_mem_zip hv).1, if_pos hk]
    simp
  | p :: P, w :: vs, i + 1, m, nd, h1, h2, hk => by
    show bindL kindOf ((p, w) :: P.zip vs) m x = _
    unfold bindL
    exact bindL_get (i := i) (List.nodup_cons.mp nd).2 (by simpa using h1) (by simpa using h2) hk
theorem bindC_get {kindOf : Str → Option NameKind} {x : Str} {v : Value} : ∀ {P : List Str} {vs : List Value} {i : Nat} {m : Str → Option Value}, P.Nodup → P[i]? = some x → vs[i]? = some v → kindOf x ≠ some .local →
    bindC kindOf (P.zip vs) m x = some v
  | [], _, _, _, _, h, _, _ => by simp at h
  | _ :: _, [], _, _, _, _, h, _ => by simp at h
  | p :: P, w :: vs, 0, m, nd, h1, h2, hk => by
    simp at h1 h2; subst h1; subst h2
    show bindC kindOf ((p, w) :: P.zip vs) m p = _
    unfold bindC
    rw [bindC_out fun v hv => (List.nodup_cons.mp nd).1 (List.of_mem_zip hv).1, if_neg hk]
    simp
  | p :: P, w :: vs, i + 1, m, nd, h1, h2, hk => by
    show bindC kindOf ((p, w) :: P.zip vs) m x = _
    unfold bindC
    exact bindC_get (i := i) (List.nodup_cons.mp nd).2 (by simpa using h1) (by simpa using h2) hk
/-- the names' values at the entry -/
def start (N : List Str) (vs : List V) : St := vs.map some ++ List.replicate (N.length - vs.length) none
/-- the context of a def's body, at its entry; an exception leaves the frame, then lies as CX says -/
def cxOf (CX : CXT) (P : Program) (w : World) (K : PySem.W.Frag) (mg : Str → Option Value) (base : Heap) (N : List Str) (qual : Str) (scope : Scope) (f : Addr) (cd : Value) (A : Around) (outer : List Env) (s : Shared) (H : Hp) (E : XK) : Cx where
  prog := P
  w := w
  K := K
  mg := mg
  base := base
  A := A.deeper (envOfC qual scope s.heap.objs.size f cd)
  N := N
  s_0 := s
  H_0 := H
  env := envOfC qual scope s.heap.objs.size f cd
  outer := outer
  stack := envOfC qual scope s.heap.objs.size f cd :: outer
  ex := []
  calm := true
  fn := fun _ => true
  pn := []
  xe := fun e s' => wpAny (model P w) (A.deeper (envOfC qual scope s.heap.objs.size f cd)) (leaving (envOfC qual scope s.heap.objs.size f cd) e) (fun _ s'' => CX outer H s E e s'') (fun e' s'' => CX outer H s E e' s'') s'
theorem cell_has {sc : Scope} {n : Nat} {x : Str} (h : sc.names.lookup x = some .cell) : ∃ c, (cellsFrom n sc.names []).lookup x = some c := by
  have q := PySem.W.cellsFrom_some sc.names n [] (.inl h)
  exact Option.isSome_iff_exists.mp q
theorem inv_start {CX : CXT} {P : Program} {w : World} {K : PySem.W.Frag} {mg : Str → Option Value} {base : Heap} {N ps : List Str} {qual : Str} {scope : Scope} {f : Addr} {cd : Value} {A : Around} {outer : List Env} {s s1 : Shared} {H : Hp} {E : XK} {us : List Value} {vs : List V}
    (S : FnScope N ps scope) (hd : A.handled = none) (e0 : Env0 P w K mg base A outer s H) (hl : vs.length = ps.length) (r : Vals vs us)
    (x : InCallC s s.heap.objs.size (bindL (envOfC qual scope s.heap.objs.size f cd).kindOf (ps.zip us) fun _ => none) (cellsFrom (s.heap.objs.size + 1) scope.names []) (bindC (envOfC qual scope s.heap.objs.size f cd).kindOf (ps.zip us) fun _ => none) s1) :
    Inv (cxOf CX P w K mg base N qual scope f cd A outer s H E) [] (start N vs) H s1 := by
  have hpl : ps.length ≤ N.length := by have := congrArg List.length S.pre; rw [List.length_take] at this; omega
  obtain ⟨h1, tk, rfl, hk⟩ := x.done
  have noA : ∀ b : Addr, b ∉ (cxOf CX P w K mg base N qual scope f cd A outer s H E).ex := fun b z => absurd (show b ∈ ([] : List Addr) from z) (by simp)
  refine ⟨⟨e0.mod, S.kind, rfl, rfl, Nat.le_refl _, fun y z c h1 h2 => ?_, fun y hy => ?_, fun y c _ h => ?_, fun _ => hd, Around.frames_deeper e0.frames, .inr ⟨rfl, rfl⟩, fun b z => absurd z (noA b), e0.bs, e0.bsz, fun b _ _ => noA b, fun b z => absurd z (noA b), e0.funs, e0.frf⟩,
    rfl, e0.bare, Un.kept hk, ⟨_, x.toInCall.ns, fun i y v h1 h2 h3 => ?_⟩, fun y c h => ⟨_, x.cell y c h⟩, e0.hok.fresh (Nat.le_refl _), fun y c h => ?_, fun p hp => absurd (show p ∈ ([] : List (Addr × Obj)) from hp) (by simp), e0.hok.kept hk, ?_⟩
  · exact name_of_addr x.apart (PySem.mem_of_lookup h1) (PySem.mem_of_lookup h2)
  · have hy : scope.names.lookup y = some .cell ∨ scope.names.lookup y = some .free := hy
    rcases hy with hy | hy
    · exact cell_has hy
    · exact absurd rfl (S.nofree _ (PySem.mem_of_lookup hy))
  · exact Nat.le_of_lt (x.above y c (PySem.mem_of_lookup h))
  · have hi : i < vs.length := by
      unfold start at h2
      by_cases hi : i < vs.length
      · exact hi
      · rw [List.getElem?_append_right (by simpa using hi)] at h2
        rw [List.getElem?_replicate] at h2
        split at h2 <;> cases h2
    have ha : vs[i]? = some v := by
      unfold start at h2
      rw [List.getElem?_append_left (by simpa using hi), List.getElem?_map] at h2
      cases e : vs[i]? with
      | none => rw [e] at h2; cases h2
      | some a => rw [e] at h2; cases h2; rfl
    obtain ⟨u, hu, rv⟩ := r.get ha
    have hp : ps[i]? = some y := by
      rw [← S.pre, List.getElem?_take_of_lt (by omega)]; exact h1
    have ndP : ps.Nodup := by rw [← S.pre]; exact S.nd.sublist (List.take_sublist _ _)
    refine ⟨u, rv, ?_⟩
    rcases S.par y (List.mem_of_getElem? hp) with k | k
    · exact .inl ⟨k, bindL_get ndP hp hu k⟩
    · obtain ⟨c, e⟩ := cell_has (n := s.heap.objs.size + 1) k
      refine .inr ⟨.inl k, c, e, ?_⟩
      have q := x.cell y c e
      rw [bindC_get ndP hp hu (by show scope.names.lookup y ≠ _; rw [k]; decide)] at q
      exact q
  · exact e0.hok.fresh (Nat.le_of_lt (x.above y c (PySem.mem_of_lookup h)))
  · unfold start
    show _ = N.length
    rw [List.length_append, List.length_map, List.length_replicate]
    omega
/-- THE RULE: a def (or a method) of the text, by its body. The body's reading t is chosen for each entry; it is run at the parameters' values -/
theorem fn_of {CX : CXT} {P : Program} {w : World} {K : PySem.W.Frag} {mg : Str → Option Value} {base : Heap} {k : Nat} {f : Addr} {name qual : Str} {params : Arguments} {body : List Stmt} {scope : Scope} {dV kV doc pm cdv ct oc : Value} {an od : Option Addr}
    {osl : Array (Option Value)} {N ps : List Str} {sp : Sp} (lk : K.lookup f = some ⟨oc, od, .func (PySem.W.fnOf name qual params body scope dV kV doc pm an cdv ct), osl⟩) (hcd : PySem.W.codeIn K cdv qual = true) (S : FnScope N ps scope)
    (len : ∀ vs H Q E, sp vs H Q E → vs.length = ps.length)
    (hbody : ∀ (A : Around) (outer : List Env) (s : Shared) (H : Hp) (vs : List V) (Q : VK) (E : XK), Room k (A.deeper (envOfC qual scope s.heap.objs.size f cdv)) → sp vs H Q E →
      ∃ t, PSs (cxOf CX P w K mg base N qual scope f cdv A outer s H E) body t ∧ t { nx := fun _ H' => Q .non H', rt := Q } (start N vs) H) :
    FnOk P w K mg base CX (k + 1) f (PySem.W.fnOf name qual params body scope dV kV doc pm an cdv ct) ps sp := by
  refine ⟨len, fun A outer s H args us vs Q E hr e0 hb r hsp => ?_⟩
  have hl := len _ _ _ _ hsp
  have KX : K.In s.heap := e0.mod.kin.keeps fun b o e => (e0.bs b o e).1
  have lim : s.heap.NoLimit := e0.mod.nolimit.keeps fun b o e => (e0.bs b o e).1
  have hkind : ∀ y ∈ ps.zip us, scope.names.lookup y.1 = some .local ∨ (scope.names.lookup y.1 = some .cell ∧ ((cellsFrom (s.heap.objs.size + 1) scope.names []).lookup y.1).isSome = true) := fun ⟨n, v⟩ hy => by
    rcases S.par n (List.of_mem_zip hy).1 with q | q
    · exact .inl q
    · exact .inr ⟨q, PySem.W.cellsFrom_some _ _ _ (.inl q)⟩
  refine codeAny_call_function hr.depth (KX _ _ lk) rfl S.co S.gen rfl (PySem.W.codeRec_of KX hcd) (hb _ _ _ _ ?_)
  refine wpAny_newFunctionEnv_cells S.kind hkind fun env he s1 x => ?_
  subst he
  refine ⟨lim.keeps x.toInCall.keep, codeAny_func ?_⟩
  obtain ⟨t, ht, hq⟩ := hbody A outer s H vs Q E (hr.deeper _) hsp
  have I : Inv (cxOf CX P w K mg base N qual scope f cdv A outer s H E) [] (start N vs) H s1 := inv_start S hr.hd e0 hl r x
  refine wpAny_mono (ht [] s1 (start N vs) H _ I hq) (fun fl s' hs => ?_) fun e s' hs => hs
  have fin : ∀ {σ' : St} {H' : Hp} {v : V} {u : Value}, Inv (cxOf CX P w K mg base N qual scope f cdv A outer s H E) [] σ' H' s' → RelV v u → Q v H' → CE outer P w H s Q u s' :=
    fun {σ' H' v u} J rv q => ⟨v, H', J.os, J.bare, J.base, J.hok, rv, q⟩
  cases fl with
  | ret u =>
    obtain ⟨v, σ', H', J, rv, q⟩ := hs
    exact fin J rv q
  | next =>
    obtain ⟨σ', H', J, q⟩ := hs
    exact fin (v := V.non) (u := Value.none) J rfl q
  | brk =>
    obtain ⟨_, _, _, q⟩ := hs
    exact False.elim q
  | cont =>
    obtain ⟨_, _, _, q⟩ := hs
    exact False.elim q
end L2
namespace L2
open PySem PySem.Spec PyProof.Rows
section
variable {X : Cx} {x : Str} {p pos : Pos} {e : Expr} {es : List Expr} {t : TA} {id T : String} {r : List V → Hp → VK → Prop}
def tCB (r : List V → Hp → VK → Prop) (t : TA) : TE := fun σ H Q => t σ H fun vs H1 => r vs H1 Q
/-- f(e, ..), f a built-in function -/
theorem pe_callB (hc : CallR X (.builtin id) r) (hg : Gl X x) (hm : X.mg x = none) (hv : bootBuiltins x = some (.builtin id)) (ha : PA X (e :: es) t) (hn : x ≠ "__name__" := by decide) (hdb : (x == ("__debug__" : Str)) = false := by decide)
    (he : starEach (e :: es) X.env = (false, eval e X.env) :: starEach es X.env := by rfl) (hpl : (backTo pos (starEach es X.env)).any (·.1) = false := by rfl) : PE X (.Call (.Name x p) (e :: es) [] pos) (tCB r t) := by
  intro pins s σ H Q I h
  refine wpAny_Call_Name_kw (ld_blt I hg hm hv ?_ hn hdb)
  exact PyProof.Rows.callWith_builtin1 (thn (ha pos pins s σ H _ I h) fun us s1 ⟨vs, H1, I1, r1, q1⟩ => hc pins s1 σ H1 vs us Q I1 r1 q1) he hpl
/-- T(e, ..), T a built-in type -/
theorem pe_callTy (hc : CallR X (.type T) r) (hg : Gl X x) (hm : X.mg x = none) (hv : bootBuiltins x = some (.type T)) (ha : PA X (e :: es) t) (hn : x ≠ "__name__" := by decide) (hdb : (x == ("__debug__" : Str)) = false := by decide)
    (he : starEach (e :: es) X.env = (false, eval e X.env) :: starEach es X.env := by rfl) (hpl : (backTo pos (starEach es X.env)).any (·.1) = false := by rfl) : PE X (.Call (.Name x p) (e :: es) [] pos) (tCB r t) := by
  intro pins s σ H Q I h
  refine wpAny_Call_Name_kw (ld_blt I hg hm hv ?_ hn hdb)
  exact PyProof.Rows.callWith_type1 (thn (ha pos pins s σ H _ I h) fun us s1 ⟨vs, H1, I1, r1, q1⟩ => hc pins s1 σ H1 vs us Q I1 r1 q1) he hpl
end
end L2
namespace HT
open PySem PyProof.Rows
section
open PySem.SeqAt
open PySem.AutoSeq1 (wpAny_loadPart')
open PySem.MeetsSeq PySem.MeetsSeq2 PySem.MeetsSeq3
end
section
variable {prog : Program} {w : World} {A : Around} {E : Value → Shared → Prop} {s : Shared}
/-- t + u, t not empty -/
theorem cat_tup {t b : Addr} {vs ws : List Value} {Q : Value → Shared → Prop} (ht : IsTup s.heap t vs.toArray) (hb : IsTup s.heap b ws.toArray) (hv : vs ≠ [])
    (h1 : ws = [] → Q (.ref t) s) (h2 : ws ≠ [] → Q (.ref s.heap.objs.size) { s with heap := s.heap.push { cls := .type "tuple", data := .seq (vs ++ ws).toArray } })
    (hsz : vs.length + ws.length ≤ sizeLine) : wpAny (model prog w) A (binaryOp .Add (.ref t) (.ref b)) Q E s := by
  obtain ⟨⟨cls, dd, data, sl⟩, ho, hc, n, hd⟩ := id ht
  obtain ⟨⟨cls2, dd2, data2, sl2⟩, ho2, hc2, n2, hd2⟩ := id hb
  simp only at hc hd hc2 hd2
  subst hc hd hc2 hd2
  have e : vs.toArray ++ ws.toArray = (vs ++ ws).toArray := by simp
  by_cases hw : ws = []
  · exact concat_meets ⟨_, ho, rfl⟩ ⟨_, ho2, rfl⟩ noFill_tuple_add seq_tuple_add PySem.F.slot_tuple_add PySem.F.entry_tuple_add (PySem.F.args_tuple_add_2 _ _)
      (tuple_addW1 t b vs.toArray ws.toArray n n2 dd dd2 sl sl2 (by simpa using hv) (by simp [hw])) ⟨ho, ho2, h1 hw⟩
  · refine concat_meets ⟨_, ho, rfl⟩ ⟨_, ho2, rfl⟩ noFill_tuple_add seq_tuple_add PySem.F.slot_tuple_add PySem.F.entry_tuple_add (PySem.F.args_tuple_add_2 _ _)
      (tuple_addW2 t b vs.toArray ws.toArray n n2 dd dd2 sl sl2 (by simpa using hv) (by simpa using hw) (by rw [List.size_toArray, List.size_toArray]; exact hsz)) ⟨ho, ho2, ?_⟩
    rw [e]
    exact h2 hw
/-- a slice's bound as a place among n (d where it is left out) -/
def sIx (n d : Nat) : Option Int → Nat
  | none => d
  | some v => if v < 0 then (v + (n : Int)).toNat else min v.toNat n
end
end HT
namespace L2
open PySem PySem.Spec PyProof.Rows
abbrev TO := St → Hp → (Option Int → Hp → Prop) → Prop
section
variable {X : Cx} {e : Expr} {te : TE} {lo hi : Option Expr} {tl th : TO} {pos p2 : Pos}
/-- what a slice of a value is, by values: the slice object stands at sl -/
def SlR (X : Cx) (r : V → Option Int → Option Int → Hp → VK → Prop) : Prop :=
  ∀ (pins : List (Addr × Obj)) (s : Shared) (σ : St) (H : Hp) (x : V) (v vl vu : Value) (lo hi : Option Int) (sl : Addr) (Q : VK), Inv X pins σ H s → RelV x v → s.heap.IsSliceOf sl vl vu .none → IsPart vl lo → IsPart vu hi → r x lo hi H Q →
    ∃ T id, typeLookup (.type T) "__getitem__" = pure (some (.builtin id)) ∧ s.TypeIs v T ∧ wpAny (model X.prog X.w) X.A (getItem v (.ref sl)) (EP X pins σ Q) X.xe s
theorem SlR.or {r r' : V → Option Int → Option Int → Hp → VK → Prop} (h : SlR X r) (h' : SlR X r') : SlR X (fun x lo hi H Q => r x lo hi H Q ∨ r' x lo hi H Q) := by
  intro pins s σ H x v vl vu lo hi sl Q I rx hs pl pu q
  rcases q with q | q
  · exact h pins s σ H x v vl vu lo hi sl Q I rx hs pl pu q
  · exact h' pins s σ H x v vl vu lo hi sl Q I rx hs pl pu q
/-- t + u, t not empty: u empty gives t itself -/
def rCatT (K : PySem.W.Frag) : R2 := fun x y H Q => ∃ a b xs ys, x = .ref a ∧ y = .ref b ∧ SqT K H a xs ∧ SqT K H b ys ∧ xs ≠ [] ∧ xs.length + ys.length ≤ sizeLine ∧
  (ys = [] → Q (.ref a) H) ∧ (ys ≠ [] → ∀ p, H p = none → Q (.ref p) (upd H p (.tup (xs ++ ys))))
theorem Vals.nil_iff {xs : List V} {us : List Value} (r : Vals xs us) : us = [] ↔ xs = [] := by
  cases r with
  | nil => simp
  | cons _ _ => simp
theorem op_catT : OpR X (binaryOp .Add) (rCatT X.K) := by
  intro pins s σ H x y v u Q I rx ry h
  obtain ⟨a, b, xs, ys, rfl, rfl, ha, hb, hx, hz, q1, q2⟩ := h
  cases rx
  cases ry
  obtain ⟨its, r1, p1, _⟩ := I.tuple ha
  obtain ⟨its2, r2, p2, _⟩ := I.tuple hb
  refine HT.cat_tup p1 p2 (fun z => hx (r1.nil_iff.mp z)) (fun z => ⟨.ref a, H, I, rfl, q1 (r2.nil_iff.mp z)⟩) (fun z => ?_) (by rw [← r1.length, ← r2.length]; exact hz)
  refine ⟨.ref s.heap.objs.size, _, I.laid (t' := s.toks) (o := .tup (xs ++ ys)) (fun b ob q => Heap.get?_push_of_some _ q) (Nat.le_refl _) ?_, rfl, q2 (fun w => z (r2.nil_iff.mpr w)) _ (I.hok.fresh (Nat.le_refl _))⟩
  exact ⟨by rw [List.length_append]; exact hz, _, r1.append r2, IsTup.new _ _⟩
end
end L2
namespace L2
open PySem PySem.Spec PyProof.Rows
/-- the place that an index of any sign means -/
def ixN (n : Nat) (i : Int) : Option Nat := if 0 ≤ i then (if i < n then some i.toNat else none) else if -(n : Int) ≤ i then some (i + n).toNat else none
def atI {α : Type} (xs : List α) (i : Int) : Option α := (ixN xs.length i).bind fun j => xs[j]?
theorem ixN_seq {n : Nat} {i : Int} {j : Nat} (h : ixN n i = some j) : seqIndex? i n = some j ∧ j < n ∧ -(n : Int) ≤ i ∧ i < n := by
  unfold ixN at h
  by_cases h0 : 0 ≤ i
  · rw [if_pos h0] at h
    by_cases h1 : i < n
    · rw [if_pos h1] at h
      have e : i.toNat = j := Option.some.inj h
      exact ⟨by rw [seqIndex_of h0 h1, e], by omega, by omega, h1⟩
    · rw [if_neg h1] at h; cases h
  · rw [if_neg h0] at h
    by_cases h1 : -(n : Int) ≤ i
    · rw [if_pos h1] at h
      have e : (i + n).toNat = j := Option.some.inj h
      exact ⟨by rw [seqIndex_neg (by omega) h1, e], by omega, h1, by omega⟩
    · rw [if_neg h1] at h; cases h
theorem atI_get {α : Type} {xs : List α} {i : Int} {v : α} (h : atI xs i = some v) : ∃ j, seqIndex? i xs.length = some j ∧ xs[j]? = some v ∧ j < xs.length ∧ -(xs.length : Int) ≤ i ∧ i < xs.length := by
  unfold atI at h
  cases e : ixN xs.length i with
  | none => rw [e] at h; cases h
  | some j =>
    rw [e] at h
    obtain ⟨h1, h2, h3, h4⟩ := ixN_seq e
    exact ⟨j, h1, h, h2, h3, h4⟩
/-- what stands as an index of a plain subscript -/
def PlainIx (b : Expr) : Prop := ∀ o i, subscripted b false o i = operate [o, i] (getItem o i)
/-- a subscript by values -/
def IxR (X : Cx) (r : R2) : Prop :=
  ∀ (value slice : Expr) (pins : List (Addr × Obj)) (s : Shared) (σ : St) (H : Hp) (x y : V) (v u : Value) (Q : VK), Inv X pins σ H s → RelV x v → RelV y u → r x y H Q →
    subscripted slice false v u = operate [v, u] (getItem v u) → wpAny (model X.prog X.w) X.A (subscriptTail value slice v u) (EP X pins σ Q) X.xe s
/-- a call of a builtin's method by values: the receiver, the arguments -/
def MtR (X : Cx) (id : String) (r : V → List V → Hp → VK → Prop) : Prop :=
  ∀ (pins : List (Addr × Obj)) (s : Shared) (σ : St) (H : Hp) (x : V) (xs : List V) (v : Value) (us : List Value) (Q : VK), Inv X pins σ H s → RelV x v → Vals xs us → r x xs H Q →
    wpAny (model X.prog X.w) X.A (call (.builtin id) (v :: us)) (EP X pins σ Q) X.xe s
section
variable {X : Cx} {a b : Expr} {ta tb : TE} {pos : Pos}
theorem IxR.or {r r' : R2} (h : IxR X r) (h' : IxR X r') : IxR X (fun x y H Q => r x y H Q ∨ r' x y H Q) := by
  intro value slice pins s σ H x y v u Q I rx ry q hs
  rcases q with q | q
  · exact h value slice pins s σ H x y v u Q I rx ry q hs
  · exact h' value slice pins s σ H x y v u Q I rx ry q hs
theorem MtR.or {id : String} {r r' : V → List V → Hp → VK → Prop} (h : MtR X id r) (h' : MtR X id r') : MtR X id (fun x xs H Q => r x xs H Q ∨ r' x xs H Q) := by
  intro pins s σ H x xs v us Q I rx rs q
  rcases q with q | q
  · exact h pins s σ H x xs v us Q I rx rs q
  · exact h' pins s σ H x xs v us Q I rx rs q
/-- a[b] -/
theorem pe_ix {r : R2} (hr : IxR X r) (ha : PE X a ta) (hb : PE X b tb) (hs : PlainIx b) : PE X (.Subscript a b pos) (tOp r ta tb) := by
  intro pins s σ H Q I h
  exact Subscript_ (binT ha hb I h fun v u s2 x y H2 I2 rx ry q => hr a b pins s2 σ H2 x y v u Q I2 rx ry q (hs _ _))
def rIxL (K : PySem.W.Frag) : R2 := fun x y H Q => ∃ p xs i v, x = .ref p ∧ y = .int i ∧ SqL K H p xs ∧ atI xs i = some v ∧ Q v H
def rIxT (K : PySem.W.Frag) : R2 := fun x y H Q => ∃ p xs i v, x = .ref p ∧ y = .int i ∧ SqT K H p xs ∧ atI xs i = some v ∧ Q v H
def rIxS : R2 := fun x y H Q => ∃ z i c, x = .str z ∧ y = .int i ∧ z.length ≤ sizeLine ∧ atI z.cps.toList i = some c ∧ Q (.str ⟨#[c]⟩) H
theorem ix_list : IxR X (rIxL X.K) := by
  intro value slice pins s σ H x y v u Q I rx ry h hs
  obtain ⟨p, xs, i, z, rfl, rfl, hq, he, q⟩ := h
  cases rx
  obtain ⟨t, rfl⟩ := ry
  obtain ⟨its, r, pl, hz⟩ := I.list hq
  obtain ⟨j, h1, h2, h3, h4, h5⟩ := atI_get he
  obtain ⟨w, ew, rw'⟩ := r.get h2
  have hl := r.length
  have hn := line63
  have fin : EP X pins σ Q w s := ⟨z, H, I, rw', q⟩
  by_cases h0 : 0 ≤ i
  · have hj : i.toNat = j := by
      rw [seqIndex_of h0 h5] at h1
      exact Option.some.inj h1
    exact item_listR pl.isList h0 (by omega) (by rw [hj]; simpa using ew) fin hs
  · have hj : (i + (its.toArray.size : Int)).toNat = j := by
      rw [seqIndex_neg (by omega) h4] at h1
      rw [List.size_toArray, ← hl]
      exact Option.some.inj h1
    exact subscriptTail_builtinR (x := w) pl.isList.typeIs slot_list_getitem.lookup
      (wpAny_getItem_list_neg (Q := fun r s' => r = w ∧ EP X pins σ Q r s') pl.isList (by omega) (by rw [List.size_toArray] <;> omega) (by omega) (by rw [hj]; simpa using ew) ⟨rfl, fin⟩) hs
theorem ix_tup : IxR X (rIxT X.K) := by
  intro value slice pins s σ H x y v u Q I rx ry h hs
  obtain ⟨p, xs, i, z, rfl, rfl, hq, he, q⟩ := h
  cases rx
  obtain ⟨t, rfl⟩ := ry
  obtain ⟨its, r, pl, hz⟩ := I.tuple hq
  obtain ⟨j, h1, h2, h3, h4, h5⟩ := atI_get he
  obtain ⟨w, ew, rw'⟩ := r.get h2
  have hl := r.length
  have hn := line63
  have fin : EP X pins σ Q w s := ⟨z, H, I, rw', q⟩
  exact subscriptTail_builtinR (x := w) pl.typeIs slot_tuple_getitem.lookup
    (getItem_tuple (j := j) (Q := fun r s' => r = w ∧ EP X pins σ Q r s') pl (by omega) (by omega) (by rw [List.size_toArray, ← hl]; exact h1) (by simpa using ew) ⟨rfl, fin⟩) hs
theorem ix_str : IxR X rIxS := by
  intro value slice pins s σ H x y v u Q I rx ry h hs
  obtain ⟨z, i, c, rfl, rfl, hz, he, q⟩ := h
  obtain ⟨t, rfl⟩ := rx
  obtain ⟨t', rfl⟩ := ry
  obtain ⟨j, h1, h2, h3, h4, h5⟩ := atI_get he
  have hl : z.cps.toList.length = z.length := by simp [Str.length]
  rw [hl] at h1 h4 h5
  have hn := line63
  exact tail_any (typeIs_str s z t) slot_str_getitem.lookup (getItem_str (c := c) (by
    have e1 : decide (i < -(2 ^ 63 : Int)) = false := decide_eq_false (by omega)
    have e2 : decide (i ≥ 2 ^ 63) = false := decide_eq_false (by omega)
    rw [e1, e2, Bool.or_false]) (by rw [h1]; simpa using h2) ⟨.str ⟨#[c]⟩, H, I.tok _, ⟨_, rfl⟩, q⟩) hs
/-- the list's object behind a store -/
theorem mapSeq_set (its : List Value) (n j : Nat) (u : Value) : Obj.mapSeq (·.setIfInBounds j u) { cls := .type "list", data := .seq its.toArray n } = { cls := .type "list", data := .seq (its.set j u).toArray n } := by
  simp [Obj.mapSeq]
theorem Inv.lst {pins : List (Addr × Obj)} {σ : St} {H : Hp} {s : Shared} {p : Addr} {xs : List V} (I : Inv X pins σ H s) (h : H p = some (.lst xs)) :
    ∃ (its : List Value) (n : Nat), Vals xs its ∧ s.heap.get? p = some { cls := .type "list", data := .seq its.toArray n } ∧ xs.length ≤ sizeLine := by
  obtain ⟨z, its, n, r, e⟩ := I.hok p _ h
  exact ⟨its, n, r, e, z⟩
/-- the list at p is written by an update of its object -/
theorem Inv.lstUpd {pins : List (Addr × Obj)} {σ : St} {H : Hp} {s : Shared} {p : Addr} {xs ys : List V} {its its' : List Value} {n n' : Nat} {f : Obj → Obj} (I : Inv X pins σ H s) (h : H p = some (.lst xs))
    (ho : s.heap.get? p = some { cls := .type "list", data := .seq its.toArray n }) (hf : f { cls := .type "list", data := .seq its.toArray n } = { cls := .type "list", data := .seq its'.toArray n' }) (r : Vals ys its') (hz : ys.length ≤ sizeLine) (t : Nat) :
    Inv X pins σ (upd H p (.lst ys)) { s with heap := s.heap.update p f, toks := t } := by
  have e : (s.heap.update p f).get? p = some { cls := .type "list", data := .seq its'.toArray n' } := by
    rw [Heap.get?_update_self f ho (by rw [hf] <;> rfl), hf]
  refine I.write (x := p) (e := p) (by rw [h]; trivial) (.inl rfl) (fun b u hb q => (Heap.get?_update_other _ _ (Ne.symm hb)).trans q) ⟨_, e⟩ ?_
  exact ⟨hz, its', n', r, e⟩
def rSetL : V → V → V → Hp → (Hp → Prop) → Prop := fun o i v H Q => ∃ p xs k j, o = .ref p ∧ i = .int k ∧ H p = some (.lst xs) ∧ ixN xs.length k = some j ∧ Q (upd H p (.lst (xs.set j v)))
theorem set_list : PSet X rSetL := by
  intro pins s σ H o i v ov iv u Q I ro ri rv h
  obtain ⟨p, xs, k, j, rfl, rfl, hp, hj, q⟩ := h
  cases ro
  obtain ⟨t, rfl⟩ := ri
  obtain ⟨its, n, r, ho, hz⟩ := I.lst hp
  obtain ⟨h1, h2, h3, h4⟩ := ixN_seq hj
  have hl := r.length
  have hn := line63
  have I' : Inv X pins σ (upd H p (.lst (xs.set j v))) { s with heap := s.heap.update p (Obj.mapSeq (·.setIfInBounds j u)) } :=
    I.lstUpd hp ho (mapSeq_set its n j u) (r.set rv j) (by rw [List.length_set]; exact hz) s.toks
  by_cases h0 : 0 ≤ k
  · have hk : k.toNat = j := by
      rw [seqIndex_of h0 h4] at h1
      exact Option.some.inj h1
    exact PySem.W.ki_setAt ho h0 (by omega) (by rw [List.size_toArray, ← hl]; exact h4) (by rw [hk]; exact ⟨_, I', q⟩)
  · have hk : (k + (its.toArray.size : Int)).toNat = j := by
      rw [seqIndex_neg (by omega) h3] at h1
      rw [List.size_toArray, ← hl]
      exact Option.some.inj h1
    exact PySem.W.ki_setBack ho (by omega) (by rw [List.size_toArray, ← hl]; exact h3) (by omega) (by rw [hk]; exact ⟨_, I', q⟩)
theorem call_len_seq : CallR X (.builtin "len") (fun xs H Q => ∃ p ys, xs = [.ref p] ∧ (SqL X.K H p ys ∨ SqT X.K H p ys) ∧ Q (.int ys.length) H) := by
  intro pins s σ H xs us Q I r h
  obtain ⟨p, ys, rfl, hq, q⟩ := h
  obtain ⟨u, rfl, rx⟩ := vals1 r
  cases rx
  have hn := line63
  rcases hq with hq | hq
  · obtain ⟨its, r', pl, hz⟩ := I.list hq
    have hlen := r'.length
    exact Calls.call_len_list pl.isList (by simp only [List.size_toArray] <;> omega) ⟨.int ys.length, H, I.tok _, ⟨s.toks + 1, by rw [List.size_toArray, hlen]⟩, q⟩
  · obtain ⟨its, r', pl, hz⟩ := I.tuple hq
    have hlen := r'.length
    exact len_tuple pl (by simp only [List.size_toArray] <;> omega) ⟨.int ys.length, H, I.tok _, ⟨s.toks + 1, by rw [List.size_toArray, hlen]⟩, q⟩
theorem call_len_str : CallR X (.builtin "len") (fun xs H Q => ∃ z, xs = [.str z] ∧ z.length ≤ sizeLine ∧ Q (.int z.length) H) := by
  intro pins s σ H xs us Q I r h
  obtain ⟨z, rfl, hz, q⟩ := h
  obtain ⟨u, rfl, t, rfl⟩ := vals1 r
  have hn := line63
  exact len_str (by omega) ⟨.int z.length, H, I.tok _, ⟨_, rfl⟩, q⟩
theorem CallR.or {f : Value} {r r' : List V → Hp → VK → Prop} (h : CallR X f r) (h' : CallR X f r') : CallR X f (fun xs H Q => r xs H Q ∨ r' xs H Q) := by
  intro pins s σ H xs us Q I rs q
  rcases q with q | q
  · exact h pins s σ H xs us Q I rs q
  · exact h' pins s σ H xs us Q I rs q
/-- the value is of that builtin type -/
def tyV (K : PySem.W.Frag) (T : String) (x : V) (H : Hp) : Prop := match x with
  | .str _ => T = "str"
  | .int _ => T = "int"
  | .ref p => (T = "list" ∧ ∃ xs, SqL K H p xs) ∨ (T = "tuple" ∧ ∃ o, K.lookup p = some o ∧ o.cls = .type "tuple" ∧ o.dict = none) ∨
      (T = "dict" ∧ ((∃ kvs, H p = some (.dK kvs)) ∨ ∃ kvs, H p = some (.dT kvs))) ∨ (T = "set" ∧ ∃ S n, H p = some (.set S n))
  | _ => False
theorem tyV_is {pins : List (Addr × Obj)} {σ : St} {H : Hp} {s : Shared} {T : String} {x : V} {v : Value} (I : Inv X pins σ H s) (r : RelV x v) (ty : tyV X.K T x H) :
    s.TypeIs v T ∧ ∀ a, v = .ref a → ∃ ob, s.heap.get? a = some ob ∧ ob.dict = none := by
  cases x with
  | str z =>
    obtain ⟨t, rfl⟩ := r
    cases (show T = "str" from ty)
    exact ⟨typeIs_str s z t, fun _ e => nomatch e⟩
  | int i =>
    obtain ⟨t, rfl⟩ := r
    cases (show T = "int" from ty)
    exact ⟨typeIs_int s i t, fun _ e => nomatch e⟩
  | ref p =>
    cases r
    rcases ty with ⟨rfl, xs, hq⟩ | ⟨rfl, o, hk, hc, hd⟩ | ⟨rfl, hk⟩ | ⟨rfl, S, n, hk⟩
    · obtain ⟨its, _, pl, _⟩ := I.list hq
      refine ⟨pl.isList.typeIs, fun a e => ?_⟩
      cases e
      obtain ⟨o, n, e, c, hd, _⟩ := pl
      exact ⟨o, e, hd⟩
    · refine ⟨⟨o, I.kIn p o hk, hc⟩, fun a e => ?_⟩
      cases e
      exact ⟨o, I.kIn _ o hk, hd⟩
    · have z : ∃ o, s.heap.get? p = some o ∧ o.ExactDict := by
        rcases hk with ⟨kvs, hk⟩ | ⟨kvs, hk⟩
        · obtain ⟨_, _, _, _, o, _, _, e, ex, _⟩ := I.hok p _ hk
          exact ⟨o, e, ex⟩
        · obtain ⟨_, _, _, _, o, _, _, e, ex, _⟩ := I.hok p _ hk
          exact ⟨o, e, ex⟩
      obtain ⟨o, e, ex⟩ := z
      refine ⟨⟨o, e, ex.1⟩, fun a e2 => ?_⟩
      cases e2
      exact ⟨o, e, ex.2.1⟩
    · obtain ⟨o, _, _, _, e, ex, _⟩ := I.hok p _ hk
      refine ⟨⟨o, e, ex.1⟩, fun a e2 => ?_⟩
      cases e2
      exact ⟨o, e, ex.2.1⟩
  | _ => exact False.elim ty
def tBM (K : PySem.W.Frag) (T : String) (r : V → List V → Hp → VK → Prop) (to : TE) (t : TA) : TE := fun σ H Q => to σ H fun x H1 => tyV K T x H1 ∧ t σ H1 fun xs H2 => r x xs H2 Q
variable {o e : Expr} {es : List Expr} {to : TE} {t : TA} {name : Str} {apos cpos : Pos} {T id : String} {r : V → List V → Hp → VK → Prop}
theorem pe_bm (pa : PlainAttrs T) (slot : Slot T name id) (hty : typeOf (.builtin id) = pure (.type "method_descriptor")) (hm : MtR X id r) (ho : PE X o to) (ha : PA X (e :: es) t)
    (hbase : attributeBase o name X.env (eval o X.env) = eval o X.env := by rfl)
    (hfew : ((backTo cpos (starEach (e :: es) X.env)).all (fun x => !x.1) && (backToKw cpos (keywordEach [] X.env)).all (fun x => x.1.isSome)
      && decide ((e :: es).length + ([] : List Keyword).length + (if ([] : List Keyword).isEmpty then 0 else 1) < 30)) = true := by rfl)
    (hline : (apos.endLine == cpos.line) = true := by rfl) (hs : starEach (e :: es) X.env = (false, eval e X.env) :: starEach es X.env := by rfl) (hplain : (backTo cpos (starEach es X.env)).any (·.1) = false := by rfl) :
    PE X (.Call (.Attribute o name apos) (e :: es) [] cpos) (tBM X.K T r to t) := by
  intro pins s σ H Q I h
  refine wpAny_Call_method_late hbase hfew hline rfl (thn (ho pins s σ H _ I h) fun v s1 ⟨x, H1, I1, r1, ty, q1⟩ => ?_)
  obtain ⟨h1, h2⟩ := tyV_is I1 r1 ty
  refine ⟨T, id, pa, slot, hty, h1, h2, ?_⟩
  have hA := ha cpos pins s1 σ H1 _ I1 q1
  rw [hs] at hA ⊢
  refine Calls.callWith_builtin (by show (false || (backTo cpos (starEach es X.env)).any (·.1)) = false; rw [hplain] <;> rfl) (Calls.evalArgs_plain ?_)
  exact thn hA fun us s2 ⟨vs, H2, I2, r2, q2⟩ => hm pins s2 σ H2 x vs v us Q I2 r1 r2 q2
end
end L2
namespace L2
open PySem PySem.Spec PyProof.Rows
def MtM (X : Cx) (id : String) (r : V → List V → Hp → VK → Prop) : Prop :=
  ∀ (pins : List (Addr × Obj)) (s : Shared) (σ : St) (H : Hp) (x : V) (xs : List V) (v : Value) (us : List Value) (Q : VK), Inv X pins σ H s → RelV x v → Vals xs us → r x xs H Q →
    wpAny (model X.prog X.w) X.A (call (.builtin id) (v :: us)) (EP X pins σ Q) X.xe s
theorem Vals.one : ∀ {x : V} {us : List Value}, Vals [x] us → ∃ u, us = [u] ∧ RelV x u
  | _, _, .cons r .nil => ⟨_, rfl, r⟩
theorem Vals.two : ∀ {x y : V} {us : List Value}, Vals [x, y] us → ∃ u v, us = [u, v] ∧ RelV x u ∧ RelV y v
  | _, _, _, .cons r (.cons q .nil) => ⟨_, _, rfl, r, q⟩
theorem Vals.zero : ∀ {us : List Value}, Vals [] us → us = []
  | _, .nil => rfl
theorem Vals.eraseIdx : ∀ {xs : List V} {us : List Value} (i : Nat), Vals xs us → Vals (xs.eraseIdx i) (us.eraseIdx i)
  | _, _, _, .nil => .nil
  | _, _, 0, .cons _ t => t
  | _, _, i + 1, .cons r t => .cons r (Vals.eraseIdx i t)
theorem Vals.reverse {xs : List V} {us : List Value} (h : Vals xs us) : Vals xs.reverse us.reverse := by
  induction h with
  | nil => exact .nil
  | cons r t ih => rw [List.reverse_cons, List.reverse_cons]; exact Vals.append ih (.cons r .nil)
theorem Vals.rep {xs : List V} {us : List Value} (h : Vals xs us) : ∀ k : Nat, Vals (List.replicate k xs).flatten (List.replicate k us).flatten
  | 0 => .nil
  | k + 1 => by
    rw [List.replicate_succ, List.replicate_succ, List.flatten_cons, List.flatten_cons]
    exact Vals.append h (Vals.rep h k)
theorem foldl_rep (its : List Value) : ∀ (k : Nat) (acc : List Value),
    List.foldl (fun x1 x2 => x1 ++ x2) acc.toArray (List.replicate k its.toArray) = (acc ++ (List.replicate k its).flatten).toArray
  | 0, acc => by simp
  | k + 1, acc => by
    have e : acc.toArray ++ its.toArray = (acc ++ its).toArray := by simp
    have e2 : (acc ++ its) ++ (List.replicate k its).flatten = acc ++ (List.replicate (k + 1) its).flatten := by
      rw [List.replicate_succ, List.flatten_cons, List.append_assoc]
    rw [← e2, ← foldl_rep its k (acc ++ its), ← e, List.replicate_succ, List.foldl_cons]
section
variable {X : Cx} {pins : List (Addr × Obj)} {σ : St} {H : Hp} {s : Shared} {l b : Addr} {xs ys zs : List V}
theorem Inv.lset {its its' : List Value} {n : Nat} {f : Array Value → Array Value} {t' : Nat} (I : Inv X pins σ H s) (hH : H l = some (.lst xs))
    (e : s.heap.get? l = some { cls := .type "list", data := .seq its.toArray n }) (hf : f its.toArray = its'.toArray) (hv : Vals ys its') (hz : ys.length ≤ sizeLine) :
    Inv X pins σ (upd H l (.lst ys)) { s with heap := s.heap.update l (Obj.mapSeq f), toks := t' } := by
  have q := PySem.IsL.update e f
  rw [hf] at q
  refine I.write (x := l) (e := l) (by rw [hH]; exact trivial) (.inl rfl) (fun b' u hb hu => (Heap.get?_update_other s.heap (Obj.mapSeq f) (Ne.symm hb)).trans hu) ⟨_, q⟩ ?_
  exact ⟨hz, its', _, hv, q⟩
theorem Inv.lnew {its : List Value} {t' : Nat} (I : Inv X pins σ H s) (hv : Vals ys its) (hz : ys.length ≤ sizeLine) :
    Inv X pins σ (upd H s.heap.objs.size (.lst ys)) { s with heap := s.heap.push { cls := .type "list", data := .seq its.toArray }, toks := t' } :=
  I.laid (fun _ _ q => Heap.get?_push_of_some _ q) (Nat.le_refl _) ⟨hz, its, 0, hv, Heap.get?_push_size _ rfl⟩
theorem Inv.fresh (I : Inv X pins σ H s) : H s.heap.objs.size = none := I.hok.fresh (Nat.le_refl _)
theorem Inv.lstM (I : Inv X pins σ H s) (hH : H l = some (.lst xs)) : xs.length ≤ sizeLine ∧ ∃ (its : List Value) (n : Nat), Vals xs its ∧ xs.length = its.length ∧ s.heap.get? l = some { cls := .type "list", data := .seq its.toArray n } := by
  obtain ⟨z, its, n, r, e⟩ := I.hok l _ hH
  exact ⟨z, its, n, r, r.length, e⟩
theorem notLongL {n : Nat} (h : n ≤ sizeLine) : Builtin.List.listTooLong n = false := by
  unfold Builtin.List.listTooLong
  exact decide_eq_false (by omega)
end
section
variable {X : Cx}
def rAppend : V → List V → Hp → VK → Prop := fun x vs H Q => ∃ l xs y, x = .ref l ∧ vs = [y] ∧ H l = some (.lst xs) ∧ xs.length < sizeLine ∧ Q .non (upd H l (.lst (xs ++ [y])))
theorem mt_append : MtM X "list.append" rAppend := by
  intro pins s σ H x vs v us Q I rx rv h
  obtain ⟨l, xs, y, rfl, rfl, hH, hz, q⟩ := h
  cases rx
  obtain ⟨u, rfl, ru⟩ := rv.one
  obtain ⟨z, its, n, r, hl, e⟩ := I.lstM hH
  refine call_meets F.slot_list_append ⟨_, e, rfl⟩ F.entry_list_append (F.args_list_append_2 _ _) (PySem.list_append l its.toArray n u (by rw [List.size_toArray]; omega)) ⟨e, ?_⟩
  refine ⟨.non, _, I.lset (its' := its ++ [u]) hH e (by simp) (r.append (.cons ru .nil)) ?_, rfl, q⟩
  rw [List.length_append, List.length_singleton]
  omega
def rCat : R2 := fun x y H Q => ∃ l b xs zs, x = .ref l ∧ y = .ref b ∧ H l = some (.lst xs) ∧ H b = some (.lst zs) ∧ xs.length + zs.length ≤ sizeLine ∧ ∀ p, H p = none → Q (.ref p) (upd H p (.lst (xs ++ zs)))
theorem op_cat : OpR X (binaryOp .Add) rCat := by
  intro pins s σ H x y v u Q I rx ry h
  obtain ⟨l, b, xs, zs, rfl, rfl, hH, hB, hz, q⟩ := h
  cases rx
  cases ry
  obtain ⟨z, its, n, r, hl, e⟩ := I.lstM hH
  obtain ⟨z2, its2, n2, r2, hl2, e2⟩ := I.lstM hB
  refine PySem.P.add_list e e2 ?_ (by rw [List.size_toArray, List.size_toArray]; omega)
  have ea : its.toArray ++ its2.toArray = (its ++ its2).toArray := by simp
  rw [ea]
  exact ⟨.ref _, _, I.lnew (t' := s.toks) (r.append r2) (by rw [List.length_append]; omega), rfl, q _ I.fresh⟩
/-- a list times an int (a negative one is nothing) -/
def rRep : R2 := fun x y H Q => ∃ l k xs, x = .ref l ∧ y = .int k ∧ H l = some (.lst xs) ∧ -(2 ^ 63) ≤ k ∧ k < 2 ^ 63 ∧ xs.length * k.toNat ≤ sizeLine ∧
  ∀ p, H p = none → Q (.ref p) (upd H p (.lst (List.replicate k.toNat xs).flatten))
theorem len_rep {α : Type} (xs : List α) (k : Nat) : (List.replicate k xs).flatten.length = k * xs.length := by
  induction k with
  | zero => simp
  | succ k ih => rw [List.replicate_succ, List.flatten_cons, List.length_append, ih, Nat.succ_mul, Nat.add_comm]
theorem op_rep : OpR X (binaryOp .Mult) rRep := by
  intro pins s σ H x y v u Q I rx ry h
  obtain ⟨l, k, xs, rfl, rfl, hH, h1, h2, hz, q⟩ := h
  cases rx
  obtain ⟨t, rfl⟩ := ry
  obtain ⟨z, its, n, r, hl, e⟩ := I.lstM hH
  have hlen : its.toArray.size * k.toNat ≤ sizeLine := by rw [List.size_toArray, ← hl]; exact hz
  have hcap : ¬ its.toArray.size * k.toNat > (2 ^ 63 - 1) / 8 := by
    have : (sizeLine : Nat) ≤ (2 ^ 63 - 1) / 8 := by decide
    omega
  have hfit : ¬ (!Builtin.List.listFitsIndex k) = true := by
    rw [fitsIndex_both h1 h2]
    exact Bool.false_ne_true
  have hlong : ¬ Builtin.List.listTooLong (its.toArray.size * k.toNat) = true := by
    rw [notLongL hlen]
    exact Bool.false_ne_true
  have hnew : List.foldl (fun x1 x2 => x1 ++ x2) #[] (List.replicate (if its.toArray.isEmpty = true then 0 else k.toNat) its.toArray) = (List.replicate k.toNat its).flatten.toArray := by
    have f0 : ∀ m : Nat, List.foldl (fun x1 x2 => x1 ++ x2) #[] (List.replicate m its.toArray) = (List.replicate m its).flatten.toArray := fun m => by
      have := foldl_rep its m []
      rw [List.nil_append] at this
      exact this
    rw [f0]
    cases its with
    | nil => simp
    | cons a r' => rw [if_neg (by simp)]
  refine wpAny_binaryOp_repeat_ref (T := "list") (U := "int") (by decide) ⟨_, e, rfl⟩ (fun s' => typeIs_int s' k t) noFill_list_mul F.fills_int_mul F.slot_int_rmul repeat_list F.slot_int_index.lookup
    (call_meets F.slot_int_rmul (typeIs_int s k t) F.entry_int_rmul (F.args_int_rmul_2 _ _) (int___rmul___int_list k t l its.toArray n)
      ⟨e, rfl, ⟨_, e, rfl⟩, call_meets F.slot_list_mul ⟨_, e, rfl⟩ F.entry_list_mul (F.args_list_mul_2 _ _) (AutoListH.list___mul___list_int_3 l its.toArray n k t hfit hcap hlong) ⟨e, ?_⟩⟩)
  rw [hnew]
  exact ⟨.ref _, _, I.lnew (t' := s.toks) (r.rep k.toNat) (by rw [len_rep, Nat.mul_comm]; exact hz), rfl, q _ I.fresh⟩
end
section
variable {prog : Program} {w : World} {A : Around} {E : Value → Shared → Prop} {s : Shared}
end
section
variable {X : Cx}
end
end L2
namespace L2
open PySem PySem.Spec PyProof.Rows
theorem Vals.ints : ∀ {ns : List Int} {us : List Value}, Vals (ns.map V.int) us → IntsAre us ns
  | [], us, h => by
    rw [List.map_nil] at h
    cases h
    exact IntsAre.nil
  | n :: ns, us, h => by
    rw [List.map_cons] at h
    cases h with
    | cons r t =>
      obtain ⟨k, rfl⟩ := r
      exact IntsAre.cons n k (Vals.ints t)
theorem Vals.strs : ∀ {xs : List Str} {us : List Value}, Vals (xs.map V.str) us → StrsAre us xs
  | [], us, h => by
    rw [List.map_nil] at h
    cases h
    exact StrsAre.nil
  | x :: xs, us, h => by
    rw [List.map_cons] at h
    cases h with
    | cons r t =>
      obtain ⟨k, rfl⟩ := r
      exact StrsAre.cons x k (Vals.strs t)
theorem vals_of_strs : ∀ {us : List Value} {xs : List Str}, StrsAre us xs → Vals (xs.map V.str) us
  | _, _, .nil => by rw [List.map_nil]; exact Paired.nil
  | _, _, .cons x t h => by rw [List.map_cons]; exact Paired.cons (show RelV (V.str x) (Value.str x t) from ⟨t, rfl⟩) (vals_of_strs h)
theorem Vals.ref1 {a : Addr} {us : List Value} (r : Vals [V.ref a] us) : us = [Value.ref a] := by
  cases r with
  | cons r t =>
    cases t
    cases r
    rfl
section
variable {prog : Program} {w : World} {A : Around} {E : Value → Shared → Prop} {s : Shared} {l : Addr} {its : List Value} {ns : List Int} {Q : Value → Shared → Prop}
end
section
variable {X : Cx}
def rSortedS (K : PySem.W.Frag) : List V → Hp → VK → Prop := fun vs H Q => ∃ (a : Addr) (xs : List Str), vs = [V.ref a] ∧ SqL K H a (xs.map V.str) ∧ xs.length < 64 ∧
  ∀ (ys : List Str) (p : Addr), ys.Perm xs → sortedS ys = true → H p = none → Q (.ref p) (upd H p (.lst (ys.map V.str)))
theorem small64 {n : Nat} (h : n < 64) : n ≤ sizeLine := by rw [sizeLine_eq]; omega
theorem cr_sortedS : CallR X (.builtin "sorted") (rSortedS X.K) := by
  intro pins s σ H vs us Q I r h
  obtain ⟨a, xs, rfl, hs, h64, q⟩ := h
  obtain ⟨its, rv, hl, _⟩ := I.list hs
  rw [Vals.ref1 r]
  have hlen0 := rv.length
  rw [List.length_map] at hlen0
  refine PyProof.Rows.sorted_strs hl.isList rv.strs (by rw [← hlen0]; exact h64) fun out ys h1 h2 h3 => ?_
  obtain ⟨ep, he'⟩ := PyProof.Rows.sortedAll_at s.heap its out
  have hlen : (ys.map V.str).length ≤ sizeLine := by rw [List.length_map, h2.length_eq]; exact small64 h64
  exact ⟨.ref _, upd H (s.heap.objs.size + 1) (.lst (ys.map V.str)), I.laid (t' := s.toks) (fun _ _ => PyProof.Rows.sortedAll_old) (Nat.le_succ _) ⟨hlen, out.toList, ep, vals_of_strs h1, he'⟩, rfl, q ys _ h2 h3 (I.hok.fresh (Nat.le_succ _))⟩
end
section
variable {X : Cx}
end
section
variable {X : Cx}
end
section
variable {X : Cx}
end
mutual
inductive Dp (K : PySem.W.Frag) (H : Hp) : V → PyData → Prop
  | non : Dp K H .non .none
  | bl (b : Bool) : Dp K H (.bl b) (.bool b)
  | int (i : Int) : Dp K H (.int i) (.int i)
  | str (x : Str) : Dp K H (.str x) (.str x)
  | lst {a : Addr} {xs : List V} {ds : List PyData} : SqL K H a xs → DpAll K H xs ds → Dp K H (.ref a) (.list ds)
  | tup {a : Addr} {xs : List V} {ds : List PyData} : SqT K H a xs → DpAll K H xs ds → Dp K H (.ref a) (.tuple ds)
inductive DpAll (K : PySem.W.Frag) (H : Hp) : List V → List PyData → Prop
  | nil : DpAll K H [] []
  | cons {v : V} {vs : List V} {d : PyData} {ds : List PyData} : Dp K H v d → DpAll K H vs ds → DpAll K H (v :: vs) (d :: ds)
end
section
variable {X : Cx} {pins : List (Addr × Obj)} {σ : St} {H : Hp} {s : Shared}
mutual
theorem Dp.reads (I : Inv X pins σ H s) : ∀ (d : PyData) (v : V) (u : Value), Dp X.K H v d → RelV v u → ∃ as, Reads s.heap u d as
  | .none, _, _, h, r => by
    cases h
    cases r
    exact ⟨_, Reads.none⟩
  | .bool b, _, _, h, r => by
    cases h
    cases r
    exact ⟨_, Reads.bool b⟩
  | .int i, _, _, h, r => by
    cases h
    obtain ⟨t, rfl⟩ := r
    exact ⟨_, Reads.int i t⟩
  | .str x, _, _, h, r => by
    cases h
    obtain ⟨t, rfl⟩ := r
    exact ⟨_, Reads.str x t⟩
  | .list ds, _, _, h, r => by
    cases h with
    | lst hs ha =>
      cases r
      obtain ⟨its, rv, ⟨o, n, ho, hc, _, hd⟩, _⟩ := I.list hs
      obtain ⟨as, hr⟩ := Dp.readsAll I ds _ its ha rv
      exact ⟨_, Reads.list ho hc hd hr⟩
  | .tuple ds, _, _, h, r => by
    cases h with
    | tup hs ha =>
      cases r
      obtain ⟨its, rv, ⟨o, ho, hc, n, hd⟩, _⟩ := I.tuple hs
      obtain ⟨as, hr⟩ := Dp.readsAll I ds _ its ha rv
      exact ⟨_, Reads.tuple ho hc hd hr⟩
  | .dict _, _, _, h, _ => by cases h
theorem Dp.readsAll (I : Inv X pins σ H s) : ∀ (ds : List PyData) (vs : List V) (us : List Value), DpAll X.K H vs ds → Vals vs us → ∃ as, ReadsAll s.heap us ds as
  | [], _, _, h, r => by
    cases h
    cases r
    exact ⟨_, ReadsAll.nil⟩
  | d :: ds, _, _, h, r => by
    cases h with
    | cons h1 h2 =>
      cases r with
      | cons r1 r2 =>
        obtain ⟨as, q1⟩ := Dp.reads I d _ _ h1 r1
        obtain ⟨bs, q2⟩ := Dp.readsAll I ds _ _ h2 r2
        exact ⟨_, ReadsAll.cons q1 q2⟩
end
end
section
variable {X : Cx}
def rEqD (K : PySem.W.Frag) : R2 := fun x y H Q => ∃ d e, Dp K H x d ∧ Dp K H y e ∧ SeqAt.shaped d = true ∧ SeqAt.shaped e = true ∧ Q (.bl (PyData.eqv d e)) H
def rNeD (K : PySem.W.Frag) : R2 := fun x y H Q => ∃ d e, Dp K H x d ∧ Dp K H y e ∧ SeqAt.shaped d = true ∧ SeqAt.shaped e = true ∧ Q (.bl (!PyData.eqv d e)) H
theorem op_eqD (hu : X.A.units + 64 < cLine) : OpR X (compareOp .Eq) (rEqD X.K) := by
  intro pins s σ H x y v u Q I rx ry h
  obtain ⟨d, e, hd, he, sd, se, q⟩ := h
  obtain ⟨as, r1⟩ := Dp.reads I d x v hd rx
  obtain ⟨bs, r2⟩ := Dp.reads I e y u he ry
  exact SeqAt.compareEq_shaped r1 r2 sd se hu ⟨.bl _, H, I, rfl, q⟩
theorem op_neD (hu : X.A.units + 64 < cLine) : OpR X (compareOp .NotEq) (rNeD X.K) := by
  intro pins s σ H x y v u Q I rx ry h
  obtain ⟨d, e, hd, he, sd, se, q⟩ := h
  obtain ⟨as, r1⟩ := Dp.reads I d x v hd rx
  obtain ⟨bs, r2⟩ := Dp.reads I e y u he ry
  exact SeqAt.compareNe_shaped r1 r2 sd se hu ⟨.bl _, H, I, rfl, q⟩
end
end L2
namespace L2
open PySem PySem.Spec PyProof.Rows
abbrev CellAt (h : Heap) (c : Addr) (v : Option Value) : Prop := h.IsCell c v
def relS (scope sc : Scope) : Scope :=
  { scope with names := scope.names.map fun (n, k) => if (k == .free && sc.kind == .function && sc.names.lookup n == some .cell) then (n, .cell) else (n, k) }
def cloFrom (cells : List (Str × Addr)) : List (Str × NameKind) → List (Str × Addr) → List (Str × Addr)
  | [], acc => acc
  | (n, k) :: r, acc => if k == .free then cloFrom cells r ((n, (cells.lookup n).getD 0) :: acc) else cloFrom cells r acc
theorem closure_loop (env : Env) (f : Str × NameKind → List (Str × Addr) → Sem (ForInStep (List (Str × Addr))))
    (hf : ∀ n k c, f (n, k) c = if k == .free then (do let a ← cellOf env n; pure (.yield ((n, a) :: c))) else pure (.yield c)) :
    ∀ (names : List (Str × NameKind)) (acc : List (Str × Addr)), (∀ y ∈ names, y.2 = .free → ∃ c, env.cells.lookup y.1 = some c) → forIn names acc f = pure (cloFrom env.cells names acc)
  | [], acc, _ => by rw [List.forIn_nil]; rfl
  | (n, k) :: r, acc, h => by
    rw [List.forIn_cons, hf]
    have ih := fun acc => closure_loop env f hf r acc fun y hy => h y (List.mem_cons_of_mem _ hy)
    unfold cloFrom
    by_cases hk : (k == NameKind.free) = true
    · rw [if_pos hk, if_pos hk]
      obtain ⟨c, hc⟩ := h (n, k) List.mem_cons_self (by simpa using hk)
      have e : cellOf env n = pure c := by unfold cellOf; rw [hc]
      rw [e]
      have e2 : (env.cells.lookup n).getD 0 = c := by rw [hc]; rfl
      rw [e2]
      exact ih _
    · rw [if_neg hk, if_neg hk]
      exact ih _
theorem closure_ok {scope : Scope} {env : Env} (h : ∀ y ∈ scope.names, y.2 = .free → ∃ c, env.cells.lookup y.1 = some c) : closureFor scope env = pure (cloFrom env.cells scope.names []) := by
  simp only [closureFor]
  rw [closure_loop env _ (fun n k c => rfl) scope.names [] h]
  rfl
theorem mem_lookup {α : Type} : ∀ {l : List (Str × α)} {n : Str} {c : α}, (n, c) ∈ l → ∃ c', l.lookup n = some c'
  | (k, v) :: r, n, c, h => by
    rw [List.lookup_cons]
    cases hb : n == k with
    | true => exact ⟨_, rfl⟩
    | false =>
      rcases List.mem_cons.mp h with e | h
      · cases e; simp at hb
      · exact mem_lookup h
theorem cloFrom_mem {cells : List (Str × Addr)} : ∀ {names : List (Str × NameKind)} {acc : List (Str × Addr)} {n : Str} {c : Addr}, (n, c) ∈ cloFrom cells names acc → (n, c) ∈ acc ∨ ((n, .free) ∈ names ∧ c = (cells.lookup n).getD 0)
  | [], _, _, _, h => .inl h
  | (m, k) :: r, acc, n, c, h => by
    unfold cloFrom at h
    split at h
    · rename_i hk
      have hk : k = .free := by simpa using hk
      rcases cloFrom_mem h with h | ⟨h1, h2⟩
      · rcases List.mem_cons.mp h with e | h
        · cases e; exact .inr ⟨hk ▸ List.mem_cons_self, rfl⟩
        · exact .inl h
      · exact .inr ⟨List.mem_cons_of_mem _ h1, h2⟩
    · rcases cloFrom_mem h with h | ⟨h1, h2⟩
      · exact .inl h
      · exact .inr ⟨List.mem_cons_of_mem _ h1, h2⟩
theorem cloFrom_acc {cells : List (Str × Addr)} : ∀ {names : List (Str × NameKind)} {acc : List (Str × Addr)} {p : Str × Addr}, p ∈ acc → p ∈ cloFrom cells names acc
  | [], _, _, h => h
  | (m, k) :: r, acc, p, h => by
    unfold cloFrom
    split
    · exact cloFrom_acc (List.mem_cons_of_mem _ h)
    · exact cloFrom_acc h
theorem cloFrom_has {cells : List (Str × Addr)} : ∀ {names : List (Str × NameKind)} {acc : List (Str × Addr)} {n : Str}, (n, .free) ∈ names → (n, (cells.lookup n).getD 0) ∈ cloFrom cells names acc
  | (m, k) :: r, acc, n, h => by
    unfold cloFrom
    rcases List.mem_cons.mp h with e | h
    · cases e
      exact cloFrom_acc List.mem_cons_self
    · split
      · exact cloFrom_has h
      · exact cloFrom_has h
theorem cells_mem : ∀ {names : List (Str × NameKind)} {h : Heap} {acc : List (Str × Addr)} {x : Str} {c : Addr}, (x, c) ∈ cellsFrom h.objs.size names acc →
    (x, c) ∈ acc ∨ ((x, .cell) ∈ names ∧ h.objs.size ≤ c ∧ CellAt (pushCells h names) c none)
  | [], _, _, _, _, h => .inl h
  | (n, k) :: r, h, acc, x, c, hm => by
    unfold cellsFrom at hm
    unfold pushCells
    split at hm
    · rename_i hk
      rw [if_pos hk]
      have hk : k = .cell := by simpa using hk
      rw [← Heap.size_push h { cls := .type "cell", data := .cell none }] at hm
      rcases cells_mem hm with hm | ⟨h1, h2, h3⟩
      · rcases List.mem_cons.mp hm with e | hm
        · cases e
          exact .inr ⟨hk ▸ List.mem_cons_self, Nat.le_refl _, _, pushCells_keeps r _ _ _ (Heap.get?_push_size _ rfl), rfl⟩
        · exact .inl hm
      · rw [Heap.size_push] at h2
        exact .inr ⟨List.mem_cons_of_mem _ h1, Nat.le_of_succ_le h2, h3⟩
    · rename_i hk
      rw [if_neg hk]
      rcases cells_mem hm with hm | ⟨h1, h2, h3⟩
      · exact .inl hm
      · exact .inr ⟨List.mem_cons_of_mem _ h1, h2, h3⟩
theorem cells_acc : ∀ {names : List (Str × NameKind)} {n : Nat} {acc : List (Str × Addr)} {p : Str × Addr}, p ∈ acc → p ∈ cellsFrom n names acc
  | [], _, _, _, h => h
  | (m, k) :: r, n, acc, p, h => by
    unfold cellsFrom
    split
    · exact cells_acc (List.mem_cons_of_mem _ h)
    · exact cells_acc h
theorem cells_has : ∀ {names : List (Str × NameKind)} {n : Nat} {acc : List (Str × Addr)} {x : Str}, (x, .cell) ∈ names → ∃ c, (x, c) ∈ cellsFrom n names acc
  | (m, k) :: r, n, acc, x, h => by
    unfold cellsFrom
    rcases List.mem_cons.mp h with e | h
    · cases e
      exact ⟨n, cells_acc List.mem_cons_self⟩
    · split
      · exact cells_has h
      · exact cells_has h
theorem cells_inj : ∀ {names : List (Str × NameKind)} {h : Heap} {acc : List (Str × Addr)} {x y : Str} {c : Addr}, (∀ p ∈ acc, p.2 < h.objs.size) → (∀ x y c, (x, c) ∈ acc → (y, c) ∈ acc → x = y) →
    (x, c) ∈ cellsFrom h.objs.size names acc → (y, c) ∈ cellsFrom h.objs.size names acc → x = y
  | [], _, _, _, _, _, _, hi, h1, h2 => hi _ _ _ h1 h2
  | (n, k) :: r, h, acc, x, y, c, hl, hi, h1, h2 => by
    unfold cellsFrom at h1 h2
    split at h1
    · rename_i hk
      rw [if_pos hk] at h2
      rw [← Heap.size_push h { cls := .type "cell", data := .cell none }] at h1 h2
      refine cells_inj (h := h.push _) (fun p hp => ?_) (fun x y c a b => ?_) h1 h2
      · rw [Heap.size_push]
        rcases List.mem_cons.mp hp with rfl | hp
        · exact Nat.lt_succ_self _
        · exact Nat.lt_succ_of_lt (hl p hp)
      · rcases List.mem_cons.mp a with e | a <;> rcases List.mem_cons.mp b with e' | b
        · cases e; cases e'; rfl
        · cases e; exact absurd (hl _ b) (Nat.lt_irrefl _)
        · cases e'; exact absurd (hl _ a) (Nat.lt_irrefl _)
        · exact hi _ _ _ a b
    · rename_i hk
      rw [if_neg hk] at h2
      exact cells_inj hl hi h1 h2
theorem newEnv_comp {M : Model} {A : Around} {E : Value → Shared → Prop} {s : Shared} {scope : Scope} {globals : Addr} {closure : List (Str × Addr)} {qual : Str} {func : Option Addr} {code : Value} {around : Env} {builtins : Addr} {Q : Env → Shared → Prop}
    (h : Q (newEnv scope s.heap.objs.size globals (cellsFrom (s.heap.objs.size + 1) scope.names closure) qual func code (some around) builtins)
      { s with heap := pushCells (s.heap.push { cls := .type "dict", data := .dict #[] }) scope.names }) :
    wpAny M A (newFunctionEnv scope globals closure [] qual func code (some around) builtins) Q E s := by
  simp only [newFunctionEnv, Option.isSome_some, if_true]
  refine wpAny_bind (wpAny_alloc ?_)
  refine wpAny_bind (wpAny_layCells _ (fun n k c => rfl) scope.names closure _ _ ?_)
  rw [show ({ s with heap := s.heap.push { cls := .type "dict", data := .dict #[] } } : Shared).heap.objs.size = s.heap.objs.size + 1 from Heap.size_push ..]
  rw [List.forIn_nil]
  exact wpAny_bind (wpAny_pure (wpAny_pure h))
/-- every name of the written scope, in the scope that runs -/
theorem lookup_relS {sc : Scope} : ∀ {names : List (Str × NameKind)} {x : Str} {k : NameKind},
    (names.map fun (n, k) => if (k == NameKind.free && sc.kind == .function && sc.names.lookup n == some .cell) then (n, NameKind.cell) else (n, k)).lookup x = some k →
    ∃ k', names.lookup x = some k' ∧ (k = k' ∨ (k' = .free ∧ k = .cell))
  | [], _, _, h => by simp at h
  | (n, k₀) :: r, x, k, h => by
    have ih := @lookup_relS sc r x k
    have h' : List.lookup x ((if (k₀ == NameKind.free && sc.kind == .function && sc.names.lookup n == some .cell) = true then (n, NameKind.cell) else (n, k₀)) :: (r.map _)) = some k := h
    cases hx : x == n with
    | true =>
      simp only [List.lookup_cons, hx]
      by_cases hc : (k₀ == NameKind.free && sc.kind == .function && sc.names.lookup n == some .cell) = true
      · rw [if_pos hc] at h'
        simp only [List.lookup_cons, hx] at h'
        cases h'
        simp only [Bool.and_eq_true, beq_iff_eq] at hc
        exact ⟨k₀, rfl, .inr ⟨hc.1.1, rfl⟩⟩
      · rw [if_neg hc] at h'
        simp only [List.lookup_cons, hx] at h'
        cases h'
        exact ⟨_, rfl, .inl rfl⟩
    | false =>
      simp only [List.lookup_cons, hx]
      by_cases hc : (k₀ == NameKind.free && sc.kind == .function && sc.names.lookup n == some .cell) = true
      · rw [if_pos hc] at h'
        simp only [List.lookup_cons, hx] at h'
        exact ih h'
      · rw [if_neg hc] at h'
        simp only [List.lookup_cons, hx] at h'
        exact ih h'
/-- the names of a comprehension's block: its own (with their places in N), or captured -/
structure BlkOk (N : List Str) (sc scope : Scope) (own : List (Str × Nat)) : Prop where
  kind : scope.kind = .function
  uniq : ∀ y ∈ scope.names, scope.names.lookup y.1 = some y.2
  ix : ∀ p ∈ own, N[p.2]? = some p.1
  free : ∀ y ∈ scope.names, y.2 = .free → sc.names.lookup y.1 = some .cell ∨ sc.names.lookup y.1 = some .free
  own : ∀ y ∈ scope.names, y.2 = .local ∨ y.2 = .cell → y.1 ∈ own.map (·.1) ∨ y.1 ∉ N
/-- the slots of the block's own names forgotten -/
def wipe (σ : St) : List Nat → St
  | [] => σ
  | v :: vs => (wipe σ vs).set v none
theorem wipe_length (σ : St) : ∀ vs : List Nat, (wipe σ vs).length = σ.length
  | [] => rfl
  | v :: vs => by unfold wipe; rw [List.length_set, wipe_length σ vs]
theorem wipe_some {σ : St} {i : Nat} {x : V} : ∀ {vs : List Nat}, (wipe σ vs)[i]? = some (some x) → σ[i]? = some (some x) ∧ i ∉ vs
  | [], h => ⟨h, by simp⟩
  | v :: vs, h => by
    unfold wipe at h
    by_cases hi : v = i
    · subst hi
      by_cases hv : v < (wipe σ vs).length
      · rw [List.getElem?_set_self hv] at h; cases h
      · rw [List.getElem?_eq_none (by simpa using hv)] at h; cases h
    · rw [List.getElem?_set_ne hi] at h
      obtain ⟨h1, h2⟩ := wipe_some h
      exact ⟨h1, by simp only [List.mem_cons, not_or]; exact ⟨fun e => hi e.symm, h2⟩⟩
/-- the context of a block that starts at s, its iterator's objects at fp -/
abbrev Cx.blk (X : Cx) (s : Shared) (H : Hp) (scope : Scope) (cenv : Env) (fp : List Addr) : Cx := { X with s_0 := s, H_0 := H, env := cenv, outer := X.stack, ex := fp, fn := fun x => scope.names.lookup x == some .cell, pn := [], xe := fun _ _ => False }
section
variable {X : Cx} {pins : List (Addr × Obj)} {σ : St} {H : Hp} {s : Shared}
theorem block_start {scope : Scope} {own : List (Str × Nat)} {fp : List Addr} (I : Inv X pins σ H s) (ok : BlkOk X.N X.env.scope scope own) (hN : X.N.Nodup) (hfp : ∀ b ∈ fp, FpOk X pins H b ∧ b < s.heap.objs.size) :
    Inv (X.blk s H scope (compEnvC scope (cellsFrom (s.heap.objs.size + 1) scope.names (cloFrom X.env.cells scope.names [])) s.heap.objs.size X.env) fp) [] (wipe σ (own.map (·.2))) H { s with heap := pushCells (s.heap.push { cls := .type "dict", data := .dict #[] }) scope.names } := by
  have hfree : ∀ y ∈ scope.names, y.2 = .free → ∃ c, X.env.cells.lookup y.1 = some c := fun y hy e => by
    rcases ok.free y hy e with k | k
    · exact I.ok.has _ (.inl k)
    · exact I.ok.has _ (.inr k)
  generalize hcenv : compEnvC scope (cellsFrom (s.heap.objs.size + 1) scope.names (cloFrom X.env.cells scope.names [])) s.heap.objs.size X.env = cenv
  have kp : ∀ b o, s.heap.get? b = some o → (pushCells (s.heap.push { cls := .type "dict", data := .dict #[] }) scope.names).get? b = some o := fun b o e => pushCells_keeps _ _ _ _ (Heap.get?_push_of_some _ e)
  have hL : cenv.locals = s.heap.objs.size := by rw [← hcenv]; rfl
  have hcl : cenv.cells = cellsFrom (s.heap.objs.size + 1) scope.names (cloFrom X.env.cells scope.names []) := by rw [← hcenv]; rfl
  have hsc : cenv.scope = relS scope X.env.scope := by rw [← hcenv]; rfl
  rw [← Heap.size_push s.heap { cls := .type "dict", data := .dict #[] }] at hcl
  have cm : ∀ {y c}, (y, c) ∈ cloFrom X.env.cells scope.names [] → X.env.cells.lookup y = some c ∧ c < s.heap.objs.size := fun {y c} hm => by
    rcases cloFrom_mem hm with hm | ⟨h1, rfl⟩
    · cases hm
    · obtain ⟨c, hc⟩ := hfree _ h1 rfl
      rw [hc]
      obtain ⟨w, z⟩ := I.cell _ _ hc
      exact ⟨rfl, z.lt⟩
  have mem : ∀ {y c}, cenv.cells.lookup y = some c → (X.env.cells.lookup y = some c ∧ c < s.heap.objs.size) ∨ (s.heap.objs.size + 1 ≤ c ∧ CellAt (pushCells (s.heap.push { cls := .type "dict", data := .dict #[] }) scope.names) c none) := fun {y c} e => by
    rw [hcl] at e
    rcases cells_mem (PySem.mem_of_lookup e) with hm | ⟨_, h2, h3⟩
    · exact .inl (cm hm)
    · rw [Heap.size_push] at h2; exact .inr ⟨h2, h3⟩
  have look : ∀ {y}, scope.names.lookup y = some .free → ∃ c, cenv.cells.lookup y = some c ∧ X.env.cells.lookup y = some c := fun {y} hl => by
    have hy : (y, NameKind.free) ∈ scope.names := PySem.mem_of_lookup hl
    obtain ⟨c', e'⟩ := mem_lookup (cells_acc (names := scope.names) (n := (s.heap.push { cls := .type "dict", data := .dict #[] }).objs.size) (cloFrom_has (cells := X.env.cells) (acc := []) hy))
    rw [← hcl] at e'
    refine ⟨c', e', ?_⟩
    rw [hcl] at e'
    rcases cells_mem (PySem.mem_of_lookup e') with hm | ⟨h1, _, _⟩
    · exact (cm hm).1
    · have := ok.uniq _ h1
      rw [hl] at this; cases this
  have okB : (X.blk s H scope cenv fp).Ok := by
    refine ⟨I.ok.mod, by show cenv.scope.kind = _; rw [hsc]; exact ok.kind, by show cenv.globals = _; rw [← hcenv]; exact I.ok.glob, by show cenv.builtins = _; rw [← hcenv]; exact I.ok.blt, by show s.heap.objs.size ≤ cenv.locals; rw [hL]; exact Nat.le_refl _,
      fun y z c e1 e2 => ?_, fun y hy => ?_, fun y c z e => ?_, I.ok.hd, I.ok.frames, .inl rfl, fun b hb => ⟨?_, fun y c e z => ?_⟩, I.bs, Nat.le_trans I.ok.bsz I.sz, fun b o e hb => ?_, fun b hb z => ?_, I.stack, I.stkFree⟩
    · have e1 : cenv.cells.lookup y = some c := e1
      have e2 : cenv.cells.lookup z = some c := e2
      rw [hcl] at e1 e2
      refine cells_inj (fun p hp => ?_) (fun y z c a b => I.ok.inj y z c (cm a).1 (cm b).1) (PySem.mem_of_lookup e1) (PySem.mem_of_lookup e2)
      rw [Heap.size_push]
      exact Nat.lt_succ_of_lt (cm (y := p.1) (c := p.2) hp).2
    · show ∃ c, cenv.cells.lookup y = some c
      have key : ∀ k, cenv.kindOf y = some k → (k = .cell ∨ k = .free) → ∃ c, cenv.cells.lookup y = some c := fun k hk hk' => by
        unfold Env.kindOf at hk
        rw [hsc] at hk
        obtain ⟨k', e, r⟩ := lookup_relS hk
        have : k' = .cell ∨ k' = .free := by
          rcases r with rfl | ⟨rfl, _⟩
          · exact hk'
          · exact .inr rfl
        rcases this with rfl | rfl
        · obtain ⟨c, hm⟩ := cells_has (n := (s.heap.push { cls := .type "dict", data := .dict #[] }).objs.size) (acc := cloFrom X.env.cells scope.names []) (PySem.mem_of_lookup e)
          obtain ⟨c', e'⟩ := mem_lookup hm
          exact ⟨c', by rw [hcl]; exact e'⟩
        · obtain ⟨c, h1, _⟩ := look e
          exact ⟨c, h1⟩
      rcases hy with hy | hy
      · exact key _ hy (.inl rfl)
      · exact key _ hy (.inr rfl)
    · have z : (scope.names.lookup y == some NameKind.cell) = true := z
      have z : scope.names.lookup y = some .cell := by simpa using z
      have e : cenv.cells.lookup y = some c := e
      rw [hcl] at e
      rcases cells_mem (PySem.mem_of_lookup e) with hm | ⟨_, h2, _⟩
      · rcases cloFrom_mem hm with hm | ⟨h1, _⟩
        · cases hm
        · have q := ok.uniq _ h1
          rw [z] at q; cases q
      · rw [Heap.size_push] at h2
        exact Nat.le_of_succ_le h2
    · show b ≠ cenv.locals
      rw [hL]; exact Nat.ne_of_lt (hfp b hb).2
    · have e : cenv.cells.lookup y = some c := e
      rcases mem e with ⟨h1, _⟩ | ⟨h1, _⟩
      · exact (hfp b hb).1.2.2.2.2.1 y c h1 z
      · have h2 : s.heap.objs.size + 1 ≤ b := by rw [← z]; exact h1
        exact absurd (Nat.lt_of_lt_of_le (hfp b hb).2 (Nat.le_of_succ_le h2)) (Nat.lt_irrefl _)
    · rcases (hfp b hb).1.2.2.2.1 with z | z
      · exact I.ok.noex b o e z
      · exact absurd (Nat.lt_of_lt_of_le (Heap.lt_size e) (Nat.le_trans I.ok.bsz z)) (Nat.lt_irrefl _)
    · rcases List.mem_cons.mp (I.stkSub b z) with z | z
      · exact (hfp b hb).1.2.1 z
      · exact (hfp b hb).1.2.2.1 z
  refine ⟨okB, rfl, I.bare, Un.kept kp, ⟨fun _ => none, ?_, fun i y av e1 e2 e3 => ?_⟩, fun y c e => ?_, ?_, fun y c e => ?_, fun p hp => ?_, I.hok.kept kp, by rw [wipe_length]; exact I.len⟩
  · show Heap.Ns _ cenv.locals _
    rw [hL]
    exact Heap.Ns.keeps (Heap.Ns.new ..) fun b o e => pushCells_keeps _ _ _ _ e
  · obtain ⟨e2, hne⟩ := wipe_some e2
    have hfr : scope.names.lookup y = some .free ∧ (cenv.kindOf y = some .cell ∨ cenv.kindOf y = some .free) := by
      have key : ∀ k, cenv.scope.names.lookup y = some k → k = .local ∨ k = .cell ∨ k = .free → scope.names.lookup y = some .free ∧ (cenv.kindOf y = some .cell ∨ cenv.kindOf y = some .free) := fun k hk hk' => by
        have hk0 := hk
        rw [hsc] at hk
        obtain ⟨k', e, r⟩ := lookup_relS hk
        have no : ¬ (k' = .local ∨ k' = .cell) := fun hh => by
          rcases ok.own _ (PySem.mem_of_lookup e) hh with e' | e'
          · obtain ⟨p, hp, hpy⟩ := List.mem_map.mp e'
            have e3 := ok.ix p hp
            have : p.1 = y := hpy
            rw [this] at e3
            exact hne (List.mem_map.mpr ⟨p, hp, nodup_ix hN e3 e1⟩)
          · exact e' (List.mem_of_getElem? e1)
        rcases r with rfl | ⟨rfl, rfl⟩
        · rcases hk' with rfl | rfl | rfl
          · exact absurd (.inl rfl) no
          · exact absurd (.inr rfl) no
          · exact ⟨e, .inr hk0⟩
        · exact ⟨e, .inl hk0⟩
      have e3 : Vis cenv.scope y := e3
      rcases e3 with e3 | e3 | e3
      · exact key _ e3 (.inl rfl)
      · exact key _ e3 (.inr (.inl rfl))
      · exact key _ e3 (.inr (.inr rfl))
    obtain ⟨m, hn, hl⟩ := I.loc
    have hvis : Vis X.env.scope y := (ok.free _ (PySem.mem_of_lookup hfr.1) rfl).elim (fun k => .inr (.inl k)) (fun k => .inr (.inr k))
    obtain ⟨w, r, q⟩ := hl i y av e1 e2 hvis
    refine ⟨w, r, .inr ⟨hfr.2, ?_⟩⟩
    obtain ⟨c, h1, h2⟩ := look hfr.1
    rcases q with ⟨k, _⟩ | ⟨_, c', e', z⟩
    · have k : X.env.scope.names.lookup y = some .local := k
      rcases ok.free _ (PySem.mem_of_lookup hfr.1) rfl with k' | k' <;> rw [show X.env.scope.names.lookup y = _ from k'] at k <;> cases k
    · rw [h2] at e'; cases e'
      exact ⟨c, h1, z.keeps kp⟩
  · have e : cenv.cells.lookup y = some c := e
    rcases mem e with ⟨h1, _⟩ | ⟨_, z⟩
    · obtain ⟨w, z⟩ := I.cell y c h1
      exact ⟨w, z.keeps kp⟩
    · exact ⟨_, z⟩
  · show H cenv.locals = none
    rw [hL]; exact I.hok.fresh (Nat.le_refl _)
  · have e : cenv.cells.lookup y = some c := e
    rcases mem e with ⟨h1, _⟩ | ⟨h1, _⟩
    · exact I.freeC y c h1
    · exact I.hok.fresh (Nat.le_of_succ_le h1)
  · exact absurd (show p ∈ ([] : List (Addr × Obj)) ++ [] from hp) (by simp)
/-- an item appended to a tracked list -/
theorem app_ok {E : Value → Shared → Prop} {D : Addr} {xs : List V} {y : V} {v : Value} {Q : Value → Shared → Prop} (I : Inv X pins σ H s) (hD : H D = some (.lst xs)) (hz : xs.length < sizeLine) (r : RelV y v)
    (h : ∀ s', Inv X pins σ (upd H D (.lst (xs ++ [y]))) s' → Q .none s') : wpAny (model X.prog X.w) X.A (call (.builtin "list.append") [.ref D, v]) Q E s := by
  obtain ⟨hz', its, n, ri, e⟩ := I.hok D _ hD
  have hl := ri.length
  refine append_at (hsz := by rw [List.size_toArray]; omega) e fun h' sb ho' => ?_
  refine h { s with heap := h' } (I.write (t' := s.toks) (by rw [hD]; trivial) (.inl rfl) (fun b u hb q => (sb.2 b hb).trans q) ⟨_, ho'⟩ ⟨by rw [List.length_append]; exact hz, its ++ [v], n + 1, ri.append (.cons r .nil), ?_⟩)
  rw [ho']
  simp
/-- a clause's tests -/
def PTs (X : Cx) (ifs : List Expr) (t : TT) : Prop :=
  ∀ (pins : List (Addr × Obj)) (s : Shared) (σ : St) (H : Hp) (Q : Bool → Hp → Prop), Inv X pins σ H s → t σ H Q →
    wpAny (model X.prog X.w) X.A (forIn ifs true fun c r => if r = true then do let ok ← isTrue c X.env (eval c X.env); pure (ForInStep.yield ok) else pure (ForInStep.yield r)) (TP X pins σ Q) X.xe s
def tYes : TT := fun _ H Q => Q true H
theorem pts_nil : PTs X [] tYes := fun _ _ _ H _ I h => wpAny_tests_nil ⟨H, I, h⟩
theorem pts_one {c : Expr} {t : TT} (h : PT X c t) : PTs X [c] t := fun pins s σ H Q I hw => wpAny_tests_one (h pins s σ H Q I hw)
end
theorem thnF {α : Type} {t : Sem α} {Q Q' : α → Shared → Prop} {M : Model} {A : Around} {E : Value → Shared → Prop} {s : Shared} (h : wpAny M A t Q (fun _ _ => False) s) (hQ : ∀ a s, Q a s → Q' a s) : wpAny M A t Q' E s := wpAny_mono h hQ fun _ _ z => False.elim z
/-- the loop of a list comprehension's block, the target of any form (codeAny_compLoop_tests asks a target that no tuple goes to; statement and proof follow it, PyProof/CompMap.lean:41-61, with the step letOwnedTupleGo kept) -/
theorem compLoop_any {prog : Program} {w : World} {A : Around} {R : Result → Shared → Prop} {s : Shared} {elt target iter : Expr} {ifs : List Expr} {scope : Scope} {pos : Pos} {it acc : Value} {env : Env} (I : Nat → Shared → Prop)
    (turn : ∀ n s, I n s → wpAny (model prog w) A (pyNext it) (fun r s₁ => match r with
      | none => R (.ok .next) s₁
      | some v => wpAny (model prog w) A (letOwnedTupleGo target it v) (fun _ s₁' => wpAny (model prog w) A (assign target env v) (fun _ s₂ =>
          wpAny (model prog w) A (forIn ifs true fun c r => if r = true then do let ok ← isTrue c env (eval c env); pure (ForInStep.yield ok) else pure (ForInStep.yield r)) (fun ok s₃ =>
            if ok = true then wpAny (model prog w) A (eval elt env) (fun x s₄ =>
              wpAny (model prog w) A (call (.builtin "list.append") [acc, x]) (fun _ s₅ => ∃ m, m < n ∧ I m s₅) (notedBy (model prog w) A env fun e s' => R (.error e) s') s₄) (notedBy (model prog w) A env fun e s' => R (.error e) s') s₃
            else ∃ m, m < n ∧ I m s₃) (notedBy (model prog w) A env fun e s' => R (.error e) s') s₂) (notedBy (model prog w) A env fun e s' => R (.error e) s') s₁') (notedBy (model prog w) A env fun e s' => R (.error e) s') s₁) (notedBy (model prog w) A env fun e s' => R (.error e) s') s)
    (n : Nat) (h : I n s) :
    codeAny (model prog w) A (.compLoop (.ListComp elt [⟨target, iter, ifs, 0⟩] scope pos) 0 it acc env) R s := by
  refine codeAny_loop rfl I (fun n s hI => ?_) n h
  show wpAny _ A ((compTurn (.ListComp elt [⟨target, iter, ifs, 0⟩] scope pos) 0 it acc env).onRaise (fun x => do noteFrame x env; theTreesLotGoes x)) _ _ s
  refine wpAny_noted ?_
  rw [compTurn_list]
  refine wpAny_bind (wpAny_standAt (wpAny_bind (wpAny_mono (turn n s hI) (fun r s₁ h₁ => ?_) fun _ _ h' => h')))
  cases r with
  | none => exact wpAny_pure h₁
  | some v =>
    refine wpAny_bind (wpAny_mono h₁ (fun _ s₁' h₁' => ?_) fun _ _ h' => h')
    refine wpAny_bind (wpAny_mono h₁' (fun _ s₂ h₂ => wpAny_bind (wpAny_mono h₂ (fun ok s₃ h₃ => ?_) fun _ _ h' => h')) fun _ _ h' => h')
    cases ok with
    | false => exact wpAny_pure ⟨rfl, h₃⟩
    | true =>
      exact wpAny_bind (wpAny_bind (wpAny_mono h₃ (fun x s₄ h₄ => wpAny_bind (wpAny_mono h₄ (fun _ s₅ h₅ => wpAny_pure (wpAny_pure ⟨rfl, h₅⟩)) fun _ _ h' => h')) fun _ _ h' => h'))
section
variable {X : Cx}
/-- [elt for target in iter if ..]: D the new list; W by the turn and a measure, Nx what a turn is to reach -/
def tLc (wi : TI) (g : TG) (tt : TT) (te : TE) (vs : List Nat) : TE := fun σ H Q => wi σ H fun J H1 => ∀ D, H1 D = none → ∃ W : Nat → Nat → Hp → Prop, (∃ m, W 0 m (upd H1 D (.lst []))) ∧ ∀ i m H, W i m H →
  (J.stop i H ∧ Q (.ref D) H) ∨ (J.go i H ∧ ∃ Nx : Hp → Prop, (∀ H', Nx H' → ∃ m', m' < m ∧ W (i + 1) m' H') ∧ ∀ x H', J.yld i H x H' → g x (wipe σ vs) H' fun σ2 H2 => wipe σ2 vs = wipe σ vs ∧ tt σ2 H2 fun b H3 =>
    if b = true then te σ2 H3 fun y H4 => ∃ acc, H4 D = some (.lst acc) ∧ acc.length < sizeLine ∧ Nx (upd H4 D (.lst (acc ++ [y]))) else Nx H3)
theorem lc_core {pins : List (Addr × Obj)} {s : Shared} {σ : St} {H : Hp} {Q : VK} {elt tg iter : Expr} {ifs : List Expr} {scope : Scope} {own : List (Str × Nat)} {pos pos' : Pos} {wi : TI} {g : TG} {tt : TT} {te : TE} {use : Option (Value → Sem Unit)} {Qf : Value → Shared → Prop}
    (hc : X.calm = true) (hN : X.N.Nodup) (I : Inv X pins σ H s) (hi : PI X tg iter wi) (ok : BlkOk X.N X.env.scope scope own)
    (hg : ∀ (s : Shared) (H : Hp) (C : Addr) (cl : List (Str × Addr)) (fp : List Addr), PG (X.blk s H scope (compEnvC scope cl C X.env) fp) tg g) (ht : ∀ (s : Shared) (H : Hp) (C : Addr) (cl : List (Str × Addr)) (fp : List Addr), PTs (X.blk s H scope (compEnvC scope cl C X.env) fp) ifs tt)
    (he : ∀ (s : Shared) (H : Hp) (C : Addr) (cl : List (Str × Addr)) (fp : List Addr), PE (X.blk s H scope (compEnvC scope cl C X.env) fp) elt te) (hs : ∀ x, foldedSetIterable iter X.env x = pure x)
    (h : tLc wi g tt te (own.map (·.2)) σ H Q)
    (hRR : ∀ D C s' m H', Inv X pins σ H' s' → Q (.ref D) H' → s'.heap.Ns C m → FpOk X pins H' C → compPost (model X.prog X.w) X.A X.xe use Qf (.ref D) C (.ok .next) s') :
    wpAny (model X.prog X.w) X.A (comprehension (.ListComp elt [⟨tg, iter, ifs, 0⟩] scope pos) scope X.env pos' (newList []) false (eval iter X.env) use) Qf X.xe s := by
  have hfree : ∀ y ∈ scope.names, y.2 = .free → ∃ c, X.env.cells.lookup y.1 = some c := fun y hy e => by
    rcases ok.free y hy e with k | k
    · exact I.ok.has _ (.inl k)
    · exact I.ok.has _ (.inr k)
  refine wpAny_comprehension_free (use := use) rfl hs (closure_ok hfree) ok.kind (fun y hy e => by rw [ok.uniq y hy, e])
    (thn (hi pins s σ H _ I h) fun xv s1 hx => thn hx fun itv s2 h2 => ?_)
  obtain ⟨it, fp, tn, J, H2, e, I2, T, st2, f2, q⟩ := h2
  subst e
  refine wpAny_newObj_type (newEnv_comp ?_) (by show 0 ≤ sizeLine; decide)
  generalize hD : s2.heap.objs.size = D
  have hDn : H2 D = none := I2.hok.fresh (Nat.le_of_eq hD)
  obtain ⟨W, ⟨m0, w0⟩, turn⟩ := q D hDn
  -- the new list
  generalize hs3 : ({ s2 with heap := s2.heap.push { cls := .type "list", data := .seq ([] : List Value).toArray } } : Shared) = s3
  have I3 : Inv X pins σ (upd H2 D (.lst [])) s3 := by
    rw [← hs3]
    refine I2.laid (t' := s2.toks) (fun b o e => Heap.get?_push_of_some _ e) (Nat.le_of_eq hD) ⟨Nat.zero_le _, [], 0, .nil, ?_⟩
    rw [← hD]
    exact Heap.get?_push_size _ rfl
  have h3 : s3.heap = s2.heap.push { cls := .type "list", data := .seq ([] : List Value).toArray } := by rw [← hs3]
  have sz : ∀ b ∈ fp, b < s2.heap.objs.size := fun b hb => by
    obtain ⟨o, e, _⟩ := T.obj _ _ st2 b hb
    exact Heap.lt_size e
  have f3 : ∀ b ∈ fp, FpOk X pins (upd H2 D (.lst [])) b ∧ b < s3.heap.objs.size := fun b hb => by
    have hlt := sz b hb
    refine ⟨⟨?_, (f2 b hb).2⟩, by rw [h3, Heap.size_push]; exact Nat.lt_succ_of_lt hlt⟩
    rw [upd_ne (by rw [← hD]; exact Nat.ne_of_lt hlt)]
    exact (f2 b hb).1
  have st3 : tn 0 s3.heap := T.keep _ _ _ st2 fun b _ o e => by rw [h3]; exact Heap.get?_push_of_some _ e
  have I4 := block_start I3 ok hN f3
  have pg := hg s3 (upd H2 D (.lst [])) s3.heap.objs.size (cellsFrom (s3.heap.objs.size + 1) scope.names (cloFrom X.env.cells scope.names [])) fp
  have pt := ht s3 (upd H2 D (.lst [])) s3.heap.objs.size (cellsFrom (s3.heap.objs.size + 1) scope.names (cloFrom X.env.cells scope.names [])) fp
  have pe := he s3 (upd H2 D (.lst [])) s3.heap.objs.size (cellsFrom (s3.heap.objs.size + 1) scope.names (cloFrom X.env.cells scope.names [])) fp
  show codeAny _ _ (.compStart (.ListComp elt [⟨tg, iter, ifs, 0⟩] scope pos) 0 (.ref it) (.ref D) (compEnvC scope (cellsFrom (s3.heap.objs.size + 1) scope.names (cloFrom X.env.cells scope.names [])) s3.heap.objs.size X.env)) (compPost (model X.prog X.w) X.A X.xe use Qf (.ref D) s3.heap.objs.size) { s3 with heap := pushCells (s3.heap.push { cls := .type "dict", data := .dict #[] }) scope.names }
  have nfp : ∀ b ∈ fp, (upd H2 D (.lst [])) b = none := fun b hb => (f3 b hb).1.1
  generalize hce : compEnvC scope (cellsFrom (s3.heap.objs.size + 1) scope.names (cloFrom X.env.cells scope.names [])) s3.heap.objs.size X.env = ce at I4 pg pt pe ⊢
  have cL : ce.locals = s3.heap.objs.size := by subst hce; rfl
  generalize hH3 : upd H2 D (.lst []) = H3 at I3 I4 pg pt pe w0 nfp f3
  generalize hs4 : ({ s3 with heap := pushCells (s3.heap.push { cls := .type "dict", data := .dict #[] }) scope.names } : Shared) = s4 at I4 ⊢
  have st4 : tn 0 s4.heap := T.keep _ _ _ st3 fun b _ o e => by rw [← hs4]; exact pushCells_keeps _ _ _ _ (Heap.get?_push_of_some _ e)
  have stat : ∀ {σ' : St} {H' : Hp} {s' : Shared}, Inv (X.blk s3 H3 scope ce fp) [] σ' H' s' → (∀ b ∈ fp, H' b = none) → ∀ b ∈ fp, FpOk (X.blk s3 H3 scope ce fp) [] H' b := fun {σ' H' s'} I' hn b hb =>
    ⟨hn b hb, (I'.ok.exf b hb).1, I'.ok.exfs b hb, .inl hb, fun x c e => (I'.ok.exf b hb).2 x c e, fun p hp => absurd (show p ∈ ([] : List (Addr × Obj)) ++ [] from hp) (by simp)⟩
  have loop : codeAny (model X.prog X.w) X.A (.compLoop (.ListComp elt [⟨tg, iter, ifs, 0⟩] scope pos) 0 (.ref it) (.ref D) ce) (compPost (model X.prog X.w) X.A X.xe use Qf (.ref D) s3.heap.objs.size) s4 := by
    refine compLoop_any (fun n s' => ∃ i H', Inv (X.blk s3 H3 scope ce fp) [] (wipe σ (own.map (·.2))) H' s' ∧ tn i s'.heap ∧ (∀ b ∈ fp, H' b = none) ∧ W i n H') ?_ m0 ⟨0, H3, I4, st4, nfp, w0⟩
    rintro n s5 ⟨i, H5, I5, st5, n5, w5⟩
    rcases turn i n H5 w5 with ⟨stop, qq⟩ | ⟨go, Nx, hNx, step⟩
    · have td := T.done (X.blk s3 H3 scope ce fp) rfl rfl rfl hc i [] s5 _ H5 (fun _ _ => False) I5 (stat I5 n5) st5 stop
      refine thnF td fun r s6 ⟨hr, I6⟩ => ?_
      subst hr
      -- back in the def's context
      have I7 : Inv X pins σ H5 s6 := I3.call' (ch := fp) I6.os I6.base I6.hok I6.bare fun b hb => ⟨(f3 b hb).1.2.2.2.1, (f3 b hb).1.2.1, (f3 b hb).1.2.2.2.2.1, (f3 b hb).1.2.2.2.2.2⟩
      have nC : H5 s3.heap.objs.size = none := by
        have z : H5 ce.locals = none := I6.free
        rw [cL] at z
        exact z
      obtain ⟨m, hn, _⟩ := I6.loc
      have hn : s6.heap.Ns ce.locals m := hn
      rw [cL] at hn
      exact hRR D s3.heap.objs.size s6 m H5 I7 qq hn (I3.fpOk (Nat.le_refl _) nC)
    · have ti := T.item (X.blk s3 H3 scope ce fp) rfl rfl rfl hc i [] s5 _ H5 (fun _ _ => False) I5 (stat I5 n5) st5 go
      refine thnF ti fun r s6 ⟨u, hr, h6⟩ => ?_
      subst hr
      refine thnF h6 fun _ s7 ⟨x, H7, I7, r7, y7, st7, n7⟩ => ?_
      have I7' := I7.pinned (stat I7 n7) (T.obj _ _ st7)
      refine thnF (pg _ s7 _ H7 x u _ I7' r7 (step x H7 y7)) fun _ s8 ⟨σ8, H8, I8, hw8, q8⟩ => ?_
      refine thnF (pt _ s8 σ8 H8 _ I8 q8) fun b s9 ⟨H9, I9, q9⟩ => ?_
      -- the turn's end
      have fin : ∀ {s' : Shared} {H' : Hp}, Inv (X.blk s3 H3 scope ce fp) ([] ++ pinsAt fp s7.heap) σ8 H' s' → Nx H' → ∃ m, m < n ∧ ∃ i H', Inv (X.blk s3 H3 scope ce fp) [] (wipe σ (own.map (·.2))) H' s' ∧ tn i s'.heap ∧ (∀ b ∈ fp, H' b = none) ∧ W i m H' := fun {s' H'} I' nx => by
        obtain ⟨m', hm, w'⟩ := hNx H' nx
        have pin' : ∀ b ∈ fp, ∀ o, s7.heap.get? b = some o → s'.heap.get? b = some o ∧ H' b = none := fun b hb o e =>
          let z := I'.pin (b, o) (List.mem_append_right _ (List.mem_append_right _ (mem_pinsAt hb e)))
          ⟨z.1, z.2.1⟩
        have hl : (wipe σ (own.map (·.2))).length = σ8.length := by rw [← hw8, wipe_length]
        refine ⟨m', hm, i + 1, H', (I'.unpinned (pins := [])).weak hl (fun j v e => ?_), T.keep _ _ _ st7 fun b hb o e => (pin' b hb o e).1, fun b hb => ?_, w'⟩
        · rw [← hw8] at e
          exact (wipe_some e).1
        · obtain ⟨o, e, _⟩ := T.obj _ _ st7 b hb
          exact (pin' b hb o e).2
      cases b with
      | false =>
        simp only [Bool.false_eq_true, if_false] at q9 ⊢
        exact fin I9 q9
      | true =>
        simp only [if_true] at q9 ⊢
        refine thnF (pe _ s9 σ8 H9 _ I9 q9) fun z s10 ⟨yv, H10, I10, r10, acc, hD10, hz10, nx⟩ => ?_
        exact app_ok (X := X.blk s3 H3 scope ce fp) I10 hD10 hz10 r10 fun s11 I11 => fin I11 nx
  exact codeAny_compStart_list loop (T.self X.A 0 _ _ _ st4 loop)
/-- as a value -/
theorem pe_lc {elt tg iter : Expr} {ifs : List Expr} {scope : Scope} {own : List (Str × Nat)} {pos : Pos} {wi : TI} {g : TG} {tt : TT} {te : TE} (hc : X.calm = true) (hN : X.N.Nodup) (hi : PI X tg iter wi) (ok : BlkOk X.N X.env.scope scope own)
    (hg : ∀ (s : Shared) (H : Hp) (C : Addr) (cl : List (Str × Addr)) (fp : List Addr), PG (X.blk s H scope (compEnvC scope cl C X.env) fp) tg g) (ht : ∀ (s : Shared) (H : Hp) (C : Addr) (cl : List (Str × Addr)) (fp : List Addr), PTs (X.blk s H scope (compEnvC scope cl C X.env) fp) ifs tt)
    (he : ∀ (s : Shared) (H : Hp) (C : Addr) (cl : List (Str × Addr)) (fp : List Addr), PE (X.blk s H scope (compEnvC scope cl C X.env) fp) elt te) (hs : ∀ x, foldedSetIterable iter X.env x = pure x := by intro _; rfl) :
    PE X (.ListComp elt [⟨tg, iter, ifs, 0⟩] scope pos) (tLc wi g tt te (own.map (·.2))) := by
  intro pins s σ H Q I h
  rw [eval_ListComp]
  refine lc_core hc hN I hi ok hg ht he hs h fun D C s' m H' I' q hn f => ⟨m, hn, fun h'' sb => ?_⟩
  obtain ⟨f0, f1, f2, f3, f4, f5⟩ := f
  exact ⟨.ref D, H', I'.turned (t' := s'.toks) (fun b o hb e => (sb.2 b hb).trans e) f0 f1 f3 f4 f5, rfl, q⟩
end
def blkC (N : List Str) (sc scope : Scope) (own : List (Str × Nat)) : Bool :=
  (match scope.kind with | .function => true | _ => false) && (scope.names.all fun y => decide (scope.names.lookup y.1 = some y.2)) && (own.all fun p => decide (N[p.2]? = some p.1)) &&
    (scope.names.all fun y => match y.2 with
      | .free => (match sc.names.lookup y.1 with | some .cell => true | some .free => true | _ => false)
      | .local => decide (y.1 ∈ own.map (·.1)) || decide (y.1 ∉ N)
      | .cell => decide (y.1 ∈ own.map (·.1)) || decide (y.1 ∉ N)
      | _ => true)
theorem blkOk_by {N : List Str} {sc scope : Scope} {own : List (Str × Nat)} (h : blkC N sc scope own = true) : BlkOk N sc scope own := by
  unfold blkC at h
  simp only [Bool.and_eq_true, List.all_eq_true, decide_eq_true_eq] at h
  obtain ⟨⟨⟨h1, h2⟩, h3⟩, h4⟩ := h
  refine ⟨?_, h2, h3, fun y hy e => ?_, fun y hy e => ?_⟩
  · split at h1
    · assumption
    · cases h1
  · have q := h4 y hy
    simp only [e] at q
    split at q <;> first | exact .inl (by assumption) | exact .inr (by assumption) | cases q
  · have q := h4 y hy
    rcases e with e | e <;> (simp only [e, Bool.or_eq_true, decide_eq_true_eq] at q; exact q)
end L2
namespace L2
open PySem PySem.Spec PyProof.Rows
section
variable {prog : Program} {w : World} {A : Around} {R : Result → Shared → Prop} {s : Shared} {elt t0 i0 t1 i1 : Expr} {ifs0 ifs1 : List Expr} {scope : Scope} {pos : Pos} {it acc : Value} {env : Env}
end
section
variable {X : Cx}
end
end L2
namespace L2
open PySem PySem.Spec PyProof.Rows
section
variable {κ : Type} [DecidableEq κ]
def valV (kvs : List (κ × V)) (k : κ) : Option V := (kvs.find? fun kv => decide (kv.1 = k)).map (·.2)
/-- in its place, or at the end -/
def putK (kvs : List (κ × V)) (k : κ) (v : V) : List (κ × V) :=
  if (kvs.any fun kv => decide (kv.1 = k)) = true then kvs.map (fun kv => if kv.1 = k then (kv.1, v) else kv) else kvs ++ [(k, v)]
def dropK (kvs : List (κ × V)) (k : κ) : List (κ × V) := kvs.filter fun kv => decide (kv.1 ≠ k)
theorem valV_pos {p : κ × V} {r : List (κ × V)} {k : κ} (e : p.1 = k) : valV (p :: r) k = some p.2 := by simp [valV, List.find?_cons, e]
theorem valV_neg {p : κ × V} {r : List (κ × V)} {k : κ} (e : ¬ p.1 = k) : valV (p :: r) k = valV r k := by simp [valV, List.find?_cons, e]
theorem RelO.isSome_eq {o : Option V} {u : Option Value} (r : RelO o u) : o.isSome = u.isSome := by
  cases o with
  | none => cases u with
    | none => rfl
    | some _ => exact (show False from r).elim
  | some _ => cases u with
    | none => exact (show False from r).elim
    | some _ => rfl
theorem RelO.getD {o : Option V} {u : Option Value} {d : V} {d' : Value} (r : RelO o u) (rd : RelV d d') : RelV (o.getD d) (u.getD d') := by
  cases o with
  | none => cases u with
    | none => exact rd
    | some _ => exact (show False from r).elim
  | some _ => cases u with
    | none => exact (show False from r).elim
    | some _ => exact r
/-- raw tables of the same keys -/
theorem KV.val {kvs : List (κ × V)} {vs : List (κ × Value)} (r : KV kvs vs) (k : κ) : RelO (valV kvs k) (valueAt vs k) := by
  unfold KV at r
  induction r with
  | nil => exact True.intro
  | @cons p q ps qs h t ih =>
    obtain ⟨h1, h2⟩ := h
    by_cases e : p.1 = k
    · have e' : q.1 = k := h1.symm.trans e
      have b : valueAt (q :: qs) k = some q.2 := by simp [valueAt, List.find?_cons, e']
      rw [valV_pos e, b]; exact h2
    · have e' : ¬ q.1 = k := fun z => e (h1.trans z)
      have b : valueAt (q :: qs) k = valueAt qs k := by simp [valueAt, List.find?_cons, e']
      rw [valV_neg e, b]; exact ih
theorem KV.any {kvs : List (κ × V)} {vs : List (κ × Value)} (r : KV kvs vs) (k : κ) : (kvs.any fun kv => decide (kv.1 = k)) = vs.any fun kv => decide (kv.1 = k) := by
  unfold KV at r
  induction r with
  | nil => rfl
  | cons h t ih => rw [List.any_cons, List.any_cons, ih, h.1]
theorem KV.drop {kvs : List (κ × V)} {vs : List (κ × Value)} (r : KV kvs vs) (k : κ) : KV (dropK kvs k) (without vs k) := by
  unfold KV at r ⊢
  unfold dropK without
  induction r with
  | nil => exact .nil
  | @cons p q ps qs h t ih =>
    obtain ⟨h1, h2⟩ := h
    rw [List.filter_cons, List.filter_cons]
    by_cases e : p.1 = k
    · have a : ¬ decide (p.1 ≠ k) = true := by simp [e]
      have b : ¬ decide (q.1 ≠ k) = true := by simp [h1.symm.trans e]
      rw [if_neg a, if_neg b]; exact ih
    · have e' : ¬ q.1 = k := fun z => e (h1.trans z)
      have a : decide (p.1 ≠ k) = true := by simp [e]
      have b : decide (q.1 ≠ k) = true := by simp [e']
      rw [if_pos a, if_pos b]; exact .cons ⟨h1, h2⟩ ih
theorem KV.keys {kvs : List (κ × V)} {vs : List (κ × Value)} (r : KV kvs vs) : kvs.map (·.1) = vs.map (·.1) := by
  unfold KV at r
  induction r with
  | nil => rfl
  | cons h t ih => rw [List.map_cons, List.map_cons, ih, h.1]
theorem KV.length {kvs : List (κ × V)} {vs : List (κ × Value)} (r : KV kvs vs) : kvs.length = vs.length := Paired.length r
end
theorem kV_is {P : Program} {w : World} {k : Key} {u : Value} (r : RelV (kV k) u) : (mixKind P w).is k u = true := by
  cases k with
  | inl i => obtain ⟨t, e⟩ := (show ∃ t, u = Value.int i t from r); subst e; exact mixKind_int P w i t
  | inr x => obtain ⟨t, e⟩ := (show ∃ t, u = Value.str x t from r); subst e; exact mixKind_str P w x t
theorem items_are {P : Program} {w : World} : ∀ {ks : List Key} {us : List Value}, Vals (ks.map kV) us → ItemsAre (mixKind P w) ks us
  | [], _, r => by rw [List.map_nil] at r; cases r; exact .nil
  | k :: ks, _, r => by
    rw [List.map_cons] at r
    cases r with
    | cons h t => exact .cons (kV_is h) (items_are t)
/-- raw entries of a dict with tuple keys -/
abbrev KT (H : Hp) : List (List Key × V) → List (List Key × Addr × Value) → Prop := Paired fun p q => p.1 = q.1 ∧ H q.2.1 = some (.tup (p.1.map kV)) ∧ RelV p.2 q.2.2
theorem KT.val {H : Hp} {kvs : List (List Key × V)} {xs : List (List Key × Addr × Value)} (r : KT H kvs xs) (k : List Key) : RelO (valV kvs k) ((atKey xs k).map (·.2)) := by
  induction r with
  | nil => exact True.intro
  | @cons p q ps qs h t ih =>
    obtain ⟨h1, _, h2⟩ := h
    by_cases e : p.1 = k
    · have e' : q.1 = k := h1.symm.trans e
      have b : atKey (q :: qs) k = some q.2 := by simp [atKey, List.find?_cons, e']
      rw [valV_pos e, b]; exact h2
    · have e' : ¬ q.1 = k := fun z => e (h1.trans z)
      have b : atKey (q :: qs) k = atKey qs k := by simp [atKey, List.find?_cons, e']
      rw [valV_neg e, b]; exact ih
theorem KT.keeps {H H' : Hp} {kvs : List (List Key × V)} {xs : List (List Key × Addr × Value)} (r : KT H kvs xs) (ht : ∀ b ys, H b = some (.tup ys) → H' b = some (.tup ys)) : KT H' kvs xs :=
  Paired.mapP r fun _ _ z => ⟨z.1, ht _ _ z.2.1, z.2.2⟩
section
variable {P : Program} {w : World} {H : Hp} {h : Heap} {a : Addr}
theorem rd_of {u : HO} (ok : HOk P w H h) (e : Rd H a u) : ObjOk P w H h a u := e.ok ok
theorem dk_rd {kvs : List (Key × V)} (ok : HOk P w H h) (e : Rd H a (.dK kvs)) : kvs.length ≤ sizeLine ∧ (a == sysModules) = false ∧ ∃ vs, KV kvs vs ∧ h.DictOf (mixKind P w) a vs :=
  show ObjOk P w H h a (.dK kvs) from rd_of ok e
/-- a tracked tuple of ints and texts is a key -/
theorem key_of {ks : List Key} (ok : HOk P w H h) (e : H a = some (.tup (ks.map kV))) : (tupleKind (mixKind P w)).is h ks a := by
  obtain ⟨_, its, r, o, h1, h2, n, h3⟩ := (show ObjOk P w H h a (.tup (ks.map kV)) from ok a _ e)
  exact ⟨o, its.toArray, n, h1, h2, h3, by simpa using items_are r⟩
theorem dt_rd {kvs : List (List Key × V)} (ok : HOk P w H h) (e : Rd H a (.dT kvs)) : kvs.length ≤ sizeLine ∧ (a == sysModules) = false ∧
    ∃ xs, KT H kvs xs ∧ h.DictOfH (tupleKind (mixKind P w)) a xs := by
  obtain ⟨z, y, xs, r, o, es, ep, h1, h2, h3, h4, h5⟩ := (show ObjOk P w H h a (.dT kvs) from rd_of ok e)
  refine ⟨z, y, xs, r, o, es, ep, h1, h2, h3, h4, fun x hx => ?_, h5⟩
  have all : ∀ {l : List (List Key × V)} {m : List (List Key × Addr × Value)}, KT H l m → ∀ x ∈ m, (tupleKind (mixKind P w)).is h x.1 x.2.1 := by
    intro l m q
    induction q with
    | nil => intro x hx; exact nomatch hx
    | @cons p q ps qs hq t ih =>
      intro x hx
      rcases List.mem_cons.mp hx with e | hx
      · subst e
        exact key_of ok (by rw [← hq.1]; exact hq.2.1)
      · exact ih x hx
  exact all r x hx
end
/-- what the dict at a holds at the key y -/
def DGet (H : Hp) (a : Addr) (y : V) (r : Option V) : Prop :=
  (∃ kvs k, Rd H a (.dK kvs) ∧ y = kV k ∧ r = valV kvs k) ∨ ∃ kvs k b, Rd H a (.dT kvs) ∧ y = .ref b ∧ H b = some (.tup (k.map kV)) ∧ r = valV kvs k
/-- the heap behind a[y] = v -/
def DPut (H : Hp) (a : Addr) (y v : V) (H' : Hp) : Prop :=
  (∃ kvs k, H a = some (.dK kvs) ∧ y = kV k ∧ kvs.length < sizeLine ∧ H' = upd H a (.dK (putK kvs k v))) ∨
  ∃ kvs k b, H a = some (.dT kvs) ∧ y = .ref b ∧ H b = some (.tup (k.map kV)) ∧ kvs.length < sizeLine ∧ H' = upd H a (.dT (putK kvs k v))
theorem DGet.k {H : Hp} {a : Addr} {kvs : List (Key × V)} {k : Key} (e : H a = some (.dK kvs)) : DGet H a (kV k) (valV kvs k) := .inl ⟨kvs, k, .inl e, rfl, rfl⟩
theorem DGet.t {H : Hp} {a b : Addr} {kvs : List (List Key × V)} {k : List Key} (e : H a = some (.dT kvs)) (eb : H b = some (.tup (k.map kV))) : DGet H a (.ref b) (valV kvs k) := .inr ⟨kvs, k, b, .inl e, rfl, eb, rfl⟩
theorem DPut.k {H : Hp} {a : Addr} {kvs : List (Key × V)} {k : Key} {v : V} (e : H a = some (.dK kvs)) (hl : kvs.length < sizeLine) : DPut H a (kV k) v (upd H a (.dK (putK kvs k v))) := .inl ⟨kvs, k, e, rfl, hl, rfl⟩
theorem DPut.t {H : Hp} {a b : Addr} {kvs : List (List Key × V)} {k : List Key} {v : V} (e : H a = some (.dT kvs)) (eb : H b = some (.tup (k.map kV))) (hl : kvs.length < sizeLine) :
    DPut H a (.ref b) v (upd H a (.dT (putK kvs k v))) := .inr ⟨kvs, k, b, e, rfl, eb, hl, rfl⟩
section
variable {X : Cx} {pins : List (Addr × Obj)} {σ : St} {H : Hp} {s : Shared} {a : Addr} {y v : V} {u r : Value} {o : Option V} {A : Around} {E : Value → Shared → Prop}
/-- y in d -/
theorem d_in {Q : Value → Shared → Prop} (hu : A.units + 1 < cLine) (I : Inv X pins σ H s) (g : DGet H a y o) (ry : RelV y u) (h : ∀ s', Inv X pins σ H s' → Q (.bool o.isSome) s') :
    wpAny (model X.prog X.w) A (compareOp .In u (.ref a)) Q E s := by
  rcases g with ⟨kvs, k, e, ey, l⟩ | ⟨kvs, k, b, e, ey, eb, l⟩
  · subst ey
    obtain ⟨z, hd, vs, rel, dd⟩ := dk_rd I.hok e
    refine wpAny_in_of (kV_is ry) hd dd.mapOf ?_
    rw [← (rel.val k).isSome_eq, ← l]
    exact h _ (I.tok _)
  · subst ey
    cases (show u = Value.ref b from ry)
    obtain ⟨z, hd, xs, rel, dd⟩ := dt_rd I.hok e
    refine wpAny_in_heap (tupleKind_room_in1 hu) (key_of I.hok eb) hd dd ?_
    have q := (rel.val k).isSome_eq
    rw [Option.isSome_map] at q
    rw [← q, ← l]
    exact h _ (I.tok _)
theorem d_notIn {Q : Value → Shared → Prop} (hu : A.units + 1 < cLine) (I : Inv X pins σ H s) (g : DGet H a y o) (ry : RelV y u) (h : ∀ s', Inv X pins σ H s' → Q (.bool (!o.isSome)) s') :
    wpAny (model X.prog X.w) A (compareOp .NotIn u (.ref a)) Q E s := by
  rcases g with ⟨kvs, k, e, ey, l⟩ | ⟨kvs, k, b, e, ey, eb, l⟩
  · subst ey
    obtain ⟨z, hd, vs, rel, dd⟩ := dk_rd I.hok e
    refine wpAny_notIn_of (kV_is ry) hd dd.mapOf ?_
    rw [← (rel.val k).isSome_eq, ← l]
    exact h _ (I.tok _)
  · subst ey
    cases (show u = Value.ref b from ry)
    obtain ⟨z, hd, xs, rel, dd⟩ := dt_rd I.hok e
    refine wpAny_notIn_heap (tupleKind_room_in1 hu) (key_of I.hok eb) hd dd ?_
    have q := (rel.val k).isSome_eq
    rw [Option.isSome_map] at q
    rw [← q, ← l]
    exact h _ (I.tok _)
end
section
variable {X : Cx} {pins : List (Addr × Obj)} {σ : St} {H : Hp} {s : Shared} {a : Addr} {kvs : List (Key × V)} {k : Key} {u : Value} {A : Around} {E : Value → Shared → Prop}
end
section
variable {X : Cx} {o i e value : Expr} {pos pos' tpos : Pos} {td ty tv : TE}
end
section
variable {X : Cx} {pos : Pos}
end
section
variable {X : Cx} {pins : List (Addr × Obj)} {σ : St} {H : Hp} {s : Shared} {a : Addr} {y d : V} {u r : Value} {o : Option V} {A : Around} {E : Value → Shared → Prop}
end
section
variable {X : Cx} {o e f : Expr} {apos cpos : Pos} {td ty tx : TE}
end
section
variable {X : Cx} {pins : List (Addr × Obj)} {σ : St} {H : Hp} {s : Shared} {a : Addr} {kvs : List (Key × V)} {A : Around} {E : Value → Shared → Prop}
end
section
variable {X : Cx} {pins : List (Addr × Obj)} {σ : St} {H : Hp} {s : Shared} {a : Addr} {y : V} {u : Value} {A : Around} {E : Value → Shared → Prop}
end
end L2
namespace L2
open PySem PySem.Spec PyProof.Rows
section
variable {prog : Program} {w : World} {A : Around} {E : Value → Shared → Prop}
end
section
variable {X : Cx}
end
end L2
namespace L2
open PySem PySem.Spec PyProof.Rows
section
variable {X : Cx} {pins : List (Addr × Obj)} {σ : St} {H : Hp} {s : Shared} {h' : Heap}
end
section
variable {X : Cx}
theorem pi_one {tg : Expr} {pins : List (Addr × Obj)} {σ : St} {H : Hp} {s : Shared} {R : It → Hp → Prop} {J : It} {tn : Nat → Heap → Prop} {tk : Nat} (I : Inv X pins σ H s) (o : Obj)
    (T : Turn X.prog X.w X.K tg J [s.heap.objs.size] s.heap.objs.size tn) (st : tn 0 (s.heap.push o)) (q : R J H) : PIE X pins σ tg R (.ref s.heap.objs.size) { s with heap := s.heap.push o, toks := tk } := by
  refine ⟨s.heap.objs.size, [s.heap.objs.size], tn, J, H, rfl, I.kept fun b ob e => Heap.get?_push_of_some _ e, T, st, fun b hb => ?_, q⟩
  have e : b = s.heap.objs.size := by simpa using hb
  subst e
  exact I.fpOk (Nat.le_refl _) (I.hok.fresh (Nat.le_refl _))
end
/-- range(i, j, c): small bounds, n items -/
def RgC (i j c : Int) (n : Nat) : Prop := c ≠ 0 ∧ c.natAbs < 1073741824 ∧ Builtin.Range.small i j c = true ∧ Builtin.Range.rangeSize i j c = n
theorem RgC.neg {i j : Int} (ha : -(2 ^ 62) ≤ i) (ha' : i < 2 ^ 62) (hb : -(2 ^ 62) ≤ j) (hb' : j < 2 ^ 62) : RgC i j (-1) (i - j).toNat :=
  ⟨by decide, by decide, PySem.W.small_down ha ha' hb hb', PySem.W.rangeSize_downNat i j⟩
section
variable {X : Cx} {tg : Expr}
end
section
variable {X : Cx} {tg : Expr}
end
def Its (x : Str) : It := ⟨fun i _ => i < x.cps.size, fun i H v H' => H' = H ∧ ∃ c, x.cps[i]? = some c ∧ v = .str ⟨#[c]⟩, fun i _ => x.cps.size ≤ i⟩
theorem turn_str {P : Program} {w : World} {K : PySem.W.Frag} {tg : Expr} (it : Addr) (x : Str) (t : Tok) (ty : String) (hty : ty = "str_ascii_iterator" ∨ ty = "str_iterator") :
    Turn P w K tg (Its x) [it] it (fun i h => h.IsStrIter it ty x t i) where
  mem := by simp
  obj := fun i h st b hb => by
    have e : b = it := by simpa using hb
    subst e
    obtain ⟨o, e, c, d⟩ := st
    exact ⟨o, e, fun v z => by rw [d] at z; cases z⟩
  keep := fun i h h' st k => let ⟨o, ho, r⟩ := st; ⟨o, k it (by simp) o ho, r⟩
  item := by
    intro X hP hw hK hc i pins s σ H E I hf st hg
    subst hP hw hK
    obtain ⟨f0, f1, f2, f3, f4, f5⟩ := hf it (by simp)
    have W : Walks X.prog X.w X.A it [it] [it] x.cps.size (SignAt x) (fun i h => h.IsStrIter it ty x t i) := by
      rcases hty with e | e
      · rw [e]; exact Walks.strAscii (I.ok.hd hc) it x t
      · rw [e]; exact Walks.strWide (I.ok.hd hc) it x t
    have hno : ["enumerate", "zip", "dict_itemiterator", "dict_reverseitemiterator", "odict_iterator", "itertools.zip_longest", "itertools.pairwise"].contains ty = false := by
      rcases hty with e | e
      · rw [e]; decide
      · rw [e]; decide
    refine W.item i s _ _ hg st fun v h' tk hv st' kk => ?_
    obtain ⟨c, u, hcx, rfl⟩ := hv
    have I1 : Inv X pins σ H { s with heap := h', toks := tk } := I.turned (fun b o hb e => kk b o (by simpa using hb) e) f0 f1 f3 f4 f5
    obtain ⟨oi, e, cc, dd⟩ := id st'
    exact ⟨_, rfl, go_of (s := { s with heap := h', toks := tk }) e cc dd hno ⟨.str ⟨#[c]⟩, H, I1, ⟨u, rfl⟩, ⟨rfl, c, hcx, rfl⟩, st', fun b hb => (hf b hb).1⟩⟩
  done := by
    intro X hP hw hK hc i pins s σ H E I hf st hg
    subst hP hw hK
    obtain ⟨f0, f1, f2, f3, f4, f5⟩ := hf it (by simp)
    have hx : x.cps[i]? = none := Array.getElem?_eq_none hg
    rcases hty with e | e
    · rw [e] at st
      exact wpAny_pyNext_ascii_end (I.ok.hd hc) st hx fun h' eb => ⟨rfl, I.turned (t' := s.toks) (fun b o hb e => eb b o hb e) f0 f1 f3 f4 f5⟩
    · rw [e] at st
      exact wpAny_pyNext_wide_end (I.ok.hd hc) st hx fun h' eb => ⟨rfl, I.turned (t' := s.toks) (fun b o hb e => eb b o hb e) f0 f1 f3 f4 f5⟩
  self := fun A i s Q E st h => by
    rcases hty with e | e
    · rw [e] at st; exact wpAny_pyIter_striter_ascii st h
    · rw [e] at st; exact wpAny_pyIter_striter_wide st h
def iStr (te : TE) : TI := fun σ H R => te σ H fun v H1 => ∃ x, v = .str x ∧ R (Its x) H1
theorem pi_str {X : Cx} {tg e : Expr} {te : TE} (he : PE X e te) : PI X tg e (iStr te) := by
  intro pins s σ H R I h
  refine thn (he pins s σ H _ I h) fun v s1 ⟨y, H1, I1, r1, x, ex, q⟩ => ?_
  subst ex
  obtain ⟨t, rfl⟩ := r1
  cases ha : x.cps.all (· < 128)
  · exact wpAny_pyIter_wide ha (pi_one (tk := s1.toks) I1 _ (turn_str _ x t "str_iterator" (.inr rfl)) ⟨_, Heap.get?_push_size _ rfl, rfl, rfl⟩ q)
  · exact wpAny_pyIter_ascii ha (pi_one (tk := s1.toks) I1 _ (turn_str _ x t "str_ascii_iterator" (.inl rfl)) ⟨_, Heap.get?_push_size _ rfl, rfl, rfl⟩ q)
section
variable {prog : Program} {w : World} {A : Around} {E : Value → Shared → Prop} {s : Shared}
end
section
variable {X : Cx} {pins : List (Addr × Obj)} {σ : St} {H : Hp} {s : Shared} {d : Addr} {o : Obj}
end
section
variable {P : Program} {w : World} {K : PySem.W.Frag} {tg : Expr} {d : Addr} {o : Obj} {es : Array DictEntry} {ep : Nat}
end
section
variable {X : Cx} {tg e : Expr} {td : TE} {apos cpos : Pos}
end
end L2
section 
namespace Bits
open PySem PyProof.Rows
end Bits
end 
section 
namespace TL
open PySem PySem.Builtin PySem.Builtin.Str PySem.StrLaws
abbrev tl (x : Str) : List Nat := x.cps.toList
/-- S stands at the head of l -/
def pre (S l : List Nat) : Bool := l.take S.length == S
/-- what stands before the first S, and behind it -/
def par (S : List Nat) : List Nat → List Nat → Option (List Nat × List Nat)
  | _, [] => none
  | acc, c :: r => if pre S (c :: r) = true then some (acc, (c :: r).drop S.length) else par S (acc ++ [c]) r
end TL
end 
namespace L2
open PySem PySem.Spec PyProof.Rows
theorem strs_of_vals : ∀ {ys : List Str} {us : List Value}, Vals (ys.map V.str) us → StrsAre us ys
  | [], _, .nil => .nil
  | y :: ys, _, .cons r t => by
    obtain ⟨k, rfl⟩ := r
    exact .cons y k (strs_of_vals t)
section
variable {X : Cx} {pins : List (Addr × Obj)} {σ : St} {H : Hp} {s : Shared} {Q : VK}
end
section
variable {X : Cx}
/-- sep.join(a list | a tuple of texts) -/
theorem mt_join : MtR X "str.join" (fun x xs H Q => ∃ a p, ∃ ys : List Str, x = .str a ∧ xs = [.ref p] ∧ (SqL X.K H p (ys.map V.str) ∨ SqT X.K H p (ys.map V.str)) ∧
    (ys.map (·.length)).sum + ys.length * a.length ≤ 16777216 ∧ Q (.str (Txt.join a ys)) H) := by
  intro pins s σ H x xs v us Q I rx rs h
  obtain ⟨a, p, ys, rfl, rfl, hp, hz, h⟩ := h
  obtain ⟨t, rfl⟩ := rx
  cases rs with
  | cons r1 rs =>
    cases rs
    cases r1
    rcases hp with hp | hp
    · obtain ⟨its, r, ⟨o, n, ho, hc, _, hd⟩, _⟩ := I.list hp
      exact PyProof.Rows.join_list (items := its.toArray) ⟨o, ho, hc, n, hd⟩ (by rw [List.toList_toArray]; exact strs_of_vals r) hz fun t' k => ⟨.str _, H, I.tok k, ⟨t', rfl⟩, h⟩
    · obtain ⟨its, r, ht, _⟩ := I.tuple hp
      exact PyProof.Rows.join_tuple (items := its.toArray) ht (by rw [List.toList_toArray]; exact strs_of_vals r) hz fun t' k => ⟨.str _, H, I.tok k, ⟨t', rfl⟩, h⟩
end
section
variable {X : Cx} {o e : Expr} {to te : TE}
def tM1 (r : V → List V → Hp → VK → Prop) (to te : TE) : TE := fun σ H Q => to σ H fun x H1 => (∃ a, x = .str a) ∧ te σ H1 fun y H2 => r x [y] H2 Q
theorem pe_m1 {id : String} {name : Str} {apos pos : Pos} {r : V → List V → Hp → VK → Prop} (slot : Slot "str" name id) (ty : typeOf (.builtin id) = pure (.type "method_descriptor")) (rule : MtR X id r) (ho : PE X o to) (he : PE X e te)
    (hs : starEach [e] X.env = [(false, eval e X.env)] := by rfl) (hbase : attributeBase o name X.env (eval o X.env) = eval o X.env := by rfl) (hline : (apos.endLine == pos.line) = true := by rfl) :
    PE X (.Call (.Attribute o name apos) [e] [] pos) (tM1 r to te) := by
  intro pins s σ H Q I h
  refine PySem.Call_method1 hbase hs hline (thn (ho pins s σ H _ I h) fun v s1 ⟨x, H1, I1, r1, q1⟩ => ?_)
  obtain ⟨⟨a, rfl⟩, q1⟩ := q1
  obtain ⟨t, rfl⟩ := _root_.id r1
  refine ⟨"str", _, F.plainAttrs_str, slot, ty, typeIs_str _ _ _, (fun _ e => nomatch e), Calls.callWith_builtin rfl (Calls.evalArgs_plain (Calls.spliced_cons ?_))⟩
  exact thn (he pins s1 σ H1 _ I1 q1) fun u s2 ⟨y, H2, I2, r2, q2⟩ => Calls.spliced_nil (rule pins s2 σ H2 _ [y] _ [u] Q I2 r1 (.cons r2 .nil) q2)
theorem pe_join {apos pos : Pos} (ho : PE X o to) (he : PE X e te) (hs : starEach [e] X.env = [(false, eval e X.env)] := by rfl) (hbase : attributeBase o "join" X.env (eval o X.env) = eval o X.env := by rfl) (hline : (apos.endLine == pos.line) = true := by rfl) :
    PE X (.Call (.Attribute o "join" apos) [e] [] pos) (tM1 (fun x xs H Q => ∃ a p, ∃ ys : List Str, x = .str a ∧ xs = [.ref p] ∧ (SqL X.K H p (ys.map V.str) ∨ SqT X.K H p (ys.map V.str)) ∧
      (ys.map (·.length)).sum + ys.length * a.length ≤ 16777216 ∧ Q (.str (Txt.join a ys)) H) to te) :=
  pe_m1 F.slot_str_join F.type_str_join mt_join ho he hs hbase hline
end
end L2
namespace L2
open PySem PySem.Spec PyProof.Rows
section
variable {X : Cx}
theorem op_le_str : OpR X (compareOp .LtE) (fun x y H Q => ∃ i j, x = .str i ∧ y = .str j ∧ Q (.bl (!decide (j.cps.toList < i.cps.toList))) H) := by
  intro pins s σ H x y v u Q I rx ry h
  obtain ⟨i, j, rfl, rfl, q⟩ := h
  obtain ⟨t, rfl⟩ := rx
  obtain ⟨t', rfl⟩ := ry
  exact PySem.P.le_str (fin_bl I q rfl)
theorem op_gt_str : OpR X (compareOp .Gt) (fun x y H Q => ∃ i j, x = .str i ∧ y = .str j ∧ Q (.bl (decide (j.cps.toList < i.cps.toList))) H) := by
  intro pins s σ H x y v u Q I rx ry h
  obtain ⟨i, j, rfl, rfl, q⟩ := h
  obtain ⟨t, rfl⟩ := rx
  obtain ⟨t', rfl⟩ := ry
  exact PySem.P.gt_str (fin_bl I q rfl)
theorem op_ge_str : OpR X (compareOp .GtE) (fun x y H Q => ∃ i j, x = .str i ∧ y = .str j ∧ Q (.bl (!decide (i.cps.toList < j.cps.toList))) H) := by
  intro pins s σ H x y v u Q I rx ry h
  obtain ⟨i, j, rfl, rfl, q⟩ := h
  obtain ⟨t, rfl⟩ := rx
  obtain ⟨t', rfl⟩ := ry
  exact PySem.P.ge_str (fin_bl I q rfl)
/-- one sign in a text -/
theorem op_in_sign : OpR X (compareOp .In) (fun x y H Q => ∃ (c : Nat) (z : Str), x = .str ⟨#[c]⟩ ∧ y = .str z ∧ Q (.bl (decide (c ∈ z.cps.toList))) H) := by
  intro pins s σ H x y v u Q I rx ry h
  obtain ⟨c, z, rfl, rfl, q⟩ := h
  obtain ⟨t, rfl⟩ := rx
  obtain ⟨t', rfl⟩ := ry
  exact PyProof.Rows.in_str (fin_bl I q (PySem.StrLaws.found_one z c).symm)
theorem op_notIn_sign : OpR X (compareOp .NotIn) (fun x y H Q => ∃ (c : Nat) (z : Str), x = .str ⟨#[c]⟩ ∧ y = .str z ∧ Q (.bl (!decide (c ∈ z.cps.toList))) H) := by
  intro pins s σ H x y v u Q I rx ry h
  obtain ⟨c, z, rfl, rfl, q⟩ := h
  obtain ⟨t, rfl⟩ := rx
  obtain ⟨t', rfl⟩ := ry
  exact PyProof.Rows.notIn_str (fin_bl I q (congrArg Bool.not (PySem.StrLaws.found_one z c).symm))
end
theorem IsPart.raw {v : Value} {o : Option Int} (p : IsPart v o) : ∃ l : Option (Int × Tok), v = partValue l ∧ l.map (·.1) = o := by
  cases p with
  | none => exact ⟨none, rfl, rfl⟩
  | int i t => exact ⟨some (i, t), rfl, rfl⟩
end L2
namespace Att
open PySem PySem.W PySem.Calls PyProof.Rows
theorem ints_of_wellAll {P : Params} {h : Heap} : ∀ (ns : List Int) (vs : List Value), WellAll P h vs (ns.map WData.int) → IntsAre vs ns := by
  intro ns
  induction ns with
  | nil =>
    intro vs w
    rw [List.map_nil] at w
    cases w
    exact .nil
  | cons n ns ih =>
    intro vs w
    rw [List.map_cons] at w
    cases w with
    | cons a b =>
      cases a
      exact .cons _ _ (ih _ b)
theorem script_of {l : OpenLaw} {n : Nat} (hn : l.most = some n) {P : Params} {h : Heap} {args : List WData} {vals : List Value}
    (hpre : l.row.toRowW.claim.pre args = true) (hwl : WellAll P h vals args) :
    ∃ a vs ns, vals = [Value.ref a] ∧ args = [WData.list (ns.map WData.int)] ∧ h.get? a = some { cls := .type "list", data := .seq vs.toArray } ∧ IntsAre vs ns ∧ ns.length ≤ n := by
  have hsh : WShape.hasAll [] args [.list .int] = true := (pre_splitW hpre).1
  have hc : l.pre.holds [] { args := args } = true := (pre_splitW hpre).2
  obtain ⟨d, r, rfl, h1, h2⟩ := hasAllW_cons hsh
  obtain rfl := hasAllW_nil h2
  obtain ⟨xs, rfl, h3⟩ := hasW_list h1
  obtain ⟨ns, rfl⟩ := items_int h3
  have hlen : ns.length ≤ n := by
    unfold OpenLaw.pre at hc
    have h4 : (WTm.not (.lt (.lit (.int (n : Int))) (.len (.arg 0)))).holds [] { args := [.list (ns.map .int)] } = true := by
      have h4 := (holds_andW hc).1
      rw [hn] at h4
      exact h4
    have h5 := condW_of h4 (w_not (w_lt w_lit (w_len_list (w_arg rfl))))
    rw [List.length_map] at h5
    refine Nat.le_of_not_lt fun q => ?_
    have q' : (n : Int) < ((ns.length : Nat) : Int) := by omega
    first
      | (rw [decide_eq_true q'] at h5; exact absurd h5 (by decide))
      | (simp at h5; omega)
  cases hwl with
  | cons w1 w2 =>
    cases w2
    cases w1 with
    | list ho hall => exact ⟨_, _, ns, rfl, rfl, ho, ints_of_wellAll ns _ hall, hlen⟩
theorem post_true (l : OpenLaw) (args : List WData) : l.row.toRowW.claim.post args (.bool true) args = true :=
  postW_of (r := l.row.toRowW) (X := (true == true))
    (show WShape.has [] (.bool true) .bool = true by first | rfl | decide | simp [WShape.has, WShape.arms, WShape.armsAll])
    (show (WTm.eq .res (.lit (.bool true))).value [] { args := args, res := some (.bool true), after := args } = some (.bool (true == true)) from w_eq_bool (w_res rfl) w_lit) rfl
/-- the same from a codeAny of the CALL (for a layer whose function contracts speak of calls) -/
theorem attach_call {l : OpenLaw} {n : Nat} {q : Program} {loose : List Str} {XP : (Str → Option Value) → Heap → Prop} {YP : World → Heap → Prop} {d : DefRec}
    (hn : l.most = some n) (hdf : d.params.defaults = [])
    (call : ∀ (w : World) (s₀ s₁ : Shared) (mg mb : Str → Option Value) (fa : Addr) (o : Obj) (pm cd doc : Value) (a : Addr) (vs : List Value) (ns : List Int),
      Ground q loose [] XP w s₀ mg mb s₁.heap → YP w s₁.heap →
      s₁.heap.get? fa = some o → o.data = .func (docDef d.name d.params d.body d.scope pm cd doc) → s₁.heap.CodeRec cd d.name → mg d.name = some (.ref fa) →
      s₁.heap.get? a = some { cls := .type "list", data := .seq vs.toArray } → IntsAre vs ns → ns.length ≤ n → s₁.gens = #[] →
      codeAny (model l.prog w) callerA (.call (.ref fa) ⟨[.ref a], []⟩) (fun r s' => r = .ok (.ret (.bool true)) ∧ OldK s₁.heap s'.heap ∧ s'.os = s₁.os ∧ AllBare s'.gens) s₁) :
    WalkO q loose XP YP l.row.toRowW d [] (fun f vs => PySem.call f vs) := by
  intro w s₀ s₁ mg mb G Y fa o pm cd doc dV kV ho hd hcd hD hmg hg args vals as hpre hlay hrd hwl hlo
  obtain rfl : dV = .none := Dflts.none hD hdf
  obtain rfl : kV = .none := Dflts.noKw hD
  obtain ⟨a, vs, ns, rfl, rfl, hobj, hints, hlen⟩ := script_of hn hpre hwl
  refine enter_call (codeAny_mono (call w s₀ s₁ mg mb fa o pm cd doc a vs ns G Y ho (fd_plain hd) hcd hmg hobj hints hlen hg) fun r s' hq => ?_)
  obtain ⟨rfl, h2, h3, h4⟩ := hq
  exact ⟨.inl ⟨.bool true, .bool true, [], rfl, fun _ => rfl, .bool true, post_true l _, fun _ => ⟨List.Pairwise.nil, fun _ hm => (nomatch hm)⟩⟩, h2, h3, h4⟩
section
variable {prog : Program} {w : World} {A : Around} {E : Value → Shared → Prop} {s : Shared} {K : Frag}
end
end Att
namespace L2
open PySem PySem.Spec PyProof.Rows
theorem vals_ints : ∀ {vs : List Value} {ns : List Int}, IntsAre vs ns → Vals (ns.map V.int) vs
  | _, _, .nil => .nil
  | _, _, .cons n t h => .cons ⟨t, rfl⟩ (vals_ints h)
/-- nothing is tracked but the script, known to the object (or it is an object of the module) -/
def Only (H : Hp) : Prop := ∀ b, H b = none ∨ ∃ o xs, H b = some (.frz o (.lst xs))
/-- THE HEAD: the law's promise, at the heap behind the top. F, the promise of the law's def, may use that base is part of the heap (so K.In base, base.Ns mainGlobals mg stand in Mod) -/
theorem law_call {P : Program} {w : World} {K : PySem.W.Frag} {mg mb : Str → Option Value} {CX : CXT} {k : Nat} {fa a : Addr} {fd : FuncData} {x : Str} {sp : Sp} {s₁ : Shared} {vs : List Value} {ns : List Int}
    (KX : K.In s₁.heap) (hns : s₁.heap.Ns mainGlobals mg) (hb : s₁.heap.Ns builtinsNs mb) (hbb : ∀ x : Str, x ≠ "__name__" → mb x = bootBuiltins x) (hlim : s₁.heap.NoLimit) (hg : s₁.gens = #[])
    (ha : s₁.heap.get? a = some { cls := .type "list", data := .seq vs.toArray }) (hi : IntsAre vs ns) (hl : ns.length ≤ sizeLine) (hr : Room k callerA)
    (F : ∀ base : Heap, K.In base → base.Ns mainGlobals mg → FnOk P w K mg base CX k fa fd [x] sp) (hbind : ∀ (s : Shared) (u : Value), BindsTo s fd ⟨[u], []⟩ [(x, u)])
    (hsp : ∀ H : Hp, Only H → SqL K H a (ns.map V.int) → sp [.ref a] H (fun v _ => v = .bl true) fun _ _ _ => False)
    (hCX : ∀ H e s', CX [] H s₁ (fun _ _ _ => False) e s' → False) :
    codeAny (model P w) callerA (.call (.ref fa) ⟨[.ref a], []⟩) (fun r s' => r = .ok (.ret (.bool true)) ∧ OldK s₁.heap s'.heap ∧ s'.os = s₁.os ∧ AllBare s'.gens) s₁ := by
  have rv := vals_ints hi
  have lenV := hi.length
  -- from an abstract heap in which nothing but the script may be tracked
  have core : ∀ H : Hp, Only H → SqL K H a (ns.map V.int) → HOk P w H s₁.heap → (∀ b, H b ≠ none → b = a) → (H a ≠ none → K.lookup a = none) →
      codeAny (model P w) callerA (.call (.ref fa) ⟨[.ref a], []⟩) (fun r s' => r = .ok (.ret (.bool true)) ∧ OldK s₁.heap s'.heap ∧ s'.os = s₁.os ∧ AllBare s'.gens) s₁ := by
    intro H hO hS hok hA hK
    have base_of : ∀ {b : Addr} {o : Obj}, s₁.heap.get? b = some o → H b = none → (hidT s₁.heap H).get? b = some o := fun e n => hidT_get e n
    have noA : ∀ {b : Addr} {o : Obj} {es : Array DictEntry} {ep : Nat}, s₁.heap.get? b = some o → o.data = .dict es ep → H b = none := fun {b o es ep} e d => by
      cases q : H b with
      | none => rfl
      | some u =>
        have e' : b = a := hA b (by rw [q]; simp)
        subst e'
        rw [ha] at e; cases e
        have d' : Data.seq vs.toArray _ = Data.dict es ep := d
        cases d'
    have nsK : ∀ {b : Addr} {m : Str → Option Value}, s₁.heap.Ns b m → (hidT s₁.heap H).Ns b m := fun {b m} ⟨o, es, ep, e, d, r⟩ => ⟨o, es, ep, base_of e (noA e d), d, r⟩
    have hKb : K.In (hidT s₁.heap H) := fun b o e => base_of (KX b o e) (by
      cases q : H b with
      | none => rfl
      | some u =>
        have e' : b = a := hA b (by rw [q]; simp)
        subst e'
        rw [hK (by rw [q]; simp)] at e; cases e)
    have hM : Mod K mg (hidT s₁.heap H) := ⟨hKb, nsK hns, ⟨mb, nsK hb, hbb⟩, let ⟨mc, h1, h2⟩ := hlim; ⟨mc, nsK h1, h2⟩⟩
    have e0 : Env0 P w K mg (hidT s₁.heap H) callerA [] s₁ H := ⟨rfl, hM, fun b o e => of_hidT e, Nat.le_of_eq (hidT_size _ _), trivial, fun b hb => absurd (show b ∈ ([] : List Addr) from hb) (by simp), hok, .of_eq hg⟩
    refine codeAny_mono ((F _ hKb (nsK hns)).run callerA [] s₁ H ⟨[.ref a], []⟩ [.ref a] [.ref a] _ _ hr e0 (hbind s₁ (.ref a)) (.cons rfl .nil) (hsp H hO hS)) fun r s' h => ?_
    cases r with
    | error e => exact (hCX H e s' h).elim
    | ok fl =>
      cases fl with
      | next => exact False.elim h
      | brk => exact False.elim h
      | cont => exact False.elim h
      | ret u =>
        obtain ⟨v, H', os, bare, un, hok', r', q⟩ := h
        have q' : v = .bl true := q
        subst q'
        obtain rfl : u = Value.bool true := r'
        refine ⟨rfl, OldK.of_keep fun b o e => ?_, os, bare⟩
        cases q : H b with
        | none => exact un.keep b o e q (by intro z; exact absurd (show b ∈ ([] : List Addr) from z) (by simp)) (by simp)
        | some u =>
          rcases hO b with z | ⟨ob, xs, z⟩
          · rw [q] at z; cases z
          · have z2 := un.frzs b ob _ z
            obtain ⟨e1, _⟩ := hok b _ z
            obtain ⟨e2, _⟩ := hok' b _ z2
            rw [e] at e1; cases e1
            exact e2
  cases hk : K.lookup a with
  | some o =>
    -- the script is one of the module's own objects
    have e := KX a o hk
    rw [ha] at e
    cases e
    refine core (fun _ => none) (fun _ => .inl rfl) (.inr ⟨_, vs.toArray, _, hk, rfl, rfl, rfl, by rw [List.size_toArray, lenV]; exact hl, by simpa using rv⟩) (fun b u z => by have z' : (none : Option HO) = some u := z; cases z') (fun b z => absurd rfl z) fun z => absurd rfl z
  | none =>
    refine core (fun b => if b = a then some (.frz { cls := .type "list", data := .seq vs.toArray } (.lst (ns.map V.int))) else none) (fun b => ?_) (.inl (.inr ⟨{ cls := .type "list", data := .seq vs.toArray }, if_pos rfl⟩)) (fun b u z => ?_) (fun b z => ?_) fun _ => hk
    · by_cases hb : b = a
      · exact .inr ⟨_, _, if_pos hb⟩
      · exact .inl (if_neg hb)
    · by_cases hb : b = a
      · have z' := (if_pos hb).symm.trans z
        cases z'
        subst hb
        exact ⟨ha, by rw [List.length_map]; exact hl, vs, _, rv, ha⟩
      · have z' := (if_neg hb).symm.trans z
        cases z'
    · by_cases hb : b = a
      · exact hb
      · exact absurd (if_neg hb) z
end L2
namespace L2
open PySem PySem.Spec PyProof.Rows
/-- the goal that k_head leaves (case hc), from the law's promise. F gives the function object fd (K's own) once, then the promise over every base -/
theorem walk_of {l : PySem.W.OpenLaw} {n k : Nat} {q : Program} {loose : List Str} {XP : (Str → Option Value) → Heap → Prop} {YP : World → Heap → Prop} {d : DefRec} {K : Params → PySem.W.Frag} {CX : World → CXT} {sp : World → Sp} {x : Str}
    (hn : l.most = some n) (hn2 : n ≤ sizeLine) (hdf : d.params.defaults = []) (hr : Room k callerA)
    (hY : ∀ (w : World) (h : Heap), YP w h → (K w.params).In h)
    (F : ∀ (w : World) (mg : Str → Option Value) (fa : Addr) (h : Heap), (K w.params).In h → h.Ns mainGlobals mg → mg d.name = some (.ref fa) →
      ∃ fd : FuncData, (∀ (s : Shared) (u : Value), BindsTo s fd ⟨[u], []⟩ [(x, u)]) ∧
        ∀ base : Heap, (K w.params).In base → base.Ns mainGlobals mg → FnOk l.prog w (K w.params) mg base (CX w) k fa fd [x] (sp w))
    (hsp : ∀ (w : World) (H : Hp) (a : Addr) (ns : List Int), ns.length ≤ n → Only H → SqL (K w.params) H a (ns.map V.int) → sp w [.ref a] H (fun v _ => v = .bl true) fun _ _ _ => False)
    (hCX : ∀ (w : World) (H : Hp) (s : Shared) (e : Value) (s' : Shared), CX w [] H s (fun _ _ _ => False) e s' → False) :
    PySem.W.WalkO q loose XP YP l.row.toRowW d [] (fun f vs => PySem.call f vs) := by
  refine Att.attach_call hn hdf fun w s₀ s₁ mg mb fa o pm cd doc a vs ns G Y ho hd hcd hmg hobj hints hlen hg => ?_
  have KX := hY w _ Y
  obtain ⟨fd, hb, hF⟩ := F w mg fa _ KX G.T.g hmg
  exact law_call KX G.T.g G.T.b G.T.builtins G.T.nolimit hg hobj hints (Nat.le_trans hlen hn2) hr hF hb (fun H hO hS => hsp w H a ns hlen hO hS) fun H e s' => hCX w H s₁ e s'
end L2
namespace L2
open PySem PySem.Spec PyProof.Rows
/-- the j-th statement of a class's body -/
def inClass (s : Stmt) (j : Nat) : Stmt := match s with
  | .ClassDef _ _ _ body _ _ _ _ _ _ _ => body.getD j (.Pass ⟨0, 0, 0, 0⟩)
  | _ => .Pass ⟨0, 0, 0, 0⟩
def defArgs (s : Stmt) : Arguments := match s with
  | .FunctionDef _ a _ _ _ _ _ _ _ _ => a
  | _ => { posonlyargs := [], args := [], vararg := none, kwonlyargs := [], kw_defaults := [], kwarg := none, defaults := [] }
def defBody (s : Stmt) : List Stmt := match s with
  | .FunctionDef _ _ b _ _ _ _ _ _ _ => b
  | _ => []
def defScope (s : Stmt) : Scope := match s with
  | .FunctionDef _ _ _ _ _ _ sc _ _ _ => sc
  | _ => { kind := .function, names := [], isGenerator := false, isCoroutine := false }
abbrev CX0 : CXT := fun _ _ _ _ _ _ => False
abbrev E0 : XK := fun _ _ _ => False
theorem pass0 {X : Cx} : Passes CX0 X E0 := fun _ _ _ _ _ _ _ h => h.elim
structure Fun (K : PySem.W.Frag) (x qual : Str) (st : Stmt) (f : Addr) (fd : FuncData) : Prop where
  ex : ∃ (oc : Value) (od : Option Addr) (kV doc pm : Value) (an : Option Addr) (cdv ct : Value) (osl : Array (Option Value)),
    fd = PySem.W.fnOf x qual (defArgs st) (defBody st) (defScope st) .none kV doc pm an cdv ct ∧ K.lookup f = some ⟨oc, od, .func fd, osl⟩ ∧ PySem.W.codeIn K cdv qual = true
  kp : PySem.W.keepIn K (.ref f) = true
section
variable {P : Program} {w : World} {K : PySem.W.Frag} {mg : Str → Option Value} {base : Heap}
/-- THE RULE for a def: its body as a term of rules, and the reading of that term -/
theorem Fun.ok {x qual : Str} {st : Stmt} {f : Addr} {fd : FuncData} {N ps : List Str} {k : Nat} {sp : Sp} (F : Fun K x qual st f fd) (S : FnScope N ps (defScope st)) (len : ∀ vs H Q E, sp vs H Q E → vs.length = ps.length)
    (hbody : ∀ (cdv : Value) (A : Around) (outer : List Env) (s : Shared) (H : Hp) (vs : List V) (Q : VK) (E : XK), Room k (A.deeper (envOfC qual (defScope st) s.heap.objs.size f cdv)) → sp vs H Q E →
      ∃ t, PSs (cxOf CX0 P w K mg base N qual (defScope st) f cdv A outer s H E).nox (defBody st) t ∧ t { nx := fun _ H' => Q .non H', rt := Q } (start N vs) H) : FnOk P w K mg base CX0 (k + 1) f fd ps sp := by
  obtain ⟨oc, od, kV, doc, pm, an, cdv, ct, osl, rfl, lk, hcd⟩ := F.ex
  refine fn_of lk hcd S len fun A outer s H vs Q E hr hsp => ?_
  obtain ⟨t, h, q⟩ := hbody cdv A outer s H vs Q E hr hsp
  exact ⟨t, h.nox, q⟩
/-- how its arguments bind (no defaults): h is «fun _ _ _ _ _ _ us hl => match us, hl with | [_, _], _ => rfl», one _ a parameter -/
theorem Fun.binds {x qual : Str} {st : Stmt} {f : Addr} {fd : FuncData} {ps : List Str} (F : Fun K x qual st f fd)
    (h : ∀ (kV doc pm : Value) (an : Option Addr) (cdv ct : Value) (us : List Value), us.length = ps.length → bindArgs (PySem.W.fnOf x qual (defArgs st) (defBody st) (defScope st) .none kV doc pm an cdv ct) ⟨us, []⟩ = pure (ps.zip us)) : Binds K fd ps [] := by
  obtain ⟨oc, od, kV, doc, pm, an, cdv, ct, osl, rfl, lk, hcd⟩ := F.ex
  exact .all (h kV doc pm an cdv ct)
theorem fun_mk {x qual : Str} {st : Stmt} {f : Addr} {oc : Value} {od an : Option Addr} {osl : Array (Option Value)} {kV doc pm cdv ct : Value} (l : K.lookup f = some ⟨oc, od, .func (PySem.W.fnOf x qual (defArgs st) (defBody st) (defScope st) .none kV doc pm an cdv ct), osl⟩)
    (c : PySem.W.codeIn K cdv qual = true) (k : PySem.W.keepIn K (.ref f) = true) : Fun K x qual st f (PySem.W.fnOf x qual (defArgs st) (defBody st) (defScope st) .none kV doc pm an cdv ct) := ⟨⟨oc, od, kV, doc, pm, an, cdv, ct, osl, rfl, l, c⟩, k⟩
end
section
variable {X : Cx}
theorem pv (i : Nat) {x : Str} {pos : Pos} (hN : X.N[i]? = some x := by rfl) (hv : Vis X.env.scope x := by first | exact Or.inl rfl | exact Or.inr (Or.inl rfl) | exact Or.inr (Or.inr rfl)) (hd : (x == ("__debug__" : Str)) = false := by decide)
    (hcd : (x == ("__classdict__" : Str)) = false := by decide) : PE X (.Name x pos) (tVar i) := pe_var hN hv hd hcd
end
/-- all that was tracked is as it was -/
def Same (H H' : Hp) : Prop := ∀ b o, H b = some o → H' b = some o
theorem Same.refl (H : Hp) : Same H H := fun _ _ h => h
theorem Same.trans {H H1 H2 : Hp} (a : Same H H1) (b : Same H1 H2) : Same H H2 := fun c o h => b c o (a c o h)
theorem Same.free {H H' : Hp} (e : Same H H') {l : Addr} (h : H' l = Option.none) : H l = Option.none := by
  cases q : H l with
  | none => rfl
  | some o =>
    rw [e l o q] at h
    cases h
theorem Same.seq {K : PySem.W.Frag} {H H' : Hp} {a : Addr} {xs : List V} (e : Same H H') (h : SqL K H a xs) : SqL K H' a xs := by
  rcases h with (h | ⟨o, h⟩) | h
  · exact .inl (.inl (e _ _ h))
  · exact .inl (.inr ⟨o, e _ _ h⟩)
  · exact .inr h
section
variable {κ : Type} [DecidableEq κ]
end
/-- a new instance and its __init__ leave all that was tracked as it was -/
theorem Same.made {H H1 : Hp} {x dx C : Addr} (nx : H x = Option.none) (nd : H dx = Option.none) (k : ∀ b o, (upd (upd H dx (.own x)) x (.ins C dx [])) b = some o → b ≠ x → H1 b = some o) : Same H H1 := fun b o e =>
  k b o (by rw [upd_ne (ne_of_none e nx), upd_ne (ne_of_none e nd)]; exact e) (ne_of_none e nx)
end L2
namespace ZX
open PySem PySem.Spec PySem.W L2
open PyProof.Rows hiding St
theorem obj_there {P : Program} {w : World} {H : Hp} {h : Heap} {a : Addr} {o : HO} (x : ObjOk P w H h a o) : ∃ u, h.get? a = some u := by
  cases o with
  | lst xs => obtain ⟨_, _, _, _, e⟩ := x; exact ⟨_, e⟩
  | tup xs => obtain ⟨_, _, _, ob, e, _⟩ := x; exact ⟨_, e⟩
  | dK kvs => obtain ⟨_, _, _, _, o, _, _, e, _⟩ := x; exact ⟨_, e⟩
  | dT kvs => obtain ⟨_, _, _, _, o, _, _, e, _⟩ := x; exact ⟨_, e⟩
  | set S n => obtain ⟨o, _, _, _, e, _⟩ := x; exact ⟨_, e⟩
  | ins C dx fs => obtain ⟨_, _, _, e, _⟩ := x; exact ⟨_, e⟩
  | own y => exact x
  | xd fs => obtain ⟨_, ⟨_, _, _, e, _⟩, _⟩ := x; exact ⟨_, e⟩
  | rng lo hi => obtain ⟨_, _, _, e⟩ := x; exact ⟨_, e⟩
  | frz ob u => obtain ⟨e, _⟩ := x; exact ⟨_, e⟩
  | tbl ps => exact ⟨_, (show h.get? a = some _ from x)⟩
  | met f y => exact ⟨_, (show h.get? a = some _ from x)⟩
  | ext φ => obtain ⟨_, e, _⟩ := x; exact e
/-- an exception's object: its class, its dict, its arguments, its trace; no context, no cause -/
def exO (C : Value) (d : Option Addr) (a0 tb : Value) : Obj := { cls := C, dict := d, data := .fields #[a0, tb, .none, .none, .bool false, .none] }
/-- its last entry, marked by fl -/
def Trc (h base : Heap) (e : Addr) (C : Value) (d : Option Addr) (a0 fl : Value) : Prop :=
  ∃ T oT ts, h.get? e = some (exO C d a0 (.ref T)) ∧ base.get? T = none ∧ T ≠ e ∧ h.get? T = some oT ∧ oT.data = .fields ts ∧ ts[3]? = some fl
structure Flg (base : Heap) (l : List Env) (e : Addr) (C : Value) (d : Option Addr) (a0 fl : Value) (h : Heap) : Prop where
  st : base.StaysIn h
  nw : base.get? e = none
  fr : h.FunFrames base l
  tr : Trc h base e C d a0 fl
section
variable {M : Model} {A : Around} {E : Value → Shared → Prop} {s : Shared} {base : Heap} {env : Env} {outer l : List Env} {L e : Addr} {C a0 tb fl : Value} {d : Option Addr} {Q : Unit → Shared → Prop}
end
/-- what stands still while e flies over the frames l: since (H, s) the tracked heap went to H' -/
structure Flt (P : Program) (w : World) (l : List Env) (H H' : Hp) (s s' : Shared) (e : Addr) (C : Value) (d : Option Addr) (a0 fl : Value) : Prop where
  os : s'.os = s.os
  bare : AllBare s'.gens
  un : Un (frs l) [] H H' s.heap s'.heap
  hok : HOk P w H' s'.heap
  fly : ∃ B, Flg B l e C d a0 fl s'.heap ∧ (∀ b o, s.heap.get? b = some o → H b = none → b ∉ frs l → B.get? b = some o) ∧
    (∀ b o, H' b ≠ none → s'.heap.get? b = some o → B.get? b = some o) ∧ ∀ b o, s.heap.get? b = some o → b ∉ frs l → ∃ o', B.get? b = some o'
section
variable {P : Program} {w : World} {X : Cx} {pins : List (Addr × Obj)} {σ : List (Option V)} {H H' H1 H2 : Hp} {s s1 s2 : Shared} {l : List Env} {e : Addr} {C a0 fl : Value} {d : Option Addr} {Q : Unit → Shared → Prop} {E : Value → Shared → Prop}
theorem Flg.tail {B h : Heap} {env : Env} {l : List Env} (F : Flg B (env :: l) e C d a0 fl h) : Flg B l e C d a0 fl h := by
  obtain ⟨a, b, ⟨_, _, c⟩, f⟩ := F
  exact ⟨a, b, c, f⟩
end
end ZX
namespace ZX
open PySem PySem.Spec PySem.Calls PySem.W
open PyProof.Rows hiding St
section
variable {prog : Program} {w : World} {A : Around} {E : Value → Shared → Prop} {s : Shared} {K : Frag} {x D : Addr} {ox : Obj} {odo : Option Obj}
theorem bga_check {M : Model} {nv : Value} {Q : Unit → Shared → Prop} (X : K.In s.heap) (I : InstAt s.heap x ox D odo) (hm : mroIn K D (.type "BaseException") = some true) (h : Q () s) :
    wpAny M A (checkBuiltinCall "BaseException.__getattribute__" ⟨[.ref x, nv], []⟩) Q E s := by
  obtain ⟨hh, g, d, t, os⟩ := s
  have hk : builtinKind "BaseException.__getattribute__" = some .slot := by decide +kernel
  have hsp : splitId "BaseException.__getattribute__" = some ("BaseException", "__getattribute__") := by decide +kernel
  have L0 := I.type (M := M)
  have L1 := looks_mroIn (M := M) X hm
  have ha := F.args_bexc_ga (.ref x) nv
  simp only [checkBuiltinCall, hk, hsp]
  refine wpAny_bind ?_
  unfold isInstance
  repeat lk
  exact h
theorem bga_entry {tk : Tok} {Q : Fin → Shared → Prop} (X : K.In s.heap) (I : InstAt s.heap x ox D odo) (hm : mroIn K D (.type "object") = some true)
    (hf : findObj K D odo "__class__" = some (.bind (.builtin "getset_descriptor.__get__") (.builtin "object.__class__"))) (h : Q (.done (.ret (.ref D))) s) :
    wpAny (model prog w) A (Builtin.«object.__getattribute__» ⟨[.ref x, .str "__class__" tk], []⟩) Q E s := by
  obtain ⟨hh, g, d, t, os⟩ := s
  have L0 := I.type (M := model prog w)
  have L1 := looks_find (M := model prog w) X I hf
  unfold Builtin.«object.__getattribute__»
  iterate 14 lk
  refine wpAny_bind (L0.at (wpAny_bind (L1.at ?_)))
  show wpAny _ _ (holding [Value.builtin "object.__class__"] (call (.builtin "getset_descriptor.__get__") [.builtin "object.__class__", .ref x, .ref D]) >>= ret) _ _ _
  exact wpAny_bind (wpAny_holding (wpAny_call (class_get (s := ⟨hh, g, d, t, os⟩) (ox := ox) (od := odo) X I hm (wpAny_pure h))))
theorem exc_class {Q : Option Value → Shared → Prop} (X : K.In s.heap) (I : InstAt s.heap x ox D odo) (hga : findIn K (.ref D) "__getattribute__" = some (some (.builtin "BaseException.__getattribute__")))
    (hk : findIn K (.ref D) "__getattr__" = some none) (hmB : mroIn K D (.type "BaseException") = some true) (hm : mroIn K D (.type "object") = some true)
    (hf : findObj K D odo "__class__" = some (.bind (.builtin "getset_descriptor.__get__") (.builtin "object.__class__"))) (h : Q (some (.ref D)) { s with toks := s.toks + 1 }) :
    wpAny (model prog w) A (getAttr? (.ref x) "__class__") Q E s := by
  obtain ⟨hh, g, d, t, os⟩ := s
  have L0 := I.type (M := model prog w)
  have L1 := looks_findIn (M := model prog w) X hga
  have L2 := looks_findIn (M := model prog w) X hk
  unfold getAttr? getAttrBy? getAttrBy
  refine wpAny_bind (wpAny_mkText (wpAny_bind (wpAny_attempt (wpAny_holding (wpAny_bind (L0.at (wpAny_bind (L1.at ?_))))))))
  have hx2 : (Value.builtin "BaseException.__getattribute__" == Value.builtin "object.__getattribute__") = false := by decide +kernel
  show wpAny _ _ (if (onTheHeap (Value.ref D) && Value.builtin "BaseException.__getattribute__" == Value.builtin "object.__getattribute__") = true then _ else _) _ _ _
  rw [hx2, Bool.and_false, if_neg Bool.false_ne_true]
  unfold getAttrByItsOwn hookBefore
  refine wpAny_bind ?_
  show wpAny _ _ (typeLookup (.ref D) "__getattr__") _ _ _
  refine L2.at ?_
  refine wpAny_bind (wpAny_attempt (wpAny_holding ?_))
  show wpAny _ _ (boundAndCalled (.builtin "BaseException.__getattribute__") (.ref x) _) _ _ _
  unfold boundAndCalled
  rw [F.excAttr_ValueError.ga.bind (.ref x)]
  refine wpAny_bind (wpAny_pure (wpAny_call (codeAny_call_builtin F.excAttr_ValueError.ga.plain F.entry_bexc_ga (bga_check (s := ⟨hh, g, d, t + 1, os⟩) X I hmB (bga_entry (s := ⟨hh, g, d, t + 1, os⟩) X I hm hf ?_)))))
  exact wpAny_pure (wpAny_pure h)
/-- an exception of an own class, for isinstance -/
structure KX (K : Frag) (D : Addr) : Prop where
  hga : findIn K (.ref D) "__getattribute__" = some (some (.builtin "BaseException.__getattribute__"))
  hk : findIn K (.ref D) "__getattr__" = some none
  hmB : mroIn K D (.type "BaseException") = some true
  hm : mroIn K D (.type "object") = some true
  hc : (clsIn K D).isSome = true
  ha : findIn K (.ref D) "__class__" = some (some (.builtin "object.__class__"))
  hn : specialIn K (.builtin "object.__class__") "__get__" = some (some (.builtin "getset_descriptor.__get__"))
  ht : takesIn K (.builtin "object.__class__") = some true
theorem KX.find (Z : KX K D) : findObj K D odo "__class__" = some (.bind (.builtin "getset_descriptor.__get__") (.builtin "object.__class__")) := by
  obtain ⟨cd, e⟩ := Option.isSome_iff_exists.mp Z.hc
  unfold findObj
  rw [e, Option.bind_some, Z.ha, Option.bind_some]
  simp [Z.hn, Z.ht]
theorem kitx_exc (Z : KX K D) (no : notCls ox = true) (hcl : ox.cls = .ref D) (hd : ox.dict = none) : KitX K (.ref x) (.ref D) (fun h => h.get? x = some ox) where
  ty := fun M h X p => (InstAt.mk (od := none) p hcl no (by rw [hd]; trivial)).type
  it := fun _ _ X _ => by
    obtain ⟨cd, hc⟩ := Option.isSome_iff_exists.mp Z.hc
    unfold clsIn at hc
    split at hc
    · rename_i ho
      intro A' Q' E' s' k q
      unfold isType loadHead
      exact wpAny_bind (wpAny_loadPart (k _ _ (X _ _ ho)) (wpAny_pure q))
    · cases hc
  ne := fun h tp dd its n sl X htp => by
    obtain ⟨cd, hc⟩ := Option.isSome_iff_exists.mp Z.hc
    refine Bool.eq_false_iff.mpr fun q => ?_
    obtain rfl : D = tp := Value.ref.inj (beq_iff_eq.mp q)
    unfold clsIn at hc
    split at hc
    · rename_i ho
      have z := (X _ _ ho).symm.trans htp
      cases z
    · cases hc
  ca := fun X p k => exc_class X (InstAt.mk (od := none) p hcl no (by rw [hd]; trivial)) Z.hga Z.hk Z.hmB Z.hm Z.find k
end
end ZX
namespace ZX
open PySem PySem.Spec PySem.W L2
open PyProof.Rows hiding St
/-- a tracked object that never changes -/
def XF (o : Obj) : HO := .frz o (.own 0)
/-- nothing is handled, or an exception without a context that is tracked -/
def HdOk (A : Around) (H : Hp) : Prop := A.handled = none ∨ ∃ e C d a0 tb, A.handled = some (.ref e) ∧ H e = some (XF (exO C d a0 tb))
def HdAt (A : Around) (h : Heap) : Prop := A.handled = none ∨ ∃ e C d a0 tb, A.handled = some (.ref e) ∧ h.get? e = some (exO C d a0 tb)
theorem HdOk.heap {P : Program} {w : World} {A : Around} {H : Hp} {h : Heap} (x : HdOk A H) (k : HOk P w H h) : HdAt A h := by
  rcases x with x | ⟨e, C, d, a0, tb, x, y⟩
  · exact .inl x
  · exact .inr ⟨e, C, d, a0, tb, x, (k e _ y).1⟩
section
variable {prog : Program} {w : World} {A : Around} {E : Value → Shared → Prop} {s : Shared}
end
section
variable {X : Cx} {tg : Expr}
end
end ZX
namespace ZX
open PySem PySem.Spec PySem.W L2
open PyProof.Rows hiding St
/-- how an exception lies behind a def -/
def CXr (P : Program) (w : World) : CXT := fun outer H s E ev s' => ∃ e C a0 H', ev = .ref e ∧ Flt P w outer H H' s s' e (.ref C) none a0 .none ∧ E (.ref e) (some C) H'
section
variable {X : Cx} {CX : CXT} {k : Nat} {f : Addr} {fd : FuncData} {ps : List Str} {sp : Sp} {dvs : List V} {ds : List Value} {x : Str} {p pos : Pos} {e : Expr} {es : List Expr} {t : TA}
/-- an own class of error, without an __init__ of its own, below ValueError -/
def bmVE : List Value := [.type "ValueError", .type "Exception", .type "BaseException", .type "object"]
structure OwnX (K : PySem.W.Frag) (mg : Str → Option Value) (x : Str) (C : Addr) : Prop where
  bound : mg x = some (.ref C)
  exc : PySem.W.excIn K C bmVE "ValueError.__new__" = true
theorem OwnX.cls {K : PySem.W.Frag} {mg : Str → Option Value} {x : Str} {C : Addr} {h : Heap} (O : OwnX K mg x C) (KX : K.In h) : OwnCls x C bmVE "ValueError.__new__" mg h := by
  refine ⟨O.bound, ?_⟩
  have q := O.exc
  unfold PySem.W.excIn at q
  split at q
  · rename_i dd cd sl ho
    split at q
    · rename_i C' bm k0 k1 k2 k3 n k5 hm hs
      simp only [Bool.and_eq_true, beq_iff_eq, Bool.not_eq_true'] at q
      obtain ⟨⟨⟨⟨⟨rfl, rfl⟩, hdel⟩, ht⟩, hok⟩, hni⟩ := q
      obtain ⟨nm, bs, mro, ns, qn, hd, sn, sub, ab, col, del⟩ := cd
      dsimp only at hm hdel hok hni
      subst hm hdel
      have hsl : sl = #[k0, k1, k2, k3, some (.builtin "ValueError.__new__"), k5] := by
        obtain ⟨l⟩ := sl
        simp only at hs
        rw [hs]
      subst hsl
      exact ⟨bm, ns, nm, qn, bs, hd, sn, sub, ab, col, dd, k0, k1, k2, k3, k5, _, KX _ _ ho, .of_isNs (PySem.W.isNs_of_in KX hok), PySem.W.nsMap_none_of_in KX hok hni, PySem.W.tail_of_in KX ht⟩
    · cases q
  · cases q
end
structure RoomH (k : Nat) (A : Around) : Prop where
  dp : A.depth + 3 * k + 5 < recursionLimit
  un : A.units + 16 * k + 200 < cLine
theorem RoomH.of {k : Nat} {A : Around} (r : Room k A) : RoomH k A := ⟨r.dp, r.un⟩
theorem RoomH.mono {j k : Nat} {A : Around} (r : RoomH k A) (h : j ≤ k) : RoomH j A := ⟨by have := r.dp; omega, by have := r.un; omega⟩
theorem RoomH.deeper {k : Nat} {A : Around} (r : RoomH (k + 1) A) (env : Env) : RoomH k (A.deeper env) := ⟨by have := r.dp; show A.depth + 1 + 3 * k + 5 < _; omega, by have := r.un; show A.units + 3 + 16 * k + 200 < _; omega⟩
theorem RoomH.depth {k : Nat} {A : Around} (r : RoomH k A) : A.depth < recursionLimit := by have := r.dp; omega
theorem RoomH.units {k : Nat} {A : Around} (r : RoomH k A) : A.units + 64 < cLine := by have := r.un; omega
structure FnOkH (P : Program) (w : World) (K : PySem.W.Frag) (mg : Str → Option Value) (base : Heap) (k : Nat) (f : Addr) (fd : FuncData) (ps : List Str) (sp : Sp) : Prop where
  len : ∀ vs H Q E, sp vs H Q E → vs.length = ps.length
  run : ∀ (A : Around) (outer : List Env) (s : Shared) (H : Hp) (args : Args) (us : List Value) (vs : List V) (Q : VK) (E : XK), RoomH k A → HdOk A H → Env0 P w K mg base A outer s H → BindsTo s fd args (ps.zip us) → Vals vs us → sp vs H Q E → codeAny (model P w) A (.call (.ref f) args) (CR CX0 outer P w H s Q E) s
/-- another mark, another wish -/
def Cx.hx (X : Cx) (A : Around) (E : Value → Shared → Prop) : Cx := { X with A := A, calm := false, xe := E }
theorem Inv.hx {X : Cx} {pins : List (Addr × Obj)} {σ : List (Option V)} {H : Hp} {s : Shared} {A : Around} {E : Value → Shared → Prop} (I : Inv X pins σ H s) (hf : A.frames = X.A.frames) : Inv (Cx.hx X A E) pins σ H s :=
  ⟨⟨I.ok.mod, I.ok.kind, I.ok.glob, I.ok.blt, I.ok.above, I.ok.inj, I.ok.has, I.ok.cab, fun z => Bool.noConfusion z, hf.trans I.ok.frames, I.ok.stk, I.ok.exf, I.ok.bs, I.ok.bsz, I.ok.noex, I.ok.exfs, I.ok.funs, I.ok.frf⟩, I.os, I.bare, I.base, I.loc, I.cell, I.free, I.freeC, I.pin, I.hok, I.len⟩
end ZX
namespace ZX
open PySem PySem.Spec PySem.W L2
open PyProof.Rows hiding St
section
variable {X : Cx} {pins : List (Addr × Obj)} {σ : List (Option V)} {H H1 H2 : Hp} {s s1 s2 : Shared} {e : Addr} {C a0 fl : Value} {d : Option Addr}
/-- in flight at a place of X: just made here, or come out of a call -/
def FlyL (X : Cx) (pins : List (Addr × Obj)) (σ : List (Option V)) (H : Hp) (e C : Addr) (s : Shared) : Prop :=
  (∃ s1 h' args, Inv X pins σ H s1 ∧ Heap.MadeExcOf s1.heap h' e (.ref C) args ∧ s = { s1 with heap := h' }) ∨ ∃ H1 s1 a0, Inv X pins σ H1 s1 ∧ Flt X.prog X.w X.stack H1 H s1 s e (.ref C) none a0 .none
section
variable {C W : Addr} {x n : Str} {np hpos : Pos} {b₀ : Stmt} {suite : List Stmt} {rest : List ExceptHandler} {i : Nat} {a0 : Value} {Q : Flow → Shared → Prop}
end
end
end ZX
namespace ZX
open PySem PySem.Spec PySem.W L2
open PyProof.Rows hiding St
def excInitIn (K : Frag) (C : Addr) (bmB : List Value) (newId : String) (fI : Addr) : Bool := match K.lookup C with
  | some ⟨.type "type", _, .cls cd, sl⟩ => (match cd.mro, sl.toList with
    | .ref C' :: bm, [_, _, _, _, some (.builtin n), _] => C' == C && n == newId && !cd.hasDel && tailIn K bmB bm && nsOkIn K cd.ns && nsIn K cd.ns "__init__" == some (some (.ref fI))
    | _, _ => false)
  | _ => false
theorem ns_some_of {K : Frag} {h : Heap} {N : Addr} {mg : Str → Option Value} {n : Str} {v : Value} (X : K.In h) (G : h.Ns N mg) (e : nsIn K N n = some (some v)) : mg n = some v := by
  obtain ⟨o, es, ep, ho, hd, _, hf⟩ := G
  unfold nsIn at e
  split at e
  · rename_i c d es' n' sl q
    have := X _ _ q
    rw [ho] at this
    cases this
    cases hd
    split at e
    · rename_i he
      rw [← hf]
      unfold nsFind findBy
      rw [← Array.find?_toList, he]
      exact Option.some.inj e
    · split at e <;> exact absurd e (by simp)
  · cases e
structure OwnI (K : Frag) (mg : Str → Option Value) (x : Str) (C fI : Addr) : Prop where
  bound : mg x = some (.ref C)
  exc : excInitIn K C bmVE "ValueError.__new__" fI = true
  fn : isFn K (.ref fI) = true
  kp : keepIn K (.ref C) = true
section
variable {prog : Program} {w : World} {A : Around} {E : Value → Shared → Prop} {h : Heap} {g : Array GenState} {d : Drawn} {t : Nat} {os : OsState}
variable {nm q : Str} {C N : Addr} {bs bm bmB : List Value} {hdct : Bool} {sn : List Str} {sub : List Value} {ab : Bool} {col : Option Bool} {dd : Option Addr} {k0 k1 k2 k3 k5 : Option Value} {B Bn newId nid initId inN : String} {bmN : List Value}
theorem type_call_initU (Fn : ExcBaseFacts Bn newId inN bmN) (hBn : bmB.contains (.type Bn) = true) (F : ExcBaseFacts B nid initId bmB) (T : OwnTail h bmB bm) {mN : Str → Option Value} {rest : List Value} {fI : Addr} {oI : Obj} {Q : Fin → Shared → Prop}
    (hC : h.get? C = some (excClassObj nm q C N bs bm hdct sn sub ab col dd k0 k1 k2 k3 k5 newId)) (hn : h.Ns N mN) (hi : mN "__init__" = some (.ref fI)) (hfI : h.get? fI = some oI) (hfc : oI.cls = .type "function")
    (hq : ∀ h' e, Heap.MadeExcOf h h' e (.ref C) rest → wpAny (model prog w) A (call (.ref fI) (.ref e :: rest)) (fun r s' => r = .none ∧ Q (.done (.ret (.ref e))) s') E ⟨h', g, d, t, os⟩) (hrest : rest.length ≤ sizeLine) :
    wpAny (model prog w) A (Builtin.«type.__call__» ⟨.ref C :: rest, []⟩) Q E ⟨h, g, d, t, os⟩ := by
  repeat (first | with_reducible refine wpAny_loadPart_at hC ?_ | with_reducible refine wpAny_madeBy_exc hC ?_ | wp_step)
  refine codeAny_call_builtin_code (Code.quiet_builtin _ Fn.quiet) (wpAny_check_new_subU Fn hBn T hC ?_)
  refine codeAny_exc_new_subU Fn hBn F T hC ?_ hrest
  show wpAny _ _ _ _ _ _
  have hC₁ := Heap.get?_push_of_some { cls := .ref C, data := .fields #[.ref h.objs.size, .none, .none, .none, .bool false, .none] }
    (Heap.get?_push_of_some { cls := .type "tuple", data := .seq rest.toArray } hC)
  have hfI₁ := Heap.get?_push_of_some { cls := .ref C, data := .fields #[.ref h.objs.size, .none, .none, .none, .bool false, .none] }
    (Heap.get?_push_of_some { cls := .type "tuple", data := .seq rest.toArray } hfI)
  have hn₁ : ((h.push { cls := .type "tuple", data := .seq rest.toArray }).push { cls := .ref C, data := .fields #[.ref h.objs.size, .none, .none, .none, .bool false, .none] }).Ns N mN :=
    let ⟨o, es, ep, e, r⟩ := hn; ⟨o, es, ep, Heap.get?_push_of_some _ (Heap.get?_push_of_some _ e), r⟩
  have hget : ((h.push { cls := .type "tuple", data := .seq rest.toArray }).push
      { cls := .ref C, data := .fields #[.ref h.objs.size, .none, .none, .none, .bool false, .none] }).get? (h.objs.size + 1) = some
      { cls := .ref C, data := .fields #[.ref h.objs.size, .none, .none, .none, .bool false, .none] } := by heap_get
  have hcC : (Value.ref C :: bm).contains (.ref C) = true := by simp
  have T₁ := T.keeps (h' := (h.push { cls := .type "tuple", data := .seq rest.toArray }).push { cls := .ref C, data := .fields #[.ref h.objs.size, .none, .none, .none, .bool false, .none] })
    fun b o e => Heap.get?_push_of_some _ (Heap.get?_push_of_some _ e)
  unfold isInstance
  repeat (first | with_reducible refine wpAny_loadPart_at hget ?_ | (with_reducible refine wpAny_isSubtype_exc hC₁ ?_; rw [hcC]) | wp_step)
  show wpAny _ _ (typeLookup (.ref C) _) _ _ _
  refine wpAny_typeLookup_tail hC₁ hn₁ T₁ F.mroIs F.init.lookup ?_
  rw [hi]
  refine wpAny_holding (wpAny_bind ?_)
  unfold bindSpecial
  refine wpAny_bind (wpAny_typeOf (T := "function") ⟨_, hfI₁, hfc⟩ ?_)
  rw [if_pos (by decide)]
  refine wpAny_pure (wpAny_bind (wpAny_mono (hq _ (h.objs.size + 1) ⟨fun b o hb => Heap.get?_push_of_some _ (Heap.get?_push_of_some _ hb), Heap.get?_none_of_le (Nat.le_succ _), h.objs.size, hget, Heap.get?_none_of_le (Nat.le_refl _), ?_⟩) (fun r s' hr => ?_) fun _ _ x => x))
  · exact Heap.get?_push_of_some _ (Heap.get?_push_at rfl rfl)
  · obtain ⟨rfl, hQ⟩ := hr
    wp_walk
    exact hQ
theorem call_initU (Fn : ExcBaseFacts Bn newId inN bmN) (hBn : bmB.contains (.type Bn) = true) (F : ExcBaseFacts B nid initId bmB) (T : OwnTail h bmB bm) {mN : Str → Option Value} {rest : List Value} {fI : Addr} {oI : Obj} {Q : Value → Shared → Prop}
    (hC : h.get? C = some (excClassObj nm q C N bs bm hdct sn sub ab col dd k0 k1 k2 k3 k5 newId)) (hn : h.Ns N mN) (hi : mN "__init__" = some (.ref fI)) (hfI : h.get? fI = some oI) (hfc : oI.cls = .type "function")
    (hq : ∀ h' e, Heap.MadeExcOf h h' e (.ref C) rest → wpAny (model prog w) (A.under (.builtin "type.__call__" ⟨.ref C :: rest, []⟩)) (call (.ref fI) (.ref e :: rest)) (fun r s' => r = .none ∧ Q (.ref e) s') E ⟨h', g, d, t, os⟩) (hrest : rest.length ≤ sizeLine) :
    wpAny (model prog w) A (call (.ref C) rest) Q E ⟨h, g, d, t, os⟩ := by
  have f1 := tc_lookup
  have f2 := tc_bind (.ref C)
  have hT : (⟨h, g, d, t, os⟩ : Shared).TypeIs (.ref C) "type" := ⟨_, hC, rfl⟩
  refine wpAny_call (codeAny_of_tree ?_)
  show wpAny _ _ (callAny (.ref C) _) _ _ _
  repeat (any_goals (first | assumption | with_reducible refine wpAny_loadPart_at hC ?_ | wp_step))
  refine ⟨rfl, ?_⟩
  refine codeAny_call_builtin_at (Code.quiet_builtin _ (by decide +kernel)) entry_typeCall (wpAny_check_type_call_sub hC (type_call_initU Fn hBn F T hC hn hi hfI hfc (fun h' e hm => ?_) hrest))
  exact hq h' e hm
end
section
variable {prog : Program} {w : World} {A : Around} {E : Value → Shared → Prop} {s : Shared} {K : Frag} {mg : Str → Option Value} {x : Str} {C fI : Addr}
/-- C(..) of a class without an __init__ of its own -/
theorem call_own {rest : List Value} {Q : Value → Shared → Prop} (O : OwnX K mg x C) (X : K.In s.heap) (hq : ∀ h' e, Heap.MadeExcOf s.heap h' e (.ref C) rest → Q (.ref e) { s with heap := h' }) (hrest : rest.length ≤ sizeLine) :
    wpAny (model prog w) A (call (.ref C) rest) Q E s := by
  obtain ⟨hh, g, d, t, os⟩ := s
  obtain ⟨tl, N, nm, q, bs, hdct, sn, sub, ab, col, dd, k0, k1, k2, k3, k5, mN, hC, hN, hni, T⟩ := (O.cls X).obj
  exact wpAny_call_exc_subU PySem.F.excBase_ValueError (by decide +kernel) PySem.F.excBase_ValueError T hC hN hni hq hrest
theorem OwnI.cls {h : Heap} (O : OwnI K mg x C fI) (X : K.In h) : ∃ tl N nm q bs hdct sn sub ab col dd k0 k1 k2 k3 k5 mN, h.get? C = some (excClassObj nm q C N bs tl hdct sn sub ab col dd k0 k1 k2 k3 k5 "ValueError.__new__") ∧ h.Ns N mN ∧ mN "__init__" = some (.ref fI) ∧ OwnTail h bmVE tl := by
  have q := O.exc
  unfold excInitIn at q
  split at q
  · rename_i dd cd sl ho
    split at q
    · rename_i C' bm k0 k1 k2 k3 n k5 hm hs
      simp only [Bool.and_eq_true, beq_iff_eq, Bool.not_eq_true'] at q
      obtain ⟨⟨⟨⟨⟨rfl, rfl⟩, hdel⟩, ht⟩, hok⟩, hni⟩ := q
      obtain ⟨nm, bs, mro, ns, qn, hd, sn, sub, ab, col, del⟩ := cd
      dsimp only at hm hdel hok hni
      subst hm hdel
      have hsl : sl = #[k0, k1, k2, k3, some (.builtin "ValueError.__new__"), k5] := by
        obtain ⟨l⟩ := sl
        simp only at hs
        rw [hs]
      subst hsl
      have N := (Heap.Ns.of_isNs (isNs_of_in X hok))
      exact ⟨bm, ns, nm, qn, bs, hd, sn, sub, ab, col, dd, k0, k1, k2, k3, k5, _, X _ _ ho, N, ns_some_of X N hni, tail_of_in X ht⟩
    · cases q
  · cases q
/-- C(..) of a class with one -/
theorem call_ownI {rest : List Value} {Q : Value → Shared → Prop} (O : OwnI K mg x C fI) (X : K.In s.heap)
    (hq : ∀ h' e, Heap.MadeExcOf s.heap h' e (.ref C) rest → wpAny (model prog w) (A.under (.builtin "type.__call__" ⟨.ref C :: rest, []⟩)) (call (.ref fI) (.ref e :: rest)) (fun r s' => r = .none ∧ Q (.ref e) s') E { s with heap := h' }) (hrest : rest.length ≤ sizeLine) :
    wpAny (model prog w) A (call (.ref C) rest) Q E s := by
  obtain ⟨hh, g, d, t, os⟩ := s
  have hfn := beq_iff_eq.mp O.fn
  obtain ⟨oI, ho', hfc⟩ := Option.map_eq_some_iff.mp (show (K.lookup fI).map (·.cls) = some (.type "function") from hfn)
  obtain ⟨tl, N, nm, q, bs, hdct, sn, sub, ab, col, dd, k0, k1, k2, k3, k5, mN, hC, hN, hi, T⟩ := O.cls X
  exact call_initU PySem.F.excBase_ValueError (by decide +kernel) PySem.F.excBase_ValueError T hC hN hi (X _ _ ho') hfc hq hrest
end
section
variable {prog : Program} {w : World} {A : Around} {E : Value → Shared → Prop} {s : Shared} {K : Frag} {mg : Str → Option Value} {x : Str} {C fI e : Addr} {a0 tb : Value} {d : Option Addr}
theorem init_ve {rest : List Value} {u : Addr} {Q : Value → Shared → Prop} (O : OwnI K mg x C fI) (X : K.In s.heap) (he : s.heap.get? e = some (exO (.ref C) d (.ref u) tb)) (hrest : rest.length ≤ sizeLine)
    (hq : ∀ h' t, (∀ b o, b ≠ e → s.heap.get? b = some o → h'.get? b = some o) → s.heap.objs.size ≤ t → h'.get? t = some { cls := .type "tuple", data := .seq rest.toArray } → h'.get? e = some (exO (.ref C) d (.ref t) tb) → Q .none { s with heap := h' }) :
    wpAny (model prog w) A (call (.builtin "ValueError.__init__") (.ref e :: rest)) Q E s := by
  have F := PySem.F.excBase_ValueError
  obtain ⟨hh, g, dr, t, os⟩ := s
  obtain ⟨tl, N, nm, q, bs, hdct, sn, sub, ab, col, dd, k0, k1, k2, k3, k5, mN, hC, hN, hi, T⟩ := O.cls X
  have hget := Heap.get?_push_of_some { cls := .type "tuple", data := .seq rest.toArray } he
  refine wpAny_call (codeAny_call_builtin F.init.plain F.initEntry (wpAny_check_init_subU F T hC he rfl ?_))
  wp_walk
  refine hq _ hh.objs.size (fun b o hb q => ?_) (Nat.le_refl _) ?_ ?_
  · rw [Heap.get?_update_other _ _ (Ne.symm hb)]
    exact Heap.get?_push_of_some _ q
  · rw [Heap.get?_update_other _ _ (Nat.ne_of_lt (Heap.lt_size he))]
    exact Heap.get?_push_at rfl rfl
  · rw [Heap.get?_update_self _ hget rfl]
    rfl
def refsVE : List Value → Bool
  | .ref _ :: r => refsVE r
  | l => l == bmVE
theorem refuse_ve (self : Value) : ∀ {l : List Value}, refsVE l = true → refuseLoop self "__setattr__" l = pure ()
  | [], e => by cases e
  | v :: r, e => by
    cases v with
    | ref c => rw [refuseLoop_ref]; exact refuse_ve self (l := r) e
    | _ => have h := beq_iff_eq.mp e; rw [h]; exact PySem.F.store_ValueError.passes self
theorem refs_has : ∀ {l : List Value}, refsVE l = true → l.contains (.type "object") = true
  | [], e => by cases e
  | v :: r, e => by
    cases v with
    | ref c => rw [List.contains_cons, refs_has (l := r) e, Bool.or_true]
    | _ => have h := beq_iff_eq.mp e; rw [h]; decide +kernel
structure StX (K : Frag) (C : Addr) (f : Str) : Prop where
  sa : findIn K (.ref C) "__setattr__" = some (some (.builtin "object.__setattr__"))
  mro : ((clsIn K C).any fun cd => refsVE cd.mro) = true
  no : findIn K (.ref C) f = some none
  hd : hasDictIn K C = true
theorem set_exc {f : Str} {v : Value} {Q : Unit → Shared → Prop} (Z : StX K C f) (X : K.In s.heap) (he : s.heap.get? e = some (exO (.ref C) none a0 tb))
    (hq : ∀ h' dx t, (∀ b o, b ≠ e → s.heap.get? b = some o → h'.get? b = some o) → s.heap.objs.size ≤ dx → h'.Ns1 dx (fun y => if y = f then some v else none) → h'.get? e = some (exO (.ref C) (some dx) a0 tb) → Q () { s with heap := h', toks := t }) :
    wpAny (model prog w) A (setAttr (.ref e) f v) Q E s := by
  have I : InstAt s.heap e (exO (.ref C) none a0 tb) C none := ⟨he, rfl, rfl, trivial⟩
  refine set_plain X I Z.sa ?_
  have SF := PySem.F.store_object
  obtain ⟨cd, hc, ho⟩ := any_some Z.mro
  have ne : cd.mro.isEmpty = false := by cases q : cd.mro with | nil => rw [q] at ho; cases ho | cons _ _ => rfl
  have sub : Looks (model prog w) s.heap (isInstance (.ref e) (.type "object")) true := I.type.andThen (looks_mroIn X (by unfold mroIn; rw [hc, Option.bind_some, if_neg (by rw [ne]; decide), refs_has ho]))
  refine codeAny_call_builtin SF.slot.plain SF.entry (@check_slot (model prog w) _ _ { s with toks := s.toks + 1 } "object.__setattr__" "object" "__setattr__" (.ref e) [.str f s.toks, v] [] _ SF.kind SF.split sub (SF.args (.ref e) (.str f s.toks) v) ?_)
  have hm : Looks (model prog w) s.heap (mroOf (.ref C)) cd.mro := (looks_clsIn X hc).andThen .now
  rw [osa_eq, refuse_eq]
  refine wpAny_bind (wpAny_bind (I.type (M := model prog w) _ _ _ _ (fun _ _ e => e) (wpAny_bind (hm _ _ _ _ (fun _ _ e => e) ?_))))
  rw [refuse_ve _ ho]
  refine wpAny_pure (wpAny_bind (I.type (M := model prog w) _ _ _ _ (fun _ _ e => e) (wpAny_bind (looks_findIn X Z.no _ _ _ _ (fun _ _ e => e) (wpAny_bind (wpAny_pure ?_))))))
  obtain ⟨hh, g, dr, t, os⟩ := s
  obtain ⟨cd', hc', hd'⟩ := any_some Z.hd
  rw [hc] at hc'
  cases hc'
  have hx : hh.get? e = some (exO (.ref C) none a0 tb) := he
  have hx₁ : (hh.push { cls := .type "dict", data := .dict #[] }).get? e = some (exO (.ref C) none a0 tb) := Heap.get?_push_of_some _ hx
  have hxs : e ≠ hh.objs.size := Nat.ne_of_lt (Heap.lt_size hx)
  have Lc := looks_clsIn (M := model prog w) X hc
  refine wpAny_bind (wpAny_pure (wpAny_bind (wpAny_bind (wpAny_loadPart hx (wpAny_bind (Lc.at ?_))))))
  rw [hd']
  refine wpAny_bind (wpAny_alloc' (wpAny_bind (wpAny_update' hx₁ (wpAny_pure ?_))))
  have hgd : ((hh.push { cls := .type "dict", data := .dict #[] }).update e fun o => { cls := o.cls, dict := some hh.objs.size, data := o.data, slots := o.slots }).get? hh.objs.size
      = some { cls := .type "dict", data := .dict #[] } :=
    (Heap.get?_update_ne _ _ _ _ hxs.symm).trans (Heap.get?_push_at rfl rfl)
  have hnd : ((hh.push { cls := .type "dict", data := .dict #[] }).update e fun o => { cls := o.cls, dict := some hh.objs.size, data := o.data, slots := o.slots }).Ns hh.objs.size (fun _ => none) :=
    ⟨_, #[], _, hgd, rfl, fun e he => absurd he (by simp), fun _ => rfl⟩
  show wpAny _ _ (Builtin.ObjectAttr.storeInDict hh.objs.size (.str f t) f v) _ _ _
  unfold Builtin.ObjectAttr.storeInDict Builtin.ObjectAttr.newKeyGuard
  refine wpAny_bind (wpAny_pure (wpAny_bind (wpAny_nsSet1 (Heap.Ns1.of_empty hnd) fun h' hn' hs => ?_)))
  obtain ⟨oD, esD, epD, hoD, hdD, hcD⟩ := hn'.count (Within.cons f v Within.nil)
  refine wpAny_bind (wpAny_lookBehind hoD (by rw [hdD]; exact pastItsLine_dict (Nat.le_trans hcD (by rw [List.length_cons, List.length_nil, sizeLine_eq]; omega))) ?_)
  refine wpAny_pure ?_
  refine hq h' hh.objs.size _ (fun b o hb q => ?_) (Nat.le_refl _) hn' ?_
  · exact (hs.2 b (Nat.ne_of_lt (Heap.lt_size q))).trans ((Heap.get?_update_ne _ _ _ _ hb).trans (Heap.get?_push_of_some _ q))
  · exact (hs.2 e hxs).trans (Heap.get?_update_self _ hx₁ rfl)
theorem exc_get {ox od : Obj} {f : Str} {v : Value} {expr : Bool} {Q : Value → Shared → Prop} (Z : KX K C) (X : K.In s.heap) (I : InstAt s.heap e ox C (some od)) (no : findIn K (.ref C) f = some none) (hd : hasDictIn K C = true)
    (hl : lookIn f od = some (some v)) (hh : handedIn v = true) (h : Q v { s with toks := s.toks + 1 }) : wpAny (model prog w) A (getAttr (.ref e) f expr) Q E s := by
  have hf : findObj K C (some od) f = some (.value v) := findObj_own hd no rfl hl
  have L0 := I.type (M := model prog w)
  have L1 := looks_findIn (M := model prog w) X Z.hga
  have L2 := looks_findIn (M := model prog w) X Z.hk
  have L3 := looks_find (M := model prog w) X I hf
  obtain ⟨hp, g, d, t, os⟩ := s
  unfold getAttr getAttrBy
  refine wpAny_bind (wpAny_mkText (wpAny_holding (wpAny_bind (L0.at (wpAny_bind (L1.at ?_))))))
  have hx2 : (Value.builtin "BaseException.__getattribute__" == Value.builtin "object.__getattribute__") = false := by decide +kernel
  show wpAny _ _ (if (onTheHeap (Value.ref C) && Value.builtin "BaseException.__getattribute__" == Value.builtin "object.__getattribute__") = true then _ else _) _ _ _
  rw [hx2, Bool.and_false, if_neg Bool.false_ne_true]
  unfold getAttrByItsOwn hookBefore
  refine wpAny_bind ?_
  show wpAny _ _ (typeLookup (.ref C) "__getattr__") _ _ _
  refine L2.at ?_
  refine wpAny_bind (wpAny_attempt (wpAny_holding ?_))
  unfold callGetattribute
  rw [show (expr && onTheHeap (Value.builtin "BaseException.__getattribute__")) = false from Bool.and_false _, if_neg (by decide)]
  unfold boundAndCalled
  rw [PySem.F.excAttr_ValueError.ga.bind (.ref e)]
  refine wpAny_bind (wpAny_pure (wpAny_call (codeAny_call_builtin PySem.F.excAttr_ValueError.ga.plain PySem.F.entry_bexc_ga (bga_check (s := ⟨hp, g, d, t + 1, os⟩) X I Z.hmB ?_))))
  unfold Builtin.«object.__getattribute__»
  iterate 10 lk
  refine wpAny_bind (wpAny_pure (wpAny_bind (L0.at (wpAny_bind (L3.at ?_)))))
  refine wpAny_pure ?_
  show wpAny _ _ (handedOut v) _ _ _
  rw [handedOut_of hh]; exact wpAny_pure h
structure SrX (K : Frag) (C : Addr) : Prop where
  st : findIn K (.ref C) "__str__" = some (some (.builtin "BaseException.__str__"))
  mr : mroIn K C (.type "BaseException") = some true
theorem strOf_own {y : Str} {tk : Tok} {u : Addr} {Q : Value → Shared → Prop} (hu : A.units < cLine) (Z : SrX K C) (X : K.In s.heap) (he : s.heap.get? e = some (exO (.ref C) d (.ref u) tb)) (ht : IsTup s.heap u #[.str y tk])
    (h : Q (.str y tk) s) : wpAny (model prog w) A (PySem.Builtin.Str.strOf (.ref e)) Q E s := by
  have hty : Looks (model prog w) s.heap (typeOf (.ref e)) (.ref C) := (Looks.ld he).andThen .now
  have L1 := looks_findIn (M := model prog w) X Z.st
  have Lm := looks_mroIn (M := model prog w) X Z.mr
  obtain ⟨ot, hto, hct, n, hdt⟩ := ht
  unfold PySem.Builtin.Str.strOf
  rw [show Builtin.Str.isExactStr (.ref e) = false from rfl]
  refine wpAny_bind (m := cRoomFor _ _) (wpAny_cRoomFor hu ?_)
  refine wpAny_bind (m := callSpecial? (.ref e) (Str.ofString "__str__")) ?_
  unfold callSpecial? specialOf
  refine wpAny_bind (wpAny_bind (hty _ _ _ _ (fun _ _ e => e) (L1 _ _ _ _ (fun _ _ e => e) (wpAny_holding (wpAny_bind ?_)))))
  rw [PySem.F.excStr_ValueError.str.bind]
  refine wpAny_pure (wpAny_bind (wpAny_call (codeAny_call_builtin PySem.F.excStr_ValueError.str.plain PySem.F.entry_bexc_str (@check_slot (model prog w) _ _ s "BaseException.__str__" "BaseException" "__str__" (.ref e) [] [] _ (by decide +kernel) (by decide +kernel) (hty.andThen Lm) (PySem.F.args_bexc_str _) ?_))))
  unfold Builtin.«BaseException.__str__»
  have La : wpAny (model prog w) A.in1 (Builtin.BaseException.bexcArgs (.ref e)) (fun r s' => r = (.ref u, [.str y tk]) ∧ s' = s) (fun _ _ => False) s := by
    unfold Builtin.BaseException.bexcArgs
    refine wpAny_bind (wpAny_field he rfl (x := .ref u) rfl (wpAny_bind (wpAny_seqItems hto hdt (wpAny_pure ⟨rfl, rfl⟩))))
  refine wpAny_bind ?_
  refine wpAny_pure (wpAny_bind (wpAny_mono La (fun r s' z => ?_) fun _ _ z => z.elim))
  obtain ⟨rfl, rfl⟩ := z
  dsimp only
  wp_walk
  exact h
theorem str_own {y : Str} {tk : Tok} {u : Addr} {Q : Value → Shared → Prop} (hu : A.in1.in1.units < cLine) (Z : SrX K C) (X : K.In s.heap) (he : s.heap.get? e = some (exO (.ref C) d (.ref u) tb)) (ht : IsTup s.heap u #[.str y tk])
    (h : Q (.str y tk) s) : wpAny (model prog w) A (call (.type "str") [.ref e]) Q E s := by
  refine callType_codes (T := "str") (Bi := Builtin.«object.__init__») (Q₁ := fun r s₁ => ∃ y u, r = .str y u ∧ Q r s₁) PySem.F.called_str (PySem.F.typeCall_str_1 _) PySem.F.entry_object_init ?_ ?_
  · refine codeAny_of_tree ?_
    show wpAny _ A.in1.in1 (do checkBuiltinCall "str.__new__" ⟨[.type "str", .ref e], []⟩; again (.builtin "str.__new__" ⟨[.type "str", .ref e], []⟩)) _ _ s
    refine wpAny_bind (wpAny_of_eq (PySem.F.newCall_str_1 _) (wpAny_pure ⟨plainId_quiet (by decide +kernel) _, codeAny_builtin PySem.F.entry_str_new ?_⟩))
    rw [Around.under_plainId (by decide +kernel) _]
    rw [str_new_tree]
    refine wpAny_bind (wpAny_pure ?_)
    refine wpAny_bind (wpAny_of_eq isSubtype_str_str ?_)
    exact wpAny_bind (strOf_own hu Z X he ht (wpAny_pure ⟨_, _, rfl, h⟩))
  · rintro obj s₁ ⟨y, u, rfl, hq⟩
    exact ⟨typeIs_str _ _ _, PySem.F.args_object_init_2 _ _, object_init_meets PySem.F.called_str.init.lookup PySem.F.called_str.made (by decide) prog w A.in1 _ s₁ ⟨typeIs_str _ _ _, rfl, hq⟩⟩
structure LdI (K : Frag) (C : Addr) : Prop where
  ga : specialIn K (.ref C) "__getattribute__" = some (some (.builtin "type.__getattribute__"))
  rd : readsIn K C (.type "type") = true
  fc : (match findCls K (.ref C) (.type "type") "__init__" with | some (.val v) => v == .builtin "ValueError.__init__" | _ => false) = true
theorem load_init {pl : Sem Bool} {Q : Value × List Value → Shared → Prop} (Z : LdI K C) (X : K.In s.heap) (h : Q (.builtin "ValueError.__init__", []) { s with toks := s.toks + 1 }) :
    wpAny (model prog w) A (getMethod (.ref C) "__init__" pl) Q E s := by
  have f := Z.fc
  split at f
  · rename_i v hv
    rw [beq_iff_eq.mp f] at hv
    exact method_cls X Z.ga (cls_value X Z.rd hv (by decide +kernel) h)
  · cases f
end
end ZX
namespace ZX
open PySem PySem.Spec PySem.W L2
open PyProof.Rows hiding St
/-- an object under construction, known exactly -/
def XU (a : Addr) (ob : Obj) : HO := .ext fun h => h.get? a = some ob
theorem xu_ok {P : Program} {w : World} {H : Hp} {h : Heap} {a : Addr} {ob : Obj} (e : h.get? a = some ob) : ObjOk P w H h a (XU a ob) := ⟨e, ⟨ob, e⟩, fun _ _ p q => q _ p⟩
theorem xf_ok {P : Program} {w : World} {H : Hp} {h : Heap} {a : Addr} {ob : Obj} (e : h.get? a = some ob) : ObjOk P w H h a (XF ob) := ⟨e, ⟨ob, e⟩⟩
section
variable {X : Cx} {pins : List (Addr × Obj)} {σ : St} {H H' : Hp} {s : Shared} {h' : Heap}
theorem Inv.none_of (I : Inv X pins σ H s) {a : Addr} (e : s.heap.get? a = none) : H a = none := by
  cases q : H a with
  | none => rfl
  | some o => obtain ⟨u, hu⟩ := obj_there (I.hok a o q); rw [e] at hu; cases hu
/-- new things laid -/
theorem Inv.lays {t' : Nat} (I : Inv X pins σ H s) (k : ∀ b u, s.heap.get? b = some u → h'.get? b = some u) (old : ∀ b o, H b = some o → H' b = some o) (new : ∀ b u, s.heap.get? b = some u → H b = none → H' b = none)
    (nw : ∀ b o, H' b = some o → H b = none → ObjOk X.prog X.w H' h' b o) : Inv X pins σ H' { s with heap := h', toks := t' } := by
  refine I.un ⟨fun b u q _ _ _ => k b u q, fun b u q _ _ _ => ⟨u.slots, k b u q⟩, fun b u q n _ => new b u q n, fun b u q _ => ⟨u, k b u q⟩, fun b xs q => old b _ q, fun b u xs q => old b _ q, fun b ps q => ⟨#[], by rw [old b _ q]; simp⟩⟩ fun b o q => ?_
  cases hb : H b with
  | none => exact nw b o q hb
  | some u =>
    have e := old b u hb
    rw [q] at e
    cases e
    exact (I.hok b _ hb).stay (fun c v _ q => k c v q) (fun c q => old c _ q) fun c xs q => old c _ q
/-- an object under construction is changed, new things laid -/
theorem Inv.alter {t' : Nat} {e : Addr} {φ : Heap → Prop} (I : Inv X pins σ H s) (he : H e = some (.ext φ)) (k : ∀ b u, b ≠ e → s.heap.get? b = some u → h'.get? b = some u) (te : ∃ u, h'.get? e = some u) (old : ∀ b o, b ≠ e → H b = some o → H' b = some o)
    (new : ∀ b u, s.heap.get? b = some u → H b = none → H' b = none) (nw : ∀ b o, H' b = some o → (b = e ∨ H b = none) → ObjOk X.prog X.w H' h' b o) : Inv X pins σ H' { s with heap := h', toks := t' } := by
  have ne : ∀ b o, H b = some o → (∀ ψ, o ≠ .ext ψ) → b ≠ e := fun b o q n z => by rw [z, he] at q; cases q; exact n _ rfl
  have n0 : ∀ b, H b = none → b ≠ e := fun b q z => by rw [z, he] at q; cases q
  refine I.un ⟨fun b u q n _ _ => k b u (n0 b n) q, fun b u q n _ _ => ⟨u.slots, k b u (n0 b n) q⟩, fun b u q n _ => new b u q n, fun b u q _ => ?_, fun b xs q => old b _ (ne b _ q fun _ z => nomatch z) q, fun b u xs q => old b _ (ne b _ q fun _ z => nomatch z) q,
    fun b ps q => ⟨#[], by rw [old b _ (ne b _ q fun _ z => nomatch z) q]; simp⟩⟩ fun b o q => ?_
  · by_cases hb : b = e
    · subst hb; exact te
    · exact ⟨u, k b u hb q⟩
  · by_cases hbe : b = e
    · exact nw b o q (.inl hbe)
    · cases hb : H b with
      | none => exact nw b o q (.inr hb)
      | some u =>
        have z := old b u hbe hb
        rw [q] at z
        cases z
        refine (I.hok b _ hb).stay (fun c v hc q => k c v ?_ q) (fun c q => old c _ (ne c _ q fun _ z => nomatch z) q) fun c xs q => old c _ (ne c _ q fun _ z => nomatch z) q
        rcases hc with rfl | hc
        · exact hbe
        · exact ne c _ hc fun _ z => nomatch z
/-- it is whole -/
theorem Inv.retag {a : Addr} {ob : Obj} (I : Inv X pins σ H s) (ha : H a = some (XU a ob)) : Inv X pins σ (upd H a (XF ob)) s := by
  have ho : s.heap.get? a = some ob := (I.hok a _ ha).1
  have r := Inv.alter I (h' := s.heap) (t' := s.toks) (H' := upd H a (XF ob)) ha (fun _ _ _ q => q) ⟨_, ho⟩ (fun b o n q => by rw [upd_ne n]; exact q) (fun b u q n => by rw [upd_ne (fun z => by rw [z, ha] at n; cases n)]; exact n) fun b o q hb => ?_
  · exact r
  · have hb : b = a := by
      rcases hb with hb | hb
      · exact hb
      · by_cases z : b = a
        · exact z
        · rw [upd_ne z, hb] at q; cases q
    subst hb
    rw [upd_same] at q
    cases q
    exact xf_ok ho
theorem Inv.made2 {e C : Addr} {us : List Value} {vs : List V} (I : Inv X pins σ H s) (m : Heap.MadeExcOf s.heap h' e (.ref C) us) (r : Vals vs us) (hz : vs.length ≤ sizeLine) :
    ∃ u, H e = none ∧ H u = none ∧ u ≠ e ∧ ∀ o, o = XF (exO (.ref C) none (.ref u) .none) ∨ o = XU e (exO (.ref C) none (.ref u) .none) → Inv X pins σ (upd (upd H u (.tup vs)) e o) { s with heap := h' } := by
  obtain ⟨u, he, hn, ht⟩ := m.there
  have ne : H e = none := Inv.none_of I m.new
  have nu : H u = none := Inv.none_of I hn
  have hue : u ≠ e := fun z => by rw [z, he] at ht; cases ht
  refine ⟨u, ne, nu, hue, fun o ho => ?_⟩
  refine Inv.lays I (t' := s.toks) m.keeps (fun b o q => ?_) (fun b v q n => ?_) fun b o q n => ?_
  · rw [upd_ne (ne_of_none q ne), upd_ne (ne_of_none q nu)]; exact q
  · rw [upd_ne (fun z => by rw [z, m.new] at q; cases q), upd_ne (fun z => by rw [z, hn] at q; cases q)]; exact n
  · by_cases hb : b = e
    · subst hb
      rw [upd_same] at q
      cases q
      rcases ho with rfl | rfl
      · exact xf_ok he
      · exact xu_ok he
    · rw [upd_ne hb] at q
      by_cases hb2 : b = u
      · subst hb2
        rw [upd_same] at q
        cases q
        exact ⟨hz, us, r, ⟨_, ht, rfl, _, rfl⟩⟩
      · rw [upd_ne hb2, n] at q; cases q
end
section
variable {X : Cx} {x : Str} {C fI : Addr} {p pos apos cpos : Pos} {e : Expr} {es : List Expr} {t : TA}
/-- C(..), no __init__ of its own -/
theorem pe_mkX (O : OwnX X.K X.mg x C) (kp : keepIn X.K (.ref C) = true) (hg : Gl X x) (ha : PA X (e :: es) t) (hdb : (x == ("__debug__" : Str)) = false := by decide)
    (he : starEach (e :: es) X.env = (false, eval e X.env) :: starEach es X.env := by rfl) (hpl : (backTo pos (starEach es X.env)).any (·.1) = false := by rfl) :
    PE X (.Call (.Name x p) (e :: es) [] pos) (fun σ H Q => t σ H fun vs H1 => vs.length ≤ sizeLine ∧ ∀ a u, H1 a = none → H1 u = none → u ≠ a → Q (.ref a) (upd (upd H1 u (.tup vs)) a (XF (exO (.ref C) none (.ref u) .none)))) := by
  intro pins s σ H Q I h
  refine wpAny_Call_Name_kw (ld_glob I hg O.bound ?_ hdb)
  refine PySem.W.callWith_K (h₀ := X.base) I.ok.mod.kin kp (thn (ha pos pins s σ H _ I h) fun us s1 ⟨vs, H1, I1, r, hz, q⟩ => ⟨I1.kIn, ?_⟩) he hpl
  refine call_own O I1.kIn (fun h' a m => ?_) (by show us.length ≤ _; rw [← r.length]; exact hz)
  obtain ⟨u, h1, h2, h3, k⟩ := Inv.made2 I1 m r hz
  exact ⟨.ref a, _, k _ (.inl rfl), rfl, q a u h1 h2 h3⟩
/-- C(..), with one -/
theorem pe_mkI {k : Nat} {fd : FuncData} {ps : List Str} {sp : Sp} (O : OwnI X.K X.mg x C fI) (F : FnOk X.prog X.w X.K X.mg X.base CX0 k fI fd ps sp) (hr : Room (k + 1) X.A) (hb : Binds X.K fd ps []) (hg : Gl X x) (ha : PA X (e :: es) t) (hdb : (x == ("__debug__" : Str)) = false := by decide)
    (he : starEach (e :: es) X.env = (false, eval e X.env) :: starEach es X.env := by rfl) (hpl : (backTo pos (starEach es X.env)).any (·.1) = false := by rfl) :
    PE X (.Call (.Name x p) (e :: es) [] pos) (fun σ H Q => t σ H fun vs H1 => vs.length ≤ sizeLine ∧ ∀ a u, H1 a = none → H1 u = none → u ≠ a →
      sp (.ref a :: vs) (upd (upd H1 u (.tup vs)) a (XU a (exO (.ref C) none (.ref u) .none))) (fun v H2 => v = .non ∧ ∃ ob, H2 a = some (XU a ob) ∧ Q (.ref a) (upd H2 a (XF ob))) E0) := by
  intro pins s σ H Q I h
  refine wpAny_Call_Name_kw (ld_glob I hg O.bound ?_ hdb)
  refine PySem.W.callWith_K (h₀ := X.base) I.ok.mod.kin O.kp (thn (ha pos pins s σ H _ I h) fun us s1 ⟨vs, H1, I1, r, hz, q⟩ => ⟨I1.kIn, ?_⟩) he hpl
  refine call_ownI O I1.kIn (fun h' a m => ?_) (by show us.length ≤ _; rw [← r.length]; exact hz)
  obtain ⟨u, h1, h2, h3, kk⟩ := Inv.made2 I1 m r hz
  have I2 := kk _ (.inr rfl)
  have hq := q a u h1 h2 h3
  have r2 : Vals (V.ref a :: vs) (Value.ref a :: us) := .cons rfl r
  have hl : (Value.ref a :: us ++ []).length = ps.length := by
    rw [List.append_nil]
    have e := r2.length
    rw [F.len _ _ _ _ hq] at e
    exact e.symm
  have hb2 := hb { s1 with heap := h' } (Value.ref a :: us) I2.kIn hl
  rw [List.append_nil] at hb2
  refine wpAny_call (codeAny_mono (F.run _ X.stack _ _ ⟨Value.ref a :: us, []⟩ (Value.ref a :: us) _ _ E0 (hr.make C us []) (I2.env0.make C us []) hb2 r2 hq) fun r s' hq' => ?_)
  cases r with
  | error e => exact False.elim hq'
  | ok fl =>
    cases fl with
    | ret v =>
      obtain ⟨v', H', I3, rv, ev, ob, hob, q3⟩ := I2.after hq'
      subst ev
      exact ⟨rv, .ref a, _, Inv.retag I3 hob, rfl, q3⟩
    | next => exact False.elim hq'
    | brk => exact False.elim hq'
    | cont => exact False.elim hq'
/-- B.__init__(self, ..), B without one -/
theorem pe_supI {pl : Sem Bool} {B : Addr} {mg' : Str → Option Value} {y : Str} (O : OwnI X.K mg' y C fI) (L : LdI X.K B) (hg : Gl X x) (hm : X.mg x = some (.ref B)) (ha : PA X (e :: es) t) (hdb : (x == ("__debug__" : Str)) = false := by decide)
    (he : starEach (e :: es) X.env = (false, eval e X.env) :: starEach es X.env := by rfl) (hpl : (backTo pos (starEach es X.env)).any (·.1) = false := by rfl)
    (ht : eval (.Call (.Attribute (.Name x p) "__init__" apos) (e :: es) [] pos) X.env = (do
      let ov ← eval (.Name x p) X.env
      standAt apos.atName
      let (f, first) ← holding [ov] (getMethod ov "__init__" pl)
      callWith pos f first (backTo pos (starEach (e :: es) X.env)) (backToKw pos (keywordEach [] X.env))) := by rfl) :
    PE X (.Call (.Attribute (.Name x p) "__init__" apos) (e :: es) [] pos) (fun σ H Q => t σ H fun vs H1 => ∃ a u tb vr, vs = .ref a :: vr ∧ vr.length ≤ sizeLine ∧ H1 a = some (XU a (exO (.ref C) none (.ref u) tb)) ∧
      ∀ t, H1 t = none → t ≠ a → Q .non (upd (upd H1 t (.tup vr)) a (XU a (exO (.ref C) none (.ref t) tb)))) := by
  intro pins s σ H Q I h
  refine PySem.W.methodCall_KW (pl := pl) (ld_glob I hg hm (load_init L I.kIn ?_) hdb) ht
  refine PyProof.Rows.callWith_builtin1 (thn (ha pos pins _ σ H _ (I.tok _) h) fun us s1 ⟨vs, H1, I1, r, a, u, tb, vr, ev, hz, hX, q⟩ => ?_) he hpl
  subst ev
  cases r with
  | cons r0 r =>
    rename_i ur
    cases (show _ = Value.ref a from r0)
    have ho : s1.heap.get? a = some (exO (.ref C) none (.ref u) tb) := (I1.hok a _ hX).1
    refine init_ve O I1.kIn ho (by rw [← r.length]; exact hz) fun h' t k hs h1 h2 => ?_
    have hn : s1.heap.get? t = none := Heap.get?_none_of_le hs
    have nt : H1 t = none := Inv.none_of I1 hn
    have hta : t ≠ a := fun z => by rw [z, hX] at nt; cases nt
    refine ⟨.non, _, Inv.alter I1 (t' := s1.toks) hX k ⟨_, h2⟩ (fun b o n q => ?_) (fun b v q n => ?_) (fun b o q n => ?_), rfl, q t nt hta⟩
    · rw [upd_ne n, upd_ne (ne_of_none q nt)]; exact q
    · rw [upd_ne (fun z => by rw [z, hX] at n; cases n), upd_ne (fun z => by rw [z, hn] at q; cases q)]; exact n
    · by_cases hb : b = a
      · subst hb
        rw [upd_same] at q
        cases q
        exact xu_ok h2
      · rw [upd_ne hb] at q
        by_cases hb2 : b = t
        · subst hb2
          rw [upd_same] at q
          cases q
          exact ⟨hz, _, r, ⟨_, h1, rfl, _, rfl⟩⟩
        · rcases n with n | n
          · exact absurd n hb
          · rw [upd_ne hb2, n] at q; cases q
/-- self.f = e, the first attribute -/
theorem ps_xfld {o value : Expr} {f : Str} {pos' pos : Pos} {ta tv : TE} (Z : StX X.K C f) (ha : PE X o ta) (hv : PE X value tv) (hs : swapsWith value (some (.Attribute o f pos')) pos.line X.env = pure false) :
    PS X (.Assign [.Attribute o f pos'] value pos) (fun D σ H => tv σ H fun y H1 => ta σ H1 fun x H2 => ∃ a u tb, x = .ref a ∧ H2 a = some (XU a (exO (.ref C) none u tb)) ∧
      ∀ dx, H2 dx = none → dx ≠ a → D.nx σ (upd (upd H2 dx (.xd [(f, y)])) a (XU a (exO (.ref C) (some dx) u tb)))) := by
  intro pins s σ H D I h
  refine plainObj_wpAny_Assign_Attribute (thn (hv pins s σ H _ I h) fun u s1 ⟨y, H1, I1, ry, q⟩ => thn (ha pins s1 σ H1 _ I1 q) fun ov s2 ⟨x, H2, I2, rx, a, u0, tb, ex, hX, q2⟩ => ?_) hs
  subst ex
  obtain rfl : ov = Value.ref a := rx
  have ho : s2.heap.get? a = some (exO (.ref C) none u0 tb) := (I2.hok a _ hX).1
  refine set_exc Z I2.kIn ho fun h' dx t k hs h1 h2 => ?_
  have hn : s2.heap.get? dx = none := Heap.get?_none_of_le hs
  have nt : H2 dx = none := Inv.none_of I2 hn
  have hta : dx ≠ a := fun z => by rw [z, hX] at nt; cases nt
  refine ⟨σ, _, Inv.alter I2 (t' := t) hX k ⟨_, h2⟩ (fun b o n q => ?_) (fun b v q n => ?_) (fun b o q n => ?_), q2 dx nt hta⟩
  · rw [upd_ne n, upd_ne (ne_of_none q nt)]; exact q
  · rw [upd_ne (fun z => by rw [z, hX] at n; cases n), upd_ne (fun z => by rw [z, hn] at q; cases q)]; exact n
  · by_cases hb : b = a
    · subst hb
      rw [upd_same] at q
      cases q
      exact xu_ok h2
    · rw [upd_ne hb] at q
      by_cases hb2 : b = dx
      · subst hb2
        rw [upd_same] at q
        cases q
        refine ⟨_, h1, fun g => ?_⟩
        show RelO (List.lookup g [(f, y)]) (if g = f then some u else none)
        by_cases hg : g = f
        · subst hg
          rw [if_pos rfl, List.lookup_cons, beq_self_eq_true]
          exact ry
        · have e : (g == f) = false := beq_eq_false_iff_ne.mpr hg
          rw [if_neg hg, List.lookup_cons, e]
          trivial
      · rcases n with n | n
        · exact absurd n hb
        · rw [upd_ne hb2, n] at q; cases q
/-- e.f of an exception -/
theorem getx_ok {A : Around} {E : Value → Shared → Prop} {pins : List (Addr × Obj)} {σ : St} {H : Hp} {s : Shared} {a dx : Addr} {u tb : Value} {f : Str} {fs : List (Str × V)} {v : V} {b : Bool} {Q : Value → Shared → Prop} (I : Inv X pins σ H s) (h1 : H a = some (XF (exO (.ref C) (some dx) u tb))) (h2 : H dx = some (.xd fs))
    (Z : KX X.K C) (no : findIn X.K (.ref C) f = some none) (hd : hasDictIn X.K C = true) (l : fs.lookup f = some v) (h : ∀ u s', Inv X pins σ H s' → RelV v u → Q u s') : wpAny (model X.prog X.w) A (getAttr (.ref a) f b) Q E s := by
  have ho := (I.hok a _ h1).1
  obtain ⟨mA, hns, r⟩ := I.hok dx _ h2
  obtain ⟨od, hod, hl⟩ := lookIn_ns hns
  obtain ⟨y, hu, ru⟩ := RelO.some_of (v := v) (o := mA f) (by rw [← l]; exact r f)
  exact exc_get Z I.kIn ⟨ho, rfl, rfl, hod⟩ no hd (by rw [hl, hu]) (handed_of ru) (h y _ (I.tok _) ru)
end
end ZX
namespace Z
open PySem L2
inductive D where
  | non | bl (b : Bool) | int (i : Int) | str (x : Str) | tup (xs : List D) | lst (xs : List D) | exn (c : Str) (xs : List D) (fs : List Str) (ys : List D)
inductive W where
  | d (x : D) | ref (n : Nat) | fz (xs : List D) | exn (c : Str)
abbrev TKey := List Key
inductive Cell where
  | lst (xs : List D) | dk (kvs : List (Key × D)) | dt (kvs : List (TKey × D)) | dead
abbrev Sto := List Cell
structure Xn where
  cls : Str
  fld : List (Str × D) := []
inductive Res (α : Type) where
  | ok (a : α) (S : Sto) | exc (x : Xn) (S : Sto) | bad
abbrev DS := List (Option W)
inductive SR where
  | nx (t : DS) (S : Sto) | rt (w : W) (S : Sto) | bk (t : DS) (S : Sto) | ct (t : DS) (S : Sto) | exc (x : Xn) (t : DS) (S : Sto) | bad
def Res.bind {α β : Type} (r : Res α) (f : α → Sto → Res β) : Res β :=
  match r with
  | .ok a S => f a S
  | .exc x S => .exc x S
  | .bad => .bad
@[simp] theorem bind_ok {α β : Type} (a : α) (S : Sto) (f : α → Sto → Res β) : (Res.ok a S).bind f = f a S := rfl
@[simp] theorem bind_exc {α β : Type} (x : Xn) (S : Sto) (f : α → Sto → Res β) : (Res.exc x S : Res α).bind f = .exc x S := rfl
@[simp] theorem bind_bad {α β : Type} (f : α → Sto → Res β) : (Res.bad : Res α).bind f = .bad := rfl
theorem bind_assoc {α β γ : Type} (r : Res α) (f : α → Sto → Res β) (g : β → Sto → Res γ) : (r.bind f).bind g = r.bind fun a S => (f a S).bind g := by cases r <;> rfl
/-- a result, then a statement's result -/
def Res.then {α : Type} (r : Res α) (t : DS) (f : α → Sto → SR) : SR :=
  match r with
  | .ok a S => f a S
  | .exc x S => .exc x t S
  | .bad => .bad
@[simp] theorem then_ok {α : Type} (a : α) (S : Sto) (t : DS) (f : α → Sto → SR) : (Res.ok a S).then t f = f a S := rfl
@[simp] theorem then_exc {α : Type} (x : Xn) (S : Sto) (t : DS) (f : α → Sto → SR) : (Res.exc x S : Res α).then t f = .exc x t S := rfl
@[simp] theorem then_bad {α : Type} (t : DS) (f : α → Sto → SR) : (Res.bad : Res α).then t f = .bad := rfl
def Live (S : Sto) (n : Nat) : Prop := ∃ c, S[n]? = some c ∧ c ≠ Cell.dead
theorem live_lst {S : Sto} {n : Nat} {xs : List D} (e : S[n]? = some (.lst xs)) : Live S n := ⟨_, e, fun z => nomatch z⟩
/-- never changes in place -/
def Fx : HO → Prop
  | .lst _ => False
  | .dK _ => False
  | .dT _ => False
  | _ => True
/-- no cell stands at a; nor is it one of the kept-out ones -/
def N0 (io : Nat → Addr) (S : Sto) (a : Addr) : Prop := ∀ n, Live S n → io n ≠ a
def NA (Z : Addr → Prop) (io : Nat → Addr) (S : Sto) (a : Addr) : Prop := N0 io S a ∧ ¬ Z a
theorem Live.lt {S : Sto} {n : Nat} (h : Live S n) : n < S.length := let ⟨_, e, _⟩ := h; (List.getElem?_eq_some_iff.mp e).1
/-- the dict of an exception: none, or one of these attributes -/
def XDict (H : Hp) (d : Option Addr) (fs : List Str) (us : List V) : Prop := (d = none ∧ fs = [] ∧ us = []) ∨ ∃ dx, d = some dx ∧ H dx = some (.xd (fs.zip us)) ∧ fs.length = us.length
theorem XDict.keep {H H' : Hp} {d : Option Addr} {fs : List Str} {us : List V} (k : ∀ a o, H a = some o → Fx o → H' a = some o) (h : XDict H d fs us) : XDict H' d fs us := by
  rcases h with h | ⟨dx, h1, h2, h3⟩
  · exact .inl h
  · exact .inr ⟨dx, h1, k _ _ h2 trivial, h3⟩
mutual
inductive DRel (K : PySem.W.Frag) (H : Hp) (na : Addr → Prop) : D → V → Prop
  | non : DRel K H na .non .non
  | bl (b : Bool) : DRel K H na (.bl b) (.bl b)
  | int (i : Int) : DRel K H na (.int i) (.int i)
  | str (x : Str) : DRel K H na (.str x) (.str x)
  | tup {a : Addr} {ds : List D} {vs : List V} : SqT K H a vs → DRels K H na ds vs → DRel K H na (.tup ds) (.ref a)
  | lst {a : Addr} {ds : List D} {vs : List V} : H a = some (.lst vs) → na a → DRels K H na ds vs → DRel K H na (.lst ds) (.ref a)
  | exn {a C u : Addr} {c : Str} {d : Option Addr} {tb : Value} {xs ys : List D} {fs : List Str} {vs us : List V} : PySem.W.nsIn K mainGlobals c = some (some (.ref C)) → H a = some (ZX.XF (ZX.exO (.ref C) d (.ref u) tb)) →
      SqT K H u vs → DRels K H na xs vs → XDict H d fs us → DRels K H na ys us → DRel K H na (.exn c xs fs ys) (.ref a)
inductive DRels (K : PySem.W.Frag) (H : Hp) (na : Addr → Prop) : List D → List V → Prop
  | nil : DRels K H na [] []
  | cons {d : D} {ds : List D} {v : V} {vs : List V} : DRel K H na d v → DRels K H na ds vs → DRels K H na (d :: ds) (v :: vs)
end
section
variable {K : PySem.W.Frag} {H H' : Hp} {na na' : Addr → Prop}
theorem DRels.length : ∀ {ds : List D} {vs : List V}, DRels K H na ds vs → ds.length = vs.length
  | _, _, .nil => rfl
  | _, _, .cons _ t => congrArg (· + 1) t.length
theorem DRels.get : ∀ {ds : List D} {vs : List V} {i : Nat} {d : D}, DRels K H na ds vs → ds[i]? = some d → ∃ v, vs[i]? = some v ∧ DRel K H na d v
  | _, _, _, _, .nil, e => by simp at e
  | _, _, 0, _, .cons r _, e => by simp at e; subst e; exact ⟨_, rfl, r⟩
  | _, _, i + 1, d, .cons _ t, e => by
    obtain ⟨v, h1, h2⟩ := DRels.get (i := i) (d := d) t (by simpa using e)
    exact ⟨v, by simpa using h1, h2⟩
theorem DRels.append : ∀ {ds es : List D} {vs us : List V}, DRels K H na ds vs → DRels K H na es us → DRels K H na (ds ++ es) (vs ++ us)
  | _, _, _, _, .nil, s => s
  | _, _, _, _, .cons r t, s => .cons r (t.append s)
theorem DRels.take : ∀ {ds : List D} {vs : List V} (n : Nat), DRels K H na ds vs → DRels K H na (ds.take n) (vs.take n)
  | _, _, 0, _ => .nil
  | _, _, _ + 1, .nil => .nil
  | _, _, n + 1, .cons r t => .cons r (t.take n)
theorem DRels.drop : ∀ {ds : List D} {vs : List V} (n : Nat), DRels K H na ds vs → DRels K H na (ds.drop n) (vs.drop n)
  | _, _, 0, h => h
  | _, _, _ + 1, .nil => .nil
  | _, _, n + 1, .cons _ t => t.drop n
theorem DRels.set {d : D} {v : V} (r : DRel K H na d v) : ∀ {ds : List D} {vs : List V} (n : Nat), DRels K H na ds vs → DRels K H na (ds.set n d) (vs.set n v)
  | _, _, _, .nil => .nil
  | _, _, 0, .cons _ t => .cons r t
  | _, _, n + 1, .cons q t => .cons q (t.set r n)
theorem DRels.reverse {ds : List D} {vs : List V} (h : DRels K H na ds vs) : DRels K H na ds.reverse vs.reverse := by
  induction ds generalizing vs with
  | nil => cases h; exact .nil
  | cons d ds ih =>
    cases h with
    | cons r t =>
      rw [List.reverse_cons, List.reverse_cons]
      exact (ih t).append (.cons r .nil)
/-- from one heap to another -/
theorem SqT.keepT {a : Addr} {vs : List V} (k : ∀ a o, H a = some o → Fx o → H' a = some o) (h : SqT K H a vs) : SqT K H' a vs := by
  rcases h with (h | ⟨o, h⟩) | h
  · exact .inl (.inl (k a _ h trivial))
  · exact .inl (.inr ⟨o, k a _ h trivial⟩)
  · exact .inr h
mutual
theorem DRel.mono (k : ∀ a o, H a = some o → Fx o → H' a = some o) (kl : ∀ a xs, H a = some (.lst xs) → na a → H' a = some (.lst xs) ∧ na' a) : ∀ {d : D} {v : V}, DRel K H na d v → DRel K H' na' d v
  | _, _, .non => .non
  | _, _, .bl b => .bl b
  | _, _, .int i => .int i
  | _, _, .str x => .str x
  | _, _, .tup h t => .tup (SqT.keepT k h) (DRels.mono k kl t)
  | _, _, .lst h n t => .lst (kl _ _ h n).1 (kl _ _ h n).2 (DRels.mono k kl t)
  | _, _, .exn hc h u t d y => .exn hc (k _ _ h trivial) (SqT.keepT k u) (DRels.mono k kl t) (d.keep k) (DRels.mono k kl y)
theorem DRels.mono (k : ∀ a o, H a = some o → Fx o → H' a = some o) (kl : ∀ a xs, H a = some (.lst xs) → na a → H' a = some (.lst xs) ∧ na' a) : ∀ {ds : List D} {vs : List V}, DRels K H na ds vs → DRels K H' na' ds vs
  | _, _, .nil => .nil
  | _, _, .cons r t => .cons (DRel.mono k kl r) (DRels.mono k kl t)
end
end
def HoOk (K : PySem.W.Frag) (H : Hp) (na : Addr → Prop) (a : Addr) : Cell → Prop
  | .lst xs => ∃ vs, H a = some (.lst vs) ∧ DRels K H na xs vs
  | .dk kvs => ∃ vs, H a = some (.dK ((kvs.map (·.1)).zip vs)) ∧ DRels K H na (kvs.map (·.2)) vs
  | .dt kvs => ∃ vs, H a = some (.dT ((kvs.map (·.1)).zip vs)) ∧ DRels K H na (kvs.map (·.2)) vs
  | .dead => True
theorem HoOk.there {K : PySem.W.Frag} {H : Hp} {na : Addr → Prop} {a : Addr} {c : Cell} (x : HoOk K H na a c) (nd : c ≠ .dead) : ∃ o, H a = some o ∧ ¬ Fx o := by
  cases c with
  | lst xs => obtain ⟨vs, h, _⟩ := x; exact ⟨_, h, id⟩
  | dk xs => obtain ⟨vs, h, _⟩ := x; exact ⟨_, h, id⟩
  | dt xs => obtain ⟨vs, h, _⟩ := x; exact ⟨_, h, id⟩
  | dead => exact absurd rfl nd
theorem HoOk.to {K : PySem.W.Frag} {H H' : Hp} {na na' : Addr → Prop} {a : Addr} {c : Cell} (x : HoOk K H na a c) (ha : c ≠ .dead → ∀ o, H a = some o → H' a = some o) (k : ∀ a o, H a = some o → Fx o → H' a = some o)
    (kl : ∀ a xs, H a = some (.lst xs) → na a → H' a = some (.lst xs) ∧ na' a) : HoOk K H' na' a c := by
  cases c with
  | lst xs => obtain ⟨vs, h, q⟩ := x; exact ⟨vs, ha (fun z => nomatch z) _ h, q.mono k kl⟩
  | dk xs => obtain ⟨vs, h, q⟩ := x; exact ⟨vs, ha (fun z => nomatch z) _ h, q.mono k kl⟩
  | dt xs => obtain ⟨vs, h, q⟩ := x; exact ⟨vs, ha (fun z => nomatch z) _ h, q.mono k kl⟩
  | dead => exact trivial
structure HRel (K : PySem.W.Frag) (Z : Addr → Prop) (io : Nat → Addr) (S : Sto) (H : Hp) : Prop where
  cells : ∀ n c, S[n]? = some c → HoOk K H (NA Z io S) (io n) c
  inj : ∀ n m, Live S n → Live S m → io n = io m → n = m
  zd : ∀ a, Z a → ∃ o, H a = some o
  zc : ∀ a, Z a → N0 io S a
theorem HRel.cell {K : PySem.W.Frag} {Z : Addr → Prop} {io : Nat → Addr} {S : Sto} {H : Hp} (r : HRel K Z io S H) (n : Nat) (xs : List D) (e : S[n]? = some (.lst xs)) : ∃ vs, H (io n) = some (.lst vs) ∧ DRels K H (NA Z io S) xs vs := r.cells n _ e
/-- what stands outside the cells is kept -/
structure Ext (io : Nat → Addr) (S : Sto) (H : Hp) (io' : Nat → Addr) (S' : Sto) (H' : Hp) : Prop where
  len : S.length ≤ S'.length
  adr : ∀ n, n < S.length → io' n = io n
  keep : ∀ a o, H a = some o → N0 io S a → H' a = some o ∧ N0 io' S' a
abbrev ZS := Addr → Prop
/-- the script: known to the object, or an object of the module -/
def FzL (K : PySem.W.Frag) (H : Hp) (a : Addr) (xs : List V) : Prop :=
  (∃ o, H a = some (.frz o (.lst xs))) ∨
    ∃ (o : Obj) (its : Array Value) (n : Nat), K.lookup a = some o ∧ o.cls = .type "list" ∧ o.dict = none ∧ o.data = .seq its n ∧ its.size ≤ sizeLine ∧ Vals xs its.toList
theorem FzL.sq {K : PySem.W.Frag} {H : Hp} {a : Addr} {xs : List V} (h : FzL K H a xs) : SqL K H a xs := by
  rcases h with ⟨o, h⟩ | h
  · exact .inl (.inr ⟨o, h⟩)
  · exact .inr h
theorem FzL.keep {K : PySem.W.Frag} {H H' : Hp} {a : Addr} {xs : List V} (h : FzL K H a xs) (k : ∀ a o, H a = some o → Fx o → H' a = some o) : FzL K H' a xs := by
  rcases h with ⟨o, h⟩ | h
  · exact .inl ⟨o, k _ _ h trivial⟩
  · exact .inr h
inductive WRel (K : PySem.W.Frag) (Z : Addr → Prop) (io : Nat → Addr) (S : Sto) (H : Hp) : W → V → Prop
  | d {x : D} {v : V} : DRel K H (NA Z io S) x v → WRel K Z io S H (.d x) v
  | ref {n : Nat} : n < S.length → WRel K Z io S H (.ref n) (.ref (io n))
  | fz {a : Addr} {ds : List D} {vs : List V} : FzL K H a vs → DRels K H (NA Z io S) ds vs → WRel K Z io S H (.fz ds) (.ref a)
  | exn {a C : Addr} {c : Str} {a0 tb : Value} : PySem.W.nsIn K mainGlobals c = some (some (.ref C)) → H a = some (ZX.XF (ZX.exO (.ref C) none a0 tb)) → WRel K Z io S H (.exn c) (.ref a)
inductive WRels (K : PySem.W.Frag) (Z : Addr → Prop) (io : Nat → Addr) (S : Sto) (H : Hp) : List W → List V → Prop
  | nil : WRels K Z io S H [] []
  | cons {w : W} {ws : List W} {v : V} {vs : List V} : WRel K Z io S H w v → WRels K Z io S H ws vs → WRels K Z io S H (w :: ws) (v :: vs)
structure SRel (K : PySem.W.Frag) (Z : Addr → Prop) (io : Nat → Addr) (S : Sto) (H : Hp) (t : DS) (σ : St) : Prop where
  len : t.length = σ.length
  get : ∀ (i : Nat) (w : W), t[i]? = some (some w) → ∃ v, σ[i]? = some (some v) ∧ WRel K Z io S H w v
section
variable {K : PySem.W.Frag} {Z : Addr → Prop} {io io' io2 : Nat → Addr} {S S' S2 : Sto} {H H' H2 : Hp}
theorem HRel.na0 {a : Addr} {o : HO} (r : HRel K Z io S H) (h : H a = some o) (n : Fx o) : N0 io S a := fun m ⟨c, e, nd⟩ z => by
  obtain ⟨u, q, nf⟩ := (r.cells m c e).there nd
  rw [z, h] at q
  cases q
  exact nf n
theorem Ext.refl : Ext io S H io S H := ⟨Nat.le_refl _, fun _ _ => rfl, fun _ _ h n => ⟨h, n⟩⟩
theorem Ext.trans (a : Ext io S H io' S' H') (b : Ext io' S' H' io2 S2 H2) : Ext io S H io2 S2 H2 :=
  ⟨Nat.le_trans a.len b.len, fun n hn => (b.adr n (Nat.lt_of_lt_of_le hn a.len)).trans (a.adr n hn), fun x o h n => let ⟨h1, n1⟩ := a.keep x o h n; b.keep x o h1 n1⟩
theorem Ext.k1 (r : HRel K Z io S H) (x : Ext io S H io' S' H') : ∀ a o, H a = some o → Fx o → H' a = some o := fun a o h n => (x.keep a o h (r.na0 h n)).1
theorem Ext.k2 (x : Ext io S H io' S' H') : ∀ a xs, H a = some (.lst xs) → NA Z io S a → H' a = some (.lst xs) ∧ NA Z io' S' a := fun a _ h n => ⟨(x.keep a _ h n.1).1, (x.keep a _ h n.1).2, n.2⟩
theorem DRel.ext {d : D} {v : V} (q : DRel K H (NA Z io S) d v) (r : HRel K Z io S H) (x : Ext io S H io' S' H') : DRel K H' (NA Z io' S') d v := q.mono (x.k1 r) x.k2
theorem DRels.ext {d : List D} {v : List V} (q : DRels K H (NA Z io S) d v) (r : HRel K Z io S H) (x : Ext io S H io' S' H') : DRels K H' (NA Z io' S') d v := q.mono (x.k1 r) x.k2
theorem WRel.ext {w : W} {v : V} (q : WRel K Z io S H w v) (r : HRel K Z io S H) (x : Ext io S H io' S' H') : WRel K Z io' S' H' w v := by
  cases q with
  | d q => exact .d (q.ext r x)
  | ref h => rw [← x.adr _ h]; exact .ref (Nat.lt_of_lt_of_le h x.len)
  | fz h q => exact .fz (h.keep (x.k1 r)) (q.ext r x)
  | exn h q => exact .exn h (x.k1 r _ _ q trivial)
theorem WRels.ext (r : HRel K Z io S H) (x : Ext io S H io' S' H') : ∀ {w : List W} {v : List V}, WRels K Z io S H w v → WRels K Z io' S' H' w v
  | _, _, .nil => .nil
  | _, _, .cons q t => .cons (q.ext r x) (WRels.ext r x t)
theorem WRels.length : ∀ {w : List W} {v : List V}, WRels K Z io S H w v → w.length = v.length
  | _, _, .nil => rfl
  | _, _, .cons _ t => congrArg (· + 1) t.length
theorem WRels.append : ∀ {ds es : List W} {vs us : List V}, WRels K Z io S H ds vs → WRels K Z io S H es us → WRels K Z io S H (ds ++ es) (vs ++ us)
  | _, _, _, _, .nil, s => s
  | _, _, _, _, .cons r t, s => .cons r (t.append s)
theorem WRels.get : ∀ {ds : List W} {vs : List V} {i : Nat} {d : W}, WRels K Z io S H ds vs → ds[i]? = some d → ∃ v, vs[i]? = some v ∧ WRel K Z io S H d v
  | _, _, _, _, .nil, e => by simp at e
  | _, _, 0, _, .cons r _, e => by simp at e; subst e; exact ⟨_, rfl, r⟩
  | _, _, i + 1, d, .cons _ t, e => by
    obtain ⟨v, h1, h2⟩ := WRels.get (i := i) (d := d) t (by simpa using e)
    exact ⟨v, by simpa using h1, h2⟩
theorem SRel.ext {t : DS} {σ : St} (q : SRel K Z io S H t σ) (r : HRel K Z io S H) (x : Ext io S H io' S' H') : SRel K Z io' S' H' t σ :=
  ⟨q.len, fun i w e => let ⟨v, h1, h2⟩ := q.get i w e; ⟨v, h1, h2.ext r x⟩⟩
theorem SRel.set {t : DS} {σ : St} {w : W} {v : V} (q : SRel K Z io S H t σ) (i : Nat) (r : WRel K Z io S H w v) : SRel K Z io S H (t.set i (some w)) (σ.set i (some v)) := by
  refine ⟨by simp [q.len], fun j u e => ?_⟩
  by_cases hj : i = j
  · subst hj
    by_cases hi : i < t.length
    · rw [List.getElem?_set_self hi] at e
      cases e
      exact ⟨v, List.getElem?_set_self (by rw [← q.len]; exact hi), r⟩
    · rw [List.getElem?_eq_none (by simpa using hi)] at e; cases e
  · rw [List.getElem?_set_ne hj] at e
    obtain ⟨v', h1, h2⟩ := q.get j u e
    exact ⟨v', by rw [List.getElem?_set_ne hj]; exact h1, h2⟩
/-- a new object that is no cell -/
theorem Ext.new {p : Addr} {o : HO} (hp : H p = none) : Ext io S H io S (upd H p o) :=
  ⟨Nat.le_refl _, fun _ _ => rfl, fun a u h n => ⟨by rw [upd_ne (ne_of_none h hp)]; exact h, n⟩⟩
theorem zd_upd {p : Addr} {o : HO} (r : HRel K Z io S H) : ∀ a, Z a → ∃ u, upd H p o a = some u := fun a z => by
  by_cases h : a = p
  · subst h; exact ⟨o, upd_same⟩
  · rw [upd_ne h]; exact r.zd a z
theorem HRel.new {p : Addr} {o : HO} (r : HRel K Z io S H) (hp : H p = none) : HRel K Z io S (upd H p o) := by
  refine ⟨fun n c e => (r.cells n c e).to (fun _ u h => by rw [upd_ne (ne_of_none h hp)]; exact h) ((Ext.new hp).k1 r) (Ext.new hp).k2, r.inj, zd_upd r, r.zc⟩
theorem HRel.fresh0 {p : Addr} (r : HRel K Z io S H) (hp : H p = none) : N0 io S p := fun m ⟨c, e, nd⟩ z => by
  obtain ⟨u, q, _⟩ := (r.cells m c e).there nd
  rw [z, hp] at q; cases q
theorem HRel.freshZ {p : Addr} (r : HRel K Z io S H) (hp : H p = none) : ¬ Z p := fun z => by
  obtain ⟨o, q⟩ := r.zd p z
  rw [hp] at q; cases q
theorem HRel.freshNA {p : Addr} (r : HRel K Z io S H) (hp : H p = none) : NA Z io S p := ⟨r.fresh0 hp, r.freshZ hp⟩
/-- a new cell -/
def ioPush (io : Nat → Addr) (n : Nat) (p : Addr) : Nat → Addr := fun m => if m = n then p else io m
theorem ioPush_at {n : Nat} {p : Addr} : ioPush io n p n = p := if_pos rfl
theorem ioPush_lt {n m : Nat} {p : Addr} (h : m < n) : ioPush io n p m = io m := if_neg (Nat.ne_of_lt h)
theorem live_push {c : Cell} {n : Nat} (h : Live (S ++ [c]) n) : Live S n ∨ n = S.length := by
  obtain ⟨xs, e, nd⟩ := h
  by_cases hn : n < S.length
  · rw [List.getElem?_append_left hn] at e; exact .inl ⟨xs, e, nd⟩
  · right
    have := (List.getElem?_eq_some_iff.mp e).1
    simp at this; omega
theorem N0.push {p a : Addr} {c : Cell} (n : N0 io S a) (h : p ≠ a) : N0 (ioPush io S.length p) (S ++ [c]) a := fun m l => by
  rcases live_push l with l | rfl
  · rw [ioPush_lt l.lt]; exact n m l
  · rw [ioPush_at]; exact h
theorem Ext.cell {p : Addr} {o : HO} {c : Cell} (hp : H p = none) : Ext io S H (ioPush io S.length p) (S ++ [c]) (upd H p o) :=
  ⟨by simp, fun n hn => ioPush_lt hn, fun a u h n => ⟨by rw [upd_ne (ne_of_none h hp)]; exact h, n.push (ne_of_none h hp).symm⟩⟩
theorem HRel.cellNewC {p : Addr} {o : HO} {c : Cell} (r : HRel K Z io S H) (hp : H p = none) (q : HoOk K (upd H p o) (NA Z (ioPush io S.length p) (S ++ [c])) p c) :
    HRel K Z (ioPush io S.length p) (S ++ [c]) (upd H p o) := by
  refine ⟨fun n d e => ?_, fun n m ln lm e => ?_, zd_upd r, fun a z => (r.zc a z).push (fun e => r.freshZ hp (e ▸ z))⟩
  · by_cases hn : n < S.length
    · rw [List.getElem?_append_left hn] at e
      rw [ioPush_lt hn]
      exact (r.cells n d e).to (fun _ u h => by rw [upd_ne (ne_of_none h hp)]; exact h) ((Ext.cell (c := c) hp).k1 r) (Ext.cell (c := c) hp).k2
    · have hn' : n = S.length := by have := (List.getElem?_eq_some_iff.mp e).1; simp at this; omega
      subst hn'
      have e' : d = c := by simpa using e.symm
      subst e'
      rw [ioPush_at]
      exact q
  · have key : ∀ m, Live S m → io m ≠ p := fun m l => r.fresh0 hp m l
    rcases live_push ln with ln | rfl <;> rcases live_push lm with lm | rfl
    · rw [ioPush_lt ln.lt, ioPush_lt lm.lt] at e; exact r.inj n m ln lm e
    · rw [ioPush_lt ln.lt, ioPush_at] at e; exact absurd e (key n ln)
    · rw [ioPush_lt lm.lt, ioPush_at] at e; exact absurd e.symm (key m lm)
    · rfl
theorem HRel.cellNew {p : Addr} {vs : List V} {xs : List D} (r : HRel K Z io S H) (hp : H p = none) (q : DRels K H (NA Z io S) xs vs) :
    HRel K Z (ioPush io S.length p) (S ++ [.lst xs]) (upd H p (.lst vs)) := r.cellNewC hp ⟨vs, upd_same, q.ext r (Ext.cell hp)⟩
/-- a cell written -/
theorem live_setC {n m : Nat} {c : Cell} (l : Live S n) (hc : c ≠ Cell.dead) : Live (S.set n c) m ↔ Live S m := by
  unfold Live
  by_cases h : n = m
  · subst h
    rw [List.getElem?_set_self l.lt]
    exact ⟨fun _ => l, fun _ => ⟨c, rfl, hc⟩⟩
  · rw [List.getElem?_set_ne h]
theorem N0.setC {n : Nat} {c : Cell} {a : Addr} (l : Live S n) (hc : c ≠ Cell.dead) : N0 io (S.set n c) a ↔ N0 io S a :=
  ⟨fun h m lm => h m ((live_setC l hc).mpr lm), fun h m lm => h m ((live_setC l hc).mp lm)⟩
theorem N0.set {n : Nat} {xs : List D} {a : Addr} (l : Live S n) : N0 io (S.set n (.lst xs)) a ↔ N0 io S a := N0.setC l fun z => nomatch z
theorem Ext.writeC {n : Nat} {c : Cell} {o : HO} (l : Live S n) (hc : c ≠ Cell.dead) : Ext io S H io (S.set n c) (upd H (io n) o) :=
  ⟨by simp, fun _ _ => rfl, fun a o h na => ⟨by rw [upd_ne (fun z => na n l z.symm)]; exact h, (N0.setC l hc).mpr na⟩⟩
theorem Ext.write {n : Nat} {xs : List D} {vs : List V} (l : Live S n) : Ext io S H io (S.set n (.lst xs)) (upd H (io n) (.lst vs)) := Ext.writeC l fun z => nomatch z
theorem HRel.writeC {n : Nat} {c : Cell} {o : HO} (r : HRel K Z io S H) (l : Live S n) (hc : c ≠ Cell.dead) (q : HoOk K (upd H (io n) o) (NA Z io (S.set n c)) (io n) c) :
    HRel K Z io (S.set n c) (upd H (io n) o) := by
  refine ⟨fun m d e => ?_, fun a b la lb => r.inj a b ((live_setC l hc).mp la) ((live_setC l hc).mp lb), zd_upd r, fun a z => (N0.setC l hc).mpr (r.zc a z)⟩
  by_cases h : n = m
  · subst h
    rw [List.getElem?_set_self l.lt] at e
    cases e
    exact q
  · rw [List.getElem?_set_ne h] at e
    exact (r.cells m d e).to (fun nd u hu => by rw [upd_ne (fun z => h (r.inj n m l ⟨d, e, nd⟩ z.symm))]; exact hu) ((Ext.writeC (o := o) l hc).k1 r) (Ext.writeC (o := o) l hc).k2
theorem HRel.write {n : Nat} {xs : List D} {vs : List V} (r : HRel K Z io S H) (l : Live S n) (q : DRels K H (NA Z io S) xs vs) :
    HRel K Z io (S.set n (.lst xs)) (upd H (io n) (.lst vs)) := r.writeC l (fun z => nomatch z) ⟨vs, upd_same, q.ext r (Ext.write l)⟩
/-- a cell is frozen for ever: no step of the program -/
theorem live_dead {n m : Nat} (l : Live (S.set n .dead) m) : Live S m ∧ n ≠ m := by
  obtain ⟨xs, e, nd⟩ := l
  by_cases h : n = m
  · subst h
    by_cases hn : n < S.length
    · rw [List.getElem?_set_self hn] at e; cases e; exact absurd rfl nd
    · rw [List.getElem?_eq_none (by simpa using hn)] at e; cases e
  · rw [List.getElem?_set_ne h] at e; exact ⟨⟨xs, e, nd⟩, h⟩
theorem Ext.freeze {n : Nat} : Ext io S H io (S.set n .dead) H :=
  ⟨by simp, fun _ _ => rfl, fun a o h na => ⟨h, fun m lm => na m (live_dead lm).1⟩⟩
theorem HRel.freeze {n : Nat} (r : HRel K Z io S H) : HRel K Z io (S.set n .dead) H := by
  refine ⟨fun m c e => ?_, fun a b la lb => r.inj a b (live_dead la).1 (live_dead lb).1, r.zd, fun a z m lm => r.zc a z m (live_dead lm).1⟩
  by_cases nd : c = .dead
  · subst nd; exact trivial
  have lm : Live (S.set n .dead) m := ⟨c, e, nd⟩
  rw [List.getElem?_set_ne (live_dead lm).2] at e
  exact (r.cells m c e).to (fun _ u h => h) ((Ext.freeze (n := n)).k1 r) (Ext.freeze (n := n)).k2
theorem DRel.frozen {n : Nat} {xs : List D} (r : HRel K Z io S H) (e : S[n]? = some (.lst xs)) : DRel K H (NA Z io (S.set n .dead)) (.lst xs) (.ref (io n)) := by
  obtain ⟨us, hu, z⟩ := r.cell n xs e
  exact .lst hu ⟨fun m lm q => (live_dead lm).2 (r.inj n m (live_lst e) (live_dead lm).1 q.symm), fun q => r.zc _ q n (live_lst e) rfl⟩ (z.ext r Ext.freeze)
/-- the callee's cells are dropped -/
theorem live_take {k m : Nat} (l : Live (S.take k) m) : Live S m ∧ m < k := by
  obtain ⟨xs, e, nd⟩ := l
  have hm : m < k := by have := (List.getElem?_eq_some_iff.mp e).1; rw [List.length_take] at this; omega
  exact ⟨⟨xs, by rw [List.getElem?_take_of_lt hm] at e; exact e, nd⟩, hm⟩
theorem N0.take {k : Nat} {a : Addr} (n : N0 io S a) : N0 io (S.take k) a := fun m l => n m (live_take l).1
theorem NA.take {k : Nat} {a : Addr} (n : NA Z io S a) : NA Z io (S.take k) a := ⟨n.1.take, n.2⟩
theorem DRels.take' {k : Nat} {ds : List D} {vs : List V} (q : DRels K H (NA Z io S) ds vs) : DRels K H (NA Z io (S.take k)) ds vs := q.mono (fun _ _ h _ => h) fun _ _ h n => ⟨h, n.take⟩
theorem DRel.take' {k : Nat} {ds : D} {vs : V} (q : DRel K H (NA Z io S) ds vs) : DRel K H (NA Z io (S.take k)) ds vs := q.mono (fun _ _ h _ => h) fun _ _ h n => ⟨h, n.take⟩
theorem HRel.take {k : Nat} (r : HRel K Z io S H) : HRel K Z io (S.take k) H := by
  refine ⟨fun m c e => ?_, fun a b la lb => r.inj a b (live_take la).1 (live_take lb).1, r.zd, fun a z => (r.zc a z).take⟩
  by_cases nd : c = .dead
  · subst nd; exact trivial
  have lm : Live (S.take k) m := ⟨c, e, nd⟩
  rw [List.getElem?_take_of_lt (live_take lm).2] at e
  exact (r.cells m c e).to (fun _ u h => h) (fun _ _ h _ => h) fun _ _ h n => ⟨h, n.take⟩
theorem Ext.take {k : Nat} (x : Ext io S H io' S' H') (hk : k = S.length) : Ext io S H io' (S'.take k) H' :=
  ⟨by rw [List.length_take, hk]; have := x.len; omega, x.adr, fun a o h n => let ⟨h1, n1⟩ := x.keep a o h n; ⟨h1, n1.take⟩⟩
def ZP (Z : Addr → Prop) (p : Addr) : Addr → Prop := fun a => Z a ∨ a = p
theorem DRels.inZ {p : Addr} (hp : H p = none) {ds : List D} {vs : List V} (q : DRels K H (NA Z io S) ds vs) : DRels K H (NA (ZP Z p) io S) ds vs :=
  q.mono (fun _ _ h _ => h) fun a _ h n => ⟨h, n.1, fun z => z.elim n.2 (ne_of_none h hp)⟩
theorem DRel.inZ {p : Addr} (hp : H p = none) {ds : D} {vs : V} (q : DRel K H (NA Z io S) ds vs) : DRel K H (NA (ZP Z p) io S) ds vs :=
  q.mono (fun _ _ h _ => h) fun a _ h n => ⟨h, n.1, fun z => z.elim n.2 (ne_of_none h hp)⟩
theorem WRel.inZ {p : Addr} (hp : H p = none) {w : W} {v : V} (q : WRel K Z io S H w v) : WRel K (ZP Z p) io S H w v := by
  cases q with
  | d q => exact .d (q.inZ hp)
  | ref h => exact .ref h
  | fz h q => exact .fz h (q.inZ hp)
  | exn h q => exact .exn h q
theorem SRel.inZ {p : Addr} (hp : H p = none) {t : DS} {σ : St} (q : SRel K Z io S H t σ) : SRel K (ZP Z p) io S H t σ :=
  ⟨q.len, fun i w e => let ⟨v, h1, h2⟩ := q.get i w e; ⟨v, h1, h2.inZ hp⟩⟩
/-- the kept-out list is written -/
theorem DRels.outP {p : Addr} {ys zs : List V} (h0 : H p = some (.lst ys)) (hz : Z p) {ds : List D} {vs : List V} (q : DRels K H (NA Z io S) ds vs) : DRels K (upd H p (.lst zs)) (NA Z io S) ds vs :=
  q.mono (fun a u h n => by rw [upd_ne (fun z => by subst z; rw [h0] at h; cases h; exact n)]; exact h) fun a _ h n => ⟨by rw [upd_ne (fun z => n.2 (by rw [z]; exact hz))]; exact h, n⟩
theorem DRel.outP {p : Addr} {ys zs : List V} (h0 : H p = some (.lst ys)) (hz : Z p) {ds : D} {vs : V} (q : DRel K H (NA Z io S) ds vs) : DRel K (upd H p (.lst zs)) (NA Z io S) ds vs :=
  q.mono (fun a u h n => by rw [upd_ne (fun z => by subst z; rw [h0] at h; cases h; exact n)]; exact h) fun a _ h n => ⟨by rw [upd_ne (fun z => n.2 (by rw [z]; exact hz))]; exact h, n⟩
theorem WRel.outP {p : Addr} {ys zs : List V} (h0 : H p = some (.lst ys)) (hz : Z p) {w : W} {v : V} (q : WRel K Z io S H w v) : WRel K Z io S (upd H p (.lst zs)) w v := by
  cases q with
  | d q => exact .d (q.outP h0 hz)
  | ref h => exact .ref h
  | fz h q => exact .fz (h.keep fun a u h n => by rw [upd_ne (fun z => by subst z; rw [h0] at h; cases h; exact n)]; exact h) (q.outP h0 hz)
  | exn h q => exact .exn h (by rw [upd_ne (fun z => by subst z; rw [h0] at q; cases q)]; exact q)
theorem SRel.outP {p : Addr} {ys zs : List V} (h0 : H p = some (.lst ys)) (hz : Z p) {t : DS} {σ : St} (q : SRel K Z io S H t σ) : SRel K Z io S (upd H p (.lst zs)) t σ :=
  ⟨q.len, fun i w e => let ⟨v, h1, h2⟩ := q.get i w e; ⟨v, h1, h2.outP h0 hz⟩⟩
theorem HRel.outP {p : Addr} {ys zs : List V} (h0 : H p = some (.lst ys)) (hz : Z p) (r : HRel K Z io S H) : HRel K Z io S (upd H p (.lst zs)) := by
  refine ⟨fun n c e => (r.cells n c e).to (fun nd u h => by rw [upd_ne (fun z => r.zc p hz n ⟨c, e, nd⟩ z)]; exact h) (fun a u h n => by rw [upd_ne (fun z => by subst z; rw [h0] at h; cases h; exact n)]; exact h) fun a _ h n => ⟨by rw [upd_ne (fun z => n.2 (by rw [z]; exact hz))]; exact h, n⟩, r.inj, zd_upd r, r.zc⟩
theorem HRel.inZ {p : Addr} {o : HO} (r : HRel K Z io S H) (hp : H p = none) : HRel K (ZP Z p) io S (upd H p o) := by
  have r1 := r.new (o := o) hp
  refine ⟨fun n c e => ?_, r.inj, fun a z => ?_, fun a z => ?_⟩
  · exact (r.cells n c e).to (fun _ u h => by rw [upd_ne (ne_of_none h hp)]; exact h) (fun a u h _ => by rw [upd_ne (ne_of_none h hp)]; exact h) fun a _ h n => ⟨by rw [upd_ne (ne_of_none h hp)]; exact h, n.1, fun z => z.elim n.2 (ne_of_none h hp)⟩
  · rcases z with z | rfl
    · exact r1.zd a z
    · exact ⟨o, upd_same⟩
  · rcases z with z | rfl
    · exact r.zc a z
    · exact r.fresh0 hp
theorem DRels.weakZ {p : Addr} {ds : List D} {vs : List V} (q : DRels K H (NA (ZP Z p) io S) ds vs) : DRels K H (NA Z io S) ds vs := q.mono (fun _ _ h _ => h) fun _ _ h n => ⟨h, n.1, fun z => n.2 (.inl z)⟩
theorem HRel.weakZ {p : Addr} (r : HRel K (ZP Z p) io S H) : HRel K Z io S H :=
  ⟨fun n c e => (r.cells n c e).to (fun _ u h => h) (fun _ _ h _ => h) fun _ _ h n => ⟨h, n.1, fun z => n.2 (.inl z)⟩, r.inj, fun a z => r.zd a (.inl z), fun a z => r.zc a (.inl z)⟩
end
end Z
namespace Z
open PySem PySem.Spec L2
open PyProof.Rows hiding St
/-- an exception in flight -/
structure Fly (X : Cx) (pins : List (Addr × Obj)) (σ : St) (H : Hp) (x : Xn) (u : Value) (s : Shared) : Prop where
  ex : ∃ e C, u = .ref e ∧ x.fld = [] ∧ PySem.W.nsIn X.K mainGlobals x.cls = some (some (.ref C)) ∧ ZX.FlyL X pins σ H e C s
def wE (X : Cx) (e : Expr) : TE := fun σ H Q => ∀ pins s, Inv X pins σ H s → wpAny (model X.prog X.w) X.A (eval e X.env) (EP X pins σ Q) X.xe s
def wT (X : Cx) (e : Expr) : TT := fun σ H Q => ∀ pins s, Inv X pins σ H s → wpAny (model X.prog X.w) X.A (isTrue e X.env (eval e X.env)) (TP X pins σ Q) X.xe s
def wW (X : Cx) (e : Expr) : TT := fun σ H Q => ∀ whole pins s, Inv X pins σ H s → wpAny (model X.prog X.w) X.A (isTrue e X.env whole) (TP X pins σ Q) X.xe s
def wA (X : Cx) (es : List Expr) : TA := fun σ H Q => ∀ pos pins s, Inv X pins σ H s → wpAny (model X.prog X.w) X.A (spliced (backTo pos (starEach es X.env))) (AP X pins σ Q) X.xe s
def wO (X : Cx) (f : Value → Value → Sem Value) : R2 := fun x y H Q => ∀ pins s σ v u, Inv X pins σ H s → RelV x v → RelV y u → wpAny (model X.prog X.w) X.A (f v u) (EP X pins σ Q) X.xe s
def wC (X : Cx) (f : Value) : List V → Hp → VK → Prop := fun xs H Q => ∀ pins s σ us, Inv X pins σ H s → Vals xs us → wpAny (model X.prog X.w) X.A (call f us) (EP X pins σ Q) X.xe s
section
variable {X : Cx} {e : Expr} {es : List Expr} {σ : St} {H : Hp}
theorem pe_w : PE X e (wE X e) := fun pins s _ _ _ I h => h pins s I
theorem pt_w : PT X e (wT X e) := fun pins s _ _ _ I h => h pins s I
theorem pa_w : PA X es (wA X es) := fun pos pins s _ _ _ I h => h pos pins s I
theorem op_w {f : Value → Value → Sem Value} : OpR X f (wO X f) := fun pins s σ _ _ _ v u _ I rx ry h => h pins s σ v u I rx ry
theorem call_w {f : Value} : CallR X f (wC X f) := fun pins s σ _ _ us _ I rx h => h pins s σ us I rx
theorem PEw {t : TE} {Q : VK} (h : PE X e t) (q : t σ H Q) : wE X e σ H Q := fun pins s I => h pins s σ H Q I q
theorem PTw {t : TT} {Q : Bool → Hp → Prop} (h : PT X e t) (q : t σ H Q) : wT X e σ H Q := fun pins s I => h pins s σ H Q I q
theorem PAw {t : TA} {Q : List V → Hp → Prop} (h : PA X es t) (q : t σ H Q) : wA X es σ H Q := fun pos pins s I => h pos pins s σ H Q I q
theorem OPw {f : Value → Value → Sem Value} {r : R2} {x y : V} {Q : VK} (h : OpR X f r) (q : r x y H Q) : wO X f x y H Q := fun pins s σ v u I rx ry => h pins s σ H x y v u Q I rx ry q
theorem CAw {f : Value} {r : List V → Hp → VK → Prop} {x : List V} {Q : VK} (h : CallR X f r) (q : r x H Q) : wC X f x H Q := fun pins s σ us I rx => h pins s σ H x us Q I rx q
end
def Acc (X : Cx) (Z : ZS) (io : Nat → Addr) (S : Sto) (H : Hp) (σ : St) (x : Xn) (S' : Sto) : Prop :=
  ∀ pins io' H' u s', Ext io S H io' S' H' → HRel X.K Z io' S' H' → Fly X pins σ H' x u s' → X.xe u s'
def Post {α β : Type} (X : Cx) (Z : ZS) (rel : (Nat → Addr) → Sto → Hp → α → β → Prop) (io : Nat → Addr) (S : Sto) (H : Hp) (σ : St) (r : Res α) (Q : β → Hp → Prop) : Prop :=
  match r with
  | .ok w S' => ∀ io' H' v, Ext io S H io' S' H' → HRel X.K Z io' S' H' → rel io' S' H' w v → Q v H'
  | .exc x S' => Acc X Z io S H σ x S'
  | .bad => False
abbrev RW (X : Cx) (Z : ZS) : (Nat → Addr) → Sto → Hp → W → V → Prop := fun io S H => WRel X.K Z io S H
abbrev RA (X : Cx) (Z : ZS) : (Nat → Addr) → Sto → Hp → List W → List V → Prop := fun io S H => WRels X.K Z io S H
abbrev RT : (Nat → Addr) → Sto → Hp → Bool → Bool → Prop := fun _ _ _ a b => a = b
section
variable {X : Cx} {Z : ZS} {io io1 : Nat → Addr} {S S1 : Sto} {H H1 : Hp} {σ : St}
theorem Acc.from {x : Xn} {S' : Sto} (p : Acc X Z io S H σ x S') (x1 : Ext io S H io1 S1 H1) : Acc X Z io1 S1 H1 σ x S' := fun pins io' H' u s' x2 => p pins io' H' u s' (x1.trans x2)
theorem Post.from {α β : Type} {rel : (Nat → Addr) → Sto → Hp → α → β → Prop} {r : Res α} {Q : β → Hp → Prop} (p : Post X Z rel io S H σ r Q) (x1 : Ext io S H io1 S1 H1) : Post X Z rel io1 S1 H1 σ r Q := by
  cases r with
  | ok w S' => exact fun io' H' v x2 => p io' H' v (x1.trans x2)
  | exc x S' => exact Acc.from p x1
  | bad => exact p
theorem Post.bind {α β γ δ : Type} {rel : (Nat → Addr) → Sto → Hp → α → β → Prop} {rel2 : (Nat → Addr) → Sto → Hp → γ → δ → Prop} {r : Res α} {f : α → Sto → Res γ} {Q : δ → Hp → Prop} {Q1 : β → Hp → Prop}
    (p : Post X Z rel2 io S H σ (r.bind f) Q)
    (k : ∀ io1 S1 H1 w v, Ext io S H io1 S1 H1 → HRel X.K Z io1 S1 H1 → rel io1 S1 H1 w v → Post X Z rel2 io1 S1 H1 σ (f w S1) Q → Q1 v H1) : Post X Z rel io S H σ r Q1 := by
  cases r with
  | ok w S' => exact fun io' H' v x2 h2 r2 => k io' S' H' w v x2 h2 r2 (Post.from p x2)
  | exc x S' => exact p
  | bad => exact p
theorem Post.ok {α β : Type} {rel : (Nat → Addr) → Sto → Hp → α → β → Prop} {w : α} {v : β} {Q : β → Hp → Prop} (p : Post X Z rel io S H σ (.ok w S) Q) (hr : HRel X.K Z io S H) (q : rel io S H w v) : Q v H := p io H v Ext.refl hr q
end
abbrev M := DS → Sto → Res W
structure ME (X : Cx) (e : Expr) (m : M) : Prop where
  run : ∀ Z io S H t σ Q, HRel X.K Z io S H → SRel X.K Z io S H t σ → Post X Z (RW X Z) io S H σ (m t S) Q → wE X e σ H Q
abbrev MB := DS → Sto → Res Bool
structure MT (X : Cx) (e : Expr) (m : MB) : Prop where
  run : ∀ Z io S H t σ Q, HRel X.K Z io S H → SRel X.K Z io S H t σ → Post X Z RT io S H σ (m t S) Q → wT X e σ H Q
structure MW (X : Cx) (e : Expr) (m : MB) : Prop where
  run : ∀ Z io S H t σ Q, HRel X.K Z io S H → SRel X.K Z io S H t σ → Post X Z RT io S H σ (m t S) Q → wW X e σ H Q
abbrev MAs := DS → Sto → Res (List W)
structure MA (X : Cx) (es : List Expr) (m : MAs) : Prop where
  run : ∀ Z io S H t σ Q, HRel X.K Z io S H → SRel X.K Z io S H t σ → Post X Z (RA X Z) io S H σ (m t S) Q → wA X es σ H Q
def dVar (i : Nat) : M := fun t S => match t[i]? with | some (some w) => .ok w S | _ => .bad
def dCon (c : D) : M := fun _ S => .ok (.d c) S
section
variable {X : Cx}
theorem me_var {i : Nat} {x : Str} {pos : Pos} (hN : X.N[i]? = some x) (hv : Vis X.env.scope x) (hd : (x == ("__debug__" : Str)) = false := by decide) (hcd : (x == ("__classdict__" : Str)) = false := by decide) : ME X (.Name x pos) (dVar i) := by
  refine ⟨fun Z io S H t σ Q hr sr p => PEw (pe_var hN hv hd hcd) ?_⟩
  unfold dVar at p
  split at p
  · rename_i w e
    obtain ⟨v, e1, r⟩ := sr.get i w e
    exact ⟨v, e1, p.ok hr r⟩
  · exact p.elim
theorem me_int {i : Int} {j : Nat} {pos : Pos} : ME X (.Constant (.int i) j pos) (dCon (.int i)) := ⟨fun Z io S H t σ Q hr sr p => PEw pe_int (p.ok hr (.d (.int i)))⟩
theorem me_bl {i : Bool} {j : Nat} {pos : Pos} : ME X (.Constant (.bool i) j pos) (dCon (.bl i)) := ⟨fun Z io S H t σ Q hr sr p => PEw pe_bl (p.ok hr (.d (.bl i)))⟩
theorem me_str {i : Str} {j : Nat} {pos : Pos} : ME X (.Constant (.str i) j pos) (dCon (.str i)) := ⟨fun Z io S H t σ Q hr sr p => PEw pe_str (p.ok hr (.d (.str i)))⟩
end
/-- the list that stands there (a cell, a frozen one, the script) -/
def lstOf (S : Sto) : W → Option (List D)
  | .d (.lst xs) => some xs
  | .ref n => (match S[n]? with | some (.lst xs) => some xs | _ => none)
  | .fz xs => some xs
  | _ => none
def lstOfM (S : Sto) : W → Option (List D)
  | .d (.lst xs) => some xs
  | .ref n => (match S[n]? with | some (.lst xs) => some xs | _ => none)
  | _ => none
def tupOf : W → Option (List D)
  | .d (.tup xs) => some xs
  | _ => none
section
variable {X : Cx} {Z : ZS} {io : Nat → Addr} {S : Sto} {H : Hp} {K : PySem.W.Frag}
theorem lst_sq {w : W} {v : V} {xs : List D} (hr : HRel K Z io S H) (r : WRel K Z io S H w v) (e : lstOf S w = some xs) : ∃ a vs, v = .ref a ∧ SqL K H a vs ∧ DRels K H (NA Z io S) xs vs := by
  cases r with
  | d r =>
    cases r with
    | lst h n q => cases e; exact ⟨_, _, rfl, SqL.of h, q⟩
    | _ => cases e
  | ref hn =>
    unfold lstOf at e
    dsimp only at e
    split at e
    · rename_i ys q
      cases e
      obtain ⟨vs, h1, h2⟩ := hr.cell _ _ q
      exact ⟨_, vs, rfl, SqL.of h1, h2⟩
    · cases e
  | fz h q => cases e; exact ⟨_, _, rfl, h.sq, q⟩
  | exn _ _ => cases e
theorem lst_mut {w : W} {v : V} {xs : List D} (hr : HRel K Z io S H) (r : WRel K Z io S H w v) (e : lstOfM S w = some xs) : ∃ a vs, v = .ref a ∧ H a = some (.lst vs) ∧ DRels K H (NA Z io S) xs vs := by
  cases r with
  | d r =>
    cases r with
    | lst h n q => cases e; exact ⟨_, _, rfl, h, q⟩
    | _ => cases e
  | ref hn =>
    unfold lstOfM at e
    dsimp only at e
    split at e
    · rename_i ys q
      cases e
      obtain ⟨vs, h1, h2⟩ := hr.cell _ _ q
      exact ⟨_, vs, rfl, h1, h2⟩
    · cases e
  | fz h q => cases e
  | exn _ _ => cases e
theorem tup_sq {w : W} {v : V} {xs : List D} (r : WRel K Z io S H w v) (e : tupOf w = some xs) : ∃ a vs, v = .ref a ∧ SqT K H a vs ∧ DRels K H (NA Z io S) xs vs := by
  cases r with
  | d r =>
    cases r with
    | tup h q => cases e; exact ⟨_, _, rfl, h, q⟩
    | _ => cases e
  | _ => cases e
/-- a new frozen list, a new tuple -/
theorem new_lst {xs : List D} {vs : List V} {p : Addr} (hr : HRel K Z io S H) (q : DRels K H (NA Z io S) xs vs) (hp : H p = none) : WRel K Z io S (upd H p (.lst vs)) (.d (.lst xs)) (.ref p) :=
  .d (.lst upd_same (hr.freshNA hp) (q.ext hr (Ext.new hp)))
theorem new_tup {xs : List D} {vs : List V} {p : Addr} (hr : HRel K Z io S H) (q : DRels K H (NA Z io S) xs vs) (hp : H p = none) : WRel K Z io S (upd H p (.tup vs)) (.d (.tup xs)) (.ref p) :=
  .d (.tup (SqT.of upd_same) (q.ext hr (Ext.new hp)))
theorem post_new {σ : St} {w : W} {Q : VK} {o : HO} {p : Addr} (po : Post X Z (RW X Z) io S H σ (.ok w S) Q) (hr : HRel X.K Z io S H) (hp : H p = none) (q : WRel X.K Z io S (upd H p o) w (.ref p)) : Q (.ref p) (upd H p o) :=
  po io _ _ (Ext.new hp) (hr.new hp) q
end
mutual
def toP : D → PyData
  | .non => .none
  | .bl b => .bool b
  | .int i => .int i
  | .str x => .str x
  | .tup xs => .tuple (toPs xs)
  | .lst xs => .list (toPs xs)
  | .exn _ _ _ _ => .dict []
def toPs : List D → List PyData
  | [] => []
  | d :: ds => toP d :: toPs ds
end
section
variable {K : PySem.W.Frag} {H : Hp} {na : Addr → Prop}
mutual
theorem dp_of : ∀ {d : D} {v : V}, DRel K H na d v → (toP d).canLay0 = true → Dp K H v (toP d)
  | _, _, .non, _ => .non
  | _, _, .bl b, _ => .bl b
  | _, _, .int i, _ => .int i
  | _, _, .str x, _ => .str x
  | _, _, .tup h t, c => .tup h (dps_of t (by simpa only [toP, PyData.canLay0] using c))
  | _, _, .lst h n t, c => .lst (SqL.of h) (dps_of t (by simpa only [toP, PyData.canLay0] using c))
  | _, _, .exn _ _ _ _ _ _, c => by simp [toP, PyData.canLay0] at c
theorem dps_of : ∀ {d : List D} {v : List V}, DRels K H na d v → PyData.canLayAll0 (toPs d) = true → DpAll K H v (toPs d)
  | _, _, .nil, _ => .nil
  | _, _, .cons r t, c => by
    simp only [toPs, PyData.canLayAll0, Bool.and_eq_true] at c
    exact .cons (dp_of r c.1) (dps_of t c.2)
end
end
/-- the data that stands there -/
def dataOf (S : Sto) : W → Option D
  | .d x => some x
  | .ref n => (match S[n]? with | some (.lst xs) => some (.lst xs) | _ => none)
  | .fz xs => some (.lst xs)
  | .exn _ => none
def peq (a b : D) : Bool := PyData.eqv (toP a) (toP b)
def isStr : D → Bool
  | .str _ => true
  | _ => false
def okD (d : D) : Bool := SeqAt.shaped (toP d)
def eqOk (a b : D) : Bool := (isStr a && isStr b) || (okD a && okD b)
theorem dp_data {K : PySem.W.Frag} {Z : ZS} {io : Nat → Addr} {S : Sto} {H : Hp} {w : W} {v : V} {x : D} (hr : HRel K Z io S H) (r : WRel K Z io S H w v) (e : dataOf S w = some x) (c : okD x = true) : Dp K H v (toP x) := by
  have c := SeqAt.canLay_of_shaped c
  have c2 : ∀ ys, toP (.lst ys) = .list (toPs ys) := fun ys => by rw [toP]
  cases r with
  | d r => cases e; exact dp_of r c
  | ref hn =>
    unfold dataOf at e
    dsimp only at e
    split at e
    · rename_i ys q
      cases e
      obtain ⟨vs, h1, h2⟩ := hr.cell _ _ q
      rw [c2] at c ⊢
      exact .lst (SqL.of h1) (dps_of h2 (by simpa only [PyData.canLay0] using c))
    · cases e
  | fz h q =>
    cases e
    rw [c2] at c ⊢
    exact .lst h.sq (dps_of q (by simpa only [PyData.canLay0] using c))
  | exn _ _ => cases e
def mulOk (i j : Int) : Bool := decide (i.natAbs < 2 ^ 64) || decide (j.natAbs < 2 ^ 64) || (decide (i.natAbs.log2 < 2 ^ 18) && decide (j.natAbs.log2 < 2 ^ 18))
def divOk (j : Int) : Bool := decide (0 < j) && decide (j.natAbs.log2 < 9000)
def opD (op : Operator) (x y : W) (S : Sto) : Res W :=
  match op, x, y with
  | .Add, .d (.int i), .d (.int j) => .ok (.d (.int (i + j))) S
  | .Sub, .d (.int i), .d (.int j) => .ok (.d (.int (i - j))) S
  | .Mult, .d (.int i), .d (.int j) => if mulOk i j = true then .ok (.d (.int (i * j))) S else .bad
  | .FloorDiv, .d (.int i), .d (.int j) => if divOk j = true then .ok (.d (.int (i / j))) S else .bad
  | .Mod, .d (.int i), .d (.int j) => if 0 < j then .ok (.d (.int (i % j))) S else .bad
  | .Pow, .d (.int i), .d (.int j) => if 0 ≤ j ∧ j ≤ 1000000 ∧ i.natAbs < 2 ^ 64 then .ok (.d (.int (i ^ j.toNat))) S else .bad
  | .Add, .d (.str i), .d (.str j) => if i.length + j.length ≤ sizeLine then .ok (.d (.str (i ++ j))) S else .bad
  | .Add, .d (.tup xs), .d (.tup ys) => if (!xs.isEmpty && decide (xs.length + ys.length ≤ sizeLine)) = true then .ok (.d (.tup (xs ++ ys))) S else .bad
  | .Add, x, y => (match lstOfM S x, lstOfM S y with
    | some xs, some ys => if xs.length + ys.length ≤ sizeLine then .ok (.d (.lst (xs ++ ys))) S else .bad
    | _, _ => .bad)
  | .Mult, x, .d (.int k) => (match lstOfM S x with
    | some xs => if (decide (0 ≤ k) && decide (k < 2 ^ 63) && decide (xs.length * k.toNat ≤ sizeLine)) = true then .ok (.d (.lst (List.replicate k.toNat xs).flatten)) S else .bad
    | none => .bad)
  | _, _, _ => .bad
theorem bits_le {i : Int} (h : i.natAbs.log2 < 2 ^ 18) : Builtin.Int.intBits i ≤ 2 ^ 20 := by
  unfold Builtin.Int.intBits
  split
  · exact Nat.zero_le _
  · omega
theorem mulOk_ok {i j : Int} (h : mulOk i j = true) : IntMulOk i j := by
  unfold mulOk at h
  simp only [Bool.or_eq_true, Bool.and_eq_true, decide_eq_true_eq] at h
  rcases h with (h | h) | ⟨h1, h2⟩
  · exact .of_left (intBits_le_64 (by omega) (by omega))
  · exact .of_right (intBits_le_64 (by omega) (by omega))
  · exact .of_bits (bits_le h1) (bits_le h2)
section
variable {X : Cx} {Z : ZS} {io : Nat → Addr} {S : Sto} {H : Hp} {σ : St}
theorem op_mulA : OpR X (binaryOp .Mult) (rI (fun i j => mulOk i j = true) fun i j => .int (i * j)) := opI fun _ _ _ _ _ _ _ hc q => mul_int q (mulOk_ok hc)
theorem divOk_ok {j : Int} (h : divOk j = true) : 0 < j ∧ j.natAbs.log2 < 9000 := by
  unfold divOk at h
  simpa using h
theorem op_fdivA : OpR X (binaryOp .FloorDiv) (rI (fun _ j => divOk j = true) fun i j => .int (i / j)) := by
  intro pins s σ H x y v u Q I rx ry h
  obtain ⟨i, j, rfl, rfl, hc, q⟩ := h
  obtain ⟨t, rfl⟩ := rx
  obtain ⟨t', rfl⟩ := ry
  obtain ⟨h1, h2⟩ := divOk_ok hc
  refine floordiv_int (by omega) ?_ (.inl (PyProof.noPylong_of_log2 h2))
  have e : i.fdiv j = i / j := Int.fdiv_eq_ediv_of_nonneg _ (by omega)
  rw [e]
  exact ⟨.int (i / j), H, I.tok _, ⟨_, rfl⟩, q⟩
theorem drels_rep {K : PySem.W.Frag} {H : Hp} {na : Addr → Prop} {ds : List D} {vs : List V} (q : DRels K H na ds vs) : ∀ n : Nat, DRels K H na (List.replicate n ds).flatten (List.replicate n vs).flatten
  | 0 => .nil
  | n + 1 => by rw [List.replicate_succ, List.replicate_succ, List.flatten_cons, List.flatten_cons]; exact q.append (drels_rep q n)
theorem opD_ok {op : Operator} {x y : W} {vx vy : V} {Q : VK} (hr : HRel X.K Z io S H) (rx : WRel X.K Z io S H x vx) (ry : WRel X.K Z io S H y vy) (p : Post X Z (RW X Z) io S H σ (opD op x y S) Q) : wO X (binaryOp op) vx vy H Q := by
  have ii : ∀ {i j : Int}, WRel X.K Z io S H (.d (.int i)) vx → WRel X.K Z io S H (.d (.int j)) vy → vx = .int i ∧ vy = .int j := fun a b => by
    cases a with | d a => cases a; cases b with | d b => cases b; exact ⟨rfl, rfl⟩
  unfold opD at p
  split at p
  · obtain ⟨rfl, rfl⟩ := ii rx ry
    exact OPw op_add ⟨_, _, rfl, rfl, p.ok hr (.d (.int _))⟩
  · obtain ⟨rfl, rfl⟩ := ii rx ry
    exact OPw op_sub ⟨_, _, rfl, rfl, p.ok hr (.d (.int _))⟩
  · obtain ⟨rfl, rfl⟩ := ii rx ry
    split at p
    · rename_i hm
      exact OPw op_mulA ⟨_, _, rfl, rfl, hm, p.ok hr (.d (.int _))⟩
    · exact p.elim
  · obtain ⟨rfl, rfl⟩ := ii rx ry
    split at p
    · rename_i hm
      exact OPw op_fdivA ⟨_, _, rfl, rfl, hm, p.ok hr (.d (.int _))⟩
    · exact p.elim
  · obtain ⟨rfl, rfl⟩ := ii rx ry
    split at p
    · rename_i hm
      exact OPw op_mod ⟨_, _, rfl, rfl, hm, p.ok hr (.d (.int _))⟩
    · exact p.elim
  · obtain ⟨rfl, rfl⟩ := ii rx ry
    split at p
    · rename_i hm
      exact OPw op_pow ⟨_, _, rfl, rfl, hm, p.ok hr (.d (.int _))⟩
    · exact p.elim
  · split at p
    · rename_i hm
      cases rx with
      | d rx =>
        cases rx
        cases ry with
        | d ry =>
          cases ry
          exact OPw op_add_str ⟨_, _, rfl, rfl, hm, p.ok hr (.d (.str _))⟩
    · exact p.elim
  · split at p
    · rename_i hm
      rw [Bool.and_eq_true, decide_eq_true_eq] at hm
      cases rx with
      | d rx =>
        cases rx with
        | tup h1 q1 =>
          cases ry with
          | d ry =>
            cases ry with
            | tup h2 q2 =>
              refine OPw op_catT ⟨_, _, _, _, rfl, rfl, h1, h2, ?_, by rw [← q1.length, ← q2.length]; exact hm.2, fun z => ?_, fun z pa hp => ?_⟩
              · intro z; subst z; cases q1; exact absurd hm.1 (by simp)
              · subst z; cases q2
                rw [List.append_nil] at p
                exact p.ok hr (.d (.tup h1 q1))
              · exact post_new p hr hp (.d (.tup (.inl (.inl upd_same)) ((q1.append q2).ext hr (Ext.new hp))))
    · exact p.elim
  · split at p
    · rename_i xs ys e1 e2
      split at p
      · rename_i hz
        obtain ⟨a, vs, rfl, h1, q1⟩ := lst_mut hr rx e1
        obtain ⟨b, us, rfl, h2, q2⟩ := lst_mut hr ry e2
        exact OPw op_cat ⟨a, b, vs, us, rfl, rfl, h1, h2, by rw [← q1.length, ← q2.length]; exact hz, fun pa hp => post_new p hr hp (new_lst hr (q1.append q2) hp)⟩
      · exact p.elim
    · exact p.elim
  · split at p
    · rename_i xs e1
      split at p
      · rename_i hz
        rw [Bool.and_eq_true, Bool.and_eq_true, decide_eq_true_eq, decide_eq_true_eq, decide_eq_true_eq] at hz
        obtain ⟨a, vs, rfl, h1, q1⟩ := lst_mut hr rx e1
        cases ry with
        | d ry =>
          cases ry
          exact OPw op_rep ⟨a, _, vs, rfl, rfl, h1, by omega, hz.1.2, by rw [← q1.length]; exact hz.2, fun pa hp => post_new p hr hp (new_lst hr (drels_rep q1 _) hp)⟩
      · exact p.elim
    · exact p.elim
  · exact p.elim
end
def isNon : D → Bool
  | .non => true
  | _ => false
def seqD : D → Option (List D)
  | .lst xs => some xs
  | .tup xs => some xs
  | _ => none
def keyOf : D → Option Key
  | .int i => some (.inl i)
  | .str x => some (.inr x)
  | _ => none
def valAt {κ : Type} [DecidableEq κ] (kvs : List (κ × D)) (k : κ) : Option D := (kvs.find? fun kv => decide (kv.1 = k)).map (·.2)
/-- the dict's look: its answer -/
def lookD (S : Sto) (x y : W) : Option (Option D) := match x, y with
  | .d a, .ref n => (match S[n]?, keyOf a with | some (.dk kvs), some k => some (valAt kvs k) | _, _ => none)
  | _, _ => none
def inD (neg : Bool) (x y : W) (S : Sto) : Res W := match lookD S x y with
  | some o => .ok (.d (.bl (if neg = true then !o.isSome else o.isSome))) S
  | none => (match dataOf S x, dataOf S y with
    | some a, some c => (match seqD c with
      | some bs => if (okD a && okD c) = true then .ok (.d (.bl (if neg = true then !bs.any (fun b => peq b a) else bs.any (fun b => peq b a)))) S else .bad
      | none => .bad)
    | _, _ => .bad)
def cmpD (op : CmpOp) (x y : W) (S : Sto) : Res W :=
  match op, x, y with
  | .Lt, .d (.int i), .d (.int j) => .ok (.d (.bl (decide (i < j)))) S
  | .LtE, .d (.int i), .d (.int j) => .ok (.d (.bl (decide (i ≤ j)))) S
  | .Gt, .d (.int i), .d (.int j) => .ok (.d (.bl (decide (j < i)))) S
  | .GtE, .d (.int i), .d (.int j) => .ok (.d (.bl (decide (j ≤ i)))) S
  | .Lt, .d (.str i), .d (.str j) => .ok (.d (.bl (decide (i.cps.toList < j.cps.toList)))) S
  | .LtE, .d (.str i), .d (.str j) => .ok (.d (.bl (!decide (j.cps.toList < i.cps.toList)))) S
  | .Gt, .d (.str i), .d (.str j) => .ok (.d (.bl (decide (j.cps.toList < i.cps.toList)))) S
  | .GtE, .d (.str i), .d (.str j) => .ok (.d (.bl (!decide (i.cps.toList < j.cps.toList)))) S
  | .Eq, x, y => (match dataOf S x, dataOf S y with
    | some a, some b => if eqOk a b = true then .ok (.d (.bl (peq a b))) S else .bad
    | _, _ => .bad)
  | .NotEq, x, y => (match dataOf S x, dataOf S y with
    | some a, some b => if eqOk a b = true then .ok (.d (.bl (!peq a b))) S else .bad
    | _, _ => .bad)
  | .Is, .d x, .d .non => .ok (.d (.bl (isNon x))) S
  | .IsNot, .d x, .d .non => .ok (.d (.bl (!isNon x))) S
  | .In, .d (.str x), .d (.str z) => (match x.cps.toList with | [c] => .ok (.d (.bl (decide (c ∈ z.cps.toList)))) S | _ => .bad)
  | .NotIn, .d (.str x), .d (.str z) => (match x.cps.toList with | [c] => .ok (.d (.bl (!decide (c ∈ z.cps.toList)))) S | _ => .bad)
  | .In, x, y => inD false x y S
  | .NotIn, x, y => inD true x y S
  | _, _, _ => .bad
end Z
namespace Z
open PySem PySem.Spec L2
open PyProof.Rows hiding St
structure Cok (X : Cx) : Prop where
  calm : X.calm = true
  un : X.A.units + 64 < cLine
  nd : X.N.Nodup
  hp : PassesOwn (model X.prog X.w) X.A X.env X.xe
section
variable {X : Cx} {Z : ZS} {io : Nat → Addr} {S : Sto} {H : Hp} {σ : St}
theorem str_of {x : Str} {v : V} (r : WRel X.K Z io S H (.d (.str x)) v) : v = .str x := by
  cases r with | d r => cases r; rfl
theorem int_of {x : Int} {v : V} (r : WRel X.K Z io S H (.d (.int x)) v) : v = .int x := by
  cases r with | d r => cases r; rfl
theorem bl_of {x : Bool} {v : V} (r : WRel X.K Z io S H (.d (.bl x)) v) : v = .bl x := by
  cases r with | d r => cases r; rfl
theorem non_of {v : V} (r : WRel X.K Z io S H (.d .non) v) : v = .non := by
  cases r with | d r => cases r; rfl
theorem non_iff {x : D} {v : V} (r : WRel X.K Z io S H (.d x) v) : decide (v = V.non) = isNon x := by
  cases r with
  | d r => cases r <;> first | rfl | (exact decide_eq_false (fun z => nomatch z))
theorem sign_of {x : Str} {c : Nat} (h : x.cps.toList = [c]) : x = ⟨#[c]⟩ := by
  obtain ⟨⟨l⟩⟩ := x
  simp only at h
  rw [h]
theorem eq_ok {x y : W} {vx vy : V} {Q : VK} {a b : D} (c : Cok X) (hr : HRel X.K Z io S H) (rx : WRel X.K Z io S H x vx) (ry : WRel X.K Z io S H y vy) (ea : dataOf S x = some a) (eb : dataOf S y = some b) (hk : eqOk a b = true) (q : Q (.bl (peq a b)) H) :
    wO X (compareOp .Eq) vx vy H Q := by
  unfold eqOk at hk
  by_cases hs : (isStr a && isStr b) = true
  · have h1 : ∃ s, a = .str s := by cases a <;> simp_all [isStr]
    have h2 : ∃ s, b = .str s := by cases b <;> simp_all [isStr]
    obtain ⟨s1, rfl⟩ := h1
    obtain ⟨s2, rfl⟩ := h2
    have e1 : x = .d (.str s1) := by
      cases x with
      | d z => cases ea; rfl
      | ref n => unfold dataOf at ea; dsimp only at ea; split at ea <;> cases ea
      | fz z => cases ea
      | exn z => cases ea
    have e2 : y = .d (.str s2) := by
      cases y with
      | d z => cases eb; rfl
      | ref n => unfold dataOf at eb; dsimp only at eb; split at eb <;> cases eb
      | fz z => cases eb
      | exn z => cases eb
    subst e1; subst e2
    obtain rfl := str_of rx
    obtain rfl := str_of ry
    refine OPw op_eq ⟨rfl, ?_⟩
    rw [dec_str]
    exact q
  · have h2 : (okD a && okD b) = true := by
      cases h : (isStr a && isStr b) with
      | true => exact absurd h hs
      | false => rw [h] at hk; simpa using hk
    rw [Bool.and_eq_true] at h2
    exact OPw (op_eqD c.un) ⟨toP a, toP b, dp_data hr rx ea h2.1, dp_data hr ry eb h2.2, h2.1, h2.2, q⟩
theorem ne_ok {x y : W} {vx vy : V} {Q : VK} {a b : D} (c : Cok X) (hr : HRel X.K Z io S H) (rx : WRel X.K Z io S H x vx) (ry : WRel X.K Z io S H y vy) (ea : dataOf S x = some a) (eb : dataOf S y = some b) (hk : eqOk a b = true) (q : Q (.bl (!peq a b)) H) :
    wO X (compareOp .NotEq) vx vy H Q := by
  unfold eqOk at hk
  by_cases hs : (isStr a && isStr b) = true
  · have h1 : ∃ s, a = .str s := by cases a <;> simp_all [isStr]
    have h2 : ∃ s, b = .str s := by cases b <;> simp_all [isStr]
    obtain ⟨s1, rfl⟩ := h1
    obtain ⟨s2, rfl⟩ := h2
    have e1 : x = .d (.str s1) := by
      cases x with
      | d z => cases ea; rfl
      | ref n => unfold dataOf at ea; dsimp only at ea; split at ea <;> cases ea
      | fz z => cases ea
      | exn z => cases ea
    have e2 : y = .d (.str s2) := by
      cases y with
      | d z => cases eb; rfl
      | ref n => unfold dataOf at eb; dsimp only at eb; split at eb <;> cases eb
      | fz z => cases eb
      | exn z => cases eb
    subst e1; subst e2
    obtain rfl := str_of rx
    obtain rfl := str_of ry
    refine OPw op_ne ⟨rfl, ?_⟩
    rw [dec_str]
    exact q
  · have h2 : (okD a && okD b) = true := by
      cases h : (isStr a && isStr b) with
      | true => exact absurd h hs
      | false => rw [h] at hk; simpa using hk
    rw [Bool.and_eq_true] at h2
    exact OPw (op_neD c.un) ⟨toP a, toP b, dp_data hr rx ea h2.1, dp_data hr ry eb h2.2, h2.1, h2.2, q⟩
theorem toPs_any (a : D) : ∀ bs : List D, (toPs bs).any (fun y => PyData.eqv y (toP a)) = bs.any fun b => peq b a
  | [] => rfl
  | b :: bs => by unfold toPs; rw [List.any_cons, List.any_cons, toPs_any a bs]; rfl
theorem in_room {A : Around} {xs : List PyData} {d : PyData} {e : PyData} (he : e = .list xs ∨ e = .tuple xs) (hs : SeqAt.shaped e = true) (hu : A.units + 64 < cLine) : PyData.canLayAll0 xs = true ∧ A.units + 1 + min (PyData.depthAll xs) d.depth < cLine := by
  have h1 := SeqAt.canLay_of_shaped hs
  have h2 := SeqAt.depth_of_shaped hs
  have h3 : min (PyData.depthAll xs) d.depth ≤ PyData.depthAll xs := Nat.min_le_left _ _
  rcases he with rfl | rfl
  · simp only [PyData.canLay0, PyData.depth] at h1 h2
    exact ⟨h1, by omega⟩
  · simp only [PyData.canLay0, PyData.depth] at h1 h2
    exact ⟨h1, by omega⟩
theorem op_inD (hu : X.A.units + 64 < cLine) : OpR X (compareOp .In) (fun x y H Q => ∃ d e xs, Dp X.K H x d ∧ Dp X.K H y e ∧ SeqAt.shaped d = true ∧ SeqAt.shaped e = true ∧ (e = .list xs ∨ e = .tuple xs) ∧ Q (.bl (xs.any fun z => PyData.eqv z d)) H) := by
  intro pins s σ H x y v u Q I rx ry h
  obtain ⟨d, e, xs, hd, he, sd, se, ex, q⟩ := h
  obtain ⟨as, r1⟩ := Dp.reads I d x v hd rx
  obtain ⟨bs, r2⟩ := Dp.reads I e y u he ry
  obtain ⟨c1, c2⟩ := in_room (d := d) ex se hu
  rcases ex with rfl | rfl
  · exact SeqAt.in_list_reads r2 r1 c1 (SeqAt.canLay_of_shaped sd) c2 ⟨.bl _, H, I, rfl, q⟩
  · exact SeqAt.in_tuple_reads r2 r1 c1 (SeqAt.canLay_of_shaped sd) c2 ⟨.bl _, H, I, rfl, q⟩
theorem op_notInD (hu : X.A.units + 64 < cLine) : OpR X (compareOp .NotIn) (fun x y H Q => ∃ d e xs, Dp X.K H x d ∧ Dp X.K H y e ∧ SeqAt.shaped d = true ∧ SeqAt.shaped e = true ∧ (e = .list xs ∨ e = .tuple xs) ∧ Q (.bl (!xs.any fun z => PyData.eqv z d)) H) := by
  intro pins s σ H x y v u Q I rx ry h
  obtain ⟨d, e, xs, hd, he, sd, se, ex, q⟩ := h
  obtain ⟨as, r1⟩ := Dp.reads I d x v hd rx
  obtain ⟨bs, r2⟩ := Dp.reads I e y u he ry
  obtain ⟨c1, c2⟩ := in_room (d := d) ex se hu
  rcases ex with rfl | rfl
  · exact SeqAt.notIn_list_reads r2 r1 c1 (SeqAt.canLay_of_shaped sd) c2 ⟨.bl _, H, I, rfl, q⟩
  · exact SeqAt.notIn_tuple_reads r2 r1 c1 (SeqAt.canLay_of_shaped sd) c2 ⟨.bl _, H, I, rfl, q⟩
theorem valAt_rel {κ : Type} [DecidableEq κ] {K : PySem.W.Frag} {H : Hp} {na : Addr → Prop} {k : κ} : ∀ {kvs : List (κ × D)} {vs : List V}, DRels K H na (kvs.map (·.2)) vs →
    (valAt kvs k = none → valV ((kvs.map (·.1)).zip vs) k = none) ∧ ∀ d, valAt kvs k = some d → ∃ v, valV ((kvs.map (·.1)).zip vs) k = some v ∧ DRel K H na d v
  | [], _, .nil => ⟨fun _ => rfl, fun d z => nomatch z⟩
  | (x, d) :: r, _, .cons h t => by
    obtain ⟨a, b⟩ := valAt_rel (k := k) t
    rw [List.map_cons, List.zip_cons_cons]
    by_cases e : x = k
    · refine ⟨fun z => ?_, fun d' z => ?_⟩
      · simp [valAt, e] at z
      · simp [valAt, e] at z; subst z; exact ⟨_, valV_pos e, h⟩
    · have e2 : valAt ((x, d) :: r) k = valAt r k := by simp [valAt, e]
      rw [e2, valV_neg (p := (x, _)) e]
      exact ⟨a, b⟩
theorem key_v {a : D} {k : Key} {v : V} (r : WRel X.K Z io S H (.d a) v) (e : keyOf a = some k) : v = kV k := by
  cases r with
  | d r => cases a with
    | int i => cases e; cases r; rfl
    | str i => cases e; cases r; rfl
    | non => cases e
    | bl _ => cases e
    | tup _ => cases e
    | lst _ => cases e
    | exn _ _ _ _ => cases e
/-- the dict's look, at the heap -/
theorem look_ok {x y : W} {vx vy : V} {o : Option D} (hr : HRel X.K Z io S H) (rx : WRel X.K Z io S H x vx) (ry : WRel X.K Z io S H y vy) (e : lookD S x y = some o) :
    ∃ a ov, vy = .ref a ∧ DGet H a vx ov ∧ ov.isSome = o.isSome ∧ ∀ d, o = some d → ∃ v, ov = some v ∧ WRel X.K Z io S H (.d d) v := by
  unfold lookD at e
  split at e
  · rename_i a n
    split at e
    · rename_i kvs k e1 e2
      cases e
      obtain ⟨vs, h1, q⟩ := hr.cells n _ e1
      obtain ⟨z1, z2⟩ := valAt_rel (k := k) q
      cases ry with
      | ref hn =>
        refine ⟨_, _, rfl, .inl ⟨_, k, .inl h1, key_v rx e2, rfl⟩, ?_, fun d ed => ?_⟩
        · cases c : valAt kvs k with
          | none => rw [z1 c]; rfl
          | some d => obtain ⟨v, e3, _⟩ := z2 d c; rw [e3]; rfl
        · obtain ⟨v, e3, e4⟩ := z2 d ed
          exact ⟨v, e3, .d e4⟩
    · cases e
  · cases e
theorem op_inT : X.A.units + 1 < cLine → OpR X (compareOp .In) (fun x y H Q => ∃ a o, y = .ref a ∧ DGet H a x o ∧ Q (.bl o.isSome) H) := fun hu => by
  intro pins s σ H x y v u Q I rx ry h
  obtain ⟨a, o, rfl, g, q⟩ := h
  cases ry
  exact d_in hu I g rx fun s' I' => ⟨.bl _, H, I', rfl, q⟩
theorem op_notInT : X.A.units + 1 < cLine → OpR X (compareOp .NotIn) (fun x y H Q => ∃ a o, y = .ref a ∧ DGet H a x o ∧ Q (.bl (!o.isSome)) H) := fun hu => by
  intro pins s σ H x y v u Q I rx ry h
  obtain ⟨a, o, rfl, g, q⟩ := h
  cases ry
  exact d_notIn hu I g rx fun s' I' => ⟨.bl _, H, I', rfl, q⟩
theorem inD_ok {neg : Bool} {x y : W} {vx vy : V} {Q : VK} (c : Cok X) (hr : HRel X.K Z io S H) (rx : WRel X.K Z io S H x vx) (ry : WRel X.K Z io S H y vy) (p : Post X Z (RW X Z) io S H σ (inD neg x y S) Q) : wO X (compareOp (if neg = true then .NotIn else .In)) vx vy H Q := by
  have hu := c.un
  unfold inD at p
  split at p
  · rename_i o e
    obtain ⟨a, ov, rfl, g, es, _⟩ := look_ok hr rx ry e
    rw [← es] at p
    cases neg with
    | true => exact OPw (op_notInT (by omega)) ⟨a, ov, rfl, g, p.ok hr (.d (.bl _))⟩
    | false => exact OPw (op_inT (by omega)) ⟨a, ov, rfl, g, p.ok hr (.d (.bl _))⟩
  · split at p
    · rename_i a c' ea ec
      split at p
      · rename_i bs es
        split at p
        · rename_i hk
          rw [Bool.and_eq_true] at hk
          have ex : toP c' = .list (toPs bs) ∨ toP c' = .tuple (toPs bs) := by
            cases c' with
            | lst xs => cases es; exact .inl rfl
            | tup xs => cases es; exact .inr rfl
            | non => cases es
            | bl _ => cases es
            | int _ => cases es
            | str _ => cases es
            | exn _ _ _ _ => cases es
          rw [← toPs_any] at p
          cases neg with
          | true => exact OPw (op_notInD hu) ⟨toP a, toP c', toPs bs, dp_data hr rx ea hk.1, dp_data hr ry ec hk.2, hk.1, hk.2, ex, p.ok hr (.d (.bl _))⟩
          | false => exact OPw (op_inD hu) ⟨toP a, toP c', toPs bs, dp_data hr rx ea hk.1, dp_data hr ry ec hk.2, hk.1, hk.2, ex, p.ok hr (.d (.bl _))⟩
        · exact p.elim
      · exact p.elim
    · exact p.elim
theorem cmpD_ok {op : CmpOp} {x y : W} {vx vy : V} {Q : VK} (c : Cok X) (hr : HRel X.K Z io S H) (rx : WRel X.K Z io S H x vx) (ry : WRel X.K Z io S H y vy) (p : Post X Z (RW X Z) io S H σ (cmpD op x y S) Q) : wO X (compareOp op) vx vy H Q := by
  unfold cmpD at p
  split at p
  · obtain rfl := int_of rx; obtain rfl := int_of ry
    exact OPw op_lt ⟨_, _, rfl, rfl, p.ok hr (.d (.bl _))⟩
  · obtain rfl := int_of rx; obtain rfl := int_of ry
    exact OPw op_le ⟨_, _, rfl, rfl, p.ok hr (.d (.bl _))⟩
  · obtain rfl := int_of rx; obtain rfl := int_of ry
    exact OPw op_gt ⟨_, _, rfl, rfl, p.ok hr (.d (.bl _))⟩
  · obtain rfl := int_of rx; obtain rfl := int_of ry
    exact OPw op_ge ⟨_, _, rfl, rfl, p.ok hr (.d (.bl _))⟩
  · obtain rfl := str_of rx; obtain rfl := str_of ry
    exact OPw op_lt_str ⟨_, _, rfl, rfl, p.ok hr (.d (.bl _))⟩
  · obtain rfl := str_of rx; obtain rfl := str_of ry
    exact OPw op_le_str ⟨_, _, rfl, rfl, p.ok hr (.d (.bl _))⟩
  · obtain rfl := str_of rx; obtain rfl := str_of ry
    exact OPw op_gt_str ⟨_, _, rfl, rfl, p.ok hr (.d (.bl _))⟩
  · obtain rfl := str_of rx; obtain rfl := str_of ry
    exact OPw op_ge_str ⟨_, _, rfl, rfl, p.ok hr (.d (.bl _))⟩
  · split at p
    · rename_i a b ea eb
      split at p
      · rename_i hk
        exact eq_ok c hr rx ry ea eb hk (p.ok hr (.d (.bl _)))
      · exact p.elim
    · exact p.elim
  · split at p
    · rename_i a b ea eb
      split at p
      · rename_i hk
        exact ne_ok c hr rx ry ea eb hk (p.ok hr (.d (.bl _)))
      · exact p.elim
    · exact p.elim
  · obtain rfl := non_of ry
    refine OPw op_isN ⟨rfl, ?_⟩
    rw [non_iff rx]
    exact p.ok hr (.d (.bl _))
  · obtain rfl := non_of ry
    refine OPw op_notN ⟨rfl, ?_⟩
    rw [non_iff rx]
    exact p.ok hr (.d (.bl _))
  · split at p
    · rename_i cc e
      obtain rfl := str_of rx; obtain rfl := str_of ry
      exact OPw op_in_sign ⟨cc, _, by rw [sign_of e], rfl, p.ok hr (.d (.bl _))⟩
    · exact p.elim
  · split at p
    · rename_i cc e
      obtain rfl := str_of rx; obtain rfl := str_of ry
      exact OPw op_notIn_sign ⟨cc, _, by rw [sign_of e], rfl, p.ok hr (.d (.bl _))⟩
    · exact p.elim
  · exact inD_ok (neg := false) c hr rx ry p
  · exact inD_ok (neg := true) c hr rx ry p
  · exact p.elim
end
def dBin (op : Operator) (a b : M) : M := fun t S => (a t S).bind fun x S1 => (b t S1).bind fun y S2 => opD op x y S2
def dCmp (op : CmpOp) (a b : M) : M := fun t S => (a t S).bind fun x S1 => (b t S1).bind fun y S2 => cmpD op x y S2
def dIsB (b0 : Bool) (neg : Bool) (a : M) : M := fun t S => (a t S).bind fun x S1 => match x with | .d (.bl b) => .ok (.d (.bl ((b == b0) != neg))) S1 | _ => .bad
/-- a bool, as a test -/
def asB (w : W) (S : Sto) : Res Bool := match w with | .d (.bl b) => .ok b S | _ => .bad
def dChain (op op' : CmpOp) (a b c : M) : M := fun t S => (a t S).bind fun x S1 => (b t S1).bind fun y S2 => (cmpD op x y S2).bind fun z S3 => (asB z S3).bind fun k S4 => if k = true then (c t S4).bind fun u S5 => cmpD op' y u S5 else .ok (.d (.bl false)) S4
def dT (a : M) : MB := fun t S => (a t S).bind asB
def dAnd (a b : M) : M := fun t S => (a t S).bind fun x S1 => (asB x S1).bind fun k S2 => if k = true then b t S2 else .ok (.d (.bl false)) S2
def dOr (a b : M) : M := fun t S => (a t S).bind fun x S1 => (asB x S1).bind fun k S2 => if k = true then .ok (.d (.bl true)) S2 else b t S2
def dNot (a : M) : M := fun t S => (a t S).bind fun x S1 => (asB x S1).bind fun k S2 => .ok (.d (.bl (!k))) S2
def dAndT (a b : MB) : MB := fun t S => (a t S).bind fun k S1 => if k = true then b t S1 else .ok false S1
def dOrT (a b : MB) : MB := fun t S => (a t S).bind fun k S1 => if k = true then .ok true S1 else b t S1
def dNotT (a : MB) : MB := fun t S => (a t S).bind fun k S1 => .ok (!k) S1
def dNil : MAs := fun _ S => .ok [] S
def dCons (a : M) (as : MAs) : MAs := fun t S => (a t S).bind fun x S1 => (as t S1).bind fun xs S2 => .ok (x :: xs) S2
def allD : List W → Option (List D)
  | [] => some []
  | .d x :: r => (allD r).map (x :: ·)
  | _ :: _ => none
def dTup (as : MAs) : M := fun t S => (as t S).bind fun ws S1 => match allD ws with | some ds => if ds.length ≤ sizeLine then .ok (.d (.tup ds)) S1 else .bad | none => .bad
def dLst (as : MAs) : M := fun t S => (as t S).bind fun ws S1 => match allD ws with | some ds => if ds.length ≤ sizeLine then .ok (.d (.lst ds)) S1 else .bad | none => .bad
def dLstC (as : MAs) : M := fun t S => (as t S).bind fun ws S1 => match allD ws with | some ds => if ds.length ≤ sizeLine then .ok (.ref S1.length) (S1 ++ [.lst ds]) else .bad | none => .bad
/-- a[i] -/
def ixD (x y : W) (S : Sto) : Res W :=
  match x, y with
  | .d (.tup xs), .d (.int i) => (match atI xs i with | some v => .ok (.d v) S | none => .bad)
  | .d (.str z), .d (.int i) => if z.length ≤ sizeLine then (match atI z.cps.toList i with | some c => .ok (.d (.str ⟨#[c]⟩)) S | none => .bad) else .bad
  | x, .d (.int i) => (match lstOf S x with | some xs => (match atI xs i with | some v => .ok (.d v) S | none => .bad) | none => .bad)
  | _, _ => .bad
def dSub (a b : M) : M := fun t S => (a t S).bind fun x S1 => (b t S1).bind fun y S2 => ixD x y S2
section
variable {X : Cx} {a b c e : Expr} {es rest : List Expr} {ma mb mc : M} {mas : MAs} {ta tb : MB} {pos : Pos}
theorem me_bin {op : Operator} (ha : ME X a ma) (hb : ME X b mb) : ME X (.BinOp a op b pos) (dBin op ma mb) := by
  refine ⟨fun Z io S H t σ Q hr sr p => PEw (pe_op op_w pe_w pe_w) ?_⟩
  refine ha.run Z io S H t σ _ hr sr (Post.bind p fun io1 S1 H1 w v x1 hr1 rw1 p1 => ?_)
  refine hb.run Z io1 S1 H1 t σ _ hr1 (sr.ext hr x1) (Post.bind p1 fun io2 S2 H2 w2 v2 x2 hr2 rw2 p2 => ?_)
  exact opD_ok hr2 (rw1.ext hr1 x2) rw2 p2
theorem me_cmp {op : CmpOp} (k : Cok X) (ha : ME X a ma) (hb : ME X b mb) (hm : behindInMarks op b = false := by first | exact nomark _ | rfl) : ME X (.Compare a [op] [b] pos) (dCmp op ma mb) := by
  refine ⟨fun Z io S H t σ Q hr sr p => PEw (pe_cmpR op_w pe_w pe_w hm) ?_⟩
  refine ha.run Z io S H t σ _ hr sr (Post.bind p fun io1 S1 H1 w v x1 hr1 rw1 p1 => ?_)
  refine hb.run Z io1 S1 H1 t σ _ hr1 (sr.ext hr x1) (Post.bind p1 fun io2 S2 H2 w2 v2 x2 hr2 rw2 p2 => ?_)
  exact cmpD_ok k hr2 (rw1.ext hr1 x2) rw2 p2
theorem mt_cmp {op : CmpOp} (k : Cok X) (ha : ME X a ma) (hb : ME X b mb) (hm : behindInMarks op b = false := by first | exact nomark _ | rfl) : MT X (.Compare a [op] [b] pos) (dT (dCmp op ma mb)) := by
  refine ⟨fun Z io S H t σ Q hr sr p => PTw (pt_cmpR op_w pe_w pe_w hm) ?_⟩
  unfold dT dCmp at p
  rw [bind_assoc] at p
  refine ha.run Z io S H t σ _ hr sr (Post.bind p fun io1 S1 H1 w v x1 hr1 rw1 p1 => ?_)
  rw [bind_assoc] at p1
  refine hb.run Z io1 S1 H1 t σ _ hr1 (sr.ext hr x1) (Post.bind p1 fun io2 S2 H2 w2 v2 x2 hr2 rw2 p2 => ?_)
  refine cmpD_ok k hr2 (rw1.ext hr1 x2) rw2 (Post.bind p2 fun io3 S3 H3 w3 v3 x3 hr3 rw3 p3 => ?_)
  unfold asB at p3
  split at p3
  · obtain rfl := bl_of rw3
    exact ⟨_, rfl, p3.ok hr3 rfl⟩
  · exact p3.elim
theorem me_one {op : BoolOp} (ha : ME X a ma) : ME X (.BoolOp op [a] pos) ma := ⟨fun Z io S H t σ Q hr sr p => PEw (pe_one pe_w) (ha.run Z io S H t σ Q hr sr p)⟩
theorem me_and (ha : ME X a ma) (hb : ME X (.BoolOp .And (b :: rest) pos) mb) : ME X (.BoolOp .And (a :: b :: rest) pos) (dAnd ma mb) := by
  refine ⟨fun Z io S H t σ Q hr sr p => PEw (pe_and pe_w pe_w) ?_⟩
  refine ha.run Z io S H t σ _ hr sr (Post.bind p fun io1 S1 H1 w v x1 hr1 rw1 p1 => ?_)
  unfold asB at p1
  split at p1
  · rename_i k
    obtain rfl := bl_of rw1
    refine ⟨k, rfl, ?_⟩
    cases k with
    | true => rw [if_pos rfl]; exact hb.run Z io1 S1 H1 t σ _ hr1 (sr.ext hr x1) p1
    | false => rw [if_neg Bool.false_ne_true]; exact Post.ok (w := W.d (.bl false)) p1 hr1 (.d (.bl false))
  · exact False.elim p1
theorem MW.mt (h : MW X e ta) : MT X e ta := ⟨fun Z io S H t σ Q hr sr p pins s I => h.run Z io S H t σ Q hr sr p _ pins s I⟩
theorem mt_not (ha : MT X a ta) : MT X (.UnaryOp .Not a pos) (dNotT ta) := by
  refine ⟨fun Z io S H t σ Q hr sr p => PTw (pt_not pt_w) ?_⟩
  refine ha.run Z io S H t σ _ hr sr (Post.bind p fun io1 S1 H1 w v x1 hr1 rw1 p1 => ?_)
  cases rw1
  exact Post.ok (w := !w) p1 hr1 rfl
theorem mt_val (ha : ME X a ma) (he : ∀ whole, isTrue a X.env whole = (do let v ← whole; standAt a.pos; holding [v] (truthy v)) := by intro _; rfl) : MT X a (dT ma) := by
  refine ⟨fun Z io S H t σ Q hr sr p => PTw (pt_val pe_w he) ?_⟩
  refine ha.run Z io S H t σ _ hr sr (Post.bind p fun io1 S1 H1 w v x1 hr1 rw1 p1 => ?_)
  unfold asB at p1
  split at p1
  · obtain rfl := bl_of rw1
    exact ⟨_, rfl, p1.ok hr1 rfl⟩
  · exact p1.elim
theorem ma_nil : MA X [] dNil := ⟨fun Z io S H t σ Q hr sr p => PAw pa_nil (Post.ok (w := ([] : List W)) (v := ([] : List V)) p hr .nil)⟩
theorem ma_cons (ha : ME X e ma) (hr' : MA X es mas) (hs : starEach (e :: es) X.env = (false, eval e X.env) :: starEach es X.env := by rfl) : MA X (e :: es) (dCons ma mas) := by
  refine ⟨fun Z io S H t σ Q hr sr p => PAw (pa_cons pe_w pa_w hs) ?_⟩
  refine ha.run Z io S H t σ _ hr sr (Post.bind p fun io1 S1 H1 w v x1 hr1 rw1 p1 => ?_)
  refine hr'.run Z io1 S1 H1 t σ _ hr1 (sr.ext hr x1) (Post.bind p1 fun io2 S2 H2 w2 v2 x2 hr2 rw2 p2 => ?_)
  exact Post.ok (w := w :: w2) p2 hr2 (.cons (rw1.ext hr1 x2) rw2)
theorem allD_rel {K : PySem.W.Frag} {Z : ZS} {io : Nat → Addr} {S : Sto} {H : Hp} : ∀ {ws : List W} {vs : List V} {ds : List D}, WRels K Z io S H ws vs → allD ws = some ds → DRels K H (NA Z io S) ds vs
  | [], _, _, h, e => by cases h; cases e; exact .nil
  | .d x :: ws, _, ds, h, e => by
    cases h with
    | cons r t =>
      unfold allD at e
      cases q : allD ws with
      | none => rw [q] at e; cases e
      | some ys =>
        rw [q] at e
        cases e
        cases r with
        | d r => exact .cons r (allD_rel t q)
  | .ref n :: ws, _, _, h, e => by cases e
  | .fz n :: ws, _, _, h, e => by cases e
theorem me_tup {k : Nat} (h : MA X es mas) : ME X (.Tuple es k pos) (dTup mas) := by
  refine ⟨fun Z io S H t σ Q hr sr p => PEw (pe_tup pa_w) ?_⟩
  refine h.run Z io S H t σ _ hr sr (Post.bind p fun io1 S1 H1 w v x1 hr1 rw1 p1 => ?_)
  split at p1
  · rename_i ds e
    split at p1
    · rename_i hz
      have q := allD_rel rw1 e
      exact ⟨by rw [← q.length]; exact hz, fun pa hp => post_new p1 hr1 hp (new_tup hr1 q hp)⟩
    · exact p1.elim
  · exact p1.elim
theorem me_lst (h : MA X es mas) : ME X (.List es pos) (dLst mas) := by
  refine ⟨fun Z io S H t σ Q hr sr p => PEw (pe_lst pa_w) ?_⟩
  refine h.run Z io S H t σ _ hr sr (Post.bind p fun io1 S1 H1 w v x1 hr1 rw1 p1 => ?_)
  split at p1
  · rename_i ds e
    split at p1
    · rename_i hz
      have q := allD_rel rw1 e
      exact ⟨by rw [← q.length]; exact hz, fun pa hp => post_new p1 hr1 hp (new_lst hr1 q hp)⟩
    · exact p1.elim
  · exact p1.elim
/-- a new cell -/
theorem post_cell {Z : ZS} {io : Nat → Addr} {S : Sto} {H : Hp} {σ : St} {Q : VK} {ds : List D} {vs : List V} {p : Addr} (po : Post X Z (RW X Z) io S H σ (.ok (.ref S.length) (S ++ [.lst ds])) Q) (hr : HRel X.K Z io S H) (q : DRels X.K H (NA Z io S) ds vs) (hp : H p = none) : Q (.ref p) (upd H p (.lst vs)) := by
  refine po (ioPush io S.length p) _ _ (Ext.cell hp) (hr.cellNew hp q) ?_
  have h := WRel.ref (K := X.K) (Z := Z) (io := ioPush io S.length p) (S := S ++ [.lst ds]) (H := upd H p (.lst vs)) (n := S.length) (by simp)
  rw [ioPush_at] at h
  exact h
theorem me_lstC (h : MA X es mas) : ME X (.List es pos) (dLstC mas) := by
  refine ⟨fun Z io S H t σ Q hr sr p => PEw (pe_lst pa_w) ?_⟩
  refine h.run Z io S H t σ _ hr sr (Post.bind p fun io1 S1 H1 w v x1 hr1 rw1 p1 => ?_)
  split at p1
  · rename_i ds e
    split at p1
    · rename_i hz
      have q := allD_rel rw1 e
      exact ⟨by rw [← q.length]; exact hz, fun pa hp => post_cell p1 hr1 q hp⟩
    · exact p1.elim
  · exact p1.elim
theorem atI_rel {K : PySem.W.Frag} {H : Hp} {na : Addr → Prop} {ds : List D} {vs : List V} {i : Int} {d : D} (q : DRels K H na ds vs) (e : atI ds i = some d) : ∃ v, atI vs i = some v ∧ DRel K H na d v := by
  unfold atI at e ⊢
  rw [q.length] at e
  cases h : ixN vs.length i with
  | none => rw [h] at e; cases e
  | some j => rw [h] at e; exact q.get e
def wI (X : Cx) : R2 := fun x y H Q => ∀ (value slice : Expr) pins s σ v u, Inv X pins σ H s → RelV x v → RelV y u → subscripted slice false v u = operate [v, u] (getItem v u) → wpAny (model X.prog X.w) X.A (subscriptTail value slice v u) (EP X pins σ Q) X.xe s
theorem ixr_w : IxR X (wI X) := fun value slice pins s σ _ _ _ v u _ I rx ry h hs => h value slice pins s σ v u I rx ry hs
theorem IXw {r : R2} {H : Hp} {x y : V} {Q : VK} (h : IxR X r) (q : r x y H Q) : wI X x y H Q := fun value slice pins s σ v u I rx ry hs => h value slice pins s σ H x y v u Q I rx ry q hs
theorem me_sub (ha : ME X a ma) (hb : ME X b mb) (hs : PlainIx b := by intro _ _; rfl) : ME X (.Subscript a b pos) (dSub ma mb) := by
  refine ⟨fun Z io S H t σ Q hr sr p => PEw (pe_ix ixr_w pe_w pe_w hs) ?_⟩
  refine ha.run Z io S H t σ _ hr sr (Post.bind p fun io1 S1 H1 w v x1 hr1 rw1 p1 => ?_)
  refine hb.run Z io1 S1 H1 t σ _ hr1 (sr.ext hr x1) (Post.bind p1 fun io2 S2 H2 w2 v2 x2 hr2 rw2 p2 => ?_)
  have rw1 := rw1.ext hr1 x2
  unfold ixD at p2
  split at p2
  · rename_i xs i
    split at p2
    · rename_i d e
      obtain rfl := int_of rw2
      obtain ⟨pa, vs, rfl, h1, q⟩ := tup_sq rw1 rfl
      obtain ⟨z, e1, r1⟩ := atI_rel q e
      exact IXw ix_tup ⟨pa, vs, _, z, rfl, rfl, h1, e1, p2.ok hr2 (.d r1)⟩
    · exact p2.elim
  · split at p2
    · rename_i hz
      split at p2
      · rename_i cc e
        obtain rfl := int_of rw2
        obtain rfl := str_of rw1
        exact IXw ix_str ⟨_, _, cc, rfl, rfl, hz, e, p2.ok hr2 (.d (.str _))⟩
      · exact p2.elim
    · exact p2.elim
  · split at p2
    · rename_i xs e0
      split at p2
      · rename_i d e
        obtain rfl := int_of rw2
        obtain ⟨pa, vs, rfl, h1, q⟩ := lst_sq hr2 rw1 e0
        obtain ⟨z, e1, r1⟩ := atI_rel q e
        exact IXw ix_list ⟨pa, vs, _, z, rfl, rfl, h1, e1, p2.ok hr2 (.d r1)⟩
      · exact p2.elim
    · exact p2.elim
  · exact p2.elim
end
end Z
namespace Z
open PySem PySem.Spec L2
open PyProof.Rows hiding St
structure CD (X : Cx) (f : Value) (g : List W → Sto → Res W) : Prop where
  run : ∀ Z io S H σ ws vs Q, HRel X.K Z io S H → WRels X.K Z io S H ws vs → Post X Z (RW X Z) io S H σ (g ws S) Q → wC X f vs H Q
def dCall (g : List W → Sto → Res W) (as : MAs) : M := fun t S => (as t S).bind g
section
variable {X : Cx} {x : Str} {p pos : Pos} {a b e : Expr} {es : List Expr} {mas : MAs} {ma mb : M} {ident T : String} {g : List W → Sto → Res W}
theorem me_callB (hc : CD X (.builtin ident) g) (hg : Gl X x) (hm : X.mg x = none) (hv : bootBuiltins x = some (.builtin ident)) (ha : MA X (e :: es) mas) (hn : x ≠ "__name__" := by decide) (hdb : (x == ("__debug__" : Str)) = false := by decide)
    (he : starEach (e :: es) X.env = (false, eval e X.env) :: starEach es X.env := by rfl) (hpl : (backTo pos (starEach es X.env)).any (·.1) = false := by rfl) : ME X (.Call (.Name x p) (e :: es) [] pos) (dCall g mas) := by
  refine ⟨fun Z io S H t σ Q hr sr po => PEw (pe_callB call_w hg hm hv pa_w hn hdb he hpl) ?_⟩
  exact ha.run Z io S H t σ _ hr sr (Post.bind po fun io1 S1 H1 w v x1 hr1 rw1 p1 => hc.run Z io1 S1 H1 σ w v Q hr1 rw1 p1)
theorem me_callTy (hc : CD X (.type T) g) (hg : Gl X x) (hm : X.mg x = none) (hv : bootBuiltins x = some (.type T)) (ha : MA X (e :: es) mas) (hn : x ≠ "__name__" := by decide) (hdb : (x == ("__debug__" : Str)) = false := by decide)
    (he : starEach (e :: es) X.env = (false, eval e X.env) :: starEach es X.env := by rfl) (hpl : (backTo pos (starEach es X.env)).any (·.1) = false := by rfl) : ME X (.Call (.Name x p) (e :: es) [] pos) (dCall g mas) := by
  refine ⟨fun Z io S H t σ Q hr sr po => PEw (pe_callTy call_w hg hm hv pa_w hn hdb he hpl) ?_⟩
  exact ha.run Z io S H t σ _ hr sr (Post.bind po fun io1 S1 H1 w v x1 hr1 rw1 p1 => hc.run Z io1 S1 H1 σ w v Q hr1 rw1 p1)
def lenW (S : Sto) : W → Option Nat
  | .d (.str x) => if x.length ≤ sizeLine then some x.length else none
  | .d (.tup xs) => some xs.length
  | w => (lstOf S w).map (·.length)
def gLen : List W → Sto → Res W
  | [w], S => (match lenW S w with | some n => .ok (.d (.int n)) S | none => .bad)
  | _, _ => .bad
theorem one_of {K : PySem.W.Frag} {Z : ZS} {io : Nat → Addr} {S : Sto} {H : Hp} {w : W} {vs : List V} (r : WRels K Z io S H [w] vs) : ∃ v, vs = [v] ∧ WRel K Z io S H w v := by
  cases r with | cons r t => cases t; exact ⟨_, rfl, r⟩
theorem cd_len : CD X (.builtin "len") gLen := by
  refine ⟨fun Z io S H σ ws vs Q hr rs p => ?_⟩
  unfold gLen at p
  split at p
  · rename_i w
    split at p
    · rename_i n e
      obtain ⟨v, rfl, r⟩ := one_of rs
      have fin : Q (.int n) H := p.ok hr (.d (.int _))
      unfold lenW at e
      split at e
      · split at e
        · rename_i hz
          cases e
          obtain rfl := str_of r
          exact CAw call_len_str ⟨_, rfl, hz, fin⟩
        · cases e
      · cases e
        obtain ⟨pa, vs, rfl, h1, q⟩ := tup_sq r rfl
        rw [q.length] at fin
        exact CAw call_len_seq ⟨pa, vs, rfl, .inr h1, fin⟩
      · cases q0 : lstOf S w with
        | none => rw [q0] at e; cases e
        | some xs =>
          rw [q0] at e
          cases e
          obtain ⟨pa, vs, rfl, h1, q⟩ := lst_sq hr r q0
          dsimp only at fin
          rw [q.length] at fin
          exact CAw call_len_seq ⟨pa, vs, rfl, .inl h1, fin⟩
    · exact p.elim
  · exact p.elim
def gInt : List W → Sto → Res W
  | [.d (.int i)], S => .ok (.d (.int i)) S
  | [.d (.bl b)], S => .ok (.d (.int (if b then 1 else 0))) S
  | _, _ => .bad
theorem cd_int : CD X (.type "int") gInt := by
  refine ⟨fun Z io S H σ ws vs Q hr rs p => ?_⟩
  unfold gInt at p
  split at p
  · obtain ⟨v, rfl, r⟩ := one_of rs
    obtain rfl := int_of r
    exact CAw call_int1 (.inl ⟨_, rfl, p.ok hr (.d (.int _))⟩)
  · obtain ⟨v, rfl, r⟩ := one_of rs
    obtain rfl := bl_of r
    exact CAw call_int1 (.inr ⟨_, rfl, p.ok hr (.d (.int _))⟩)
  · exact p.elim
/-- the items of a list or a tuple -/
def seqW (S : Sto) : W → Option (List D)
  | .d (.tup xs) => some xs
  | w => lstOf S w
theorem seq_sq {K : PySem.W.Frag} {Z : ZS} {io : Nat → Addr} {S : Sto} {H : Hp} {w : W} {v : V} {xs : List D} (hr : HRel K Z io S H) (r : WRel K Z io S H w v) (e : seqW S w = some xs) :
    ∃ a vs, v = .ref a ∧ (SqL K H a vs ∨ SqT K H a vs) ∧ DRels K H (NA Z io S) xs vs := by
  unfold seqW at e
  split at e
  · cases e
    obtain ⟨a, vs, rfl, h, q⟩ := tup_sq r rfl
    exact ⟨a, vs, rfl, .inr h, q⟩
  · obtain ⟨a, vs, rfl, h, q⟩ := lst_sq hr r e
    exact ⟨a, vs, rfl, .inl h, q⟩
def gList : List W → Sto → Res W
  | [w], S => (match seqW S w with | some xs => .ok (.d (.lst xs)) S | none => .bad)
  | _, _ => .bad
def gListC : List W → Sto → Res W
  | [w], S => (match seqW S w with | some xs => .ok (.ref S.length) (S ++ [.lst xs]) | none => .bad)
  | _, _ => .bad
def gTuple : List W → Sto → Res W
  | [w], S => (match seqW S w with | some xs => .ok (.d (.tup xs)) S | none => .bad)
  | _, _ => .bad
def gMax2 : List W → Sto → Res W
  | [.d (.int i), .d (.int j)], S => .ok (.d (.int (if j > i then j else i))) S
  | _, _ => .bad
def gMin2 : List W → Sto → Res W
  | [.d (.int i), .d (.int j)], S => .ok (.d (.int (if j < i then j else i))) S
  | _, _ => .bad
def boolsOf : List D → Option (List Bool)
  | [] => some []
  | .bl b :: r => (boolsOf r).map (b :: ·)
  | _ :: _ => none
def gAll : List W → Sto → Res W
  | [w], S => (match (lstOf S w).bind boolsOf with | some bs => .ok (.d (.bl (bs.all id))) S | none => .bad)
  | _, _ => .bad
def strsOf : List D → Option (List Str)
  | [] => some []
  | .str b :: r => (strsOf r).map (b :: ·)
  | _ :: _ => none
theorem strs_rel {K : PySem.W.Frag} {H : Hp} {na : Addr → Prop} : ∀ {ds : List D} {vs : List V} {bs : List Str}, DRels K H na ds vs → strsOf ds = some bs → vs = bs.map V.str
  | [], _, _, h, e => by cases h; cases e; rfl
  | .str b :: r, _, _, h, e => by
    cases h with
    | cons h1 t =>
      unfold strsOf at e
      cases q : strsOf r with
      | none => rw [q] at e; cases e
      | some ys => rw [q] at e; cases e; cases h1; rw [strs_rel t q]; rfl
  | .non :: r, _, _, h, e => by cases e
  | .int _ :: r, _, _, h, e => by cases e
  | .bl _ :: r, _, _, h, e => by cases e
  | .tup _ :: r, _, _, h, e => by cases e
  | .lst _ :: r, _, _, h, e => by cases e
  | .exn _ _ _ _ :: r, _, _, h, e => by cases e
theorem strs_back {K : PySem.W.Frag} {H : Hp} {na : Addr → Prop} : ∀ (bs : List Str), DRels K H na (bs.map D.str) (bs.map V.str)
  | [] => .nil
  | b :: r => .cons (.str b) (strs_back r)
theorem str_ext {x y : Str} (h : x.cps.toList = y.cps.toList) : x = y := by
  obtain ⟨⟨l⟩⟩ := x
  obtain ⟨⟨m⟩⟩ := y
  simp only at h
  rw [h]
def leS (x y : Str) : Bool := !ltCps y.cps.toList x.cps.toList
def insS (x : Str) : List Str → List Str
  | [] => [x]
  | y :: r => if leS x y = true then x :: y :: r else y :: insS x r
def sortS : List Str → List Str
  | [] => []
  | x :: r => insS x (sortS r)
theorem ltCps_iff : ∀ (a b : List Nat), ltCps a b = true ↔ a < b
  | [], [] => by simp [ltCps]
  | [], _ :: _ => by simp [ltCps]
  | _ :: _, [] => by simp [ltCps]
  | x :: a, y :: b => by
    unfold ltCps
    have ih := ltCps_iff a b
    simp only [List.cons_lt_cons_iff]
    by_cases h : x < y
    · simp [h]
    · by_cases h2 : x = y
      · subst h2; simp [ih]
      · have : y < x := by omega
        simp [h, h2, ih]
theorem leS_total (x y : Str) : leS x y = true ∨ leS y x = true := by
  unfold leS
  simp only [Bool.not_eq_true']
  by_cases h : ltCps y.cps.toList x.cps.toList = true
  · right
    rw [ltCps_iff] at h
    cases q : ltCps x.cps.toList y.cps.toList with
    | false => rfl
    | true => rw [ltCps_iff] at q; exact absurd (List.lt_trans h q) (List.lt_irrefl _)
  · left; simpa using h
theorem leS_trans {x y z : Str} (h1 : leS x y = true) (h2 : leS y z = true) : leS x z = true := by
  unfold leS at *
  simp only [Bool.not_eq_true'] at *
  cases q : ltCps z.cps.toList x.cps.toList with
  | false => rfl
  | true =>
    rw [ltCps_iff] at q
    have n1 : ¬ y.cps.toList < x.cps.toList := fun h => by rw [(ltCps_iff _ _).mpr h] at h1; cases h1
    have n2 : ¬ z.cps.toList < y.cps.toList := fun h => by rw [(ltCps_iff _ _).mpr h] at h2; cases h2
    exact absurd q (List.not_lt.mpr (List.le_trans (List.not_lt.mp n1) (List.not_lt.mp n2)))
theorem leS_anti {x y : Str} (h1 : leS x y = true) (h2 : leS y x = true) : x = y := by
  unfold leS at *
  simp only [Bool.not_eq_true'] at *
  have n1 : ¬ y.cps.toList < x.cps.toList := fun h => by rw [(ltCps_iff _ _).mpr h] at h1; cases h1
  have n2 : ¬ x.cps.toList < y.cps.toList := fun h => by rw [(ltCps_iff _ _).mpr h] at h2; cases h2
  exact str_ext (List.le_antisymm (List.not_lt.mp n1) (List.not_lt.mp n2))
abbrev SortedS (l : List Str) : Prop := l.Pairwise fun a b => leS a b = true
theorem rising_all : ∀ {r : List Str} {p : Str}, risingS p r = true → SortedS (p :: r)
  | [], p, _ => List.pairwise_singleton _ _
  | x :: r, p, h => by
    have h' : (!ltCps x.cps.toList p.cps.toList && risingS x r) = true := h
    rw [Bool.and_eq_true] at h'
    have ih := rising_all h'.2
    refine List.pairwise_cons.mpr ⟨fun y hy => ?_, ih⟩
    rcases List.mem_cons.mp hy with rfl | hy
    · exact h'.1
    · exact leS_trans h'.1 ((List.pairwise_cons.mp ih).1 y hy)
theorem sorted_all {l : List Str} (h : sortedS l = true) : SortedS l := by
  cases l with
  | nil => exact List.Pairwise.nil
  | cons x r => exact rising_all h
theorem insS_perm (x : Str) : ∀ l : List Str, (insS x l).Perm (x :: l)
  | [] => List.Perm.refl _
  | y :: r => by
    unfold insS
    split
    · exact List.Perm.refl _
    · exact ((insS_perm x r).cons y).trans (List.Perm.swap x y r)
theorem sortS_perm : ∀ l : List Str, (sortS l).Perm l
  | [] => List.Perm.refl _
  | x :: r => (insS_perm x (sortS r)).trans ((sortS_perm r).cons x)
theorem insS_sorted (x : Str) : ∀ {l : List Str}, SortedS l → SortedS (insS x l)
  | [], _ => List.pairwise_singleton _ _
  | y :: r, h => by
    unfold insS
    split
    · rename_i hxy
      refine List.pairwise_cons.mpr ⟨fun z hz => ?_, h⟩
      rcases List.mem_cons.mp hz with rfl | hz
      · exact hxy
      · exact leS_trans hxy ((List.pairwise_cons.mp h).1 z hz)
    · rename_i hxy
      have hyx : leS y x = true := (leS_total x y).resolve_left hxy
      obtain ⟨h1, h2⟩ := List.pairwise_cons.mp h
      refine List.pairwise_cons.mpr ⟨fun z hz => ?_, insS_sorted x h2⟩
      rcases List.mem_cons.mp ((insS_perm x r).mem_iff.mp hz) with rfl | hz
      · exact hyx
      · exact h1 z hz
theorem sortS_sorted : ∀ l : List Str, SortedS (sortS l)
  | [] => List.Pairwise.nil
  | x :: r => insS_sorted x (sortS_sorted r)
theorem sorted_same : ∀ {l m : List Str}, l.Perm m → SortedS l → SortedS m → l = m
  | [], m, p, _, _ => (List.nil_perm.mp p).symm
  | x :: l, [], p, _, _ => absurd p.length_eq (by simp)
  | x :: l, y :: m, p, h1, h2 => by
    obtain ⟨a1, b1⟩ := List.pairwise_cons.mp h1
    obtain ⟨a2, b2⟩ := List.pairwise_cons.mp h2
    have e : x = y := by
      have hx : x ∈ y :: m := p.mem_iff.mp List.mem_cons_self
      have hy : y ∈ x :: l := p.mem_iff.mpr List.mem_cons_self
      rcases List.mem_cons.mp hx with e | hx
      · exact e
      · rcases List.mem_cons.mp hy with e | hy
        · exact e.symm
        · exact leS_anti (a1 y hy) (a2 x hx)
    subst e
    rw [sorted_same (List.perm_cons _ |>.mp p) b1 b2]
theorem sorted_is {l m : List Str} (p : l.Perm m) (h : sortedS l = true) : l = sortS m := sorted_same (p.trans (sortS_perm m).symm) (sorted_all h) (sortS_sorted m)
def gSorted : List W → Sto → Res W
  | [w], S => (match (lstOf S w).bind strsOf with | some bs => if bs.length < 64 then .ok (.d (.lst ((sortS bs).map D.str))) S else .bad | none => .bad)
  | _, _ => .bad
theorem cd_sorted : CD X (.builtin "sorted") gSorted := by
  refine ⟨fun Z io S H σ ws vs Q hr rs p => ?_⟩
  unfold gSorted at p
  split at p
  · rename_i w
    split at p
    · rename_i bs e
      split at p
      · rename_i h64
        obtain ⟨v, rfl, r⟩ := one_of rs
        cases q0 : lstOf S w with
        | none => rw [q0] at e; cases e
        | some xs =>
          rw [q0] at e
          obtain ⟨pa, vs, rfl, h1, q⟩ := lst_sq hr r q0
          rw [strs_rel q e] at h1
          refine CAw cr_sortedS ⟨pa, bs, rfl, h1, h64, fun ys l hp hs hl => ?_⟩
          rw [sorted_is hp hs]
          exact post_new p hr hl (new_lst hr (strs_back _) hl)
      · exact p.elim
    · exact p.elim
  · exact p.elim
end
end Z
namespace Z
open PySem PySem.Spec L2
open PyProof.Rows hiding St
inductive Ty where
  | int | bool | str | tuple | list
def tyS : Ty → String
  | .int => "int" | .bool => "bool" | .str => "str" | .tuple => "tuple" | .list => "list"
def isiD (T : Ty) : W → Bool
  | .d .non => false
  | .d (.bl _) => (match T with | .int => true | .bool => true | _ => false)
  | .d (.int _) => (match T with | .int => true | _ => false)
  | .d (.str _) => (match T with | .str => true | _ => false)
  | .d (.tup _) => (match T with | .tuple => true | _ => false)
  | .d (.lst _) => (match T with | .list => true | _ => false)
  | .ref _ => (match T with | .list => true | _ => false)
  | .fz _ => (match T with | .list => true | _ => false)
  | .exn _ => false
  | .d (.exn _ _ _ _) => false
def dIsi (T : Ty) (a : M) : M := fun t S => (a t S).bind fun w S1 => match w with | .fz _ => .bad | .exn _ => .bad | .d (.exn _ _ _ _) => .bad | .ref n => (match S1[n]? with | some (.lst _) => .ok (.d (.bl (isiD T w))) S1 | _ => .bad) | _ => .ok (.d (.bl (isiD T w))) S1
theorem boot_isi : bootBuiltins "isinstance" = some (.builtin "isinstance") := by decide +kernel
section
variable {X : Cx}
def gJoin (a : Str) (w2 : W) (S : Sto) : Res W :=
  match (seqW S w2).bind strsOf with
  | some ys => if (ys.map (·.length)).sum + ys.length * a.length ≤ 16777216 then .ok (.d (.str (Txt.join a ys))) S else .bad
  | none => .bad
def dJoin (a b : M) : M := fun t S => (a t S).bind fun x S1 => match x with | .d (.str s) => (b t S1).bind fun y S2 => gJoin s y S2 | _ => .bad
theorem me_join {o e : Expr} {mo me : M} {apos pos : Pos} (ho : ME X o mo) (he : ME X e me) (hs : starEach [e] X.env = [(false, eval e X.env)] := by rfl) (hbase : attributeBase o "join" X.env (eval o X.env) = eval o X.env := by rfl) (hline : (apos.endLine == pos.line) = true := by rfl) :
    ME X (.Call (.Attribute o "join" apos) [e] [] pos) (dJoin mo me) := by
  refine ⟨fun Z io S H t σ Q hr sr po => PEw (pe_join pe_w pe_w hs hbase hline) ?_⟩
  refine ho.run Z io S H t σ _ hr sr (Post.bind po fun io1 S1 H1 w v x1 hr1 rw1 p1 => ?_)
  split at p1
  · rename_i a
    obtain rfl := str_of rw1
    refine ⟨⟨a, rfl⟩, ?_⟩
    refine he.run Z io1 S1 H1 t σ _ hr1 (sr.ext hr x1) (Post.bind p1 fun io2 S2 H2 w2 v2 x2 hr2 rw2 p2 => ?_)
    unfold gJoin at p2
    split at p2
    · rename_i ys e2
      split at p2
      · rename_i hz
        cases q0 : seqW S2 w2 with
        | none => rw [q0] at e2; cases e2
        | some xs =>
          rw [q0] at e2
          obtain ⟨pa, vs, rfl, h1, q⟩ := seq_sq hr2 rw2 q0
          rw [strs_rel q e2] at h1
          exact ⟨a, pa, ys, rfl, rfl, h1, hz, p2.ok hr2 (.d (.str _))⟩
      · exact p2.elim
    · exact p2.elim
  · exact p1.elim
end
abbrev Y := V ⊕ (V × V)
inductive YRel (K : PySem.W.Frag) (H : Hp) (na : Addr → Prop) : D → Y → Prop
  | one {d : D} {v : V} : DRel K H na d v → YRel K H na d (.inl v)
  | two {d e : D} {v u : V} : DRel K H na d v → DRel K H na e u → YRel K H na (.tup [d, e]) (.inr (v, u))
def YIs (y : Y) (x : V) (H H2 : Hp) : Prop :=
  match y with
  | .inl v => H2 = H ∧ x = v
  | .inr (v, u) => ∃ T, H T = none ∧ x = .ref T ∧ H2 = upd H T (.tup [v, u])
structure Walks (K : PySem.W.Frag) (Z : ZS) (io : Nat → Addr) (S : Sto) (H : Hp) (ds : List D) (J : It) : Prop where
  ex : ∃ ys : List Y, ys.length = ds.length ∧ (∀ (i : Nat) (d : D), ds[i]? = some d → ∃ y, ys[i]? = some y ∧ YRel K H (NA Z io S) d y) ∧
    ∀ H', (∀ a o, H a = some o → N0 io S a → H' a = some o) → (∀ (i : Nat) (y : Y), ys[i]? = some y → J.go i H' ∧ ∀ x H2, J.yld i H' x H2 → YIs y x H' H2) ∧ J.stop ys.length H'
def wIt (X : Cx) (tg iter : Expr) : TI := fun σ H R => ∀ pins s, Inv X pins σ H s → wpAny (model X.prog X.w) X.A (eval iter X.env) (fun v s1 => wpAny (model X.prog X.w) X.A (pyIter v) (PIE X pins σ tg R) X.xe s1) X.xe s
theorem pi_w {X : Cx} {tg iter : Expr} : PI X tg iter (wIt X tg iter) := fun pins s _ _ _ I h => h pins s I
theorem PIw {X : Cx} {tg iter : Expr} {wi : TI} {σ : St} {H : Hp} {R : It → Hp → Prop} (h : PI X tg iter wi) (q : wi σ H R) : wIt X tg iter σ H R := fun pins s I => h pins s σ H R I q
abbrev MIs := DS → Sto → Res (List D)
structure MI (X : Cx) (tg iter : Expr) (m : MIs) : Prop where
  run : ∀ Z io S H t σ R, HRel X.K Z io S H → SRel X.K Z io S H t σ → Post X Z (fun io S H => Walks X.K Z io S H) io S H σ (m t S) R → wIt X tg iter σ H R
/-- a list that no step changes, a tuple, a text -/
def itemsD : W → Option (List D)
  | .d (.lst xs) => some xs
  | .d (.tup xs) => some xs
  | .fz xs => some xs
  | .d (.str x) => some (x.cps.toList.map fun c => D.str ⟨#[c]⟩)
  | _ => none
def iSeq (a : M) : MIs := fun t S => (a t S).bind fun w S1 => match itemsD w with | some ds => .ok ds S1 | none => .bad
def iRange1 (a : M) : MIs := fun t S => (a t S).bind fun w S1 => match w with | .d (.int j) => if -(2 ^ 62) ≤ j ∧ j < 2 ^ 62 then .ok ((List.range j.toNat).map fun (i : Nat) => D.int (0 + i)) S1 else .bad | _ => .bad
def iZipD (a b : M) : MIs := fun t S => (a t S).bind fun w S1 => (b t S1).bind fun w2 S2 => match w, w2 with | .d (.lst xs), .d (.lst ys) => .ok ((xs.zip ys).map fun p => D.tup [p.1, p.2]) S2 | _, _ => .bad
section
variable {X : Cx} {K : PySem.W.Frag} {Z : ZS} {io : Nat → Addr} {S : Sto} {H : Hp}
theorem walks_list {a : Addr} {vs : List V} {ds : List D} (keep : ∀ H', (∀ a o, H a = some o → N0 io S a → H' a = some o) → SqL K H' a vs) (q : DRels K H (NA Z io S) ds vs) : Walks K Z io S H ds (Itl K a) := by
  refine ⟨vs.map Sum.inl, by simp [q.length], fun i d e => ?_, fun H' k => ⟨fun i y e => ?_, ?_⟩⟩
  · obtain ⟨v, h1, h2⟩ := q.get e
    exact ⟨.inl v, by simp [h1], .one h2⟩
  · rw [List.getElem?_map] at e
    cases h : vs[i]? with
    | none => rw [h] at e; cases e
    | some v =>
      rw [h] at e
      cases e
      exact ⟨⟨vs, v, keep H' k, h⟩, fun x H2 yy => ⟨yy.1, Option.some.inj ((yy.2 vs (keep H' k)).symm.trans h)⟩⟩
  · exact ⟨vs, keep H' k, by simp⟩
theorem walks_tup {a : Addr} {vs : List V} {ds : List D} (keep : ∀ H', (∀ a o, H a = some o → N0 io S a → H' a = some o) → SqT K H' a vs) (q : DRels K H (NA Z io S) ds vs) : Walks K Z io S H ds (Itt K a) := by
  refine ⟨vs.map Sum.inl, by simp [q.length], fun i d e => ?_, fun H' k => ⟨fun i y e => ?_, ?_⟩⟩
  · obtain ⟨v, h1, h2⟩ := q.get e
    exact ⟨.inl v, by simp [h1], .one h2⟩
  · rw [List.getElem?_map] at e
    cases h : vs[i]? with
    | none => rw [h] at e; cases e
    | some v =>
      rw [h] at e
      cases e
      exact ⟨⟨vs, v, keep H' k, h⟩, fun x H2 yy => ⟨yy.1, Option.some.inj ((yy.2 vs (keep H' k)).symm.trans h)⟩⟩
  · exact ⟨vs, keep H' k, by simp⟩
theorem walks_range {lo : Int} {n : Nat} : Walks K Z io S H ((List.range n).map fun (k : Nat) => D.int (lo + k)) (Itr lo n) := by
  refine ⟨(List.range n).map fun (k : Nat) => .inl (.int (lo + k)), by simp, fun i d e => ?_, fun H' k => ⟨fun i y e => ?_, ?_⟩⟩
  · rw [List.getElem?_map] at e
    cases h : (List.range n)[i]? with
    | none => rw [h] at e; cases e
    | some j =>
      rw [h] at e
      cases e
      exact ⟨.inl (.int (lo + j)), by simp [h], .one (.int _)⟩
  · rw [List.getElem?_map] at e
    cases h : (List.range n)[i]? with
    | none => rw [h] at e; cases e
    | some j =>
      rw [h] at e
      cases e
      have hj := List.getElem?_eq_some_iff.mp h
      obtain ⟨hi, ej⟩ := hj
      simp at hi ej
      subst ej
      exact ⟨hi, fun x H2 yy => yy⟩
  · show n ≤ _
    simp
theorem walks_str {x : Str} : Walks K Z io S H (x.cps.toList.map fun c => D.str ⟨#[c]⟩) (Its x) := by
  refine ⟨x.cps.toList.map fun c => .inl (.str ⟨#[c]⟩), by simp, fun i d e => ?_, fun H' k => ⟨fun i y e => ?_, ?_⟩⟩
  · rw [List.getElem?_map] at e
    cases h : x.cps.toList[i]? with
    | none => rw [h] at e; cases e
    | some j =>
      rw [h] at e
      cases e
      exact ⟨.inl (.str ⟨#[j]⟩), by rw [List.getElem?_map, h]; rfl, .one (.str _)⟩
  · rw [List.getElem?_map] at e
    cases h : x.cps.toList[i]? with
    | none => rw [h] at e; cases e
    | some j =>
      rw [h] at e
      cases e
      have hi : i < x.cps.size := by have := (List.getElem?_eq_some_iff.mp h).1; simpa using this
      refine ⟨hi, fun y H2 ⟨e1, c, e2, e3⟩ => ⟨e1, ?_⟩⟩
      rw [Array.getElem?_toList] at h
      rw [h] at e2
      cases e2
      exact e3
  · show x.cps.size ≤ _
    simp
theorem mi_seq {tg iter : Expr} {m : M} (h : ME X iter m) : MI X tg iter (iSeq m) := by
  refine ⟨fun Z io S H t σ R hr sr p => ?_⟩
  have key : ∀ {w : W} {S1 : Sto}, m t S = .ok w S1 → itemsD w ≠ none → wIt X tg iter σ H R := fun {w S1} e hne => by
    unfold iSeq at p
    rw [e] at p
    dsimp only [bind_ok] at p
    have run := fun Q => h.run Z io S H t σ Q hr sr
    rw [e] at run
    cases w with
    | ref n => exact absurd rfl hne
    | exn c => exact absurd rfl hne
    | fz xs =>
      refine PIw (pi_list pe_w) (run _ fun io1 H1 v x1 hr1 rw1 => ?_)
      cases rw1 with
      | fz h1 q =>
        exact ⟨_, rfl, ⟨_, h1.sq⟩, p io1 H1 _ x1 hr1 (walks_list (fun H' k => (h1.keep fun a o h n => k a o h (hr1.na0 h n)).sq) q)⟩
    | d x =>
      cases x with
      | lst xs =>
        refine PIw (pi_list pe_w) (run _ fun io1 H1 v x1 hr1 rw1 => ?_)
        cases rw1 with
        | d rw1 =>
          cases rw1 with
          | lst h1 n q => exact ⟨_, rfl, ⟨_, SqL.of h1⟩, p io1 H1 _ x1 hr1 (walks_list (fun H' k => SqL.of (k _ _ h1 n.1)) q)⟩
      | tup xs =>
        refine PIw (pi_tup pe_w) (run _ fun io1 H1 v x1 hr1 rw1 => ?_)
        obtain ⟨pa, vs, rfl, h1, q⟩ := tup_sq rw1 rfl
        exact ⟨pa, rfl, ⟨_, h1⟩, p io1 H1 _ x1 hr1 (walks_tup (fun H' k => SqT.keepT (fun a o h n => k a o h (hr1.na0 h n)) h1) q)⟩
      | str xs =>
        refine PIw (pi_str pe_w) (run _ fun io1 H1 v x1 hr1 rw1 => ?_)
        obtain rfl := str_of rw1
        exact ⟨_, rfl, p io1 H1 _ x1 hr1 walks_str⟩
      | non => exact absurd rfl hne
      | bl _ => exact absurd rfl hne
      | int _ => exact absurd rfl hne
      | exn _ _ _ _ => exact absurd rfl hne
  have run := fun Q => h.run Z io S H t σ Q hr sr
  cases e : m t S with
  | ok w S1 =>
    refine key e fun z => ?_
    unfold iSeq at p
    rw [e] at p
    dsimp only [bind_ok] at p
    rw [z] at p
    exact p
  | exc x S1 =>
    unfold iSeq at p
    rw [e] at p run
    exact PIw (pi_list pe_w) (run _ p)
  | bad =>
    unfold iSeq at p
    rw [e] at p
    exact p.elim
end
section
variable {X : Cx}
theorem mi_range1 {tg a : Expr} {m : M} {p pos : Pos} (hg : Gl X "range") (hm : X.mg "range" = none) (ha : ME X a m) (hs : starEach [a] X.env = [(false, eval a X.env)] := by rfl) : MI X tg (.Call (.Name "range" p) [a] [] pos) (iRange1 m) := by
  refine ⟨fun Z io S H t σ R hr sr po => PIw (pi_range1 hg hm (pa_cons pe_w pa_nil hs) hs) ?_⟩
  refine ha.run Z io S H t σ _ hr sr (Post.bind po fun io1 S1 H1 w v x1 hr1 rw1 p1 => ?_)
  split at p1
  · rename_i j
    split at p1
    · rename_i hj
      obtain rfl := int_of rw1
      exact ⟨j, rfl, hj.1, hj.2, p1 io1 H1 _ Ext.refl hr1 walks_range⟩
    · exact p1.elim
  · exact p1.elim
end
def wG (X : Cx) (tg : Expr) : TG := fun v σ H Q => ∀ pins s u, Inv X pins σ H s → RelV v u → wpAny (model X.prog X.w) X.A (assign tg X.env u) (fun _ s' => ∃ σ' H', Inv X pins σ' H' s' ∧ Q σ' H') X.xe s
theorem PGw {X : Cx} {tg : Expr} {g : TG} {v : V} {σ : St} {H : Hp} {Q : St → Hp → Prop} (h : PG X tg g) (q : g v σ H Q) : wG X tg v σ H Q := fun pins s u I r => h pins s σ H v u Q I r q
/-- what a target stores, and where -/
structure MG (X : Cx) (tg : Expr) (sl : List Nat) (g : W → DS → Option DS) : Prop where
  run : ∀ Z io S H t σ w v t1 Q, HRel X.K Z io S H → SRel X.K Z io S H t σ → WRel X.K Z io S H w v → g w t = some t1 →
    (∀ σ1, SRel X.K Z io S H t1 σ1 → (∀ j, j ∉ sl → σ1[j]? = σ[j]?) → σ1.length = σ.length → Q σ1 H) → wG X tg v σ H Q
def gN (i : Nat) : W → DS → Option DS := fun w t => some (t.set i (some w))
def gsNil : List D → DS → Option DS := fun ds t => match ds with | [] => some t | _ => none
def gsCons (g : W → DS → Option DS) (gs : List D → DS → Option DS) : List D → DS → Option DS := fun ds t => match ds with | d :: r => (g (.d d) t).bind (gs r) | [] => none
def gTp (n : Nat) (gs : List D → DS → Option DS) : W → DS → Option DS := fun w t => match w with | .d (.tup ds) => if ds.length = n then gs ds t else none | _ => none
section
variable {X : Cx} {pos : Pos}
theorem mg_name {i : Nat} {x : Str} (hN : X.N.Nodup) (hi : X.N[i]? = some x) (hx : Loc X.env.scope x) (hf : X.fn x = true ∨ X.env.scope.names.lookup x = some .local := by first | exact .inl rfl | exact .inr rfl | assumption) : MG X (.Name x pos) [i] (gN i) := by
  refine ⟨fun Z io S H t σ w v t1 Q hr sr rw e k => PGw (pg_name hN hi hx hf) ?_⟩
  cases e
  exact k _ (sr.set i rw) (fun j hj => by rw [List.getElem?_set_ne (fun z => hj (by simp [z]))]) (by simp)
end
end Z
namespace Z
open PySem PySem.Spec L2
open PyProof.Rows hiding St
def wipeD (t : DS) : List Nat → DS
  | [] => t
  | v :: vs => (wipeD t vs).set v none
theorem SRel.wipe {K : PySem.W.Frag} {Z : ZS} {io : Nat → Addr} {S : Sto} {H : Hp} {t : DS} {σ : St} (q : SRel K Z io S H t σ) : ∀ vs : List Nat, SRel K Z io S H (wipeD t vs) (wipe σ vs)
  | [] => q
  | v :: vs => by
    have ih := SRel.wipe q vs
    refine ⟨by simp [wipeD, L2.wipe, ih.len], fun i w e => ?_⟩
    unfold wipeD at e
    unfold L2.wipe
    by_cases h : v = i
    · subst h
      by_cases hv : v < (wipeD t vs).length
      · rw [List.getElem?_set_self hv] at e; cases e
      · rw [List.getElem?_eq_none (by simpa using hv)] at e; cases e
    · rw [List.getElem?_set_ne h] at e ⊢
      exact ih.get i w e
theorem wipe_get {σ : St} {i : Nat} : ∀ {vs : List Nat}, i ∉ vs → (wipe σ vs)[i]? = σ[i]?
  | [], _ => rfl
  | v :: vs, h => by
    unfold L2.wipe
    rw [List.getElem?_set_ne (fun z => h (by simp [z])), wipe_get fun z => h (List.mem_cons_of_mem _ z)]
theorem wipe_at {σ : St} {i : Nat} (hi : i < σ.length) : ∀ {vs : List Nat}, i ∈ vs → (wipe σ vs)[i]? = some none
  | [], h => by cases h
  | v :: vs, h => by
    unfold L2.wipe
    by_cases e : v = i
    · subst e
      rw [List.getElem?_set_self (by rw [wipe_length]; exact hi)]
    · rw [List.getElem?_set_ne e]
      rcases List.mem_cons.mp h with z | z
      · exact absurd z.symm e
      · exact wipe_at hi z
theorem wipe_same {σ σ' : St} {vs : List Nat} (k : ∀ j, j ∉ vs → σ'[j]? = (wipe σ vs)[j]?) (l : σ'.length = (wipe σ vs).length) : wipe σ' vs = wipe σ vs := by
  apply List.ext_getElem?
  intro i
  rw [wipe_length] at l
  by_cases hi : i ∈ vs
  · by_cases hl : i < σ.length
    · rw [wipe_at (by omega) hi, wipe_at hl hi]
    · rw [List.getElem?_eq_none (by rw [wipe_length]; omega), List.getElem?_eq_none (by rw [wipe_length]; omega)]
  · rw [wipe_get hi, k i hi]
def lcD (g : W → DS → Option DS) (mt : MB) (me : M) : List D → DS → Sto → List D → Res (List D)
  | [], _, S, acc => .ok acc S
  | d :: ds, t, S, acc => match g (.d d) t with
    | none => .bad
    | some t1 => match mt t1 S with
      | .ok true S1 => (match me t1 S1 with
        | .ok (.d x) S2 => if acc.length < sizeLine then lcD g mt me ds t S2 (acc ++ [x]) else .bad
        | _ => .bad)
      | .ok false S1 => lcD g mt me ds t S1 acc
      | _ => .bad
def dLc (own : List Nat) (mi : MIs) (g : W → DS → Option DS) (mt : MB) (me : M) : M := fun t S => (mi t S).bind fun ds S1 => (lcD g mt me ds (wipeD t own) S1 []).bind fun xs S2 => .ok (.d (.lst xs)) S2
def dYes : MB := fun _ S => .ok true S
/-- the tests of a comprehension -/
structure MTs (X : Cx) (es : List Expr) (m : MB) : Prop where
  run : ∀ Z io S H t σ Q, HRel X.K Z io S H → SRel X.K Z io S H t σ → Post X Z RT io S H σ (m t S) Q →
    ∀ pins s, Inv X pins σ H s → wpAny (model X.prog X.w) X.A (forIn es true fun c r => if r = true then do let ok ← isTrue c X.env (eval c X.env); pure (ForInStep.yield ok) else pure (ForInStep.yield r)) (TP X pins σ Q) X.xe s
theorem mts_nil {X : Cx} : MTs X [] dYes := ⟨fun Z io S H t σ Q hr sr p pins s I => pts_nil pins s σ H Q I (Post.ok (w := true) p hr rfl)⟩
theorem mts_one {X : Cx} {c : Expr} {m : MB} (h : MT X c m) : MTs X [c] m := ⟨fun Z io S H t σ Q hr sr p pins s I => pts_one pt_w pins s σ H Q I (h.run Z io S H t σ Q hr sr p)⟩
section
variable {X : Cx}
/-- an item that is walked: its heap, its value -/
theorem y_step {K : PySem.W.Frag} {Z Z' : ZS} {io io' : Nat → Addr} {S S' : Sto} {H H' H2 : Hp} {d : D} {y : Y} {x : V} (hr : HRel K Z' io' S' H') (yr : YRel K H' (NA Z' io' S') d y) (ys : YIs y x H' H2) :
    Ext io' S' H' io' S' H2 ∧ HRel K Z' io' S' H2 ∧ WRel K Z' io' S' H2 (.d d) x ∧ ∀ a o, H' a = some o → H2 a = some o := by
  cases yr with
  | one r =>
    obtain ⟨rfl, rfl⟩ := ys
    exact ⟨Ext.refl, hr, .d r, fun _ _ h => h⟩
  | two r1 r2 =>
    obtain ⟨T, hT, rfl, rfl⟩ := ys
    exact ⟨Ext.new hT, hr.new hT, new_tup hr (.cons r1 (.cons r2 .nil)) hT, fun a o h => by rw [upd_ne (ne_of_none h hT)]; exact h⟩
theorem YRel.mono {K : PySem.W.Frag} {H H' : Hp} {na na' : Addr → Prop} (k : ∀ a o, H a = some o → Fx o → H' a = some o) (kl : ∀ a xs, H a = some (.lst xs) → na a → H' a = some (.lst xs) ∧ na' a) {d : D} {y : Y} (h : YRel K H na d y) : YRel K H' na' d y := by
  cases h with
  | one r => exact .one (r.mono k kl)
  | two r s => exact .two (r.mono k kl) (s.mono k kl)
def gB (X : Cx) (scope : Scope) (tg : Expr) : TG := fun v σ H Q => ∀ s H0 C cl fp, wG (X.blk s H0 scope (compEnvC scope cl C X.env) fp) tg v σ H Q
def ttB (X : Cx) (scope : Scope) (ifs : List Expr) : TT := fun σ H Q => ∀ s H0 C cl fp pins s1, Inv (X.blk s H0 scope (compEnvC scope cl C X.env) fp) pins σ H s1 → wpAny (model X.prog X.w) X.A (forIn ifs true fun c r => if r = true then do let ok ← isTrue c (compEnvC scope cl C X.env) (eval c (compEnvC scope cl C X.env)); pure (ForInStep.yield ok) else pure (ForInStep.yield r)) (TP (X.blk s H0 scope (compEnvC scope cl C X.env) fp) pins σ Q) (fun _ _ => False) s1
def teB (X : Cx) (scope : Scope) (elt : Expr) : TE := fun σ H Q => ∀ s H0 C cl fp, wE (X.blk s H0 scope (compEnvC scope cl C X.env) fp) elt σ H Q
theorem gB_ok {scope : Scope} {tg : Expr} (s : Shared) (H : Hp) (C : Addr) (cl : List (Str × Addr)) (fp : List Addr) : PG (X.blk s H scope (compEnvC scope cl C X.env) fp) tg (gB X scope tg) := fun pins s1 σ1 H1 v u Q1 I r h => h s H C cl fp pins s1 u I r
theorem ttB_ok {scope : Scope} {ifs : List Expr} (s : Shared) (H : Hp) (C : Addr) (cl : List (Str × Addr)) (fp : List Addr) : PTs (X.blk s H scope (compEnvC scope cl C X.env) fp) ifs (ttB X scope ifs) := fun pins s1 σ1 H1 Q1 I h => h s H C cl fp pins s1 I
theorem teB_ok {scope : Scope} {elt : Expr} (s : Shared) (H : Hp) (C : Addr) (cl : List (Str × Addr)) (fp : List Addr) : PE (X.blk s H scope (compEnvC scope cl C X.env) fp) elt (teB X scope elt) := fun pins s1 σ1 H1 Q1 I h => h s H C cl fp pins s1 I
/-- the heart: from the filled list to what is wanted -/
theorem lc_main {elt tg iter : Expr} {ifs : List Expr} {scope : Scope} {own : List (Str × Nat)} {mi : MIs} {g : W → DS → Option DS} {sl : List Nat} {mt : MB} {me : M} {fin : List D → Sto → Res W} {wi : TI} (hi : ∀ Z io S H t σ R, HRel X.K Z io S H → SRel X.K Z io S H t σ → Post X Z (fun io S H => Walks X.K Z io S H) io S H σ (mi t S) R → wi σ H R) (ok : BlkOk X.N X.env.scope scope own)
    (hg : ∀ (s : Shared) (H : Hp) (C : Addr) (cl : List (Str × Addr)) (fp : List Addr), MG (X.blk s H scope (compEnvC scope cl C X.env) fp) tg sl g) (hsl : ∀ i ∈ sl, i ∈ own.map (·.2))
    (ht : ∀ (s : Shared) (H : Hp) (C : Addr) (cl : List (Str × Addr)) (fp : List Addr), MTs (X.blk s H scope (compEnvC scope cl C X.env) fp) ifs mt)
    (he : ∀ (s : Shared) (H : Hp) (C : Addr) (cl : List (Str × Addr)) (fp : List Addr), ME (X.blk s H scope (compEnvC scope cl C X.env) fp) elt me) (hs : ∀ x, foldedSetIterable iter X.env x = pure x)
    (hfin : ∀ Z io1 S1 H1 io S H σ Q p vs xs, H1 p = none → Ext io1 S1 H1 io S H → HRel X.K (ZP Z p) io S H → ¬ Z p → H p = some (.lst vs) → DRels X.K H (NA (ZP Z p) io S) xs vs → Post X Z (RW X Z) io1 S1 H1 σ (fin xs S) Q → Q (.ref p) H)
    {Z : ZS} {io : Nat → Addr} {S : Sto} {H : Hp} {t : DS} {σ : St} {Q : VK} (hr : HRel X.K Z io S H) (sr : SRel X.K Z io S H t σ)
    (po : Post X Z (RW X Z) io S H σ ((mi t S).bind fun ds S1 => (lcD g mt me ds (wipeD t (own.map (·.2))) S1 []).bind fin) Q) :
    tLc wi (gB X scope tg) (ttB X scope ifs) (teB X scope elt) (own.map (·.2)) σ H Q := by
  refine hi Z io S H t σ _ hr sr (Post.bind po fun io1 S1 H1 ds J x1 hr1 wk p1 => ?_)
  intro D hD
  obtain ⟨ys, ylen, yrel, ywalk⟩ := wk.ex
  have sr1 := sr.ext hr x1
  -- the invariant
  let Pv : Nat → Hp → Prop := fun i H' => ∃ io' S' acc vs, Ext io1 S1 H1 io' S' H' ∧ HRel X.K (ZP Z D) io' S' H' ∧ H' D = some (.lst vs) ∧ DRels X.K H' (NA (ZP Z D) io' S') acc vs ∧
    SRel X.K (ZP Z D) io' S' H' (wipeD t (own.map (·.2))) (wipe σ (own.map (·.2))) ∧ Post X Z (RW X Z) io1 S1 H1 σ ((lcD g mt me (ds.drop i) (wipeD t (own.map (·.2))) S' acc).bind fin) Q ∧
    ∀ (j : Nat) (d : _root_.Z.D), ds[j]? = some d → ∃ y, ys[j]? = some y ∧ YRel X.K H' (NA (ZP Z D) io' S') d y
  have kz : ∀ a xs, H1 a = some (.lst xs) → NA Z io1 S1 a → (upd H1 D (.lst [])) a = some (.lst xs) ∧ NA (ZP Z D) io1 S1 a := fun a xs h n => ⟨by rw [upd_ne (ne_of_none h hD)]; exact h, n.1, fun z => z.elim n.2 (ne_of_none h hD)⟩
  have kn : ∀ a o, H1 a = some o → Fx o → (upd H1 D (.lst [])) a = some o := fun a o h _ => by rw [upd_ne (ne_of_none h hD)]; exact h
  have start : Pv 0 (upd H1 D (.lst [])) := by
    refine ⟨io1, S1, [], [], Ext.new hD, hr1.inZ hD, upd_same, .nil, ?_, by simpa using p1, fun j d e => ?_⟩
    · have := (sr1.inZ hD).wipe (own.map (·.2))
      refine ⟨this.len, fun i w e => ?_⟩
      obtain ⟨v, h1, h2⟩ := this.get i w e
      refine ⟨v, h1, ?_⟩
      cases h2 with
      | d q => exact .d (q.mono kn fun a xs h n => ⟨by rw [upd_ne (ne_of_none h hD)]; exact h, n⟩)
      | ref h => exact .ref h
      | fz h q => exact .fz (h.keep kn) (q.mono kn fun a xs h n => ⟨by rw [upd_ne (ne_of_none h hD)]; exact h, n⟩)
      | exn h q => exact .exn h (kn _ _ q trivial)
    · obtain ⟨y, e1, r⟩ := yrel j d e
      exact ⟨y, e1, r.mono kn kz⟩
  refine ⟨fun i m H' => m = ds.length - i ∧ i ≤ ds.length ∧ Pv i H', ⟨ds.length, (Nat.sub_zero _).symm, Nat.zero_le _, start⟩, ?_⟩
  rintro i m H' ⟨rfl, hil, io', S', acc, vs, x2, hr2, hD2, qa, s2, p2, yr2⟩
  have keep : ∀ a o, H1 a = some o → N0 io1 S1 a → H' a = some o := fun a o h n => (x2.keep a o h n).1
  obtain ⟨wgo, wstop⟩ := ywalk H' keep
  by_cases hlt : i < ds.length
  · obtain ⟨d, hd⟩ : ∃ d, ds[i]? = some d := ⟨ds[i], by simp [hlt]⟩
    have edrop : ds.drop i = d :: ds.drop (i + 1) := by
      rw [List.drop_eq_getElem_cons hlt]
      congr 1
      have := (List.getElem?_eq_some_iff.mp hd).2
      exact this
    obtain ⟨y, ey, ry⟩ := yr2 i d hd
    obtain ⟨go, yl⟩ := wgo i y ey
    refine .inr ⟨go, Pv (i + 1), fun H3 p3 => ⟨ds.length - (i + 1), by omega, rfl, hlt, p3⟩, fun x H3 hy s0 H0 C cl fp => ?_⟩
    obtain ⟨x3, hr3, wr3, kp3⟩ := y_step (Z := Z) (io := io1) (S := S1) (H := H1) hr2 ry (yl x H3 hy)
    rw [edrop] at p2
    unfold lcD at p2
    cases hgd : g (.d d) (wipeD t (own.map (·.2))) with
    | none => rw [hgd] at p2; exact p2.elim
    | some t1 =>
      rw [hgd] at p2
      dsimp only at p2
      have s3 := s2.ext hr2 x3
      refine (hg s0 H0 C cl fp).run (ZP Z D) io' S' H3 _ _ (.d d) x t1 _ hr3 s3 wr3 hgd fun σ1 s4 k4 l4 => ?_
      refine ⟨wipe_same (fun j hj => k4 j fun z => hj (hsl j z)) l4, fun s5 H5 C5 cl5 fp5 pins5 s6 I6 => ?_⟩
      have hD3 : H3 D = some (.lst vs) := kp3 _ _ hD2
      have qa3 := qa.ext hr2 x3
      have yr3 : ∀ (j : Nat) (d : _root_.Z.D), ds[j]? = some d → ∃ y, ys[j]? = some y ∧ YRel X.K H3 (NA (ZP Z D) io' S') d y := fun j d e => let ⟨y, e1, r⟩ := yr2 j d e; ⟨y, e1, r.mono (x3.k1 hr2) x3.k2⟩
      have s3w := s3
      refine (ht s5 H5 C5 cl5 fp5).run (ZP Z D) io' S' H3 t1 σ1 _ hr3 s4 ?_ pins5 s6 I6
      -- the test's answer
      cases hmt : mt t1 S' with
      | bad => rw [hmt] at p2; exact p2.elim
      | exc xx SS => rw [hmt] at p2; exact p2.elim
      | ok b S4 =>
        rw [hmt] at p2
        intro io4 H4 bv x4 hr4 eb
        subst eb
        have s5' := s4.ext hr3 x4
        have hD4 : H4 D = some (.lst vs) := (x4.keep D _ hD3 (hr3.zc D (.inr rfl))).1
        have qa4 := qa3.ext hr3 x4
        have yr4 : ∀ (j : Nat) (d : _root_.Z.D), ds[j]? = some d → ∃ y, ys[j]? = some y ∧ YRel X.K H4 (NA (ZP Z D) io4 S4) d y := fun j d e => let ⟨y, e1, r⟩ := yr3 j d e; ⟨y, e1, r.mono (x4.k1 hr3) x4.k2⟩
        have w4 := s3w.ext hr3 x4
        cases b with
        | false =>
          rw [if_neg Bool.false_ne_true]
          exact ⟨io4, S4, acc, vs, (x2.trans x3).trans x4, hr4, hD4, qa4, w4, p2, yr4⟩
        | true =>
          rw [if_pos rfl]
          intro s7 H7 C7 cl7 fp7
          refine (he s7 H7 C7 cl7 fp7).run (ZP Z D) io4 S4 H4 t1 σ1 _ hr4 s5' ?_
          dsimp only at p2
          cases hme : me t1 S4 with
          | bad => rw [hme] at p2; exact p2.elim
          | exc xx SS => rw [hme] at p2; exact p2.elim
          | ok w S5 =>
            rw [hme] at p2
            cases w with
            | ref n => exact p2.elim
            | fz n => exact p2.elim
            | exn n => exact p2.elim
            | d xd =>
              dsimp only at p2
              intro io5 H5 v5 x5 hr5 rw5
              have hD5 : H5 D = some (.lst vs) := (x5.keep D _ hD4 (hr4.zc D (.inr rfl))).1
              by_cases hz : acc.length < sizeLine
              · rw [if_pos hz] at p2
                have qa5 := qa4.ext hr4 x5
                have lv : acc.length = vs.length := qa5.length
                have hzd : ZP Z D D := .inr rfl
                cases rw5 with
                | d r5 =>
                  refine ⟨vs, hD5, by rw [← lv]; exact hz, io5, S5, acc ++ [xd], vs ++ [v5], ?_, hr5.outP hD5 hzd, upd_same, ?_, ?_, p2, fun j d e => ?_⟩
                  · have xx := ((x2.trans x3).trans x4).trans x5
                    refine ⟨xx.len, xx.adr, fun a o h n => ?_⟩
                    have := xx.keep a o h n
                    refine ⟨?_, this.2⟩
                    rw [upd_ne (ne_of_none h hD)]
                    exact this.1
                  · exact (qa5.append (.cons r5 .nil)).outP hD5 hzd
                  · exact (w4.ext hr4 x5).outP hD5 hzd
                  · obtain ⟨y, e1, r⟩ := yr4 j d e
                    refine ⟨y, e1, ?_⟩
                    have r' := r.mono (x5.k1 hr4) (x5.k2 (Z := ZP Z D))
                    cases r' with
                    | one r9 => exact .one (r9.outP hD5 hzd)
                    | two r9 s9 => exact .two (r9.outP hD5 hzd) (s9.outP hD5 hzd)
              · rw [if_neg hz] at p2; exact p2.elim
  · have e : i = ds.length := by omega
    subst e
    refine .inl ⟨by rw [← ylen]; exact wstop, ?_⟩
    rw [List.drop_length] at p2
    exact hfin Z io1 S1 H1 io' S' H' σ Q D vs acc hD x2 hr2 (hr1.freshZ hD) hD2 qa p2
theorem fin_lc : ∀ (Z : ZS) io1 S1 H1 io S H σ Q p vs (xs : List D), H1 p = none → Ext io1 S1 H1 io S H → HRel X.K (ZP Z p) io S H → ¬ Z p → H p = some (.lst vs) → DRels X.K H (NA (ZP Z p) io S) xs vs → Post X Z (RW X Z) io1 S1 H1 σ (.ok (.d (.lst xs)) S) Q → Q (.ref p) H :=
  fun Z io1 S1 H1 io S H σ Q p vs xs h0 x2 hr hz hp q po => po io H (.ref p) x2 hr.weakZ (.d (.lst hp ⟨hr.zc p (.inr rfl), hz⟩ q.weakZ))
theorem me_lc {elt tg iter : Expr} {ifs : List Expr} {scope : Scope} {own : List (Str × Nat)} {pos : Pos} {mi : MIs} {g : W → DS → Option DS} {sl : List Nat} {mt : MB} {me : M} (c : Cok X) (hi : MI X tg iter mi) (ok : BlkOk X.N X.env.scope scope own)
    (hg : ∀ (s : Shared) (H : Hp) (C : Addr) (cl : List (Str × Addr)) (fp : List Addr), MG (X.blk s H scope (compEnvC scope cl C X.env) fp) tg sl g) (hsl : ∀ i ∈ sl, i ∈ own.map (·.2))
    (ht : ∀ (s : Shared) (H : Hp) (C : Addr) (cl : List (Str × Addr)) (fp : List Addr), MTs (X.blk s H scope (compEnvC scope cl C X.env) fp) ifs mt)
    (he : ∀ (s : Shared) (H : Hp) (C : Addr) (cl : List (Str × Addr)) (fp : List Addr), ME (X.blk s H scope (compEnvC scope cl C X.env) fp) elt me) (hs : ∀ x, foldedSetIterable iter X.env x = pure x := by intro _; rfl) :
    ME X (.ListComp elt [⟨tg, iter, ifs, 0⟩] scope pos) (dLc (own.map (·.2)) mi g mt me) := by
  exact ⟨fun Z io S H t σ Q hr sr po => PEw (pe_lc c.calm c.nd pi_w ok gB_ok ttB_ok teB_ok hs) (lc_main hi.run ok hg hsl ht he hs (fin := fun xs S2 => .ok (.d (.lst xs)) S2) fin_lc hr sr po)⟩
end
end Z
namespace Z
open PySem PySem.Spec L2
open PyProof.Rows hiding St
def wS (X : Cx) (st : Stmt) : TS := fun D σ H => ∀ pins s, Inv X pins σ H s → wpAny (model X.prog X.w) X.A (exec st X.env) (SP X pins D) X.xe s
def wSs (X : Cx) (st : List Stmt) : TS := fun D σ H => ∀ pins s, Inv X pins σ H s → wpAny (model X.prog X.w) X.A (execs st X.env) (SP X pins D) X.xe s
theorem ps_w {X : Cx} {st : Stmt} : PS X st (wS X st) := fun pins s _ _ _ I h => h pins s I
theorem pss_w {X : Cx} {st : List Stmt} : PSs X st (wSs X st) := fun pins s _ _ _ I h => h pins s I
theorem PSw {X : Cx} {st : Stmt} {t : TS} {D : Ends} {σ : St} {H : Hp} (h : PS X st t) (q : t D σ H) : wS X st D σ H := fun pins s I => h pins s σ H D I q
theorem PSsw {X : Cx} {st : List Stmt} {t : TS} {D : Ends} {σ : St} {H : Hp} (h : PSs X st t) (q : t D σ H) : wSs X st D σ H := fun pins s I => h pins s σ H D I q
def PostS (X : Cx) (Z : ZS) (io : Nat → Addr) (S : Sto) (H : Hp) (r : SR) (D : Ends) : Prop :=
  match r with
  | .nx t S' => ∀ io' H' σ', Ext io S H io' S' H' → HRel X.K Z io' S' H' → SRel X.K Z io' S' H' t σ' → D.nx σ' H'
  | .bk t S' => ∀ io' H' σ', Ext io S H io' S' H' → HRel X.K Z io' S' H' → SRel X.K Z io' S' H' t σ' → D.bk σ' H'
  | .ct t S' => ∀ io' H' σ', Ext io S H io' S' H' → HRel X.K Z io' S' H' → SRel X.K Z io' S' H' t σ' → D.ct σ' H'
  | .rt w S' => ∀ io' H' v, Ext io S H io' S' H' → HRel X.K Z io' S' H' → WRel X.K Z io' S' H' w v → D.rt v H'
  | .exc x t S' => ∀ pins io' H' σ' u s', Ext io S H io' S' H' → HRel X.K Z io' S' H' → SRel X.K Z io' S' H' t σ' → Fly X pins σ' H' x u s' → X.xe u s'
  | .bad => False
abbrev MSt := DS → Sto → SR
structure MS (X : Cx) (st : Stmt) (m : MSt) : Prop where
  run : ∀ Z io S H t σ D, HRel X.K Z io S H → SRel X.K Z io S H t σ → PostS X Z io S H (m t S) D → wS X st D σ H
structure MSs (X : Cx) (st : List Stmt) (m : MSt) : Prop where
  run : ∀ Z io S H t σ D, HRel X.K Z io S H → SRel X.K Z io S H t σ → PostS X Z io S H (m t S) D → wSs X st D σ H
def SR.seq (r : SR) (f : MSt) : SR := match r with | .nx t S => f t S | r => r
@[simp] theorem seq_nx (t : DS) (S : Sto) (f : MSt) : (SR.nx t S).seq f = f t S := rfl
@[simp] theorem seq_rt (t : W) (S : Sto) (f : MSt) : (SR.rt t S).seq f = .rt t S := rfl
@[simp] theorem seq_bk (t : DS) (S : Sto) (f : MSt) : (SR.bk t S).seq f = .bk t S := rfl
@[simp] theorem seq_ct (t : DS) (S : Sto) (f : MSt) : (SR.ct t S).seq f = .ct t S := rfl
@[simp] theorem seq_exc (x : Xn) (t : DS) (S : Sto) (f : MSt) : (SR.exc x t S).seq f = .exc x t S := rfl
@[simp] theorem seq_bad (f : MSt) : (SR.bad).seq f = .bad := rfl
def sNil : MSt := fun t S => .nx t S
def sCons (a b : MSt) : MSt := fun t S => (a t S).seq b
def sIf (c : MB) (a b : MSt) : MSt := fun t S => (c t S).then t fun k S1 => if k = true then a t S1 else b t S1
def sRet (a : M) : MSt := fun t S => (a t S).then t fun w S1 => .rt w S1
def sExpr (a : M) : MSt := fun t S => (a t S).then t fun _ S1 => .nx t S1
def sAsg (a : M) (g : W → DS → Option DS) : MSt := fun t S => (a t S).then t fun w S1 => match g w t with | some t1 => .nx t1 S1 | none => .bad
def forD (g : W → DS → Option DS) (body : MSt) : List D → MSt
  | [], t, S => .nx t S
  | d :: ds, t, S => match g (.d d) t with
    | none => .bad
    | some t1 => match body t1 S with
      | .nx t2 S2 => forD g body ds t2 S2
      | .ct t2 S2 => forD g body ds t2 S2
      | .bk t2 S2 => .nx t2 S2
      | r => r
def sFor (mi : MIs) (g : W → DS → Option DS) (body : MSt) : MSt := fun t S => (mi t S).then t fun ds S1 => forD g body ds t S1
def whileD (c : MB) (body : MSt) : Nat → MSt
  | 0, _, _ => .bad
  | n + 1, t, S => (c t S).then t fun k S1 => if k = true then (match body t S1 with
      | .nx t2 S2 => whileD c body n t2 S2
      | .ct t2 S2 => whileD c body n t2 S2
      | .bk t2 S2 => .nx t2 S2
      | r => r) else .nx t S1
/-- a cell is frozen: nothing is done -/
def sFrz (i : Nat) (m : MSt) : MSt := fun t S => match t[i]? with
  | some (some (.ref n)) => (match S[n]? with | some (.lst xs) => m (t.set i (some (.d (.lst xs)))) (S.set n .dead) | _ => .bad)
  | _ => .bad
section
variable {X : Cx} {Z : ZS} {io io1 : Nat → Addr} {S S1 : Sto} {H H1 : Hp} {t : DS} {σ : St} {D : Ends}
theorem PostS.from {r : SR} (p : PostS X Z io S H r D) (x : Ext io S H io1 S1 H1) : PostS X Z io1 S1 H1 r D := by
  cases r with
  | nx t S' => exact fun io' H' σ' x2 => p io' H' σ' (x.trans x2)
  | bk t S' => exact fun io' H' σ' x2 => p io' H' σ' (x.trans x2)
  | ct t S' => exact fun io' H' σ' x2 => p io' H' σ' (x.trans x2)
  | rt t S' => exact fun io' H' σ' x2 => p io' H' σ' (x.trans x2)
  | exc y t S' => exact fun pins io' H' σ' u s' x2 => p pins io' H' σ' u s' (x.trans x2)
  | bad => exact p
theorem PostS.then {α β : Type} {rel : (Nat → Addr) → Sto → Hp → α → β → Prop} {r : Res α} {f : α → Sto → SR} {Q1 : β → Hp → Prop} (p : PostS X Z io S H (r.then t f) D) (sr : SRel X.K Z io S H t σ) (hr : HRel X.K Z io S H)
    (k : ∀ io1 S1 H1 w v, Ext io S H io1 S1 H1 → HRel X.K Z io1 S1 H1 → rel io1 S1 H1 w v → SRel X.K Z io1 S1 H1 t σ → PostS X Z io1 S1 H1 (f w S1) D → Q1 v H1) : Post X Z rel io S H σ r Q1 := by
  cases r with
  | ok w S' => exact fun io' H' v x2 h2 r2 => k io' S' H' w v x2 h2 r2 (sr.ext hr x2) (PostS.from p x2)
  | exc x S' => exact fun pins io' H' u s' x2 h2 fl => p pins io' H' σ u s' x2 h2 (sr.ext hr x2) fl
  | bad => exact p
theorem PostS.nx' (p : PostS X Z io S H (.nx t S) D) (hr : HRel X.K Z io S H) (sr : SRel X.K Z io S H t σ) : D.nx σ H := p io H σ Ext.refl hr sr
end
section
variable {X : Cx} {st : Stmt} {rest sts : List Stmt} {e c : Expr} {m m2 : MSt} {me : M} {mt : MB} {pos : Pos}
theorem mss_nil : MSs X [] sNil := ⟨fun Z io S H t σ D hr sr p => PSsw pss_nil (p.nx' hr sr)⟩
theorem mss_cons (h1 : MS X st m) (h2 : MSs X rest m2) : MSs X (st :: rest) (sCons m m2) := by
  refine ⟨fun Z io S H t σ D hr sr p => PSsw (pss_cons ps_w pss_w) ?_⟩
  refine h1.run Z io S H t σ _ hr sr ?_
  unfold sCons at p
  cases h : m t S with
  | nx t1 S1 =>
    rw [h] at p
    exact fun io' H' σ' x2 hr2 sr2 => h2.run Z io' S1 H' t1 σ' D hr2 sr2 (PostS.from p x2)
  | bk t1 S1 => rw [h] at p; exact p
  | ct t1 S1 => rw [h] at p; exact p
  | rt t1 S1 => rw [h] at p; exact p
  | exc x t1 S1 => rw [h] at p; exact p
  | bad => rw [h] at p; exact p
theorem mss_frz {i : Nat} (h : MSs X sts m) : MSs X sts (sFrz i m) := by
  refine ⟨fun Z io S H t σ D hr sr p => ?_⟩
  unfold sFrz at p
  split at p
  · rename_i n e
    split at p
    · rename_i xs e2
      obtain ⟨v, ev, rv⟩ := sr.get i _ e
      cases rv with
      | ref hn =>
        refine h.run Z io (S.set n .dead) H _ σ D hr.freeze ?_ (PostS.from p Ext.freeze)
        have s1 := sr.ext hr (Ext.freeze (n := n))
        refine ⟨by simp [s1.len], fun j u ej => ?_⟩
        by_cases hj : i = j
        · subst hj
          rw [List.getElem?_set_self (List.getElem?_eq_some_iff.mp e).1] at ej
          cases ej
          exact ⟨_, ev, .d (DRel.frozen hr e2)⟩
        · rw [List.getElem?_set_ne hj] at ej
          exact s1.get j u ej
    · exact p.elim
  · exact p.elim
theorem ms_if (hc : MT X c mt) (ha : MSs X sts m) (hb : MSs X rest m2) : MS X (.If c sts rest pos) (sIf mt m m2) := by
  refine ⟨fun Z io S H t σ D hr sr p => PSw (ps_if pt_w pss_w pss_w) ?_⟩
  refine hc.run Z io S H t σ _ hr sr (PostS.then p sr hr fun io1 S1 H1 w v x1 hr1 rw1 sr1 p1 => ?_)
  cases rw1
  cases w with
  | true => exact ha.run Z io1 S1 H1 t σ D hr1 sr1 p1
  | false => exact hb.run Z io1 S1 H1 t σ D hr1 sr1 p1
theorem ms_ret (h : ME X e me) : MS X (.Return (some e) pos) (sRet me) := by
  refine ⟨fun Z io S H t σ D hr sr p => PSw (ps_ret pe_w) ?_⟩
  refine h.run Z io S H t σ _ hr sr (PostS.then p sr hr fun io1 S1 H1 w v x1 hr1 rw1 sr1 p1 => ?_)
  exact p1 io1 H1 v Ext.refl hr1 rw1
theorem ms_expr (h : ME X e me) (hs : swapsWith e none pos.line X.env = pure false := by rfl) : MS X (.Expr e pos) (sExpr me) := by
  refine ⟨fun Z io S H t σ D hr sr p => PSw (ps_expr pe_w hs) ?_⟩
  refine h.run Z io S H t σ _ hr sr (PostS.then p sr hr fun io1 S1 H1 w v x1 hr1 rw1 sr1 p1 => ?_)
  exact p1.nx' hr1 sr1
/-- name = value -/
theorem ms_set {i : Nat} {x : Str} {pos' : Pos} (hN : X.N.Nodup) (hi : X.N[i]? = some x) (hx : Loc X.env.scope x) (he : ME X e me) (hs : swapsWith e (some (.Name x pos')) pos.line X.env = pure false := by rfl) (hf : X.fn x = true ∨ X.env.scope.names.lookup x = some .local := by first | exact .inl rfl | exact .inr rfl | assumption) :
    MS X (.Assign [.Name x pos'] e pos) (sAsg me (gN i)) := by
  refine ⟨fun Z io S H t σ D hr sr p => PSw (ps_set hN hi hx pe_w hs hf) ?_⟩
  refine he.run Z io S H t σ _ hr sr (PostS.then p sr hr fun io1 S1 H1 w v x1 hr1 rw1 sr1 p1 => ?_)
  exact p1 io1 H1 _ Ext.refl hr1 (sr1.set i rw1)
theorem ms_while {fu : Nat} (k : Cok X) (hc : MT X c mt) (hb : MSs X sts m) : MS X (.While c sts [] pos) (whileD mt m fu) := by
  refine ⟨fun Z io S H t σ D hr sr p => PSw (ps_while k.hp pt_w pss_w) ?_⟩
  refine ⟨fun mm σ' H' => ∃ io' S' t', Ext io S H io' S' H' ∧ HRel X.K Z io' S' H' ∧ SRel X.K Z io' S' H' t' σ' ∧ PostS X Z io S H (whileD mt m mm t' S') D, ⟨fu, io, S, t, Ext.refl, hr, sr, p⟩, ?_⟩
  rintro mm σ' H' ⟨io', S', t', x2, hr2, sr2, p2⟩
  cases mm with
  | zero => exact p2.elim
  | succ n =>
    unfold whileD at p2
    refine hc.run Z io' S' H' t' σ' _ hr2 sr2 ?_
    cases hmt : mt t' S' with
    | bad => rw [hmt] at p2; exact p2.elim
    | exc x S3 =>
      rw [hmt] at p2
      exact fun pins io5 H5 u s5 x5 hr5 fl => p2 pins io5 H5 σ' u s5 (x2.trans x5) hr5 (sr2.ext hr2 x5) fl
    | ok w S3 =>
      rw [hmt] at p2
      dsimp only [then_ok] at p2
      intro io3 H3 v x3 hr3 rw3
      cases rw3
      have sr3 := sr2.ext hr2 x3
      have x23 := x2.trans x3
      cases w with
      | false =>
        rw [if_neg Bool.false_ne_true] at p2 ⊢
        exact p2 io3 H3 σ' x23 hr3 sr3
      | true =>
        rw [if_pos rfl] at p2 ⊢
        refine ⟨fun σ5 H5 => ∃ io5 S5 t5, Ext io S H io5 S5 H5 ∧ HRel X.K Z io5 S5 H5 ∧ SRel X.K Z io5 S5 H5 t5 σ5 ∧ PostS X Z io S H (whileD mt m n t5 S5) D, fun σ5 H5 q => ⟨n, Nat.lt_succ_self _, q⟩, ?_⟩
        refine hb.run Z io3 S3 H3 t' σ' _ hr3 sr3 ?_
        cases hm : m t' S3 with
        | nx t2 S2 =>
          rw [hm] at p2
          exact fun io5 H5 σ5 x5 hr5 sr5 => ⟨io5, S2, t2, x23.trans x5, hr5, sr5, p2⟩
        | ct t2 S2 =>
          rw [hm] at p2
          exact fun io5 H5 σ5 x5 hr5 sr5 => ⟨io5, S2, t2, x23.trans x5, hr5, sr5, p2⟩
        | bk t2 S2 =>
          rw [hm] at p2
          exact fun io5 H5 σ5 x5 hr5 sr5 => p2 io5 H5 σ5 (x23.trans x5) hr5 sr5
        | rt t2 S2 =>
          rw [hm] at p2
          exact fun io5 H5 σ5 x5 hr5 sr5 => p2 io5 H5 σ5 (x23.trans x5) hr5 sr5
        | exc xx t2 S2 =>
          rw [hm] at p2
          exact fun pins io5 H5 σ5 u s5 x5 hr5 sr5 fl => p2 pins io5 H5 σ5 u s5 (x23.trans x5) hr5 sr5 fl
        | bad => rw [hm] at p2; exact p2.elim
end
end Z
namespace Z
open PySem PySem.Spec L2
open PyProof.Rows hiding St
section
variable {X : Cx}
def sSetItem (a o i : M) : MSt := fun t S => (a t S).then t fun w S1 => (o t S1).then t fun ow S2 => (i t S2).then t fun iw S3 => match w, ow, iw with
  | .d x, .ref n, .d (.int k) => (match S3[n]? with
    | some (.lst xs) => (match ixN xs.length k with | some j => .nx t (S3.set n (.lst (xs.set j x))) | none => .bad)
    | _ => .bad)
  | _, _, _ => .bad
theorem post_write {Z : ZS} {io : Nat → Addr} {S : Sto} {H : Hp} {t : DS} {σ : St} {D : Ends} {n : Nat} {xs ys : List _root_.Z.D} {vs : List V} (p : PostS X Z io S H (.nx t (S.set n (.lst ys))) D) (hr : HRel X.K Z io S H) (sr : SRel X.K Z io S H t σ) (e : S[n]? = some (.lst xs)) (q : DRels X.K H (NA Z io S) ys vs) : D.nx σ (upd H (io n) (.lst vs)) :=
  p io _ σ (Ext.write (live_lst e)) (hr.write (live_lst e) q) (sr.ext hr (Ext.write (live_lst e)))
theorem ms_setItem {o i e : Expr} {mo mi me : M} {pos pos' : Pos} (he : ME X e me) (ho : ME X o mo) (hi : ME X i mi)
    (ha : ∀ v, assign (.Subscript o i pos') X.env v = (do
      let ov ← holding [v] (eval o X.env)
      let iv ← holding [v, ov] (eval i X.env)
      standAt pos'
      holding [v, ov, iv] (setItem ov iv v)
      release [v, ov, iv] []) := by intro _; rfl)
    (hs : swapsWithSole [.Subscript o i pos'] e pos.line X.env = pure false := by rfl) (hw : swappedStores [.Subscript o i pos'] e X.env = pure none := by rfl)
    (h1 : (assignEach [.Subscript o i pos'] X.env).map (·.2) = [assign (.Subscript o i pos') X.env] := by rfl) : MS X (.Assign [.Subscript o i pos'] e pos) (sSetItem me mo mi) := by
  refine ⟨fun Z io S H t σ D hr sr p => PSw (ps_asg pe_w (pg_sub pe_w pe_w set_list ha) hs hw h1) ?_⟩
  refine he.run Z io S H t σ _ hr sr (PostS.then p sr hr fun io1 S1 H1 w v x1 hr1 rw1 sr1 p1 => ?_)
  refine ho.run Z io1 S1 H1 t σ _ hr1 sr1 (PostS.then p1 sr1 hr1 fun io2 S2 H2 w2 v2 x2 hr2 rw2 sr2 p2 => ?_)
  refine hi.run Z io2 S2 H2 t σ _ hr2 sr2 (PostS.then p2 sr2 hr2 fun io3 S3 H3 w3 v3 x3 hr3 rw3 sr3 p3 => ?_)
  have rx1 := (rw1.ext hr1 x2).ext hr2 x3
  have rx2 := rw2.ext hr2 x3
  clear rw1 rw2
  split at p3
  · rename_i x n k
    split at p3
    · rename_i xs e
      split at p3
      · rename_i j ej
        obtain ⟨vs, h1, q⟩ := hr3.cell n xs e
        obtain rfl := int_of rw3
        cases rx2 with
        | ref hn =>
          cases rx1 with
          | d r1 => exact ⟨_, vs, k, j, rfl, rfl, h1, by rw [← q.length]; exact ej, post_write p3 hr3 sr3 e (q.set r1 j)⟩
      · exact p3.elim
    · exact p3.elim
  · exact p3.elim
/-- the receiver: a list cell from the start -/
def isCell (S : Sto) : W → Bool
  | .ref n => (match S[n]? with | some (.lst _) => true | _ => false)
  | _ => false
def dAppend' (o a : M) : M := fun t S => (o t S).bind fun ow S1 => if isCell S1 ow = true then (a t S1).bind fun w S2 => match ow, w with
  | .ref n, .d x => (match S2[n]? with | some (.lst xs) => if xs.length < sizeLine then .ok (.d .non) (S2.set n (.lst (xs ++ [x]))) else .bad | _ => .bad)
  | _, _ => .bad
  else .bad
theorem cell_ty {Z : ZS} {io : Nat → Addr} {S : Sto} {H : Hp} {w : W} {v : V} (hr : HRel X.K Z io S H) (r : WRel X.K Z io S H w v) (e : isCell S w = true) : tyV X.K "list" v H := by
  cases r with
  | d _ => cases e
  | fz _ _ => cases e
  | exn _ _ => cases e
  | ref hn =>
    unfold isCell at e
    dsimp only at e
    split at e
    · rename_i xs q
      obtain ⟨vs, h1, _⟩ := hr.cell _ _ q
      exact .inl ⟨rfl, vs, SqL.of h1⟩
    · cases e
theorem me_append {o e : Expr} {mo me : M} {apos cpos : Pos} (ho : ME X o mo) (he : ME X e me) (hbase : attributeBase o "append" X.env (eval o X.env) = eval o X.env := by rfl)
    (hfew : ((backTo cpos (starEach [e] X.env)).all (fun x => !x.1) && (backToKw cpos (keywordEach [] X.env)).all (fun x => x.1.isSome)
      && decide ([e].length + ([] : List Keyword).length + (if ([] : List Keyword).isEmpty then 0 else 1) < 30)) = true := by rfl)
    (hline : (apos.endLine == cpos.line) = true := by rfl) (hs : starEach [e] X.env = (false, eval e X.env) :: starEach [] X.env := by rfl) (hplain : (backTo cpos (starEach [] X.env)).any (·.1) = false := by rfl) :
    ME X (.Call (.Attribute o "append" apos) [e] [] cpos) (dAppend' mo me) := by
  refine ⟨fun Z io S H t σ Q hr sr p => PEw (pe_bm PySem.F.plainAttrs_list PySem.F.slot_list_append PySem.F.type_list_append mt_append pe_w (pa_cons pe_w pa_nil hs) hbase hfew hline hs hplain) ?_⟩
  refine ho.run Z io S H t σ _ hr sr (Post.bind p fun io1 S1 H1 w v x1 hr1 rw1 p1 => ?_)
  split at p1
  · rename_i hc
    refine ⟨cell_ty hr1 rw1 hc, ?_⟩
    refine he.run Z io1 S1 H1 t σ _ hr1 (sr.ext hr x1) (Post.bind p1 fun io2 S2 H2 w2 v2 x2 hr2 rw2 p2 => ?_)
    have rx1 := rw1.ext hr1 x2
    clear rw1
    split at p2
    · rename_i n x
      split at p2
      · rename_i xs e
        split at p2
        · rename_i hz
          obtain ⟨vs, h1, q⟩ := hr2.cell n xs e
          cases rx1 with
          | ref hn =>
            cases rw2 with
            | d r2 => exact ⟨_, vs, v2, rfl, rfl, h1, by rw [← q.length]; exact hz, p2 io2 _ .non (Ext.write (live_lst e)) (hr2.write (live_lst e) (q.append (.cons r2 .nil))) (.d .non)⟩
        · exact p2.elim
      · exact p2.elim
    · exact p2.elim
  · exact p1.elim
/-- xs.pop(i) -/
def dPopAt (o a : M) : M := fun t S => (o t S).bind fun ow S1 => if isCell S1 ow = true then (a t S1).bind fun w S2 => match ow, w with
  | .ref n, .d (.int i) => (match S2[n]? with
    | some (.lst xs) => if 0 ≤ i ∧ i < 2 ^ 63 then (match xs[i.toNat]? with | some x => .ok (.d x) (S2.set n (.lst (xs.eraseIdx i.toNat))) | none => .bad) else .bad
    | _ => .bad)
  | _, _ => .bad
  else .bad
end
def finD (k : Nat) : SR → Res W
  | .nx _ S => .ok (.d .non) (S.take k)
  | .rt (.d x) S => .ok (.d x) (S.take k)
  | .rt (.ref n) S => if n < k then .ok (.ref n) (S.take k) else (match S[n]? with | some (.lst xs) => .ok (.ref k) (S.take k ++ [.lst xs]) | some (.dk xs) => .ok (.ref k) (S.take k ++ [.dk xs]) | some (.dt xs) => .ok (.ref k) (S.take k ++ [.dt xs]) | _ => .bad)
  | .exc x _ S => .exc x (S.take k)
  | _ => .bad
def fnD (n : Nat) (m : MSt) : List W → Sto → Res W := fun ws S => finD S.length (m (ws.map some ++ List.replicate (n - ws.length) none) S)
def spOf (K : PySem.W.Frag) (np : Nat) (g : List W → Sto → Res W) : Sp := fun vs H Q E => vs.length = np ∧ ∃ Z io S ws, HRel K Z io S H ∧ WRels K Z io S H ws vs ∧
  match g ws S with
  | .ok w S' => ∀ io' H' v, Ext io S H io' S' H' → HRel K Z io' S' H' → WRel K Z io' S' H' w v → Q v H'
  | _ => False
theorem start_rel {K : PySem.W.Frag} {Z : ZS} {io : Nat → Addr} {S : Sto} {H : Hp} {ws : List W} {vs : List V} {N : List Str} (r : WRels K Z io S H ws vs) : SRel K Z io S H (ws.map some ++ List.replicate (N.length - ws.length) none) (start N vs) := by
  have hl := r.length
  unfold L2.start
  refine ⟨by simp [hl], fun i w e => ?_⟩
  by_cases hi : i < ws.length
  · rw [List.getElem?_append_left (by simpa using hi), List.getElem?_map] at e
    cases q : ws[i]? with
    | none => rw [q] at e; cases e
    | some w' =>
      rw [q] at e
      cases e
      obtain ⟨v, e1, r1⟩ := r.get q
      exact ⟨v, by rw [List.getElem?_append_left (by simpa using (by omega : i < vs.length)), List.getElem?_map, e1]; rfl, r1⟩
  · rw [List.getElem?_append_right (by simpa using hi), List.getElem?_replicate] at e
    split at e <;> cases e
theorem Ext.movedC {io io' : Nat → Addr} {S S' : Sto} {H H' : Hp} {n : Nat} {c : Cell} (x : Ext io S H io' S' H') (e : S'[n]? = some c) (hc : c ≠ .dead) :
    Ext io S H (ioPush io' S.length (io' n)) (S'.take S.length ++ [c]) H' := by
  have hlen : (S'.take S.length).length = S.length := by rw [List.length_take]; have := x.len; omega
  refine ⟨by simp [hlen], fun m hm => (ioPush_lt hm).trans (x.adr m hm), fun a o h na => ⟨(x.keep a o h na).1, ?_⟩⟩
  have h1 := ((x.keep a o h na).2.take (k := S.length)).push (p := io' n) (c := c) fun z => (x.keep a o h na).2 n ⟨c, e, hc⟩ z
  rw [hlen] at h1
  exact h1
theorem HRel.movedC {K : PySem.W.Frag} {Z : ZS} {io : Nat → Addr} {S : Sto} {H : Hp} {k n : Nat} {c : Cell} (r : HRel K Z io S H) (hk : k ≤ n) (hl : k ≤ S.length) (e : S[n]? = some c) (hc : c ≠ .dead) : HRel K Z (ioPush io k (io n)) (S.take k ++ [c]) H := by
  have hlen : (S.take k).length = k := by rw [List.length_take]; omega
  have old : ∀ m, Live (S.take k ++ [c]) m → (m < k ∧ Live S m ∧ ioPush io k (io n) m = io m) ∨ (m = k ∧ ioPush io k (io n) m = io n) := fun m l => by
    rcases live_push l with l | l
    · obtain ⟨a, b⟩ := live_take l
      exact .inl ⟨b, a, ioPush_lt b⟩
    · rw [hlen] at l
      subst l
      exact .inr ⟨rfl, ioPush_at⟩
  have na : ∀ a, NA Z io S a → NA Z (ioPush io k (io n)) (S.take k ++ [c]) a := fun a h => ⟨fun m l => by
    rcases old m l with ⟨_, h2, h3⟩ | ⟨_, h3⟩
    · rw [h3]; exact h.1 m h2
    · rw [h3]; exact h.1 n ⟨c, e, hc⟩, h.2⟩
  refine ⟨fun m d em => ?_, fun a b la lb eab => ?_, r.zd, fun a z m l => ?_⟩
  · by_cases nd : d = .dead
    · subst nd; exact trivial
    rcases old m ⟨d, em, nd⟩ with ⟨h1, _, h3⟩ | ⟨h1, h3⟩
    · rw [List.getElem?_append_left (by rw [hlen]; exact h1), List.getElem?_take_of_lt h1] at em
      rw [h3]
      exact (r.cells m d em).to (fun _ u h => h) (fun _ _ h _ => h) fun a _ h n => ⟨h, na a n⟩
    · subst h1
      rw [List.getElem?_append_right (by rw [hlen]; exact Nat.le_refl _), hlen] at em
      have e' : d = c := by simpa using em.symm
      subst e'
      rw [h3]
      exact (r.cells n d e).to (fun _ u h => h) (fun _ _ h _ => h) fun a _ h n => ⟨h, na a n⟩
  · rcases old a la with ⟨a1, a2, a3⟩ | ⟨a1, a3⟩ <;> rcases old b lb with ⟨b1, b2, b3⟩ | ⟨b1, b3⟩
    · rw [a3, b3] at eab; exact r.inj a b a2 b2 eab
    · rw [a3, b3] at eab
      have := r.inj a n a2 ⟨c, e, hc⟩ eab
      omega
    · rw [a3, b3] at eab
      have := r.inj n b ⟨c, e, hc⟩ b2 eab
      omega
    · rw [a1, b1]
  · rcases old m l with ⟨_, h2, h3⟩ | ⟨_, h3⟩
    · rw [h3]; exact r.zc a z m h2
    · rw [h3]; exact r.zc a z n ⟨c, e, hc⟩
section
variable {P : Program} {w : World} {K : PySem.W.Frag} {mg : Str → Option Value} {base : Heap}
/-- the body's context -/
abbrev cxF (P : Program) (w : World) (K : PySem.W.Frag) (mg : Str → Option Value) (base : Heap) (N : List Str) (qual : Str) (st : Stmt) (f : Addr) (cdv : Value) (A : Around) (outer : List Env) (s : Shared) (H : Hp) (E : XK) : Cx := (cxOf CX0 P w K mg base N qual (defScope st) f cdv A outer s H E).nox
/-- THE RULE for a def -/
theorem fn_ok {x qual : Str} {st : Stmt} {f : Addr} {fd : FuncData} {N ps : List Str} {k : Nat} {m : MSt} (F : Fun K x qual st f fd) (Sc : FnScope N ps (defScope st))
    (hb : ∀ (cdv : Value) (A : Around) (outer : List Env) (s : Shared) (H : Hp) (E : XK), Room k (A.deeper (envOfC qual (defScope st) s.heap.objs.size f cdv)) → Cok (cxF P w K mg base N qual st f cdv A outer s H E) → MSs (cxF P w K mg base N qual st f cdv A outer s H E) (defBody st) m) :
    FnOk P w K mg base CX0 (k + 1) f fd ps (spOf K ps.length (fnD N.length m)) := by
  refine F.ok Sc (fun vs H Q E h => h.1) (fun cdv A outer s H vs Q E hr h => ?_)
  obtain ⟨hl, Z, io, S, ws, hrel, rs, h⟩ := h
  have c : Cok (cxF P w K mg base N qual st f cdv A outer s H E) := ⟨rfl, hr.units, Sc.nd, PassesOwn.never⟩
  refine ⟨_, pss_w, ?_⟩
  refine (hb cdv A outer s H E hr c).run Z io S H _ _ _ hrel (start_rel rs) ?_
  unfold fnD at h
  cases hm : m (ws.map some ++ List.replicate (N.length - ws.length) none) S with
  | nx t1 S1 =>
    rw [hm] at h
    exact fun io1 H1 σ1 x1 hr1 sr1 => h io1 H1 .non (x1.take rfl) hr1.take (.d .non)
  | rt w1 S1 =>
    rw [hm] at h
    intro io1 H1 v x1 hr1 rw1
    cases w1 with
    | d y =>
      cases rw1 with
      | d r => exact h io1 H1 v (x1.take rfl) hr1.take (.d r.take')
    | fz y => exact h.elim
    | exn y => exact h.elim
    | ref n =>
      have h : (match (if n < S.length then Res.ok (.ref n) (S1.take S.length) else (match S1[n]? with | some (.lst xs) => Res.ok (.ref S.length) (S1.take S.length ++ [.lst xs]) | some (.dk xs) => Res.ok (.ref S.length) (S1.take S.length ++ [.dk xs]) | some (.dt xs) => Res.ok (.ref S.length) (S1.take S.length ++ [.dt xs]) | _ => .bad)) with
        | .ok w S' => ∀ io' H' v, Ext io S H io' S' H' → HRel K Z io' S' H' → WRel K Z io' S' H' w v → Q v H'
        | _ => False) := h
      cases rw1 with
      | ref hn =>
        by_cases hlt : n < S.length
        · rw [if_pos hlt] at h
          exact h io1 H1 _ (x1.take rfl) hr1.take (.ref (by rw [List.length_take]; omega))
        · rw [if_neg hlt] at h
          cases q : S1[n]? with
          | none => rw [q] at h; exact h.elim
          | some ce =>
            rw [q] at h
            cases ce with
            | dead => exact h.elim
            | lst xs =>
              have hk := hr1.movedC (k := S.length) (by omega) (by have := x1.len; omega) q (fun z => nomatch z)
              have hlen : (S1.take S.length).length = S.length := by rw [List.length_take]; have := x1.len; omega
              have hw := WRel.ref (K := K) (Z := Z) (io := ioPush io1 S.length (io1 n)) (S := S1.take S.length ++ [.lst xs]) (H := H1) (n := S.length) (by simp [hlen])
              rw [ioPush_at] at hw
              exact h _ H1 _ (x1.movedC q (fun z => nomatch z)) hk hw
            | dk xs =>
              have hk := hr1.movedC (k := S.length) (by omega) (by have := x1.len; omega) q (fun z => nomatch z)
              have hlen : (S1.take S.length).length = S.length := by rw [List.length_take]; have := x1.len; omega
              have hw := WRel.ref (K := K) (Z := Z) (io := ioPush io1 S.length (io1 n)) (S := S1.take S.length ++ [.dk xs]) (H := H1) (n := S.length) (by simp [hlen])
              rw [ioPush_at] at hw
              exact h _ H1 _ (x1.movedC q (fun z => nomatch z)) hk hw
            | dt xs =>
              have hk := hr1.movedC (k := S.length) (by omega) (by have := x1.len; omega) q (fun z => nomatch z)
              have hlen : (S1.take S.length).length = S.length := by rw [List.length_take]; have := x1.len; omega
              have hw := WRel.ref (K := K) (Z := Z) (io := ioPush io1 S.length (io1 n)) (S := S1.take S.length ++ [.dt xs]) (H := H1) (n := S.length) (by simp [hlen])
              rw [ioPush_at] at hw
              exact h _ H1 _ (x1.movedC q (fun z => nomatch z)) hk hw
  | bk t1 S1 => rw [hm] at h; exact h.elim
  | ct t1 S1 => rw [hm] at h; exact h.elim
  | exc x t1 S1 => rw [hm] at h; exact h.elim
  | bad => rw [hm] at h; exact h.elim
end
section
variable {X : Cx} {k : Nat} {f : Addr} {fd : FuncData} {ps : List Str} {x : Str} {p pos : Pos} {e : Expr} {es : List Expr} {mas : MAs} {g : List W → Sto → Res W} {ds : List Value} {dvs : List V} {dws : List W}
/-- the defaults -/
inductive DfRel : List W → List V → List Value → Prop
  | nil : DfRel [] [] []
  | int {i : Int} {t : Tok} {a : List W} {b : List V} {c : List Value} : DfRel a b c → DfRel (.d (.int i) :: a) (.int i :: b) (.int i t :: c)
  | str {i : Str} {t : Tok} {a : List W} {b : List V} {c : List Value} : DfRel a b c → DfRel (.d (.str i) :: a) (.str i :: b) (.str i t :: c)
theorem DfRel.vals : ∀ {a : List W} {b : List V} {c : List Value}, DfRel a b c → Vals b c
  | _, _, _, .nil => .nil
  | _, _, _, .int h => .cons ⟨_, rfl⟩ h.vals
  | _, _, _, .str h => .cons ⟨_, rfl⟩ h.vals
theorem DfRel.wrels {K : PySem.W.Frag} {Z : ZS} {io : Nat → Addr} {S : Sto} {H : Hp} : ∀ {a : List W} {b : List V} {c : List Value}, DfRel a b c → WRels K Z io S H a b
  | _, _, _, .nil => .nil
  | _, _, _, .int h => .cons (.d (.int _)) h.wrels
  | _, _, _, .str h => .cons (.d (.str _)) h.wrels
def dCallD (g : List W → Sto → Res W) (dws : List W) (as : MAs) : M := fun t S => (as t S).bind fun ws S1 => g (ws ++ dws) S1
theorem run_call {vs : List V} {ws : List W} {Z : ZS} {io : Nat → Addr} {S : Sto} {H : Hp} {σ : St} {Q : VK} (hr : HRel X.K Z io S H) (rs : WRels X.K Z io S H ws vs) (hl : vs.length = ps.length) (p : Post X Z (RW X Z) io S H σ (g ws S) Q) (hne : ∀ x S', g ws S ≠ .exc x S') : spOf X.K ps.length g vs H Q E0 := by
  refine ⟨hl, Z, io, S, ws, hr, rs, ?_⟩
  cases h : g ws S with
  | ok w S' => rw [h] at p; exact p
  | exc x S' => exact hne x S' h
  | bad => rw [h] at p; exact p
/-- no exception from it -/
def noX (g : List W → Sto → Res W) : List W → Sto → Res W := fun ws S => match g ws S with | .exc _ _ => .bad | r => r
theorem me_call (F : FnOk X.prog X.w X.K X.mg X.base CX0 k f fd ps (spOf X.K ps.length g)) (hr : Room k X.A) (hg : Gl X x) (hm : X.mg x = some (.ref f)) (hk : PySem.W.keepIn X.K (.ref f) = true) (hb : Binds X.K fd ps ds) (hd : DfRel dws dvs ds)
    (ha : MA X (e :: es) mas) (hlen : ∀ t S ws S1, mas t S = .ok ws S1 → (ws ++ dws).length = ps.length) (hdb : (x == ("__debug__" : Str)) = false := by decide) (he : starEach (e :: es) X.env = (false, eval e X.env) :: starEach es X.env := by rfl) (hpl : (backTo pos (starEach es X.env)).any (·.1) = false := by rfl) :
    ME X (.Call (.Name x p) (e :: es) [] pos) (dCallD (noX g) dws mas) := by
  refine ⟨fun Z io S H t σ Q hrr sr po => PEw (pe_call F hr hg hm hk hb hd.vals pass0 pa_w hdb he hpl) ?_⟩
  unfold dCallD at po
  cases hq : mas t S with
  | bad => rw [hq] at po; exact po.elim
  | exc x S1 =>
    rw [hq] at po
    have := ha.run Z io S H t σ (fun vs H1 => spOf X.K ps.length g (vs ++ dvs) H1 Q E0) hrr sr
    rw [hq] at this
    exact this po
  | ok ws S1 =>
    have := ha.run Z io S H t σ (fun vs H1 => spOf X.K ps.length g (vs ++ dvs) H1 Q E0) hrr sr
    rw [hq] at this po
    refine this fun io1 H1 vs x1 hr1 rs1 => ?_
    have rs2 := rs1.append (hd.wrels (K := X.K) (Z := Z) (io := io1) (S := S1) (H := H1))
    have hl : (vs ++ dvs).length = ps.length := by rw [← rs2.length]; exact hlen t S ws S1 hq
    have po1 : Post X Z (RW X Z) io1 S1 H1 σ (noX g (ws ++ dws) S1) Q := Post.from po x1
    have po2 : Post X Z (RW X Z) io1 S1 H1 σ (g (ws ++ dws) S1) Q ∧ ∀ x S', g (ws ++ dws) S1 ≠ .exc x S' := by
      unfold noX at po1
      cases h : g (ws ++ dws) S1 with
      | ok a b => rw [h] at po1; exact ⟨po1, fun _ _ z => nomatch z⟩
      | exc a b => rw [h] at po1; exact po1.elim
      | bad => rw [h] at po1; exact po1.elim
    exact run_call hr1 rs2 hl po2.1 po2.2
/-- .. and a list that it hands back is the asker's own, frozen -/
def dFrz (m : M) : M := fun t S => (m t S).bind fun w S' => match w with
  | .ref n => if S.length ≤ n ∧ n + 1 = S'.length then (match S'[n]? with | some (.lst xs) => .ok (.d (.lst xs)) (S'.take n) | _ => .bad) else .bad
  | w => .ok w S'
end
end Z
namespace Z
open PySem PySem.Spec L2
open PyProof.Rows hiding St
section
variable {prog : Program} {w : World} {A : Around} {E : Value → Shared → Prop} {s : Shared}
end
section
variable {X : Cx}
def dRev (a : M) : M := fun t S => (a t S).bind fun w S1 => match w with
  | .d (.tup xs) => .ok (.d (.tup xs.reverse)) S1
  | w => (match lstOf S1 w with | some xs => .ok (.d (.lst xs.reverse)) S1 | none => .bad)
def cutD (xs : List D) (lo hi : Option Int) : List D := (xs.drop (HT.sIx xs.length 0 lo)).take (HT.sIx xs.length xs.length hi - HT.sIx xs.length 0 lo)
abbrev MO := DS → Sto → Res (Option Int)
def oNone : MO := fun _ S => .ok none S
def oSome (a : M) : MO := fun t S => (a t S).bind fun w S1 => match w with | .d (.int i) => .ok (some i) S1 | _ => .bad
def dCut (a : M) (lo hi : MO) : M := fun t S => (a t S).bind fun w S1 => (lo t S1).bind fun l S2 => (hi t S2).bind fun u S3 => match lstOf S3 w with | some xs => .ok (.d (.lst (cutD xs l u))) S3 | none => .bad
end
end Z
namespace Z
open PySem PySem.Spec L2
open PyProof.Rows hiding St
section
variable {prog : Program} {w : World} {A : Around} {E : Value → Shared → Prop} {s : Shared}
end
section
variable {X : Cx}
def dInsert (o a b : M) : M := fun t S => (o t S).bind fun ow S1 => if isCell S1 ow = true then (a t S1).bind fun iw S2 => (b t S2).bind fun w S3 => match ow, iw, w with
  | .ref n, .d (.int i), .d x => (match S3[n]? with
    | some (.lst xs) => if 0 ≤ i ∧ i < 2 ^ 63 ∧ xs.length < sizeLine then .ok (.d .non) (S3.set n (.lst (xs.take i.toNat ++ x :: xs.drop i.toNat))) else .bad
    | _ => .bad)
  | _, _, _ => .bad
  else .bad
end
end Z
namespace ZS1
open PySem PySem.Spec PyProof.Rows
section
variable {prog : Program} {w : World}
abbrev sK (prog : Program) (w : World) : PySem.KeyKind prog w Str := PySem.strKind prog w
def byT (w : World) : Bool := w.params.followText "set-order"
/-- the set at a holds just the texts ks -/
structure SetS (prog : Program) (w : World) (h : Heap) (a : Addr) (ks : List Str) : Prop where
  ex : ∃ o es ep t ls, h.get? a = some o ∧ o.ExactSet ∧ o.data = .set es ep t ∧ Paired (fun (e : Int × Value) (k : Str) => (sK prog w).is k e.2 = true ∧ e.1 = (sK prog w).hash k) es.toList ls ∧ ls.Perm ks ∧
    t.fits es.size = true ∧ t.led = !byT w ∧ (0 < es.size → t.plain = false)
  nd : ks.Nodup
  few : ks.length < scanBound
variable {A : Around} {E : Value → Shared → Prop} {s : Shared}
end
end ZS1
namespace ZS1
open PySem PySem.Spec PyProof.Rows
/-- the texts in the order in which they are first met -/
def stepT (acc : List Str) (x : Str) : List Str := if x ∈ acc then acc else acc ++ [x]
def firstT (xs : List Str) : List Str := xs.foldl stepT []
section
variable {prog : Program} {w : World} {A : Around} {E : Value → Shared → Prop} {s : Shared} {R : Result → Shared → Prop}
end
end ZS1
namespace ZS1
open PySem PySem.Spec PyProof.Rows
section
variable {prog : Program} {w : World} {A : Around} {E : Value → Shared → Prop} {s : Shared}
end
end ZS1
namespace ZS1
open PySem PySem.Spec PyProof.Rows
section
variable {prog : Program} {w : World} {A : Around} {E : Value → Shared → Prop} {s : Shared}
/-- the set's object, its elements es, its age ep -/
structure SO (w : World) (h : Heap) (a : Addr) (es : Array (Int × Value)) (ep : Nat) (t : SetTable) : Prop where
  ob : ∃ o, h.get? a = some o ∧ o.ExactSet ∧ o.data = .set es ep t
  fit : t.fits es.size = true
  led : t.led = !byT w
  pl : 0 < es.size → t.plain = false
theorem SO.ty {a : Addr} {es : Array (Int × Value)} {ep : Nat} {t : SetTable} (q : SO w s.heap a es ep t) : s.TypeIs (.ref a) "set" := by
  obtain ⟨o, h1, h2, _⟩ := q.ob
  exact ⟨o, h1, h2.1⟩
theorem SO.at {h h' : Heap} {a : Addr} {es : Array (Int × Value)} {ep : Nat} {t : SetTable} (q : SO w h a es ep t) (e : ∀ o, h.get? a = some o → h'.get? a = some o) : SO w h' a es ep t :=
  ⟨let ⟨o, h1, h2⟩ := q.ob; ⟨o, e o h1, h2⟩, q.fit, q.led, q.pl⟩
/-- the iterator: its first field, its turn -/
structure SI (h : Heap) (I : Addr) (f0 : Value) (i : Nat) (a : Addr) (n ep : Nat) : Prop where
  ob : h.get? I = some { cls := .type "set_iterator", data := .fields #[f0, .int i 0, .ref a, .int n 0, .int ep 0] }
/-- how many are kept in order: the drawn places, the text's order, or one alone -/
inductive Way (w : World) (a : Addr) (es : Array (Int × Value)) (ep : Nat) (t : SetTable) (h : Heap) : Value → Nat → List Value → Prop
  | drawn {T : Addr} {ps : List Nat} {i : Nat} : byT w = false → ps.Perm (List.range es.size) → h.get? T = some { cls := .type "tuple", data := .seq (ps.map fun (p : Nat) => rawInt p).toArray } →
      Way w a es ep t h (.ref T) i (ps.filterMap fun p => (es[p]?).map (·.2))
  | text {i : Nat} : byT w = true → Way w a es ep t h (.int 0 0) i ((pickOrder (w.params.setOrder a ep) es).toList.map (·.2))
  | one {i : Nat} {k : Int} : byT w = false → es.size ≤ 1 → (i = 0 → k = 0) → (i = 1 → ∀ (j : Nat), t.place[0]? = some j → k = j + 1) → Way w a es ep t h (.int k 0) i (es.toList.map (·.2))
end
end ZS1
namespace ZS1
open PySem PySem.Spec PyProof.Rows
section
variable {prog : Program} {w : World} {A : Around} {E : Value → Shared → Prop} {s : Shared}
theorem SI.ty {I : Addr} {f0 : Value} {i : Nat} {a : Addr} {n ep : Nat} (q : SI s.heap I f0 i a n ep) : s.TypeIs (.ref I) "set_iterator" := ⟨_, q.ob, rfl⟩
end
end ZS1
namespace ZS1
open PySem PySem.Spec PyProof.Rows
def tupF : Value → List Addr
  | .ref T => [T]
  | _ => []
section
variable {prog : Program} {w : World} {A : Around} {E : Value → Shared → Prop} {s : Shared}
theorem Way.at {a : Addr} {es : Array (Int × Value)} {ep : Nat} {t : SetTable} {h h' : Heap} {f0 : Value} {i : Nat} {ord : List Value} (q : Way w a es ep t h f0 i ord) (k : ∀ T ∈ tupF f0, ∀ o, h.get? T = some o → h'.get? T = some o) : Way w a es ep t h' f0 i ord := by
  cases q with
  | drawn h1 h2 h3 => exact .drawn h1 h2 (k _ (by simp [tupF]) _ h3)
  | text h1 => exact .text h1
  | one h1 h2 h3 h4 => exact .one h1 h2 h3 h4
end
end ZS1
namespace ZS1
open PySem PySem.Spec PyProof.Rows
section
variable {prog : Program} {w : World} {A : Around} {E : Value → Shared → Prop} {s : Shared}
end
end ZS1
namespace ZS1
open PySem PySem.Spec PyProof.Rows
section
variable {prog : Program} {w : World} {A : Around} {E : Value → Shared → Prop} {s : Shared}
theorem SetS.so {h : Heap} {a : Addr} {ks : List Str} (q : SetS prog w h a ks) : ∃ es ep t ls, SO w h a es ep t ∧ Paired (fun (e : Int × Value) (k : Str) => (sK prog w).is k e.2 = true ∧ e.1 = (sK prog w).hash k) es.toList ls ∧ ls.Perm ks := by
  obtain ⟨⟨o, es, ep, t, ls, h1, h2, h3, h4, h5, h6, h7, h8⟩, _, _⟩ := q
  exact ⟨es, ep, t, ls, ⟨⟨o, h1, h2, h3⟩, h6, h7, h8⟩, h4, h5⟩
end
end ZS1
namespace Z
open PySem PySem.Spec L2
open PyProof.Rows hiding St
section
variable {X : Cx}
def gSortSet : List W → Sto → Res W
  | [w], S => (match (lstOf S w).bind strsOf with | some bs => if bs.length < 64 then .ok (.d (.lst ((sortS (ZS1.firstT bs)).map D.str))) S else .bad | none => .bad)
  | _, _ => .bad
def dSortSet (a : M) : M := fun t S => (a t S).bind fun w S1 => gSortSet [w] S1
end
end Z
namespace Z
open PySem PySem.Spec L2
open PyProof.Rows hiding St
section
variable {X : Cx}
def sSetCut (a o : M) (lo hi : MO) : MSt := fun t S => (a t S).then t fun w S1 => (o t S1).then t fun ow S2 => (lo t S2).then t fun l S3 => (hi t S3).then t fun u S4 => match w, ow, l, u with
  | .d (.lst ys), .ref n, some i, some j => (match S4[n]? with
    | some (.lst xs) => if 0 ≤ i ∧ i ≤ j ∧ i ≤ (xs.length : Int) ∧ xs.length + ys.length ≤ sizeLine then .nx t (S4.set n (.lst (xs.take i.toNat ++ ys ++ xs.drop (min j.toNat xs.length)))) else .bad
    | _ => .bad)
  | _, _, _, _ => .bad
end
structure HasFn (P : Program) (w : World) (K : PySem.W.Frag) (mg : Str → Option Value) (base : Heap) (k : Nat) (x : Str) (ps : List Str) (g : List W → Sto → Res W) : Prop where
  ex : ∃ f fd, mg x = some (.ref f) ∧ PySem.W.keepIn K (.ref f) = true ∧ Binds K fd ps [] ∧ FnOk P w K mg base CX0 k f fd ps (spOf K ps.length g)
theorem HasFn.mono {P : Program} {w : World} {K : PySem.W.Frag} {mg : Str → Option Value} {base : Heap} {j k : Nat} {x : Str} {ps : List Str} {g : List W → Sto → Res W} (h : HasFn P w K mg base j x ps g) (hk : j ≤ k) : HasFn P w K mg base k x ps g :=
  let ⟨f, fd, a, b, c, d⟩ := h.ex; ⟨f, fd, a, b, c, d.mono hk⟩
structure AL (m : MAs) (n : Nat) : Prop where
  len : ∀ t S ws S1, m t S = .ok ws S1 → ws.length = n
theorem al_nil : AL dNil 0 := ⟨fun t S ws S1 e => by cases e; rfl⟩
theorem al_cons {a : M} {m : MAs} {n : Nat} (h : AL m n) : AL (dCons a m) (n + 1) := by
  refine ⟨fun t S ws S1 e => ?_⟩
  unfold dCons at e
  cases q : a t S with
  | bad => rw [q] at e; cases e
  | exc _ _ => rw [q] at e; cases e
  | ok x S2 =>
    rw [q] at e
    dsimp only [bind_ok] at e
    cases q2 : m t S2 with
    | bad => rw [q2] at e; cases e
    | exc _ _ => rw [q2] at e; cases e
    | ok xs S3 =>
      rw [q2] at e
      cases e
      rw [List.length_cons, h.len _ _ _ _ q2]
section
variable {X : Cx} {k n : Nat} {ps : List Str} {x : Str} {p pos : Pos} {e : Expr} {es : List Expr} {mas : MAs} {g : List W → Sto → Res W}
theorem me_fn (F : HasFn X.prog X.w X.K X.mg X.base k x ps g) (hr : Room k X.A) (hg : Gl X x) (ha : MA X (e :: es) mas) (hal : AL mas n) (hn : n = ps.length := by rfl) (hdb : (x == ("__debug__" : Str)) = false := by decide)
    (he : starEach (e :: es) X.env = (false, eval e X.env) :: starEach es X.env := by rfl) (hpl : (backTo pos (starEach es X.env)).any (·.1) = false := by rfl) : ME X (.Call (.Name x p) (e :: es) [] pos) (dCall (noX g) mas) := by
  obtain ⟨f, fd, h1, h2, h3, h4⟩ := F.ex
  have h := me_call h4 hr hg h1 h2 h3 .nil ha (fun t S ws S1 q => by rw [List.append_nil, hal.len t S ws S1 q]; exact hn) hdb he hpl (p := p)
  have e : dCallD (noX g) [] mas = dCall (noX g) mas := by
    funext t S
    unfold dCallD dCall
    cases mas t S with
    | ok a b => show noX g (a ++ []) b = noX g a b; rw [List.append_nil]
    | exc _ _ => rfl
    | bad => rfl
  rw [e] at h
  exact h
/-- the i-th name -/
theorem mv (i : Nat) (hN : X.N[i]? = some x := by rfl) (hv : Vis X.env.scope x := by first | exact Or.inl rfl | exact Or.inr (Or.inl rfl) | exact Or.inr (Or.inr rfl)) (hd : (x == ("__debug__" : Str)) = false := by decide) (hcd : (x == ("__classdict__" : Str)) = false := by decide) : ME X (.Name x p) (dVar i) := me_var hN hv hd hcd
end
section
variable {P : Program} {w : World} {K : PySem.W.Frag} {mg : Str → Option Value} {base : Heap}
theorem has_fn {x : Str} {st : Stmt} {f : Addr} {fd : FuncData} {N ps : List Str} {k : Nat} {m : MSt} (hm : mg x = some (.ref f)) (F : Fun K x x st f fd) (B : Binds K fd ps []) (Sc : FnScope N ps (defScope st))
    (hb : ∀ (cdv : Value) (A : Around) (outer : List Env) (s : Shared) (H : Hp) (E : XK), Room k (A.deeper (envOfC x (defScope st) s.heap.objs.size f cdv)) → Cok (cxF P w K mg base N x st f cdv A outer s H E) → MSs (cxF P w K mg base N x st f cdv A outer s H E) (defBody st) m) :
    HasFn P w K mg base (k + 1) x ps (fnD N.length m) := ⟨f, fd, hm, F.kp, B, fn_ok F Sc hb⟩
end
theorem Cok.blk {X : Cx} (c : Cok X) (s : Shared) (H : Hp) (scope : Scope) (cenv : Env) (fp : List Addr) : Cok (X.blk s H scope cenv fp) := ⟨c.calm, c.un, c.nd, PassesOwn.never⟩
theorem ints_rel {K : PySem.W.Frag} {H : Hp} {na : Addr → Prop} : ∀ ns : List Int, DRels K H na (ns.map D.int) (ns.map V.int)
  | [] => .nil
  | n :: r => .cons (.int n) (ints_rel r)
theorem sp_law {K : PySem.W.Frag} {g : List W → Sto → Res W} (h : ∀ ns : List Int, ns.length ≤ 63 → ∃ S, g [.fz (ns.map D.int)] [] = .ok (.d (.bl true)) S) {H : Hp} {a : Addr} {ns : List Int} (hl : ns.length ≤ 63) (hO : Only H) (hS : SqL K H a (ns.map V.int)) :
    spOf K 1 g [.ref a] H (fun v _ => v = .bl true) fun _ _ _ => False := by
  have f : FzL K H a (ns.map V.int) := by
    rcases hS with (hS | hS) | hS
    · rcases hO a with z | ⟨o, xs, z⟩
      · rw [z] at hS; cases hS
      · rw [z] at hS; cases hS
    · exact .inl hS
    · exact .inr hS
  refine ⟨rfl, fun _ => False, fun _ => 0, [], [.fz (ns.map D.int)], ⟨fun n xs e => by simp at e, fun n m ln => by obtain ⟨xs, e, _⟩ := ln; simp at e, fun a z => z.elim, fun a z => z.elim⟩, .cons (.fz f (ints_rel ns)) .nil, ?_⟩
  obtain ⟨S, e⟩ := h ns hl
  rw [e]
  intro io' H' v _ _ r
  cases r with
  | d r => cases r; rfl
end Z
namespace Z
open PySem PySem.Spec L2
open PyProof.Rows hiding St
def dNeg (a : M) : M := fun t S => (a t S).bind fun x S1 => match x with | .d (.int i) => .ok (.d (.int (-i))) S1 | _ => .bad
section
variable {X : Cx}
end
theorem bt_int : bootBuiltins "int" = some (.type (tyS .int)) := by decide +kernel
theorem bt_str : bootBuiltins "str" = some (.type (tyS .str)) := by decide +kernel
theorem bb_len : bootBuiltins "len" = some (.builtin "len") := by decide +kernel
theorem bb_sorted : bootBuiltins "sorted" = some (.builtin "sorted") := by decide +kernel
end Z
namespace K01
open PySem PySem.Spec L2 Z
open PyProof.Rows hiding St
def b_is_whole : MSt := (sCons (sRet (dAnd (dIsi .int (dVar 0)) (dNot (dIsi .bool (dVar 0))))) sNil)
def G_is_whole : List W → Sto → Res W := fnD 1 b_is_whole
def b_is_whole_within : MSt := (sCons (sRet (dAnd (dCall (noX G_is_whole) (dCons (dVar 0) dNil)) (dChain .LtE .LtE (dVar 1) (dVar 0) (dVar 2)))) sNil)
def G_is_whole_within : List W → Sto → Res W := fnD 3 b_is_whole_within
def b_is_name : MSt := (sCons (sIf (dOrT (dNotT (dT (dIsi .str (dVar 0)))) (dNotT (dT (dChain .LtE .LtE (dCon (.int 1)) (dCall gLen (dCons (dVar 0) dNil)) (dCon (.int 8)))))) (sCons (sRet (dCon (.bl false))) sNil) sNil) (sCons (sRet (dCall gAll (dCons (dLc [1] (iSeq (dVar 0)) (gN 1) dYes (dChain .LtE .LtE (dCon (.str "a")) (dVar 1) (dCon (.str "z")))) dNil))) sNil))
def G_is_name : List W → Sto → Res W := fnD 2 b_is_name
def b_is_tuple_of : MSt := (sCons (sRet (dAnd (dIsi .tuple (dVar 0)) (dChain .LtE .LtE (dVar 1) (dCall gLen (dCons (dVar 0) dNil)) (dVar 2)))) sNil)
def G_is_tuple_of : List W → Sto → Res W := fnD 3 b_is_tuple_of
def b_is_rising : MSt := (sCons (sRet (dCall gAll (dCons (dLc [1, 2] (iZipD (dVar 0) (dCut (dVar 0) (oSome (dCon (.int 1))) oNone)) (gTp 2 (gsCons (gN 1) (gsCons (gN 2) gsNil))) dYes (dCmp .Lt (dVar 1) (dVar 2))) dNil))) sNil)
def G_is_rising : List W → Sto → Res W := fnD 3 b_is_rising
def b_is_rank_row : MSt := (sCons (sIf (dNotT (dT (dCall (noX G_is_tuple_of) (dCons (dVar 0) (dCons (dCon (.int 3)) (dCons (dCon (.int 3)) dNil)))))) (sCons (sRet (dCon (.bl false))) sNil) sNil) (sCons (sAsg (dVar 0) (gTp 3 (gsCons (gN 1) (gsCons (gN 2) (gsCons (gN 3) gsNil))))) (sCons (sRet (dAnd (dCall (noX G_is_name) (dCons (dVar 1) dNil)) (dAnd (dCall (noX G_is_whole_within) (dCons (dVar 2) (dCons (dCon (.int 0)) (dCons (dCon (.int 1000000000)) dNil)))) (dCall (noX G_is_whole_within) (dCons (dVar 3) (dCons (dCon (.int 1)) (dCons (dCon (.int 1000)) dNil))))))) sNil)))
def G_is_rank_row : List W → Sto → Res W := fnD 4 b_is_rank_row
def b_is_chest_row : MSt := (sCons (sIf (dNotT (dT (dCall (noX G_is_tuple_of) (dCons (dVar 0) (dCons (dCon (.int 2)) (dCons (dCon (.int 2)) dNil)))))) (sCons (sRet (dCon (.bl false))) sNil) sNil) (sCons (sAsg (dVar 0) (gTp 2 (gsCons (gN 1) (gsCons (gN 2) gsNil)))) (sCons (sRet (dAnd (dCall (noX G_is_name) (dCons (dVar 1) dNil)) (dCall (noX G_is_whole_within) (dCons (dVar 2) (dCons (dCon (.int 1)) (dCons (dCon (.int 1000)) dNil)))))) sNil)))
def G_is_chest_row : List W → Sto → Res W := fnD 3 b_is_chest_row
def b_are_ranks : MSt := (sCons (sIf (dOrT (dNotT (dT (dCall (noX G_is_tuple_of) (dCons (dVar 0) (dCons (dCon (.int 1)) (dCons (dCon (.int 12)) dNil)))))) (dNotT (dT (dCall gAll (dCons (dLc [1] (iSeq (dVar 0)) (gN 1) dYes (dCall (noX G_is_rank_row) (dCons (dVar 1) dNil))) dNil))))) (sCons (sRet (dCon (.bl false))) sNil) sNil) (sCons (sRet (dCall (noX G_is_rising) (dCons (dLc [1] (iSeq (dVar 0)) (gN 1) dYes (dSub (dVar 1) (dCon (.int 0)))) dNil))) sNil))
def G_are_ranks : List W → Sto → Res W := fnD 2 b_are_ranks
def b_are_chests : MSt := (sCons (sIf (dOrT (dNotT (dT (dCall (noX G_is_tuple_of) (dCons (dVar 0) (dCons (dCon (.int 1)) (dCons (dCon (.int 6)) dNil)))))) (dNotT (dT (dCall gAll (dCons (dLc [1] (iSeq (dVar 0)) (gN 1) dYes (dCall (noX G_is_chest_row) (dCons (dVar 1) dNil))) dNil))))) (sCons (sRet (dCon (.bl false))) sNil) sNil) (sCons (sRet (dCall (noX G_is_rising) (dCons (dLc [1] (iSeq (dVar 0)) (gN 1) dYes (dSub (dVar 1) (dCon (.int 0)))) dNil))) sNil))
def G_are_chests : List W → Sto → Res W := fnD 2 b_are_chests
def b_is_articles : MSt := (sCons (sIf (dNotT (dT (dCall (noX G_is_tuple_of) (dCons (dVar 0) (dCons (dCon (.int 3)) (dCons (dCon (.int 3)) dNil)))))) (sCons (sRet (dCon (.bl false))) sNil) sNil) (sCons (sAsg (dVar 0) (gTp 3 (gsCons (gN 1) (gsCons (gN 2) (gsCons (gN 3) gsNil))))) (sCons (sRet (dAnd (dCall (noX G_are_ranks) (dCons (dVar 1) dNil)) (dAnd (dCall (noX G_are_chests) (dCons (dVar 2) dNil)) (dCall (noX G_is_whole_within) (dCons (dVar 3) (dCons (dCon (.int 1)) (dCons (dCon (.int 1000)) dNil))))))) sNil)))
def G_is_articles : List W → Sto → Res W := fnD 4 b_is_articles
abbrev N_law_draw : List Str := ["draws", "many", "found", "wide"]
def b_law_draw : MSt := (sCons (sIf (dT (dCmp .Gt (dSub (dVar 0) (dCon (.int 0))) (dCon (.int 0)))) (sCons (sAsg (dBin .Mod (dSub (dVar 0) (dCon (.int 0))) (dVar 1)) (gN 2)) (sCons (sSetItem (dBin .FloorDiv (dSub (dVar 0) (dCon (.int 0))) (dVar 1)) (dVar 0) (dCon (.int 0))) (sCons (sRet (dVar 2)) sNil))) sNil) (sCons (sAsg (dCon (.int 0)) (gN 2)) (sCons (sAsg (dCon (.int 1)) (gN 3)) (sCons (whileD (dT (dCmp .Lt (dVar 3) (dVar 1))) (sCons (sSetItem (dBin .Mod (dBin .Mult (dSub (dVar 0) (dCon (.int 1))) (dCon (.int 69621))) (dCon (.int 2147483647))) (dVar 0) (dCon (.int 1))) (sCons (sAsg (dBin .Add (dBin .Mult (dVar 2) (dCon (.int 268435456))) (dBin .FloorDiv (dBin .Mod (dBin .Mult (dSub (dVar 0) (dCon (.int 1))) (dBin .Add (dBin .FloorDiv (dSub (dVar 0) (dCon (.int 1))) (dCon (.int 128))) (dCon (.int 3)))) (dCon (.int 2147483629))) (dCon (.int 8)))) (gN 2)) (sCons (sAsg (dBin .Mult (dVar 3) (dCon (.int 268435456))) (gN 3)) sNil))) 5) (sCons (sRet (dBin .Mod (dVar 2) (dVar 1))) sNil)))))
def G_law_draw : List W → Sto → Res W := fnD 4 b_law_draw
theorem ge_law_draw : G_law_draw = fnD 4 b_law_draw := rfl
abbrev N_law_names : List Str := ["draws", "many", "letters", "stem", "first", "step", "k"]
def b_law_names : MSt := (sCons (sAsg (dCon (.str "abcdefghijklmnopqrstuvwxyz")) (gN 2)) (sCons (sAsg (dJoin (dCon (.str "")) (dLc [6] (iRange1 (dSub (dLst (dCons (dCon (.int 0)) (dCons (dCon (.int 1)) (dCons (dCon (.int 2)) (dCons (dCon (.int 7)) dNil))))) (dCall (noX G_law_draw) (dCons (dVar 0) (dCons (dCon (.int 4)) dNil))))) (gN 6) dYes (dSub (dVar 2) (dCall (noX G_law_draw) (dCons (dVar 0) (dCons (dCon (.int 26)) dNil)))))) (gN 3)) (sCons (sAsg (dCall (noX G_law_draw) (dCons (dVar 0) (dCons (dCon (.int 26)) dNil))) (gN 4)) (sCons (sAsg (dSub (dLst (dCons (dCon (.int 1)) (dCons (dCon (.int 3)) (dCons (dCon (.int 5)) (dCons (dCon (.int 7)) dNil))))) (dCall (noX G_law_draw) (dCons (dVar 0) (dCons (dCon (.int 4)) dNil)))) (gN 5)) (sCons (sRet (dCall gSorted (dCons (dLc [6] (iRange1 (dVar 1)) (gN 6) dYes (dBin .Add (dVar 3) (dSub (dVar 2) (dBin .Mod (dBin .Add (dVar 4) (dBin .Mult (dVar 5) (dVar 6))) (dCon (.int 26)))))) dNil))) sNil)))))
def G_law_names : List W → Sto → Res W := fnD 7 b_law_names
theorem ge_law_names : G_law_names = fnD 7 b_law_names := rfl
abbrev N_law_draws : List Str := ["script", "k", "cell"]
def b_law_draws : MSt := (sCons (sAsg (dBin .Mult (dCon (.int 15485863)) (dVar 1)) (gN 2)) (sCons (sIf (dT (dCmp .Lt (dVar 1) (dCall gLen (dCons (dVar 0) dNil)))) (sCons (sAsg (dBin .Mod (dSub (dVar 0) (dVar 1)) (dBin .Mult (dBin .Pow (dCon (.int 10)) (dCon (.int 60))) (dBin .Pow (dCon (.int 10)) (dCon (.int 60))))) (gN 2)) sNil) (sCons (sIf (dT (dCmp .Gt (dCall gLen (dCons (dVar 0) dNil)) (dCon (.int 0)))) (sCons (sAsg (dBin .Add (dBin .Mod (dSub (dVar 0) (dBin .Mod (dVar 1) (dCall gLen (dCons (dVar 0) dNil)))) (dBin .Pow (dCon (.int 10)) (dCon (.int 15)))) (dBin .Mult (dCon (.int 15485863)) (dVar 1))) (gN 2)) sNil) sNil) sNil)) (sCons (sRet (dLstC (dCons (dBin .Mult (dVar 2) (dCall gInt (dCons (dCmp .GtE (dVar 2) (dBin .Pow (dCon (.int 10)) (dCon (.int 18)))) dNil))) (dCons (dBin .Add (dCon (.int 1)) (dBin .Mod (dBin .Add (dBin .Mult (dVar 2) (dCon (.int 69621))) (dBin .Mult (dCon (.int 86028121)) (dBin .Add (dVar 1) (dCon (.int 1))))) (dCon (.int 2147483646)))) dNil)))) sNil)))
def G_law_draws : List W → Sto → Res W := fnD 3 b_law_draws
theorem ge_law_draws : G_law_draws = fnD 3 b_law_draws := rfl
def b_law_articles : MSt := (sCons (sAsg (dLstC dNil) (gN 2)) (sCons (sFor (iSeq (dCall (noX G_law_names) (dCons (dVar 0) (dCons (dBin .Add (dCon (.int 1)) (dCall (noX G_law_draw) (dCons (dVar 0) (dCons (dCon (.int 4)) dNil)))) dNil)))) (gN 3) (sCons (sAsg (dSub (dLst (dCons (dCall (noX G_law_draw) (dCons (dVar 0) (dCons (dCon (.int 9)) dNil))) (dCons (dBin .Add (dCon (.int 1)) (dCall (noX G_law_draw) (dCons (dVar 0) (dCons (dCon (.int 40)) dNil)))) (dCons (dCon (.int 480)) (dCons (dCall (noX G_law_draw) (dCons (dVar 0) (dCons (dBin .Add (dVar 1) (dCon (.int 1))) dNil))) dNil))))) (dCall (noX G_law_draw) (dCons (dVar 0) (dCons (dCon (.int 4)) dNil)))) (gN 6)) (sCons (sExpr (dAppend' (dVar 2) (dTup (dCons (dVar 3) (dCons (dVar 6) (dCons (dSub (dLst (dCons (dCon (.int 1)) (dCons (dCon (.int 28)) (dCons (dBin .Add (dCon (.int 1)) (dCall (noX G_law_draw) (dCons (dVar 0) (dCons (dCon (.int 30)) dNil)))) (dCons (dBin .Add (dCon (.int 1)) (dCall (noX G_law_draw) (dCons (dVar 0) (dCons (dCon (.int 9)) dNil)))) dNil))))) (dCall (noX G_law_draw) (dCons (dVar 0) (dCons (dCon (.int 4)) dNil)))) dNil)))))) sNil))) (sCons (sAsg (dLc [3] (iSeq (dCall (noX G_law_names) (dCons (dVar 0) (dCons (dBin .Add (dCon (.int 1)) (dCall (noX G_law_draw) (dCons (dVar 0) (dCons (dCon (.int 3)) dNil)))) dNil)))) (gN 3) dYes (dTup (dCons (dVar 3) (dCons (dBin .Add (dCon (.int 1)) (dCall (noX G_law_draw) (dCons (dVar 0) (dCons (dCon (.int 9)) dNil)))) dNil)))) (gN 4)) (sCons (sAsg (dSub (dLst (dCons (dCon (.int 1)) (dCons (dCon (.int 7)) (dCons (dBin .Add (dCon (.int 1)) (dCall (noX G_law_draw) (dCons (dVar 0) (dCons (dCon (.int 12)) dNil)))) (dCons (dCon (.int 28)) dNil))))) (dCall (noX G_law_draw) (dCons (dVar 0) (dCons (dCon (.int 4)) dNil)))) (gN 5)) (sCons (sRet (dTup (dCons (dCall gTuple (dCons (dVar 2) dNil)) (dCons (dCall gTuple (dCons (dVar 4) dNil)) (dCons (dVar 5) dNil))))) sNil)))))
def G_law_articles : List W → Sto → Res W := fnD 7 b_law_articles
def b_law_thing (g : List W → Sto → Res W) : MSt := (sCons (sAsg (dCall (noX G_law_draw) (dCons (dVar 0) (dCons (dCon (.int 9)) dNil))) (gN 2)) (sCons (sIf (dOrT (dT (dCmp .Lt (dVar 2) (dCon (.int 6)))) (dT (dCmp .Eq (dVar 1) (dCon (.int 0))))) (sCons (sAsg (dLst (dCons (dCon (.int 0)) (dCons (dCon (.int 1)) (dCons (dNeg (dCon (.int 1))) (dCons (dCon (.bl true)) (dCons (dCon (.bl false)) (dCons (dCon .non) (dCons (dCon (.str "")) (dCons (dCon (.str "a")) (dCons (dCon (.str "ab")) (dCons (dCon (.str "A")) (dCons (dCon (.str "abcdefghi")) (dCons (dCon (.str "lost")) (dCons (dCon (.str "joins")) (dCons (dBin .Pow (dCon (.int 10)) (dCon (.int 12))) (dCons (dBin .Add (dBin .Pow (dCon (.int 10)) (dCon (.int 12))) (dCon (.int 1))) dNil)))))))))))))))) (gN 4)) (sCons (sRet (dSub (dBin .Add (dVar 4) (dLst (dCons (dCon (.int 1000)) (dCons (dCon (.int 1001)) (dCons (dBin .Add (dBin .Pow (dCon (.int 10)) (dCon (.int 9))) (dCon (.int 1))) (dCons (dTup dNil) (dCons (dLst dNil) dNil))))))) (dCall (noX G_law_draw) (dCons (dVar 0) (dCons (dCon (.int 20)) dNil))))) sNil)) sNil) (sCons (sAsg (dLc [5] (iRange1 (dCall (noX G_law_draw) (dCons (dVar 0) (dCons (dCon (.int 7)) dNil)))) (gN 5) dYes (dCall (noX g) (dCons (dVar 0) (dCons (dBin .Sub (dVar 1) (dCon (.int 1))) dNil)))) (gN 3)) (sCons (sRet (dSub (dLst (dCons (dVar 3) (dCons (dCall gTuple (dCons (dVar 3) dNil)) (dCons (dCall gTuple (dCons (dVar 3) dNil)) dNil)))) (dBin .Sub (dVar 2) (dCon (.int 6))))) sNil))))
def g_law_thing : Nat → List W → Sto → Res W
  | 0 => fun _ _ => .bad
  | n + 1 => fnD 6 (b_law_thing (g_law_thing n))
def G_law_thing : List W → Sto → Res W := g_law_thing 4
def b_law_otherwise (g : List W → Sto → Res W) : MSt := (sCons (sAsg (dCall gListC (dCons (dVar 1) dNil)) (gN 3)) (sCons (sIf (dT (dCmp .Eq (dVar 3) (dLst dNil))) (sCons (sRet (dTup (dCons (dCall (noX G_law_thing) (dCons (dVar 0) (dCons (dCon (.int 1)) dNil))) dNil))) sNil) sNil) (sCons (sAsg (dCall (noX G_law_draw) (dCons (dVar 0) (dCons (dCall gLen (dCons (dVar 3) dNil)) dNil))) (gN 4)) (sCons (sIf (dAndT (dT (dIsi .tuple (dSub (dVar 3) (dVar 4)))) (dAndT (dT (dCmp .Gt (dVar 2) (dCon (.int 0)))) (dT (dCmp .Gt (dCall (noX G_law_draw) (dCons (dVar 0) (dCons (dCon (.int 4)) dNil))) (dCon (.int 0)))))) (sCons (sSetItem (dFrz (dCall (noX g) (dCons (dVar 0) (dCons (dSub (dVar 3) (dVar 4)) (dCons (dBin .Sub (dVar 2) (dCon (.int 1))) dNil))))) (dVar 3) (dVar 4)) (sCons (sRet (dCall gTuple (dCons (dVar 3) dNil))) sNil)) sNil) (sCons (sAsg (dCall (noX G_law_draw) (dCons (dVar 0) (dCons (dCon (.int 8)) dNil))) (gN 5)) (sCons (sIf (dT (dCmp .Eq (dVar 5) (dCon (.int 0)))) (sCons (sExpr (dPopAt (dVar 3) (dVar 4))) sNil) (sCons (sIf (dT (dCmp .Eq (dVar 5) (dCon (.int 1)))) (sCons (sExpr (dInsert (dVar 3) (dVar 4) (dSub (dVar 3) (dVar 4)))) sNil) (sCons (sIf (dT (dCmp .Eq (dVar 5) (dCon (.int 2)))) (sCons (sSetCut (dRev (dCut (dVar 3) (oSome (dVar 4)) (oSome (dBin .Add (dVar 4) (dCon (.int 2)))))) (dVar 3) (oSome (dVar 4)) (oSome (dBin .Add (dVar 4) (dCon (.int 2))))) sNil) (sCons (sIf (dT (dCmp .Eq (dVar 5) (dCon (.int 3)))) (sCons (sSetItem (dCall (noX G_law_thing) (dCons (dVar 0) (dCons (dCon (.int 2)) dNil))) (dVar 3) (dVar 4)) sNil) (sCons (sIf (dT (dCmp .Eq (dVar 5) (dCon (.int 4)))) (sCons (sAsg (dLst (dCons (dCon (.int 0)) (dCons (dCon (.int 1)) (dCons (dNeg (dCon (.int 1))) (dCons (dCon (.int 1000)) (dCons (dCon (.int 1001)) (dCons (dBin .Pow (dCon (.int 10)) (dCon (.int 6))) (dCons (dBin .Add (dBin .Pow (dCon (.int 10)) (dCon (.int 6))) (dCon (.int 1))) (dCons (dBin .Pow (dCon (.int 10)) (dCon (.int 9))) (dCons (dBin .Add (dBin .Pow (dCon (.int 10)) (dCon (.int 9))) (dCon (.int 1))) (dCons (dBin .Pow (dCon (.int 10)) (dCon (.int 12))) (dCons (dBin .Add (dBin .Pow (dCon (.int 10)) (dCon (.int 12))) (dCon (.int 1))) (dCons (dCon .non) (dCons (dCon (.bl true)) dNil)))))))))))))) (gN 6)) (sCons (sSetItem (dSub (dVar 6) (dCall (noX G_law_draw) (dCons (dVar 0) (dCons (dCon (.int 13)) dNil)))) (dVar 3) (dVar 4)) sNil)) (sCons (sIf (dAndT (dT (dCmp .Eq (dVar 5) (dCon (.int 5)))) (dT (dIsi .tuple (dSub (dVar 3) (dVar 4))))) (sCons (sSetItem (dCall gList (dCons (dSub (dVar 3) (dVar 4)) dNil)) (dVar 3) (dVar 4)) sNil) (sCons (sIf (dAndT (dT (dCmp .Eq (dVar 5) (dCon (.int 6)))) (dT (dIsi .str (dSub (dVar 3) (dVar 4))))) (sCons (sSetItem (dBin .Add (dSub (dVar 3) (dVar 4)) (dSub (dLst (dCons (dCon (.str "a")) (dCons (dCon (.str "A")) (dCons (dCon (.str " ")) (dCons (dCon (.str "bbbbbbbb")) dNil))))) (dCall (noX G_law_draw) (dCons (dVar 0) (dCons (dCon (.int 4)) dNil))))) (dVar 3) (dVar 4)) sNil) (sCons (sRet (dVar 3)) sNil)) sNil)) sNil)) sNil)) sNil)) sNil)) sNil)) (sCons (sRet (dCall gTuple (dCons (dVar 3) dNil))) sNil)))))))
def g_law_otherwise : Nat → List W → Sto → Res W
  | 0 => fun _ _ => .bad
  | n + 1 => fnD 7 (b_law_otherwise (g_law_otherwise n))
def G_law_otherwise : List W → Sto → Res W := g_law_otherwise 3
def b_law_is_name : MSt := (sCons (sIf (dOrT (dNotT (dT (dIsi .str (dVar 0)))) (dOrT (dT (dCmp .Lt (dCall gLen (dCons (dVar 0) dNil)) (dCon (.int 1)))) (dT (dCmp .Gt (dCall gLen (dCons (dVar 0) dNil)) (dCon (.int 8)))))) (sCons (sRet (dCon (.bl false))) sNil) sNil) (sCons (sRet (dCmp .Eq (dLc [1] (iSeq (dVar 0)) (gN 1) (dT (dCmp .NotIn (dVar 1) (dCon (.str "abcdefghijklmnopqrstuvwxyz")))) (dVar 1)) (dLst dNil))) sNil))
def G_law_is_name : List W → Sto → Res W := fnD 2 b_law_is_name
def b_law_named_rows : MSt := (sCons (sIf (dOrT (dNotT (dT (dIsi .tuple (dVar 0)))) (dOrT (dT (dCmp .Lt (dCall gLen (dCons (dVar 0) dNil)) (dCon (.int 1)))) (dT (dCmp .Gt (dCall gLen (dCons (dVar 0) dNil)) (dVar 2))))) (sCons (sRet (dCon (.bl false))) sNil) sNil) (sCons (sFor (iSeq (dVar 0)) (gN 3) (sCons (sIf (dOrT (dNotT (dT (dIsi .tuple (dVar 3)))) (dOrT (dT (dCmp .NotEq (dCall gLen (dCons (dVar 3) dNil)) (dVar 1))) (dNotT (dT (dCall (noX G_law_is_name) (dCons (dSub (dVar 3) (dCon (.int 0))) dNil)))))) (sCons (sRet (dCon (.bl false))) sNil) sNil) sNil)) (sCons (sAsg (dLc [3] (iSeq (dVar 0)) (gN 3) dYes (dSub (dVar 3) (dCon (.int 0)))) (gN 4)) (sCons (sRet (dCmp .Eq (dVar 4) (dSortSet (dVar 4)))) sNil))))
def G_law_named_rows : List W → Sto → Res W := fnD 5 b_law_named_rows
def b_law_within : MSt := (sCons (sRet (dAnd (dIsi .int (dVar 0)) (dAnd (dNot (dIsi .bool (dVar 0))) (dAnd (dCmp .LtE (dVar 1) (dVar 0)) (dCmp .LtE (dVar 0) (dVar 2)))))) sNil)
def G_law_within : List W → Sto → Res W := fnD 3 b_law_within
def b_law_is_articles : MSt := (sCons (sIf (dOrT (dNotT (dT (dIsi .tuple (dVar 0)))) (dT (dCmp .NotEq (dCall gLen (dCons (dVar 0) dNil)) (dCon (.int 3))))) (sCons (sRet (dCon (.bl false))) sNil) sNil) (sCons (sIf (dOrT (dNotT (dT (dCall (noX G_law_named_rows) (dCons (dSub (dVar 0) (dCon (.int 0))) (dCons (dCon (.int 3)) (dCons (dCon (.int 12)) dNil)))))) (dNotT (dT (dCall (noX G_law_named_rows) (dCons (dSub (dVar 0) (dCon (.int 1))) (dCons (dCon (.int 2)) (dCons (dCon (.int 6)) dNil))))))) (sCons (sRet (dCon (.bl false))) sNil) sNil) (sCons (sFor (iSeq (dSub (dVar 0) (dCon (.int 0)))) (gTp 3 (gsCons (gN 1) (gsCons (gN 2) (gsCons (gN 3) gsNil)))) (sCons (sIf (dOrT (dNotT (dT (dCall (noX G_law_within) (dCons (dVar 2) (dCons (dCon (.int 0)) (dCons (dBin .Pow (dCon (.int 10)) (dCon (.int 9))) dNil)))))) (dNotT (dT (dCall (noX G_law_within) (dCons (dVar 3) (dCons (dCon (.int 1)) (dCons (dCon (.int 1000)) dNil))))))) (sCons (sRet (dCon (.bl false))) sNil) sNil) sNil)) (sCons (sFor (iSeq (dSub (dVar 0) (dCon (.int 1)))) (gTp 2 (gsCons (gN 4) (gsCons (gN 5) gsNil))) (sCons (sIf (dNotT (dT (dCall (noX G_law_within) (dCons (dVar 5) (dCons (dCon (.int 1)) (dCons (dCon (.int 1000)) dNil)))))) (sCons (sRet (dCon (.bl false))) sNil) sNil) sNil)) (sCons (sRet (dCall (noX G_law_within) (dCons (dSub (dVar 0) (dCon (.int 2))) (dCons (dCon (.int 1)) (dCons (dCon (.int 1000)) dNil))))) sNil)))))
def G_law_is_articles : List W → Sto → Res W := fnD 6 b_law_is_articles
def b_law_wide : MSt := (sCons (sAsg (dLc [3] (iSeq (dCall (noX G_law_names) (dCons (dVar 0) (dCons (dBin .Add (dCon (.int 11)) (dCall (noX G_law_draw) (dCons (dVar 0) (dCons (dCon (.int 3)) dNil)))) dNil)))) (gN 3) dYes (dTup (dCons (dVar 3) (dCons (dBin .Sub (dBin .Pow (dCon (.int 10)) (dCon (.int 9))) (dCall (noX G_law_draw) (dCons (dVar 0) (dCons (dCon (.int 2)) dNil)))) (dCons (dCon (.int 1000)) dNil))))) (gN 1)) (sCons (sAsg (dLc [3] (iSeq (dCall (noX G_law_names) (dCons (dVar 0) (dCons (dBin .Add (dCon (.int 5)) (dCall (noX G_law_draw) (dCons (dVar 0) (dCons (dCon (.int 3)) dNil)))) dNil)))) (gN 3) dYes (dTup (dCons (dVar 3) (dCons (dCon (.int 1000)) dNil)))) (gN 2)) (sCons (sRet (dTup (dCons (dCall gTuple (dCons (dVar 1) dNil)) (dCons (dCall gTuple (dCons (dVar 2) dNil)) (dCons (dCon (.int 1000)) dNil))))) sNil)))
def G_law_wide : List W → Sto → Res W := fnD 4 b_law_wide
abbrev N_law : List Str := ["script", "k", "draws", "good", "things", "thing", "found"]
def b_law : MSt := (sCons (sFor (iRange1 (dCall gMax2 (dCons (dCon (.int 1)) (dCons (dCall gMin2 (dCons (dCon (.int 40)) (dCons (dCall gLen (dCons (dVar 0) dNil)) dNil))) dNil)))) (gN 1) (sCons (sAsg (dCall (noX G_law_draws) (dCons (dVar 0) (dCons (dVar 1) dNil))) (gN 2)) (sCons (sAsg (dCall (noX G_law_articles) (dCons (dVar 2) (dCons (dBin .Pow (dCon (.int 10)) (dCon (.int 9))) dNil))) (gN 3)) (sCons (sAsg (dLstC (dCons (dVar 3) (dCons (dCall (noX G_law_wide) (dCons (dVar 2) dNil)) (dCons (dFrz (dCall (noX G_law_otherwise) (dCons (dVar 2) (dCons (dVar 3) (dCons (dCon (.int 2)) dNil))))) (dCons (dCall (noX G_law_thing) (dCons (dVar 2) (dCons (dCon (.int 3)) dNil))) dNil))))) (gN 4)) (sCons (sExpr (dAppend' (dVar 4) (dFrz (dCall (noX G_law_otherwise) (dCons (dVar 2) (dCons (dFrz (dCall (noX G_law_otherwise) (dCons (dVar 2) (dCons (dVar 3) (dCons (dCon (.int 2)) dNil))))) (dCons (dCon (.int 2)) dNil))))))) (sCons (sExpr (dAppend' (dVar 4) (dTup (dCons (dRev (dSub (dVar 3) (dCon (.int 0)))) (dCons (dSub (dVar 3) (dCon (.int 1))) (dCons (dSub (dVar 3) (dCon (.int 2))) dNil)))))) (sFrz 4 (sCons (sFor (iSeq (dVar 4)) (gN 5) (sCons (sAsg (dCall (noX G_is_articles) (dCons (dVar 5) dNil)) (gN 6)) (sCons (sIf (dOrT (dNotT (dT (dIsi .bool (dVar 6)))) (dT (dCmp .NotEq (dVar 6) (dCall (noX G_law_is_articles) (dCons (dVar 5) dNil))))) (sCons (sRet (dCon (.bl false))) sNil) sNil) sNil))) (sCons (sIf (dT (dIsB true true (dCall (noX G_is_articles) (dCons (dVar 3) dNil)))) (sCons (sRet (dCon (.bl false))) sNil) sNil) sNil))))))))) (sCons (sRet (dCon (.bl true))) sNil))
def G_law : List W → Sto → Res W := fnD 7 b_law
theorem ge_law : G_law = fnD 7 b_law := rfl
end K01
namespace Z
open PySem PySem.Spec L2 ZX
open PyProof.Rows hiding St
section
variable {X : Cx} {e : Expr} {es : List Expr} {st : Stmt}
end
structure FunV (K : PySem.W.Frag) (x qual : Str) (st : Stmt) (dV : Value) (f : Addr) (fd : FuncData) : Prop where
  ex : ∃ (oc : Value) (od : Option Addr) (kV doc pm : Value) (an : Option Addr) (cdv ct : Value) (osl : Array (Option Value)),
    fd = PySem.W.fnOf x qual (defArgs st) (defBody st) (defScope st) dV kV doc pm an cdv ct ∧ K.lookup f = some ⟨oc, od, .func fd, osl⟩ ∧ PySem.W.codeIn K cdv qual = true
  kp : PySem.W.keepIn K (.ref f) = true
theorem FunV.of {K : PySem.W.Frag} {x qual : Str} {st : Stmt} {f : Addr} {fd : FuncData} (F : Fun K x qual st f fd) : FunV K x qual st .none f fd := ⟨F.ex, F.kp⟩
def spX (K : PySem.W.Frag) (np : Nat) (g : List W → Sto → Res W) : Sp := fun vs H Q E => vs.length = np ∧ ∃ Z io S ws, HRel K Z io S H ∧ WRels K Z io S H ws vs ∧
  match g ws S with
  | .ok w S' => ∀ io' H' v, Ext io S H io' S' H' → HRel K Z io' S' H' → WRel K Z io' S' H' w v → Q v H'
  | .exc x S' => ∀ io' H' e C, Ext io S H io' S' H' → HRel K Z io' S' H' → x.fld = [] → PySem.W.nsIn K mainGlobals x.cls = some (some (.ref C)) → E (.ref e) (some C) H'
  | .bad => False
section
variable {P : Program} {w : World} {K : PySem.W.Frag} {mg : Str → Option Value} {base : Heap}
end
structure HasFnX (P : Program) (w : World) (K : PySem.W.Frag) (mg : Str → Option Value) (base : Heap) (k : Nat) (x : Str) (ps : List Str) (dws : List W) (g : List W → Sto → Res W) : Prop where
  ex : ∃ f fd dvs ds, mg x = some (.ref f) ∧ PySem.W.keepIn K (.ref f) = true ∧ Binds K fd ps [] ∧ Binds K fd ps ds ∧ DfRel dws dvs ds ∧ FnOk P w K mg base (CXr P w) k f fd ps (spX K ps.length g)
theorem HasFnX.mono {P : Program} {w : World} {K : PySem.W.Frag} {mg : Str → Option Value} {base : Heap} {j k : Nat} {x : Str} {ps : List Str} {dws : List W} {g : List W → Sto → Res W} (h : HasFnX P w K mg base j x ps dws g) (hk : j ≤ k) : HasFnX P w K mg base k x ps dws g :=
  let ⟨f, fd, dvs, ds, a, b, c, c2, d, e⟩ := h.ex; ⟨f, fd, dvs, ds, a, b, c, c2, d, e.mono hk⟩
section
variable {X : Cx} {k : Nat} {f : Addr} {fd : FuncData} {ps : List Str} {x : Str} {p pos : Pos} {e : Expr} {es : List Expr} {mas : MAs} {g : List W → Sto → Res W} {ds : List Value} {dvs : List V} {dws : List W}
end
end Z
namespace Z
open PySem PySem.Spec L2 ZX
open PyProof.Rows hiding St
section
variable {X : Cx} {a : Expr} {ma : M} {x : Str} {p p2 pos : Pos} {tab : List (Str × Bool)}
end
theorem HdOk.ext {K : PySem.W.Frag} {A : Around} {Z : ZS} {io io' : Nat → Addr} {S S' : Sto} {H H' : Hp} (h : HdOk A H) (r : HRel K Z io S H) (x : Ext io S H io' S' H') : HdOk A H' := by
  rcases h with h | ⟨e, C, d, a0, tb, h1, h2⟩
  · exact .inl h
  · exact .inr ⟨e, C, d, a0, tb, h1, x.k1 r _ _ h2 trivial⟩
section
variable {X : Cx}
end
section
variable {P : Program} {w : World} {K : PySem.W.Frag} {mg : Str → Option Value} {base : Heap}
end
structure HasFnH (P : Program) (w : World) (K : PySem.W.Frag) (mg : Str → Option Value) (base : Heap) (k : Nat) (x : Str) (ps : List Str) (g : List W → Sto → Res W) : Prop where
  ex : ∃ f fd, mg x = some (.ref f) ∧ PySem.W.keepIn K (.ref f) = true ∧ Binds K fd ps [] ∧ FnOkH P w K mg base k f fd ps (spOf K ps.length g)
/-- as any def, where nothing is handled -/
theorem HasFnH.fn {P : Program} {w : World} {K : PySem.W.Frag} {mg : Str → Option Value} {base : Heap} {k : Nat} {x : Str} {ps : List Str} {g : List W → Sto → Res W} (h : HasFnH P w K mg base k x ps g) : HasFn P w K mg base k x ps g := by
  obtain ⟨f, fd, a, b, c, d⟩ := h.ex
  exact ⟨f, fd, a, b, c, ⟨d.len, fun A outer s H args us vs Q E hr he hb hv hs => d.run A outer s H args us vs Q E (RoomH.of hr) (.inl hr.hd) he hb hv hs⟩⟩
section
variable {X : Cx} {k n : Nat} {ps : List Str} {x : Str} {p pos : Pos} {e : Expr} {es : List Expr} {mas : MAs} {g : List W → Sto → Res W} {st : Stmt} {rest : List Stmt} {m m2 : MSt} {me : M}
end
end Z
namespace Z
open PySem PySem.Spec L2 ZX
open PyProof.Rows hiding St
section
variable {X : Cx} {x : Str} {e : Expr} {es : List Expr} {mas : MAs} {a : Expr} {ma : M} {tab : List (Str × Bool)} {p p2 pos : Pos}
abbrev IsxE (K : PySem.W.Frag) (mg : Str → Option Value) (x : Str) (tab : List (Str × Bool)) : Prop := ∃ W, mg x = some (.ref W) ∧ ∀ q ∈ tab, ∃ C, PySem.W.nsIn K mainGlobals q.1 = some (some (.ref C)) ∧ KX K C ∧ PySem.W.kitOne K (.ref C) (.ref W) = some q.2
abbrev IsxTE (K : PySem.W.Frag) (mg : Str → Option Value) (x : Str) (T : String) (tab : List (Str × Bool)) : Prop := mg x = none ∧ ∀ q ∈ tab, ∃ C, PySem.W.nsIn K mainGlobals q.1 = some (some (.ref C)) ∧ KX K C ∧ PySem.W.kitOne K (.ref C) (.type T) = some q.2
theorem bt_ValueError : bootBuiltins "ValueError" = some (.type "ValueError") := by decide +kernel
end
end Z
namespace ZZ
open PySem PySem.Spec PyProof.Rows
def SS (h : Heap) (it l : Addr) (items : Array Value) (k : Nat) : Prop := (h.IsListIter it l k ∧ h.IsList l items) ∨ (IsTupIter h it l k ∧ IsTup h l items)
section
variable {prog : Program} {w : World} {A : Around} {E : Value → Shared → Prop} {s : Shared} {it l : Addr} {items : Array Value} {k : Nat}
theorem SS.ext {h h' : Heap} {b : Addr} (q : SS h it l items k) (e : Heap.ExtBut b h h') (h1 : it ≠ b) (h2 : l ≠ b) : SS h' it l items k := by
  rcases q with ⟨a, c⟩ | ⟨a, c⟩
  · exact .inl ⟨a.extBut e h1, c.extBut e h2⟩
  · exact .inr ⟨a.extBut e h1, c.extBut e h2⟩
theorem SS.at {h h' : Heap} (q : SS h it l items k) (k1 : ∀ o, h.get? it = some o → h'.get? it = some o) (k2 : ∀ o, h.get? l = some o → h'.get? l = some o) : SS h' it l items k := by
  rcases q with ⟨⟨o, a1, a2⟩, ⟨p, c1, c2⟩⟩ | ⟨⟨o, a1, a2⟩, ⟨p, c1, c2⟩⟩
  · exact .inl ⟨⟨o, k1 o a1, a2⟩, ⟨p, k2 p c1, c2⟩⟩
  · exact .inr ⟨⟨o, k1 o a1, a2⟩, ⟨p, k2 p c1, c2⟩⟩
theorem SS.lt {h : Heap} (q : SS h it l items k) : it < h.objs.size := by
  rcases q with ⟨⟨o, a1, a2⟩, _⟩ | ⟨⟨o, a1, a2⟩, _⟩ <;> exact Heap.lt_size a1
theorem SS.obj {h : Heap} (q : SS h it l items k) : ∃ o, h.get? it = some o ∧ ∀ v, o.data ≠ .cell v := by
  rcases q with ⟨⟨o, a1, a2, d⟩, _⟩ | ⟨⟨o, a1, a2, d⟩, _⟩ <;> exact ⟨o, a1, fun v z => by rw [d] at z; cases z⟩
end
section
variable {prog : Program} {w : World} {A : Around} {E : Value → Shared → Prop} {s : Shared} {z TI TO i1 i2 l1 l2 : Addr} {k1 k2 : Nat} {xs ys : Array Value} {a b : Value}
end
end ZZ
namespace ZZ
open PySem PySem.Spec PyProof.Rows
section
variable {prog : Program} {w : World} {A : Around} {E : Value → Shared → Prop} {s : Shared}
end
end ZZ
namespace L2
open PySem PySem.Spec PyProof.Rows ZZ
end L2
namespace Z
open PySem PySem.Spec L2
open PyProof.Rows hiding St
section
variable {X : Cx} {K : PySem.W.Frag} {Z : ZS} {io : Nat → Addr} {S : Sto} {H : Hp}
end
section
variable {X : Cx}
end
end Z
namespace Z
open PySem PySem.Spec L2
open PyProof.Rows hiding St
section
variable {X : Cx} {pos : Pos}
end
section
variable {X : Cx} {o i : Expr} {mo mi : M} {pos : Pos}
end
section
variable {prog : Program} {w : World} {A : Around} {E : Value → Shared → Prop} {s : Shared} {a : Addr} {R : List Str → Value → Prop} {D : List (Str × List Str)} {k : Str} {tk : Tok}
end
end Z
namespace Z
open PySem PySem.Spec L2
open PyProof.Rows hiding St
section
variable {X : Cx} {e : Expr} {me : M} {x : Str} {p pos : Pos} {D : List (Str × List Str)}
end
end Z
namespace Z
open PySem PySem.Spec L2
open PyProof.Rows hiding St
section
variable {X : Cx} {pos : Pos}
end
section
variable {X : Cx}
/-- a + b, two lists, as a cell -/
def dCatC (a b : M) : M := fun t S => (a t S).bind fun x S1 => (b t S1).bind fun y S2 => match lstOfM S2 x, lstOfM S2 y with
  | some xs, some ys => if xs.length + ys.length ≤ sizeLine then .ok (.ref S2.length) (S2 ++ [.lst (xs ++ ys)]) else .bad
  | _, _ => .bad
theorem me_catC {a b : Expr} {ma mb : M} {pos : Pos} (ha : ME X a ma) (hb : ME X b mb) : ME X (.BinOp a .Add b pos) (dCatC ma mb) := by
  refine ⟨fun Z io S H t σ Q hr sr p => PEw (pe_op op_w pe_w pe_w) ?_⟩
  refine ha.run Z io S H t σ _ hr sr (Post.bind p fun io1 S1 H1 w v x1 hr1 rw1 p1 => ?_)
  refine hb.run Z io1 S1 H1 t σ _ hr1 (sr.ext hr x1) (Post.bind p1 fun io2 S2 H2 w2 v2 x2 hr2 rw2 p2 => ?_)
  have rx := rw1.ext hr1 x2
  split at p2
  · rename_i xs ys e1 e2
    split at p2
    · rename_i hz
      obtain ⟨a, vs, rfl, h1, q1⟩ := lst_mut hr2 rx e1
      obtain ⟨b, us, rfl, h2, q2⟩ := lst_mut hr2 rw2 e2
      refine OPw op_cat ⟨a, b, vs, us, rfl, rfl, h1, h2, by rw [← q1.length, ← q2.length]; exact hz, fun pa hp => ?_⟩
      have hw := WRel.ref (K := X.K) (Z := Z) (io := ioPush io2 S2.length pa) (S := S2 ++ [.lst (xs ++ ys)]) (H := upd H2 pa (.lst (vs ++ us))) (n := S2.length) (by simp)
      rw [ioPush_at] at hw
      exact p2 _ _ _ (Ext.cell hp) (hr2.cellNew hp (q1.append q2)) hw
    · exact p2.elim
  · exact p2.elim
end
end Z
namespace Z
open PySem PySem.Spec L2 ZX
open PyProof.Rows hiding St
section
variable {K : PySem.W.Frag} {Z : ZS} {io : Nat → Addr} {S : Sto} {H H' : Hp}
theorem Ext.grow (g : ∀ a o, H a = some o → H' a = some o) : Ext io S H io S H' := ⟨Nat.le_refl _, fun _ _ => rfl, fun a u h n => ⟨g a u h, n⟩⟩
theorem HRel.grow (r : HRel K Z io S H) (g : ∀ a o, H a = some o → H' a = some o) : HRel K Z io S H' :=
  ⟨fun n c e => (r.cells n c e).to (fun _ u h => g _ u h) ((Ext.grow g).k1 r) (Ext.grow g).k2, r.inj, fun a z => let ⟨o, h⟩ := r.zd a z; ⟨o, g a o h⟩, r.zc⟩
end
def dMkX (c : Str) (as : MAs) : M := fun t S => (as t S).bind fun ws S1 => match allD ws with | some ds => if ds.length ≤ sizeLine then .ok (.d (.exn c ds [] [])) S1 else .bad | none => .bad
def dMkI (c txt f : Str) (as : MAs) : M := fun t S => (as t S).bind fun ws S1 => match allD ws with | some [d] => .ok (.d (.exn c [.str txt] [f] [d])) S1 | _ => .bad
abbrev MkE (K : PySem.W.Frag) (mg : Str → Option Value) (x : Str) : Prop := ∃ C, OwnX K mg x C ∧ PySem.W.keepIn K (.ref C) = true ∧ PySem.W.nsIn K mainGlobals x = some (some (.ref C))
/-- what an __init__ of one argument does: the text, then the one attribute -/
def spI (C : Addr) (f txt : Str) : Sp := fun vs H Q E => ∃ a v u, vs = [.ref a, v] ∧ H a = some (XU a (exO (.ref C) none (.ref u) .none)) ∧ ∀ t dx, H t = none → H dx = none → t ≠ dx → t ≠ a → dx ≠ a →
  Q .non (upd (upd (upd (upd H t (.tup [.str txt])) a (XU a (exO (.ref C) none (.ref t) .none))) dx (.xd [(f, v)])) a (XU a (exO (.ref C) (some dx) (.ref t) .none)))
structure HasI (P : Program) (w : World) (K : PySem.W.Frag) (mg : Str → Option Value) (base : Heap) (k : Nat) (x f txt : Str) : Prop where
  ex : ∃ C fI fd p q, OwnI K mg x C fI ∧ PySem.W.nsIn K mainGlobals x = some (some (.ref C)) ∧ Binds K fd [p, q] [] ∧ FnOk P w K mg base CX0 k fI fd [p, q] (spI C f txt)
section
variable {X : Cx} {x : Str} {p pos : Pos} {e : Expr} {es : List Expr} {mas : MAs}
theorem me_mkX (h : MkE X.K X.mg x) (hg : Gl X x) (ha : MA X (e :: es) mas) (hdb : (x == ("__debug__" : Str)) = false := by decide)
    (he : starEach (e :: es) X.env = (false, eval e X.env) :: starEach es X.env := by rfl) (hpl : (backTo pos (starEach es X.env)).any (·.1) = false := by rfl) : ME X (.Call (.Name x p) (e :: es) [] pos) (dMkX x mas) := by
  obtain ⟨C, O, kp, hC⟩ := h
  refine ⟨fun Z io S H t σ Q hr sr po => PEw (pe_mkX O kp hg pa_w hdb he hpl) ?_⟩
  refine ha.run Z io S H t σ _ hr sr (Post.bind po fun io1 S1 H1 w v x1 hr1 rw1 p1 => ?_)
  split at p1
  · rename_i ds e
    split at p1
    · rename_i hz
      have q := allD_rel rw1 e
      refine ⟨by rw [← q.length]; exact hz, fun a u na nu hua => ?_⟩
      have g : ∀ b o, H1 b = some o → upd (upd H1 u (.tup v)) a (XF (exO (.ref C) none (.ref u) .none)) b = some o := fun b o hb => by rw [upd_ne (ne_of_none hb na), upd_ne (ne_of_none hb nu)]; exact hb
      exact p1 io1 _ _ (Ext.grow g) (hr1.grow g) (.d (.exn hC upd_same (SqT.of (by rw [upd_ne hua, upd_same])) (q.ext hr1 (Ext.grow g)) (.inl ⟨rfl, rfl, rfl⟩) .nil))
    · exact p1.elim
  · exact p1.elim
theorem me_mkI {k : Nat} {f txt : Str} (h : HasI X.prog X.w X.K X.mg X.base k x f txt) (hr0 : Room (k + 1) X.A) (hg : Gl X x) (ha : MA X (e :: es) mas) (hdb : (x == ("__debug__" : Str)) = false := by decide)
    (he : starEach (e :: es) X.env = (false, eval e X.env) :: starEach es X.env := by rfl) (hpl : (backTo pos (starEach es X.env)).any (·.1) = false := by rfl) : ME X (.Call (.Name x p) (e :: es) [] pos) (dMkI x txt f mas) := by
  obtain ⟨C, fI, fd, p1, q1, O, hC, hb, F⟩ := h.ex
  refine ⟨fun Z io S H t σ Q hr sr po => PEw (pe_mkI O F hr0 hb hg pa_w hdb he hpl) ?_⟩
  refine ha.run Z io S H t σ _ hr sr (Post.bind po fun io1 S1 H1 w v x1 hr1 rw1 p1 => ?_)
  split at p1
  · rename_i d e
    have q := allD_rel rw1 e
    cases q with
    | cons q qn =>
      cases qn
      rename_i v1
      refine ⟨by show 1 ≤ sizeLine; decide, fun a u na nu hua => ⟨a, v1, u, rfl, upd_same, fun t dx nt nd htd hta hda => ⟨rfl, _, upd_same, ?_⟩⟩⟩
      have ft : ∀ b, b ≠ a → b ≠ u → upd (upd H1 u (.tup [v1])) a (XU a (exO (.ref C) none (.ref u) .none)) b = H1 b := fun b h1 h2 => by rw [upd_ne h1, upd_ne h2]
      have htu : t ≠ u := fun z => by rw [z, upd_ne hua, upd_same] at nt; cases nt
      have hdu : dx ≠ u := fun z => by rw [z, upd_ne hua, upd_same] at nd; cases nd
      rw [ft t hta htu] at nt
      rw [ft dx hda hdu] at nd
      generalize hH : upd (upd (upd (upd (upd (upd (upd H1 u (.tup [v1])) a (XU a (exO (.ref C) none (.ref u) .none))) t (.tup [.str txt])) a (XU a (exO (.ref C) none (.ref t) .none))) dx (.xd [(f, v1)])) a (XU a (exO (.ref C) (some dx) (.ref t) .none))) a (XF (exO (.ref C) (some dx) (.ref t) .none)) = H9
      have g : ∀ b o, H1 b = some o → H9 b = some o := fun b o hb => by
        have h1 := ne_of_none hb na
        rw [← hH, upd_ne h1, upd_ne h1, upd_ne (ne_of_none hb nd), upd_ne h1, upd_ne (ne_of_none hb nt), upd_ne h1, upd_ne (ne_of_none hb nu)]; exact hb
      have ha9 : H9 a = some (XF (exO (.ref C) (some dx) (.ref t) .none)) := by rw [← hH]; exact upd_same
      have ht9 : H9 t = some (.tup [.str txt]) := by rw [← hH, upd_ne hta, upd_ne hta, upd_ne htd, upd_ne hta]; exact upd_same
      have hd9 : H9 dx = some (.xd [(f, v1)]) := by rw [← hH, upd_ne hda, upd_ne hda]; exact upd_same
      exact p1 io1 _ _ (Ext.grow g) (hr1.grow g) (.d (.exn hC ha9 (SqT.of ht9) (.cons (.str _) .nil) (show XDict H9 (some dx) [f] [v1] from .inr ⟨dx, rfl, hd9, rfl⟩) (.cons (q.ext hr1 (Ext.grow g)) .nil)))
  · exact p1.elim
end
section
variable {K : PySem.W.Frag} {x D : Addr} {ox : Obj}
theorem kitx_exc2 {dx : Addr} (Z : KX K D) (no : PySem.W.notCls ox = true) (hcl : ox.cls = .ref D) (hd : ox.dict = some dx) : PySem.W.KitX K (.ref x) (.ref D) (fun h => h.get? x = some ox ∧ ∃ od, h.get? dx = some od) where
  ty := fun M h X p => by
    obtain ⟨p, od, q⟩ := p
    exact (PySem.W.InstAt.mk (od := some od) p hcl no (by rw [hd]; exact q)).type
  it := fun _ _ X _ => by
    obtain ⟨cd, hc⟩ := Option.isSome_iff_exists.mp Z.hc
    unfold PySem.W.clsIn at hc
    split at hc
    · rename_i ho
      intro A' Q' E' s' k q
      unfold isType loadHead
      exact wpAny_bind (wpAny_loadPart (k _ _ (X _ _ ho)) (wpAny_pure q))
    · cases hc
  ne := fun h tp dd its n sl X htp => by
    obtain ⟨cd, hc⟩ := Option.isSome_iff_exists.mp Z.hc
    refine Bool.eq_false_iff.mpr fun q => ?_
    obtain rfl : D = tp := Value.ref.inj (beq_iff_eq.mp q)
    unfold PySem.W.clsIn at hc
    split at hc
    · rename_i ho
      have z := (X _ _ ho).symm.trans htp
      cases z
    · cases hc
  ca := fun X p k => by
    obtain ⟨p, od, q⟩ := p
    exact exc_class X (PySem.W.InstAt.mk (od := some od) p hcl no (by rw [hd]; exact q)) Z.hga Z.hk Z.hmB Z.hm Z.find k
end
def isyD (tab : List (Str × Bool)) (w : W) (S1 : Sto) : Res W := match w with
  | .d (.exn c _ _ _) => (match tab.lookup c with | some b => .ok (.d (.bl b)) S1 | none => .bad)
  | _ => .bad
def dIsy (tab : List (Str × Bool)) (a : M) : M := fun t S => (a t S).bind fun w S1 => isyD tab w S1
section
variable {X : Cx} {a : Expr} {ma : M} {x : Str} {p p2 pos : Pos} {tab : List (Str × Bool)}
theorem isy_run {T : Value} {vT : V} (hT : RelV vT T) (hu : ∀ T', RelV vT T' → T' = T) (htab : ∀ q ∈ tab, ∃ C, PySem.W.nsIn X.K mainGlobals q.1 = some (some (.ref C)) ∧ KX X.K C ∧ PySem.W.kitOne X.K (.ref C) T = some q.2) {na : Addr → Prop} {H : Hp} {σ : St} {c : Str} {xs ys : List D} {fs : List Str} {v : V} {b : Bool} {Q : VK}
    (r : DRel X.K H na (.exn c xs fs ys) v) (hb : tab.lookup c = some b) (q : Q (.bl b) H) : wC X (.builtin "isinstance") [v, vT] H Q := by
  intro pins s σ us I rs
  obtain ⟨u, w', rfl, r1, r2⟩ := vals2 rs
  obtain rfl := hu _ r2
  cases r with
  | exn hC hH hu' hv hd hy =>
    obtain ⟨C, h1, h2, h3⟩ := htab _ (PySem.mem_of_lookup hb)
    dsimp only at h1 h3
    rw [hC] at h1
    cases h1
    cases (show u = Value.ref _ from r1)
    have ho := (I.hok _ _ hH).1
    rcases hd with ⟨rfl, _, _⟩ | ⟨dx, rfl, hx, _⟩
    · exact PySem.W.kia_one (kitx_exc h2 rfl rfl rfl) I.kIn ho h3 (fun z => nomatch z) fun tk => ⟨.bl _, H, I.tok _, rfl, q⟩
    · exact PySem.W.kia_one (kitx_exc2 (dx := dx) h2 rfl rfl rfl) I.kIn ⟨ho, obj_there (I.hok _ _ hx)⟩ h3 (fun z => nomatch z) fun tk => ⟨.bl _, H, I.tok _, rfl, q⟩
theorem isy_post {io1 : Nat → Addr} {S1 : Sto} {H1 : Hp} {Z : ZS} {σ : St} {w : W} {v vT : V} {T : Value} {Q : VK} (hT : RelV vT T) (hu : ∀ T', RelV vT T' → T' = T)
    (htab : ∀ q ∈ tab, ∃ C, PySem.W.nsIn X.K mainGlobals q.1 = some (some (.ref C)) ∧ KX X.K C ∧ PySem.W.kitOne X.K (.ref C) T = some q.2) (hr1 : HRel X.K Z io1 S1 H1) (rw1 : WRel X.K Z io1 S1 H1 w v)
    (p1 : Post X Z (RW X Z) io1 S1 H1 σ (isyD tab w S1) Q) : wC X (.builtin "isinstance") [v, vT] H1 Q := by
  unfold isyD at p1
  split at p1
  · rename_i c xs fs ys
    cases hb : tab.lookup c with
    | none => rw [hb] at p1; exact p1.elim
    | some b =>
      rw [hb] at p1
      cases rw1 with
      | d r => exact isy_run hT hu htab (σ := σ) r hb (p1.ok hr1 (.d (.bl b)))
  · exact p1.elim
theorem me_isyE (h : IsxE X.K X.mg x tab) (hg0 : Gl X "isinstance") (hm0 : X.mg "isinstance" = none) (hg : Gl X x) (ha : ME X a ma) (hd : (x == ("__debug__" : Str)) = false := by decide)
    (hs : starEach [a, .Name x p2] X.env = (false, eval a X.env) :: starEach [.Name x p2] X.env := by rfl) (hs2 : starEach [.Name x p2] X.env = (false, eval (.Name x p2) X.env) :: starEach [] X.env := by rfl) (hpl : (backTo pos (starEach [.Name x p2] X.env)).any (·.1) = false := by rfl) :
    ME X (.Call (.Name "isinstance" p) [a, .Name x p2] [] pos) (dIsy tab ma) := by
  obtain ⟨W, hm, htab⟩ := h
  refine ⟨fun Z io S H t σ Q hr sr po => PEw (pe_callB call_w hg0 hm0 boot_isi (pa_cons pe_w (pa_cons (pe_glob (v := .ref W) hg hm rfl hd) pa_nil hs2) hs) (by decide) (by decide) hs hpl) ?_⟩
  exact ha.run Z io S H t σ _ hr sr (Post.bind po fun io1 S1 H1 w v x1 hr1 rw1 p1 => isy_post (T := .ref W) (vT := .ref W) rfl (fun _ z => z) htab hr1 rw1 p1)
theorem me_isyTE {T : String} (h : IsxTE X.K X.mg x T tab) (hv : bootBuiltins x = some (.type T)) (hg0 : Gl X "isinstance") (hm0 : X.mg "isinstance" = none) (hg : Gl X x) (ha : ME X a ma) (hn : x ≠ "__name__" := by decide) (hd : (x == ("__debug__" : Str)) = false := by decide)
    (hs : starEach [a, .Name x p2] X.env = (false, eval a X.env) :: starEach [.Name x p2] X.env := by rfl) (hs2 : starEach [.Name x p2] X.env = (false, eval (.Name x p2) X.env) :: starEach [] X.env := by rfl) (hpl : (backTo pos (starEach [.Name x p2] X.env)).any (·.1) = false := by rfl) :
    ME X (.Call (.Name "isinstance" p) [a, .Name x p2] [] pos) (dIsy tab ma) := by
  refine ⟨fun Z io S H t σ Q hr sr po => PEw (pe_callB call_w hg0 hm0 boot_isi (pa_cons pe_w (pa_cons (pe_bltn (v := .ty T) hg h.1 hv rfl hn hd) pa_nil hs2) hs) (by decide) (by decide) hs hpl) ?_⟩
  exact ha.run Z io S H t σ _ hr sr (Post.bind po fun io1 S1 H1 w v x1 hr1 rw1 p1 => isy_post (T := .type T) (vT := .ty T) rfl (fun _ z => z) h.2 hr1 rw1 p1)
def dFld (cs : List Str) (f : Str) (a : M) : M := fun t S => (a t S).bind fun w S1 => match w with
  | .d (.exn c _ fs ys) => if cs.contains c = true then (match (fs.zip ys).lookup f with | some y => .ok (.d y) S1 | none => .bad) else .bad
  | _ => .bad
abbrev FldE (K : PySem.W.Frag) (f : Str) (cs : List Str) : Prop := ∀ c ∈ cs, ∃ C, PySem.W.nsIn K mainGlobals c = some (some (.ref C)) ∧ KX K C ∧ PySem.W.findIn K (.ref C) f = some none ∧ PySem.W.hasDictIn K C = true
theorem zip_look {K : PySem.W.Frag} {H : Hp} {na : Addr → Prop} {f : Str} {y : D} : ∀ {fs : List Str} {ys : List D} {us : List V}, DRels K H na ys us → (fs.zip ys).lookup f = some y → ∃ v, (fs.zip us).lookup f = some v ∧ DRel K H na y v
  | [], _, _, _, e => by simp at e
  | g :: fs, _, _, .nil, e => by simp at e
  | g :: fs, d :: ds, v :: vs, .cons r t, e => by
    rw [List.zip_cons_cons, List.lookup_cons] at e ⊢
    cases q : (f == g) with
    | true => rw [q] at e; cases e; exact ⟨v, rfl, r⟩
    | false => rw [q] at e; exact zip_look t e
theorem me_fld {cs : List Str} {f : Str} (h : FldE X.K f cs) (ha : ME X a ma) (hb : attributeBase a f X.env (eval a X.env) = eval a X.env := by rfl) : ME X (.Attribute a f pos) (dFld cs f ma) := by
  refine ⟨fun Z io S H t σ Q hr sr po pins s I => attr_of hb ?_⟩
  refine thn (ha.run Z io S H t σ (fun v H1 => ∀ s1, Inv X pins σ H1 s1 → ∀ u, RelV v u → wpAny (model X.prog X.w) X.A (getAttr u f true) (EP X pins σ Q) X.xe s1) hr sr (Post.bind po fun io1 S1 H1 w v x1 hr1 rw1 p1 => ?_) pins s I) fun u s1 ⟨v, H1, I1, rv, q⟩ => q s1 I1 u rv
  split at p1
  · rename_i c xs fs ys
    split at p1
    · rename_i hc
      split at p1
      · rename_i y hy
        cases rw1 with
        | d r =>
          cases r with
          | exn hC hH hu' hv hd hys =>
            obtain ⟨C, h1, h2, h3, h4⟩ := h c (List.contains_iff_mem.mp hc)
            rw [hC] at h1
            cases h1
            obtain ⟨v', hl, rv⟩ := zip_look hys hy
            rcases hd with ⟨rfl, rfl, _⟩ | ⟨dx, rfl, hx, _⟩
            · simp at hl
            · intro s1 I1 u ru
              cases (show u = Value.ref _ from ru)
              exact getx_ok I1 hH hx h2 h3 h4 hl fun u' s2 I2 ru' => ⟨v', H1, I2, ru', p1.ok hr1 (.d rv)⟩
      · exact p1.elim
    · exact p1.elim
  · exact p1.elim
def gStrX (cs : List Str) : List W → Sto → Res W
  | [.d (.exn c [.str y] _ _)], S => if cs.contains c = true then .ok (.d (.str y)) S else .bad
  | _, _ => .bad
abbrev SrE (K : PySem.W.Frag) (cs : List Str) : Prop := ∀ c ∈ cs, ∃ C, PySem.W.nsIn K mainGlobals c = some (some (.ref C)) ∧ SrX K C
theorem cd_strX {cs : List Str} (c : Cok X) (h : SrE X.K cs) : CD X (.type "str") (gStrX cs) := by
  refine ⟨fun Z io S H σ ws vs Q hr rs po => ?_⟩
  unfold gStrX at po
  split at po
  · rename_i cc y fs ys
    split at po
    · rename_i hc
      cases rs with
      | cons r0 rn =>
        cases rn
        cases r0 with
        | d r =>
          cases r with
          | exn hC hH hu' hv hd hys =>
            obtain ⟨C, h1, h2⟩ := h cc (List.contains_iff_mem.mp hc)
            rw [hC] at h1
            cases h1
            intro pins s σ' us I ru
            cases ru with
            | cons ra rb =>
              cases rb
              cases (show _ = Value.ref _ from ra)
              cases hv with
              | cons q1 q2 =>
                cases q2
                cases q1
                obtain ⟨its, rv, ht, hz⟩ := I.tuple hu'
                cases rv with
                | cons rs0 rs1 =>
                  cases rs1
                  obtain ⟨tk, rfl⟩ := rs0
                  exact str_own (by have := c.un; show X.A.units + 1 + 1 < cLine; omega) h2 I.kIn (I.hok _ _ hH).1 ht ⟨.str y, H, I, ⟨tk, rfl⟩, po.ok hr (.d (.str y))⟩
    · exact po.elim
  · exact po.elim
end
end Z
namespace K96
open PySem PySem.Spec L2 Z ZX K01
open PyProof.Rows hiding St
abbrev N_law_kind_of : List Str := ["e", "some", "words", "k"]
def b_law_kind_of : MSt := (sCons (sAsg (dLst (dCons (dIsy [("Faulty", true), ("NoArticles", false), ("NoMan", false), ("NoPage", false), ("NoPages", false), ("NoRank", false), ("NoRow", false), ("NoSum", false), ("NoText", false), ("NotThere", false), ("NothingLeft", false), ("TooMany", false), ("TooMuch", false), ("Twice", false)] (dVar 0)) (dCons (dIsy [("Faulty", false), ("NoArticles", true), ("NoMan", false), ("NoPage", false), ("NoPages", false), ("NoRank", false), ("NoRow", false), ("NoSum", false), ("NoText", false), ("NotThere", false), ("NothingLeft", false), ("TooMany", false), ("TooMuch", false), ("Twice", false)] (dVar 0)) (dCons (dIsy [("Faulty", false), ("NoArticles", false), ("NoMan", true), ("NoPage", false), ("NoPages", false), ("NoRank", false), ("NoRow", false), ("NoSum", false), ("NoText", false), ("NotThere", false), ("NothingLeft", false), ("TooMany", false), ("TooMuch", false), ("Twice", false)] (dVar 0)) (dCons (dIsy [("Faulty", false), ("NoArticles", false), ("NoMan", false), ("NoPage", true), ("NoPages", false), ("NoRank", false), ("NoRow", false), ("NoSum", false), ("NoText", false), ("NotThere", false), ("NothingLeft", false), ("TooMany", false), ("TooMuch", false), ("Twice", false)] (dVar 0)) dNil))))) (gN 1)) (sCons (sAsg (dBin .Add (dVar 1) (dLst (dCons (dIsy [("Faulty", false), ("NoArticles", false), ("NoMan", false), ("NoPage", false), ("NoPages", true), ("NoRank", false), ("NoRow", false), ("NoSum", false), ("NoText", false), ("NotThere", false), ("NothingLeft", false), ("TooMany", false), ("TooMuch", false), ("Twice", false)] (dVar 0)) (dCons (dIsy [("Faulty", false), ("NoArticles", false), ("NoMan", false), ("NoPage", false), ("NoPages", false), ("NoRank", true), ("NoRow", false), ("NoSum", false), ("NoText", false), ("NotThere", false), ("NothingLeft", false), ("TooMany", false), ("TooMuch", false), ("Twice", false)] (dVar 0)) (dCons (dIsy [("Faulty", false), ("NoArticles", false), ("NoMan", false), ("NoPage", false), ("NoPages", false), ("NoRank", false), ("NoRow", true), ("NoSum", false), ("NoText", false), ("NotThere", false), ("NothingLeft", false), ("TooMany", false), ("TooMuch", false), ("Twice", false)] (dVar 0)) (dCons (dIsy [("Faulty", false), ("NoArticles", false), ("NoMan", false), ("NoPage", false), ("NoPages", false), ("NoRank", false), ("NoRow", false), ("NoSum", true), ("NoText", false), ("NotThere", false), ("NothingLeft", false), ("TooMany", false), ("TooMuch", false), ("Twice", false)] (dVar 0)) dNil)))))) (gN 1)) (sCons (sAsg (dBin .Add (dVar 1) (dLst (dCons (dIsy [("Faulty", false), ("NoArticles", false), ("NoMan", false), ("NoPage", false), ("NoPages", false), ("NoRank", false), ("NoRow", false), ("NoSum", false), ("NoText", true), ("NotThere", false), ("NothingLeft", false), ("TooMany", false), ("TooMuch", false), ("Twice", false)] (dVar 0)) (dCons (dIsy [("Faulty", false), ("NoArticles", false), ("NoMan", false), ("NoPage", false), ("NoPages", false), ("NoRank", false), ("NoRow", false), ("NoSum", false), ("NoText", false), ("NotThere", true), ("NothingLeft", false), ("TooMany", false), ("TooMuch", false), ("Twice", false)] (dVar 0)) (dCons (dIsy [("Faulty", false), ("NoArticles", false), ("NoMan", false), ("NoPage", false), ("NoPages", false), ("NoRank", false), ("NoRow", false), ("NoSum", false), ("NoText", false), ("NotThere", false), ("NothingLeft", true), ("TooMany", false), ("TooMuch", false), ("Twice", false)] (dVar 0)) (dCons (dIsy [("Faulty", false), ("NoArticles", false), ("NoMan", false), ("NoPage", false), ("NoPages", false), ("NoRank", false), ("NoRow", false), ("NoSum", false), ("NoText", false), ("NotThere", false), ("NothingLeft", false), ("TooMany", true), ("TooMuch", false), ("Twice", false)] (dVar 0)) dNil)))))) (gN 1)) (sCons (sAsg (dBin .Add (dVar 1) (dLst (dCons (dIsy [("Faulty", false), ("NoArticles", false), ("NoMan", false), ("NoPage", false), ("NoPages", false), ("NoRank", false), ("NoRow", false), ("NoSum", false), ("NoText", false), ("NotThere", false), ("NothingLeft", false), ("TooMany", false), ("TooMuch", true), ("Twice", false)] (dVar 0)) (dCons (dIsy [("Faulty", false), ("NoArticles", false), ("NoMan", false), ("NoPage", false), ("NoPages", false), ("NoRank", false), ("NoRow", false), ("NoSum", false), ("NoText", false), ("NotThere", false), ("NothingLeft", false), ("TooMany", false), ("TooMuch", false), ("Twice", true)] (dVar 0)) (dCons (dIsy [("Faulty", true), ("NoArticles", true), ("NoMan", true), ("NoPage", true), ("NoPages", true), ("NoRank", true), ("NoRow", true), ("NoSum", true), ("NoText", true), ("NotThere", true), ("NothingLeft", true), ("TooMany", true), ("TooMuch", true), ("Twice", true)] (dVar 0)) dNil))))) (gN 1)) (sCons (sAsg (dLst (dCons (dCon (.str "Faulty")) (dCons (dCon (.str "NoArticles")) (dCons (dCon (.str "NoMan")) (dCons (dCon (.str "NoPage")) (dCons (dCon (.str "NoPages")) (dCons (dCon (.str "NoRank")) (dCons (dCon (.str "NoRow")) (dCons (dCon (.str "NoSum")) (dCons (dCon (.str "NoText")) (dCons (dCon (.str "NotThere")) dNil))))))))))) (gN 2)) (sCons (sAsg (dBin .Add (dVar 2) (dLst (dCons (dCon (.str "NothingLeft")) (dCons (dCon (.str "TooMany")) (dCons (dCon (.str "TooMuch")) (dCons (dCon (.str "Twice")) (dCons (dCon (.str "+")) dNil))))))) (gN 2)) (sCons (sRet (dJoin (dCon (.str "")) (dLc [3] (iRange1 (dCon (.int 15))) (gN 3) (dT (dSub (dVar 1) (dVar 3))) (dSub (dVar 2) (dVar 3))))) sNil)))))))
def G_law_kind_of : List W → Sto → Res W := fnD 4 b_law_kind_of
theorem ge_law_kind_of : G_law_kind_of = fnD 4 b_law_kind_of := rfl
abbrev N_law : List Str := ["script", "draws", "word", "rows", "most", "some", "words", "one"]
def b_law : MSt := (sCons (sAsg (dCall (noX G_law_draws) (dCons (dVar 0) (dCons (dCon (.int 0)) dNil))) (gN 1)) (sCons (sAsg (dSub (dCall (noX G_law_names) (dCons (dVar 1) (dCons (dCon (.int 1)) dNil))) (dCon (.int 0))) (gN 2)) (sCons (sAsg (dTup (dCons (dTup (dCons (dVar 2) (dCons (dCall (noX G_law_draw) (dCons (dVar 1) (dCons (dBin .Pow (dCon (.int 10)) (dCon (.int 12))) dNil))) (dCons (dCon (.str "two")) dNil)))) dNil)) (gN 3)) (sCons (sAsg (dCall (noX G_law_draw) (dCons (dVar 1) (dCons (dBin .Pow (dCon (.int 10)) (dCon (.int 15))) dNil))) (gN 4)) (sCons (sAsg (dLstC (dCons (dMkI "Faulty" "the pages of the man or of the ship have faults" "faults" (dCons (dVar 3) dNil)) (dCons (dMkX "NoArticles" (dCons (dVar 2) dNil)) (dCons (dMkX "NoMan" (dCons (dVar 2) dNil)) (dCons (dMkX "NoPage" (dCons (dVar 2) dNil)) (dCons (dMkX "NoPages" (dCons (dVar 2) dNil)) (dCons (dMkX "NoRank" (dCons (dVar 2) dNil)) (dCons (dMkX "NoRow" (dCons (dVar 2) dNil)) dNil)))))))) (gN 5)) (sCons (sAsg (dCatC (dVar 5) (dLst (dCons (dMkX "NoSum" (dCons (dVar 2) dNil)) (dCons (dMkX "NoText" (dCons (dVar 2) dNil)) (dCons (dMkX "NotThere" (dCons (dVar 2) dNil)) (dCons (dMkX "NothingLeft" (dCons (dVar 2) dNil)) (dCons (dMkX "TooMany" (dCons (dVar 2) dNil)) (dCons (dMkI "TooMuch" "the pence are more than the room" "most" (dCons (dVar 4) dNil)) dNil)))))))) (gN 5)) (sCons (sExpr (dAppend' (dVar 5) (dMkX "Twice" (dCons (dVar 2) dNil)))) (sCons (sAsg (dLst (dCons (dCon (.str "Faulty")) (dCons (dCon (.str "NoArticles")) (dCons (dCon (.str "NoMan")) (dCons (dCon (.str "NoPage")) (dCons (dCon (.str "NoPages")) (dCons (dCon (.str "NoRank")) (dCons (dCon (.str "NoRow")) (dCons (dCon (.str "NoSum")) (dCons (dCon (.str "NoText")) (dCons (dCon (.str "NotThere")) dNil))))))))))) (gN 6)) (sCons (sAsg (dBin .Add (dVar 6) (dLst (dCons (dCon (.str "NothingLeft")) (dCons (dCon (.str "TooMany")) (dCons (dCon (.str "TooMuch")) (dCons (dCon (.str "Twice")) dNil)))))) (gN 6)) (sFrz 5 (sCons (sIf (dT (dCmp .NotEq (dLc [7] (iSeq (dVar 5)) (gN 7) dYes (dCall (noX G_law_kind_of) (dCons (dVar 7) dNil))) (dLc [7] (iSeq (dVar 6)) (gN 7) dYes (dBin .Add (dVar 7) (dCon (.str "+")))))) (sCons (sRet (dCon (.bl false))) sNil) sNil) (sCons (sIf (dT (dCmp .NotEq (dLc [7] (iSeq (dVar 5)) (gN 7) (dNotT (dT (dIsy [("Faulty", true), ("NoArticles", true), ("NoMan", true), ("NoPage", true), ("NoPages", true), ("NoRank", true), ("NoRow", true), ("NoSum", true), ("NoText", true), ("NotThere", true), ("NothingLeft", true), ("TooMany", true), ("TooMuch", true), ("Twice", true)] (dVar 7)))) (dVar 7)) (dLst dNil))) (sCons (sRet (dCon (.bl false))) sNil) sNil) (sCons (sRet (dAnd (dCmp .Eq (dFld ["Faulty"] "faults" (dSub (dVar 5) (dCon (.int 0)))) (dVar 3)) (dAnd (dCmp .Eq (dFld ["TooMuch"] "most" (dSub (dVar 5) (dCon (.int 12)))) (dVar 4)) (dCmp .Eq (dCall (gStrX ["NoArticles", "NoMan", "NoPage", "NoPages", "NoRank", "NoRow", "NoSum", "NoText", "NotThere", "NothingLeft", "TooMany", "Twice"]) (dCons (dSub (dVar 5) (dCon (.int 1))) dNil)) (dVar 2))))) sNil)))))))))))))
def G_law : List W → Sto → Res W := fnD 8 b_law
theorem ge_law : G_law = fnD 8 b_law := rfl
end K96
namespace K96
open PySem PySem.Spec L2 Z ZX K01
open PyProof.Rows hiding St
def top (i : Nat) : Stmt := PySem.Challenge.pw_crewpay_k96_refusals_apart.main.body.getD i (.Pass ⟨0, 0, 0, 0⟩)
structure Gb (K : PySem.W.Frag) (mg : Str → Option Value) : Prop where
  z_int : mg "int" = none
  z_isinstance : mg "isinstance" = none
  z_len : mg "len" = none
  z_range : mg "range" = none
  z_sorted : mg "sorted" = none
  z_str : mg "str" = none
  i_Faulty : IsxE K mg "Faulty" [("Faulty", true), ("NoArticles", false), ("NoMan", false), ("NoPage", false), ("NoPages", false), ("NoRank", false), ("NoRow", false), ("NoSum", false), ("NoText", false), ("NotThere", false), ("NothingLeft", false), ("TooMany", false), ("TooMuch", false), ("Twice", false)]
  i_NoArticles : IsxE K mg "NoArticles" [("Faulty", false), ("NoArticles", true), ("NoMan", false), ("NoPage", false), ("NoPages", false), ("NoRank", false), ("NoRow", false), ("NoSum", false), ("NoText", false), ("NotThere", false), ("NothingLeft", false), ("TooMany", false), ("TooMuch", false), ("Twice", false)]
  i_NoMan : IsxE K mg "NoMan" [("Faulty", false), ("NoArticles", false), ("NoMan", true), ("NoPage", false), ("NoPages", false), ("NoRank", false), ("NoRow", false), ("NoSum", false), ("NoText", false), ("NotThere", false), ("NothingLeft", false), ("TooMany", false), ("TooMuch", false), ("Twice", false)]
  i_NoPage : IsxE K mg "NoPage" [("Faulty", false), ("NoArticles", false), ("NoMan", false), ("NoPage", true), ("NoPages", false), ("NoRank", false), ("NoRow", false), ("NoSum", false), ("NoText", false), ("NotThere", false), ("NothingLeft", false), ("TooMany", false), ("TooMuch", false), ("Twice", false)]
  i_NoPages : IsxE K mg "NoPages" [("Faulty", false), ("NoArticles", false), ("NoMan", false), ("NoPage", false), ("NoPages", true), ("NoRank", false), ("NoRow", false), ("NoSum", false), ("NoText", false), ("NotThere", false), ("NothingLeft", false), ("TooMany", false), ("TooMuch", false), ("Twice", false)]
  i_NoRank : IsxE K mg "NoRank" [("Faulty", false), ("NoArticles", false), ("NoMan", false), ("NoPage", false), ("NoPages", false), ("NoRank", true), ("NoRow", false), ("NoSum", false), ("NoText", false), ("NotThere", false), ("NothingLeft", false), ("TooMany", false), ("TooMuch", false), ("Twice", false)]
  i_NoRow : IsxE K mg "NoRow" [("Faulty", false), ("NoArticles", false), ("NoMan", false), ("NoPage", false), ("NoPages", false), ("NoRank", false), ("NoRow", true), ("NoSum", false), ("NoText", false), ("NotThere", false), ("NothingLeft", false), ("TooMany", false), ("TooMuch", false), ("Twice", false)]
  i_NoSum : IsxE K mg "NoSum" [("Faulty", false), ("NoArticles", false), ("NoMan", false), ("NoPage", false), ("NoPages", false), ("NoRank", false), ("NoRow", false), ("NoSum", true), ("NoText", false), ("NotThere", false), ("NothingLeft", false), ("TooMany", false), ("TooMuch", false), ("Twice", false)]
  i_NoText : IsxE K mg "NoText" [("Faulty", false), ("NoArticles", false), ("NoMan", false), ("NoPage", false), ("NoPages", false), ("NoRank", false), ("NoRow", false), ("NoSum", false), ("NoText", true), ("NotThere", false), ("NothingLeft", false), ("TooMany", false), ("TooMuch", false), ("Twice", false)]
  i_NotThere : IsxE K mg "NotThere" [("Faulty", false), ("NoArticles", false), ("NoMan", false), ("NoPage", false), ("NoPages", false), ("NoRank", false), ("NoRow", false), ("NoSum", false), ("NoText", false), ("NotThere", true), ("NothingLeft", false), ("TooMany", false), ("TooMuch", false), ("Twice", false)]
  i_NothingLeft : IsxE K mg "NothingLeft" [("Faulty", false), ("NoArticles", false), ("NoMan", false), ("NoPage", false), ("NoPages", false), ("NoRank", false), ("NoRow", false), ("NoSum", false), ("NoText", false), ("NotThere", false), ("NothingLeft", true), ("TooMany", false), ("TooMuch", false), ("Twice", false)]
  i_TooMany : IsxE K mg "TooMany" [("Faulty", false), ("NoArticles", false), ("NoMan", false), ("NoPage", false), ("NoPages", false), ("NoRank", false), ("NoRow", false), ("NoSum", false), ("NoText", false), ("NotThere", false), ("NothingLeft", false), ("TooMany", true), ("TooMuch", false), ("Twice", false)]
  i_TooMuch : IsxE K mg "TooMuch" [("Faulty", false), ("NoArticles", false), ("NoMan", false), ("NoPage", false), ("NoPages", false), ("NoRank", false), ("NoRow", false), ("NoSum", false), ("NoText", false), ("NotThere", false), ("NothingLeft", false), ("TooMany", false), ("TooMuch", true), ("Twice", false)]
  i_Twice : IsxE K mg "Twice" [("Faulty", false), ("NoArticles", false), ("NoMan", false), ("NoPage", false), ("NoPages", false), ("NoRank", false), ("NoRow", false), ("NoSum", false), ("NoText", false), ("NotThere", false), ("NothingLeft", false), ("TooMany", false), ("TooMuch", false), ("Twice", true)]
  i_WageError : IsxE K mg "WageError" [("Faulty", true), ("NoArticles", true), ("NoMan", true), ("NoPage", true), ("NoPages", true), ("NoRank", true), ("NoRow", true), ("NoSum", true), ("NoText", true), ("NotThere", true), ("NothingLeft", true), ("TooMany", true), ("TooMuch", true), ("Twice", true)]
  i_ValueError : IsxTE K mg "ValueError" "ValueError" [("Faulty", true), ("NoArticles", true), ("NoMan", true), ("NoPage", true), ("NoPages", true), ("NoRank", true), ("NoRow", true), ("NoSum", true), ("NoText", true), ("NotThere", true), ("NothingLeft", true), ("TooMany", true), ("TooMuch", true), ("Twice", true)]
  m_NoArticles : MkE K mg "NoArticles"
  m_NoMan : MkE K mg "NoMan"
  m_NoPage : MkE K mg "NoPage"
  m_NoPages : MkE K mg "NoPages"
  m_NoRank : MkE K mg "NoRank"
  m_NoRow : MkE K mg "NoRow"
  m_NoSum : MkE K mg "NoSum"
  m_NoText : MkE K mg "NoText"
  m_NotThere : MkE K mg "NotThere"
  m_NothingLeft : MkE K mg "NothingLeft"
  m_TooMany : MkE K mg "TooMany"
  m_Twice : MkE K mg "Twice"
  f_faults : FldE K "faults" ["Faulty"]
  f_most : FldE K "most" ["TooMuch"]
  s_str : SrE K ["NoArticles", "NoMan", "NoPage", "NoPages", "NoRank", "NoRow", "NoSum", "NoText", "NotThere", "NothingLeft", "TooMany", "Twice"]
abbrev s_init_Faulty : Stmt := inClass (top 8) 0
theorem sc_init_Faulty : FnScope ["self", "faults"] ["self", "faults"] (defScope s_init_Faulty) := ⟨rfl, rfl, rfl, by decide +kernel, rfl, by decide +kernel, by decide +kernel⟩
theorem ok_init_Faulty {P : Program} {w : World} {K : PySem.W.Frag} {mg : Str → Option Value} {base : Heap} {B C fI : Addr} {oc dV kV doc pm cdv ct : Value} {od an : Option Addr} {osl : Array (Option Value)} (hW : mg "WageError" = some (.ref B)) (O : ZX.OwnI K mg "Faulty" C fI) (L : ZX.LdI K B) (Z : ZX.StX K C "faults")
    (lk : K.lookup fI = some ⟨oc, od, .func (PySem.W.fnOf "__init__" "Faulty.__init__" (defArgs s_init_Faulty) (defBody s_init_Faulty) (defScope s_init_Faulty) dV kV doc pm an cdv ct), osl⟩) (hcd : PySem.W.codeIn K cdv "Faulty.__init__" = true) :
    FnOk P w K mg base CX0 1 fI (PySem.W.fnOf "__init__" "Faulty.__init__" (defArgs s_init_Faulty) (defBody s_init_Faulty) (defScope s_init_Faulty) dV kV doc pm an cdv ct) ["self", "faults"] (spI C "faults" "the pages of the man or of the ship have faults") := by
  refine fn_of (N := ["self", "faults"]) lk hcd sc_init_Faulty (fun vs H Q E h => by obtain ⟨a, v, u, rfl, _⟩ := h; rfl) fun A outer s H vs Q E hr h => ?_
  obtain ⟨a, v, u, rfl, hX, kk⟩ := h
  refine ⟨_, pss_cons (ps_expr (ZX.pe_supI (C := C) O L rfl hW (pa_cons (pv 0) (pa_cons pe_str pa_nil)))) (pss_one (ZX.ps_xfld Z (pv 0) (pv 1) rfl)), ?_⟩
  refine ⟨_, rfl, a, u, .none, [.str "the pages of the man or of the ship have faults"], rfl, (by show 1 ≤ sizeLine; decide), hX, fun t nt hta => ⟨_, rfl, _, rfl, a, .ref t, .none, rfl, upd_same, fun dx nd hda => ?_⟩⟩
  have hdt : t ≠ dx := fun z => by rw [← z, upd_ne hta, upd_same] at nd; cases nd
  rw [upd_ne hda, upd_ne (Ne.symm hdt)] at nd
  exact kk t dx nt nd hdt hta hda
abbrev s_init_TooMuch : Stmt := inClass (top 9) 0
theorem sc_init_TooMuch : FnScope ["self", "most"] ["self", "most"] (defScope s_init_TooMuch) := ⟨rfl, rfl, rfl, by decide +kernel, rfl, by decide +kernel, by decide +kernel⟩
theorem ok_init_TooMuch {P : Program} {w : World} {K : PySem.W.Frag} {mg : Str → Option Value} {base : Heap} {B C fI : Addr} {oc dV kV doc pm cdv ct : Value} {od an : Option Addr} {osl : Array (Option Value)} (hW : mg "WageError" = some (.ref B)) (O : ZX.OwnI K mg "TooMuch" C fI) (L : ZX.LdI K B) (Z : ZX.StX K C "most")
    (lk : K.lookup fI = some ⟨oc, od, .func (PySem.W.fnOf "__init__" "TooMuch.__init__" (defArgs s_init_TooMuch) (defBody s_init_TooMuch) (defScope s_init_TooMuch) dV kV doc pm an cdv ct), osl⟩) (hcd : PySem.W.codeIn K cdv "TooMuch.__init__" = true) :
    FnOk P w K mg base CX0 1 fI (PySem.W.fnOf "__init__" "TooMuch.__init__" (defArgs s_init_TooMuch) (defBody s_init_TooMuch) (defScope s_init_TooMuch) dV kV doc pm an cdv ct) ["self", "most"] (spI C "most" "the pence are more than the room") := by
  refine fn_of (N := ["self", "most"]) lk hcd sc_init_TooMuch (fun vs H Q E h => by obtain ⟨a, v, u, rfl, _⟩ := h; rfl) fun A outer s H vs Q E hr h => ?_
  obtain ⟨a, v, u, rfl, hX, kk⟩ := h
  refine ⟨_, pss_cons (ps_expr (ZX.pe_supI (C := C) O L rfl hW (pa_cons (pv 0) (pa_cons pe_str pa_nil)))) (pss_one (ZX.ps_xfld Z (pv 0) (pv 1) rfl)), ?_⟩
  refine ⟨_, rfl, a, u, .none, [.str "the pence are more than the room"], rfl, (by show 1 ≤ sizeLine; decide), hX, fun t nt hta => ⟨_, rfl, _, rfl, a, .ref t, .none, rfl, upd_same, fun dx nd hda => ?_⟩⟩
  have hdt : t ≠ dx := fun z => by rw [← z, upd_ne hta, upd_same] at nd; cases nd
  rw [upd_ne hda, upd_ne (Ne.symm hdt)] at nd
  exact kk t dx nt nd hdt hta hda
abbrev s_law_draws : Stmt := top 17
theorem sc_law_draws : FnScope N_law_draws ["script", "k"] (defScope s_law_draws) := ⟨rfl, rfl, rfl, by decide +kernel, rfl, by decide +kernel, by decide +kernel⟩
theorem ok_law_draws {P : Program} {w : World} {K : PySem.W.Frag} {mg : Str → Option Value} {base : Heap} {f : Addr} {fd : FuncData} (T : Gb K mg) (hm : mg "_law_draws" = some (.ref f)) (F : Fun K "_law_draws" "_law_draws" s_law_draws f fd) (B : Binds K fd ["script", "k"] [])  : HasFn P w K mg base 1 "_law_draws" ["script", "k"] G_law_draws := by
  rw [ge_law_draws]
  have r := @has_fn P w K mg base "_law_draws" s_law_draws f fd N_law_draws ["script", "k"] 0 b_law_draws hm F B sc_law_draws
  refine r ?_
  intro cdv A outer s H E hr c
  refine mss_cons ?_ ?_
  · refine ms_set (i := 2) (Cok.nd c) rfl (Or.inl rfl) ?_
    refine me_bin ?_ ?_
    · exact me_int
    · exact mv 1
  · refine mss_cons ?_ ?_
    · refine ms_if ?_ ?_ ?_
      · refine mt_cmp c ?_ ?_
        · exact mv 1
        · refine me_callB cd_len rfl T.z_len bb_len ?_
          refine ma_cons ?_ ?_
          · exact mv 0
          · exact ma_nil
      · refine mss_cons ?_ ?_
        · refine ms_set (i := 2) (Cok.nd c) rfl (Or.inl rfl) ?_
          refine me_bin ?_ ?_
          · refine me_sub ?_ ?_
            · exact mv 0
            · exact mv 1
          · refine me_bin ?_ ?_
            · refine me_bin ?_ ?_
              · exact me_int
              · exact me_int
            · refine me_bin ?_ ?_
              · exact me_int
              · exact me_int
        · exact mss_nil
      · refine mss_cons ?_ ?_
        · refine ms_if ?_ ?_ ?_
          · refine mt_cmp c ?_ ?_
            · refine me_callB cd_len rfl T.z_len bb_len ?_
              refine ma_cons ?_ ?_
              · exact mv 0
              · exact ma_nil
            · exact me_int
          · refine mss_cons ?_ ?_
            · refine ms_set (i := 2) (Cok.nd c) rfl (Or.inl rfl) ?_
              refine me_bin ?_ ?_
              · refine me_bin ?_ ?_
                · refine me_sub ?_ ?_
                  · exact mv 0
                  · refine me_bin ?_ ?_
                    · exact mv 1
                    · refine me_callB cd_len rfl T.z_len bb_len ?_
                      refine ma_cons ?_ ?_
                      · exact mv 0
                      · exact ma_nil
                · refine me_bin ?_ ?_
                  · exact me_int
                  · exact me_int
              · refine me_bin ?_ ?_
                · exact me_int
                · exact mv 1
            · exact mss_nil
          · exact mss_nil
        · exact mss_nil
    · refine mss_cons ?_ ?_
      · refine ms_ret ?_
        refine me_lstC ?_
        refine ma_cons ?_ ?_
        · refine me_bin ?_ ?_
          · exact mv 2
          · refine me_callTy cd_int rfl T.z_int bt_int ?_
            refine ma_cons ?_ ?_
            · refine me_cmp c ?_ ?_
              · exact mv 2
              · refine me_bin ?_ ?_
                · exact me_int
                · exact me_int
            · exact ma_nil
        · refine ma_cons ?_ ?_
          · refine me_bin ?_ ?_
            · exact me_int
            · refine me_bin ?_ ?_
              · refine me_bin ?_ ?_
                · refine me_bin ?_ ?_
                  · exact mv 2
                  · exact me_int
                · refine me_bin ?_ ?_
                  · exact me_int
                  · refine me_bin ?_ ?_
                    · exact mv 1
                    · exact me_int
              · exact me_int
          · exact ma_nil
      · exact mss_nil
abbrev s_law_draw : Stmt := top 18
theorem sc_law_draw : FnScope N_law_draw ["draws", "many"] (defScope s_law_draw) := ⟨rfl, rfl, rfl, by decide +kernel, rfl, by decide +kernel, by decide +kernel⟩
theorem ok_law_draw {P : Program} {w : World} {K : PySem.W.Frag} {mg : Str → Option Value} {base : Heap} {f : Addr} {fd : FuncData} (T : Gb K mg) (hm : mg "_law_draw" = some (.ref f)) (F : Fun K "_law_draw" "_law_draw" s_law_draw f fd) (B : Binds K fd ["draws", "many"] [])  : HasFn P w K mg base 1 "_law_draw" ["draws", "many"] G_law_draw := by
  rw [ge_law_draw]
  have r := @has_fn P w K mg base "_law_draw" s_law_draw f fd N_law_draw ["draws", "many"] 0 b_law_draw hm F B sc_law_draw
  refine r ?_
  intro cdv A outer s H E hr c
  refine mss_cons ?_ ?_
  · refine ms_if ?_ ?_ ?_
    · refine mt_cmp c ?_ ?_
      · refine me_sub ?_ ?_
        · exact mv 0
        · exact me_int
      · exact me_int
    · refine mss_cons ?_ ?_
      · refine ms_set (i := 2) (Cok.nd c) rfl (Or.inl rfl) ?_
        refine me_bin ?_ ?_
        · refine me_sub ?_ ?_
          · exact mv 0
          · exact me_int
        · exact mv 1
      · refine mss_cons ?_ ?_
        · refine ms_setItem ?_ ?_ ?_
          · refine me_bin ?_ ?_
            · refine me_sub ?_ ?_
              · exact mv 0
              · exact me_int
            · exact mv 1
          · exact mv 0
          · exact me_int
        · refine mss_cons ?_ ?_
          · refine ms_ret ?_
            exact mv 2
          · exact mss_nil
    · exact mss_nil
  · refine mss_cons ?_ ?_
    · refine ms_set (i := 2) (Cok.nd c) rfl (Or.inl rfl) ?_
      exact me_int
    · refine mss_cons ?_ ?_
      · refine ms_set (i := 3) (Cok.nd c) rfl (Or.inl rfl) ?_
        exact me_int
      · refine mss_cons ?_ ?_
        · refine ms_while (fu := 5) c ?_ ?_
          · refine mt_cmp c ?_ ?_
            · exact mv 3
            · exact mv 1
          · refine mss_cons ?_ ?_
            · refine ms_setItem ?_ ?_ ?_
              · refine me_bin ?_ ?_
                · refine me_bin ?_ ?_
                  · refine me_sub ?_ ?_
                    · exact mv 0
                    · exact me_int
                  · exact me_int
                · exact me_int
              · exact mv 0
              · exact me_int
            · refine mss_cons ?_ ?_
              · refine ms_set (i := 2) (Cok.nd c) rfl (Or.inl rfl) ?_
                refine me_bin ?_ ?_
                · refine me_bin ?_ ?_
                  · exact mv 2
                  · exact me_int
                · refine me_bin ?_ ?_
                  · refine me_bin ?_ ?_
                    · refine me_bin ?_ ?_
                      · refine me_sub ?_ ?_
                        · exact mv 0
                        · exact me_int
                      · refine me_bin ?_ ?_
                        · refine me_bin ?_ ?_
                          · refine me_sub ?_ ?_
                            · exact mv 0
                            · exact me_int
                          · exact me_int
                        · exact me_int
                    · exact me_int
                  · exact me_int
              · refine mss_cons ?_ ?_
                · refine ms_set (i := 3) (Cok.nd c) rfl (Or.inl rfl) ?_
                  refine me_bin ?_ ?_
                  · exact mv 3
                  · exact me_int
                · exact mss_nil
        · refine mss_cons ?_ ?_
          · refine ms_ret ?_
            refine me_bin ?_ ?_
            · exact mv 2
            · exact mv 1
          · exact mss_nil
abbrev s_law_names : Stmt := top 19
theorem sc_law_names : FnScope N_law_names ["draws", "many"] (defScope s_law_names) := ⟨rfl, rfl, rfl, by decide +kernel, rfl, by decide +kernel, by decide +kernel⟩
theorem ok_law_names {P : Program} {w : World} {K : PySem.W.Frag} {mg : Str → Option Value} {base : Heap} {f : Addr} {fd : FuncData} (T : Gb K mg) (hm : mg "_law_names" = some (.ref f)) (F : Fun K "_law_names" "_law_names" s_law_names f fd) (B : Binds K fd ["draws", "many"] []) (F_law_draw : HasFn P w K mg base 1 "_law_draw" ["draws", "many"] G_law_draw) : HasFn P w K mg base 2 "_law_names" ["draws", "many"] G_law_names := by
  rw [ge_law_names]
  have r := @has_fn P w K mg base "_law_names" s_law_names f fd N_law_names ["draws", "many"] 1 b_law_names hm F B sc_law_names
  refine r ?_
  intro cdv A outer s H E hr c
  refine mss_cons ?_ ?_
  · refine ms_set (i := 2) (Cok.nd c) rfl (Or.inr rfl) ?_
    exact me_str
  · refine mss_cons ?_ ?_
    · refine ms_set (i := 3) (Cok.nd c) rfl (Or.inr rfl) ?_
      refine me_join ?_ ?_
      · exact me_str
      · refine me_lc (own := [("k", 6)]) (sl := [6]) c ?_ (blkOk_by (own := [("k", 6)]) (N := N_law_names) (sc := defScope s_law_names) (by decide +kernel)) (fun _ _ _ _ _ => ?_) (by decide) (fun _ _ _ _ _ => ?_) (fun _ _ _ _ _ => ?_)
        · refine mi_range1 rfl T.z_range ?_
          refine me_sub ?_ ?_
          · refine me_lst ?_
            refine ma_cons ?_ ?_
            · exact me_int
            · refine ma_cons ?_ ?_
              · exact me_int
              · refine ma_cons ?_ ?_
                · exact me_int
                · refine ma_cons ?_ ?_
                  · exact me_int
                  · exact ma_nil
          · refine me_fn F_law_draw (hr.mono (by omega)) rfl ?_ (al_cons (al_cons al_nil))
            refine ma_cons ?_ ?_
            · exact mv 0
            · refine ma_cons ?_ ?_
              · exact me_int
              · exact ma_nil
        · exact mg_name (Cok.nd (c.blk _ _ _ _ _)) rfl (Or.inl rfl)
        · exact mts_nil
        · refine me_sub ?_ ?_
          · exact mv 2
          · refine me_fn F_law_draw (hr.mono (by omega)) rfl ?_ (al_cons (al_cons al_nil))
            refine ma_cons ?_ ?_
            · exact mv 0
            · refine ma_cons ?_ ?_
              · exact me_int
              · exact ma_nil
    · refine mss_cons ?_ ?_
      · refine ms_set (i := 4) (Cok.nd c) rfl (Or.inr rfl) ?_
        refine me_fn F_law_draw (hr.mono (by omega)) rfl ?_ (al_cons (al_cons al_nil))
        refine ma_cons ?_ ?_
        · exact mv 0
        · refine ma_cons ?_ ?_
          · exact me_int
          · exact ma_nil
      · refine mss_cons ?_ ?_
        · refine ms_set (i := 5) (Cok.nd c) rfl (Or.inr rfl) ?_
          refine me_sub ?_ ?_
          · refine me_lst ?_
            refine ma_cons ?_ ?_
            · exact me_int
            · refine ma_cons ?_ ?_
              · exact me_int
              · refine ma_cons ?_ ?_
                · exact me_int
                · refine ma_cons ?_ ?_
                  · exact me_int
                  · exact ma_nil
          · refine me_fn F_law_draw (hr.mono (by omega)) rfl ?_ (al_cons (al_cons al_nil))
            refine ma_cons ?_ ?_
            · exact mv 0
            · refine ma_cons ?_ ?_
              · exact me_int
              · exact ma_nil
        · refine mss_cons ?_ ?_
          · refine ms_ret ?_
            refine me_callB cd_sorted rfl T.z_sorted bb_sorted ?_
            refine ma_cons ?_ ?_
            · refine me_lc (own := [("k", 6)]) (sl := [6]) c ?_ (blkOk_by (own := [("k", 6)]) (N := N_law_names) (sc := defScope s_law_names) (by decide +kernel)) (fun _ _ _ _ _ => ?_) (by decide) (fun _ _ _ _ _ => ?_) (fun _ _ _ _ _ => ?_)
              · refine mi_range1 rfl T.z_range ?_
                exact mv 1
              · exact mg_name (Cok.nd (c.blk _ _ _ _ _)) rfl (Or.inl rfl)
              · exact mts_nil
              · refine me_bin ?_ ?_
                · exact mv 3
                · refine me_sub ?_ ?_
                  · exact mv 2
                  · refine me_bin ?_ ?_
                    · refine me_bin ?_ ?_
                      · exact mv 4
                      · refine me_bin ?_ ?_
                        · exact mv 5
                        · exact mv 6
                    · exact me_int
            · exact ma_nil
          · exact mss_nil
abbrev s_law_kind_of : Stmt := top 20
theorem sc_law_kind_of : FnScope N_law_kind_of ["e"] (defScope s_law_kind_of) := ⟨rfl, rfl, rfl, by decide +kernel, rfl, by decide +kernel, by decide +kernel⟩
theorem ok_law_kind_of {P : Program} {w : World} {K : PySem.W.Frag} {mg : Str → Option Value} {base : Heap} {f : Addr} {fd : FuncData} (T : Gb K mg) (hm : mg "_law_kind_of" = some (.ref f)) (F : Fun K "_law_kind_of" "_law_kind_of" s_law_kind_of f fd) (B : Binds K fd ["e"] [])  : HasFn P w K mg base 1 "_law_kind_of" ["e"] G_law_kind_of := by
  rw [ge_law_kind_of]
  have r := @has_fn P w K mg base "_law_kind_of" s_law_kind_of f fd N_law_kind_of ["e"] 0 b_law_kind_of hm F B sc_law_kind_of
  refine r ?_
  intro cdv A outer s H E hr c
  refine mss_cons ?_ ?_
  · refine ms_set (i := 1) (Cok.nd c) rfl (Or.inr rfl) ?_
    refine me_lst ?_
    refine ma_cons ?_ ?_
    · refine me_isyE T.i_Faulty rfl T.z_isinstance rfl ?_
      exact mv 0
    · refine ma_cons ?_ ?_
      · refine me_isyE T.i_NoArticles rfl T.z_isinstance rfl ?_
        exact mv 0
      · refine ma_cons ?_ ?_
        · refine me_isyE T.i_NoMan rfl T.z_isinstance rfl ?_
          exact mv 0
        · refine ma_cons ?_ ?_
          · refine me_isyE T.i_NoPage rfl T.z_isinstance rfl ?_
            exact mv 0
          · exact ma_nil
  · refine mss_cons ?_ ?_
    · refine ms_set (i := 1) (Cok.nd c) rfl (Or.inr rfl) ?_
      refine me_bin ?_ ?_
      · exact mv 1
      · refine me_lst ?_
        refine ma_cons ?_ ?_
        · refine me_isyE T.i_NoPages rfl T.z_isinstance rfl ?_
          exact mv 0
        · refine ma_cons ?_ ?_
          · refine me_isyE T.i_NoRank rfl T.z_isinstance rfl ?_
            exact mv 0
          · refine ma_cons ?_ ?_
            · refine me_isyE T.i_NoRow rfl T.z_isinstance rfl ?_
              exact mv 0
            · refine ma_cons ?_ ?_
              · refine me_isyE T.i_NoSum rfl T.z_isinstance rfl ?_
                exact mv 0
              · exact ma_nil
    · refine mss_cons ?_ ?_
      · refine ms_set (i := 1) (Cok.nd c) rfl (Or.inr rfl) ?_
        refine me_bin ?_ ?_
        · exact mv 1
        · refine me_lst ?_
          refine ma_cons ?_ ?_
          · refine me_isyE T.i_NoText rfl T.z_isinstance rfl ?_
            exact mv 0
          · refine ma_cons ?_ ?_
            · refine me_isyE T.i_NotThere rfl T.z_isinstance rfl ?_
              exact mv 0
            · refine ma_cons ?_ ?_
              · refine me_isyE T.i_NothingLeft rfl T.z_isinstance rfl ?_
                exact mv 0
              · refine ma_cons ?_ ?_
                · refine me_isyE T.i_TooMany rfl T.z_isinstance rfl ?_
                  exact mv 0
                · exact ma_nil
      · refine mss_cons ?_ ?_
        · refine ms_set (i := 1) (Cok.nd c) rfl (Or.inr rfl) ?_
          refine me_bin ?_ ?_
          · exact mv 1
          · refine me_lst ?_
            refine ma_cons ?_ ?_
            · refine me_isyE T.i_TooMuch rfl T.z_isinstance rfl ?_
              exact mv 0
            · refine ma_cons ?_ ?_
              · refine me_isyE T.i_Twice rfl T.z_isinstance rfl ?_
                exact mv 0
              · refine ma_cons ?_ ?_
                · refine me_isyTE T.i_ValueError bt_ValueError rfl T.z_isinstance rfl ?_
                  exact mv 0
                · exact ma_nil
        · refine mss_cons ?_ ?_
          · refine ms_set (i := 2) (Cok.nd c) rfl (Or.inr rfl) ?_
            refine me_lst ?_
            refine ma_cons ?_ ?_
            · exact me_str
            · refine ma_cons ?_ ?_
              · exact me_str
              · refine ma_cons ?_ ?_
                · exact me_str
                · refine ma_cons ?_ ?_
                  · exact me_str
                  · refine ma_cons ?_ ?_
                    · exact me_str
                    · refine ma_cons ?_ ?_
                      · exact me_str
                      · refine ma_cons ?_ ?_
                        · exact me_str
                        · refine ma_cons ?_ ?_
                          · exact me_str
                          · refine ma_cons ?_ ?_
                            · exact me_str
                            · refine ma_cons ?_ ?_
                              · exact me_str
                              · exact ma_nil
          · refine mss_cons ?_ ?_
            · refine ms_set (i := 2) (Cok.nd c) rfl (Or.inr rfl) ?_
              refine me_bin ?_ ?_
              · exact mv 2
              · refine me_lst ?_
                refine ma_cons ?_ ?_
                · exact me_str
                · refine ma_cons ?_ ?_
                  · exact me_str
                  · refine ma_cons ?_ ?_
                    · exact me_str
                    · refine ma_cons ?_ ?_
                      · exact me_str
                      · refine ma_cons ?_ ?_
                        · exact me_str
                        · exact ma_nil
            · refine mss_cons ?_ ?_
              · refine ms_ret ?_
                refine me_join ?_ ?_
                · exact me_str
                · refine me_lc (own := [("k", 3)]) (sl := [3]) c ?_ (blkOk_by (own := [("k", 3)]) (N := N_law_kind_of) (sc := defScope s_law_kind_of) (by decide +kernel)) (fun _ _ _ _ _ => ?_) (by decide) (fun _ _ _ _ _ => ?_) (fun _ _ _ _ _ => ?_)
                  · refine mi_range1 rfl T.z_range ?_
                    exact me_int
                  · exact mg_name (Cok.nd (c.blk _ _ _ _ _)) rfl (Or.inl rfl)
                  · refine mts_one ?_
                    refine mt_val ?_
                    refine me_sub ?_ ?_
                    · exact mv 1
                    · exact mv 3
                  · refine me_sub ?_ ?_
                    · exact mv 2
                    · exact mv 3
              · exact mss_nil
abbrev s_law : Stmt := top 21
theorem sc_law : FnScope N_law ["script"] (defScope s_law) := ⟨rfl, rfl, rfl, by decide +kernel, rfl, by decide +kernel, by decide +kernel⟩
theorem ok_law {P : Program} {w : World} {K : PySem.W.Frag} {mg : Str → Option Value} {base : Heap} {f : Addr} {fd : FuncData} (T : Gb K mg) (hm : mg "law" = some (.ref f)) (F : Fun K "law" "law" s_law f fd) (B : Binds K fd ["script"] []) (F_law_draws : HasFn P w K mg base 1 "_law_draws" ["script", "k"] G_law_draws) (F_law_names : HasFn P w K mg base 2 "_law_names" ["draws", "many"] G_law_names) (F_law_draw : HasFn P w K mg base 1 "_law_draw" ["draws", "many"] G_law_draw) (F_law_kind_of : HasFn P w K mg base 1 "_law_kind_of" ["e"] G_law_kind_of) (I_Faulty : HasI P w K mg base 1 "Faulty" "faults" "the pages of the man or of the ship have faults") (I_TooMuch : HasI P w K mg base 1 "TooMuch" "most" "the pence are more than the room") : FnOk P w K mg base CX0 3 f fd ["script"] (spOf K ["script"].length G_law) := by
  rw [ge_law]
  have r := @fn_ok P w K mg base "law" "law" s_law f fd N_law ["script"] 2 b_law F sc_law
  refine r ?_
  intro cdv A outer s H E hr c
  refine mss_cons ?_ ?_
  · refine ms_set (i := 1) (Cok.nd c) rfl (Or.inl rfl) ?_
    refine me_fn F_law_draws (hr.mono (by omega)) rfl ?_ (al_cons (al_cons al_nil))
    refine ma_cons ?_ ?_
    · exact mv 0
    · refine ma_cons ?_ ?_
      · exact me_int
      · exact ma_nil
  · refine mss_cons ?_ ?_
    · refine ms_set (i := 2) (Cok.nd c) rfl (Or.inl rfl) ?_
      refine me_sub ?_ ?_
      · refine me_fn F_law_names (hr.mono (by omega)) rfl ?_ (al_cons (al_cons al_nil))
        refine ma_cons ?_ ?_
        · exact mv 1
        · refine ma_cons ?_ ?_
          · exact me_int
          · exact ma_nil
      · exact me_int
    · refine mss_cons ?_ ?_
      · refine ms_set (i := 3) (Cok.nd c) rfl (Or.inl rfl) ?_
        refine me_tup ?_
        refine ma_cons ?_ ?_
        · refine me_tup ?_
          refine ma_cons ?_ ?_
          · exact mv 2
          · refine ma_cons ?_ ?_
            · refine me_fn F_law_draw (hr.mono (by omega)) rfl ?_ (al_cons (al_cons al_nil))
              refine ma_cons ?_ ?_
              · exact mv 1
              · refine ma_cons ?_ ?_
                · refine me_bin ?_ ?_
                  · exact me_int
                  · exact me_int
                · exact ma_nil
            · refine ma_cons ?_ ?_
              · exact me_str
              · exact ma_nil
        · exact ma_nil
      · refine mss_cons ?_ ?_
        · refine ms_set (i := 4) (Cok.nd c) rfl (Or.inl rfl) ?_
          refine me_fn F_law_draw (hr.mono (by omega)) rfl ?_ (al_cons (al_cons al_nil))
          refine ma_cons ?_ ?_
          · exact mv 1
          · refine ma_cons ?_ ?_
            · refine me_bin ?_ ?_
              · exact me_int
              · exact me_int
            · exact ma_nil
        · refine mss_cons ?_ ?_
          · refine ms_set (i := 5) (Cok.nd c) rfl (Or.inl rfl) ?_
            refine me_lstC ?_
            refine ma_cons ?_ ?_
            · refine me_mkI I_Faulty (hr.mono (by omega)) rfl ?_
              refine ma_cons ?_ ?_
              · exact mv 3
              · exact ma_nil
            · refine ma_cons ?_ ?_
              · refine me_mkX T.m_NoArticles rfl ?_
                refine ma_cons ?_ ?_
                · exact mv 2
                · exact ma_nil
              · refine ma_cons ?_ ?_
                · refine me_mkX T.m_NoMan rfl ?_
                  refine ma_cons ?_ ?_
                  · exact mv 2
                  · exact ma_nil
                · refine ma_cons ?_ ?_
                  · refine me_mkX T.m_NoPage rfl ?_
                    refine ma_cons ?_ ?_
                    · exact mv 2
                    · exact ma_nil
                  · refine ma_cons ?_ ?_
                    · refine me_mkX T.m_NoPages rfl ?_
                      refine ma_cons ?_ ?_
                      · exact mv 2
                      · exact ma_nil
                    · refine ma_cons ?_ ?_
                      · refine me_mkX T.m_NoRank rfl ?_
                        refine ma_cons ?_ ?_
                        · exact mv 2
                        · exact ma_nil
                      · refine ma_cons ?_ ?_
                        · refine me_mkX T.m_NoRow rfl ?_
                          refine ma_cons ?_ ?_
                          · exact mv 2
                          · exact ma_nil
                        · exact ma_nil
          · refine mss_cons ?_ ?_
            · refine ms_set (i := 5) (Cok.nd c) rfl (Or.inl rfl) ?_
              refine me_catC ?_ ?_
              · exact mv 5
              · refine me_lst ?_
                refine ma_cons ?_ ?_
                · refine me_mkX T.m_NoSum rfl ?_
                  refine ma_cons ?_ ?_
                  · exact mv 2
                  · exact ma_nil
                · refine ma_cons ?_ ?_
                  · refine me_mkX T.m_NoText rfl ?_
                    refine ma_cons ?_ ?_
                    · exact mv 2
                    · exact ma_nil
                  · refine ma_cons ?_ ?_
                    · refine me_mkX T.m_NotThere rfl ?_
                      refine ma_cons ?_ ?_
                      · exact mv 2
                      · exact ma_nil
                    · refine ma_cons ?_ ?_
                      · refine me_mkX T.m_NothingLeft rfl ?_
                        refine ma_cons ?_ ?_
                        · exact mv 2
                        · exact ma_nil
                      · refine ma_cons ?_ ?_
                        · refine me_mkX T.m_TooMany rfl ?_
                          refine ma_cons ?_ ?_
                          · exact mv 2
                          · exact ma_nil
                        · refine ma_cons ?_ ?_
                          · refine me_mkI I_TooMuch (hr.mono (by omega)) rfl ?_
                            refine ma_cons ?_ ?_
                            · exact mv 4
                            · exact ma_nil
                          · exact ma_nil
            · refine mss_cons ?_ ?_
              · refine ms_expr ?_
                refine me_append ?_ ?_
                · exact mv 5
                · refine me_mkX T.m_Twice rfl ?_
                  refine ma_cons ?_ ?_
                  · exact mv 2
                  · exact ma_nil
              · refine mss_cons ?_ ?_
                · refine ms_set (i := 6) (Cok.nd c) rfl (Or.inl rfl) ?_
                  refine me_lst ?_
                  refine ma_cons ?_ ?_
                  · exact me_str
                  · refine ma_cons ?_ ?_
                    · exact me_str
                    · refine ma_cons ?_ ?_
                      · exact me_str
                      · refine ma_cons ?_ ?_
                        · exact me_str
                        · refine ma_cons ?_ ?_
                          · exact me_str
                          · refine ma_cons ?_ ?_
                            · exact me_str
                            · refine ma_cons ?_ ?_
                              · exact me_str
                              · refine ma_cons ?_ ?_
                                · exact me_str
                                · refine ma_cons ?_ ?_
                                  · exact me_str
                                  · refine ma_cons ?_ ?_
                                    · exact me_str
                                    · exact ma_nil
                · refine mss_cons ?_ ?_
                  · refine ms_set (i := 6) (Cok.nd c) rfl (Or.inl rfl) ?_
                    refine me_bin ?_ ?_
                    · exact mv 6
                    · refine me_lst ?_
                      refine ma_cons ?_ ?_
                      · exact me_str
                      · refine ma_cons ?_ ?_
                        · exact me_str
                        · refine ma_cons ?_ ?_
                          · exact me_str
                          · refine ma_cons ?_ ?_
                            · exact me_str
                            · exact ma_nil
                  · refine mss_frz ?_
                    refine mss_cons ?_ ?_
                    · refine ms_if ?_ ?_ ?_
                      · refine mt_cmp c ?_ ?_
                        · refine me_lc (own := [("one", 7)]) (sl := [7]) c ?_ (blkOk_by (own := [("one", 7)]) (N := N_law) (sc := defScope s_law) (by decide +kernel)) (fun _ _ _ _ _ => ?_) (by decide) (fun _ _ _ _ _ => ?_) (fun _ _ _ _ _ => ?_)
                          · refine mi_seq ?_
                            exact mv 5
                          · exact mg_name (Cok.nd (c.blk _ _ _ _ _)) rfl (Or.inl rfl)
                          · exact mts_nil
                          · refine me_fn F_law_kind_of (hr.mono (by omega)) rfl ?_ (al_cons al_nil)
                            refine ma_cons ?_ ?_
                            · exact mv 7
                            · exact ma_nil
                        · refine me_lc (own := [("one", 7)]) (sl := [7]) c ?_ (blkOk_by (own := [("one", 7)]) (N := N_law) (sc := defScope s_law) (by decide +kernel)) (fun _ _ _ _ _ => ?_) (by decide) (fun _ _ _ _ _ => ?_) (fun _ _ _ _ _ => ?_)
                          · refine mi_seq ?_
                            exact mv 6
                          · exact mg_name (Cok.nd (c.blk _ _ _ _ _)) rfl (Or.inl rfl)
                          · exact mts_nil
                          · refine me_bin ?_ ?_
                            · exact mv 7
                            · exact me_str
                      · refine mss_cons ?_ ?_
                        · refine ms_ret ?_
                          exact me_bl
                        · exact mss_nil
                      · exact mss_nil
                    · refine mss_cons ?_ ?_
                      · refine ms_if ?_ ?_ ?_
                        · refine mt_cmp c ?_ ?_
                          · refine me_lc (own := [("one", 7)]) (sl := [7]) c ?_ (blkOk_by (own := [("one", 7)]) (N := N_law) (sc := defScope s_law) (by decide +kernel)) (fun _ _ _ _ _ => ?_) (by decide) (fun _ _ _ _ _ => ?_) (fun _ _ _ _ _ => ?_)
                            · refine mi_seq ?_
                              exact mv 5
                            · exact mg_name (Cok.nd (c.blk _ _ _ _ _)) rfl (Or.inl rfl)
                            · refine mts_one ?_
                              refine mt_not ?_
                              refine mt_val ?_
                              refine me_isyE T.i_WageError rfl T.z_isinstance rfl ?_
                              exact mv 7
                            · exact mv 7
                          · refine me_lst ?_
                            exact ma_nil
                        · refine mss_cons ?_ ?_
                          · refine ms_ret ?_
                            exact me_bl
                          · exact mss_nil
                        · exact mss_nil
                      · refine mss_cons ?_ ?_
                        · refine ms_ret ?_
                          refine me_and ?_ ?_
                          · refine me_cmp c ?_ ?_
                            · refine me_fld T.f_faults ?_
                              refine me_sub ?_ ?_
                              · exact mv 5
                              · exact me_int
                            · exact mv 3
                          · refine me_and ?_ ?_
                            · refine me_cmp c ?_ ?_
                              · refine me_fld T.f_most ?_
                                refine me_sub ?_ ?_
                                · exact mv 5
                                · exact me_int
                              · exact mv 4
                            · refine me_one ?_
                              refine me_cmp c ?_ ?_
                              · refine me_callTy (cd_strX c T.s_str) rfl T.z_str bt_str ?_
                                refine ma_cons ?_ ?_
                                · refine me_sub ?_ ?_
                                  · exact mv 5
                                  · exact me_int
                                · exact ma_nil
                              · exact mv 2
                        · exact mss_nil
end K96
namespace K96
open PySem PySem.Spec L2 Z ZX K01
open PyProof.Rows hiding St
set_option maxHeartbeats 4000000 in
theorem all_mk {l : PySem.W.OpenLaw} {w : World} {K : PySem.W.Frag} {h : Heap} {mg : Str → Option Value} {fa : Addr} (X : K.In h) (G : h.Ns mainGlobals mg) (hfa : mg "law" = some (.ref fa))
    {f0 : Addr} {od0 an0 : Option Addr} {sl0 : Array (Option Value)} {oc0 kV0 dc0 pm0 cd0 ct0 : Value}
    {f1 : Addr} {od1 an1 : Option Addr} {sl1 : Array (Option Value)} {oc1 kV1 dc1 pm1 cd1 ct1 : Value}
    {f2 : Addr} {od2 an2 : Option Addr} {sl2 : Array (Option Value)} {oc2 kV2 dc2 pm2 cd2 ct2 : Value}
    {f3 : Addr} {od3 an3 : Option Addr} {sl3 : Array (Option Value)} {oc3 kV3 dc3 pm3 cd3 ct3 : Value}
    {f4 : Addr} {od4 an4 : Option Addr} {sl4 : Array (Option Value)} {oc4 kV4 dc4 pm4 cd4 ct4 : Value}
    {C_Faulty : Addr}
    {C_NoArticles : Addr}
    {C_NoMan : Addr}
    {C_NoPage : Addr}
    {C_NoPages : Addr}
    {C_NoRank : Addr}
    {C_NoRow : Addr}
    {C_NoSum : Addr}
    {C_NoText : Addr}
    {C_NotThere : Addr}
    {C_NothingLeft : Addr}
    {C_TooMany : Addr}
    {C_TooMuch : Addr}
    {C_Twice : Addr}
    {C_WageError : Addr}
    {fI_Faulty : Addr} {odI_Faulty anI_Faulty : Option Addr} {slI_Faulty : Array (Option Value)} {ocI_Faulty kVI_Faulty dcI_Faulty pmI_Faulty cdI_Faulty ctI_Faulty : Value}
    {fI_TooMuch : Addr} {odI_TooMuch anI_TooMuch : Option Addr} {slI_TooMuch : Array (Option Value)} {ocI_TooMuch kVI_TooMuch dcI_TooMuch pmI_TooMuch cdI_TooMuch ctI_TooMuch : Value}
    (a0 : PySem.W.nsIn K mainGlobals "_law_draws" = some (some (.ref f0))) (l0 : K.lookup f0 = some ⟨oc0, od0, .func (PySem.W.fnOf "_law_draws" "_law_draws" (defArgs s_law_draws) (defBody s_law_draws) (defScope s_law_draws) .none kV0 dc0 pm0 an0 cd0 ct0), sl0⟩) (c0 : PySem.W.codeIn K cd0 "_law_draws" = true) (k0 : PySem.W.keepIn K (.ref f0) = true)
    (a1 : PySem.W.nsIn K mainGlobals "_law_draw" = some (some (.ref f1))) (l1 : K.lookup f1 = some ⟨oc1, od1, .func (PySem.W.fnOf "_law_draw" "_law_draw" (defArgs s_law_draw) (defBody s_law_draw) (defScope s_law_draw) .none kV1 dc1 pm1 an1 cd1 ct1), sl1⟩) (c1 : PySem.W.codeIn K cd1 "_law_draw" = true) (k1 : PySem.W.keepIn K (.ref f1) = true)
    (a2 : PySem.W.nsIn K mainGlobals "_law_names" = some (some (.ref f2))) (l2 : K.lookup f2 = some ⟨oc2, od2, .func (PySem.W.fnOf "_law_names" "_law_names" (defArgs s_law_names) (defBody s_law_names) (defScope s_law_names) .none kV2 dc2 pm2 an2 cd2 ct2), sl2⟩) (c2 : PySem.W.codeIn K cd2 "_law_names" = true) (k2 : PySem.W.keepIn K (.ref f2) = true)
    (a3 : PySem.W.nsIn K mainGlobals "_law_kind_of" = some (some (.ref f3))) (l3 : K.lookup f3 = some ⟨oc3, od3, .func (PySem.W.fnOf "_law_kind_of" "_law_kind_of" (defArgs s_law_kind_of) (defBody s_law_kind_of) (defScope s_law_kind_of) .none kV3 dc3 pm3 an3 cd3 ct3), sl3⟩) (c3 : PySem.W.codeIn K cd3 "_law_kind_of" = true) (k3 : PySem.W.keepIn K (.ref f3) = true)
    (a4 : PySem.W.nsIn K mainGlobals "law" = some (some (.ref f4))) (l4 : K.lookup f4 = some ⟨oc4, od4, .func (PySem.W.fnOf "law" "law" (defArgs s_law) (defBody s_law) (defScope s_law) .none kV4 dc4 pm4 an4 cd4 ct4), sl4⟩) (c4 : PySem.W.codeIn K cd4 "law" = true) (k4 : PySem.W.keepIn K (.ref f4) = true)
    (z_int : PySem.W.nsIn K mainGlobals "int" = some none)
    (z_isinstance : PySem.W.nsIn K mainGlobals "isinstance" = some none)
    (z_len : PySem.W.nsIn K mainGlobals "len" = some none)
    (z_range : PySem.W.nsIn K mainGlobals "range" = some none)
    (z_sorted : PySem.W.nsIn K mainGlobals "sorted" = some none)
    (z_str : PySem.W.nsIn K mainGlobals "str" = some none)
    (x_hn : PySem.W.specialIn K (.builtin "object.__class__") "__get__" = some (some (.builtin "getset_descriptor.__get__")))
    (x_ht : PySem.W.takesIn K (.builtin "object.__class__") = some true)
    (n_Faulty : PySem.W.nsIn K mainGlobals "Faulty" = some (some (.ref C_Faulty)))
    (n_NoArticles : PySem.W.nsIn K mainGlobals "NoArticles" = some (some (.ref C_NoArticles)))
    (n_NoMan : PySem.W.nsIn K mainGlobals "NoMan" = some (some (.ref C_NoMan)))
    (n_NoPage : PySem.W.nsIn K mainGlobals "NoPage" = some (some (.ref C_NoPage)))
    (n_NoPages : PySem.W.nsIn K mainGlobals "NoPages" = some (some (.ref C_NoPages)))
    (n_NoRank : PySem.W.nsIn K mainGlobals "NoRank" = some (some (.ref C_NoRank)))
    (n_NoRow : PySem.W.nsIn K mainGlobals "NoRow" = some (some (.ref C_NoRow)))
    (n_NoSum : PySem.W.nsIn K mainGlobals "NoSum" = some (some (.ref C_NoSum)))
    (n_NoText : PySem.W.nsIn K mainGlobals "NoText" = some (some (.ref C_NoText)))
    (n_NotThere : PySem.W.nsIn K mainGlobals "NotThere" = some (some (.ref C_NotThere)))
    (n_NothingLeft : PySem.W.nsIn K mainGlobals "NothingLeft" = some (some (.ref C_NothingLeft)))
    (n_TooMany : PySem.W.nsIn K mainGlobals "TooMany" = some (some (.ref C_TooMany)))
    (n_TooMuch : PySem.W.nsIn K mainGlobals "TooMuch" = some (some (.ref C_TooMuch)))
    (n_Twice : PySem.W.nsIn K mainGlobals "Twice" = some (some (.ref C_Twice)))
    (n_WageError : PySem.W.nsIn K mainGlobals "WageError" = some (some (.ref C_WageError)))
    (xg_Faulty : PySem.W.findIn K (.ref C_Faulty) "__getattribute__" = some (some (.builtin "BaseException.__getattribute__")))
    (xh_Faulty : PySem.W.findIn K (.ref C_Faulty) "__getattr__" = some none)
    (xb_Faulty : PySem.W.mroIn K C_Faulty (.type "BaseException") = some true)
    (xo_Faulty : PySem.W.mroIn K C_Faulty (.type "object") = some true)
    (xd_Faulty : PySem.W.hasDictIn K C_Faulty = true)
    (xc_Faulty : PySem.W.findIn K (.ref C_Faulty) "__class__" = some (some (.builtin "object.__class__")))
    (xg_NoArticles : PySem.W.findIn K (.ref C_NoArticles) "__getattribute__" = some (some (.builtin "BaseException.__getattribute__")))
    (xh_NoArticles : PySem.W.findIn K (.ref C_NoArticles) "__getattr__" = some none)
    (xb_NoArticles : PySem.W.mroIn K C_NoArticles (.type "BaseException") = some true)
    (xo_NoArticles : PySem.W.mroIn K C_NoArticles (.type "object") = some true)
    (xd_NoArticles : PySem.W.hasDictIn K C_NoArticles = true)
    (xc_NoArticles : PySem.W.findIn K (.ref C_NoArticles) "__class__" = some (some (.builtin "object.__class__")))
    (xg_NoMan : PySem.W.findIn K (.ref C_NoMan) "__getattribute__" = some (some (.builtin "BaseException.__getattribute__")))
    (xh_NoMan : PySem.W.findIn K (.ref C_NoMan) "__getattr__" = some none)
    (xb_NoMan : PySem.W.mroIn K C_NoMan (.type "BaseException") = some true)
    (xo_NoMan : PySem.W.mroIn K C_NoMan (.type "object") = some true)
    (xd_NoMan : PySem.W.hasDictIn K C_NoMan = true)
    (xc_NoMan : PySem.W.findIn K (.ref C_NoMan) "__class__" = some (some (.builtin "object.__class__")))
    (xg_NoPage : PySem.W.findIn K (.ref C_NoPage) "__getattribute__" = some (some (.builtin "BaseException.__getattribute__")))
    (xh_NoPage : PySem.W.findIn K (.ref C_NoPage) "__getattr__" = some none)
    (xb_NoPage : PySem.W.mroIn K C_NoPage (.type "BaseException") = some true)
    (xo_NoPage : PySem.W.mroIn K C_NoPage (.type "object") = some true)
    (xd_NoPage : PySem.W.hasDictIn K C_NoPage = true)
    (xc_NoPage : PySem.W.findIn K (.ref C_NoPage) "__class__" = some (some (.builtin "object.__class__")))
    (xg_NoPages : PySem.W.findIn K (.ref C_NoPages) "__getattribute__" = some (some (.builtin "BaseException.__getattribute__")))
    (xh_NoPages : PySem.W.findIn K (.ref C_NoPages) "__getattr__" = some none)
    (xb_NoPages : PySem.W.mroIn K C_NoPages (.type "BaseException") = some true)
    (xo_NoPages : PySem.W.mroIn K C_NoPages (.type "object") = some true)
    (xd_NoPages : PySem.W.hasDictIn K C_NoPages = true)
    (xc_NoPages : PySem.W.findIn K (.ref C_NoPages) "__class__" = some (some (.builtin "object.__class__")))
    (xg_NoRank : PySem.W.findIn K (.ref C_NoRank) "__getattribute__" = some (some (.builtin "BaseException.__getattribute__")))
    (xh_NoRank : PySem.W.findIn K (.ref C_NoRank) "__getattr__" = some none)
    (xb_NoRank : PySem.W.mroIn K C_NoRank (.type "BaseException") = some true)
    (xo_NoRank : PySem.W.mroIn K C_NoRank (.type "object") = some true)
    (xd_NoRank : PySem.W.hasDictIn K C_NoRank = true)
    (xc_NoRank : PySem.W.findIn K (.ref C_NoRank) "__class__" = some (some (.builtin "object.__class__")))
    (xg_NoRow : PySem.W.findIn K (.ref C_NoRow) "__getattribute__" = some (some (.builtin "BaseException.__getattribute__")))
    (xh_NoRow : PySem.W.findIn K (.ref C_NoRow) "__getattr__" = some none)
    (xb_NoRow : PySem.W.mroIn K C_NoRow (.type "BaseException") = some true)
    (xo_NoRow : PySem.W.mroIn K C_NoRow (.type "object") = some true)
    (xd_NoRow : PySem.W.hasDictIn K C_NoRow = true)
    (xc_NoRow : PySem.W.findIn K (.ref C_NoRow) "__class__" = some (some (.builtin "object.__class__")))
    (xg_NoSum : PySem.W.findIn K (.ref C_NoSum) "__getattribute__" = some (some (.builtin "BaseException.__getattribute__")))
    (xh_NoSum : PySem.W.findIn K (.ref C_NoSum) "__getattr__" = some none)
    (xb_NoSum : PySem.W.mroIn K C_NoSum (.type "BaseException") = some true)
    (xo_NoSum : PySem.W.mroIn K C_NoSum (.type "object") = some true)
    (xd_NoSum : PySem.W.hasDictIn K C_NoSum = true)
    (xc_NoSum : PySem.W.findIn K (.ref C_NoSum) "__class__" = some (some (.builtin "object.__class__")))
    (xg_NoText : PySem.W.findIn K (.ref C_NoText) "__getattribute__" = some (some (.builtin "BaseException.__getattribute__")))
    (xh_NoText : PySem.W.findIn K (.ref C_NoText) "__getattr__" = some none)
    (xb_NoText : PySem.W.mroIn K C_NoText (.type "BaseException") = some true)
    (xo_NoText : PySem.W.mroIn K C_NoText (.type "object") = some true)
    (xd_NoText : PySem.W.hasDictIn K C_NoText = true)
    (xc_NoText : PySem.W.findIn K (.ref C_NoText) "__class__" = some (some (.builtin "object.__class__")))
    (xg_NotThere : PySem.W.findIn K (.ref C_NotThere) "__getattribute__" = some (some (.builtin "BaseException.__getattribute__")))
    (xh_NotThere : PySem.W.findIn K (.ref C_NotThere) "__getattr__" = some none)
    (xb_NotThere : PySem.W.mroIn K C_NotThere (.type "BaseException") = some true)
    (xo_NotThere : PySem.W.mroIn K C_NotThere (.type "object") = some true)
    (xd_NotThere : PySem.W.hasDictIn K C_NotThere = true)
    (xc_NotThere : PySem.W.findIn K (.ref C_NotThere) "__class__" = some (some (.builtin "object.__class__")))
    (xg_NothingLeft : PySem.W.findIn K (.ref C_NothingLeft) "__getattribute__" = some (some (.builtin "BaseException.__getattribute__")))
    (xh_NothingLeft : PySem.W.findIn K (.ref C_NothingLeft) "__getattr__" = some none)
    (xb_NothingLeft : PySem.W.mroIn K C_NothingLeft (.type "BaseException") = some true)
    (xo_NothingLeft : PySem.W.mroIn K C_NothingLeft (.type "object") = some true)
    (xd_NothingLeft : PySem.W.hasDictIn K C_NothingLeft = true)
    (xc_NothingLeft : PySem.W.findIn K (.ref C_NothingLeft) "__class__" = some (some (.builtin "object.__class__")))
    (xg_TooMany : PySem.W.findIn K (.ref C_TooMany) "__getattribute__" = some (some (.builtin "BaseException.__getattribute__")))
    (xh_TooMany : PySem.W.findIn K (.ref C_TooMany) "__getattr__" = some none)
    (xb_TooMany : PySem.W.mroIn K C_TooMany (.type "BaseException") = some true)
    (xo_TooMany : PySem.W.mroIn K C_TooMany (.type "object") = some true)
    (xd_TooMany : PySem.W.hasDictIn K C_TooMany = true)
    (xc_TooMany : PySem.W.findIn K (.ref C_TooMany) "__class__" = some (some (.builtin "object.__class__")))
    (xg_TooMuch : PySem.W.findIn K (.ref C_TooMuch) "__getattribute__" = some (some (.builtin "BaseException.__getattribute__")))
    (xh_TooMuch : PySem.W.findIn K (.ref C_TooMuch) "__getattr__" = some none)
    (xb_TooMuch : PySem.W.mroIn K C_TooMuch (.type "BaseException") = some true)
    (xo_TooMuch : PySem.W.mroIn K C_TooMuch (.type "object") = some true)
    (xd_TooMuch : PySem.W.hasDictIn K C_TooMuch = true)
    (xc_TooMuch : PySem.W.findIn K (.ref C_TooMuch) "__class__" = some (some (.builtin "object.__class__")))
    (xg_Twice : PySem.W.findIn K (.ref C_Twice) "__getattribute__" = some (some (.builtin "BaseException.__getattribute__")))
    (xh_Twice : PySem.W.findIn K (.ref C_Twice) "__getattr__" = some none)
    (xb_Twice : PySem.W.mroIn K C_Twice (.type "BaseException") = some true)
    (xo_Twice : PySem.W.mroIn K C_Twice (.type "object") = some true)
    (xd_Twice : PySem.W.hasDictIn K C_Twice = true)
    (xc_Twice : PySem.W.findIn K (.ref C_Twice) "__class__" = some (some (.builtin "object.__class__")))
    (i_Faulty_Faulty : PySem.W.kitOne K (.ref C_Faulty) (.ref C_Faulty) = some true)
    (i_NoArticles_Faulty : PySem.W.kitOne K (.ref C_NoArticles) (.ref C_Faulty) = some false)
    (i_NoMan_Faulty : PySem.W.kitOne K (.ref C_NoMan) (.ref C_Faulty) = some false)
    (i_NoPage_Faulty : PySem.W.kitOne K (.ref C_NoPage) (.ref C_Faulty) = some false)
    (i_NoPages_Faulty : PySem.W.kitOne K (.ref C_NoPages) (.ref C_Faulty) = some false)
    (i_NoRank_Faulty : PySem.W.kitOne K (.ref C_NoRank) (.ref C_Faulty) = some false)
    (i_NoRow_Faulty : PySem.W.kitOne K (.ref C_NoRow) (.ref C_Faulty) = some false)
    (i_NoSum_Faulty : PySem.W.kitOne K (.ref C_NoSum) (.ref C_Faulty) = some false)
    (i_NoText_Faulty : PySem.W.kitOne K (.ref C_NoText) (.ref C_Faulty) = some false)
    (i_NotThere_Faulty : PySem.W.kitOne K (.ref C_NotThere) (.ref C_Faulty) = some false)
    (i_NothingLeft_Faulty : PySem.W.kitOne K (.ref C_NothingLeft) (.ref C_Faulty) = some false)
    (i_TooMany_Faulty : PySem.W.kitOne K (.ref C_TooMany) (.ref C_Faulty) = some false)
    (i_TooMuch_Faulty : PySem.W.kitOne K (.ref C_TooMuch) (.ref C_Faulty) = some false)
    (i_Twice_Faulty : PySem.W.kitOne K (.ref C_Twice) (.ref C_Faulty) = some false)
    (i_Faulty_NoArticles : PySem.W.kitOne K (.ref C_Faulty) (.ref C_NoArticles) = some false)
    (i_NoArticles_NoArticles : PySem.W.kitOne K (.ref C_NoArticles) (.ref C_NoArticles) = some true)
    (i_NoMan_NoArticles : PySem.W.kitOne K (.ref C_NoMan) (.ref C_NoArticles) = some false)
    (i_NoPage_NoArticles : PySem.W.kitOne K (.ref C_NoPage) (.ref C_NoArticles) = some false)
    (i_NoPages_NoArticles : PySem.W.kitOne K (.ref C_NoPages) (.ref C_NoArticles) = some false)
    (i_NoRank_NoArticles : PySem.W.kitOne K (.ref C_NoRank) (.ref C_NoArticles) = some false)
    (i_NoRow_NoArticles : PySem.W.kitOne K (.ref C_NoRow) (.ref C_NoArticles) = some false)
    (i_NoSum_NoArticles : PySem.W.kitOne K (.ref C_NoSum) (.ref C_NoArticles) = some false)
    (i_NoText_NoArticles : PySem.W.kitOne K (.ref C_NoText) (.ref C_NoArticles) = some false)
    (i_NotThere_NoArticles : PySem.W.kitOne K (.ref C_NotThere) (.ref C_NoArticles) = some false)
    (i_NothingLeft_NoArticles : PySem.W.kitOne K (.ref C_NothingLeft) (.ref C_NoArticles) = some false)
    (i_TooMany_NoArticles : PySem.W.kitOne K (.ref C_TooMany) (.ref C_NoArticles) = some false)
    (i_TooMuch_NoArticles : PySem.W.kitOne K (.ref C_TooMuch) (.ref C_NoArticles) = some false)
    (i_Twice_NoArticles : PySem.W.kitOne K (.ref C_Twice) (.ref C_NoArticles) = some false)
    (i_Faulty_NoMan : PySem.W.kitOne K (.ref C_Faulty) (.ref C_NoMan) = some false)
    (i_NoArticles_NoMan : PySem.W.kitOne K (.ref C_NoArticles) (.ref C_NoMan) = some false)
    (i_NoMan_NoMan : PySem.W.kitOne K (.ref C_NoMan) (.ref C_NoMan) = some true)
    (i_NoPage_NoMan : PySem.W.kitOne K (.ref C_NoPage) (.ref C_NoMan) = some false)
    (i_NoPages_NoMan : PySem.W.kitOne K (.ref C_NoPages) (.ref C_NoMan) = some false)
    (i_NoRank_NoMan : PySem.W.kitOne K (.ref C_NoRank) (.ref C_NoMan) = some false)
    (i_NoRow_NoMan : PySem.W.kitOne K (.ref C_NoRow) (.ref C_NoMan) = some false)
    (i_NoSum_NoMan : PySem.W.kitOne K (.ref C_NoSum) (.ref C_NoMan) = some false)
    (i_NoText_NoMan : PySem.W.kitOne K (.ref C_NoText) (.ref C_NoMan) = some false)
    (i_NotThere_NoMan : PySem.W.kitOne K (.ref C_NotThere) (.ref C_NoMan) = some false)
    (i_NothingLeft_NoMan : PySem.W.kitOne K (.ref C_NothingLeft) (.ref C_NoMan) = some false)
    (i_TooMany_NoMan : PySem.W.kitOne K (.ref C_TooMany) (.ref C_NoMan) = some false)
    (i_TooMuch_NoMan : PySem.W.kitOne K (.ref C_TooMuch) (.ref C_NoMan) = some false)
    (i_Twice_NoMan : PySem.W.kitOne K (.ref C_Twice) (.ref C_NoMan) = some false)
    (i_Faulty_NoPage : PySem.W.kitOne K (.ref C_Faulty) (.ref C_NoPage) = some false)
    (i_NoArticles_NoPage : PySem.W.kitOne K (.ref C_NoArticles) (.ref C_NoPage) = some false)
    (i_NoMan_NoPage : PySem.W.kitOne K (.ref C_NoMan) (.ref C_NoPage) = some false)
    (i_NoPage_NoPage : PySem.W.kitOne K (.ref C_NoPage) (.ref C_NoPage) = some true)
    (i_NoPages_NoPage : PySem.W.kitOne K (.ref C_NoPages) (.ref C_NoPage) = some false)
    (i_NoRank_NoPage : PySem.W.kitOne K (.ref C_NoRank) (.ref C_NoPage) = some false)
    (i_NoRow_NoPage : PySem.W.kitOne K (.ref C_NoRow) (.ref C_NoPage) = some false)
    (i_NoSum_NoPage : PySem.W.kitOne K (.ref C_NoSum) (.ref C_NoPage) = some false)
    (i_NoText_NoPage : PySem.W.kitOne K (.ref C_NoText) (.ref C_NoPage) = some false)
    (i_NotThere_NoPage : PySem.W.kitOne K (.ref C_NotThere) (.ref C_NoPage) = some false)
    (i_NothingLeft_NoPage : PySem.W.kitOne K (.ref C_NothingLeft) (.ref C_NoPage) = some false)
    (i_TooMany_NoPage : PySem.W.kitOne K (.ref C_TooMany) (.ref C_NoPage) = some false)
    (i_TooMuch_NoPage : PySem.W.kitOne K (.ref C_TooMuch) (.ref C_NoPage) = some false)
    (i_Twice_NoPage : PySem.W.kitOne K (.ref C_Twice) (.ref C_NoPage) = some false)
    (i_Faulty_NoPages : PySem.W.kitOne K (.ref C_Faulty) (.ref C_NoPages) = some false)
    (i_NoArticles_NoPages : PySem.W.kitOne K (.ref C_NoArticles) (.ref C_NoPages) = some false)
    (i_NoMan_NoPages : PySem.W.kitOne K (.ref C_NoMan) (.ref C_NoPages) = some false)
    (i_NoPage_NoPages : PySem.W.kitOne K (.ref C_NoPage) (.ref C_NoPages) = some false)
    (i_NoPages_NoPages : PySem.W.kitOne K (.ref C_NoPages) (.ref C_NoPages) = some true)
    (i_NoRank_NoPages : PySem.W.kitOne K (.ref C_NoRank) (.ref C_NoPages) = some false)
    (i_NoRow_NoPages : PySem.W.kitOne K (.ref C_NoRow) (.ref C_NoPages) = some false)
    (i_NoSum_NoPages : PySem.W.kitOne K (.ref C_NoSum) (.ref C_NoPages) = some false)
    (i_NoText_NoPages : PySem.W.kitOne K (.ref C_NoText) (.ref C_NoPages) = some false)
    (i_NotThere_NoPages : PySem.W.kitOne K (.ref C_NotThere) (.ref C_NoPages) = some false)
    (i_NothingLeft_NoPages : PySem.W.kitOne K (.ref C_NothingLeft) (.ref C_NoPages) = some false)
    (i_TooMany_NoPages : PySem.W.kitOne K (.ref C_TooMany) (.ref C_NoPages) = some false)
    (i_TooMuch_NoPages : PySem.W.kitOne K (.ref C_TooMuch) (.ref C_NoPages) = some false)
    (i_Twice_NoPages : PySem.W.kitOne K (.ref C_Twice) (.ref C_NoPages) = some false)
    (i_Faulty_NoRank : PySem.W.kitOne K (.ref C_Faulty) (.ref C_NoRank) = some false)
    (i_NoArticles_NoRank : PySem.W.kitOne K (.ref C_NoArticles) (.ref C_NoRank) = some false)
    (i_NoMan_NoRank : PySem.W.kitOne K (.ref C_NoMan) (.ref C_NoRank) = some false)
    (i_NoPage_NoRank : PySem.W.kitOne K (.ref C_NoPage) (.ref C_NoRank) = some false)
    (i_NoPages_NoRank : PySem.W.kitOne K (.ref C_NoPages) (.ref C_NoRank) = some false)
    (i_NoRank_NoRank : PySem.W.kitOne K (.ref C_NoRank) (.ref C_NoRank) = some true)
    (i_NoRow_NoRank : PySem.W.kitOne K (.ref C_NoRow) (.ref C_NoRank) = some false)
    (i_NoSum_NoRank : PySem.W.kitOne K (.ref C_NoSum) (.ref C_NoRank) = some false)
    (i_NoText_NoRank : PySem.W.kitOne K (.ref C_NoText) (.ref C_NoRank) = some false)
    (i_NotThere_NoRank : PySem.W.kitOne K (.ref C_NotThere) (.ref C_NoRank) = some false)
    (i_NothingLeft_NoRank : PySem.W.kitOne K (.ref C_NothingLeft) (.ref C_NoRank) = some false)
    (i_TooMany_NoRank : PySem.W.kitOne K (.ref C_TooMany) (.ref C_NoRank) = some false)
    (i_TooMuch_NoRank : PySem.W.kitOne K (.ref C_TooMuch) (.ref C_NoRank) = some false)
    (i_Twice_NoRank : PySem.W.kitOne K (.ref C_Twice) (.ref C_NoRank) = some false)
    (i_Faulty_NoRow : PySem.W.kitOne K (.ref C_Faulty) (.ref C_NoRow) = some false)
    (i_NoArticles_NoRow : PySem.W.kitOne K (.ref C_NoArticles) (.ref C_NoRow) = some false)
    (i_NoMan_NoRow : PySem.W.kitOne K (.ref C_NoMan) (.ref C_NoRow) = some false)
    (i_NoPage_NoRow : PySem.W.kitOne K (.ref C_NoPage) (.ref C_NoRow) = some false)
    (i_NoPages_NoRow : PySem.W.kitOne K (.ref C_NoPages) (.ref C_NoRow) = some false)
    (i_NoRank_NoRow : PySem.W.kitOne K (.ref C_NoRank) (.ref C_NoRow) = some false)
    (i_NoRow_NoRow : PySem.W.kitOne K (.ref C_NoRow) (.ref C_NoRow) = some true)
    (i_NoSum_NoRow : PySem.W.kitOne K (.ref C_NoSum) (.ref C_NoRow) = some false)
    (i_NoText_NoRow : PySem.W.kitOne K (.ref C_NoText) (.ref C_NoRow) = some false)
    (i_NotThere_NoRow : PySem.W.kitOne K (.ref C_NotThere) (.ref C_NoRow) = some false)
    (i_NothingLeft_NoRow : PySem.W.kitOne K (.ref C_NothingLeft) (.ref C_NoRow) = some false)
    (i_TooMany_NoRow : PySem.W.kitOne K (.ref C_TooMany) (.ref C_NoRow) = some false)
    (i_TooMuch_NoRow : PySem.W.kitOne K (.ref C_TooMuch) (.ref C_NoRow) = some false)
    (i_Twice_NoRow : PySem.W.kitOne K (.ref C_Twice) (.ref C_NoRow) = some false)
    (i_Faulty_NoSum : PySem.W.kitOne K (.ref C_Faulty) (.ref C_NoSum) = some false)
    (i_NoArticles_NoSum : PySem.W.kitOne K (.ref C_NoArticles) (.ref C_NoSum) = some false)
    (i_NoMan_NoSum : PySem.W.kitOne K (.ref C_NoMan) (.ref C_NoSum) = some false)
    (i_NoPage_NoSum : PySem.W.kitOne K (.ref C_NoPage) (.ref C_NoSum) = some false)
    (i_NoPages_NoSum : PySem.W.kitOne K (.ref C_NoPages) (.ref C_NoSum) = some false)
    (i_NoRank_NoSum : PySem.W.kitOne K (.ref C_NoRank) (.ref C_NoSum) = some false)
    (i_NoRow_NoSum : PySem.W.kitOne K (.ref C_NoRow) (.ref C_NoSum) = some false)
    (i_NoSum_NoSum : PySem.W.kitOne K (.ref C_NoSum) (.ref C_NoSum) = some true)
    (i_NoText_NoSum : PySem.W.kitOne K (.ref C_NoText) (.ref C_NoSum) = some false)
    (i_NotThere_NoSum : PySem.W.kitOne K (.ref C_NotThere) (.ref C_NoSum) = some false)
    (i_NothingLeft_NoSum : PySem.W.kitOne K (.ref C_NothingLeft) (.ref C_NoSum) = some false)
    (i_TooMany_NoSum : PySem.W.kitOne K (.ref C_TooMany) (.ref C_NoSum) = some false)
    (i_TooMuch_NoSum : PySem.W.kitOne K (.ref C_TooMuch) (.ref C_NoSum) = some false)
    (i_Twice_NoSum : PySem.W.kitOne K (.ref C_Twice) (.ref C_NoSum) = some false)
    (i_Faulty_NoText : PySem.W.kitOne K (.ref C_Faulty) (.ref C_NoText) = some false)
    (i_NoArticles_NoText : PySem.W.kitOne K (.ref C_NoArticles) (.ref C_NoText) = some false)
    (i_NoMan_NoText : PySem.W.kitOne K (.ref C_NoMan) (.ref C_NoText) = some false)
    (i_NoPage_NoText : PySem.W.kitOne K (.ref C_NoPage) (.ref C_NoText) = some false)
    (i_NoPages_NoText : PySem.W.kitOne K (.ref C_NoPages) (.ref C_NoText) = some false)
    (i_NoRank_NoText : PySem.W.kitOne K (.ref C_NoRank) (.ref C_NoText) = some false)
    (i_NoRow_NoText : PySem.W.kitOne K (.ref C_NoRow) (.ref C_NoText) = some false)
    (i_NoSum_NoText : PySem.W.kitOne K (.ref C_NoSum) (.ref C_NoText) = some false)
    (i_NoText_NoText : PySem.W.kitOne K (.ref C_NoText) (.ref C_NoText) = some true)
    (i_NotThere_NoText : PySem.W.kitOne K (.ref C_NotThere) (.ref C_NoText) = some false)
    (i_NothingLeft_NoText : PySem.W.kitOne K (.ref C_NothingLeft) (.ref C_NoText) = some false)
    (i_TooMany_NoText : PySem.W.kitOne K (.ref C_TooMany) (.ref C_NoText) = some false)
    (i_TooMuch_NoText : PySem.W.kitOne K (.ref C_TooMuch) (.ref C_NoText) = some false)
    (i_Twice_NoText : PySem.W.kitOne K (.ref C_Twice) (.ref C_NoText) = some false)
    (i_Faulty_NotThere : PySem.W.kitOne K (.ref C_Faulty) (.ref C_NotThere) = some false)
    (i_NoArticles_NotThere : PySem.W.kitOne K (.ref C_NoArticles) (.ref C_NotThere) = some false)
    (i_NoMan_NotThere : PySem.W.kitOne K (.ref C_NoMan) (.ref C_NotThere) = some false)
    (i_NoPage_NotThere : PySem.W.kitOne K (.ref C_NoPage) (.ref C_NotThere) = some false)
    (i_NoPages_NotThere : PySem.W.kitOne K (.ref C_NoPages) (.ref C_NotThere) = some false)
    (i_NoRank_NotThere : PySem.W.kitOne K (.ref C_NoRank) (.ref C_NotThere) = some false)
    (i_NoRow_NotThere : PySem.W.kitOne K (.ref C_NoRow) (.ref C_NotThere) = some false)
    (i_NoSum_NotThere : PySem.W.kitOne K (.ref C_NoSum) (.ref C_NotThere) = some false)
    (i_NoText_NotThere : PySem.W.kitOne K (.ref C_NoText) (.ref C_NotThere) = some false)
    (i_NotThere_NotThere : PySem.W.kitOne K (.ref C_NotThere) (.ref C_NotThere) = some true)
    (i_NothingLeft_NotThere : PySem.W.kitOne K (.ref C_NothingLeft) (.ref C_NotThere) = some false)
    (i_TooMany_NotThere : PySem.W.kitOne K (.ref C_TooMany) (.ref C_NotThere) = some false)
    (i_TooMuch_NotThere : PySem.W.kitOne K (.ref C_TooMuch) (.ref C_NotThere) = some false)
    (i_Twice_NotThere : PySem.W.kitOne K (.ref C_Twice) (.ref C_NotThere) = some false)
    (i_Faulty_NothingLeft : PySem.W.kitOne K (.ref C_Faulty) (.ref C_NothingLeft) = some false)
    (i_NoArticles_NothingLeft : PySem.W.kitOne K (.ref C_NoArticles) (.ref C_NothingLeft) = some false)
    (i_NoMan_NothingLeft : PySem.W.kitOne K (.ref C_NoMan) (.ref C_NothingLeft) = some false)
    (i_NoPage_NothingLeft : PySem.W.kitOne K (.ref C_NoPage) (.ref C_NothingLeft) = some false)
    (i_NoPages_NothingLeft : PySem.W.kitOne K (.ref C_NoPages) (.ref C_NothingLeft) = some false)
    (i_NoRank_NothingLeft : PySem.W.kitOne K (.ref C_NoRank) (.ref C_NothingLeft) = some false)
    (i_NoRow_NothingLeft : PySem.W.kitOne K (.ref C_NoRow) (.ref C_NothingLeft) = some false)
    (i_NoSum_NothingLeft : PySem.W.kitOne K (.ref C_NoSum) (.ref C_NothingLeft) = some false)
    (i_NoText_NothingLeft : PySem.W.kitOne K (.ref C_NoText) (.ref C_NothingLeft) = some false)
    (i_NotThere_NothingLeft : PySem.W.kitOne K (.ref C_NotThere) (.ref C_NothingLeft) = some false)
    (i_NothingLeft_NothingLeft : PySem.W.kitOne K (.ref C_NothingLeft) (.ref C_NothingLeft) = some true)
    (i_TooMany_NothingLeft : PySem.W.kitOne K (.ref C_TooMany) (.ref C_NothingLeft) = some false)
    (i_TooMuch_NothingLeft : PySem.W.kitOne K (.ref C_TooMuch) (.ref C_NothingLeft) = some false)
    (i_Twice_NothingLeft : PySem.W.kitOne K (.ref C_Twice) (.ref C_NothingLeft) = some false)
    (i_Faulty_TooMany : PySem.W.kitOne K (.ref C_Faulty) (.ref C_TooMany) = some false)
    (i_NoArticles_TooMany : PySem.W.kitOne K (.ref C_NoArticles) (.ref C_TooMany) = some false)
    (i_NoMan_TooMany : PySem.W.kitOne K (.ref C_NoMan) (.ref C_TooMany) = some false)
    (i_NoPage_TooMany : PySem.W.kitOne K (.ref C_NoPage) (.ref C_TooMany) = some false)
    (i_NoPages_TooMany : PySem.W.kitOne K (.ref C_NoPages) (.ref C_TooMany) = some false)
    (i_NoRank_TooMany : PySem.W.kitOne K (.ref C_NoRank) (.ref C_TooMany) = some false)
    (i_NoRow_TooMany : PySem.W.kitOne K (.ref C_NoRow) (.ref C_TooMany) = some false)
    (i_NoSum_TooMany : PySem.W.kitOne K (.ref C_NoSum) (.ref C_TooMany) = some false)
    (i_NoText_TooMany : PySem.W.kitOne K (.ref C_NoText) (.ref C_TooMany) = some false)
    (i_NotThere_TooMany : PySem.W.kitOne K (.ref C_NotThere) (.ref C_TooMany) = some false)
    (i_NothingLeft_TooMany : PySem.W.kitOne K (.ref C_NothingLeft) (.ref C_TooMany) = some false)
    (i_TooMany_TooMany : PySem.W.kitOne K (.ref C_TooMany) (.ref C_TooMany) = some true)
    (i_TooMuch_TooMany : PySem.W.kitOne K (.ref C_TooMuch) (.ref C_TooMany) = some false)
    (i_Twice_TooMany : PySem.W.kitOne K (.ref C_Twice) (.ref C_TooMany) = some false)
    (i_Faulty_TooMuch : PySem.W.kitOne K (.ref C_Faulty) (.ref C_TooMuch) = some false)
    (i_NoArticles_TooMuch : PySem.W.kitOne K (.ref C_NoArticles) (.ref C_TooMuch) = some false)
    (i_NoMan_TooMuch : PySem.W.kitOne K (.ref C_NoMan) (.ref C_TooMuch) = some false)
    (i_NoPage_TooMuch : PySem.W.kitOne K (.ref C_NoPage) (.ref C_TooMuch) = some false)
    (i_NoPages_TooMuch : PySem.W.kitOne K (.ref C_NoPages) (.ref C_TooMuch) = some false)
    (i_NoRank_TooMuch : PySem.W.kitOne K (.ref C_NoRank) (.ref C_TooMuch) = some false)
    (i_NoRow_TooMuch : PySem.W.kitOne K (.ref C_NoRow) (.ref C_TooMuch) = some false)
    (i_NoSum_TooMuch : PySem.W.kitOne K (.ref C_NoSum) (.ref C_TooMuch) = some false)
    (i_NoText_TooMuch : PySem.W.kitOne K (.ref C_NoText) (.ref C_TooMuch) = some false)
    (i_NotThere_TooMuch : PySem.W.kitOne K (.ref C_NotThere) (.ref C_TooMuch) = some false)
    (i_NothingLeft_TooMuch : PySem.W.kitOne K (.ref C_NothingLeft) (.ref C_TooMuch) = some false)
    (i_TooMany_TooMuch : PySem.W.kitOne K (.ref C_TooMany) (.ref C_TooMuch) = some false)
    (i_TooMuch_TooMuch : PySem.W.kitOne K (.ref C_TooMuch) (.ref C_TooMuch) = some true)
    (i_Twice_TooMuch : PySem.W.kitOne K (.ref C_Twice) (.ref C_TooMuch) = some false)
    (i_Faulty_Twice : PySem.W.kitOne K (.ref C_Faulty) (.ref C_Twice) = some false)
    (i_NoArticles_Twice : PySem.W.kitOne K (.ref C_NoArticles) (.ref C_Twice) = some false)
    (i_NoMan_Twice : PySem.W.kitOne K (.ref C_NoMan) (.ref C_Twice) = some false)
    (i_NoPage_Twice : PySem.W.kitOne K (.ref C_NoPage) (.ref C_Twice) = some false)
    (i_NoPages_Twice : PySem.W.kitOne K (.ref C_NoPages) (.ref C_Twice) = some false)
    (i_NoRank_Twice : PySem.W.kitOne K (.ref C_NoRank) (.ref C_Twice) = some false)
    (i_NoRow_Twice : PySem.W.kitOne K (.ref C_NoRow) (.ref C_Twice) = some false)
    (i_NoSum_Twice : PySem.W.kitOne K (.ref C_NoSum) (.ref C_Twice) = some false)
    (i_NoText_Twice : PySem.W.kitOne K (.ref C_NoText) (.ref C_Twice) = some false)
    (i_NotThere_Twice : PySem.W.kitOne K (.ref C_NotThere) (.ref C_Twice) = some false)
    (i_NothingLeft_Twice : PySem.W.kitOne K (.ref C_NothingLeft) (.ref C_Twice) = some false)
    (i_TooMany_Twice : PySem.W.kitOne K (.ref C_TooMany) (.ref C_Twice) = some false)
    (i_TooMuch_Twice : PySem.W.kitOne K (.ref C_TooMuch) (.ref C_Twice) = some false)
    (i_Twice_Twice : PySem.W.kitOne K (.ref C_Twice) (.ref C_Twice) = some true)
    (i_Faulty_WageError : PySem.W.kitOne K (.ref C_Faulty) (.ref C_WageError) = some true)
    (i_NoArticles_WageError : PySem.W.kitOne K (.ref C_NoArticles) (.ref C_WageError) = some true)
    (i_NoMan_WageError : PySem.W.kitOne K (.ref C_NoMan) (.ref C_WageError) = some true)
    (i_NoPage_WageError : PySem.W.kitOne K (.ref C_NoPage) (.ref C_WageError) = some true)
    (i_NoPages_WageError : PySem.W.kitOne K (.ref C_NoPages) (.ref C_WageError) = some true)
    (i_NoRank_WageError : PySem.W.kitOne K (.ref C_NoRank) (.ref C_WageError) = some true)
    (i_NoRow_WageError : PySem.W.kitOne K (.ref C_NoRow) (.ref C_WageError) = some true)
    (i_NoSum_WageError : PySem.W.kitOne K (.ref C_NoSum) (.ref C_WageError) = some true)
    (i_NoText_WageError : PySem.W.kitOne K (.ref C_NoText) (.ref C_WageError) = some true)
    (i_NotThere_WageError : PySem.W.kitOne K (.ref C_NotThere) (.ref C_WageError) = some true)
    (i_NothingLeft_WageError : PySem.W.kitOne K (.ref C_NothingLeft) (.ref C_WageError) = some true)
    (i_TooMany_WageError : PySem.W.kitOne K (.ref C_TooMany) (.ref C_WageError) = some true)
    (i_TooMuch_WageError : PySem.W.kitOne K (.ref C_TooMuch) (.ref C_WageError) = some true)
    (i_Twice_WageError : PySem.W.kitOne K (.ref C_Twice) (.ref C_WageError) = some true)
    (n_ValueError : PySem.W.nsIn K mainGlobals "ValueError" = some none)
    (i_Faulty_ValueError : PySem.W.kitOne K (.ref C_Faulty) (.type "ValueError") = some true)
    (i_NoArticles_ValueError : PySem.W.kitOne K (.ref C_NoArticles) (.type "ValueError") = some true)
    (i_NoMan_ValueError : PySem.W.kitOne K (.ref C_NoMan) (.type "ValueError") = some true)
    (i_NoPage_ValueError : PySem.W.kitOne K (.ref C_NoPage) (.type "ValueError") = some true)
    (i_NoPages_ValueError : PySem.W.kitOne K (.ref C_NoPages) (.type "ValueError") = some true)
    (i_NoRank_ValueError : PySem.W.kitOne K (.ref C_NoRank) (.type "ValueError") = some true)
    (i_NoRow_ValueError : PySem.W.kitOne K (.ref C_NoRow) (.type "ValueError") = some true)
    (i_NoSum_ValueError : PySem.W.kitOne K (.ref C_NoSum) (.type "ValueError") = some true)
    (i_NoText_ValueError : PySem.W.kitOne K (.ref C_NoText) (.type "ValueError") = some true)
    (i_NotThere_ValueError : PySem.W.kitOne K (.ref C_NotThere) (.type "ValueError") = some true)
    (i_NothingLeft_ValueError : PySem.W.kitOne K (.ref C_NothingLeft) (.type "ValueError") = some true)
    (i_TooMany_ValueError : PySem.W.kitOne K (.ref C_TooMany) (.type "ValueError") = some true)
    (i_TooMuch_ValueError : PySem.W.kitOne K (.ref C_TooMuch) (.type "ValueError") = some true)
    (i_Twice_ValueError : PySem.W.kitOne K (.ref C_Twice) (.type "ValueError") = some true)
    (e_NoArticles : PySem.W.excIn K C_NoArticles ZX.bmVE "ValueError.__new__" = true)
    (kp_NoArticles : PySem.W.keepIn K (.ref C_NoArticles) = true)
    (e_NoMan : PySem.W.excIn K C_NoMan ZX.bmVE "ValueError.__new__" = true)
    (kp_NoMan : PySem.W.keepIn K (.ref C_NoMan) = true)
    (e_NoPage : PySem.W.excIn K C_NoPage ZX.bmVE "ValueError.__new__" = true)
    (kp_NoPage : PySem.W.keepIn K (.ref C_NoPage) = true)
    (e_NoPages : PySem.W.excIn K C_NoPages ZX.bmVE "ValueError.__new__" = true)
    (kp_NoPages : PySem.W.keepIn K (.ref C_NoPages) = true)
    (e_NoRank : PySem.W.excIn K C_NoRank ZX.bmVE "ValueError.__new__" = true)
    (kp_NoRank : PySem.W.keepIn K (.ref C_NoRank) = true)
    (e_NoRow : PySem.W.excIn K C_NoRow ZX.bmVE "ValueError.__new__" = true)
    (kp_NoRow : PySem.W.keepIn K (.ref C_NoRow) = true)
    (e_NoSum : PySem.W.excIn K C_NoSum ZX.bmVE "ValueError.__new__" = true)
    (kp_NoSum : PySem.W.keepIn K (.ref C_NoSum) = true)
    (e_NoText : PySem.W.excIn K C_NoText ZX.bmVE "ValueError.__new__" = true)
    (kp_NoText : PySem.W.keepIn K (.ref C_NoText) = true)
    (e_NotThere : PySem.W.excIn K C_NotThere ZX.bmVE "ValueError.__new__" = true)
    (kp_NotThere : PySem.W.keepIn K (.ref C_NotThere) = true)
    (e_NothingLeft : PySem.W.excIn K C_NothingLeft ZX.bmVE "ValueError.__new__" = true)
    (kp_NothingLeft : PySem.W.keepIn K (.ref C_NothingLeft) = true)
    (e_TooMany : PySem.W.excIn K C_TooMany ZX.bmVE "ValueError.__new__" = true)
    (kp_TooMany : PySem.W.keepIn K (.ref C_TooMany) = true)
    (e_Twice : PySem.W.excIn K C_Twice ZX.bmVE "ValueError.__new__" = true)
    (kp_Twice : PySem.W.keepIn K (.ref C_Twice) = true)
    (nf_Faulty_faults : PySem.W.findIn K (.ref C_Faulty) "faults" = some none)
    (nf_TooMuch_most : PySem.W.findIn K (.ref C_TooMuch) "most" = some none)
    (st_NoArticles : PySem.W.findIn K (.ref C_NoArticles) "__str__" = some (some (.builtin "BaseException.__str__")))
    (st_NoMan : PySem.W.findIn K (.ref C_NoMan) "__str__" = some (some (.builtin "BaseException.__str__")))
    (st_NoPage : PySem.W.findIn K (.ref C_NoPage) "__str__" = some (some (.builtin "BaseException.__str__")))
    (st_NoPages : PySem.W.findIn K (.ref C_NoPages) "__str__" = some (some (.builtin "BaseException.__str__")))
    (st_NoRank : PySem.W.findIn K (.ref C_NoRank) "__str__" = some (some (.builtin "BaseException.__str__")))
    (st_NoRow : PySem.W.findIn K (.ref C_NoRow) "__str__" = some (some (.builtin "BaseException.__str__")))
    (st_NoSum : PySem.W.findIn K (.ref C_NoSum) "__str__" = some (some (.builtin "BaseException.__str__")))
    (st_NoText : PySem.W.findIn K (.ref C_NoText) "__str__" = some (some (.builtin "BaseException.__str__")))
    (st_NotThere : PySem.W.findIn K (.ref C_NotThere) "__str__" = some (some (.builtin "BaseException.__str__")))
    (st_NothingLeft : PySem.W.findIn K (.ref C_NothingLeft) "__str__" = some (some (.builtin "BaseException.__str__")))
    (st_TooMany : PySem.W.findIn K (.ref C_TooMany) "__str__" = some (some (.builtin "BaseException.__str__")))
    (st_Twice : PySem.W.findIn K (.ref C_Twice) "__str__" = some (some (.builtin "BaseException.__str__")))
    (lg_WageError : PySem.W.specialIn K (.ref C_WageError) "__getattribute__" = some (some (.builtin "type.__getattribute__")))
    (lr_WageError : PySem.W.readsIn K C_WageError (.type "type") = true)
    (lf_WageError : (match PySem.W.findCls K (.ref C_WageError) (.type "type") "__init__" with | some (.val v) => v == .builtin "ValueError.__init__" | _ => false) = true)
    (yI_Faulty : PySem.W.findIn K (.ref C_Faulty) "__init__" = some (some (.ref fI_Faulty)))
    (lI_Faulty : K.lookup fI_Faulty = some ⟨ocI_Faulty, odI_Faulty, .func (PySem.W.fnOf "__init__" "Faulty.__init__" (defArgs s_init_Faulty) (defBody s_init_Faulty) (defScope s_init_Faulty) .none kVI_Faulty dcI_Faulty pmI_Faulty anI_Faulty cdI_Faulty ctI_Faulty), slI_Faulty⟩)
    (cI_Faulty : PySem.W.codeIn K cdI_Faulty "Faulty.__init__" = true)
    (eI_Faulty : ZX.excInitIn K C_Faulty ZX.bmVE "ValueError.__new__" fI_Faulty = true)
    (fI2_Faulty : PySem.W.isFn K (.ref fI_Faulty) = true)
    (kpI_Faulty : PySem.W.keepIn K (.ref C_Faulty) = true)
    (sa_Faulty : PySem.W.findIn K (.ref C_Faulty) "__setattr__" = some (some (.builtin "object.__setattr__")))
    (mr_Faulty : ((PySem.W.clsIn K C_Faulty).any fun cd => ZX.refsVE cd.mro) = true)
    (yI_TooMuch : PySem.W.findIn K (.ref C_TooMuch) "__init__" = some (some (.ref fI_TooMuch)))
    (lI_TooMuch : K.lookup fI_TooMuch = some ⟨ocI_TooMuch, odI_TooMuch, .func (PySem.W.fnOf "__init__" "TooMuch.__init__" (defArgs s_init_TooMuch) (defBody s_init_TooMuch) (defScope s_init_TooMuch) .none kVI_TooMuch dcI_TooMuch pmI_TooMuch anI_TooMuch cdI_TooMuch ctI_TooMuch), slI_TooMuch⟩)
    (cI_TooMuch : PySem.W.codeIn K cdI_TooMuch "TooMuch.__init__" = true)
    (eI_TooMuch : ZX.excInitIn K C_TooMuch ZX.bmVE "ValueError.__new__" fI_TooMuch = true)
    (fI2_TooMuch : PySem.W.isFn K (.ref fI_TooMuch) = true)
    (kpI_TooMuch : PySem.W.keepIn K (.ref C_TooMuch) = true)
    (sa_TooMuch : PySem.W.findIn K (.ref C_TooMuch) "__setattr__" = some (some (.builtin "object.__setattr__")))
    (mr_TooMuch : ((PySem.W.clsIn K C_TooMuch).any fun cd => ZX.refsVE cd.mro) = true) :
    ∃ fd : FuncData, (∀ (s : Shared) (v : Value), BindsTo s fd ⟨[v], []⟩ [("script", v)]) ∧ ∀ base : Heap, K.In base → base.Ns mainGlobals mg → FnOk l.prog w K mg base CX0 3 fa fd ["script"] (spOf K 1 G_law) := by
  have e := hfa.symm.trans (PySem.W.mg_of X G a4)
  cases e
  have F0 := fun_mk (st := s_law_draws) l0 c0 k0
  have b0 := F0.binds (ps := ["script", "k"]) fun _ _ _ _ _ _ us hl => match us, hl with | [_, _], _ => rfl
  have F1 := fun_mk (st := s_law_draw) l1 c1 k1
  have b1 := F1.binds (ps := ["draws", "many"]) fun _ _ _ _ _ _ us hl => match us, hl with | [_, _], _ => rfl
  have F2 := fun_mk (st := s_law_names) l2 c2 k2
  have b2 := F2.binds (ps := ["draws", "many"]) fun _ _ _ _ _ _ us hl => match us, hl with | [_, _], _ => rfl
  have F3 := fun_mk (st := s_law_kind_of) l3 c3 k3
  have b3 := F3.binds (ps := ["e"]) fun _ _ _ _ _ _ us hl => match us, hl with | [_], _ => rfl
  have F4 := fun_mk (st := s_law) l4 c4 k4
  have b4 := F4.binds (ps := ["script"]) fun _ _ _ _ _ _ us hl => match us, hl with | [_], _ => rfl
  have X_Faulty : ZX.KX K C_Faulty := ⟨xg_Faulty, xh_Faulty, xb_Faulty, xo_Faulty, (let ⟨cd, e, _⟩ := PySem.W.any_some xd_Faulty; by rw [e]; rfl), xc_Faulty, x_hn, x_ht⟩
  have X_NoArticles : ZX.KX K C_NoArticles := ⟨xg_NoArticles, xh_NoArticles, xb_NoArticles, xo_NoArticles, (let ⟨cd, e, _⟩ := PySem.W.any_some xd_NoArticles; by rw [e]; rfl), xc_NoArticles, x_hn, x_ht⟩
  have X_NoMan : ZX.KX K C_NoMan := ⟨xg_NoMan, xh_NoMan, xb_NoMan, xo_NoMan, (let ⟨cd, e, _⟩ := PySem.W.any_some xd_NoMan; by rw [e]; rfl), xc_NoMan, x_hn, x_ht⟩
  have X_NoPage : ZX.KX K C_NoPage := ⟨xg_NoPage, xh_NoPage, xb_NoPage, xo_NoPage, (let ⟨cd, e, _⟩ := PySem.W.any_some xd_NoPage; by rw [e]; rfl), xc_NoPage, x_hn, x_ht⟩
  have X_NoPages : ZX.KX K C_NoPages := ⟨xg_NoPages, xh_NoPages, xb_NoPages, xo_NoPages, (let ⟨cd, e, _⟩ := PySem.W.any_some xd_NoPages; by rw [e]; rfl), xc_NoPages, x_hn, x_ht⟩
  have X_NoRank : ZX.KX K C_NoRank := ⟨xg_NoRank, xh_NoRank, xb_NoRank, xo_NoRank, (let ⟨cd, e, _⟩ := PySem.W.any_some xd_NoRank; by rw [e]; rfl), xc_NoRank, x_hn, x_ht⟩
  have X_NoRow : ZX.KX K C_NoRow := ⟨xg_NoRow, xh_NoRow, xb_NoRow, xo_NoRow, (let ⟨cd, e, _⟩ := PySem.W.any_some xd_NoRow; by rw [e]; rfl), xc_NoRow, x_hn, x_ht⟩
  have X_NoSum : ZX.KX K C_NoSum := ⟨xg_NoSum, xh_NoSum, xb_NoSum, xo_NoSum, (let ⟨cd, e, _⟩ := PySem.W.any_some xd_NoSum; by rw [e]; rfl), xc_NoSum, x_hn, x_ht⟩
  have X_NoText : ZX.KX K C_NoText := ⟨xg_NoText, xh_NoText, xb_NoText, xo_NoText, (let ⟨cd, e, _⟩ := PySem.W.any_some xd_NoText; by rw [e]; rfl), xc_NoText, x_hn, x_ht⟩
  have X_NotThere : ZX.KX K C_NotThere := ⟨xg_NotThere, xh_NotThere, xb_NotThere, xo_NotThere, (let ⟨cd, e, _⟩ := PySem.W.any_some xd_NotThere; by rw [e]; rfl), xc_NotThere, x_hn, x_ht⟩
  have X_NothingLeft : ZX.KX K C_NothingLeft := ⟨xg_NothingLeft, xh_NothingLeft, xb_NothingLeft, xo_NothingLeft, (let ⟨cd, e, _⟩ := PySem.W.any_some xd_NothingLeft; by rw [e]; rfl), xc_NothingLeft, x_hn, x_ht⟩
  have X_TooMany : ZX.KX K C_TooMany := ⟨xg_TooMany, xh_TooMany, xb_TooMany, xo_TooMany, (let ⟨cd, e, _⟩ := PySem.W.any_some xd_TooMany; by rw [e]; rfl), xc_TooMany, x_hn, x_ht⟩
  have X_TooMuch : ZX.KX K C_TooMuch := ⟨xg_TooMuch, xh_TooMuch, xb_TooMuch, xo_TooMuch, (let ⟨cd, e, _⟩ := PySem.W.any_some xd_TooMuch; by rw [e]; rfl), xc_TooMuch, x_hn, x_ht⟩
  have X_Twice : ZX.KX K C_Twice := ⟨xg_Twice, xh_Twice, xb_Twice, xo_Twice, (let ⟨cd, e, _⟩ := PySem.W.any_some xd_Twice; by rw [e]; rfl), xc_Twice, x_hn, x_ht⟩
  have I_Faulty : IsxE K mg "Faulty" [("Faulty", true), ("NoArticles", false), ("NoMan", false), ("NoPage", false), ("NoPages", false), ("NoRank", false), ("NoRow", false), ("NoSum", false), ("NoText", false), ("NotThere", false), ("NothingLeft", false), ("TooMany", false), ("TooMuch", false), ("Twice", false)] := ⟨C_Faulty, PySem.W.mg_of X G n_Faulty, fun q hq => by
    simp only [List.mem_cons, List.not_mem_nil, or_false] at hq
    rcases hq with rfl | rfl | rfl | rfl | rfl | rfl | rfl | rfl | rfl | rfl | rfl | rfl | rfl | rfl
    · exact ⟨C_Faulty, n_Faulty, X_Faulty, i_Faulty_Faulty⟩
    · exact ⟨C_NoArticles, n_NoArticles, X_NoArticles, i_NoArticles_Faulty⟩
    · exact ⟨C_NoMan, n_NoMan, X_NoMan, i_NoMan_Faulty⟩
    · exact ⟨C_NoPage, n_NoPage, X_NoPage, i_NoPage_Faulty⟩
    · exact ⟨C_NoPages, n_NoPages, X_NoPages, i_NoPages_Faulty⟩
    · exact ⟨C_NoRank, n_NoRank, X_NoRank, i_NoRank_Faulty⟩
    · exact ⟨C_NoRow, n_NoRow, X_NoRow, i_NoRow_Faulty⟩
    · exact ⟨C_NoSum, n_NoSum, X_NoSum, i_NoSum_Faulty⟩
    · exact ⟨C_NoText, n_NoText, X_NoText, i_NoText_Faulty⟩
    · exact ⟨C_NotThere, n_NotThere, X_NotThere, i_NotThere_Faulty⟩
    · exact ⟨C_NothingLeft, n_NothingLeft, X_NothingLeft, i_NothingLeft_Faulty⟩
    · exact ⟨C_TooMany, n_TooMany, X_TooMany, i_TooMany_Faulty⟩
    · exact ⟨C_TooMuch, n_TooMuch, X_TooMuch, i_TooMuch_Faulty⟩
    · exact ⟨C_Twice, n_Twice, X_Twice, i_Twice_Faulty⟩⟩
  have I_NoArticles : IsxE K mg "NoArticles" [("Faulty", false), ("NoArticles", true), ("NoMan", false), ("NoPage", false), ("NoPages", false), ("NoRank", false), ("NoRow", false), ("NoSum", false), ("NoText", false), ("NotThere", false), ("NothingLeft", false), ("TooMany", false), ("TooMuch", false), ("Twice", false)] := ⟨C_NoArticles, PySem.W.mg_of X G n_NoArticles, fun q hq => by
    simp only [List.mem_cons, List.not_mem_nil, or_false] at hq
    rcases hq with rfl | rfl | rfl | rfl | rfl | rfl | rfl | rfl | rfl | rfl | rfl | rfl | rfl | rfl
    · exact ⟨C_Faulty, n_Faulty, X_Faulty, i_Faulty_NoArticles⟩
    · exact ⟨C_NoArticles, n_NoArticles, X_NoArticles, i_NoArticles_NoArticles⟩
    · exact ⟨C_NoMan, n_NoMan, X_NoMan, i_NoMan_NoArticles⟩
    · exact ⟨C_NoPage, n_NoPage, X_NoPage, i_NoPage_NoArticles⟩
    · exact ⟨C_NoPages, n_NoPages, X_NoPages, i_NoPages_NoArticles⟩
    · exact ⟨C_NoRank, n_NoRank, X_NoRank, i_NoRank_NoArticles⟩
    · exact ⟨C_NoRow, n_NoRow, X_NoRow, i_NoRow_NoArticles⟩
    · exact ⟨C_NoSum, n_NoSum, X_NoSum, i_NoSum_NoArticles⟩
    · exact ⟨C_NoText, n_NoText, X_NoText, i_NoText_NoArticles⟩
    · exact ⟨C_NotThere, n_NotThere, X_NotThere, i_NotThere_NoArticles⟩
    · exact ⟨C_NothingLeft, n_NothingLeft, X_NothingLeft, i_NothingLeft_NoArticles⟩
    · exact ⟨C_TooMany, n_TooMany, X_TooMany, i_TooMany_NoArticles⟩
    · exact ⟨C_TooMuch, n_TooMuch, X_TooMuch, i_TooMuch_NoArticles⟩
    · exact ⟨C_Twice, n_Twice, X_Twice, i_Twice_NoArticles⟩⟩
  have I_NoMan : IsxE K mg "NoMan" [("Faulty", false), ("NoArticles", false), ("NoMan", true), ("NoPage", false), ("NoPages", false), ("NoRank", false), ("NoRow", false), ("NoSum", false), ("NoText", false), ("NotThere", false), ("NothingLeft", false), ("TooMany", false), ("TooMuch", false), ("Twice", false)] := ⟨C_NoMan, PySem.W.mg_of X G n_NoMan, fun q hq => by
    simp only [List.mem_cons, List.not_mem_nil, or_false] at hq
    rcases hq with rfl | rfl | rfl | rfl | rfl | rfl | rfl | rfl | rfl | rfl | rfl | rfl | rfl | rfl
    · exact ⟨C_Faulty, n_Faulty, X_Faulty, i_Faulty_NoMan⟩
    · exact ⟨C_NoArticles, n_NoArticles, X_NoArticles, i_NoArticles_NoMan⟩
    · exact ⟨C_NoMan, n_NoMan, X_NoMan, i_NoMan_NoMan⟩
    · exact ⟨C_NoPage, n_NoPage, X_NoPage, i_NoPage_NoMan⟩
    · exact ⟨C_NoPages, n_NoPages, X_NoPages, i_NoPages_NoMan⟩
    · exact ⟨C_NoRank, n_NoRank, X_NoRank, i_NoRank_NoMan⟩
    · exact ⟨C_NoRow, n_NoRow, X_NoRow, i_NoRow_NoMan⟩
    · exact ⟨C_NoSum, n_NoSum, X_NoSum, i_NoSum_NoMan⟩
    · exact ⟨C_NoText, n_NoText, X_NoText, i_NoText_NoMan⟩
    · exact ⟨C_NotThere, n_NotThere, X_NotThere, i_NotThere_NoMan⟩
    · exact ⟨C_NothingLeft, n_NothingLeft, X_NothingLeft, i_NothingLeft_NoMan⟩
    · exact ⟨C_TooMany, n_TooMany, X_TooMany, i_TooMany_NoMan⟩
    · exact ⟨C_TooMuch, n_TooMuch, X_TooMuch, i_TooMuch_NoMan⟩
    · exact ⟨C_Twice, n_Twice, X_Twice, i_Twice_NoMan⟩⟩
  have I_NoPage : IsxE K mg "NoPage" [("Faulty", false), ("NoArticles", false), ("NoMan", false), ("NoPage", true), ("NoPages", false), ("NoRank", false), ("NoRow", false), ("NoSum", false), ("NoText", false), ("NotThere", false), ("NothingLeft", false), ("TooMany", false), ("TooMuch", false), ("Twice", false)] := ⟨C_NoPage, PySem.W.mg_of X G n_NoPage, fun q hq => by
    simp only [List.mem_cons, List.not_mem_nil, or_false] at hq
    rcases hq with rfl | rfl | rfl | rfl | rfl | rfl | rfl | rfl | rfl | rfl | rfl | rfl | rfl | rfl
    · exact ⟨C_Faulty, n_Faulty, X_Faulty, i_Faulty_NoPage⟩
    · exact ⟨C_NoArticles, n_NoArticles, X_NoArticles, i_NoArticles_NoPage⟩
    · exact ⟨C_NoMan, n_NoMan, X_NoMan, i_NoMan_NoPage⟩
    · exact ⟨C_NoPage, n_NoPage, X_NoPage, i_NoPage_NoPage⟩
    · exact ⟨C_NoPages, n_NoPages, X_NoPages, i_NoPages_NoPage⟩
    · exact ⟨C_NoRank, n_NoRank, X_NoRank, i_NoRank_NoPage⟩
    · exact ⟨C_NoRow, n_NoRow, X_NoRow, i_NoRow_NoPage⟩
    · exact ⟨C_NoSum, n_NoSum, X_NoSum, i_NoSum_NoPage⟩
    · exact ⟨C_NoText, n_NoText, X_NoText, i_NoText_NoPage⟩
    · exact ⟨C_NotThere, n_NotThere, X_NotThere, i_NotThere_NoPage⟩
    · exact ⟨C_NothingLeft, n_NothingLeft, X_NothingLeft, i_NothingLeft_NoPage⟩
    · exact ⟨C_TooMany, n_TooMany, X_TooMany, i_TooMany_NoPage⟩
    · exact ⟨C_TooMuch, n_TooMuch, X_TooMuch, i_TooMuch_NoPage⟩
    · exact ⟨C_Twice, n_Twice, X_Twice, i_Twice_NoPage⟩⟩
  have I_NoPages : IsxE K mg "NoPages" [("Faulty", false), ("NoArticles", false), ("NoMan", false), ("NoPage", false), ("NoPages", true), ("NoRank", false), ("NoRow", false), ("NoSum", false), ("NoText", false), ("NotThere", false), ("NothingLeft", false), ("TooMany", false), ("TooMuch", false), ("Twice", false)] := ⟨C_NoPages, PySem.W.mg_of X G n_NoPages, fun q hq => by
    simp only [List.mem_cons, List.not_mem_nil, or_false] at hq
    rcases hq with rfl | rfl | rfl | rfl | rfl | rfl | rfl | rfl | rfl | rfl | rfl | rfl | rfl | rfl
    · exact ⟨C_Faulty, n_Faulty, X_Faulty, i_Faulty_NoPages⟩
    · exact ⟨C_NoArticles, n_NoArticles, X_NoArticles, i_NoArticles_NoPages⟩
    · exact ⟨C_NoMan, n_NoMan, X_NoMan, i_NoMan_NoPages⟩
    · exact ⟨C_NoPage, n_NoPage, X_NoPage, i_NoPage_NoPages⟩
    · exact ⟨C_NoPages, n_NoPages, X_NoPages, i_NoPages_NoPages⟩
    · exact ⟨C_NoRank, n_NoRank, X_NoRank, i_NoRank_NoPages⟩
    · exact ⟨C_NoRow, n_NoRow, X_NoRow, i_NoRow_NoPages⟩
    · exact ⟨C_NoSum, n_NoSum, X_NoSum, i_NoSum_NoPages⟩
    · exact ⟨C_NoText, n_NoText, X_NoText, i_NoText_NoPages⟩
    · exact ⟨C_NotThere, n_NotThere, X_NotThere, i_NotThere_NoPages⟩
    · exact ⟨C_NothingLeft, n_NothingLeft, X_NothingLeft, i_NothingLeft_NoPages⟩
    · exact ⟨C_TooMany, n_TooMany, X_TooMany, i_TooMany_NoPages⟩
    · exact ⟨C_TooMuch, n_TooMuch, X_TooMuch, i_TooMuch_NoPages⟩
    · exact ⟨C_Twice, n_Twice, X_Twice, i_Twice_NoPages⟩⟩
  have I_NoRank : IsxE K mg "NoRank" [("Faulty", false), ("NoArticles", false), ("NoMan", false), ("NoPage", false), ("NoPages", false), ("NoRank", true), ("NoRow", false), ("NoSum", false), ("NoText", false), ("NotThere", false), ("NothingLeft", false), ("TooMany", false), ("TooMuch", false), ("Twice", false)] := ⟨C_NoRank, PySem.W.mg_of X G n_NoRank, fun q hq => by
    simp only [List.mem_cons, List.not_mem_nil, or_false] at hq
    rcases hq with rfl | rfl | rfl | rfl | rfl | rfl | rfl | rfl | rfl | rfl | rfl | rfl | rfl | rfl
    · exact ⟨C_Faulty, n_Faulty, X_Faulty, i_Faulty_NoRank⟩
    · exact ⟨C_NoArticles, n_NoArticles, X_NoArticles, i_NoArticles_NoRank⟩
    · exact ⟨C_NoMan, n_NoMan, X_NoMan, i_NoMan_NoRank⟩
    · exact ⟨C_NoPage, n_NoPage, X_NoPage, i_NoPage_NoRank⟩
    · exact ⟨C_NoPages, n_NoPages, X_NoPages, i_NoPages_NoRank⟩
    · exact ⟨C_NoRank, n_NoRank, X_NoRank, i_NoRank_NoRank⟩
    · exact ⟨C_NoRow, n_NoRow, X_NoRow, i_NoRow_NoRank⟩
    · exact ⟨C_NoSum, n_NoSum, X_NoSum, i_NoSum_NoRank⟩
    · exact ⟨C_NoText, n_NoText, X_NoText, i_NoText_NoRank⟩
    · exact ⟨C_NotThere, n_NotThere, X_NotThere, i_NotThere_NoRank⟩
    · exact ⟨C_NothingLeft, n_NothingLeft, X_NothingLeft, i_NothingLeft_NoRank⟩
    · exact ⟨C_TooMany, n_TooMany, X_TooMany, i_TooMany_NoRank⟩
    · exact ⟨C_TooMuch, n_TooMuch, X_TooMuch, i_TooMuch_NoRank⟩
    · exact ⟨C_Twice, n_Twice, X_Twice, i_Twice_NoRank⟩⟩
  have I_NoRow : IsxE K mg "NoRow" [("Faulty", false), ("NoArticles", false), ("NoMan", false), ("NoPage", false), ("NoPages", false), ("NoRank", false), ("NoRow", true), ("NoSum", false), ("NoText", false), ("NotThere", false), ("NothingLeft", false), ("TooMany", false), ("TooMuch", false), ("Twice", false)] := ⟨C_NoRow, PySem.W.mg_of X G n_NoRow, fun q hq => by
    simp only [List.mem_cons, List.not_mem_nil, or_false] at hq
    rcases hq with rfl | rfl | rfl | rfl | rfl | rfl | rfl | rfl | rfl | rfl | rfl | rfl | rfl | rfl
    · exact ⟨C_Faulty, n_Faulty, X_Faulty, i_Faulty_NoRow⟩
    · exact ⟨C_NoArticles, n_NoArticles, X_NoArticles, i_NoArticles_NoRow⟩
    · exact ⟨C_NoMan, n_NoMan, X_NoMan, i_NoMan_NoRow⟩
    · exact ⟨C_NoPage, n_NoPage, X_NoPage, i_NoPage_NoRow⟩
    · exact ⟨C_NoPages, n_NoPages, X_NoPages, i_NoPages_NoRow⟩
    · exact ⟨C_NoRank, n_NoRank, X_NoRank, i_NoRank_NoRow⟩
    · exact ⟨C_NoRow, n_NoRow, X_NoRow, i_NoRow_NoRow⟩
    · exact ⟨C_NoSum, n_NoSum, X_NoSum, i_NoSum_NoRow⟩
    · exact ⟨C_NoText, n_NoText, X_NoText, i_NoText_NoRow⟩
    · exact ⟨C_NotThere, n_NotThere, X_NotThere, i_NotThere_NoRow⟩
    · exact ⟨C_NothingLeft, n_NothingLeft, X_NothingLeft, i_NothingLeft_NoRow⟩
    · exact ⟨C_TooMany, n_TooMany, X_TooMany, i_TooMany_NoRow⟩
    · exact ⟨C_TooMuch, n_TooMuch, X_TooMuch, i_TooMuch_NoRow⟩
    · exact ⟨C_Twice, n_Twice, X_Twice, i_Twice_NoRow⟩⟩
  have I_NoSum : IsxE K mg "NoSum" [("Faulty", false), ("NoArticles", false), ("NoMan", false), ("NoPage", false), ("NoPages", false), ("NoRank", false), ("NoRow", false), ("NoSum", true), ("NoText", false), ("NotThere", false), ("NothingLeft", false), ("TooMany", false), ("TooMuch", false), ("Twice", false)] := ⟨C_NoSum, PySem.W.mg_of X G n_NoSum, fun q hq => by
    simp only [List.mem_cons, List.not_mem_nil, or_false] at hq
    rcases hq with rfl | rfl | rfl | rfl | rfl | rfl | rfl | rfl | rfl | rfl | rfl | rfl | rfl | rfl
    · exact ⟨C_Faulty, n_Faulty, X_Faulty, i_Faulty_NoSum⟩
    · exact ⟨C_NoArticles, n_NoArticles, X_NoArticles, i_NoArticles_NoSum⟩
    · exact ⟨C_NoMan, n_NoMan, X_NoMan, i_NoMan_NoSum⟩
    · exact ⟨C_NoPage, n_NoPage, X_NoPage, i_NoPage_NoSum⟩
    · exact ⟨C_NoPages, n_NoPages, X_NoPages, i_NoPages_NoSum⟩
    · exact ⟨C_NoRank, n_NoRank, X_NoRank, i_NoRank_NoSum⟩
    · exact ⟨C_NoRow, n_NoRow, X_NoRow, i_NoRow_NoSum⟩
    · exact ⟨C_NoSum, n_NoSum, X_NoSum, i_NoSum_NoSum⟩
    · exact ⟨C_NoText, n_NoText, X_NoText, i_NoText_NoSum⟩
    · exact ⟨C_NotThere, n_NotThere, X_NotThere, i_NotThere_NoSum⟩
    · exact ⟨C_NothingLeft, n_NothingLeft, X_NothingLeft, i_NothingLeft_NoSum⟩
    · exact ⟨C_TooMany, n_TooMany, X_TooMany, i_TooMany_NoSum⟩
    · exact ⟨C_TooMuch, n_TooMuch, X_TooMuch, i_TooMuch_NoSum⟩
    · exact ⟨C_Twice, n_Twice, X_Twice, i_Twice_NoSum⟩⟩
  have I_NoText : IsxE K mg "NoText" [("Faulty", false), ("NoArticles", false), ("NoMan", false), ("NoPage", false), ("NoPages", false), ("NoRank", false), ("NoRow", false), ("NoSum", false), ("NoText", true), ("NotThere", false), ("NothingLeft", false), ("TooMany", false), ("TooMuch", false), ("Twice", false)] := ⟨C_NoText, PySem.W.mg_of X G n_NoText, fun q hq => by
    simp only [List.mem_cons, List.not_mem_nil, or_false] at hq
    rcases hq with rfl | rfl | rfl | rfl | rfl | rfl | rfl | rfl | rfl | rfl | rfl | rfl | rfl | rfl
    · exact ⟨C_Faulty, n_Faulty, X_Faulty, i_Faulty_NoText⟩
    · exact ⟨C_NoArticles, n_NoArticles, X_NoArticles, i_NoArticles_NoText⟩
    · exact ⟨C_NoMan, n_NoMan, X_NoMan, i_NoMan_NoText⟩
    · exact ⟨C_NoPage, n_NoPage, X_NoPage, i_NoPage_NoText⟩
    · exact ⟨C_NoPages, n_NoPages, X_NoPages, i_NoPages_NoText⟩
    · exact ⟨C_NoRank, n_NoRank, X_NoRank, i_NoRank_NoText⟩
    · exact ⟨C_NoRow, n_NoRow, X_NoRow, i_NoRow_NoText⟩
    · exact ⟨C_NoSum, n_NoSum, X_NoSum, i_NoSum_NoText⟩
    · exact ⟨C_NoText, n_NoText, X_NoText, i_NoText_NoText⟩
    · exact ⟨C_NotThere, n_NotThere, X_NotThere, i_NotThere_NoText⟩
    · exact ⟨C_NothingLeft, n_NothingLeft, X_NothingLeft, i_NothingLeft_NoText⟩
    · exact ⟨C_TooMany, n_TooMany, X_TooMany, i_TooMany_NoText⟩
    · exact ⟨C_TooMuch, n_TooMuch, X_TooMuch, i_TooMuch_NoText⟩
    · exact ⟨C_Twice, n_Twice, X_Twice, i_Twice_NoText⟩⟩
  have I_NotThere : IsxE K mg "NotThere" [("Faulty", false), ("NoArticles", false), ("NoMan", false), ("NoPage", false), ("NoPages", false), ("NoRank", false), ("NoRow", false), ("NoSum", false), ("NoText", false), ("NotThere", true), ("NothingLeft", false), ("TooMany", false), ("TooMuch", false), ("Twice", false)] := ⟨C_NotThere, PySem.W.mg_of X G n_NotThere, fun q hq => by
    simp only [List.mem_cons, List.not_mem_nil, or_false] at hq
    rcases hq with rfl | rfl | rfl | rfl | rfl | rfl | rfl | rfl | rfl | rfl | rfl | rfl | rfl | rfl
    · exact ⟨C_Faulty, n_Faulty, X_Faulty, i_Faulty_NotThere⟩
    · exact ⟨C_NoArticles, n_NoArticles, X_NoArticles, i_NoArticles_NotThere⟩
    · exact ⟨C_NoMan, n_NoMan, X_NoMan, i_NoMan_NotThere⟩
    · exact ⟨C_NoPage, n_NoPage, X_NoPage, i_NoPage_NotThere⟩
    · exact ⟨C_NoPages, n_NoPages, X_NoPages, i_NoPages_NotThere⟩
    · exact ⟨C_NoRank, n_NoRank, X_NoRank, i_NoRank_NotThere⟩
    · exact ⟨C_NoRow, n_NoRow, X_NoRow, i_NoRow_NotThere⟩
    · exact ⟨C_NoSum, n_NoSum, X_NoSum, i_NoSum_NotThere⟩
    · exact ⟨C_NoText, n_NoText, X_NoText, i_NoText_NotThere⟩
    · exact ⟨C_NotThere, n_NotThere, X_NotThere, i_NotThere_NotThere⟩
    · exact ⟨C_NothingLeft, n_NothingLeft, X_NothingLeft, i_NothingLeft_NotThere⟩
    · exact ⟨C_TooMany, n_TooMany, X_TooMany, i_TooMany_NotThere⟩
    · exact ⟨C_TooMuch, n_TooMuch, X_TooMuch, i_TooMuch_NotThere⟩
    · exact ⟨C_Twice, n_Twice, X_Twice, i_Twice_NotThere⟩⟩
  have I_NothingLeft : IsxE K mg "NothingLeft" [("Faulty", false), ("NoArticles", false), ("NoMan", false), ("NoPage", false), ("NoPages", false), ("NoRank", false), ("NoRow", false), ("NoSum", false), ("NoText", false), ("NotThere", false), ("NothingLeft", true), ("TooMany", false), ("TooMuch", false), ("Twice", false)] := ⟨C_NothingLeft, PySem.W.mg_of X G n_NothingLeft, fun q hq => by
    simp only [List.mem_cons, List.not_mem_nil, or_false] at hq
    rcases hq with rfl | rfl | rfl | rfl | rfl | rfl | rfl | rfl | rfl | rfl | rfl | rfl | rfl | rfl
    · exact ⟨C_Faulty, n_Faulty, X_Faulty, i_Faulty_NothingLeft⟩
    · exact ⟨C_NoArticles, n_NoArticles, X_NoArticles, i_NoArticles_NothingLeft⟩
    · exact ⟨C_NoMan, n_NoMan, X_NoMan, i_NoMan_NothingLeft⟩
    · exact ⟨C_NoPage, n_NoPage, X_NoPage, i_NoPage_NothingLeft⟩
    · exact ⟨C_NoPages, n_NoPages, X_NoPages, i_NoPages_NothingLeft⟩
    · exact ⟨C_NoRank, n_NoRank, X_NoRank, i_NoRank_NothingLeft⟩
    · exact ⟨C_NoRow, n_NoRow, X_NoRow, i_NoRow_NothingLeft⟩
    · exact ⟨C_NoSum, n_NoSum, X_NoSum, i_NoSum_NothingLeft⟩
    · exact ⟨C_NoText, n_NoText, X_NoText, i_NoText_NothingLeft⟩
    · exact ⟨C_NotThere, n_NotThere, X_NotThere, i_NotThere_NothingLeft⟩
    · exact ⟨C_NothingLeft, n_NothingLeft, X_NothingLeft, i_NothingLeft_NothingLeft⟩
    · exact ⟨C_TooMany, n_TooMany, X_TooMany, i_TooMany_NothingLeft⟩
    · exact ⟨C_TooMuch, n_TooMuch, X_TooMuch, i_TooMuch_NothingLeft⟩
    · exact ⟨C_Twice, n_Twice, X_Twice, i_Twice_NothingLeft⟩⟩
  have I_TooMany : IsxE K mg "TooMany" [("Faulty", false), ("NoArticles", false), ("NoMan", false), ("NoPage", false), ("NoPages", false), ("NoRank", false), ("NoRow", false), ("NoSum", false), ("NoText", false), ("NotThere", false), ("NothingLeft", false), ("TooMany", true), ("TooMuch", false), ("Twice", false)] := ⟨C_TooMany, PySem.W.mg_of X G n_TooMany, fun q hq => by
    simp only [List.mem_cons, List.not_mem_nil, or_false] at hq
    rcases hq with rfl | rfl | rfl | rfl | rfl | rfl | rfl | rfl | rfl | rfl | rfl | rfl | rfl | rfl
    · exact ⟨C_Faulty, n_Faulty, X_Faulty, i_Faulty_TooMany⟩
    · exact ⟨C_NoArticles, n_NoArticles, X_NoArticles, i_NoArticles_TooMany⟩
    · exact ⟨C_NoMan, n_NoMan, X_NoMan, i_NoMan_TooMany⟩
    · exact ⟨C_NoPage, n_NoPage, X_NoPage, i_NoPage_TooMany⟩
    · exact ⟨C_NoPages, n_NoPages, X_NoPages, i_NoPages_TooMany⟩
    · exact ⟨C_NoRank, n_NoRank, X_NoRank, i_NoRank_TooMany⟩
    · exact ⟨C_NoRow, n_NoRow, X_NoRow, i_NoRow_TooMany⟩
    · exact ⟨C_NoSum, n_NoSum, X_NoSum, i_NoSum_TooMany⟩
    · exact ⟨C_NoText, n_NoText, X_NoText, i_NoText_TooMany⟩
    · exact ⟨C_NotThere, n_NotThere, X_NotThere, i_NotThere_TooMany⟩
    · exact ⟨C_NothingLeft, n_NothingLeft, X_NothingLeft, i_NothingLeft_TooMany⟩
    · exact ⟨C_TooMany, n_TooMany, X_TooMany, i_TooMany_TooMany⟩
    · exact ⟨C_TooMuch, n_TooMuch, X_TooMuch, i_TooMuch_TooMany⟩
    · exact ⟨C_Twice, n_Twice, X_Twice, i_Twice_TooMany⟩⟩
  have I_TooMuch : IsxE K mg "TooMuch" [("Faulty", false), ("NoArticles", false), ("NoMan", false), ("NoPage", false), ("NoPages", false), ("NoRank", false), ("NoRow", false), ("NoSum", false), ("NoText", false), ("NotThere", false), ("NothingLeft", false), ("TooMany", false), ("TooMuch", true), ("Twice", false)] := ⟨C_TooMuch, PySem.W.mg_of X G n_TooMuch, fun q hq => by
    simp only [List.mem_cons, List.not_mem_nil, or_false] at hq
    rcases hq with rfl | rfl | rfl | rfl | rfl | rfl | rfl | rfl | rfl | rfl | rfl | rfl | rfl | rfl
    · exact ⟨C_Faulty, n_Faulty, X_Faulty, i_Faulty_TooMuch⟩
    · exact ⟨C_NoArticles, n_NoArticles, X_NoArticles, i_NoArticles_TooMuch⟩
    · exact ⟨C_NoMan, n_NoMan, X_NoMan, i_NoMan_TooMuch⟩
    · exact ⟨C_NoPage, n_NoPage, X_NoPage, i_NoPage_TooMuch⟩
    · exact ⟨C_NoPages, n_NoPages, X_NoPages, i_NoPages_TooMuch⟩
    · exact ⟨C_NoRank, n_NoRank, X_NoRank, i_NoRank_TooMuch⟩
    · exact ⟨C_NoRow, n_NoRow, X_NoRow, i_NoRow_TooMuch⟩
    · exact ⟨C_NoSum, n_NoSum, X_NoSum, i_NoSum_TooMuch⟩
    · exact ⟨C_NoText, n_NoText, X_NoText, i_NoText_TooMuch⟩
    · exact ⟨C_NotThere, n_NotThere, X_NotThere, i_NotThere_TooMuch⟩
    · exact ⟨C_NothingLeft, n_NothingLeft, X_NothingLeft, i_NothingLeft_TooMuch⟩
    · exact ⟨C_TooMany, n_TooMany, X_TooMany, i_TooMany_TooMuch⟩
    · exact ⟨C_TooMuch, n_TooMuch, X_TooMuch, i_TooMuch_TooMuch⟩
    · exact ⟨C_Twice, n_Twice, X_Twice, i_Twice_TooMuch⟩⟩
  have I_Twice : IsxE K mg "Twice" [("Faulty", false), ("NoArticles", false), ("NoMan", false), ("NoPage", false), ("NoPages", false), ("NoRank", false), ("NoRow", false), ("NoSum", false), ("NoText", false), ("NotThere", false), ("NothingLeft", false), ("TooMany", false), ("TooMuch", false), ("Twice", true)] := ⟨C_Twice, PySem.W.mg_of X G n_Twice, fun q hq => by
    simp only [List.mem_cons, List.not_mem_nil, or_false] at hq
    rcases hq with rfl | rfl | rfl | rfl | rfl | rfl | rfl | rfl | rfl | rfl | rfl | rfl | rfl | rfl
    · exact ⟨C_Faulty, n_Faulty, X_Faulty, i_Faulty_Twice⟩
    · exact ⟨C_NoArticles, n_NoArticles, X_NoArticles, i_NoArticles_Twice⟩
    · exact ⟨C_NoMan, n_NoMan, X_NoMan, i_NoMan_Twice⟩
    · exact ⟨C_NoPage, n_NoPage, X_NoPage, i_NoPage_Twice⟩
    · exact ⟨C_NoPages, n_NoPages, X_NoPages, i_NoPages_Twice⟩
    · exact ⟨C_NoRank, n_NoRank, X_NoRank, i_NoRank_Twice⟩
    · exact ⟨C_NoRow, n_NoRow, X_NoRow, i_NoRow_Twice⟩
    · exact ⟨C_NoSum, n_NoSum, X_NoSum, i_NoSum_Twice⟩
    · exact ⟨C_NoText, n_NoText, X_NoText, i_NoText_Twice⟩
    · exact ⟨C_NotThere, n_NotThere, X_NotThere, i_NotThere_Twice⟩
    · exact ⟨C_NothingLeft, n_NothingLeft, X_NothingLeft, i_NothingLeft_Twice⟩
    · exact ⟨C_TooMany, n_TooMany, X_TooMany, i_TooMany_Twice⟩
    · exact ⟨C_TooMuch, n_TooMuch, X_TooMuch, i_TooMuch_Twice⟩
    · exact ⟨C_Twice, n_Twice, X_Twice, i_Twice_Twice⟩⟩
  have I_WageError : IsxE K mg "WageError" [("Faulty", true), ("NoArticles", true), ("NoMan", true), ("NoPage", true), ("NoPages", true), ("NoRank", true), ("NoRow", true), ("NoSum", true), ("NoText", true), ("NotThere", true), ("NothingLeft", true), ("TooMany", true), ("TooMuch", true), ("Twice", true)] := ⟨C_WageError, PySem.W.mg_of X G n_WageError, fun q hq => by
    simp only [List.mem_cons, List.not_mem_nil, or_false] at hq
    rcases hq with rfl | rfl | rfl | rfl | rfl | rfl | rfl | rfl | rfl | rfl | rfl | rfl | rfl | rfl
    · exact ⟨C_Faulty, n_Faulty, X_Faulty, i_Faulty_WageError⟩
    · exact ⟨C_NoArticles, n_NoArticles, X_NoArticles, i_NoArticles_WageError⟩
    · exact ⟨C_NoMan, n_NoMan, X_NoMan, i_NoMan_WageError⟩
    · exact ⟨C_NoPage, n_NoPage, X_NoPage, i_NoPage_WageError⟩
    · exact ⟨C_NoPages, n_NoPages, X_NoPages, i_NoPages_WageError⟩
    · exact ⟨C_NoRank, n_NoRank, X_NoRank, i_NoRank_WageError⟩
    · exact ⟨C_NoRow, n_NoRow, X_NoRow, i_NoRow_WageError⟩
    · exact ⟨C_NoSum, n_NoSum, X_NoSum, i_NoSum_WageError⟩
    · exact ⟨C_NoText, n_NoText, X_NoText, i_NoText_WageError⟩
    · exact ⟨C_NotThere, n_NotThere, X_NotThere, i_NotThere_WageError⟩
    · exact ⟨C_NothingLeft, n_NothingLeft, X_NothingLeft, i_NothingLeft_WageError⟩
    · exact ⟨C_TooMany, n_TooMany, X_TooMany, i_TooMany_WageError⟩
    · exact ⟨C_TooMuch, n_TooMuch, X_TooMuch, i_TooMuch_WageError⟩
    · exact ⟨C_Twice, n_Twice, X_Twice, i_Twice_WageError⟩⟩
  have I_ValueError : IsxTE K mg "ValueError" "ValueError" [("Faulty", true), ("NoArticles", true), ("NoMan", true), ("NoPage", true), ("NoPages", true), ("NoRank", true), ("NoRow", true), ("NoSum", true), ("NoText", true), ("NotThere", true), ("NothingLeft", true), ("TooMany", true), ("TooMuch", true), ("Twice", true)] := ⟨PySem.W.mg_none_of X G n_ValueError, fun q hq => by
    simp only [List.mem_cons, List.not_mem_nil, or_false] at hq
    rcases hq with rfl | rfl | rfl | rfl | rfl | rfl | rfl | rfl | rfl | rfl | rfl | rfl | rfl | rfl
    · exact ⟨C_Faulty, n_Faulty, X_Faulty, i_Faulty_ValueError⟩
    · exact ⟨C_NoArticles, n_NoArticles, X_NoArticles, i_NoArticles_ValueError⟩
    · exact ⟨C_NoMan, n_NoMan, X_NoMan, i_NoMan_ValueError⟩
    · exact ⟨C_NoPage, n_NoPage, X_NoPage, i_NoPage_ValueError⟩
    · exact ⟨C_NoPages, n_NoPages, X_NoPages, i_NoPages_ValueError⟩
    · exact ⟨C_NoRank, n_NoRank, X_NoRank, i_NoRank_ValueError⟩
    · exact ⟨C_NoRow, n_NoRow, X_NoRow, i_NoRow_ValueError⟩
    · exact ⟨C_NoSum, n_NoSum, X_NoSum, i_NoSum_ValueError⟩
    · exact ⟨C_NoText, n_NoText, X_NoText, i_NoText_ValueError⟩
    · exact ⟨C_NotThere, n_NotThere, X_NotThere, i_NotThere_ValueError⟩
    · exact ⟨C_NothingLeft, n_NothingLeft, X_NothingLeft, i_NothingLeft_ValueError⟩
    · exact ⟨C_TooMany, n_TooMany, X_TooMany, i_TooMany_ValueError⟩
    · exact ⟨C_TooMuch, n_TooMuch, X_TooMuch, i_TooMuch_ValueError⟩
    · exact ⟨C_Twice, n_Twice, X_Twice, i_Twice_ValueError⟩⟩
  have OI_Faulty : ZX.OwnI K mg "Faulty" C_Faulty fI_Faulty := ⟨PySem.W.mg_of X G n_Faulty, eI_Faulty, fI2_Faulty, kpI_Faulty⟩
  have bI_Faulty := (fun_mk (st := s_init_Faulty) lI_Faulty cI_Faulty (by unfold PySem.W.keepIn; dsimp only; rw [lI_Faulty])).binds (ps := ["self", "faults"]) fun _ _ _ _ _ _ us hl => match us, hl with | [_, _], _ => rfl
  have OI_TooMuch : ZX.OwnI K mg "TooMuch" C_TooMuch fI_TooMuch := ⟨PySem.W.mg_of X G n_TooMuch, eI_TooMuch, fI2_TooMuch, kpI_TooMuch⟩
  have bI_TooMuch := (fun_mk (st := s_init_TooMuch) lI_TooMuch cI_TooMuch (by unfold PySem.W.keepIn; dsimp only; rw [lI_TooMuch])).binds (ps := ["self", "most"]) fun _ _ _ _ _ _ us hl => match us, hl with | [_, _], _ => rfl
  have T : Gb K mg := ⟨PySem.W.mg_none_of X G z_int, PySem.W.mg_none_of X G z_isinstance, PySem.W.mg_none_of X G z_len, PySem.W.mg_none_of X G z_range, PySem.W.mg_none_of X G z_sorted, PySem.W.mg_none_of X G z_str, I_Faulty, I_NoArticles, I_NoMan, I_NoPage, I_NoPages, I_NoRank, I_NoRow, I_NoSum, I_NoText, I_NotThere, I_NothingLeft, I_TooMany, I_TooMuch, I_Twice, I_WageError, I_ValueError, ⟨C_NoArticles, ⟨PySem.W.mg_of X G n_NoArticles, e_NoArticles⟩, kp_NoArticles, n_NoArticles⟩, ⟨C_NoMan, ⟨PySem.W.mg_of X G n_NoMan, e_NoMan⟩, kp_NoMan, n_NoMan⟩, ⟨C_NoPage, ⟨PySem.W.mg_of X G n_NoPage, e_NoPage⟩, kp_NoPage, n_NoPage⟩, ⟨C_NoPages, ⟨PySem.W.mg_of X G n_NoPages, e_NoPages⟩, kp_NoPages, n_NoPages⟩, ⟨C_NoRank, ⟨PySem.W.mg_of X G n_NoRank, e_NoRank⟩, kp_NoRank, n_NoRank⟩, ⟨C_NoRow, ⟨PySem.W.mg_of X G n_NoRow, e_NoRow⟩, kp_NoRow, n_NoRow⟩, ⟨C_NoSum, ⟨PySem.W.mg_of X G n_NoSum, e_NoSum⟩, kp_NoSum, n_NoSum⟩, ⟨C_NoText, ⟨PySem.W.mg_of X G n_NoText, e_NoText⟩, kp_NoText, n_NoText⟩, ⟨C_NotThere, ⟨PySem.W.mg_of X G n_NotThere, e_NotThere⟩, kp_NotThere, n_NotThere⟩, ⟨C_NothingLeft, ⟨PySem.W.mg_of X G n_NothingLeft, e_NothingLeft⟩, kp_NothingLeft, n_NothingLeft⟩, ⟨C_TooMany, ⟨PySem.W.mg_of X G n_TooMany, e_TooMany⟩, kp_TooMany, n_TooMany⟩, ⟨C_Twice, ⟨PySem.W.mg_of X G n_Twice, e_Twice⟩, kp_Twice, n_Twice⟩, (fun q hq => by
    simp only [List.mem_cons, List.not_mem_nil, or_false] at hq
    rcases hq with rfl
    · exact ⟨C_Faulty, n_Faulty, X_Faulty, nf_Faulty_faults, xd_Faulty⟩), (fun q hq => by
    simp only [List.mem_cons, List.not_mem_nil, or_false] at hq
    rcases hq with rfl
    · exact ⟨C_TooMuch, n_TooMuch, X_TooMuch, nf_TooMuch_most, xd_TooMuch⟩), (fun q hq => by
    simp only [List.mem_cons, List.not_mem_nil, or_false] at hq
    rcases hq with rfl | rfl | rfl | rfl | rfl | rfl | rfl | rfl | rfl | rfl | rfl | rfl
    · exact ⟨C_NoArticles, n_NoArticles, ⟨st_NoArticles, xb_NoArticles⟩⟩
    · exact ⟨C_NoMan, n_NoMan, ⟨st_NoMan, xb_NoMan⟩⟩
    · exact ⟨C_NoPage, n_NoPage, ⟨st_NoPage, xb_NoPage⟩⟩
    · exact ⟨C_NoPages, n_NoPages, ⟨st_NoPages, xb_NoPages⟩⟩
    · exact ⟨C_NoRank, n_NoRank, ⟨st_NoRank, xb_NoRank⟩⟩
    · exact ⟨C_NoRow, n_NoRow, ⟨st_NoRow, xb_NoRow⟩⟩
    · exact ⟨C_NoSum, n_NoSum, ⟨st_NoSum, xb_NoSum⟩⟩
    · exact ⟨C_NoText, n_NoText, ⟨st_NoText, xb_NoText⟩⟩
    · exact ⟨C_NotThere, n_NotThere, ⟨st_NotThere, xb_NotThere⟩⟩
    · exact ⟨C_NothingLeft, n_NothingLeft, ⟨st_NothingLeft, xb_NothingLeft⟩⟩
    · exact ⟨C_TooMany, n_TooMany, ⟨st_TooMany, xb_TooMany⟩⟩
    · exact ⟨C_Twice, n_Twice, ⟨st_Twice, xb_Twice⟩⟩)⟩
  refine ⟨PySem.W.fnOf "law" "law" (defArgs s_law) (defBody s_law) (defScope s_law) .none kV4 dc4 pm4 an4 cd4 ct4, fun s v => .of_eq rfl, fun base _ _ => ?_⟩
  have H_law_draws := ok_law_draws (P := l.prog) (w := w) (base := base) T (PySem.W.mg_of X G a0) F0 b0  
  have H_law_draw := ok_law_draw (P := l.prog) (w := w) (base := base) T (PySem.W.mg_of X G a1) F1 b1  
  have H_law_names := ok_law_names (P := l.prog) (w := w) (base := base) T (PySem.W.mg_of X G a2) F2 b2  H_law_draw
  have H_law_kind_of := ok_law_kind_of (P := l.prog) (w := w) (base := base) T (PySem.W.mg_of X G a3) F3 b3  
  have HI_Faulty : HasI l.prog w K mg base 1 "Faulty" "faults" "the pages of the man or of the ship have faults" := ⟨C_Faulty, fI_Faulty, _, "self", "faults", OI_Faulty, n_Faulty, bI_Faulty, ok_init_Faulty (PySem.W.mg_of X G n_WageError) OI_Faulty ⟨lg_WageError, lr_WageError, lf_WageError⟩ ⟨sa_Faulty, mr_Faulty, nf_Faulty_faults, xd_Faulty⟩ lI_Faulty cI_Faulty⟩
  have HI_TooMuch : HasI l.prog w K mg base 1 "TooMuch" "most" "the pence are more than the room" := ⟨C_TooMuch, fI_TooMuch, _, "self", "most", OI_TooMuch, n_TooMuch, bI_TooMuch, ok_init_TooMuch (PySem.W.mg_of X G n_WageError) OI_TooMuch ⟨lg_WageError, lr_WageError, lf_WageError⟩ ⟨sa_TooMuch, mr_TooMuch, nf_TooMuch_most, xd_TooMuch⟩ lI_TooMuch cI_TooMuch⟩
  have H_law := ok_law (P := l.prog) (w := w) (base := base) T (PySem.W.mg_of X G a4) F4 b4  H_law_draws H_law_names H_law_draw H_law_kind_of HI_Faulty HI_TooMuch
  exact H_law
theorem walk {l : PySem.W.OpenLaw} {q : Program} {loose : List Str} {XP : (Str → Option Value) → Heap → Prop} {YP : World → Heap → Prop} {d : DefRec} {K : Params → PySem.W.Frag} (maths : ∀ ns : List Int, ns.length ≤ 63 → ∃ S, G_law [.fz (ns.map D.int)] [] = .ok (.d (.bl true)) S) (hn : l.most = some 63) (hdf : d.params.defaults = [])
    (hY : ∀ (w : World) (h : Heap), YP w h → (K w.params).In h)
    (F : ∀ (w : World) (mg : Str → Option Value) (fa : Addr) (h : Heap), (K w.params).In h → h.Ns mainGlobals mg → mg d.name = some (.ref fa) →
      ∃ fd : FuncData, (∀ (s : Shared) (u : Value), BindsTo s fd ⟨[u], []⟩ [("script", u)]) ∧ ∀ base : Heap, (K w.params).In base → base.Ns mainGlobals mg → FnOk l.prog w (K w.params) mg base CX0 3 fa fd ["script"] (spOf (K w.params) 1 G_law)) :
    PySem.W.WalkO q loose XP YP l.row.toRowW d [] (fun f vs => PySem.call f vs) :=
  L2.walk_of (n := 63) (k := 3) (x := "script") (CX := fun _ => CX0) (sp := fun w => spOf (K w.params) 1 G_law) hn (by decide) hdf ⟨rfl, by decide, by decide⟩ hY F (fun _ _ a ns hl hO hS => sp_law maths hl hO hS) fun _ _ _ _ _ z => z
end K96
namespace Z
open PySem L2
def wp {α : Type} (r : Res α) (Q : α → Sto → Prop) : Prop := match r with | .ok a S => Q a S | _ => False
def wps (r : SR) (N : DS → Sto → Prop) (R : W → Sto → Prop) : Prop := match r with | .nx t S => N t S | .rt w S => R w S | _ => False
section
variable {α β : Type} {r : Res α} {S : Sto} {t : DS}
@[simp] theorem wp_ok {a : α} {Q : α → Sto → Prop} : wp (.ok a S) Q = Q a S := rfl
@[simp] theorem wp_bad {Q : α → Sto → Prop} : wp (.bad : Res α) Q = False := rfl
@[simp] theorem wp_bind {f : α → Sto → Res β} {Q : β → Sto → Prop} : wp (r.bind f) Q = wp r fun a S => wp (f a S) Q := by cases r <;> rfl
theorem wp_mono {Q Q' : α → Sto → Prop} (h : wp r Q) (k : ∀ a S, Q a S → Q' a S) : wp r Q' := by
  cases r with
  | ok a S => exact k a S h
  | exc _ _ => exact h
  | bad => exact h
@[simp] theorem wps_nx {N : DS → Sto → Prop} {R : W → Sto → Prop} : wps (.nx t S) N R = N t S := rfl
@[simp] theorem wps_rt {w : W} {N : DS → Sto → Prop} {R : W → Sto → Prop} : wps (.rt w S) N R = R w S := rfl
@[simp] theorem wps_bad {N : DS → Sto → Prop} {R : W → Sto → Prop} : wps .bad N R = False := rfl
@[simp] theorem wps_then {f : α → Sto → SR} {N : DS → Sto → Prop} {R : W → Sto → Prop} : wps (r.then t f) N R = wp r fun a S => wps (f a S) N R := by cases r <;> rfl
@[simp] theorem wps_seq {q : SR} {f : MSt} {N : DS → Sto → Prop} {R : W → Sto → Prop} : wps (q.seq f) N R = wps q (fun t S => wps (f t S) N R) R := by cases q <;> rfl
theorem wps_mono {q : SR} {N N' : DS → Sto → Prop} {R R' : W → Sto → Prop} (h : wps q N R) (k : ∀ t S, N t S → N' t S) (k2 : ∀ w S, R w S → R' w S) : wps q N' R' := by
  cases q with
  | nx t S => exact k t S h
  | rt w S => exact k2 w S h
  | _ => exact h
@[simp] theorem wps_ite {c : Prop} [Decidable c] {a b : SR} {N : DS → Sto → Prop} {R : W → Sto → Prop} : wps (if c then a else b) N R = if c then wps a N R else wps b N R := by split <;> rfl
@[simp] theorem wp_ite {c : Prop} [Decidable c] {a b : Res α} {Q : α → Sto → Prop} : wp (if c then a else b) Q = if c then wp a Q else wp b Q := by split <;> rfl
end
theorem wp_fn {n : Nat} {m : MSt} {ws : List W} {S : Sto} {Q : W → Sto → Prop} {t : DS} (ht : ws.map some ++ List.replicate (n - ws.length) none = t) (h : wps (m t S) (fun _ S' => Q (.d .non) (S'.take S.length)) fun w S' => ∃ x, w = .d x ∧ Q (.d x) (S'.take S.length)) : wp (fnD n m ws S) Q := by
  subst ht
  unfold fnD
  cases q : m (ws.map some ++ List.replicate (n - ws.length) none) S with
  | nx t1 S1 => rw [q] at h; exact h
  | rt w S1 =>
    rw [q] at h
    obtain ⟨x, rfl, h⟩ := h
    exact h
  | bk _ _ => rw [q] at h; exact h.elim
  | ct _ _ => rw [q] at h; exact h.elim
  | exc _ _ _ => rw [q] at h; exact h.elim
  | bad => rw [q] at h; exact h.elim
theorem wp_noX {g : List W → Sto → Res W} {ws : List W} {S : Sto} {Q : W → Sto → Prop} (h : wp (g ws S) Q) : wp (noX g ws S) Q := by
  unfold noX
  cases q : g ws S with
  | ok a b => rw [q] at h; exact h
  | exc _ _ => rw [q] at h; exact h.elim
  | bad => rw [q] at h; exact h.elim
theorem ok_of {g : Res W} {S : Sto} {w : W} (h : wp g fun a b => a = w ∧ b = S) : g = .ok w S := by
  cases g with
  | ok a b => obtain ⟨rfl, rfl⟩ := h; rfl
  | exc _ _ => exact h.elim
  | bad => exact h.elim
theorem leSz {k : Nat} (h : k ≤ 1000) : (k ≤ sizeLine) = True := eq_true (Nat.le_trans h (by decide))
section
variable {i j : Int} {x y : Str} {S : Sto}
@[simp] theorem o_add : opD .Add (.d (.int i)) (.d (.int j)) S = .ok (.d (.int (i + j))) S := rfl
@[simp] theorem o_sub : opD .Sub (.d (.int i)) (.d (.int j)) S = .ok (.d (.int (i - j))) S := rfl
@[simp] theorem o_mul : opD .Mult (.d (.int i)) (.d (.int j)) S = if mulOk i j = true then .ok (.d (.int (i * j))) S else .bad := rfl
@[simp] theorem o_div : opD .FloorDiv (.d (.int i)) (.d (.int j)) S = if divOk j = true then .ok (.d (.int (i / j))) S else .bad := rfl
@[simp] theorem o_mod : opD .Mod (.d (.int i)) (.d (.int j)) S = if 0 < j then .ok (.d (.int (i % j))) S else .bad := rfl
@[simp] theorem o_pow : opD .Pow (.d (.int i)) (.d (.int j)) S = if 0 ≤ j ∧ j ≤ 1000000 ∧ i.natAbs < 2 ^ 64 then .ok (.d (.int (i ^ j.toNat))) S else .bad := rfl
@[simp] theorem o_adds : opD .Add (.d (.str x)) (.d (.str y)) S = if x.length + y.length ≤ sizeLine then .ok (.d (.str (x ++ y))) S else .bad := rfl
@[simp] theorem c_lt : cmpD .Lt (.d (.int i)) (.d (.int j)) S = .ok (.d (.bl (decide (i < j)))) S := rfl
@[simp] theorem c_le : cmpD .LtE (.d (.int i)) (.d (.int j)) S = .ok (.d (.bl (decide (i ≤ j)))) S := rfl
@[simp] theorem c_gt : cmpD .Gt (.d (.int i)) (.d (.int j)) S = .ok (.d (.bl (decide (j < i)))) S := rfl
@[simp] theorem c_ge : cmpD .GtE (.d (.int i)) (.d (.int j)) S = .ok (.d (.bl (decide (j ≤ i)))) S := rfl
@[simp] theorem c_lts : cmpD .Lt (.d (.str x)) (.d (.str y)) S = .ok (.d (.bl (decide (x.cps.toList < y.cps.toList)))) S := rfl
@[simp] theorem c_les : cmpD .LtE (.d (.str x)) (.d (.str y)) S = .ok (.d (.bl (!decide (y.cps.toList < x.cps.toList)))) S := rfl
@[simp] theorem asB_bl {b : Bool} : asB (.d (.bl b)) S = .ok b S := rfl
end
theorem mulOk_l {i j : Int} (h : i.natAbs < 2 ^ 64) : mulOk i j = true := by unfold mulOk; simp [h]
theorem mulOk_r {i j : Int} (h : j.natAbs < 2 ^ 64) : mulOk i j = true := by unfold mulOk; simp [h]
theorem divOk_small {j : Int} (h0 : 0 < j) (h : j < 2 ^ 200) : divOk j = true := by
  unfold divOk
  have : j.natAbs.log2 < 9000 := by
    have h1 : j.natAbs < 2 ^ 200 := by omega
    have h2 := (Nat.log2_lt (by omega)).mpr h1
    omega
  simp [h0, this]
theorem lc_pure {g : W → DS → Option DS} {mt : MB} {me : M} {t : DS} {S : Sto} (p : D → Bool) (f : D → D) : ∀ (ds : List D) (acc : List D), (∀ d ∈ ds, ∃ t1, g (.d d) t = some t1 ∧ mt t1 S = .ok (p d) S ∧ (p d = true → me t1 S = .ok (.d (f d)) S)) → acc.length + ds.length ≤ sizeLine → lcD g mt me ds t S acc = .ok (acc ++ (ds.filter p).map f) S
  | [], acc, _, _ => by simp [lcD]
  | d :: ds, acc, h, hz => by
    obtain ⟨t1, e1, e2, e3⟩ := h d (by simp)
    have hz' : acc.length + ds.length + 1 ≤ sizeLine := by simp at hz; omega
    unfold lcD
    rw [e1]
    dsimp only
    rw [e2]
    cases hp : p d with
    | true =>
      dsimp only
      rw [e3 hp]
      dsimp only
      rw [if_pos (by omega), lc_pure p f ds (acc ++ [f d]) (fun x hx => h x (by simp [hx])) (by simp; omega)]
      simp [hp]
    | false =>
      dsimp only
      rw [lc_pure p f ds acc (fun x hx => h x (by simp [hx])) (by omega)]
      simp [hp]
theorem lc_all {g : W → DS → Option DS} {me : M} {t : DS} {S : Sto} (f : D → D) (ds : List D) (h : ∀ d ∈ ds, ∃ t1, g (.d d) t = some t1 ∧ me t1 S = .ok (.d (f d)) S) (hz : ds.length ≤ sizeLine) : lcD g dYes me ds t S [] = .ok (ds.map f) S := by
  rw [lc_pure (mt := dYes) (fun _ => true) f ds [] (fun d hd => let ⟨t1, e1, e2⟩ := h d hd; ⟨t1, e1, rfl, fun _ => e2⟩) (by simpa using hz)]
  have : ds.filter (fun _ => true) = ds := List.filter_eq_self.mpr fun _ _ => rfl
  rw [this]
  rfl
inductive F2 {α β : Type} (P : α → β → Prop) : List α → List β → Prop
  | nil : F2 P [] []
  | cons {a : α} {b : β} {as : List α} {bs : List β} : P a b → F2 P as bs → F2 P (a :: as) (b :: bs)
theorem F2.length {α β : Type} {P : α → β → Prop} : ∀ {as : List α} {bs : List β}, F2 P as bs → bs.length = as.length
  | _, _, .nil => rfl
  | _, _, .cons _ t => by simp [t.length]
theorem F2.all {α β : Type} {P : α → β → Prop} {R : β → Prop} (h : ∀ a b, P a b → R b) : ∀ {as : List α} {bs : List β}, F2 P as bs → ∀ b ∈ bs, R b
  | _, _, .nil, b, hb => by cases hb
  | _, _, .cons p t, b, hb => by
    rcases List.mem_cons.mp hb with rfl | hb
    · exact h _ _ p
    · exact t.all h b hb
/-- by a rule for each turn: I the store's invariant, P what an item bears -/
theorem lc_inv {g : W → DS → Option DS} {me : M} {t : DS} (I : Sto → Prop) (P : D → D → Prop) : ∀ (ds : List D) (S : Sto) (acc : List D), (∀ d ∈ ds, ∀ S, I S → ∃ t1, g (.d d) t = some t1 ∧ wp (me t1 S) fun w S' => ∃ x, w = .d x ∧ P d x ∧ I S') → acc.length + ds.length ≤ sizeLine → I S →
    wp (lcD g dYes me ds t S acc) fun xs S' => ∃ ys, xs = acc ++ ys ∧ F2 P ds ys ∧ I S'
  | [], S, acc, _, _, hI => ⟨[], by simp, .nil, hI⟩
  | d :: ds, S, acc, h, hz, hI => by
    obtain ⟨t1, e1, e2⟩ := h d (by simp) S hI
    have hz' : acc.length + ds.length + 1 ≤ sizeLine := by simp at hz; omega
    unfold lcD
    rw [e1]
    dsimp only [dYes]
    cases q : me t1 S with
    | bad => rw [q] at e2; exact e2.elim
    | exc _ _ => rw [q] at e2; exact e2.elim
    | ok w S' =>
      rw [q] at e2
      obtain ⟨x, rfl, px, hI'⟩ := e2
      dsimp only
      rw [if_pos (by omega)]
      refine wp_mono (lc_inv I P ds S' (acc ++ [x]) (fun y hy => h y (by simp [hy])) (by simp; omega) hI') fun xs S'' ⟨ys, e, q, hS⟩ => ?_
      exact ⟨x :: ys, by rw [e]; simp, .cons px q, hS⟩
end Z
namespace K01
open PySem L2 Z
def okC (c : Nat) : Bool := decide (97 ≤ c) && decide (c ≤ 122)
end K01
namespace K01
open PySem L2 Z
theorem strs_map : ∀ l : List Str, strsOf (l.map D.str) = some l
  | [] => rfl
  | a :: r => by simp [strsOf, strs_map r]
def ltS (x y : Str) : Bool := decide (x.cps.toList < y.cps.toList)
def risesS (l : List Str) : Bool := (l.zip l.tail).all fun p => ltS p.1 p.2
end K01
namespace K01
open PySem L2 Z
def nameOf : D → Str
  | .tup (.str s :: _) => s
  | _ => Str.empty
section
variable {L n : Nat} (hL : L ≤ 1000)
include hL
end
end K01
namespace K01
open PySem L2 Z
section
variable {L n : Nat} (hL : L ≤ 1000)
include hL
end
end K01
namespace K01
open PySem L2 Z
theorem nx_of {q : SR} {t : DS} {S : Sto} (h : wps q (fun t' S' => t' = t ∧ S' = S) fun _ _ => False) : q = .nx t S := by
  cases q with
  | nx _ _ => obtain ⟨rfl, rfl⟩ := h; rfl
  | rt _ _ => exact h.elim
  | bk _ _ => exact h.elim
  | ct _ _ => exact h.elim
  | exc _ _ _ => exact h.elim
  | bad => exact h.elim
theorem ltS_iff {x y : Str} : ltS x y = true ↔ Spec.ltCps x.cps.toList y.cps.toList = true := by
  rw [ltCps_iff]
  unfold ltS
  exact decide_eq_true_iff
theorem ltS_trans {x y z : Str} (h1 : ltS x y = true) (h2 : ltS y z = true) : ltS x z = true := by
  unfold ltS at *
  simp only [decide_eq_true_eq] at *
  exact List.lt_trans h1 h2
theorem rises_pw : ∀ l : List Str, risesS l = true ↔ l.Pairwise fun a b => ltS a b = true
  | [] => by simp [risesS]
  | [a] => by simp [risesS]
  | a :: b :: r => by
    have ih := rises_pw (b :: r)
    have e : risesS (a :: b :: r) = (ltS a b && risesS (b :: r)) := by simp [risesS]
    rw [e, Bool.and_eq_true, ih]
    constructor
    · rintro ⟨h1, h2⟩
      refine List.pairwise_cons.mpr ⟨fun c hc => ?_, h2⟩
      rcases List.mem_cons.mp hc with rfl | hc
      · exact h1
      · exact ltS_trans h1 ((List.pairwise_cons.mp h2).1 c hc)
    · intro h
      obtain ⟨h1, h2⟩ := List.pairwise_cons.mp h
      exact ⟨h1 b (by simp), h2⟩
theorem leS_lt {x y : Str} (h : leS x y = true) (hne : x ≠ y) : ltS x y = true := by
  cases q : ltS x y with
  | true => rfl
  | false =>
    exfalso
    apply hne
    refine leS_anti h ?_
    unfold leS
    cases q2 : Spec.ltCps x.cps.toList y.cps.toList with
    | false => rfl
    | true => rw [ltS_iff.mpr q2] at q; cases q
section
variable {L n : Nat} (hL : L ≤ 1000)
include hL
end
end K01
namespace K01
open PySem L2 Z
section
variable {L n : Nat} (hL : L ≤ 1000)
include hL
end
end K01
namespace K01
open PySem L2 Z
def HasD (n : Nat) (S : Sto) : Prop := ∃ a b, S[n]? = some (.lst [.int a, .int b])
structure Dr (n : Nat) (S S' : Sto) : Prop where
  len : S'.length = S.length
  oth : ∀ i, i ≠ n → S'[i]? = S[i]?
  has : HasD n S'
theorem Dr.refl {n : Nat} {S : Sto} (h : HasD n S) : Dr n S S := ⟨rfl, fun _ _ => rfl, h⟩
theorem Dr.trans {n : Nat} {S S1 S2 : Sto} (a : Dr n S S1) (b : Dr n S1 S2) : Dr n S S2 := ⟨b.len.trans a.len, fun i hi => (b.oth i hi).trans (a.oth i hi), b.has⟩
theorem Dr.set {n : Nat} {S : Sto} {a b : Int} (h : n < S.length) : Dr n S (S.set n (.lst [.int a, .int b])) :=
  ⟨by simp, fun i hi => by rw [List.getElem?_set_ne (Ne.symm hi)], a, b, by rw [List.getElem?_set_self h]⟩
theorem Dr.take {n : Nat} {S S' : Sto} (h : Dr n S S') : Dr n S (S'.take S.length) := by
  have : S'.take S.length = S' := List.take_of_length_le (by rw [h.len]; exact Nat.le_refl _)
  rw [this]
  exact h
section
variable {n : Nat} {many : Int}
abbrev drC : MB := dT (dCmp .Lt (dVar 3) (dVar 1))
abbrev drB : MSt := (sCons (sSetItem (dBin .Mod (dBin .Mult (dSub (dVar 0) (dCon (.int 1))) (dCon (.int 69621))) (dCon (.int 2147483647))) (dVar 0) (dCon (.int 1))) (sCons (sAsg (dBin .Add (dBin .Mult (dVar 2) (dCon (.int 268435456))) (dBin .FloorDiv (dBin .Mod (dBin .Mult (dSub (dVar 0) (dCon (.int 1))) (dBin .Add (dBin .FloorDiv (dSub (dVar 0) (dCon (.int 1))) (dCon (.int 128))) (dCon (.int 3)))) (dCon (.int 2147483629))) (dCon (.int 8)))) (gN 2)) (sCons (sAsg (dBin .Mult (dVar 3) (dCon (.int 268435456))) (gN 3)) sNil)))
theorem atI0 (a b : D) : atI [a, b] 0 = some a := rfl
theorem atI1 (a b : D) : atI [a, b] 1 = some b := rfl
theorem ixN20 : ixN 2 0 = some 0 := rfl
theorem ixN21 : ixN 2 1 = some 1 := rfl
theorem drB_run {S : Sto} {f w a b : Int} (hS : S[n]? = some (.lst [.int a, .int b])) :
    ∃ f' b' : Int, drB [some (.ref n), some (.d (.int many)), some (.d (.int f)), some (.d (.int w))] S = .nx [some (.ref n), some (.d (.int many)), some (.d (.int f')), some (.d (.int (w * 268435456)))] (S.set n (.lst [.int a, .int b'])) := by
  have hn : n < S.length := (List.getElem?_eq_some_iff.mp hS).1
  have h1 : mulOk b 69621 = true := mulOk_r (by decide)
  have hb0 : 0 ≤ b * 69621 % 2147483647 := Int.emod_nonneg _ (by decide)
  have hb1 : b * 69621 % 2147483647 < 2147483647 := Int.emod_lt_of_pos _ (by decide)
  generalize hb' : b * 69621 % 2147483647 = b' at *
  have h2 : mulOk b' (b' / 128 + 3) = true := mulOk_l (by omega)
  have h3 : mulOk f 268435456 = true := mulOk_r (by decide)
  have h4 : mulOk w 268435456 = true := mulOk_r (by decide)
  have d1 : divOk 128 = true := divOk_small (by decide) (by decide)
  have d2 : divOk 8 = true := divOk_small (by decide) (by decide)
  have hS1 : (S.set n (.lst [.int a, .int b']))[n]? = some (.lst [.int a, .int b']) := List.getElem?_set_self hn
  refine ⟨f * 268435456 + b' * (b' / 128 + 3) % 2147483629 / 8, b', nx_of ?_⟩
  simp [b_law_draw, sCons, sNil, sRet, sIf, sAsg, sExpr, sFor, dVar, dCon, dBin, dCmp, dChain, dT, dAnd, dOr, dNot, dAndT, dOrT, dNotT, dTup, dLst, dLstC, dSub, dCall, dCons, dNil, dIsi, isiD, dNeg, gN, allD, gLen, lenW, lstOf, ixD, iSeq, itemsD, List.take_length, leSz, sSetItem, hS, atI0, atI1, ixN21, h1, hb', h2, h3, h4, d1, d2, hS1]
theorem draw_loop (k : Nat) : ∀ (f w a b : Int) (S : Sto), S[n]? = some (.lst [.int a, .int b]) → 1 ≤ w → many ≤ w * 268435456 ^ k →
    wps (whileD drC drB (k + 1) [some (.ref n), some (.d (.int many)), some (.d (.int f)), some (.d (.int w))] S)
      (fun t' S' => ∃ f' w' : Int, t' = [some (.ref n), some (.d (.int many)), some (.d (.int f')), some (.d (.int w'))] ∧ Dr n S S') fun _ _ => False := by
  induction k with
  | zero =>
    intro f w a b S hS hw hm
    have hn : n < S.length := (List.getElem?_eq_some_iff.mp hS).1
    have h1 : ¬ w < many := by simp at hm; omega
    unfold whileD
    simp [dT, dCmp, dVar, h1]
    exact Dr.refl ⟨a, b, hS⟩
  | succ k ih =>
    intro f w a b S hS hw hm
    have hn : n < S.length := (List.getElem?_eq_some_iff.mp hS).1
    unfold whileD
    by_cases h1 : w < many
    · obtain ⟨f', b', e⟩ := drB_run (n := n) (many := many) (f := f) (w := w) hS
      have hS1 : (S.set n (.lst [.int a, .int b']))[n]? = some (.lst [.int a, .int b']) := List.getElem?_set_self hn
      have := ih f' (w * 268435456) a b' _ hS1 (by omega) (by rw [Int.pow_succ] at hm; rw [Int.mul_assoc, Int.mul_comm 268435456]; exact hm)
      have c1 : drC [some (.ref n), some (.d (.int many)), some (.d (.int f)), some (.d (.int w))] S = .ok true S := by simp [drC, dT, dCmp, dVar, h1]
      rw [c1]
      simp only [then_ok, if_true]
      rw [e]
      exact wps_mono this (fun t' S' ⟨f2, w2, e2, d2⟩ => ⟨f2, w2, e2, (Dr.set hn).trans d2⟩) fun _ _ z => z
    · have c1 : drC [some (.ref n), some (.d (.int many)), some (.d (.int f)), some (.d (.int w))] S = .ok false S := by simp [drC, dT, dCmp, dVar, h1]
      rw [c1]
      simp
      exact Dr.refl ⟨a, b, hS⟩
theorem draw_ok {S : Sto} (h : HasD n S) (h1 : 1 ≤ many) (h2 : many ≤ 2 ^ 84) : wp (noX G_law_draw [.ref n, .d (.int many)] S) fun w S' => ∃ v : Int, w = .d (.int v) ∧ 0 ≤ v ∧ v < many ∧ Dr n S S' := by
  refine wp_noX ?_
  obtain ⟨a, b, hS⟩ := h
  have hn : n < S.length := (List.getElem?_eq_some_iff.mp hS).1
  rw [ge_law_draw]
  refine wp_fn (t := [some (.ref n), some (.d (.int many)), none, none]) rfl ?_
  have hmod : ∀ x : Int, 0 ≤ x % many ∧ x % many < many := fun x => ⟨Int.emod_nonneg _ (by omega), Int.emod_lt_of_pos _ (by omega)⟩
  have hpos : 0 < many := by omega
  have hdiv : divOk many = true := divOk_small hpos (Int.lt_of_le_of_lt h2 (by decide))
  by_cases h0 : 0 < a
  · have q := hmod a
    simp [b_law_draw, sCons, sNil, sRet, sIf, sAsg, sExpr, sFor, dVar, dCon, dBin, dCmp, dChain, dT, dAnd, dOr, dNot, dAndT, dOrT, dNotT, dTup, dLst, dLstC, dSub, dCall, dCons, dNil, dIsi, isiD, dNeg, gN, allD, gLen, lenW, lstOf, ixD, iSeq, itemsD, List.take_length, leSz, sSetItem, hS, atI0, atI1, ixN20, h0, hpos, hdiv]
    refine ⟨q.1, q.2, ?_⟩
    exact (Dr.set (a := a / many) (b := b) hn).take
  · have L := draw_loop (n := n) (many := many) 4 0 1 a b S hS (by omega) (Int.le_trans h2 (by decide))
    unfold b_law_draw
    simp only [sCons, wps_seq, sIf, wps_then, dT, wp_bind, dCmp, dSub, dVar, dCon, wp_ok]
    simp [b_law_draw, sCons, sNil, sRet, sIf, sAsg, sExpr, sFor, dVar, dCon, dBin, dCmp, dChain, dT, dAnd, dOr, dNot, dAndT, dOrT, dNotT, dTup, dLst, dLstC, dSub, dCall, dCons, dNil, dIsi, isiD, dNeg, gN, allD, gLen, lenW, lstOf, ixD, iSeq, itemsD, List.take_length, leSz, hS, atI0, h0]
    refine wps_mono L (fun t' S' ⟨f', w', e, d⟩ => ?_) fun _ _ z => z.elim
    subst e
    have q := hmod f'
    simp [b_law_draw, sCons, sNil, sRet, sIf, sAsg, sExpr, sFor, dVar, dCon, dBin, dCmp, dChain, dT, dAnd, dOr, dNot, dAndT, dOrT, dNotT, dTup, dLst, dLstC, dSub, dCall, dCons, dNil, dIsi, isiD, dNeg, gN, allD, gLen, lenW, lstOf, ixD, iSeq, itemsD, List.take_length, leSz, hpos]
    exact ⟨q.1, q.2, d.take⟩
end
end K01
namespace K01
open PySem L2 Z
theorem wp_fnG {n : Nat} {m : MSt} {ws : List W} {S : Sto} {Q : W → Sto → Prop} {t : DS} (ht : ws.map some ++ List.replicate (n - ws.length) none = t)
    (h : wps (m t S) (fun _ S' => Q (.d .non) (S'.take S.length)) fun w S' => (∃ x, w = .d x ∧ Q (.d x) (S'.take S.length)) ∨ ∃ k xs, w = .ref k ∧ S.length ≤ k ∧ S'[k]? = some (.lst xs) ∧ Q (.ref S.length) (S'.take S.length ++ [.lst xs])) : wp (fnD n m ws S) Q := by
  subst ht
  unfold fnD
  cases q : m (ws.map some ++ List.replicate (n - ws.length) none) S with
  | nx t1 S1 => rw [q] at h; exact h
  | rt w S1 =>
    rw [q] at h
    rcases h with ⟨x, rfl, h⟩ | ⟨k, xs, rfl, hk, e, h⟩
    · exact h
    · unfold finD
      dsimp only
      rw [if_neg (by omega), e]
      exact h
  | bk _ _ => rw [q] at h; exact h.elim
  | ct _ _ => rw [q] at h; exact h.elim
  | exc _ _ _ => rw [q] at h; exact h.elim
  | bad => rw [q] at h; exact h.elim
theorem atI_in {α : Type} {xs : List α} {v : Int} (h0 : 0 ≤ v) (h1 : v < xs.length) : ∃ x, atI xs v = some x ∧ xs[v.toNat]? = some x ∧ x ∈ xs := by
  have hv : v.toNat < xs.length := by omega
  refine ⟨xs[v.toNat], ?_, by simp [hv], List.getElem_mem hv⟩
  unfold atI ixN
  rw [if_pos h0, if_pos h1]
  simp [hv]
def lets : List Nat := [97, 98, 99, 100, 101, 102, 103, 104, 105, 106, 107, 108, 109, 110, 111, 112, 113, 114, 115, 116, 117, 118, 119, 120, 121, 122]
theorem cps_lets : (Str.ofString "abcdefghijklmnopqrstuvwxyz").cps.toList = lets := by decide +kernel
theorem len_lets : (Str.ofString "abcdefghijklmnopqrstuvwxyz").length ≤ sizeLine := by decide +kernel
theorem lets_at {v : Int} (h0 : 0 ≤ v) (h1 : v < 26) : atI lets v = some (97 + v.toNat) := by
  have key : ∀ k : Fin 26, atI lets ((k.val : Nat) : Int) = some (97 + k.val) := by decide
  have := key ⟨v.toNat, by omega⟩
  rw [show (((v.toNat : Nat) : Int)) = v by omega] at this
  exact this
def gdS (s : Str) : Prop := 1 ≤ s.length ∧ s.length ≤ 8 ∧ ∀ c ∈ s.cps.toList, okC c = true
theorem gdS_ok {s : Str} (h : ∀ c ∈ s.cps.toList, okC c = true) : PyData.strOk s = true := by
  unfold PyData.strOk
  rw [Array.all_eq_true']
  intro c hc
  have := h c (by simpa using hc)
  simp [okC] at this
  simp
  omega
theorem cps_app (a b : Str) : (a ++ b).cps.toList = a.cps.toList ++ b.cps.toList := by
  show (a.cps ++ b.cps).toList = _
  simp
theorem len_app (a b : Str) : (a ++ b).length = a.length + b.length := by
  show (a.cps ++ b.cps).size = a.cps.size + b.cps.size
  simp
theorem join_ok : ∀ l : List Str, (∀ s ∈ l, s.length = 1 ∧ ∀ c ∈ s.cps.toList, okC c = true) → (Txt.join (Str.ofString "") l).length = l.length ∧ ∀ c ∈ (Txt.join (Str.ofString "") l).cps.toList, okC c = true := by
  have e : ∀ l, Txt.join (Str.ofString "") l = Str.join (Str.ofString "") l := fun l => PySem.StrLaws.glued_eq_join _ _
  intro l
  rw [e]
  have z : (Str.ofString "").length = 0 := by decide +kernel
  have z2 : (Str.ofString "").cps.toList = [] := by decide +kernel
  induction l with
  | nil => exact fun _ => ⟨rfl, fun c hc => by simp [Str.join, Str.empty] at hc⟩
  | cons x r ih =>
    intro h
    cases r with
    | nil => exact ⟨(h x (by simp)).1, (h x (by simp)).2⟩
    | cons y r =>
      obtain ⟨h1, h2⟩ := ih fun s hs => h s (List.mem_cons_of_mem _ hs)
      have ej : Str.join (Str.ofString "") (x :: y :: r) = x ++ Str.ofString "" ++ Str.join (Str.ofString "") (y :: r) := rfl
      rw [ej]
      refine ⟨?_, fun c hc => ?_⟩
      · rw [len_app, len_app, z, h1, (h x (by simp)).1]
        simp
        omega
      · rw [cps_app, cps_app, z2, List.append_nil] at hc
        rcases List.mem_append.mp hc with hc | hc
        · exact (h x (by simp)).2 c hc
        · exact h2 c hc
/-- the k-th of the names -/
def nth (stem : Str) (f s : Int) (k : Nat) : Str := stem ++ ⟨#[97 + ((f + s * (k : Int)) % 26).toNat]⟩
theorem nth_inj {stem : Str} {f s : Int} (hs : s = 1 ∨ s = 3 ∨ s = 5 ∨ s = 7) {j k : Nat} (hj : j < 26) (hk : k < 26) (hjk : j < k) : nth stem f s j ≠ nth stem f s k := by
  intro e
  have e1 : (nth stem f s j).cps.toList = (nth stem f s k).cps.toList := by rw [e]
  unfold nth at e1
  rw [cps_app, cps_app] at e1
  have e2 := List.append_cancel_left e1
  simp at e2
  rcases hs with rfl | rfl | rfl | rfl <;> omega
theorem names_rise {stem : Str} {f s : Int} (hs : s = 1 ∨ s = 3 ∨ s = 5 ∨ s = 7) {m : Nat} (hm : m ≤ 26) : risesS (sortS ((List.range m).map (nth stem f s))) = true := by
  have nd : ((List.range m).map (nth stem f s)).Nodup := by
    refine List.pairwise_map.mpr ((List.pairwise_lt_range (n := m)).imp_of_mem fun {a b} ha hb hab => ?_)
    rw [List.mem_range] at ha hb
    exact nth_inj hs (by omega) (by omega) hab
  rw [rises_pw]
  have h1 := sortS_sorted ((List.range m).map (nth stem f s))
  have h2 : (sortS ((List.range m).map (nth stem f s))).Nodup := (sortS_perm _).nodup_iff.mpr nd
  exact (List.Pairwise.and h1 h2).imp fun ⟨a, b⟩ => leS_lt a b
def nthD (stem : Str) (f s : Int) : D → D
  | .int k => .str (stem ++ ⟨#[97 + ((f + s * k) % 26).toNat]⟩)
  | _ => .non
def oneC (x : D) : Prop := ∃ c, okC c = true ∧ x = .str ⟨#[c]⟩
theorem strs_of_ones : ∀ {l : List D}, (∀ x ∈ l, oneC x) → ∃ ss, strsOf l = some ss ∧ ss.length = l.length ∧ ∀ s ∈ ss, s.length = 1 ∧ ∀ c ∈ s.cps.toList, okC c = true
  | [], _ => ⟨[], rfl, rfl, fun s hs => by cases hs⟩
  | x :: r, h => by
    obtain ⟨c, hc, rfl⟩ := h x (by simp)
    obtain ⟨ss, e, l, q⟩ := strs_of_ones fun y hy => h y (List.mem_cons_of_mem _ hy)
    refine ⟨⟨#[c]⟩ :: ss, by simp [strsOf, e], by simp [l], fun s hs => ?_⟩
    rcases List.mem_cons.mp hs with rfl | hs
    · exact ⟨rfl, fun d hd => by simp at hd; rw [hd]; exact hc⟩
    · exact q s hs
theorem sum_ones : ∀ {l : List Str}, (∀ s ∈ l, s.length = 1) → (l.map (·.length)).sum = l.length
  | [], _ => rfl
  | x :: r, h => by
    have := sum_ones fun s hs => h s (List.mem_cons_of_mem _ hs)
    simp [this, h x (by simp)]
    omega
theorem names_ok {n : Nat} {S : Sto} {many : Int} (h : HasD n S) (h0 : 0 ≤ many) (h26 : many ≤ 26) :
    wp (noX G_law_names [.ref n, .d (.int many)] S) fun w S' => ∃ l : List Str, w = .d (.lst (l.map D.str)) ∧ l.length = many.toNat ∧ (∀ s ∈ l, gdS s) ∧ risesS l = true ∧ Dr n S S' := by
  refine wp_noX ?_
  rw [ge_law_names]
  refine wp_fn (t := [some (.ref n), some (.d (.int many)), none, none, none, none, none]) rfl ?_
  simp [b_law_names, sCons, sNil, sRet, sIf, sAsg, sExpr, sFor, dVar, dCon, dBin, dCmp, dChain, dT, dAnd, dOr, dNot, dAndT, dOrT, dNotT, dTup, dLst, dLstC, dSub, dCall, dCons, dNil, dIsi, isiD, dNeg, gN, allD, gLen, lenW, lstOf, ixD, iSeq, itemsD, List.take_length, leSz, dJoin, dLc, iRange1, wipeD]
  refine wp_mono (draw_ok (many := 4) h (by decide) (by decide)) ?_
  rintro _ S1 ⟨v, rfl, v0, v1, d1⟩
  obtain ⟨x, ex, _, hx⟩ := atI_in (xs := [D.int 0, D.int 1, D.int 2, D.int 7]) v0 v1
  have hx' : ∃ r : Int, x = .int r ∧ 0 ≤ r ∧ r ≤ 7 := by
    simp at hx
    rcases hx with rfl | rfl | rfl | rfl
    · exact ⟨0, rfl, by omega, by omega⟩
    · exact ⟨1, rfl, by omega, by omega⟩
    · exact ⟨2, rfl, by omega, by omega⟩
    · exact ⟨7, rfl, by omega, by omega⟩
  obtain ⟨r, rfl, hr0, hr⟩ := hx'
  have hC : (-4611686018427387904 ≤ r ∧ r < 4611686018427387904) = True := eq_true (by omega)
  simp only [ex, wp_ok, wp_ite, hC, if_true]
  refine wp_mono (lc_inv (fun S' => Dr n S S') (fun _ x => oneC x) _ _ _ ?_ ?_ d1) ?_
  · intro d hd S' hS'
    refine ⟨_, rfl, ?_⟩
    simp [b_law_names, sCons, sNil, sRet, sIf, sAsg, sExpr, sFor, dVar, dCon, dBin, dCmp, dChain, dT, dAnd, dOr, dNot, dAndT, dOrT, dNotT, dTup, dLst, dLstC, dSub, dCall, dCons, dNil, dIsi, isiD, dNeg, gN, allD, gLen, lenW, lstOf, ixD, iSeq, itemsD, List.take_length, leSz]
    refine wp_mono (draw_ok (many := 26) hS'.has (by decide) (by decide)) ?_
    rintro _ S2 ⟨u, rfl, u0, u1, d2⟩
    simp [len_lets, cps_lets, lets_at u0 u1]
    refine ⟨⟨_, ?_, rfl⟩, hS'.trans d2⟩
    simp [okC]
    omega
  · rw [List.length_map, List.length_range]
    exact Nat.le_trans (by simp; omega : ([] : List D).length + r.toNat ≤ 7) (by decide)
  · rintro xs S2 ⟨ys, exs, f2, d2⟩
    rw [List.nil_append] at exs
    subst exs
    obtain ⟨ss, es, el, eo⟩ := strs_of_ones (fun x hx => F2.all (R := oneC) (fun _ _ p => p) f2 x hx)
    have ly : xs.length = r.toNat := by rw [f2.length]; simp
    have hsum : (ss.map (·.length)).sum + ss.length * (Str.ofString "").length ≤ 16777216 := by
      rw [sum_ones fun s hs => (eo s hs).1, show (Str.ofString "").length = 0 by decide +kernel]
      omega
    obtain ⟨j1, j2⟩ := join_ok ss eo
    simp only [gJoin, seqW, lstOf, Option.bind_some, es, hsum, if_true, wp_ok]
    generalize Txt.join (Str.ofString "") ss = stem at *
    refine wp_mono (draw_ok (many := 26) d2.has (by decide) (by decide)) ?_
    rintro _ S3 ⟨f, rfl, f0, f1, d3⟩
    refine wp_mono (draw_ok (many := 4) d3.has (by decide) (by decide)) ?_
    rintro _ S4 ⟨g, rfl, g0, g1, d4⟩
    obtain ⟨x, ex, _, hx⟩ := atI_in (xs := [D.int 1, D.int 3, D.int 5, D.int 7]) g0 g1
    have hx' : ∃ s : Int, x = .int s ∧ (s = 1 ∨ s = 3 ∨ s = 5 ∨ s = 7) := by
      simp at hx
      rcases hx with rfl | rfl | rfl | rfl
      · exact ⟨1, rfl, by omega⟩
      · exact ⟨3, rfl, by omega⟩
      · exact ⟨5, rfl, by omega⟩
      · exact ⟨7, rfl, by omega⟩
    obtain ⟨s, rfl, hs⟩ := hx'
    have hstem : stem.length ≤ 7 := by omega
    have lc : lcD (gN 6) dYes (dBin .Add (dVar 3) (dSub (dVar 2) (dBin .Mod (dBin .Add (dVar 4) (dBin .Mult (dVar 5) (dVar 6))) (dCon (.int 26))))) ((List.range many.toNat).map fun (i : Nat) => D.int (i : Int)) [some (.ref n), some (.d (.int many)), some (.d (.str "abcdefghijklmnopqrstuvwxyz")), some (.d (.str stem)), some (.d (.int f)), some (.d (.int s)), none] S4 [] = .ok (((List.range many.toNat).map (nth stem f s)).map D.str) S4 := by
      rw [lc_all (nthD stem f s)]
      · simp [nthD, nth]
      · intro d hd
        obtain ⟨k, hk, rfl⟩ := List.mem_map.mp hd
        refine ⟨_, rfl, ok_of ?_⟩
        have m0 : 0 ≤ (f + s * (k : Int)) % 26 := Int.emod_nonneg _ (by decide)
        have m1 : (f + s * (k : Int)) % 26 < 26 := Int.emod_lt_of_pos _ (by decide)
        have mk : mulOk s (k : Int) = true := mulOk_l (by rcases hs with rfl | rfl | rfl | rfl <;> decide)
        have hz : stem.length + 1 ≤ sizeLine := Nat.le_trans (by omega : stem.length + 1 ≤ 8) (by decide)
        have ez : ∀ c : Nat, (⟨#[c]⟩ : Str).length = 1 := fun c => rfl
        simp [b_law_names, sCons, sNil, sRet, sIf, sAsg, sExpr, sFor, dVar, dCon, dBin, dCmp, dChain, dT, dAnd, dOr, dNot, dAndT, dOrT, dNotT, dTup, dLst, dLstC, dSub, dCall, dCons, dNil, dIsi, isiD, dNeg, gN, allD, gLen, lenW, lstOf, ixD, iSeq, itemsD, List.take_length, leSz, mk, len_lets, cps_lets, lets_at m0 m1, nthD, ez, hz]
      · rw [List.length_map, List.length_range]
        exact Nat.le_trans (by omega : many.toNat ≤ 26) (by decide)
    have hC2 : (-4611686018427387904 ≤ many ∧ many < 4611686018427387904) = True := eq_true (by omega)
    have h64 : ((List.range many.toNat).map (nth stem f s)).length < 64 := by simp; omega
    have gs : gSorted [.d (.lst (((List.range many.toNat).map (nth stem f s)).map D.str))] S4 = .ok (.d (.lst ((sortS ((List.range many.toNat).map (nth stem f s))).map D.str))) S4 := by
      simp only [gSorted, lstOf, Option.bind_some, strs_map, h64, if_true]
    simp only [List.map_map] at lc gs
    simp only [ex, wp_ok, hC2, true_and, lc, gs]
    refine ⟨_, rfl, sortS ((List.range many.toNat).map (nth stem f s)), rfl, ?_, ?_, names_rise hs (by omega), ((d2.trans d3).trans d4).take⟩
    · rw [(sortS_perm _).length_eq]
      simp
    · intro z hz
      have hz := (sortS_perm _).mem_iff.mp hz
      obtain ⟨k, hk, rfl⟩ := List.mem_map.mp hz
      have e1 : ∀ c : Nat, (⟨#[c]⟩ : Str).length = 1 := fun c => rfl
      refine ⟨?_, ?_, fun c hc => ?_⟩
      · unfold nth
        rw [len_app, e1]
        omega
      · unfold nth
        rw [len_app, e1]
        omega
      · unfold nth at hc
        rw [cps_app] at hc
        rcases List.mem_append.mp hc with hc | hc
        · exact j2 c hc
        · simp at hc
          have m0 : 0 ≤ (f + s * (k : Int)) % 26 := Int.emod_nonneg _ (by decide)
          have m1 : (f + s * (k : Int)) % 26 < 26 := Int.emod_lt_of_pos _ (by decide)
          simp [okC]
          omega
end K01
namespace K01
open PySem L2 Z
theorem sCons_ok {a b : MSt} {t : DS} {S : Sto} {N1 N : DS → Sto → Prop} {R : W → Sto → Prop} (h : wps (a t S) N1 R) (h2 : ∀ t S, N1 t S → wps (b t S) N R) : wps (sCons a b t S) N R := by
  unfold sCons
  rw [wps_seq]
  exact wps_mono h h2 fun _ _ z => z
theorem big_mul : mulOk 1000000000000000000000000000000000000000000000000000000000000 1000000000000000000000000000000000000000000000000000000000000 = true := by decide +kernel
theorem draws_ok {ns : List Int} {k : Int} {S : Sto} (hk : 0 ≤ k) (hk2 : k ≤ 100) : wp (noX G_law_draws [.fz (ns.map D.int), .d (.int k)] S) fun w S' => ∃ a b : Int, w = .ref S.length ∧ S' = S ++ [.lst [.int a, .int b]] := by
  refine wp_noX ?_
  rw [ge_law_draws]
  refine wp_fnG (t := [some (.fz (ns.map D.int)), some (.d (.int k)), none]) rfl ?_
  unfold b_law_draws
  have m1 : ∀ x : Int, mulOk 15485863 x = true := fun x => mulOk_l (by decide)
  have m2 : ∀ x : Int, mulOk x 69621 = true := fun x => mulOk_r (by decide)
  have m3 : ∀ x : Int, mulOk 86028121 x = true := fun x => mulOk_l (by decide)
  refine sCons_ok (N1 := fun t' S' => S = S' ∧ ∃ c : Int, t' = [some (.fz (ns.map D.int)), some (.d (.int k)), some (.d (.int c))]) ?_ ?_
  · simp [b_law_draws, sCons, sNil, sRet, sIf, sAsg, sExpr, sFor, dVar, dCon, dBin, dCmp, dChain, dT, dAnd, dOr, dNot, dAndT, dOrT, dNotT, dTup, dLst, dLstC, dSub, dCall, dCons, dNil, dIsi, isiD, dNeg, gN, allD, gLen, lenW, lstOf, ixD, iSeq, itemsD, List.take_length, leSz, m1]
  rintro _ _ ⟨rfl, c, rfl⟩
  refine sCons_ok (N1 := fun t' S' => S = S' ∧ ∃ c : Int, t' = [some (.fz (ns.map D.int)), some (.d (.int k)), some (.d (.int c))]) ?_ ?_
  · by_cases h1 : k < (ns.length : Int)
    · obtain ⟨x, ex, _, hx⟩ := atI_in (xs := ns.map D.int) hk (by simpa using h1)
      obtain ⟨y, _, rfl⟩ := List.mem_map.mp hx
      simp [b_law_draws, sCons, sNil, sRet, sIf, sAsg, sExpr, sFor, dVar, dCon, dBin, dCmp, dChain, dT, dAnd, dOr, dNot, dAndT, dOrT, dNotT, dTup, dLst, dLstC, dSub, dCall, dCons, dNil, dIsi, isiD, dNeg, gN, allD, gLen, lenW, lstOf, ixD, iSeq, itemsD, List.take_length, leSz, h1, ex, big_mul]
    · by_cases h2 : 0 < (ns.length : Int)
      · obtain ⟨x, ex, _, hx⟩ := atI_in (xs := ns.map D.int) (v := k % (ns.length : Int)) (Int.emod_nonneg _ (by omega)) (by simp; exact Int.emod_lt_of_pos _ h2)
        obtain ⟨y, _, rfl⟩ := List.mem_map.mp hx
        have h2' : 0 < ns.length := by omega
        simp [b_law_draws, sCons, sNil, sRet, sIf, sAsg, sExpr, sFor, dVar, dCon, dBin, dCmp, dChain, dT, dAnd, dOr, dNot, dAndT, dOrT, dNotT, dTup, dLst, dLstC, dSub, dCall, dCons, dNil, dIsi, isiD, dNeg, gN, allD, gLen, lenW, lstOf, ixD, iSeq, itemsD, List.take_length, leSz, h1, h2, h2', ex, m1]
      · have h2' : ¬ 0 < ns.length := by omega
        simp [b_law_draws, sCons, sNil, sRet, sIf, sAsg, sExpr, sFor, dVar, dCon, dBin, dCmp, dChain, dT, dAnd, dOr, dNot, dAndT, dOrT, dNotT, dTup, dLst, dLstC, dSub, dCall, dCons, dNil, dIsi, isiD, dNeg, gN, allD, gLen, lenW, lstOf, ixD, iSeq, itemsD, List.take_length, leSz, h1, h2, h2']
  rintro _ _ ⟨rfl, c, rfl⟩
  have m4 : ∀ b : Bool, mulOk c (if b = true then 1 else 0) = true := fun b => mulOk_r (by cases b <;> decide)
  have m5 : mulOk c 1 = true := mulOk_r (by decide)
  have m6 : mulOk c 0 = true := mulOk_r (by decide)
  by_cases hc : 1000000000000000000 ≤ c
  · simp [b_law_draws, sCons, sNil, sRet, sIf, sAsg, sExpr, sFor, dVar, dCon, dBin, dCmp, dChain, dT, dAnd, dOr, dNot, dAndT, dOrT, dNotT, dTup, dLst, dLstC, dSub, dCall, dCons, dNil, dIsi, isiD, dNeg, gN, allD, gLen, lenW, lstOf, ixD, iSeq, itemsD, List.take_length, leSz, gInt, m2, m3, m5, hc]
  · simp [b_law_draws, sCons, sNil, sRet, sIf, sAsg, sExpr, sFor, dVar, dCon, dBin, dCmp, dChain, dT, dAnd, dOr, dNot, dAndT, dOrT, dNotT, dTup, dLst, dLstC, dSub, dCall, dCons, dNil, dIsi, isiD, dNeg, gN, allD, gLen, lenW, lstOf, ixD, iSeq, itemsD, List.take_length, leSz, gInt, m2, m3, m6, hc]
theorem F2.names {P : D → D → Prop} (hP : ∀ s y, P (.str s) y → nameOf y = s) : ∀ {l : List Str} {ys : List D}, F2 P (l.map D.str) ys → ys.map nameOf = l
  | [], _, h => by cases h; rfl
  | s :: l, _, h => by
    cases h with
    | cons p t => rw [List.map_cons, hP _ _ p, F2.names hP t]
end K01
namespace K01
end K01
namespace K96
open PySem L2 Z K01
theorem asg_ok {a : M} {i : Nat} {t : DS} {S : Sto} {N : DS → Sto → Prop} {R : W → Sto → Prop} (h : wp (a t S) fun w S' => N (t.set i (some w)) S') : wps (sAsg a (gN i) t S) N R := by
  unfold sAsg
  rw [wps_then]
  exact h
abbrev tx1 : Str := "the pages of the man or of the ship have faults"
abbrev tx2 : Str := "the pence are more than the room"
abbrev ws10 : List D := [.str "Faulty", .str "NoArticles", .str "NoMan", .str "NoPage", .str "NoPages", .str "NoRank", .str "NoRow", .str "NoSum", .str "NoText", .str "NotThere"]
abbrev ws14 : List D := [.str "Faulty", .str "NoArticles", .str "NoMan", .str "NoPage", .str "NoPages", .str "NoRank", .str "NoRow", .str "NoSum", .str "NoText", .str "NotThere", .str "NothingLeft", .str "TooMany", .str "TooMuch", .str "Twice"]
abbrev x (c : Str) (w : Str) : D := .exn c [.str w] [] []
abbrev xs7 (w : Str) (rows : D) : List D := [.exn "Faulty" [.str tx1] ["faults"] [rows], x "NoArticles" w, x "NoMan" w, x "NoPage" w, x "NoPages" w, x "NoRank" w, x "NoRow" w]
abbrev xs13 (w : Str) (rows : D) (m : Int) : List D := [.exn "Faulty" [.str tx1] ["faults"] [rows], x "NoArticles" w, x "NoMan" w, x "NoPage" w, x "NoPages" w, x "NoRank" w, x "NoRow" w, x "NoSum" w, x "NoText" w, x "NotThere" w, x "NothingLeft" w, x "TooMany" w, .exn "TooMuch" [.str tx2] ["most"] [.int m]]
abbrev xs14 (w : Str) (rows : D) (m : Int) : List D := [.exn "Faulty" [.str tx1] ["faults"] [rows], x "NoArticles" w, x "NoMan" w, x "NoPage" w, x "NoPages" w, x "NoRank" w, x "NoRow" w, x "NoSum" w, x "NoText" w, x "NotThere" w, x "NothingLeft" w, x "TooMany" w, .exn "TooMuch" [.str tx2] ["most"] [.int m], x "Twice" w]
theorem eq_str (w : Str) (S : Sto) : cmpD .Eq (.d (.str w)) (.d (.str w)) S = .ok (.d (.bl true)) S := by
  simp [cmpD, dataOf, eqOk, isStr, peq, toP, PyData.eqv]
theorem eq_int (m : Int) (S : Sto) : cmpD .Eq (.d (.int m)) (.d (.int m)) S = .ok (.d (.bl true)) S := by
  simp [cmpD, dataOf, eqOk, isStr, peq, toP, PyData.eqv, okD, SeqAt.shaped, PyData.canLay0, PyData.depth]
theorem eq_rows {w : Str} {v : Int} (hw : PyData.strOk w = true) (S : Sto) : cmpD .Eq (.d (.tup [.tup [.str w, .int v, .str "two"]])) (.d (.tup [.tup [.str w, .int v, .str "two"]])) S = .ok (.d (.bl true)) S := by
  have h2 : PyData.strOk (Str.ofString "two") = true := by decide +kernel
  simp [cmpD, dataOf, eqOk, isStr, peq, toP, toPs, PyData.eqv, PyData.eqvAll, okD, SeqAt.shaped, PyData.canLay0, PyData.canLayAll0, PyData.depth, PyData.depthAll, hw, h2]
theorem seq_eq {a b : MSt} {t t' : DS} {S S' : Sto} (e : a t S = .nx t' S') : sCons a b t S = b t' S' := by
  unfold sCons
  rw [e]
  rfl
theorem seq_rt {a b : MSt} {t : DS} {S S' : Sto} {w : W} (e : a t S = .rt w S') : sCons a b t S = .rt w S' := by
  unfold sCons
  rw [e]
  rfl
theorem ret_eq {e : M} {t : DS} {S S' : Sto} {w : W} (h : e t S = .ok w S') : sRet e t S = .rt w S' := by
  unfold sRet
  rw [h]
  rfl
theorem and_eq {e f : M} {t : DS} {S S' : Sto} (h : e t S = .ok (.d (.bl true)) S') : dAnd e f t S = f t S' := by
  unfold dAnd
  rw [h]
  rfl
theorem cmp_eq {e f : M} {op : CmpOp} {t : DS} {S S' S2 : Sto} {x y : W} {r : Res W} (h : e t S = .ok x S') (h2 : f t S' = .ok y S2) (h3 : cmpD op x y S2 = r) : dCmp op e f t S = r := by
  unfold dCmp
  rw [h, bind_ok, h2, bind_ok, h3]
theorem last_ok {sc : W} {w : Str} {rows : D} {m a b : Int} {S : Sto} (hrows : ∀ S, cmpD .Eq (.d rows) (.d rows) S = .ok (.d (.bl true)) S) : (sRet (dAnd (dCmp .Eq (dFld ["Faulty"] "faults" (dSub (dVar 5) (dCon (.int 0)))) (dVar 3)) (dAnd (dCmp .Eq (dFld ["TooMuch"] "most" (dSub (dVar 5) (dCon (.int 12)))) (dVar 4)) (dCmp .Eq (dCall (gStrX ["NoArticles", "NoMan", "NoPage", "NoPages", "NoRank", "NoRow", "NoSum", "NoText", "NotThere", "NothingLeft", "TooMany", "Twice"]) (dCons (dSub (dVar 5) (dCon (.int 1))) dNil)) (dVar 2))))) [some sc, some (.ref 0), some (.d (.str w)), some (.d rows), some (.d (.int m)), some (.d (.lst (xs14 w rows m))), some (.d (.lst ws14)), none] S = .rt (.d (.bl true)) S := by
  refine ret_eq (e := (dAnd (dCmp .Eq (dFld ["Faulty"] "faults" (dSub (dVar 5) (dCon (.int 0)))) (dVar 3)) (dAnd (dCmp .Eq (dFld ["TooMuch"] "most" (dSub (dVar 5) (dCon (.int 12)))) (dVar 4)) (dCmp .Eq (dCall (gStrX ["NoArticles", "NoMan", "NoPage", "NoPages", "NoRank", "NoRow", "NoSum", "NoText", "NotThere", "NothingLeft", "TooMany", "Twice"]) (dCons (dSub (dVar 5) (dCon (.int 1))) dNil)) (dVar 2))))) ?_
  have e1 : dFld ["Faulty"] "faults" (dSub (dVar 5) (dCon (.int 0))) [some sc, some (.ref 0), some (.d (.str w)), some (.d rows), some (.d (.int m)), some (.d (.lst (xs14 w rows m))), some (.d (.lst ws14)), none] S = .ok (.d rows) S := by kernel_rfl
  have e2 : dFld ["TooMuch"] "most" (dSub (dVar 5) (dCon (.int 12))) [some sc, some (.ref 0), some (.d (.str w)), some (.d rows), some (.d (.int m)), some (.d (.lst (xs14 w rows m))), some (.d (.lst ws14)), none] S = .ok (.d (.int m)) S := by kernel_rfl
  have e3 : dCall (gStrX ["NoArticles", "NoMan", "NoPage", "NoPages", "NoRank", "NoRow", "NoSum", "NoText", "NotThere", "NothingLeft", "TooMany", "Twice"]) (dCons (dSub (dVar 5) (dCon (.int 1))) dNil) [some sc, some (.ref 0), some (.d (.str w)), some (.d rows), some (.d (.int m)), some (.d (.lst (xs14 w rows m))), some (.d (.lst ws14)), none] S = .ok (.d (.str w)) S := by kernel_rfl
  have v2 : dVar 2 [some sc, some (.ref 0), some (.d (.str w)), some (.d rows), some (.d (.int m)), some (.d (.lst (xs14 w rows m))), some (.d (.lst ws14)), none] S = .ok (.d (.str w)) S := by kernel_rfl
  have v3 : dVar 3 [some sc, some (.ref 0), some (.d (.str w)), some (.d rows), some (.d (.int m)), some (.d (.lst (xs14 w rows m))), some (.d (.lst ws14)), none] S = .ok (.d rows) S := by kernel_rfl
  have v4 : dVar 4 [some sc, some (.ref 0), some (.d (.str w)), some (.d rows), some (.d (.int m)), some (.d (.lst (xs14 w rows m))), some (.d (.lst ws14)), none] S = .ok (.d (.int m)) S := by kernel_rfl
  rw [and_eq (cmp_eq e1 v3 (hrows S)), and_eq (cmp_eq e2 v4 (eq_int m S)), cmp_eq e3 v2 (eq_str w S)]
theorem tail_eq {sc : W} {w : Str} {rows : D} {m a b : Int} (hrows : ∀ S, cmpD .Eq (.d rows) (.d rows) S = .ok (.d (.bl true)) S) :
    (sCons (sAsg (dLstC (dCons (dMkI "Faulty" "the pages of the man or of the ship have faults" "faults" (dCons (dVar 3) dNil)) (dCons (dMkX "NoArticles" (dCons (dVar 2) dNil)) (dCons (dMkX "NoMan" (dCons (dVar 2) dNil)) (dCons (dMkX "NoPage" (dCons (dVar 2) dNil)) (dCons (dMkX "NoPages" (dCons (dVar 2) dNil)) (dCons (dMkX "NoRank" (dCons (dVar 2) dNil)) (dCons (dMkX "NoRow" (dCons (dVar 2) dNil)) dNil)))))))) (gN 5)) (sCons (sAsg (dCatC (dVar 5) (dLst (dCons (dMkX "NoSum" (dCons (dVar 2) dNil)) (dCons (dMkX "NoText" (dCons (dVar 2) dNil)) (dCons (dMkX "NotThere" (dCons (dVar 2) dNil)) (dCons (dMkX "NothingLeft" (dCons (dVar 2) dNil)) (dCons (dMkX "TooMany" (dCons (dVar 2) dNil)) (dCons (dMkI "TooMuch" "the pence are more than the room" "most" (dCons (dVar 4) dNil)) dNil)))))))) (gN 5)) (sCons (sExpr (dAppend' (dVar 5) (dMkX "Twice" (dCons (dVar 2) dNil)))) (sCons (sAsg (dLst (dCons (dCon (.str "Faulty")) (dCons (dCon (.str "NoArticles")) (dCons (dCon (.str "NoMan")) (dCons (dCon (.str "NoPage")) (dCons (dCon (.str "NoPages")) (dCons (dCon (.str "NoRank")) (dCons (dCon (.str "NoRow")) (dCons (dCon (.str "NoSum")) (dCons (dCon (.str "NoText")) (dCons (dCon (.str "NotThere")) dNil))))))))))) (gN 6)) (sCons (sAsg (dBin .Add (dVar 6) (dLst (dCons (dCon (.str "NothingLeft")) (dCons (dCon (.str "TooMany")) (dCons (dCon (.str "TooMuch")) (dCons (dCon (.str "Twice")) dNil)))))) (gN 6)) (sFrz 5 (sCons (sIf (dT (dCmp .NotEq (dLc [7] (iSeq (dVar 5)) (gN 7) dYes (dCall (noX G_law_kind_of) (dCons (dVar 7) dNil))) (dLc [7] (iSeq (dVar 6)) (gN 7) dYes (dBin .Add (dVar 7) (dCon (.str "+")))))) (sCons (sRet (dCon (.bl false))) sNil) sNil) (sCons (sIf (dT (dCmp .NotEq (dLc [7] (iSeq (dVar 5)) (gN 7) (dNotT (dT (dIsy [("Faulty", true), ("NoArticles", true), ("NoMan", true), ("NoPage", true), ("NoPages", true), ("NoRank", true), ("NoRow", true), ("NoSum", true), ("NoText", true), ("NotThere", true), ("NothingLeft", true), ("TooMany", true), ("TooMuch", true), ("Twice", true)] (dVar 7)))) (dVar 7)) (dLst dNil))) (sCons (sRet (dCon (.bl false))) sNil) sNil) (sCons (sRet (dAnd (dCmp .Eq (dFld ["Faulty"] "faults" (dSub (dVar 5) (dCon (.int 0)))) (dVar 3)) (dAnd (dCmp .Eq (dFld ["TooMuch"] "most" (dSub (dVar 5) (dCon (.int 12)))) (dVar 4)) (dCmp .Eq (dCall (gStrX ["NoArticles", "NoMan", "NoPage", "NoPages", "NoRank", "NoRow", "NoSum", "NoText", "NotThere", "NothingLeft", "TooMany", "Twice"]) (dCons (dSub (dVar 5) (dCon (.int 1))) dNil)) (dVar 2))))) sNil))))))))) [some sc, some (.ref 0), some (.d (.str w)), some (.d rows), some (.d (.int m)), none, none, none] [.lst [.int a, .int b]] = .rt (.d (.bl true)) [.lst [.int a, .int b], .lst (xs7 w rows), .dead] := by
  have e4 : (sAsg (dLstC (dCons (dMkI "Faulty" "the pages of the man or of the ship have faults" "faults" (dCons (dVar 3) dNil)) (dCons (dMkX "NoArticles" (dCons (dVar 2) dNil)) (dCons (dMkX "NoMan" (dCons (dVar 2) dNil)) (dCons (dMkX "NoPage" (dCons (dVar 2) dNil)) (dCons (dMkX "NoPages" (dCons (dVar 2) dNil)) (dCons (dMkX "NoRank" (dCons (dVar 2) dNil)) (dCons (dMkX "NoRow" (dCons (dVar 2) dNil)) dNil)))))))) (gN 5)) [some sc, some (.ref 0), some (.d (.str w)), some (.d rows), some (.d (.int m)), none, none, none] [.lst [.int a, .int b]] = .nx [some sc, some (.ref 0), some (.d (.str w)), some (.d rows), some (.d (.int m)), some (.ref 1), none, none] [.lst [.int a, .int b], .lst (xs7 w rows)] := by kernel_rfl
  have e5 : (sAsg (dCatC (dVar 5) (dLst (dCons (dMkX "NoSum" (dCons (dVar 2) dNil)) (dCons (dMkX "NoText" (dCons (dVar 2) dNil)) (dCons (dMkX "NotThere" (dCons (dVar 2) dNil)) (dCons (dMkX "NothingLeft" (dCons (dVar 2) dNil)) (dCons (dMkX "TooMany" (dCons (dVar 2) dNil)) (dCons (dMkI "TooMuch" "the pence are more than the room" "most" (dCons (dVar 4) dNil)) dNil)))))))) (gN 5)) [some sc, some (.ref 0), some (.d (.str w)), some (.d rows), some (.d (.int m)), some (.ref 1), none, none] [.lst [.int a, .int b], .lst (xs7 w rows)] = .nx [some sc, some (.ref 0), some (.d (.str w)), some (.d rows), some (.d (.int m)), some (.ref 2), none, none] [.lst [.int a, .int b], .lst (xs7 w rows), .lst (xs13 w rows m)] := by kernel_rfl
  have e6 : (sExpr (dAppend' (dVar 5) (dMkX "Twice" (dCons (dVar 2) dNil)))) [some sc, some (.ref 0), some (.d (.str w)), some (.d rows), some (.d (.int m)), some (.ref 2), none, none] [.lst [.int a, .int b], .lst (xs7 w rows), .lst (xs13 w rows m)] = .nx [some sc, some (.ref 0), some (.d (.str w)), some (.d rows), some (.d (.int m)), some (.ref 2), none, none] [.lst [.int a, .int b], .lst (xs7 w rows), .lst (xs14 w rows m)] := by kernel_rfl
  have e7 : (sAsg (dLst (dCons (dCon (.str "Faulty")) (dCons (dCon (.str "NoArticles")) (dCons (dCon (.str "NoMan")) (dCons (dCon (.str "NoPage")) (dCons (dCon (.str "NoPages")) (dCons (dCon (.str "NoRank")) (dCons (dCon (.str "NoRow")) (dCons (dCon (.str "NoSum")) (dCons (dCon (.str "NoText")) (dCons (dCon (.str "NotThere")) dNil))))))))))) (gN 6)) [some sc, some (.ref 0), some (.d (.str w)), some (.d rows), some (.d (.int m)), some (.ref 2), none, none] [.lst [.int a, .int b], .lst (xs7 w rows), .lst (xs14 w rows m)] = .nx [some sc, some (.ref 0), some (.d (.str w)), some (.d rows), some (.d (.int m)), some (.ref 2), some (.d (.lst ws10)), none] [.lst [.int a, .int b], .lst (xs7 w rows), .lst (xs14 w rows m)] := by kernel_rfl
  have e8 : (sAsg (dBin .Add (dVar 6) (dLst (dCons (dCon (.str "NothingLeft")) (dCons (dCon (.str "TooMany")) (dCons (dCon (.str "TooMuch")) (dCons (dCon (.str "Twice")) dNil)))))) (gN 6)) [some sc, some (.ref 0), some (.d (.str w)), some (.d rows), some (.d (.int m)), some (.ref 2), some (.d (.lst ws10)), none] [.lst [.int a, .int b], .lst (xs7 w rows), .lst (xs14 w rows m)] = .nx [some sc, some (.ref 0), some (.d (.str w)), some (.d rows), some (.d (.int m)), some (.ref 2), some (.d (.lst ws14)), none] [.lst [.int a, .int b], .lst (xs7 w rows), .lst (xs14 w rows m)] := by kernel_rfl
  have ef : ∀ g : MSt, sFrz 5 g [some sc, some (.ref 0), some (.d (.str w)), some (.d rows), some (.d (.int m)), some (.ref 2), some (.d (.lst ws14)), none] [.lst [.int a, .int b], .lst (xs7 w rows), .lst (xs14 w rows m)] = g [some sc, some (.ref 0), some (.d (.str w)), some (.d rows), some (.d (.int m)), some (.d (.lst (xs14 w rows m))), some (.d (.lst ws14)), none] [.lst [.int a, .int b], .lst (xs7 w rows), .dead] := fun g => by kernel_rfl
  have e9 : (sIf (dT (dCmp .NotEq (dLc [7] (iSeq (dVar 5)) (gN 7) dYes (dCall (noX G_law_kind_of) (dCons (dVar 7) dNil))) (dLc [7] (iSeq (dVar 6)) (gN 7) dYes (dBin .Add (dVar 7) (dCon (.str "+")))))) (sCons (sRet (dCon (.bl false))) sNil) sNil) [some sc, some (.ref 0), some (.d (.str w)), some (.d rows), some (.d (.int m)), some (.d (.lst (xs14 w rows m))), some (.d (.lst ws14)), none] [.lst [.int a, .int b], .lst (xs7 w rows), .dead] = .nx [some sc, some (.ref 0), some (.d (.str w)), some (.d rows), some (.d (.int m)), some (.d (.lst (xs14 w rows m))), some (.d (.lst ws14)), none] [.lst [.int a, .int b], .lst (xs7 w rows), .dead] := by kernel_rfl
  have e10 : (sIf (dT (dCmp .NotEq (dLc [7] (iSeq (dVar 5)) (gN 7) (dNotT (dT (dIsy [("Faulty", true), ("NoArticles", true), ("NoMan", true), ("NoPage", true), ("NoPages", true), ("NoRank", true), ("NoRow", true), ("NoSum", true), ("NoText", true), ("NotThere", true), ("NothingLeft", true), ("TooMany", true), ("TooMuch", true), ("Twice", true)] (dVar 7)))) (dVar 7)) (dLst dNil))) (sCons (sRet (dCon (.bl false))) sNil) sNil) [some sc, some (.ref 0), some (.d (.str w)), some (.d rows), some (.d (.int m)), some (.d (.lst (xs14 w rows m))), some (.d (.lst ws14)), none] [.lst [.int a, .int b], .lst (xs7 w rows), .dead] = .nx [some sc, some (.ref 0), some (.d (.str w)), some (.d rows), some (.d (.int m)), some (.d (.lst (xs14 w rows m))), some (.d (.lst ws14)), none] [.lst [.int a, .int b], .lst (xs7 w rows), .dead] := by kernel_rfl
  rw [seq_eq e4, seq_eq e5, seq_eq e6, seq_eq e7, seq_eq e8, ef, seq_eq e9, seq_eq e10, seq_rt (last_ok (a := a) (b := b) hrows)]
theorem maths : ∀ ns : List Int, ns.length ≤ 63 → ∃ S, G_law [.fz (ns.map D.int)] [] = .ok (.d (.bl true)) S := by
  intro ns hn
  have key : wp (G_law [.fz (ns.map D.int)] []) fun w _ => w = .d (.bl true) := by
    rw [ge_law]
    generalize hsc : (W.fz (ns.map D.int)) = sc
    refine wp_fn (t := [some sc, none, none, none, none, none, none, none]) rfl ?_
    unfold b_law
    refine sCons_ok (N1 := fun t' S' => HasD 0 S' ∧ S'.length = 1 ∧ t' = [some sc, some (.ref 0), none, none, none, none, none, none]) ?_ ?_
    · refine asg_ok ?_
      simp only [dCall, dCons, dNil, dVar, dCon, wp_bind, List.getElem?_cons_succ, List.getElem?_cons_zero, wp_ok]
      rw [← hsc]
      refine wp_mono (draws_ok (by decide) (by decide)) ?_
      rintro _ _ ⟨a, b, rfl, rfl⟩
      exact ⟨⟨a, b, by simp⟩, rfl, by rw [hsc]; rfl⟩
    rintro _ S1 ⟨h1, l1, rfl⟩
    refine sCons_ok (N1 := fun t' S' => HasD 0 S' ∧ S'.length = 1 ∧ ∃ w : Str, PyData.strOk w = true ∧ t' = [some sc, some (.ref 0), some (.d (.str w)), none, none, none, none, none]) ?_ ?_
    · refine asg_ok ?_
      simp only [dSub, dCall, dCons, dNil, dVar, dCon, wp_bind, List.getElem?_cons_succ, List.getElem?_cons_zero, wp_ok]
      refine wp_mono (names_ok h1 (by decide) (by decide)) ?_
      rintro _ S2 ⟨l, rfl, hl, hg, _, d⟩
      match l, hl with
      | [w], _ =>
        have hw : PyData.strOk w = true := gdS_ok (hg w (by simp)).2.2
        show wp (Res.ok (W.d (D.str w)) S2) _
        exact ⟨d.has, d.len.trans l1, w, hw, rfl⟩
    rintro _ S2 ⟨h2, l2, w, hw, rfl⟩
    refine sCons_ok (N1 := fun t' S' => HasD 0 S' ∧ S'.length = 1 ∧ ∃ v : Int, t' = [some sc, some (.ref 0), some (.d (.str w)), some (.d (.tup [.tup [.str w, .int v, .str "two"]])), none, none, none, none]) ?_ ?_
    · refine asg_ok ?_
      have e12 : (10 : Int) ^ (12 : Int).toNat = 1000000000000 := by decide
      have c12 : (0 : Int) ≤ 12 ∧ (12 : Int) ≤ 1000000 ∧ (10 : Int).natAbs < 2 ^ 64 := by decide
      simp only [dTup, dCall, dCons, dNil, dVar, dCon, dBin, o_pow, wp_bind, List.getElem?_cons_succ, List.getElem?_cons_zero, wp_ok, if_pos c12, e12]
      refine wp_mono (draw_ok h2 (by decide) (by decide)) ?_
      rintro _ S3 ⟨v, rfl, _, _, d⟩
      show wp (Res.ok (W.d (D.tup [.str w, .int v, .str "two"])) S3) _
      rw [wp_ok]
      show wp (Res.ok (W.d (D.tup [.tup [.str w, .int v, .str "two"]])) S3) _
      exact ⟨d.has, d.len.trans l2, v, rfl⟩
    rintro _ S3 ⟨h3, l3, v, rfl⟩
    refine sCons_ok (N1 := fun t' S' => HasD 0 S' ∧ S'.length = 1 ∧ ∃ m : Int, t' = [some sc, some (.ref 0), some (.d (.str w)), some (.d (.tup [.tup [.str w, .int v, .str "two"]])), some (.d (.int m)), none, none, none]) ?_ ?_
    · refine asg_ok ?_
      have e15 : (10 : Int) ^ (15 : Int).toNat = 1000000000000000 := by decide
      have c15 : (0 : Int) ≤ 15 ∧ (15 : Int) ≤ 1000000 ∧ (10 : Int).natAbs < 2 ^ 64 := by decide
      simp only [dTup, dCall, dCons, dNil, dVar, dCon, dBin, o_pow, wp_bind, List.getElem?_cons_succ, List.getElem?_cons_zero, wp_ok, if_pos c15, e15]
      refine wp_mono (draw_ok h3 (by decide) (by decide)) ?_
      rintro _ S4 ⟨m, rfl, _, _, d⟩
      exact ⟨d.has, d.len.trans l3, m, rfl⟩
    rintro _ S4 ⟨h4, l4, m, rfl⟩
    obtain ⟨a, b, hab⟩ := h4
    have eS : S4 = [.lst [.int a, .int b]] := by
      match S4, l4 with
      | [c], _ => simp at hab; rw [hab]
    subst eS
    rw [tail_eq (eq_rows (v := v) hw)]
    exact ⟨_, rfl, rfl⟩
  cases q : G_law [.fz (ns.map D.int)] [] with
  | ok w S => rw [q] at key; exact ⟨S, by rw [show w = .d (.bl true) from key]⟩
  | exc _ _ => rw [q] at key; exact key.elim
  | bad => rw [q] at key; exact key.elim
end K96
open PySem PySem.W PyProof.Rows
set_option maxRecDepth 100000 in
set_option maxHeartbeats 0 in
theorem PySem.Challenge.cw_crewpay_k96_refusals_apart_holds : PySem.Challenge.rw_crewpay_k96_refusals_apart.Holds := by
  w_on; o_law; k_head; (case hw => w_witness2)
  k_fill
  refine K96.walk (l := PySem.Challenge.rw_crewpay_k96_refusals_apart) K96.maths rfl rfl (fun w h Y => PySem.W.kIn_of Y) ?F
  case F =>
    intro w mg fa h KX G hmg
    refine' K96.all_mk KX G hmg ?a0 ?l0 ?c0 ?k0 ?a1 ?l1 ?c1 ?k1 ?a2 ?l2 ?c2 ?k2 ?a3 ?l3 ?c3 ?k3 ?a4 ?l4 ?c4 ?k4 ?z_int ?z_isinstance ?z_len ?z_range ?z_sorted ?z_str ?x_hn ?x_ht ?n_Faulty ?n_NoArticles ?n_NoMan ?n_NoPage ?n_NoPages ?n_NoRank ?n_NoRow ?n_NoSum ?n_NoText ?n_NotThere ?n_NothingLeft ?n_TooMany ?n_TooMuch ?n_Twice ?n_WageError ?xg_Faulty ?xh_Faulty ?xb_Faulty ?xo_Faulty ?xd_Faulty ?xc_Faulty ?xg_NoArticles ?xh_NoArticles ?xb_NoArticles ?xo_NoArticles ?xd_NoArticles ?xc_NoArticles ?xg_NoMan ?xh_NoMan ?xb_NoMan ?xo_NoMan ?xd_NoMan ?xc_NoMan ?xg_NoPage ?xh_NoPage ?xb_NoPage ?xo_NoPage ?xd_NoPage ?xc_NoPage ?xg_NoPages ?xh_NoPages ?xb_NoPages ?xo_NoPages ?xd_NoPages ?xc_NoPages ?xg_NoRank ?xh_NoRank ?xb_NoRank ?xo_NoRank ?xd_NoRank ?xc_NoRank ?xg_NoRow ?xh_NoRow ?xb_NoRow ?xo_NoRow ?xd_NoRow ?xc_NoRow ?xg_NoSum ?xh_NoSum ?xb_NoSum ?xo_NoSum ?xd_NoSum ?xc_NoSum ?xg_NoText ?xh_NoText ?xb_NoText ?xo_NoText ?xd_NoText ?xc_NoText ?xg_NotThere ?xh_NotThere ?xb_NotThere ?xo_NotThere ?xd_NotThere ?xc_NotThere ?xg_NothingLeft ?xh_NothingLeft ?xb_NothingLeft ?xo_NothingLeft ?xd_NothingLeft ?xc_NothingLeft ?xg_TooMany ?xh_TooMany ?xb_TooMany ?xo_TooMany ?xd_TooMany ?xc_TooMany ?xg_TooMuch ?xh_TooMuch ?xb_TooMuch ?xo_TooMuch ?xd_TooMuch ?xc_TooMuch ?xg_Twice ?xh_Twice ?xb_Twice ?xo_Twice ?xd_Twice ?xc_Twice ?i_Faulty_Faulty ?i_NoArticles_Faulty ?i_NoMan_Faulty ?i_NoPage_Faulty ?i_NoPages_Faulty ?i_NoRank_Faulty ?i_NoRow_Faulty ?i_NoSum_Faulty ?i_NoText_Faulty ?i_NotThere_Faulty ?i_NothingLeft_Faulty ?i_TooMany_Faulty ?i_TooMuch_Faulty ?i_Twice_Faulty ?i_Faulty_NoArticles ?i_NoArticles_NoArticles ?i_NoMan_NoArticles ?i_NoPage_NoArticles ?i_NoPages_NoArticles ?i_NoRank_NoArticles ?i_NoRow_NoArticles ?i_NoSum_NoArticles ?i_NoText_NoArticles ?i_NotThere_NoArticles ?i_NothingLeft_NoArticles ?i_TooMany_NoArticles ?i_TooMuch_NoArticles ?i_Twice_NoArticles ?i_Faulty_NoMan ?i_NoArticles_NoMan ?i_NoMan_NoMan ?i_NoPage_NoMan ?i_NoPages_NoMan ?i_NoRank_NoMan ?i_NoRow_NoMan ?i_NoSum_NoMan ?i_NoText_NoMan ?i_NotThere_NoMan ?i_NothingLeft_NoMan ?i_TooMany_NoMan ?i_TooMuch_NoMan ?i_Twice_NoMan ?i_Faulty_NoPage ?i_NoArticles_NoPage ?i_NoMan_NoPage ?i_NoPage_NoPage ?i_NoPages_NoPage ?i_NoRank_NoPage ?i_NoRow_NoPage ?i_NoSum_NoPage ?i_NoText_NoPage ?i_NotThere_NoPage ?i_NothingLeft_NoPage ?i_TooMany_NoPage ?i_TooMuch_NoPage ?i_Twice_NoPage ?i_Faulty_NoPages ?i_NoArticles_NoPages ?i_NoMan_NoPages ?i_NoPage_NoPages ?i_NoPages_NoPages ?i_NoRank_NoPages ?i_NoRow_NoPages ?i_NoSum_NoPages ?i_NoText_NoPages ?i_NotThere_NoPages ?i_NothingLeft_NoPages ?i_TooMany_NoPages ?i_TooMuch_NoPages ?i_Twice_NoPages ?i_Faulty_NoRank ?i_NoArticles_NoRank ?i_NoMan_NoRank ?i_NoPage_NoRank ?i_NoPages_NoRank ?i_NoRank_NoRank ?i_NoRow_NoRank ?i_NoSum_NoRank ?i_NoText_NoRank ?i_NotThere_NoRank ?i_NothingLeft_NoRank ?i_TooMany_NoRank ?i_TooMuch_NoRank ?i_Twice_NoRank ?i_Faulty_NoRow ?i_NoArticles_NoRow ?i_NoMan_NoRow ?i_NoPage_NoRow ?i_NoPages_NoRow ?i_NoRank_NoRow ?i_NoRow_NoRow ?i_NoSum_NoRow ?i_NoText_NoRow ?i_NotThere_NoRow ?i_NothingLeft_NoRow ?i_TooMany_NoRow ?i_TooMuch_NoRow ?i_Twice_NoRow ?i_Faulty_NoSum ?i_NoArticles_NoSum ?i_NoMan_NoSum ?i_NoPage_NoSum ?i_NoPages_NoSum ?i_NoRank_NoSum ?i_NoRow_NoSum ?i_NoSum_NoSum ?i_NoText_NoSum ?i_NotThere_NoSum ?i_NothingLeft_NoSum ?i_TooMany_NoSum ?i_TooMuch_NoSum ?i_Twice_NoSum ?i_Faulty_NoText ?i_NoArticles_NoText ?i_NoMan_NoText ?i_NoPage_NoText ?i_NoPages_NoText ?i_NoRank_NoText ?i_NoRow_NoText ?i_NoSum_NoText ?i_NoText_NoText ?i_NotThere_NoText ?i_NothingLeft_NoText ?i_TooMany_NoText ?i_TooMuch_NoText ?i_Twice_NoText ?i_Faulty_NotThere ?i_NoArticles_NotThere ?i_NoMan_NotThere ?i_NoPage_NotThere ?i_NoPages_NotThere ?i_NoRank_NotThere ?i_NoRow_NotThere ?i_NoSum_NotThere ?i_NoText_NotThere ?i_NotThere_NotThere ?i_NothingLeft_NotThere ?i_TooMany_NotThere ?i_TooMuch_NotThere ?i_Twice_NotThere ?i_Faulty_NothingLeft ?i_NoArticles_NothingLeft ?i_NoMan_NothingLeft ?i_NoPage_NothingLeft ?i_NoPages_NothingLeft ?i_NoRank_NothingLeft ?i_NoRow_NothingLeft ?i_NoSum_NothingLeft ?i_NoText_NothingLeft ?i_NotThere_NothingLeft ?i_NothingLeft_NothingLeft ?i_TooMany_NothingLeft ?i_TooMuch_NothingLeft ?i_Twice_NothingLeft ?i_Faulty_TooMany ?i_NoArticles_TooMany ?i_NoMan_TooMany ?i_NoPage_TooMany ?i_NoPages_TooMany ?i_NoRank_TooMany ?i_NoRow_TooMany ?i_NoSum_TooMany ?i_NoText_TooMany ?i_NotThere_TooMany ?i_NothingLeft_TooMany ?i_TooMany_TooMany ?i_TooMuch_TooMany ?i_Twice_TooMany ?i_Faulty_TooMuch ?i_NoArticles_TooMuch ?i_NoMan_TooMuch ?i_NoPage_TooMuch ?i_NoPages_TooMuch ?i_NoRank_TooMuch ?i_NoRow_TooMuch ?i_NoSum_TooMuch ?i_NoText_TooMuch ?i_NotThere_TooMuch ?i_NothingLeft_TooMuch ?i_TooMany_TooMuch ?i_TooMuch_TooMuch ?i_Twice_TooMuch ?i_Faulty_Twice ?i_NoArticles_Twice ?i_NoMan_Twice ?i_NoPage_Twice ?i_NoPages_Twice ?i_NoRank_Twice ?i_NoRow_Twice ?i_NoSum_Twice ?i_NoText_Twice ?i_NotThere_Twice ?i_NothingLeft_Twice ?i_TooMany_Twice ?i_TooMuch_Twice ?i_Twice_Twice ?i_Faulty_WageError ?i_NoArticles_WageError ?i_NoMan_WageError ?i_NoPage_WageError ?i_NoPages_WageError ?i_NoRank_WageError ?i_NoRow_WageError ?i_NoSum_WageError ?i_NoText_WageError ?i_NotThere_WageError ?i_NothingLeft_WageError ?i_TooMany_WageError ?i_TooMuch_WageError ?i_Twice_WageError ?n_ValueError ?i_Faulty_ValueError ?i_NoArticles_ValueError ?i_NoMan_ValueError ?i_NoPage_ValueError ?i_NoPages_ValueError ?i_NoRank_ValueError ?i_NoRow_ValueError ?i_NoSum_ValueError ?i_NoText_ValueError ?i_NotThere_ValueError ?i_NothingLeft_ValueError ?i_TooMany_ValueError ?i_TooMuch_ValueError ?i_Twice_ValueError ?e_NoArticles ?kp_NoArticles ?e_NoMan ?kp_NoMan ?e_NoPage ?kp_NoPage ?e_NoPages ?kp_NoPages ?e_NoRank ?kp_NoRank ?e_NoRow ?kp_NoRow ?e_NoSum ?kp_NoSum ?e_NoText ?kp_NoText ?e_NotThere ?kp_NotThere ?e_NothingLeft ?kp_NothingLeft ?e_TooMany ?kp_TooMany ?e_Twice ?kp_Twice ?nf_Faulty_faults ?nf_TooMuch_most ?st_NoArticles ?st_NoMan ?st_NoPage ?st_NoPages ?st_NoRank ?st_NoRow ?st_NoSum ?st_NoText ?st_NotThere ?st_NothingLeft ?st_TooMany ?st_Twice ?lg_WageError ?lr_WageError ?lf_WageError ?yI_Faulty ?lI_Faulty ?cI_Faulty ?eI_Faulty ?fI2_Faulty ?kpI_Faulty ?sa_Faulty ?mr_Faulty ?yI_TooMuch ?lI_TooMuch ?cI_TooMuch ?eI_TooMuch ?fI2_TooMuch ?kpI_TooMuch ?sa_TooMuch ?mr_TooMuch
    (case a0 => k_is)
    (case l0 => k_is)
    (case c0 => k_is)
    (case k0 => k_is)
    (case a1 => k_is)
    (case l1 => k_is)
    (case c1 => k_is)
    (case k1 => k_is)
    (case a2 => k_is)
    (case l2 => k_is)
    (case c2 => k_is)
    (case k2 => k_is)
    (case a3 => k_is)
    (case l3 => k_is)
    (case c3 => k_is)
    (case k3 => k_is)
    (case a4 => k_is)
    (case l4 => k_is)
    (case c4 => k_is)
    (case k4 => k_is)
    (case z_int => k_is)
    (case z_isinstance => k_is)
    (case z_len => k_is)
    (case z_range => k_is)
    (case z_sorted => k_is)
    (case z_str => k_is)
    (case x_hn => k_is)
    (case x_ht => k_is)
    (case n_Faulty => k_is)
    (case n_NoArticles => k_is)
    (case n_NoMan => k_is)
    (case n_NoPage => k_is)
    (case n_NoPages => k_is)
    (case n_NoRank => k_is)
    (case n_NoRow => k_is)
    (case n_NoSum => k_is)
    (case n_NoText => k_is)
    (case n_NotThere => k_is)
    (case n_NothingLeft => k_is)
    (case n_TooMany => k_is)
    (case n_TooMuch => k_is)
    (case n_Twice => k_is)
    (case n_WageError => k_is)
    (case xg_Faulty => k_is)
    (case xh_Faulty => k_is)
    (case xb_Faulty => k_is)
    (case xo_Faulty => k_is)
    (case xd_Faulty => k_is)
    (case xc_Faulty => k_is)
    (case xg_NoArticles => k_is)
    (case xh_NoArticles => k_is)
    (case xb_NoArticles => k_is)
    (case xo_NoArticles => k_is)
    (case xd_NoArticles => k_is)
    (case xc_NoArticles => k_is)
    (case xg_NoMan => k_is)
    (case xh_NoMan => k_is)
    (case xb_NoMan => k_is)
    (case xo_NoMan => k_is)
    (case xd_NoMan => k_is)
    (case xc_NoMan => k_is)
    (case xg_NoPage => k_is)
    (case xh_NoPage => k_is)
    (case xb_NoPage => k_is)
    (case xo_NoPage => k_is)
    (case xd_NoPage => k_is)
    (case xc_NoPage => k_is)
    (case xg_NoPages => k_is)
    (case xh_NoPages => k_is)
    (case xb_NoPages => k_is)
    (case xo_NoPages => k_is)
    (case xd_NoPages => k_is)
    (case xc_NoPages => k_is)
    (case xg_NoRank => k_is)
    (case xh_NoRank => k_is)
    (case xb_NoRank => k_is)
    (case xo_NoRank => k_is)
    (case xd_NoRank => k_is)
    (case xc_NoRank => k_is)
    (case xg_NoRow => k_is)
    (case xh_NoRow => k_is)
    (case xb_NoRow => k_is)
    (case xo_NoRow => k_is)
    (case xd_NoRow => k_is)
    (case xc_NoRow => k_is)
    (case xg_NoSum => k_is)
    (case xh_NoSum => k_is)
    (case xb_NoSum => k_is)
    (case xo_NoSum => k_is)
    (case xd_NoSum => k_is)
    (case xc_NoSum => k_is)
    (case xg_NoText => k_is)
    (case xh_NoText => k_is)
    (case xb_NoText => k_is)
    (case xo_NoText => k_is)
    (case xd_NoText => k_is)
    (case xc_NoText => k_is)
    (case xg_NotThere => k_is)
    (case xh_NotThere => k_is)
    (case xb_NotThere => k_is)
    (case xo_NotThere => k_is)
    (case xd_NotThere => k_is)
    (case xc_NotThere => k_is)
    (case xg_NothingLeft => k_is)
    (case xh_NothingLeft => k_is)
    (case xb_NothingLeft => k_is)
    (case xo_NothingLeft => k_is)
    (case xd_NothingLeft => k_is)
    (case xc_NothingLeft => k_is)
    (case xg_TooMany => k_is)
    (case xh_TooMany => k_is)
    (case xb_TooMany => k_is)
    (case xo_TooMany => k_is)
    (case xd_TooMany => k_is)
    (case xc_TooMany => k_is)
    (case xg_TooMuch => k_is)
    (case xh_TooMuch => k_is)
    (case xb_TooMuch => k_is)
    (case xo_TooMuch => k_is)
    (case xd_TooMuch => k_is)
    (case xc_TooMuch => k_is)
    (case xg_Twice => k_is)
    (case xh_Twice => k_is)
    (case xb_Twice => k_is)
    (case xo_Twice => k_is)
    (case xd_Twice => k_is)
    (case xc_Twice => k_is)
    (case i_Faulty_Faulty => kit_is)
    (case i_NoArticles_Faulty => kit_is)
    (case i_NoMan_Faulty => kit_is)
    (case i_NoPage_Faulty => kit_is)
    (case i_NoPages_Faulty => kit_is)
    (case i_NoRank_Faulty => kit_is)
    (case i_NoRow_Faulty => kit_is)
    (case i_NoSum_Faulty => kit_is)
    (case i_NoText_Faulty => kit_is)
    (case i_NotThere_Faulty => kit_is)
    (case i_NothingLeft_Faulty => kit_is)
    (case i_TooMany_Faulty => kit_is)
    (case i_TooMuch_Faulty => kit_is)
    (case i_Twice_Faulty => kit_is)
    (case i_Faulty_NoArticles => kit_is)
    (case i_NoArticles_NoArticles => kit_is)
    (case i_NoMan_NoArticles => kit_is)
    (case i_NoPage_NoArticles => kit_is)
    (case i_NoPages_NoArticles => kit_is)
    (case i_NoRank_NoArticles => kit_is)
    (case i_NoRow_NoArticles => kit_is)
    (case i_NoSum_NoArticles => kit_is)
    (case i_NoText_NoArticles => kit_is)
    (case i_NotThere_NoArticles => kit_is)
    (case i_NothingLeft_NoArticles => kit_is)
    (case i_TooMany_NoArticles => kit_is)
    (case i_TooMuch_NoArticles => kit_is)
    (case i_Twice_NoArticles => kit_is)
    (case i_Faulty_NoMan => kit_is)
    (case i_NoArticles_NoMan => kit_is)
    (case i_NoMan_NoMan => kit_is)
    (case i_NoPage_NoMan => kit_is)
    (case i_NoPages_NoMan => kit_is)
    (case i_NoRank_NoMan => kit_is)
    (case i_NoRow_NoMan => kit_is)
    (case i_NoSum_NoMan => kit_is)
    (case i_NoText_NoMan => kit_is)
    (case i_NotThere_NoMan => kit_is)
    (case i_NothingLeft_NoMan => kit_is)
    (case i_TooMany_NoMan => kit_is)
    (case i_TooMuch_NoMan => kit_is)
    (case i_Twice_NoMan => kit_is)
    (case i_Faulty_NoPage => kit_is)
    (case i_NoArticles_NoPage => kit_is)
    (case i_NoMan_NoPage => kit_is)
    (case i_NoPage_NoPage => kit_is)
    (case i_NoPages_NoPage => kit_is)
    (case i_NoRank_NoPage => kit_is)
    (case i_NoRow_NoPage => kit_is)
    (case i_NoSum_NoPage => kit_is)
    (case i_NoText_NoPage => kit_is)
    (case i_NotThere_NoPage => kit_is)
    (case i_NothingLeft_NoPage => kit_is)
    (case i_TooMany_NoPage => kit_is)
    (case i_TooMuch_NoPage => kit_is)
    (case i_Twice_NoPage => kit_is)
    (case i_Faulty_NoPages => kit_is)
    (case i_NoArticles_NoPages => kit_is)
    (case i_NoMan_NoPages => kit_is)
    (case i_NoPage_NoPages => kit_is)
    (case i_NoPages_NoPages => kit_is)
    (case i_NoRank_NoPages => kit_is)
    (case i_NoRow_NoPages => kit_is)
    (case i_NoSum_NoPages => kit_is)
    (case i_NoText_NoPages => kit_is)
    (case i_NotThere_NoPages => kit_is)
    (case i_NothingLeft_NoPages => kit_is)
    (case i_TooMany_NoPages => kit_is)
    (case i_TooMuch_NoPages => kit_is)
    (case i_Twice_NoPages => kit_is)
    (case i_Faulty_NoRank => kit_is)
    (case i_NoArticles_NoRank => kit_is)
    (case i_NoMan_NoRank => kit_is)
    (case i_NoPage_NoRank => kit_is)
    (case i_NoPages_NoRank => kit_is)
    (case i_NoRank_NoRank => kit_is)
    (case i_NoRow_NoRank => kit_is)
    (case i_NoSum_NoRank => kit_is)
    (case i_NoText_NoRank => kit_is)
    (case i_NotThere_NoRank => kit_is)
    (case i_NothingLeft_NoRank => kit_is)
    (case i_TooMany_NoRank => kit_is)
    (case i_TooMuch_NoRank => kit_is)
    (case i_Twice_NoRank => kit_is)
    (case i_Faulty_NoRow => kit_is)
    (case i_NoArticles_NoRow => kit_is)
    (case i_NoMan_NoRow => kit_is)
    (case i_NoPage_NoRow => kit_is)
    (case i_NoPages_NoRow => kit_is)
    (case i_NoRank_NoRow => kit_is)
    (case i_NoRow_NoRow => kit_is)
    (case i_NoSum_NoRow => kit_is)
    (case i_NoText_NoRow => kit_is)
    (case i_NotThere_NoRow => kit_is)
    (case i_NothingLeft_NoRow => kit_is)
    (case i_TooMany_NoRow => kit_is)
    (case i_TooMuch_NoRow => kit_is)
    (case i_Twice_NoRow => kit_is)
    (case i_Faulty_NoSum => kit_is)
    (case i_NoArticles_NoSum => kit_is)
    (case i_NoMan_NoSum => kit_is)
    (case i_NoPage_NoSum => kit_is)
    (case i_NoPages_NoSum => kit_is)
    (case i_NoRank_NoSum => kit_is)
    (case i_NoRow_NoSum => kit_is)
    (case i_NoSum_NoSum => kit_is)
    (case i_NoText_NoSum => kit_is)
    (case i_NotThere_NoSum => kit_is)
    (case i_NothingLeft_NoSum => kit_is)
    (case i_TooMany_NoSum => kit_is)
    (case i_TooMuch_NoSum => kit_is)
    (case i_Twice_NoSum => kit_is)
    (case i_Faulty_NoText => kit_is)
    (case i_NoArticles_NoText => kit_is)
    (case i_NoMan_NoText => kit_is)
    (case i_NoPage_NoText => kit_is)
    (case i_NoPages_NoText => kit_is)
    (case i_NoRank_NoText => kit_is)
    (case i_NoRow_NoText => kit_is)
    (case i_NoSum_NoText => kit_is)
    (case i_NoText_NoText => kit_is)
    (case i_NotThere_NoText => kit_is)
    (case i_NothingLeft_NoText => kit_is)
    (case i_TooMany_NoText => kit_is)
    (case i_TooMuch_NoText => kit_is)
    (case i_Twice_NoText => kit_is)
    (case i_Faulty_NotThere => kit_is)
    (case i_NoArticles_NotThere => kit_is)
    (case i_NoMan_NotThere => kit_is)
    (case i_NoPage_NotThere => kit_is)
    (case i_NoPages_NotThere => kit_is)
    (case i_NoRank_NotThere => kit_is)
    (case i_NoRow_NotThere => kit_is)
    (case i_NoSum_NotThere => kit_is)
    (case i_NoText_NotThere => kit_is)
    (case i_NotThere_NotThere => kit_is)
    (case i_NothingLeft_NotThere => kit_is)
    (case i_TooMany_NotThere => kit_is)
    (case i_TooMuch_NotThere => kit_is)
    (case i_Twice_NotThere => kit_is)
    (case i_Faulty_NothingLeft => kit_is)
    (case i_NoArticles_NothingLeft => kit_is)
    (case i_NoMan_NothingLeft => kit_is)
    (case i_NoPage_NothingLeft => kit_is)
    (case i_NoPages_NothingLeft => kit_is)
    (case i_NoRank_NothingLeft => kit_is)
    (case i_NoRow_NothingLeft => kit_is)
    (case i_NoSum_NothingLeft => kit_is)
    (case i_NoText_NothingLeft => kit_is)
    (case i_NotThere_NothingLeft => kit_is)
    (case i_NothingLeft_NothingLeft => kit_is)
    (case i_TooMany_NothingLeft => kit_is)
    (case i_TooMuch_NothingLeft => kit_is)
    (case i_Twice_NothingLeft => kit_is)
    (case i_Faulty_TooMany => kit_is)
    (case i_NoArticles_TooMany => kit_is)
    (case i_NoMan_TooMany => kit_is)
    (case i_NoPage_TooMany => kit_is)
    (case i_NoPages_TooMany => kit_is)
    (case i_NoRank_TooMany => kit_is)
    (case i_NoRow_TooMany => kit_is)
    (case i_NoSum_TooMany => kit_is)
    (case i_NoText_TooMany => kit_is)
    (case i_NotThere_TooMany => kit_is)
    (case i_NothingLeft_TooMany => kit_is)
    (case i_TooMany_TooMany => kit_is)
    (case i_TooMuch_TooMany => kit_is)
    (case i_Twice_TooMany => kit_is)
    (case i_Faulty_TooMuch => kit_is)
    (case i_NoArticles_TooMuch => kit_is)
    (case i_NoMan_TooMuch => kit_is)
    (case i_NoPage_TooMuch => kit_is)
    (case i_NoPages_TooMuch => kit_is)
    (case i_NoRank_TooMuch => kit_is)
    (case i_NoRow_TooMuch => kit_is)
    (case i_NoSum_TooMuch => kit_is)
    (case i_NoText_TooMuch => kit_is)
    (case i_NotThere_TooMuch => kit_is)
    (case i_NothingLeft_TooMuch => kit_is)
    (case i_TooMany_TooMuch => kit_is)
    (case i_TooMuch_TooMuch => kit_is)
    (case i_Twice_TooMuch => kit_is)
    (case i_Faulty_Twice => kit_is)
    (case i_NoArticles_Twice => kit_is)
    (case i_NoMan_Twice => kit_is)
    (case i_NoPage_Twice => kit_is)
    (case i_NoPages_Twice => kit_is)
    (case i_NoRank_Twice => kit_is)
    (case i_NoRow_Twice => kit_is)
    (case i_NoSum_Twice => kit_is)
    (case i_NoText_Twice => kit_is)
    (case i_NotThere_Twice => kit_is)
    (case i_NothingLeft_Twice => kit_is)
    (case i_TooMany_Twice => kit_is)
    (case i_TooMuch_Twice => kit_is)
    (case i_Twice_Twice => kit_is)
    (case i_Faulty_WageError => kit_is)
    (case i_NoArticles_WageError => kit_is)
    (case i_NoMan_WageError => kit_is)
    (case i_NoPage_WageError => kit_is)
    (case i_NoPages_WageError => kit_is)
    (case i_NoRank_WageError => kit_is)
    (case i_NoRow_WageError => kit_is)
    (case i_NoSum_WageError => kit_is)
    (case i_NoText_WageError => kit_is)
    (case i_NotThere_WageError => kit_is)
    (case i_NothingLeft_WageError => kit_is)
    (case i_TooMany_WageError => kit_is)
    (case i_TooMuch_WageError => kit_is)
    (case i_Twice_WageError => kit_is)
    (case n_ValueError => k_is)
    (case i_Faulty_ValueError => kit_is)
    (case i_NoArticles_ValueError => kit_is)
    (case i_NoMan_ValueError => kit_is)
    (case i_NoPage_ValueError => kit_is)
    (case i_NoPages_ValueError => kit_is)
    (case i_NoRank_ValueError => kit_is)
    (case i_NoRow_ValueError => kit_is)
    (case i_NoSum_ValueError => kit_is)
    (case i_NoText_ValueError => kit_is)
    (case i_NotThere_ValueError => kit_is)
    (case i_NothingLeft_ValueError => kit_is)
    (case i_TooMany_ValueError => kit_is)
    (case i_TooMuch_ValueError => kit_is)
    (case i_Twice_ValueError => kit_is)
    (case e_NoArticles => k_exc)
    (case kp_NoArticles => k_is)
    (case e_NoMan => k_exc)
    (case kp_NoMan => k_is)
    (case e_NoPage => k_exc)
    (case kp_NoPage => k_is)
    (case e_NoPages => k_exc)
    (case kp_NoPages => k_is)
    (case e_NoRank => k_exc)
    (case kp_NoRank => k_is)
    (case e_NoRow => k_exc)
    (case kp_NoRow => k_is)
    (case e_NoSum => k_exc)
    (case kp_NoSum => k_is)
    (case e_NoText => k_exc)
    (case kp_NoText => k_is)
    (case e_NotThere => k_exc)
    (case kp_NotThere => k_is)
    (case e_NothingLeft => k_exc)
    (case kp_NothingLeft => k_is)
    (case e_TooMany => k_exc)
    (case kp_TooMany => k_is)
    (case e_Twice => k_exc)
    (case kp_Twice => k_is)
    (case nf_Faulty_faults => k_is)
    (case nf_TooMuch_most => k_is)
    (case st_NoArticles => k_is)
    (case st_NoMan => k_is)
    (case st_NoPage => k_is)
    (case st_NoPages => k_is)
    (case st_NoRank => k_is)
    (case st_NoRow => k_is)
    (case st_NoSum => k_is)
    (case st_NoText => k_is)
    (case st_NotThere => k_is)
    (case st_NothingLeft => k_is)
    (case st_TooMany => k_is)
    (case st_Twice => k_is)
    (case lg_WageError => k_is)
    (case lr_WageError => kernel_rfl)
    (case lf_WageError => kernel_rfl)
    (case yI_Faulty => k_is)
    (case lI_Faulty => k_is)
    (case cI_Faulty => k_is)
    (case eI_Faulty => kernel_rfl)
    (case fI2_Faulty => kernel_rfl)
    (case kpI_Faulty => k_is)
    (case sa_Faulty => k_is)
    (case mr_Faulty => kernel_rfl)
    (case yI_TooMuch => k_is)
    (case lI_TooMuch => k_is)
    (case cI_TooMuch => k_is)
    (case eI_TooMuch => kernel_rfl)
    (case fI2_TooMuch => kernel_rfl)
    (case kpI_TooMuch => k_is)
    (case sa_TooMuch => k_is)
    (case mr_TooMuch => kernel_rfl)
