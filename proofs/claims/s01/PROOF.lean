import PyProof.Rows.All
import Wide.All
import OpenK.AllK
import Wide.FinOn
import PyProof.EqAt
import PyProof.EqKinds
import PyProof.TupleCall
import KE.BitLaws
import Open.SpecLaws
import KE.OsHead
import KE.OsGo
import PyFlatLaws
import PySem.Challenge.RW_fewqubits_s01_answers
set_option Elab.async false
set_option linter.all false
section
set_option Elab.async false
set_option linter.all false
set_option maxRecDepth 100000
namespace L2
open PySem PySem.Spec PyProof.Rows
abbrev Key := Sum Int Str
def keyIs : Key → Value → Bool
  | .inl k, v => Value.isInt k v
  | .inr x, v => Value.isStrOf x v
def keyH (w : World) : Key → Int
  | .inl k => hashInt k
  | .inr x => hashStr w x
theorem keyIs_shape : ∀ {k : Key} {v : Value}, keyIs k v = true → (∃ i t, k = Sum.inl i ∧ v = Value.int i t) ∨ (∃ x t, k = Sum.inr x ∧ v = Value.str x t)
  | .inl i, v, h => by
    obtain ⟨t, e⟩ := Value.isInt_shape (k := i) (v := v) h
    exact .inl ⟨i, t, rfl, e⟩
  | .inr x, v, h => by
    obtain ⟨t, e⟩ := Value.isStrOf_shape (x := x) (v := v) h
    exact .inr ⟨x, t, rfl, e⟩
theorem keyIs_int (i : Int) (t : Tok) : keyIs (.inl i) (.int i t) = true := by simp [keyIs, Value.isInt]
theorem keyIs_str (x : Str) (t : Tok) : keyIs (.inr x) (.str x t) = true := by simp [keyIs, Value.isStrOf]
theorem key_ll (a b : Int) : decide ((Sum.inl a : Key) = Sum.inl b) = (a == b) := by
  by_cases e : a = b
  · subst e; simp
  · have h : ¬ (Sum.inl a : Key) = Sum.inl b := fun q => e (Sum.inl.inj q)
    rw [decide_eq_false h]
    exact (beq_eq_false_iff_ne.mpr e).symm
theorem key_rr (a b : Str) : decide ((Sum.inr a : Key) = Sum.inr b) = decide (a = b) := by
  by_cases e : a = b
  · subst e; simp
  · have h : ¬ (Sum.inr a : Key) = Sum.inr b := fun q => e (Sum.inr.inj q)
    rw [decide_eq_false h, decide_eq_false e]
theorem key_lr (a : Int) (b : Str) : decide ((Sum.inl a : Key) = Sum.inr b) = false := decide_eq_false (fun q => nomatch q)
theorem key_rl (a : Str) (b : Int) : decide ((Sum.inr a : Key) = Sum.inl b) = false := decide_eq_false (fun q => nomatch q)
def mixKind (prog : Program) (w : World) : PySem.KeyKind prog w Key where
  is := keyIs
  hash := keyH w
  inj := fun v a b ha hb => by
    rcases keyIs_shape ha with ⟨i, t, rfl, rfl⟩ | ⟨x, t, rfl, rfl⟩
    · rcases keyIs_shape hb with ⟨j, u, rfl, e⟩ | ⟨y, u, rfl, e⟩
      · injection e with e1 _; rw [e1]
      · exact nomatch e
    · rcases keyIs_shape hb with ⟨j, u, rfl, e⟩ | ⟨y, u, rfl, e⟩
      · exact nomatch e
      · injection e with e1 _; rw [e1]
  byValue := fun k v h => by
    rcases keyIs_shape h with ⟨i, t, rfl, rfl⟩ | ⟨x, t, rfl, rfl⟩ <;> rfl
  pyHash := fun hv h => by
    rcases keyIs_shape hv with ⟨i, t, rfl, rfl⟩ | ⟨x, t, rfl, rfl⟩
    · exact wpAny_pyHash_int h
    · exact wpAny_pyHash_str h
  eqBool := fun hu hv h => by
    rcases keyIs_shape hu with ⟨i, t, rfl, rfl⟩ | ⟨x, t, rfl, rfl⟩
    · rcases keyIs_shape hv with ⟨j, u, rfl, rfl⟩ | ⟨y, u, rfl, rfl⟩
      · rw [key_ll] at h; exact wpAny_eqBool_int h
      · rw [key_lr] at h; exact SeqAt.EqAt.int_str i t y u _ _ _ _ h
    · rcases keyIs_shape hv with ⟨j, u, rfl, rfl⟩ | ⟨y, u, rfl, rfl⟩
      · rw [key_rl] at h; exact SeqAt.EqAt.str_int x t j u _ _ _ _ h
      · rw [key_rr] at h; exact wpAny_eqBool_str h
  «strs» := fun k x t v h => by
    rcases keyIs_shape h with ⟨i, u, rfl, e⟩ | ⟨y, u, rfl, e⟩
    · exact nomatch e
    · injection e with e1 _
      subst e1
      cases v <;> rfl
theorem mixKind_int (prog : Program) (w : World) (i : Int) (t : Tok) : (mixKind prog w).is (.inl i) (.int i t) = true := keyIs_int i t
theorem mixKind_str (prog : Program) (w : World) (x : Str) (t : Tok) : (mixKind prog w).is (.inr x) (.str x t) = true := keyIs_str x t
end L2
namespace L2
open PySem PySem.Spec PyProof.Rows
inductive V where
  | non | bl (b : Bool) | int (i : Int) | str (x : Str) | byt (b : Array UInt8) | flt (b : UInt64) | ref (a : Addr) | ty (n : String)
  deriving DecidableEq
def RelV : V → Value → Prop
  | .non, u => u = Value.none
  | .bl b, u => u = Value.bool b
  | .int i, u => ∃ t, u = Value.int i t
  | .str x, u => ∃ t, u = Value.str x t
  | .byt b, u => ∃ t, u = Value.bytes b t
  | .flt b, u => ∃ t, u = Value.float b t
  | .ref a, u => u = Value.ref a
  | .ty n, u => u = Value.type n
abbrev Vals : List V → List Value → Prop := Paired RelV
theorem Vals.length {xs : List V} {us : List Value} (r : Vals xs us) : xs.length = us.length := Paired.length r
theorem Vals.get : ∀ {xs : List V} {us : List Value} {i : Nat} {x : V}, Vals xs us → xs[i]? = some x → ∃ u, us[i]? = some u ∧ RelV x u
  | _, _, _, _, .nil, e => by simp at e
  | _, _, 0, _, .cons r _, e => by simp at e; subst e; exact ⟨_, rfl, r⟩
  | _, _, i + 1, x, .cons _ t, e => by
    obtain ⟨u, h1, h2⟩ := Vals.get (i := i) (x := x) t (by simpa using e)
    exact ⟨u, by simpa using h1, h2⟩
theorem Vals.set {x : V} {u : Value} (r : RelV x u) : ∀ {xs : List V} {us : List Value} (i : Nat), Vals xs us → Vals (xs.set i x) (us.set i u)
  | _, _, _, .nil => .nil
  | _, _, 0, .cons _ t => .cons r t
  | _, _, i + 1, .cons q t => .cons q (Vals.set r i t)
theorem Vals.append : ∀ {xs ys : List V} {us ws : List Value}, Vals xs us → Vals ys ws → Vals (xs ++ ys) (us ++ ws)
  | _, _, _, _, .nil, s => s
  | _, _, _, _, .cons r t, s => .cons r (Vals.append t s)
theorem Vals.take : ∀ {xs : List V} {us : List Value} (n : Nat), Vals xs us → Vals (xs.take n) (us.take n)
  | _, _, 0, _ => .nil
  | _, _, _ + 1, .nil => .nil
  | _, _, n + 1, .cons r t => .cons r (Vals.take n t)
theorem Vals.drop : ∀ {xs : List V} {us : List Value} (n : Nat), Vals xs us → Vals (xs.drop n) (us.drop n)
  | _, _, 0, r => r
  | _, _, _ + 1, .nil => .nil
  | _, _, n + 1, .cons _ t => Vals.drop n t
theorem Vals.none_of : ∀ {xs : List V} {us : List Value} {i : Nat}, Vals xs us → xs[i]? = none → us[i]? = none := fun {xs us i} r e => by
  have h1 := r.length
  have h2 : xs.length ≤ i := List.getElem?_eq_none_iff.mp e
  exact List.getElem?_eq_none_iff.mpr (by omega)
def RelO : Option V → Option Value → Prop
  | some v, some u => RelV v u
  | none, none => True
  | _, _ => False
def KV {κ : Type} : List (κ × V) → List (κ × Value) → Prop := Paired fun (p : κ × V) (q : κ × Value) => p.1 = q.1 ∧ RelV p.2 q.2
def kV : Key → V
  | .inl i => .int i
  | .inr x => .str x
inductive HO where
  /-- a list -/
  | lst (xs : List V)
  /-- a tuple (never changes) -/
  | tup (xs : List V)
  /-- a dict whose keys are ints and texts; one whose keys are tuples of ints and texts (the empty one is both) -/
  | dK (kvs : List (Key × V)) | dT (kvs : List (List Key × V))
  /-- a set of ints: its members, its size -/
  | set (S : Int → Bool) (n : Nat)
  /-- an instance of the class at C, its dict at dx, its attributes -/
  | ins (C dx : Addr) (fs : List (Str × V))
  /-- the dict of the instance at x -/
  | own (x : Addr)
  /-- the dict of an exception -/
  | xd (fs : List (Str × V))
  /-- a bound method, f of x -/
  | met (f x : Addr)
  /-- a range object lo, lo + 1, .. below hi -/
  | rng (lo hi : Int)
  /-- a thing that is known to the object (the script; a dict while a loop walks it): read, never written while it is so -/
  | frz (o : Obj) (u : HO)
  /-- a code object's table -/
  | tbl (ps : Array Value)
  /-- any other thing, by what is true of its one object (a def of one's own: SetO a S n := HO.ext fun h => ..) -/
  | ext (φ : Heap → Prop)
abbrev Hp := Addr → Option HO
def upd (H : Hp) (a : Addr) (o : HO) : Hp := fun b => if b = a then some o else H b
theorem upd_same {H : Hp} {a : Addr} {o : HO} : upd H a o a = some o := by unfold upd; rw [if_pos rfl]
theorem upd_ne {H : Hp} {a b : Addr} {o : HO} (h : b ≠ a) : upd H a o b = H b := by unfold upd; rw [if_neg h]
theorem upd_upd {H : Hp} {a : Addr} {o u : HO} : upd (upd H a o) a u = upd H a u := by
  funext b; unfold upd; split <;> rfl
theorem ne_of {H : Hp} {a b : Addr} {o u : HO} (h : H a = some o) (h' : H b = some u) (d : o ≠ u) : a ≠ b := by
  intro e; subst e; rw [h] at h'; exact d (Option.some.inj h')
theorem ne_of_none {H : Hp} {a b : Addr} {o : HO} (h : H a = some o) (h' : H b = none) : a ≠ b := by
  intro e; subst e; rw [h] at h'; cases h'
section
variable (P : Program) (w : World)
def ObjOk (H : Hp) (h : Heap) (a : Addr) : HO → Prop
  | .lst xs => xs.length ≤ sizeLine ∧ ∃ (its : List Value) (n : Nat), Vals xs its ∧ h.get? a = some { cls := .type "list", data := .seq its.toArray n }
  | .tup xs => xs.length ≤ sizeLine ∧ ∃ its : List Value, Vals xs its ∧ IsTup h a its.toArray
  | .dK kvs => kvs.length ≤ sizeLine ∧ (a == sysModules) = false ∧ ∃ vs, KV kvs vs ∧ h.DictOf (mixKind P w) a vs
  | .dT kvs => kvs.length ≤ sizeLine ∧ (a == sysModules) = false ∧ ∃ xs : List (List Key × Addr × Value),
      Paired (fun (p : List Key × V) (q : List Key × Addr × Value) => p.1 = q.1 ∧ H q.2.1 = some (.tup (p.1.map kV)) ∧ RelV p.2 q.2.2) kvs xs ∧
      ∃ o es ep, h.get? a = some o ∧ o.ExactDict ∧ o.data = .dict es ep ∧ es.toList = xs.map (entryOfKey (tupleKind (mixKind P w))) ∧ (xs.map (·.1)).Nodup
  | .set S n => h.SetOf (intKind P w) a S n
  | .ins C dx fs => H dx = some (.own a) ∧ fs.length ≤ 1000 ∧ dx ≠ a ∧ h.get? a = some (PySem.W.instObj C dx) ∧
      ∃ mA, h.Ns1 dx mA ∧ (∀ f, RelO (fs.lookup f) (mA f)) ∧ PySem.Within mA (fs.map (·.1))
  | .own _ => ∃ o, h.get? a = some o
  | .xd fs => ∃ mA, h.Ns1 a mA ∧ ∀ f, RelO (fs.lookup f) (mA f)
  | .rng lo hi => ∃ t u v, h.get? a = some { cls := .type "range", data := .fields #[.int lo t, .int hi u, .int 1 v] }
  | .frz o u => h.get? a = some o ∧ ObjOk H h a u
  | .tbl ps => h.get? a = some { cls := .none, data := .fields ps }
  | .met f x => h.get? a = some (PySem.W.methodObj (.ref f) (.ref x))
  | .ext φ => φ h ∧ (∃ o, h.get? a = some o) ∧ ∀ h1 h2 : Heap, φ h1 → (∀ o, h1.get? a = some o → h2.get? a = some o) → φ h2
def HOk (H : Hp) (h : Heap) : Prop := ∀ a o, H a = some o → ObjOk P w H h a o
end
section
variable {P : Program} {w : World} {H H' : Hp} {h h' : Heap} {a : Addr} {o : HO}
theorem ObjOk.lt (x : ObjOk P w H h a o) : a < h.objs.size := by
  cases o with
  | lst xs => obtain ⟨_, _, _, _, e⟩ := x; exact Heap.lt_size e
  | tup xs => obtain ⟨_, _, _, p⟩ := x; exact p.lt
  | dK kvs => obtain ⟨_, _, _, _, o, _, _, e, _⟩ := x; exact Heap.lt_size e
  | dT kvs => obtain ⟨_, _, _, _, o, _, _, e, _⟩ := x; exact Heap.lt_size e
  | set S n => obtain ⟨o, _, _, _, e, _⟩ := x; exact Heap.lt_size e
  | ins C dx fs => obtain ⟨_, _, _, e, _⟩ := x; exact Heap.lt_size e
  | own y => obtain ⟨_, e⟩ := x; exact Heap.lt_size e
  | xd fs => obtain ⟨_, ⟨_, _, _, e, _⟩, _⟩ := x; exact Heap.lt_size e
  | rng lo hi => obtain ⟨_, _, _, e⟩ := x; exact Heap.lt_size e
  | frz ob u => obtain ⟨e, _⟩ := x; exact Heap.lt_size e
  | tbl ps => exact Heap.lt_size (show h.get? a = some _ from x)
  | met f y => exact Heap.lt_size (show h.get? a = some _ from x)
  | ext φ => obtain ⟨_, ⟨_, e⟩, _⟩ := x; exact Heap.lt_size e
theorem Paired.mapP {α β : Type} {F G : α → β → Prop} : ∀ {l₁ : List α} {l₂ : List β}, Paired F l₁ l₂ → (∀ a b, F a b → G a b) → Paired G l₁ l₂
  | _, _, .nil, _ => .nil
  | _, _, .cons r t, f => .cons (f _ _ r) (Paired.mapP t f)
theorem ObjOk.stay (x : ObjOk P w H h a o) (k : ∀ b u, (b = a ∨ H b = some (.own a)) → h.get? b = some u → h'.get? b = some u)
    (ho : ∀ b, H b = some (.own a) → H' b = some (.own a)) (ht : ∀ b xs, H b = some (.tup xs) → H' b = some (.tup xs)) : ObjOk P w H' h' a o := by
  induction o with
  | lst xs => obtain ⟨z, its, n, r, e⟩ := x; exact ⟨z, its, n, r, k _ _ (.inl rfl) e⟩
  | tup xs => obtain ⟨z, its, r, ob, e, c⟩ := x; exact ⟨z, its, r, ob, k _ _ (.inl rfl) e, c⟩
  | dK kvs => obtain ⟨z, y, vs, r, ob, es, ep, e, c⟩ := x; exact ⟨z, y, vs, r, ob, es, ep, k _ _ (.inl rfl) e, c⟩
  | dT kvs =>
    obtain ⟨z, y, xs, r, ob, es, ep, e, c⟩ := x
    exact ⟨z, y, xs, Paired.mapP r fun p q z => ⟨z.1, ht _ _ z.2.1, z.2.2⟩, ob, es, ep, k _ _ (.inl rfl) e, c⟩
  | set S n => obtain ⟨ob, es, ep, t, e, c⟩ := x; exact ⟨ob, es, ep, t, k _ _ (.inl rfl) e, c⟩
  | ins C dx fs =>
    obtain ⟨d, z, ne, e, mA, ⟨od, es, ep, e2, c⟩, r⟩ := x
    exact ⟨ho _ d, z, ne, k _ _ (.inl rfl) e, mA, ⟨od, es, ep, k _ _ (.inr d) e2, c⟩, r⟩
  | own y => obtain ⟨ob, e⟩ := x; exact ⟨ob, k _ _ (.inl rfl) e⟩
  | xd fs => obtain ⟨mA, ⟨od, es, ep, e, c⟩, r⟩ := x; exact ⟨mA, ⟨od, es, ep, k _ _ (.inl rfl) e, c⟩, r⟩
  | rng lo hi => obtain ⟨t, u, v, e⟩ := x; exact ⟨t, u, v, k _ _ (.inl rfl) e⟩
  | frz ob u ih => obtain ⟨e, q⟩ := x; exact ⟨k _ _ (.inl rfl) e, ih q⟩
  | tbl ps =>
    have e : h.get? a = some { cls := .none, data := .fields ps } := x
    show h'.get? a = some { cls := .none, data := .fields ps }
    exact k a _ (.inl rfl) e
  | met f y =>
    have e : h.get? a = some (PySem.W.methodObj (.ref f) (.ref y)) := x
    show h'.get? a = some (PySem.W.methodObj (.ref f) (.ref y))
    exact k a _ (.inl rfl) e
  | ext φ => obtain ⟨p, ⟨o, e⟩, st⟩ := x; exact ⟨st _ _ p fun o q => k _ _ (.inl rfl) q, ⟨o, k _ _ (.inl rfl) e⟩, st⟩
theorem HOk.lt (x : HOk P w H h) (e : H a = some o) : a < h.objs.size := (x a o e).lt
theorem HOk.fresh (x : HOk P w H h) (e : h.objs.size ≤ a) : H a = none := by
  cases q : H a with
  | none => rfl
  | some u => exact absurd (Nat.lt_of_lt_of_le (x.lt q) e) (Nat.lt_irrefl _)
theorem HOk.kept (x : HOk P w H h) (k : ∀ b u, h.get? b = some u → h'.get? b = some u) : HOk P w H h' := fun a o e =>
  (x a o e).stay (fun b u _ q => k b u q) (fun _ q => q) fun _ _ q => q
theorem HOk.laid (x : HOk P w H h) (k : ∀ b u, h.get? b = some u → h'.get? b = some u) (hp : h.objs.size ≤ a) (new : ObjOk P w (upd H a o) h' a o) : HOk P w (upd H a o) h' := fun b u e => by
  have hn := x.fresh hp
  by_cases hb : b = a
  · subst hb; rw [upd_same] at e; cases e; exact new
  · rw [upd_ne hb] at e
    exact (x b u e).stay (fun c v _ q => k c v q) (fun c q => by rw [upd_ne (ne_of_none q hn)]; exact q) fun c xs q => by rw [upd_ne (ne_of_none q hn)]; exact q
end
def Rd (H : Hp) (a : Addr) (u : HO) : Prop := H a = some u ∨ ∃ o, H a = some (.frz o u)
theorem Rd.of {H : Hp} {a : Addr} {u : HO} (h : H a = some u) : Rd H a u := .inl h
theorem Rd.ok {P : Program} {w : World} {H : Hp} {h : Heap} {a : Addr} {u : HO} (r : Rd H a u) (x : HOk P w H h) : ObjOk P w H h a u := by
  rcases r with r | ⟨o, r⟩
  · exact x a u r
  · obtain ⟨_, q⟩ := x a _ r
    exact q
def Mut : Option HO → Prop
  | some (.lst _) => True
  | some (.dK _) => True
  | some (.dT _) => True
  | some (.set _ _) => True
  | some (.ins _ _ _) => True
  | some (.ext _) => True
  | _ => False
section
variable {P : Program} {w : World} {H : Hp} {h h' : Heap} {x e : Addr} {o' : HO}
theorem HOk.write (ok : HOk P w H h) (mu : Mut (H x)) (he : e = x ∨ H e = some (.own x)) (k : ∀ b u, b ≠ e → h.get? b = some u → h'.get? b = some u) (heo : ∃ u, h'.get? e = some u)
    (new : ObjOk P w (upd H x o') h' x o') : HOk P w (upd H x o') h' := fun b u q => by
  have nown : ∀ c y, H c = some (.own y) → c ≠ x := fun c y r z => by subst z; rw [r] at mu; exact mu
  have ntup : ∀ c xs, H c = some (.tup xs) → c ≠ x := fun c xs r z => by subst z; rw [r] at mu; exact mu
  by_cases hb : b = x
  · subst hb; rw [upd_same] at q; cases q; exact new
  · rw [upd_ne hb] at q
    by_cases hbe : b = e
    · have q' : H b = some (.own x) := by
        rcases he with z | z
        · exact absurd (hbe.trans z) hb
        · rw [hbe]; exact z
      rw [q] at q'; cases q'
      obtain ⟨v, hv⟩ := heo
      exact ⟨v, by rw [hbe]; exact hv⟩
    · refine (ok b u q).stay (fun c v hc r => k c v ?_ r) (fun c r => by rw [upd_ne (nown c b r)]; exact r) fun c xs r => by rw [upd_ne (ntup c xs r)]; exact r
      rcases hc with rfl | hc
      · exact hbe
      · rintro rfl
        rcases he with z | z
        · exact nown c b hc z
        · rw [hc] at z; cases z; exact hb rfl
end
structure Un (fs ex : List Addr) (H H' : Hp) (h h' : Heap) : Prop where
  keep : ∀ b o, h.get? b = some o → H b = none → b ∉ fs → b ∉ ex → h'.get? b = some o
  slot : ∀ b o, h.get? b = some o → H b = none → b ∈ fs → b ∉ ex → ∃ sl, h'.get? b = some { o with slots := sl }
  free : ∀ b o, h.get? b = some o → H b = none → b ∉ ex → H' b = none
  there : ∀ b o, h.get? b = some o → b ∉ ex → ∃ o', h'.get? b = some o'
  tups : ∀ b xs, H b = some (.tup xs) → H' b = some (.tup xs)
  frzs : ∀ b o u, H b = some (.frz o u) → H' b = some (.frz o u)
  tbls : ∀ b ps, H b = some (.tbl ps) → ∃ more, H' b = some (.tbl (ps ++ more))
section
variable {fs fs' ex ex' : List Addr} {H H1 H2 : Hp} {h h1 h2 h' : Heap} {a x e : Addr} {o : HO}
theorem Un.any (u : Un fs ex H H1 h h1) {b : Addr} {ob : Obj} (q : h.get? b = some ob) (n : H b = none) (hx : b ∉ ex) : ∃ sl, h1.get? b = some { ob with slots := sl } := by
  by_cases hb : b ∈ fs
  · exact u.slot b ob q n hb hx
  · exact ⟨ob.slots, u.keep b ob q n hb hx⟩
theorem Un.trans (a : Un fs ex H H1 h h1) (b : Un fs ex H1 H2 h1 h2) : Un fs ex H H2 h h2 where
  keep := fun c ob q n hc hx => b.keep c ob (a.keep c ob q n hc hx) (a.free c ob q n hx) hc hx
  slot := fun c ob q n hc hx => by
    obtain ⟨sl, e1⟩ := a.slot c ob q n hc hx
    obtain ⟨sl', e2⟩ := b.slot c _ e1 (a.free c ob q n hx) hc hx
    exact ⟨sl', e2⟩
  free := fun c ob q n hx => by
    obtain ⟨o', e1⟩ := a.there c ob q hx
    exact b.free c o' e1 (a.free c ob q n hx) hx
  there := fun c ob q hx => by
    obtain ⟨o', e1⟩ := a.there c ob q hx
    exact b.there c o' e1 hx
  tups := fun c xs q => b.tups c xs (a.tups c xs q)
  frzs := fun c ob xs q => b.frzs c ob xs (a.frzs c ob xs q)
  tbls := fun c ps q => by
    obtain ⟨m1, e1⟩ := a.tbls c ps q
    obtain ⟨m2, e2⟩ := b.tbls c _ e1
    exact ⟨m1 ++ m2, by rw [e2, Array.append_assoc]⟩
theorem Un.kept (k : ∀ b u, h.get? b = some u → h'.get? b = some u) : Un fs ex H H h h' :=
  ⟨fun b ob q _ _ _ => k b ob q, fun b ob q _ _ _ => ⟨ob.slots, k b ob q⟩, fun _ _ _ n _ => n, fun b ob q _ => ⟨ob, k b ob q⟩, fun _ _ q => q, fun _ _ _ q => q, fun _ ps q => ⟨#[], by rw [q]; simp⟩⟩
theorem Un.refl : Un fs ex H H h h := Un.kept fun _ _ q => q
theorem Un.laid (k : ∀ b u, h.get? b = some u → h'.get? b = some u) (hp : h.objs.size ≤ a) (hn : H a = none) : Un fs ex H (upd H a o) h h' where
  keep := fun b u q _ _ _ => k b u q
  slot := fun b u q _ _ _ => ⟨u.slots, k b u q⟩
  free := fun b u q n _ => by rw [upd_ne (Nat.ne_of_lt (Nat.lt_of_lt_of_le (Heap.lt_size q) hp))]; exact n
  there := fun b u q _ => ⟨u, k b u q⟩
  tups := fun b xs q => by rw [upd_ne (ne_of_none q hn)]; exact q
  frzs := fun b u xs q => by rw [upd_ne (ne_of_none q hn)]; exact q
  tbls := fun b ps q => ⟨#[], by rw [upd_ne (ne_of_none q hn), q]; simp⟩
theorem Un.write (mu : Mut (H x)) (he : e = x ∨ H e = some (.own x)) (k : ∀ b u, b ≠ e → h.get? b = some u → h'.get? b = some u) (heo : ∃ u, h'.get? e = some u) : Un fs ex H (upd H x o) h h' := by
  have hx : ∀ b, H b = none → b ≠ x := fun b n z => by subst z; rw [n] at mu; exact mu
  have hb : ∀ b, H b = none → b ≠ e := fun b n z => by
    subst z
    rcases he with r | r
    · exact hx b n r
    · rw [n] at r; cases r
  have hm : ∀ b u, H b = some u → ¬ Mut (some u) → b ≠ x := fun b u q nm z => by subst z; rw [q] at mu; exact nm mu
  refine ⟨fun b u q n _ _ => k b u (hb b n) q, fun b u q n _ _ => ⟨u.slots, k b u (hb b n) q⟩, fun b u q n _ => by rw [upd_ne (hx b n)]; exact n, fun b u q _ => ?_,
    fun b xs q => by rw [upd_ne (hm b _ q fun z => z)]; exact q, fun b u xs q => by rw [upd_ne (hm b _ q fun z => z)]; exact q, fun b ps q => ⟨#[], by rw [upd_ne (hm b _ q fun z => z), q]; simp⟩⟩
  by_cases hbe : b = e
  · subst hbe; exact heo
  · exact ⟨u, k b u hbe q⟩
theorem Un.mono (u : Un fs ex H H1 h h1) (hs : ∀ b ∈ fs, b ∈ fs') (hx : ∀ b ∈ ex, b ∈ ex') : Un fs' ex' H H1 h h1 :=
  ⟨fun b ob q n hb he => u.keep b ob q n (fun z => hb (hs b z)) fun z => he (hx b z), fun _ _ q n _ he => u.any q n fun z => he (hx _ z), fun b ob q n he => u.free b ob q n fun z => he (hx b z), fun b ob q he => u.there b ob q fun z => he (hx b z), u.tups, u.frzs, u.tbls⟩
end
def trk (h : Heap) (H : Hp) : List Addr := (List.range h.objs.size).filter fun a => (H a).isSome
def hidT (h : Heap) (H : Hp) : Heap := PySem.W.hideAll h (trk h H)
theorem hidT_size (h : Heap) (H : Hp) : (hidT h H).objs.size = h.objs.size := PySem.W.hideAll_size _ _
theorem hidT_get {h : Heap} {H : Hp} {b : Addr} {o : Obj} (e : h.get? b = some o) (n : H b = none) : (hidT h H).get? b = some o :=
  PySem.W.hideAll_get _ e fun hm => by
    have q : (H b).isSome = true := (List.mem_filter.mp hm).2
    rw [n] at q; simp at q
theorem of_hidT {h : Heap} {H : Hp} {b : Addr} {o : Obj} (e : (hidT h H).get? b = some o) : h.get? b = some o ∧ H b = none := by
  have e' : h.get? b = some o := PySem.W.of_hideAll (trk h H) e
  refine ⟨e', ?_⟩
  cases q : H b with
  | none => rfl
  | some x =>
    have hm : b ∈ trk h H := List.mem_filter.mpr ⟨List.mem_range.mpr (Heap.lt_size e'), by simp [q]⟩
    have z : (hidT h H).get? b = none := PySem.W.hideAll_none (trk h H) hm
    rw [z] at e; cases e
def allNews (g h : Heap) (L : Addr) : List (Addr × Obj) := (List.range h.objs.size).filterMap fun a => if a = L ∨ (g.get? a).isSome = true then none else (h.get? a).map fun o => (a, o)
def rest (g h : Heap) (L d : Addr) : List (Addr × Obj) := (allNews g h L).filter fun p => decide (p.1 ≠ d)
end L2
namespace L2
open PySem PySem.Spec PyProof.Rows
structure Mod (K : PySem.W.Frag) (mg : Str → Option Value) (base : Heap) : Prop where
  kin : K.In base
  glob : base.Ns mainGlobals mg
  blt : ∃ mb, base.Ns builtinsNs mb ∧ ∀ x : Str, x ≠ "__name__" → mb x = bootBuiltins x
  nolimit : base.NoLimit
structure Cx where
  prog : Program
  w : World
  K : PySem.W.Frag
  mg : Str → Option Value
  base : Heap
  A : Around
  N : List Str
  s_0 : Shared
  H_0 : Hp
  env : Env
  outer : List Env
  stack : List Env
  ex : List Addr
  fn : Str → Bool
  calm : Bool
  pn : List (Addr × Obj)
  xe : Value → Shared → Prop
def frs (l : List Env) : List Addr := l.filterMap (·.frame)
abbrev Cx.fs (X : Cx) : List Addr := frs X.outer
def Vis (sc : Scope) (x : Str) : Prop := sc.names.lookup x = some .local ∨ sc.names.lookup x = some .cell ∨ sc.names.lookup x = some .free
def Loc (sc : Scope) (x : Str) : Prop := sc.names.lookup x = some .local ∨ sc.names.lookup x = some .cell
def Look (env : Env) (h : Heap) (m : Str → Option Value) (x : Str) (u : Value) : Prop :=
  (env.kindOf x = some .local ∧ m x = some u) ∨ ((env.kindOf x = some .cell ∨ env.kindOf x = some .free) ∧ ∃ c, env.cells.lookup x = some c ∧ h.IsCell c (some u))
structure Cx.Ok (X : Cx) : Prop where
  mod : Mod X.K X.mg X.base
  kind : X.env.scope.kind = .function
  glob : X.env.globals = mainGlobals
  blt : X.env.builtins = builtinsNs
  above : X.s_0.heap.objs.size ≤ X.env.locals
  inj : ∀ x y c, X.env.cells.lookup x = some c → X.env.cells.lookup y = some c → x = y
  has : ∀ x, (X.env.kindOf x = some .cell ∨ X.env.kindOf x = some .free) → ∃ c, X.env.cells.lookup x = some c
  cab : ∀ x c, X.fn x = true → X.env.cells.lookup x = some c → X.s_0.heap.objs.size ≤ c
  hd : X.calm = true → X.A.handled = none
  frames : X.A.frames = some X.stack
  stk : X.stack = X.outer ∨ (X.stack = X.env :: X.outer ∧ X.env.frame = some X.env.locals)
  exf : ∀ b ∈ X.ex, b ≠ X.env.locals ∧ ∀ x c, X.env.cells.lookup x = some c → c ≠ b
  bs : ∀ b o, X.base.get? b = some o → X.s_0.heap.get? b = some o ∧ X.H_0 b = none
  bsz : X.base.objs.size ≤ X.s_0.heap.objs.size
  noex : ∀ b o, X.base.get? b = some o → b ∉ X.ex
  exfs : ∀ b ∈ X.ex, b ∉ X.fs
  funs : X.s_0.heap.FunFrames X.base X.outer
  frf : ∀ b ∈ X.fs, X.H_0 b = none
structure Inv (X : Cx) (pins : List (Addr × Obj)) (σ : List (Option V)) (H : Hp) (s : Shared) : Prop where
  ok : X.Ok
  os : s.os = X.s_0.os
  bare : AllBare s.gens
  base : Un X.fs X.ex X.H_0 H X.s_0.heap s.heap
  loc : ∃ m, s.heap.Ns X.env.locals m ∧ ∀ (i : Nat) (x : Str) (v : V), X.N[i]? = some x → σ[i]? = some (some v) → Vis X.env.scope x → ∃ u, RelV v u ∧ Look X.env s.heap m x u
  cell : ∀ x c, X.env.cells.lookup x = some c → ∃ v, s.heap.IsCell c v
  free : H X.env.locals = none
  freeC : ∀ x c, X.env.cells.lookup x = some c → H c = none
  pin : ∀ p ∈ X.pn ++ pins, s.heap.get? p.1 = some p.2 ∧ H p.1 = none ∧ p.1 ≠ X.env.locals ∧ p.1 ∉ X.fs ∧ ∀ v, p.2.data ≠ .cell v
  hok : HOk X.prog X.w H s.heap
  len : σ.length = X.N.length
section
variable {X : Cx} {pins : List (Addr × Obj)} {σ : List (Option V)} {H H' : Hp} {s : Shared} {h' : Heap}
theorem Cx.Ok.nofr (ok : X.Ok) {b : Addr} {o : Obj} (e : X.base.get? b = some o) : b ∉ X.fs := fun hb => by
  have := (ok.funs.mem hb).1
  rw [e] at this; cases this
theorem Inv.bs (I : Inv X pins σ H s) : ∀ b o, X.base.get? b = some o → s.heap.get? b = some o ∧ H b = none := fun b o e =>
  ⟨I.base.keep b o (I.ok.bs b o e).1 (I.ok.bs b o e).2 (I.ok.nofr e) (I.ok.noex b o e), I.base.free b o (I.ok.bs b o e).1 (I.ok.bs b o e).2 (I.ok.noex b o e)⟩
theorem Inv.bk (I : Inv X pins σ H s) : ∀ b o, X.base.get? b = some o → s.heap.get? b = some o := fun b o e => (I.bs b o e).1
theorem Inv.mod (I : Inv X pins σ H s) : Mod X.K X.mg X.base := I.ok.mod
theorem Inv.kIn (I : Inv X pins σ H s) : X.K.In s.heap := I.ok.mod.kin.keeps I.bk
theorem Inv.nolimit (I : Inv X pins σ H s) : s.heap.NoLimit := I.ok.mod.nolimit.keeps I.bk
theorem Inv.fr (I : Inv X pins σ H s) : ∃ m, Fr X.base X.env.locals s.heap m :=
  let ⟨m, hn, _⟩ := I.loc
  ⟨m, hn, I.bk, Nat.le_trans I.ok.bsz I.ok.above⟩
theorem Inv.lt (I : Inv X pins σ H s) : X.env.locals < s.heap.objs.size := let ⟨_, hn, _⟩ := I.loc; hn.lt
theorem Inv.sz (I : Inv X pins σ H s) : X.s_0.heap.objs.size ≤ s.heap.objs.size := Nat.le_trans I.ok.above (Nat.le_of_lt I.lt)
theorem Inv.nofs (I : Inv X pins σ H s) {a : Addr} (h : s.heap.objs.size ≤ a) : a ∉ X.fs := fun hb => by
  obtain ⟨_, o, ho, _⟩ := I.ok.funs.mem hb
  exact absurd (Nat.lt_of_lt_of_le (Heap.lt_size ho) (Nat.le_trans I.sz h)) (Nat.lt_irrefl _)
theorem Inv.cne (I : Inv X pins σ H s) : ∀ x c, X.env.cells.lookup x = some c → c ≠ X.env.locals := fun x c e z => by
  obtain ⟨v, o, ho, hd⟩ := I.cell x c e
  obtain ⟨m, ⟨o', es, ep, ho', hd', _⟩, _⟩ := I.loc
  rw [z, ho'] at ho; cases ho; rw [hd'] at hd; cases hd
theorem Inv.funs (I : Inv X pins σ H s) : s.heap.FunFrames X.base X.outer := by
  have all : ∀ (l : List Env), (∀ b ∈ frs l, b ∈ X.fs) → X.s_0.heap.FunFrames X.base l → s.heap.FunFrames X.base l := by
    intro l
    induction l with
    | nil => intro _ _; trivial
    | cons env r ih =>
      intro hs hl
      obtain ⟨hk, ⟨L, o, hf, hn, ho, hd⟩, hr⟩ := hl
      have hL : L ∈ X.fs := hs L (by unfold frs; rw [List.filterMap_cons, hf]; exact List.mem_cons_self)
      obtain ⟨sl, e⟩ := I.base.slot L o ho (I.ok.frf L hL) hL fun z => I.ok.exfs L z hL
      exact ⟨hk, ⟨L, _, hf, hn, e, hd⟩, ih (fun b hb => hs b (by unfold frs; rw [List.filterMap_cons, hf]; exact List.mem_cons_of_mem _ hb)) hr⟩
  exact all X.outer (fun _ hb => hb) I.ok.funs
theorem Inv.stack (I : Inv X pins σ H s) : s.heap.FunFrames X.base X.stack := by
  rcases I.ok.stk with e | ⟨e, hf⟩
  · rw [e]; exact I.funs
  · rw [e]
    obtain ⟨m, hn, _⟩ := I.loc
    refine .cons (by rw [I.ok.kind]; decide) hf hn ?_ I.funs
    exact Heap.get?_none_of_le (Nat.le_trans I.ok.bsz I.ok.above)
theorem Inv.stkSub (I : Inv X pins σ H s) : ∀ b ∈ frs X.stack, b ∈ X.env.locals :: X.fs := fun b hb => by
  rcases I.ok.stk with e | ⟨e, hf⟩
  · rw [e] at hb; exact List.mem_cons_of_mem _ hb
  · rw [e] at hb
    unfold frs at hb
    rw [List.filterMap_cons, hf] at hb
    exact hb
theorem Inv.stkFree (I : Inv X pins σ H s) : ∀ b ∈ frs X.stack, H b = none := fun b hb => by
  rcases List.mem_cons.mp (I.stkSub b hb) with e | hb
  · rw [e]; exact I.free
  · obtain ⟨_, o, ho, _⟩ := I.ok.funs.mem hb
    exact I.base.free b o ho (I.ok.frf b hb) fun z => I.ok.exfs b z hb
theorem Inv.step {g' : Array GenState} {t' : Nat} {d' : Drawn} {ch : List Addr} (I : Inv X pins σ H s)
    (hch : ∀ b ∈ ch, (b ∈ X.ex ∨ X.s_0.heap.objs.size ≤ b) ∧ b ≠ X.env.locals ∧ (∀ x c, X.env.cells.lookup x = some c → c ≠ b) ∧ ∀ p ∈ X.pn ++ pins, p.1 ≠ b)
    (keep : ∀ b o, b ≠ X.env.locals → b ∉ X.fs → b ∉ ch → s.heap.get? b = some o → H b = none → h'.get? b = some o)
    (slot : ∀ b o, b ≠ X.env.locals → b ∈ X.fs → b ∉ ch → s.heap.get? b = some o → H b = none → ∃ sl, h'.get? b = some { o with slots := sl }) (free : ∀ b o, b ∉ ch → s.heap.get? b = some o → H b = none → H' b = none)
    (there : ∀ b o, b ∉ ch → s.heap.get? b = some o → ∃ o', h'.get? b = some o')
    (tups : ∀ b xs, H b = some (.tup xs) → H' b = some (.tup xs)) (frzs : ∀ b o u, H b = some (.frz o u) → H' b = some (.frz o u)) (tbls : ∀ b ps, H b = some (.tbl ps) → ∃ more, H' b = some (.tbl (ps ++ more)))
    (ns : ∀ m, s.heap.Ns X.env.locals m → h'.Ns X.env.locals m) (hok : HOk X.prog X.w H' h') (hg : AllBare g') :
    Inv X pins σ H' { s with heap := h', gens := g', drawn := d', toks := t' } := by
  have neL : ∀ b o, X.s_0.heap.get? b = some o → b ≠ X.env.locals := fun b o e => Nat.ne_of_lt (Nat.lt_of_lt_of_le (Heap.lt_size e) I.ok.above)
  have neC : ∀ b o, X.s_0.heap.get? b = some o → b ∉ X.ex → b ∉ ch := fun b o e hx hb => by
    rcases (hch b hb).1 with z | z
    · exact hx z
    · exact absurd (Nat.lt_of_lt_of_le (Heap.lt_size e) z) (Nat.lt_irrefl _)
  have cellK : ∀ x c, X.env.cells.lookup x = some c → ∀ v, s.heap.IsCell c v → h'.IsCell c v := fun x c e v ⟨o, ho, hd⟩ => by
    have nch : c ∉ ch := fun z => (hch c z).2.2.1 x c e rfl
    by_cases hc : c ∈ X.fs
    · obtain ⟨sl, q⟩ := slot c o (I.cne x c e) hc nch ho (I.freeC x c e)
      exact ⟨_, q, hd⟩
    · exact ⟨o, keep c o (I.cne x c e) hc nch ho (I.freeC x c e), hd⟩
  refine ⟨I.ok, I.os, hg, ⟨fun b o e n hb hx => ?_, fun b o e n hb hx => ?_, fun b o e n hx => ?_, fun b o e hx => ?_, fun b xs e => tups b xs (I.base.tups b xs e), fun b o xs e => frzs b o xs (I.base.frzs b o xs e), fun b ps e => ?_⟩, ?_, fun x c e => ?_, ?_, fun x c e => ?_, fun p hp => ?_, hok, I.len⟩
  · exact keep b o (neL b o e) hb (neC b o e hx) (I.base.keep b o e n hb hx) (I.base.free b o e n hx)
  · obtain ⟨sl, e1⟩ := I.base.slot b o e n hb hx
    obtain ⟨sl', e2⟩ := slot b _ (neL b o e) hb (neC b o e hx) e1 (I.base.free b o e n hx)
    exact ⟨sl', e2⟩
  · obtain ⟨o', e1⟩ := I.base.there b o e hx
    exact free b o' (neC b o e hx) e1 (I.base.free b o e n hx)
  · obtain ⟨o', e1⟩ := I.base.there b o e hx
    exact there b o' (neC b o e hx) e1
  · obtain ⟨m1, e1⟩ := I.base.tbls b ps e
    obtain ⟨m2, e2⟩ := tbls b _ e1
    exact ⟨m1 ++ m2, by rw [e2, Array.append_assoc]⟩
  · obtain ⟨m, hn, hl⟩ := I.loc
    refine ⟨m, ns m hn, fun i x v e1 e2 e3 => ?_⟩
    obtain ⟨u, r, l⟩ := hl i x v e1 e2 e3
    refine ⟨u, r, ?_⟩
    rcases l with l | ⟨k, c, e, z⟩
    · exact .inl l
    · exact .inr ⟨k, c, e, cellK x c e _ z⟩
  · obtain ⟨v, z⟩ := I.cell x c e
    exact ⟨v, cellK x c e v z⟩
  · obtain ⟨m, ⟨o, _, _, ho, _⟩, _⟩ := I.loc
    exact free _ o (fun z => (hch _ z).2.1 rfl) ho I.free
  · obtain ⟨v, o, ho, hd⟩ := I.cell x c e
    exact free c o (fun z => (hch c z).2.2.1 x c e rfl) ho (I.freeC x c e)
  · obtain ⟨e, n, ne, nf, d⟩ := I.pin p hp
    have nch : p.1 ∉ ch := fun z => (hch p.1 z).2.2.2 p hp rfl
    exact ⟨keep p.1 p.2 ne nf nch e n, free p.1 p.2 nch e n, ne, nf, d⟩
theorem Inv.un {t' : Nat} (I : Inv X pins σ H s) (u : Un X.fs [] H H' s.heap h') (hok : HOk X.prog X.w H' h') : Inv X pins σ H' { s with heap := h', toks := t' } := by
  obtain ⟨m, ⟨o, es, ep, ho, r⟩, _⟩ := id I.loc
  obtain ⟨sl, hL⟩ := u.any ho I.free (by simp)
  exact I.step (g' := s.gens) (d' := s.drawn) (ch := []) (fun _ z => nomatch z) (fun b o _ hb _ e n => u.keep b o e n hb (by simp)) (fun b o _ hb _ e n => u.slot b o e n hb (by simp)) (fun b o _ e n => u.free b o e n (by simp)) (fun b o _ e => u.there b o e (by simp)) u.tups u.frzs u.tbls (fun m' hm => by
    obtain ⟨o', es', ep', ho', r'⟩ := hm
    rw [ho] at ho'; cases ho'
    exact ⟨_, es', ep', hL, r'⟩) hok I.bare
theorem Inv.call {g' : Array GenState} {t' : Nat} {d' : Drawn} {ch : List Addr} (I : Inv X pins σ H s) (u : Un (frs X.stack) ch H H' s.heap h') (hok : HOk X.prog X.w H' h') (hg : AllBare g')
    (hch : ∀ b ∈ ch, (b ∈ X.ex ∨ X.s_0.heap.objs.size ≤ b) ∧ b ≠ X.env.locals ∧ (∀ x c, X.env.cells.lookup x = some c → c ≠ b) ∧ ∀ p ∈ X.pn ++ pins, p.1 ≠ b) :
    Inv X pins σ H' { s with heap := h', gens := g', drawn := d', toks := t' } := by
  obtain ⟨m, ⟨o, es, ep, ho, r⟩, _⟩ := id I.loc
  obtain ⟨sl, hL⟩ := u.any ho I.free fun z => (hch _ z).2.1 rfl
  exact I.step (ch := ch) hch (fun b o hL hb hc e n => u.keep b o e n (fun z => (List.mem_cons.mp (I.stkSub b z)).elim hL hb) hc) (fun b o _ _ hc e n => u.any e n hc) (fun b o hc e n => u.free b o e n hc) (fun b o hc e => u.there b o e hc) u.tups u.frzs u.tbls (fun m' hm => by
    obtain ⟨o', es', ep', ho', r'⟩ := hm
    rw [ho] at ho'; cases ho'
    exact ⟨_, es', ep', hL, r'⟩) hok hg
theorem Inv.turned {t' : Nat} {it : Addr} (I : Inv X pins σ H s) (k : ∀ b o, b ≠ it → s.heap.get? b = some o → h'.get? b = some o) (hn : H it = none) (hL : it ≠ X.env.locals)
    (h1 : it ∈ X.ex ∨ X.s_0.heap.objs.size ≤ it) (h2 : ∀ x c, X.env.cells.lookup x = some c → c ≠ it) (h3 : ∀ p ∈ X.pn ++ pins, p.1 ≠ it) : Inv X pins σ H { s with heap := h', toks := t' } := by
  have nit : ∀ b u, H b = some u → b ≠ it := fun b u e z => by rw [z, hn] at e; cases e
  refine I.step (g' := s.gens) (d' := s.drawn) (ch := [it]) (fun b hb => ?_) (fun b o _ _ hc e _ => k b o (fun z => hc (by simp [z])) e) (fun b o _ _ hc e _ => ⟨o.slots, k b o (fun z => hc (by simp [z])) e⟩) (fun _ _ _ _ n => n)
    (fun b o hc e => ⟨o, k b o (fun z => hc (by simp [z])) e⟩) (fun _ _ e => e) (fun _ _ _ e => e) (fun b ps e => ⟨#[], by rw [e]; simp⟩) (fun m hm => ?_) (fun b u e => ?_) I.bare
  · have e : b = it := by simpa using hb
    subst e
    exact ⟨h1, hL, h2, h3⟩
  · obtain ⟨o, es, ep, ho, r⟩ := hm
    exact ⟨o, es, ep, k _ o (Ne.symm hL) ho, r⟩
  · refine (I.hok b u e).stay (fun c v hc q => k c v ?_ q) (fun _ q => q) fun _ _ q => q
    rcases hc with z | z
    · rw [z]; exact nit b u e
    · exact nit c _ z
theorem Inv.tok (I : Inv X pins σ H s) (t : Nat) : Inv X pins σ H { s with toks := t } := I.un (h' := s.heap) (t' := t) Un.refl I.hok
theorem Inv.kept {t' : Nat} (I : Inv X pins σ H s) (k : ∀ b u, s.heap.get? b = some u → h'.get? b = some u) : Inv X pins σ H { s with heap := h', toks := t' } := I.un (Un.kept k) (I.hok.kept k)
theorem Inv.laid {a : Addr} {o : HO} {t' : Nat} (I : Inv X pins σ H s) (k : ∀ b u, s.heap.get? b = some u → h'.get? b = some u) (hp : s.heap.objs.size ≤ a) (new : ObjOk X.prog X.w (upd H a o) h' a o) :
    Inv X pins σ (upd H a o) { s with heap := h', toks := t' } := I.un (Un.laid k hp (I.hok.fresh hp)) (I.hok.laid k hp new)
theorem Inv.write {x e : Addr} {o : HO} {t' : Nat} (I : Inv X pins σ H s) (mu : Mut (H x)) (he : e = x ∨ H e = some (.own x)) (k : ∀ b u, b ≠ e → s.heap.get? b = some u → h'.get? b = some u) (heo : ∃ u, h'.get? e = some u)
    (new : ObjOk X.prog X.w (upd H x o) h' x o) : Inv X pins σ (upd H x o) { s with heap := h', toks := t' } := I.un (Un.write mu he k heo) (I.hok.write mu he k heo new)
theorem Inv.weak {σ' : List (Option V)} (I : Inv X pins σ H s) (hl : σ'.length = σ.length) (w : ∀ (i : Nat) v, σ'[i]? = some (some v) → σ[i]? = some (some v)) : Inv X pins σ' H s :=
  ⟨I.ok, I.os, I.bare, I.base, let ⟨m, hn, hl'⟩ := I.loc; ⟨m, hn, fun i x v e1 e2 e3 => hl' i x v e1 (w i v e2) e3⟩, I.cell, I.free, I.freeC, I.pin, I.hok, hl.trans I.len⟩
theorem Inv.pins_of {pins' : List (Addr × Obj)} (I : Inv X pins σ H s) (h : ∀ p ∈ pins', s.heap.get? p.1 = some p.2 ∧ H p.1 = none ∧ p.1 ≠ X.env.locals ∧ p.1 ∉ X.fs ∧ ∀ v, p.2.data ≠ .cell v) : Inv X pins' σ H s :=
  ⟨I.ok, I.os, I.bare, I.base, I.loc, I.cell, I.free, I.freeC, fun p hp => (List.mem_append.mp hp).elim (fun z => I.pin p (List.mem_append_left _ z)) (h p), I.hok, I.len⟩
theorem nodup_ix {N : List Str} (hN : N.Nodup) {i j : Nat} {x : Str} (a : N[i]? = some x) (b : N[j]? = some x) : i = j := by
  obtain ⟨h1, e1⟩ := List.getElem?_eq_some_iff.mp a
  obtain ⟨h2, e2⟩ := List.getElem?_eq_some_iff.mp b
  exact (List.getElem_inj hN).mp (e1.trans e2.symm)
theorem store_ok2 {M : Model} {A : Around} {E : Value → Shared → Prop} {i : Nat} {x : Str} {v : V} {u : Value} {Q : Unit → Shared → Prop} (I : Inv X pins σ H s) (hN : X.N.Nodup) (hi : X.N[i]? = some x) (hx : Loc X.env.scope x) (r : RelV v u)
    (h : ∀ s', Inv X pins (σ.set i (some v)) H s' → (∃ a, Heap.SameBut a s.heap s'.heap ∧ (a = X.env.locals ∨ X.env.cells.lookup x = some a)) → Q () s') (hf : X.fn x = true ∨ X.env.scope.names.lookup x = some .local := by first | exact .inl rfl | exact .inr rfl | assumption) : wpAny M A (storeName X.env x u) Q E s := by
  obtain ⟨m, hn, hl⟩ := id I.loc
  have hcls : (X.env.scope.kind == .class || (X.env.scope.kind == .module && X.env.locals != X.env.globals)) = false := by rw [I.ok.kind]; rfl
  have hiσ : i < σ.length := by rw [I.len]; exact (List.getElem?_eq_some_iff.mp hi).1
  have cne := I.cne
  have tracked : ∀ {a : Addr} {h' : Heap}, (∃ o, s.heap.get? a = some o ∧ H a = none) → Heap.SameBut a s.heap h' → HOk X.prog X.w H h' := fun {a h'} ha hs b ob e => by
    obtain ⟨_, _, hfree⟩ := ha
    refine (I.hok b ob e).stay (fun c w' hc q => (hs.2 c ?_).trans q) (fun _ q => q) fun _ _ q => q
    rintro rfl
    rcases hc with rfl | hc
    · rw [hfree] at e; cases e
    · rw [hfree] at hc; cases hc
  rcases hx with hk | hk
  · refine wpAny_storeName_local hk hn (fun h' hn' hs => ?_) hcls
    obtain ⟨oL, _, _, hoL, _⟩ := id hn
    refine h _ ⟨I.ok, I.os, I.bare, ⟨fun b o e n hb hx => ?_, fun b o e n hb hx => ?_, I.base.free, fun b o e hx => ?_, I.base.tups, I.base.frzs, I.base.tbls⟩, ⟨_, hn', fun j y v' e1 e2 e3 => ?_⟩, fun y c e => ?_, I.free, I.freeC, fun p hp => ?_, tracked ⟨oL, hoL, I.free⟩ hs, by simpa using I.len⟩ ⟨_, hs, .inl rfl⟩
    · exact (hs.2 b (Nat.ne_of_lt (Nat.lt_of_lt_of_le (Heap.lt_size e) I.ok.above))).trans (I.base.keep b o e n hb hx)
    · obtain ⟨sl, e1⟩ := I.base.slot b o e n hb hx
      exact ⟨sl, (hs.2 b (Nat.ne_of_lt (Nat.lt_of_lt_of_le (Heap.lt_size e) I.ok.above))).trans e1⟩
    · obtain ⟨o', e1⟩ := I.base.there b o e hx
      exact ⟨o', (hs.2 b (Nat.ne_of_lt (Nat.lt_of_lt_of_le (Heap.lt_size e) I.ok.above))).trans e1⟩
    · by_cases hj : j = i
      · subst hj
        rw [hi] at e1; cases e1
        rw [List.getElem?_set_self hiσ] at e2
        cases e2
        exact ⟨u, r, .inl ⟨hk, by simp⟩⟩
      · rw [List.getElem?_set_ne (Ne.symm hj)] at e2
        obtain ⟨u', r', q⟩ := hl j y v' e1 e2 e3
        refine ⟨u', r', ?_⟩
        rcases q with ⟨k, e⟩ | ⟨k, c, e, z⟩
        · refine .inl ⟨k, ?_⟩
          have : y ≠ x := fun e => hj (nodup_ix hN e1 (e ▸ hi))
          simp [this, e]
        · exact .inr ⟨k, c, e, z.sameBut hs (cne y c e)⟩
    · obtain ⟨w', z⟩ := I.cell y c e
      exact ⟨w', z.sameBut hs (cne y c e)⟩
    · obtain ⟨e, n, ne, nf, d⟩ := I.pin p hp
      exact ⟨(hs.2 p.1 ne).trans e, n, ne, nf, d⟩
  · have hfn : X.fn x = true := by
      rcases hf with z | z
      · exact z
      · rw [z] at hk; cases hk
    obtain ⟨c, hc⟩ := I.ok.has x (.inl hk)
    obtain ⟨w', z⟩ := I.cell x c hc
    refine wpAny_storeName_cell I.ok.kind hk hc z (fun h' hc' hs => ?_)
    obtain ⟨oc, hoc, hocd⟩ := id z
    refine h { s with heap := h' } ⟨I.ok, I.os, I.bare, ⟨fun b o e n hb hx => ?_, fun b o e n hb hx => ?_, I.base.free, fun b o e hx => ?_, I.base.tups, I.base.frzs, I.base.tbls⟩, ⟨m, hn.sameBut hs (Ne.symm (cne x c hc)), fun j y v' e1 e2 e3 => ?_⟩, fun y c' e => ?_, I.free, I.freeC, fun p hp => ?_, tracked ⟨oc, hoc, I.freeC x c hc⟩ hs, by simpa using I.len⟩ ⟨c, hs, .inr hc⟩
    · exact (hs.2 b (Nat.ne_of_lt (Nat.lt_of_lt_of_le (Heap.lt_size e) (I.ok.cab x c hfn hc)))).trans (I.base.keep b o e n hb hx)
    · obtain ⟨sl, e1⟩ := I.base.slot b o e n hb hx
      exact ⟨sl, (hs.2 b (Nat.ne_of_lt (Nat.lt_of_lt_of_le (Heap.lt_size e) (I.ok.cab x c hfn hc)))).trans e1⟩
    · obtain ⟨o', e1⟩ := I.base.there b o e hx
      exact ⟨o', (hs.2 b (Nat.ne_of_lt (Nat.lt_of_lt_of_le (Heap.lt_size e) (I.ok.cab x c hfn hc)))).trans e1⟩
    · by_cases hj : j = i
      · subst hj
        rw [hi] at e1; cases e1
        rw [List.getElem?_set_self hiσ] at e2
        cases e2
        exact ⟨u, r, .inr ⟨.inl hk, c, hc, hc'⟩⟩
      · rw [List.getElem?_set_ne (Ne.symm hj)] at e2
        obtain ⟨u', r', q⟩ := hl j y v' e1 e2 e3
        refine ⟨u', r', ?_⟩
        rcases q with q | ⟨k, c', e, z'⟩
        · exact .inl q
        · refine .inr ⟨k, c', e, z'.sameBut hs ?_⟩
          rintro rfl
          exact hj (nodup_ix hN e1 (I.ok.inj _ _ _ e hc ▸ hi))
    · by_cases hcc : c' = c
      · subst hcc; exact ⟨_, hc'⟩
      · obtain ⟨w2, z2⟩ := I.cell y c' e
        exact ⟨w2, z2.sameBut hs hcc⟩
    · obtain ⟨e, n, ne, nf, d⟩ := I.pin p hp
      refine ⟨(hs.2 p.1 ?_).trans e, n, ne, nf, d⟩
      intro q
      rw [q, hoc] at e
      have q' : oc = p.2 := Option.some.inj e
      exact d w' (by rw [← q']; exact hocd)
theorem store_ok {M : Model} {A : Around} {E : Value → Shared → Prop} {i : Nat} {x : Str} {v : V} {u : Value} {Q : Unit → Shared → Prop} (I : Inv X pins σ H s) (hN : X.N.Nodup) (hi : X.N[i]? = some x) (hx : Loc X.env.scope x) (r : RelV v u)
    (h : ∀ s', Inv X pins (σ.set i (some v)) H s' → Q () s') (hf : X.fn x = true ∨ X.env.scope.names.lookup x = some .local := by first | exact .inl rfl | exact .inr rfl | assumption) : wpAny M A (storeName X.env x u) Q E s :=
  store_ok2 I hN hi hx r (fun s' I' _ => h s' I') hf
theorem Inv.call' {s' : Shared} {ch : List Addr} (I : Inv X pins σ H s) (ho : s'.os = s.os) (u : Un (frs X.stack) ch H H' s.heap s'.heap) (hok : HOk X.prog X.w H' s'.heap) (hg : AllBare s'.gens)
    (hch : ∀ b ∈ ch, (b ∈ X.ex ∨ X.s_0.heap.objs.size ≤ b) ∧ b ≠ X.env.locals ∧ (∀ x c, X.env.cells.lookup x = some c → c ≠ b) ∧ ∀ p ∈ X.pn ++ pins, p.1 ≠ b) : Inv X pins σ H' s' := by
  obtain ⟨h', g', d', t', o'⟩ := s'
  have e : o' = s.os := ho
  subst e
  exact I.call (g' := g') (t' := t') (d' := d') u hok hg hch
end
abbrev XK := Value → Option Addr → Hp → Prop
abbrev St := List (Option V)
abbrev VK := V → Hp → Prop
abbrev TE := St → Hp → VK → Prop
abbrev TT := St → Hp → (Bool → Hp → Prop) → Prop
abbrev TA := St → Hp → (List V → Hp → Prop) → Prop
structure Ends where
  nx : St → Hp → Prop
  rt : VK
  bk : St → Hp → Prop := fun _ _ => False
  ct : St → Hp → Prop := fun _ _ => False
abbrev TS := Ends → St → Hp → Prop
def EP (X : Cx) (pins : List (Addr × Obj)) (σ : St) (Q : VK) (u : Value) (s' : Shared) : Prop := ∃ v H', Inv X pins σ H' s' ∧ RelV v u ∧ Q v H'
def TP (X : Cx) (pins : List (Addr × Obj)) (σ : St) (Q : Bool → Hp → Prop) (b : Bool) (s' : Shared) : Prop := ∃ H', Inv X pins σ H' s' ∧ Q b H'
def AP (X : Cx) (pins : List (Addr × Obj)) (σ : St) (Q : List V → Hp → Prop) (us : List Value) (s' : Shared) : Prop := ∃ vs H', Inv X pins σ H' s' ∧ Vals vs us ∧ Q vs H'
def SP (X : Cx) (pins : List (Addr × Obj)) (D : Ends) (f : Flow) (s' : Shared) : Prop :=
  match f with
  | .next => ∃ σ' H', Inv X pins σ' H' s' ∧ D.nx σ' H'
  | .brk => ∃ σ' H', Inv X pins σ' H' s' ∧ D.bk σ' H'
  | .cont => ∃ σ' H', Inv X pins σ' H' s' ∧ D.ct σ' H'
  | .ret u => ∃ v σ' H', Inv X pins σ' H' s' ∧ RelV v u ∧ D.rt v H'
def PE (X : Cx) (e : Expr) (t : TE) : Prop :=
  ∀ (pins : List (Addr × Obj)) (s : Shared) (σ : St) (H : Hp) (Q : VK), Inv X pins σ H s → t σ H Q → wpAny (model X.prog X.w) X.A (eval e X.env) (EP X pins σ Q) X.xe s
def PT (X : Cx) (e : Expr) (t : TT) : Prop :=
  ∀ (pins : List (Addr × Obj)) (s : Shared) (σ : St) (H : Hp) (Q : Bool → Hp → Prop), Inv X pins σ H s → t σ H Q → wpAny (model X.prog X.w) X.A (isTrue e X.env (eval e X.env)) (TP X pins σ Q) X.xe s
def PW (X : Cx) (e : Expr) (t : TT) : Prop :=
  ∀ (whole : Sem Value) (pins : List (Addr × Obj)) (s : Shared) (σ : St) (H : Hp) (Q : Bool → Hp → Prop), Inv X pins σ H s → t σ H Q → wpAny (model X.prog X.w) X.A (isTrue e X.env whole) (TP X pins σ Q) X.xe s
theorem PW.pt {X : Cx} {e : Expr} {t : TT} (h : PW X e t) : PT X e t := h _
def PA (X : Cx) (es : List Expr) (t : TA) : Prop :=
  ∀ (pos : Pos) (pins : List (Addr × Obj)) (s : Shared) (σ : St) (H : Hp) (Q : List V → Hp → Prop), Inv X pins σ H s → t σ H Q → wpAny (model X.prog X.w) X.A (spliced (backTo pos (starEach es X.env))) (AP X pins σ Q) X.xe s
def PS (X : Cx) (st : Stmt) (t : TS) : Prop :=
  ∀ (pins : List (Addr × Obj)) (s : Shared) (σ : St) (H : Hp) (D : Ends), Inv X pins σ H s → t D σ H → wpAny (model X.prog X.w) X.A (exec st X.env) (SP X pins D) X.xe s
def PSs (X : Cx) (st : List Stmt) (t : TS) : Prop :=
  ∀ (pins : List (Addr × Obj)) (s : Shared) (σ : St) (H : Hp) (D : Ends), Inv X pins σ H s → t D σ H → wpAny (model X.prog X.w) X.A (execs st X.env) (SP X pins D) X.xe s
theorem thn {α : Type} {t : Sem α} {Q Q' : α → Shared → Prop} {M : Model} {A : Around} {E : Value → Shared → Prop} {s : Shared} (h : wpAny M A t Q E s) (hQ : ∀ a s, Q a s → Q' a s) : wpAny M A t Q' E s := wpAny_mono h hQ fun _ _ x => x
end L2
namespace L2
open PySem PySem.Spec PyProof.Rows
section
variable {X : Cx}
def tVar (i : Nat) : TE := fun σ H Q => ∃ v, σ[i]? = some (some v) ∧ Q v H
def tC (v : V) : TE := fun _ H Q => Q v H
theorem pe_var {i : Nat} {x : Str} {pos : Pos} (hN : X.N[i]? = some x) (hv : Vis X.env.scope x) (hd : (x == ("__debug__" : Str)) = false := by decide) (hcd : (x == ("__classdict__" : Str)) = false := by decide) : PE X (.Name x pos) (tVar i) := by
  intro pins s σ H Q I h
  obtain ⟨v, e, h⟩ := h
  obtain ⟨m, hn, hl⟩ := I.loc
  obtain ⟨u, r, l⟩ := hl i x v hN e hv
  have fin : EP X pins σ Q u s := ⟨v, H, I, r, h⟩
  rcases l with ⟨hk, hm⟩ | ⟨hk, c, hc, hcell⟩
  · exact wpAny_Name (wpAny_loadName_local I.ok.kind hk hn hm fin) hd
  · rcases hk with hk | hk
    · exact wpAny_Name (wpAny_loadName_cell I.ok.kind hk hc hcell fin) hd
    · exact wpAny_Name (wpAny_loadName_free I.ok.kind hk hc hcell fin hcd) hd
theorem pe_int {i j pos} : PE X (.Constant (.int i) j pos) (tC (.int i)) := fun _ _ _ H _ I h => wpAny_Constant_int ⟨.int i, H, I.tok _, ⟨_, rfl⟩, h⟩
theorem pe_bl {b j pos} : PE X (.Constant (.bool b) j pos) (tC (.bl b)) := fun _ _ _ H _ I h => Constant_bool ⟨.bl b, H, I, rfl, h⟩
theorem pe_non {j pos} : PE X (.Constant .none j pos) (tC .non) := fun _ _ _ H _ I h => Constant_none ⟨.non, H, I, rfl, h⟩
def Gl (X : Cx) (x : Str) : Prop := X.env.kindOf x = some .globalImplicit
theorem ld_glob {E : Value → Shared → Prop} {pins : List (Addr × Obj)} {s : Shared} {σ : St} {H : Hp} {x : Str} {u : Value} {pos : Pos} {Q : Value → Shared → Prop} (I : Inv X pins σ H s) (hg : Gl X x) (hm : X.mg x = some u) (h : Q u s)
    (hd : (x == ("__debug__" : Str)) = false := by decide) : wpAny (model X.prog X.w) X.A (eval (.Name x pos) X.env) Q E s :=
  Calls.Name_function_global I.ok.kind hg (Calls.loadGlobal_global (by rw [I.ok.glob]; exact I.mod.glob.keeps I.bk) hm h) hd
theorem ld_blt {E : Value → Shared → Prop} {pins : List (Addr × Obj)} {s : Shared} {σ : St} {H : Hp} {x : Str} {u : Value} {pos : Pos} {Q : Value → Shared → Prop} (I : Inv X pins σ H s) (hg : Gl X x) (hm : X.mg x = none) (hv : bootBuiltins x = some u) (h : Q u s)
    (hn : x ≠ "__name__" := by decide) (hd : (x == ("__debug__" : Str)) = false := by decide) : wpAny (model X.prog X.w) X.A (eval (.Name x pos) X.env) Q E s := by
  obtain ⟨mb, h1, h2⟩ := I.mod.blt
  exact Calls.Name_function_global I.ok.kind hg (Calls.loadGlobal_builtin (by rw [I.ok.glob]; exact I.mod.glob.keeps I.bk) hm (by rw [I.ok.blt]; exact h1.keeps I.bk) ((h2 x hn).trans hv) h) hd
theorem pe_glob {x : Str} {v : V} {u : Value} {pos : Pos} (hg : Gl X x) (hm : X.mg x = some u) (r : RelV v u) (hd : (x == ("__debug__" : Str)) = false := by decide) : PE X (.Name x pos) (tC v) :=
  fun _ _ _ H _ I h => ld_glob I hg hm ⟨v, H, I, r, h⟩ hd
variable {a b : Expr} {ta tb : TE} {pos : Pos}
def PC (X : Cx) (op : CmpOp) (a b : Expr) (t : TE) : Prop :=
  ∀ (pins : List (Addr × Obj)) (s : Shared) (σ : St) (H : Hp) (Q : VK), Inv X pins σ H s → t σ H Q →
    wpAny (model X.prog X.w) X.A (eval a X.env) (fun v s₁ => wpAny (model X.prog X.w) X.A (eval b X.env) (fun u s₂ => wpAny (model X.prog X.w) X.A (compareOp op v u) (EP X pins σ Q) X.xe s₂) X.xe s₁) X.xe s
theorem nobehind (b : Expr) {op : CmpOp} (h : op ≠ .In) (h2 : op ≠ .NotIn) : behindInMarks op b = false := by
  have e1 : (op == CmpOp.In) = false := by cases op <;> first | rfl | exact absurd rfl h
  have e2 : (op == CmpOp.NotIn) = false := by cases op <;> first | rfl | exact absurd rfl h2
  cases b <;> simp [behindInMarks, e1, e2]
def tIsN (ta : TE) : TE := fun σ H Q => ta σ H fun x H1 => Q (.bl (decide (x = .non))) H1
theorem RelV.none_iff {x : V} {v : Value} (r : RelV x v) : (v == Value.none) = decide (x = .non) := by
  cases x with
  | non => cases r; rfl
  | bl _ => cases r; rfl
  | int _ => obtain ⟨t, rfl⟩ := r; rfl
  | str _ => obtain ⟨t, rfl⟩ := r; rfl
  | byt _ => obtain ⟨t, rfl⟩ := r; rfl
  | flt _ => obtain ⟨t, rfl⟩ := r; rfl
  | ref _ => cases r; rfl
  | ty _ => cases r; rfl
theorem pc_isN {j pos'} (ha : PE X a ta) : PC X .Is a (.Constant .none j pos') (tIsN ta) := by
  intro pins s σ H Q I h
  refine thn (ha pins s σ H _ I h) fun v s1 ⟨x, H1, I1, r1, q1⟩ => ?_
  exact Constant_none (is_none_gen ⟨.bl _, H1, I1, by rw [r1.none_iff]; rfl, q1⟩)
def tB (t : TE) : TT := fun σ H Q => t σ H fun x H1 => ∃ c, x = .bl c ∧ Q c H1
theorem pt_cmp {op : CmpOp} {t : TE} (h : PC X op a b t) (h1 : behindInMarks op b = false := by first | exact nobehind _ (by decide) (by decide) | rfl) : PT X (.Compare a [op] [b] pos) (tB t) := by
  intro pins s σ H Q I hw
  refine wpAny_isTrue_Compare1 (thn (h pins s σ H _ I hw) fun v s1 h1 => thn h1 fun u s2 h2 => thn h2 fun c s3 ⟨x, H1, I1, r1, q1⟩ => ?_) h1
  obtain ⟨d, rfl, q⟩ := q1
  cases r1
  exact wpAny_truthy_bool ⟨H1, I1, q⟩
theorem pt_val {e : Expr} {t : TE} (h : PE X e t) (he : ∀ whole, isTrue e X.env whole = (do let v ← whole; standAt e.pos; holding [v] (truthy v)) := by intro _; rfl) : PT X e (tB t) := by
  intro pins s σ H Q I hw
  refine isTrue_plain (thn (h pins s σ H _ I hw) fun v s1 ⟨x, H1, I1, r1, q1⟩ => ?_) (he _)
  obtain ⟨d, rfl, q⟩ := q1
  cases r1
  exact wpAny_truthy_bool ⟨H1, I1, q⟩
variable {tA tB' : TT} {rest : List Expr}
def tAnd (t u : TT) : TT := fun σ H Q => t σ H fun c H1 => if c = true then u σ H1 Q else Q false H1
def tOr (t u : TT) : TT := fun σ H Q => t σ H fun c H1 => if c = true then Q true H1 else u σ H1 Q
def tNot (t : TT) : TT := fun σ H Q => t σ H fun c H1 => Q (!c) H1
theorem pw_and1 (ha : PT X a tA) : PW X (.BoolOp .And [a] pos) tA := by
  intro wh pins s σ H Q I h
  refine isTrue_and (thn (ha pins s σ H Q I h) fun c s1 e => ?_)
  cases c with
  | true => exact isTrue_and_nil e
  | false => exact e
theorem pw_or1 (ha : PT X a tA) : PW X (.BoolOp .Or [a] pos) tA := by
  intro wh pins s σ H Q I h
  refine isTrue_or (thn (ha pins s σ H Q I h) fun c s1 e => ?_)
  cases c with
  | false => exact isTrue_or_nil e
  | true => exact e
theorem pw_and (ha : PT X a tA) (hb : PW X (.BoolOp .And (b :: rest) pos) tB') : PW X (.BoolOp .And (a :: b :: rest) pos) (tAnd tA tB') := by
  intro wh pins s σ H Q I h
  refine isTrue_and (thn (ha pins s σ H _ I h) fun c s1 ⟨H1, I1, q1⟩ => ?_)
  cases c with
  | true => exact hb wh pins s1 σ H1 Q I1 q1
  | false => exact ⟨H1, I1, q1⟩
theorem pw_or (ha : PT X a tA) (hb : PW X (.BoolOp .Or (b :: rest) pos) tB') : PW X (.BoolOp .Or (a :: b :: rest) pos) (tOr tA tB') := by
  intro wh pins s σ H Q I h
  refine isTrue_or (thn (ha pins s σ H _ I h) fun c s1 ⟨H1, I1, q1⟩ => ?_)
  cases c with
  | true => exact ⟨H1, I1, q1⟩
  | false => exact hb wh pins s1 σ H1 Q I1 q1
theorem pt_not (ha : PT X a tA) : PT X (.UnaryOp .Not a pos) (tNot tA) := by
  intro pins s σ H Q I h
  exact isTrue_not (ha pins s σ H (fun c H1 => Q (!c) H1) I h)
def tAndV (ta tb : TE) : TE := fun σ H Q => ta σ H fun x H1 => ∃ c, x = .bl c ∧ if c = true then tb σ H1 Q else Q (.bl false) H1
theorem pe_one {op} {t : TE} (h : PE X a t) : PE X (.BoolOp op [a] pos) t := fun pins s σ H Q I hw => BoolOp_one (h pins s σ H Q I hw)
theorem pe_and (ha : PE X a ta) (hb : PE X (.BoolOp .And (b :: rest) pos) tb) : PE X (.BoolOp .And (a :: b :: rest) pos) (tAndV ta tb) := by
  intro pins s σ H Q I h
  refine BoolOp_and (thn (ha pins s σ H _ I h) fun v s1 ⟨x, H1, I1, r1, q1⟩ => ?_)
  obtain ⟨c, rfl, q1⟩ := q1
  cases r1
  refine wpAny_truthy_bool ?_
  cases c with
  | true => exact hb pins s1 σ H1 Q I1 q1
  | false => exact ⟨.bl false, H1, I1, rfl, q1⟩
end
end L2
namespace L2
open PySem PySem.Spec PyProof.Rows
def SqL (K : PySem.W.Frag) (H : Hp) (a : Addr) (xs : List V) : Prop :=
  Rd H a (.lst xs) ∨
    ∃ (o : Obj) (its : Array Value) (n : Nat), K.lookup a = some o ∧ o.cls = .type "list" ∧ o.dict = none ∧ o.data = .seq its n ∧ its.size ≤ sizeLine ∧ Vals xs its.toList
def SqT (K : PySem.W.Frag) (H : Hp) (a : Addr) (xs : List V) : Prop :=
  Rd H a (.tup xs) ∨
    ∃ (o : Obj) (its : Array Value) (n : Nat), K.lookup a = some o ∧ o.cls = .type "tuple" ∧ o.data = .seq its n ∧ its.size ≤ sizeLine ∧ Vals xs its.toList
def absV : Value → Option V
  | .none => some .non
  | .bool b => some (.bl b)
  | .int i _ => some (.int i)
  | .str x _ => some (.str x)
  | .bytes b _ => some (.byt b)
  | .float b _ => some (.flt b)
  | .ref a => some (.ref a)
  | .type n => some (.ty n)
  | _ => none
theorem RelV.abs {x : V} {u : Value} (r : RelV x u) : absV u = some x := by
  cases x with
  | non => cases r; rfl
  | bl _ => cases r; rfl
  | int _ => obtain ⟨t, rfl⟩ := r; rfl
  | str _ => obtain ⟨t, rfl⟩ := r; rfl
  | byt _ => obtain ⟨t, rfl⟩ := r; rfl
  | flt _ => obtain ⟨t, rfl⟩ := r; rfl
  | ref _ => cases r; rfl
  | ty _ => cases r; rfl
theorem RelV.inj {x y : V} {u : Value} (r : RelV x u) (q : RelV y u) : x = y := Option.some.inj (r.abs.symm.trans q.abs)
theorem Vals.inj : ∀ {xs ys : List V} {us : List Value}, Vals xs us → Vals ys us → xs = ys
  | _, _, _, .nil, .nil => rfl
  | _, _, _, .cons r t, .cons r' t' => by rw [r.inj r', Vals.inj t t']
section
variable {X : Cx} {pins : List (Addr × Obj)} {σ : St} {H : Hp} {s : Shared} {a : Addr} {xs ys : List V}
theorem SqL.of {K : PySem.W.Frag} (h : H a = some (.lst xs)) : SqL K H a xs := .inl (.inl h)
theorem SqT.of {K : PySem.W.Frag} (h : H a = some (.tup xs)) : SqT K H a xs := .inl (.inl h)
theorem Inv.list (I : Inv X pins σ H s) (h : SqL X.K H a xs) : ∃ its : List Value, Vals xs its ∧ PlainL s.heap a its.toArray ∧ xs.length ≤ sizeLine := by
  rcases h with h | ⟨o, its, n, hk, hc, hd, hs, hz, r⟩
  · obtain ⟨z, its, n, r, e⟩ := h.ok I.hok
    exact ⟨its, r, ⟨_, n, e, rfl, rfl, rfl⟩, z⟩
  · refine ⟨its.toList, r, ⟨o, n, I.kIn a o hk, hc, hd, by simpa using hs⟩, ?_⟩
    have e := r.length
    simp only [Array.length_toList] at e
    omega
theorem Inv.tuple (I : Inv X pins σ H s) (h : SqT X.K H a xs) : ∃ its : List Value, Vals xs its ∧ IsTup s.heap a its.toArray ∧ xs.length ≤ sizeLine := by
  rcases h with h | ⟨o, its, n, hk, hc, hs, hz, r⟩
  · obtain ⟨z, its, r, p⟩ := h.ok I.hok
    exact ⟨its, r, p, z⟩
  · refine ⟨its.toList, r, ⟨o, I.kIn a o hk, hc, n, by simpa using hs⟩, ?_⟩
    have e := r.length
    simp only [Array.length_toList] at e
    omega
theorem Inv.list_inj (I : Inv X pins σ H s) (h : SqL X.K H a xs) (h' : SqL X.K H a ys) : xs = ys := by
  obtain ⟨its, r, ⟨o, n, e, _, _, d⟩, _⟩ := I.list h
  obtain ⟨its', r', ⟨o', n', e', _, _, d'⟩, _⟩ := I.list h'
  rw [e] at e'; cases e'
  rw [d] at d'
  injection d' with d1 _
  have : its = its' := by simpa using congrArg Array.toList d1
  subst this
  exact r.inj r'
end
abbrev Cx.wish (X : Cx) (E : Value → Shared → Prop) : Cx := { X with xe := E }
abbrev Cx.nox (X : Cx) : Cx := X.wish fun _ _ => False
theorem Cx.Ok.wish {X : Cx} (ok : X.Ok) (E : Value → Shared → Prop) : (X.wish E).Ok :=
  ⟨ok.mod, ok.kind, ok.glob, ok.blt, ok.above, ok.inj, ok.has, ok.cab, ok.hd, ok.frames, ok.stk, ok.exf, ok.bs, ok.bsz, ok.noex, ok.exfs, ok.funs, ok.frf⟩
theorem Cx.Ok.unwish {X : Cx} {E : Value → Shared → Prop} (ok : (X.wish E).Ok) : X.Ok :=
  ⟨ok.mod, ok.kind, ok.glob, ok.blt, ok.above, ok.inj, ok.has, ok.cab, ok.hd, ok.frames, ok.stk, ok.exf, ok.bs, ok.bsz, ok.noex, ok.exfs, ok.funs, ok.frf⟩
section
variable {X : Cx} {pins : List (Addr × Obj)} {σ : St} {H : Hp} {s : Shared} {E : Value → Shared → Prop}
theorem Inv.wish (I : Inv X pins σ H s) (E : Value → Shared → Prop) : Inv (X.wish E) pins σ H s := ⟨I.ok.wish E, I.os, I.bare, I.base, I.loc, I.cell, I.free, I.freeC, I.pin, I.hok, I.len⟩
theorem Inv.unwish (I : Inv (X.wish E) pins σ H s) : Inv X pins σ H s := ⟨I.ok.unwish, I.os, I.bare, I.base, I.loc, I.cell, I.free, I.freeC, I.pin, I.hok, I.len⟩
theorem SP.unwish {D : Ends} {f : Flow} {s' : Shared} (h : SP (X.wish E) pins D f s') : SP X pins D f s' := by
  cases f with
  | next => obtain ⟨σ', H', I, q⟩ := h; exact ⟨σ', H', I.unwish, q⟩
  | brk => obtain ⟨σ', H', I, q⟩ := h; exact ⟨σ', H', I.unwish, q⟩
  | cont => obtain ⟨σ', H', I, q⟩ := h; exact ⟨σ', H', I.unwish, q⟩
  | ret u => obtain ⟨v, σ', H', I, r, q⟩ := h; exact ⟨v, σ', H', I.unwish, r, q⟩
theorem PE.nox {e : Expr} {t : TE} (h : PE X.nox e t) : PE X e t := fun pins s σ H Q I hw =>
  wpAny_mono (h pins s σ H Q (I.wish _) hw) (fun _ _ ⟨v, H', I', r, q⟩ => ⟨v, H', I'.unwish, r, q⟩) fun _ _ z => False.elim z
theorem PT.nox {e : Expr} {t : TT} (h : PT X.nox e t) : PT X e t := fun pins s σ H Q I hw =>
  wpAny_mono (h pins s σ H Q (I.wish _) hw) (fun _ _ ⟨H', I', q⟩ => ⟨H', I'.unwish, q⟩) fun _ _ z => False.elim z
theorem PSs.nox {st : List Stmt} {t : TS} (h : PSs X.nox st t) : PSs X st t := fun pins s σ H D I hw =>
  wpAny_mono (h pins s σ H D (I.wish _) hw) (fun _ _ q => q.unwish) fun _ _ z => False.elim z
end
section
variable {X : Cx} {st : Stmt} {rest : List Stmt} {t u : TS} {e : Expr} {te : TE} {pos : Pos}
def tNext : TS := fun D σ H => D.nx σ H
def tSeq (t u : TS) : TS := fun D σ H => t { D with nx := u D } σ H
theorem pss_nil : PSs X [] tNext := fun _ _ σ H _ I h => wpAny_execs_nil ⟨σ, H, I, h⟩
theorem pss_cons (h1 : PS X st t) (h2 : PSs X rest u) : PSs X (st :: rest) (tSeq t u) := by
  intro pins s σ H D I h
  refine wpAny_execs_cons (thn (h1 pins s σ H { D with nx := u D } I h) fun f s1 q => ?_)
  cases f with
  | next =>
    obtain ⟨σ', H', I', q⟩ := q
    exact h2 pins s1 σ' H' D I' q
  | ret v => exact q
  | brk => exact q
  | cont => exact q
theorem pss_one (h1 : PS X st t) : PSs X [st] t := by
  intro pins s σ H D I h
  refine wpAny_execs_cons (thn (h1 pins s σ H D I h) fun f s1 q => ?_)
  cases f with
  | next => exact wpAny_execs_nil q
  | ret v => exact q
  | brk => exact q
  | cont => exact q
theorem Inv.quiet {pins : List (Addr × Obj)} {σ : St} {H : Hp} {s : Shared} (I : Inv X pins σ H s) : interactive X.env = false := by simp [interactive, I.ok.kind]
def tDrop (te : TE) : TS := fun D σ H => te σ H fun _ H1 => D.nx σ H1
theorem ps_expr (he : PE X e te) (hs : swapsWith e none pos.line X.env = pure false := by rfl) : PS X (.Expr e pos) (tDrop te) := by
  intro pins s σ H D I h
  exact wpAny_Expr_any (thn (he pins s σ H _ I h) fun v s1 ⟨x, H1, I1, r1, q1⟩ => ⟨σ, H1, I1, q1⟩) I.quiet hs
def tRet (te : TE) : TS := fun D σ H => te σ H D.rt
theorem ps_ret (he : PE X e te) : PS X (.Return (some e) pos) (tRet te) := by
  intro pins s σ H D I h
  exact wpAny_Return_some (thn (he pins s σ H _ I h) fun v s1 ⟨x, H1, I1, r1, q1⟩ => ⟨x, σ, H1, I1, r1, q1⟩)
def tIfS (c : TT) (t u : TS) : TS := fun D σ H => c σ H fun b H1 => if b = true then t D σ H1 else u D σ H1
theorem ps_if {c : Expr} {a b : List Stmt} {tc : TT} (hc : PT X c tc) (ha : PSs X a t) (hb : PSs X b u) : PS X (.If c a b pos) (tIfS tc t u) := by
  intro pins s σ H D I h
  refine wpAny_If (thn (hc pins s σ H _ I h) fun d s1 ⟨H1, I1, q1⟩ => ?_)
  cases d with
  | true => exact ha pins s1 σ H1 D I1 q1
  | false => exact hb pins s1 σ H1 D I1 q1
end
abbrev TG := V → St → Hp → (St → Hp → Prop) → Prop
abbrev TGs := List V → St → Hp → (St → Hp → Prop) → Prop
def PG (X : Cx) (target : Expr) (t : TG) : Prop :=
  ∀ (pins : List (Addr × Obj)) (s : Shared) (σ : St) (H : Hp) (v : V) (u : Value) (Q : St → Hp → Prop), Inv X pins σ H s → RelV v u → t v σ H Q →
    wpAny (model X.prog X.w) X.A (assign target X.env u) (fun _ s' => ∃ σ' H', Inv X pins σ' H' s' ∧ Q σ' H') X.xe s
def PGs (X : Cx) (ts : List Expr) (t : TGs) : Prop :=
  ∀ (pins : List (Addr × Obj)) (s : Shared) (σ : St) (H : Hp) (vs : List V) (us : List Value) (Q : St → Hp → Prop), Inv X pins σ H s → Vals vs us → t vs σ H Q →
    wpAny (model X.prog X.w) X.A (assignInOrder ((assignEach ts X.env).map (·.2)) us) (fun _ s' => ∃ σ' H', Inv X pins σ' H' s' ∧ Q σ' H') X.xe s
abbrev TSet := V → V → V → Hp → (Hp → Prop) → Prop
def PSet (X : Cx) (t : TSet) : Prop :=
  ∀ (pins : List (Addr × Obj)) (s : Shared) (σ : St) (H : Hp) (o i v : V) (ov iv u : Value) (Q : Hp → Prop), Inv X pins σ H s → RelV o ov → RelV i iv → RelV v u → t o i v H Q →
    wpAny (model X.prog X.w) X.A (setItem ov iv u) (fun _ s' => ∃ H', Inv X pins σ H' s' ∧ Q H') X.xe s
section
variable {X : Cx} {pos : Pos}
def gName (i : Nat) : TG := fun v σ H Q => Q (σ.set i (some v)) H
theorem pg_name {i : Nat} {x : Str} (hN : X.N.Nodup) (hi : X.N[i]? = some x) (hx : Loc X.env.scope x) (hf : X.fn x = true ∨ X.env.scope.names.lookup x = some .local := by first | exact .inl rfl | exact .inr rfl | assumption) : PG X (.Name x pos) (gName i) := by
  intro pins s σ H v u Q I r h
  exact wpAny_assign_Name (store_ok I hN hi hx r (fun s' I' => ⟨_, H, I', h⟩) hf)
def gNil : TGs := fun vs σ H Q => vs = [] ∧ Q σ H
def gCons (t : TG) (u : TGs) : TGs := fun vs σ H Q => ∃ v r, vs = v :: r ∧ t v σ H fun σ' H' => u r σ' H' Q
theorem pgs_nil : PGs X [] gNil := by
  intro pins s σ H vs us Q I r h
  obtain ⟨e, h⟩ := h
  subst e
  cases r
  exact assignInOrder_nil ⟨σ, H, I, h⟩
theorem pgs_cons {e : Expr} {es : List Expr} {t : TG} {u : TGs} (h1 : PG X e t) (h2 : PGs X es u)
    (hs : (assignEach (e :: es) X.env).map (·.2) = assign e X.env :: (assignEach es X.env).map (·.2) := by rfl) : PGs X (e :: es) (gCons t u) := by
  intro pins s σ H vs us Q I r h
  obtain ⟨v, vr, e1, h⟩ := h
  subst e1
  cases r with
  | cons r rr =>
    rw [hs]
    refine assignInOrder_cons (thn (h1 pins s σ H _ _ _ I r h) fun _ s1 ⟨σ1, H1, I1, q1⟩ => ?_)
    exact h2 pins s1 σ1 H1 _ _ Q I1 rr q1
def gTup (K : PySem.W.Frag) (n : Nat) (t : TGs) : TG := fun v σ H Q => ∃ a xs, v = .ref a ∧ SqT K H a xs ∧ xs.length = n ∧ t xs σ H Q
theorem pg_tup {es : List Expr} {k : Nat} {t : TGs} {n : Nat} (hc : X.calm = true) (h : PGs X es t)
    (hn : (assignEach es X.env).length = n := by rfl) (hst : (assignEach es X.env).findIdx? (·.1) = none := by rfl) : PG X (.Tuple es k pos) (gTup X.K n t) := by
  intro pins s σ H v u Q I r hw
  obtain ⟨a, xs, e1, hq, hl, hw⟩ := hw
  subst e1
  cases r
  obtain ⟨its, rv, ht, hz⟩ := I.tuple hq
  refine assign_Tuple_tuple (I.ok.hd hc) ht (by simp [hn, ← hl, rv.length]) hst fun h' hx => ?_
  have I1 : Inv X pins σ H { s with heap := h' } := I.kept (t' := s.toks) fun b o e => hx b o (Nat.ne_of_lt (Heap.lt_size e)) e
  exact h pins _ σ H xs _ Q I1 (by simpa using rv) hw
def gSub (to ti : TE) (t : TSet) : TG := fun v σ H Q => to σ H fun o H1 => ti σ H1 fun i H2 => t o i v H2 fun H3 => Q σ H3
theorem pg_sub {o i : Expr} {to ti : TE} {t : TSet} (ho : PE X o to) (hi : PE X i ti) (hs : PSet X t)
    (ha : ∀ v, assign (.Subscript o i pos) X.env v = (do
      let ov ← holding [v] (eval o X.env)
      let iv ← holding [v, ov] (eval i X.env)
      standAt pos
      holding [v, ov, iv] (setItem ov iv v)
      release [v, ov, iv] []) := by intro _; rfl) : PG X (.Subscript o i pos) (gSub to ti t) := by
  intro pins s σ H v u Q I r h
  rw [ha]
  refine wpAny_bind (wpAny_holding (thn (ho pins s σ H _ I h) fun ov s1 ⟨x, H1, I1, r1, q1⟩ => ?_))
  refine wpAny_bind (wpAny_holding (thn (hi pins s1 σ H1 _ I1 q1) fun iv s2 ⟨y, H2, I2, r2, q2⟩ => ?_))
  refine wpAny_bind (wpAny_standAt (wpAny_bind (wpAny_holding (thn (hs pins s2 σ H2 x y v ov iv u _ I2 r1 r2 r q2) fun _ s3 ⟨H3, I3, q3⟩ => ?_))))
  exact wpAny_release ⟨σ, H3, I3, q3⟩
def tAsg (te : TE) (g : TG) : TS := fun D σ H => te σ H fun x H1 => g x σ H1 D.nx
theorem ps_asg {tg e : Expr} {te : TE} {g : TG} (he : PE X e te) (hg : PG X tg g) (hs : swapsWithSole [tg] e pos.line X.env = pure false := by rfl) (hw : swappedStores [tg] e X.env = pure none := by rfl)
    (h1 : (assignEach [tg] X.env).map (·.2) = [assign tg X.env] := by rfl) : PS X (.Assign [tg] e pos) (tAsg te g) := by
  intro pins s σ H D I h
  refine wpAny_Assign_stores (thn (he pins s σ H _ I h) fun v s1 ⟨x, H1, I1, r1, q1⟩ => ?_) hs hw
  rw [h1]
  exact thn (hg pins s1 σ H1 x v _ I1 r1 q1) fun _ s2 q => q
theorem ps_set {i : Nat} {x : Str} {e : Expr} {te : TE} {pos' : Pos} (hN : X.N.Nodup) (hi : X.N[i]? = some x) (hx : Loc X.env.scope x) (he : PE X e te) (hs : swapsWith e (some (.Name x pos')) pos.line X.env = pure false := by rfl) (hf : X.fn x = true ∨ X.env.scope.names.lookup x = some .local := by first | exact .inl rfl | exact .inr rfl | assumption) :
    PS X (.Assign [.Name x pos'] e pos) (tAsg te (gName i)) := by
  intro pins s σ H D I h
  refine wpAny_Assign_Name (thn (he pins s σ H _ I h) fun v s1 ⟨y, H1, I1, r1, q1⟩ => ?_) hs
  exact store_ok I1 hN hi hx r1 (fun s2 I2 => ⟨_, H1, I2, q1⟩) hf
end
section
variable {X : Cx} {pos : Pos}
def tWhile (c : TT) (tb : TS) : TS := fun D σ H => ∃ W : Nat → St → Hp → Prop, (∃ m, W m σ H) ∧ ∀ m σ H, W m σ H →
  c σ H fun b H1 => if b = true then ∃ N : St → Hp → Prop, (∀ σ' H', N σ' H' → ∃ m', m' < m ∧ W m' σ' H') ∧ tb { D with nx := N, ct := N, bk := D.nx } σ H1 else D.nx σ H1
theorem ps_while {c : Expr} {body : List Stmt} {tc : TT} {tb : TS} (hp : PassesOwn (model X.prog X.w) X.A X.env X.xe) (hc : PT X c tc) (hb : PSs X body tb) : PS X (.While c body [] pos) (tWhile tc tb) := by
  intro pins s σ H D I h
  obtain ⟨W, ⟨m0, w0⟩, turn⟩ := h
  refine wpAny_While (codeAny_whileLoop (fun n s' => ∃ σ' H', Inv X pins σ' H' s' ∧ W n σ' H') ?_ m0 ⟨σ, H, I, w0⟩)
  rintro n s1 ⟨σ1, H1, I1, w1⟩
  refine wpAny_passesOwn hp (thn (hc pins s1 σ1 H1 _ I1 (turn n σ1 H1 w1)) fun b s2 ⟨H2, I2, q2⟩ => ?_)
  cases b with
  | true =>
    obtain ⟨N, hN, q2⟩ := q2
    rw [if_pos rfl]
    refine wpAny_passesOwn hp (thn (hb pins s2 σ1 H2 _ I2 q2) fun f s3 q3 => ?_)
    cases f with
    | next =>
      obtain ⟨σ3, H3, I3, n3⟩ := q3
      obtain ⟨m', hm, w3⟩ := hN σ3 H3 n3
      exact ⟨m', hm, σ3, H3, I3, w3⟩
    | cont =>
      obtain ⟨σ3, H3, I3, n3⟩ := q3
      obtain ⟨m', hm, w3⟩ := hN σ3 H3 n3
      exact ⟨m', hm, σ3, H3, I3, w3⟩
    | brk => exact q3
    | ret v => exact q3
  | false =>
    rw [if_neg Bool.false_ne_true]
    exact wpAny_execs_nil ⟨σ1, H2, I2, q2⟩
end
structure It where
  go : Nat → Hp → Prop
  yld : Nat → Hp → V → Hp → Prop
  stop : Nat → Hp → Prop
def FpOk (X : Cx) (pins : List (Addr × Obj)) (H : Hp) (b : Addr) : Prop :=
  H b = none ∧ b ≠ X.env.locals ∧ b ∉ X.fs ∧ (b ∈ X.ex ∨ X.s_0.heap.objs.size ≤ b) ∧ (∀ x c, X.env.cells.lookup x = some c → c ≠ b) ∧ ∀ p ∈ X.pn ++ pins, p.1 ≠ b
theorem Inv.fpOk {X : Cx} {pins : List (Addr × Obj)} {σ : St} {H H' : Hp} {s : Shared} {b : Addr} (I : Inv X pins σ H s) (hb : s.heap.objs.size ≤ b) (hn : H' b = none) : FpOk X pins H' b := by
  refine ⟨hn, Nat.ne_of_gt (Nat.lt_of_lt_of_le I.lt hb), I.nofs hb, .inr (Nat.le_trans I.sz hb), fun x c e z => ?_, fun p hp z => ?_⟩
  · obtain ⟨v, q⟩ := I.cell x c e
    exact absurd (Nat.lt_of_lt_of_le q.lt (by rw [z]; exact hb)) (Nat.lt_irrefl _)
  · exact absurd (Nat.lt_of_lt_of_le (Heap.lt_size (I.pin p hp).1) (by rw [z]; exact hb)) (Nat.lt_irrefl _)
structure Turn (P : Program) (w : World) (K : PySem.W.Frag) (tg : Expr) (J : It) (fp : List Addr) (it : Addr) (tn : Nat → Heap → Prop) : Prop where
  mem : it ∈ fp
  obj : ∀ i h, tn i h → ∀ b ∈ fp, ∃ o, h.get? b = some o ∧ ∀ v, o.data ≠ .cell v
  keep : ∀ i h h', tn i h → (∀ b ∈ fp, ∀ o, h.get? b = some o → h'.get? b = some o) → tn i h'
  item : ∀ (X : Cx), X.prog = P → X.w = w → X.K = K → X.calm = true → ∀ (i : Nat) (pins : List (Addr × Obj)) (s : Shared) (σ : St) (H : Hp) (E : Value → Shared → Prop), Inv X pins σ H s → (∀ b ∈ fp, FpOk X pins H b) → tn i s.heap → J.go i H →
    wpAny (model P w) X.A (pyNext (.ref it)) (fun r s1 => ∃ u, r = some u ∧
      wpAny (model P w) X.A (letOwnedTupleGo tg (.ref it) u) (fun _ s2 => ∃ x H', Inv X pins σ H' s2 ∧ RelV x u ∧ J.yld i H x H' ∧ tn (i + 1) s2.heap ∧ ∀ b ∈ fp, H' b = none) E s1) E s
  done : ∀ (X : Cx), X.prog = P → X.w = w → X.K = K → X.calm = true → ∀ (i : Nat) (pins : List (Addr × Obj)) (s : Shared) (σ : St) (H : Hp) (E : Value → Shared → Prop), Inv X pins σ H s → (∀ b ∈ fp, FpOk X pins H b) → tn i s.heap → J.stop i H →
    wpAny (model P w) X.A (pyNext (.ref it)) (fun r s1 => r = none ∧ Inv X pins σ H s1) E s
  self : ∀ (A : Around) (i : Nat) (s : Shared) (Q : Value → Shared → Prop) (E : Value → Shared → Prop), tn i s.heap → Q (.ref it) s → wpAny (model P w) A (pyIter (.ref it)) Q E s
abbrev TI := St → Hp → (It → Hp → Prop) → Prop
def PIE (X : Cx) (pins : List (Addr × Obj)) (σ : St) (tg : Expr) (R : It → Hp → Prop) (itv : Value) (s2 : Shared) : Prop :=
  ∃ (it : Addr) (fp : List Addr) (tn : Nat → Heap → Prop) (J : It) (H' : Hp), itv = .ref it ∧ Inv X pins σ H' s2 ∧ Turn X.prog X.w X.K tg J fp it tn ∧ tn 0 s2.heap ∧ (∀ b ∈ fp, FpOk X pins H' b) ∧ R J H'
def PI (X : Cx) (tg iter : Expr) (wi : TI) : Prop :=
  ∀ (pins : List (Addr × Obj)) (s : Shared) (σ : St) (H : Hp) (R : It → Hp → Prop), Inv X pins σ H s → wi σ H R →
    wpAny (model X.prog X.w) X.A (eval iter X.env) (fun v s1 => wpAny (model X.prog X.w) X.A (pyIter v) (PIE X pins σ tg R) X.xe s1) X.xe s
theorem go_of {M : Model} {A : Around} {E : Value → Shared → Prop} {s : Shared} {tg : Expr} {it : Addr} {u : Value} {o : Obj} {n : String} {vs : Array Value} {Q : Unit → Shared → Prop} (ho : s.heap.get? it = some o) (hc : o.cls = .type n) (hd : o.data = .fields vs)
    (hn : ["enumerate", "zip", "dict_itemiterator", "dict_reverseitemiterator", "odict_iterator", "itertools.zip_longest", "itertools.pairwise"].contains n = false) (hQ : Q () s) : wpAny M A (letOwnedTupleGo tg (.ref it) u) Q E s := by
  unfold letOwnedTupleGo
  cases tg <;> first
    | exact wpAny_pure hQ
    | (cases u <;> first
        | exact wpAny_pure hQ
        | (refine wpAny_bind (wpAny_load ho ?_)
           rw [hc, hd]
           show wpAny M A (if (["enumerate", "zip", "dict_itemiterator", "dict_reverseitemiterator", "odict_iterator", "itertools.zip_longest", "itertools.pairwise"].contains n && vs[0]? == some (rawInt _)) = true then _ else _) Q E s
           rw [if_neg (by intro h; rw [hn, Bool.false_and] at h; cases h)]
           exact wpAny_pure hQ))
def Itl (K : PySem.W.Frag) (a : Addr) : It :=
  ⟨fun i H => ∃ xs x, SqL K H a xs ∧ xs[i]? = some x, fun i H x H' => H' = H ∧ ∀ xs, SqL K H a xs → xs[i]? = some x, fun i H => ∃ xs, SqL K H a xs ∧ xs.length ≤ i⟩
def Itr (lo : Int) (n : Nat) : It := ⟨fun i _ => i < n, fun i H x H' => H' = H ∧ x = .int (lo + i), fun i _ => n ≤ i⟩
theorem turn_list {P : Program} {w : World} {K : PySem.W.Frag} {tg : Expr} (a it : Addr) : Turn P w K tg (Itl K a) [it] it (fun i h => h.IsListIter it a i) where
  mem := by simp
  obj := fun i h st b hb => by
    have e : b = it := by simpa using hb
    subst e
    obtain ⟨o, e, c, d⟩ := st
    exact ⟨o, e, fun v z => by rw [d] at z; cases z⟩
  keep := fun i h h' st k => st.at fun o e => k it (by simp) o e
  item := by
    intro X hP hw hK hc i pins s σ H E I hf st hg
    subst hP hw hK
    obtain ⟨xs, x, hq, hx⟩ := hg
    obtain ⟨its, rv, p, hz⟩ := I.list hq
    obtain ⟨u, hu, ru⟩ := rv.get hx
    obtain ⟨f0, f1, f2, f3, f4, f5⟩ := hf it (by simp)
    refine wpAny_pyNext_list_item st p.isList (x := u) (by simpa using hu) fun h' st' sb => ?_
    have I1 : Inv X pins σ H { s with heap := h' } := I.turned (t' := s.toks) (fun b o hb e => (sb.2 b hb).trans e) f0 f1 f3 f4 f5
    obtain ⟨o, e, c, d⟩ := id st'
    exact ⟨u, rfl, go_of (s := { s with heap := h' }) e c d (by decide) ⟨x, H, I1, ru, ⟨rfl, fun ys hy => by rw [I.list_inj hy hq]; exact hx⟩, st', fun b hb => (hf b hb).1⟩⟩
  done := by
    intro X hP hw hK hc i pins s σ H E I hf st hg
    subst hP hw hK
    obtain ⟨xs, hq, hx⟩ := hg
    obtain ⟨its, rv, p, hz⟩ := I.list hq
    obtain ⟨f0, f1, f2, f3, f4, f5⟩ := hf it (by simp)
    have hl := rv.length
    exact wpAny_pyNext_list_end (I.ok.hd hc) st p.isList (by simp; omega) fun h' eb => ⟨rfl, I.turned (t' := s.toks) (fun b o hb e => eb b o hb e) f0 f1 f3 f4 f5⟩
  self := fun _ _ _ _ _ st h => wpAny_pyIter_listiter st h
theorem turn_range {P : Program} {w : World} {K : PySem.W.Frag} {tg : Expr} (it : Addr) (lo : Int) (n : Nat) : Turn P w K tg (Itr lo n) [it] it (fun i h => IsRangeIter h it (lo + (i : Nat) * 1) ((n : Int) - (i : Nat)) 1) where
  mem := by simp
  obj := fun i h st b hb => by
    have e : b = it := by simpa using hb
    subst e
    exact ⟨_, st, fun v z => by
      have z' : Data.fields _ = Data.cell v := z
      cases z'⟩
  keep := fun i h h' st k => k it (by simp) _ st
  item := by
    intro X hP hw hK hc i pins s σ H E I hf st hg
    subst hP hw hK
    obtain ⟨f0, f1, f2, f3, f4, f5⟩ := hf it (by simp)
    have W := Walks.range (prog := X.prog) (w := X.w) (I.ok.hd hc) it lo 1 n
    refine W.item i s _ _ hg st fun v h' tk hv st' kk => ?_
    obtain ⟨t, rfl⟩ := hv
    have I1 : Inv X pins σ H { s with heap := h', toks := tk } := I.turned (fun b o hb e => kk b o (by simpa using hb) e) f0 f1 f3 f4 f5
    refine ⟨_, rfl, go_of (s := { s with heap := h', toks := tk }) (n := "range_iterator") st' rfl rfl (by decide) ⟨.int (lo + i), H, I1, ⟨t, ?_⟩, ⟨rfl, rfl⟩, st', fun b hb => (hf b hb).1⟩⟩
    rw [Int.mul_one]
  done := by
    intro X hP hw hK hc i pins s σ H E I hf st hg
    subst hP hw hK
    obtain ⟨f0, f1, f2, f3, f4, f5⟩ := hf it (by simp)
    exact wpAny_pyNext_range_end (I.ok.hd hc) st (by have : n ≤ i := hg; omega) fun h' eb => ⟨rfl, I.turned (t' := s.toks) (fun b o hb e => eb b o hb e) f0 f1 f3 f4 f5⟩
  self := fun _ _ _ _ _ st h => wpAny_pyIter_rangeiter st h
end L2
namespace L2
open PySem PySem.Spec PyProof.Rows
section
variable {X : Cx} {tg : Expr}
def iList (K : PySem.W.Frag) (tl : TE) : TI := fun σ H R => tl σ H fun x H1 => ∃ a, x = .ref a ∧ (∃ xs, SqL K H1 a xs) ∧ R (Itl K a) H1
theorem pi_list {l : Expr} {tl : TE} (hl : PE X l tl) : PI X tg l (iList X.K tl) := by
  intro pins s σ H R I h
  refine thn (hl pins s σ H _ I h) fun v s1 ⟨x, H1, I1, r1, q1⟩ => ?_
  obtain ⟨a, e, ⟨xs, hq⟩, q⟩ := q1
  subst e
  cases r1
  obtain ⟨its, rv, p, hz⟩ := I1.list hq
  refine wpAny_pyIter_list p.isList ?_
  refine ⟨s1.heap.objs.size, [s1.heap.objs.size], _, _, H1, rfl, I1.kept (t' := s1.toks) fun b o e => Heap.get?_push_of_some _ e, turn_list a _, ⟨_, Heap.get?_push_size _ rfl, rfl, rfl⟩, fun b hb => ?_, q⟩
  have e : b = s1.heap.objs.size := by simpa using hb
  subst e
  exact I1.fpOk (Nat.le_refl _) (I1.hok.fresh (Nat.le_refl _))
theorem range_it {pins : List (Addr × Obj)} {σ : St} {H : Hp} {s : Shared} {R : It → Hp → Prop} {E : Value → Shared → Prop} {lo hi : Int} {t u v : Tok} {tk : Nat} (I : Inv X pins σ H s) (h1 : -(2 ^ 62) ≤ lo) (h2 : lo < 2 ^ 62) (h3 : -(2 ^ 62) ≤ hi) (h4 : hi < 2 ^ 62)
    (q : R (Itr lo (hi - lo).toNat) H) : wpAny (model X.prog X.w) X.A (pyIter (.ref s.heap.objs.size)) (PIE X pins σ tg R) E { s with heap := s.heap.push { cls := .type "range", data := .fields #[.int lo t, .int hi u, .int 1 v] }, toks := tk } := by
  refine wpAny_pyIter_range (IsRange.new ..) (small_one h1 h2 h3 h4) ?_
  have I1 : Inv X pins σ H { s with heap := s.heap.push { cls := .type "range", data := .fields #[.int lo t, .int hi u, .int 1 v] }, toks := tk } := I.kept fun b o e => Heap.get?_push_of_some _ e
  refine ⟨(s.heap.push { cls := .type "range", data := .fields #[.int lo t, .int hi u, .int 1 v] }).objs.size, [(s.heap.push { cls := .type "range", data := .fields #[.int lo t, .int hi u, .int 1 v] }).objs.size], _, _, H, rfl,
    I1.kept (t' := tk) fun b o e => Heap.get?_push_of_some _ e, turn_range _ lo (hi - lo).toNat, ?_, fun b hb => ?_, q⟩
  · have e1 : lo + ((0 : Nat) : Int) * 1 = lo := by simp
    have e2 : (((hi - lo).toNat : Nat) : Int) - ((0 : Nat) : Int) = Builtin.Range.rangeSize lo hi 1 := by rw [rangeSize_one]; split <;> omega
    show IsRangeIter _ _ (lo + ((0 : Nat) : Int) * 1) ((((hi - lo).toNat : Nat) : Int) - ((0 : Nat) : Int)) 1
    rw [e1, e2]
    exact Heap.get?_push_size _ rfl
  · have e : b = (s.heap.push { cls := .type "range", data := .fields #[.int lo t, .int hi u, .int 1 v] }).objs.size := by simpa using hb
    subst e
    exact I1.fpOk (Nat.le_refl _) (I1.hok.fresh (Nat.le_refl _))
def iRng1 (ta : TA) : TI := fun σ H R => ta σ H fun vs H1 => ∃ j : Int, vs = [.int j] ∧ -(2 ^ 62) ≤ j ∧ j < 2 ^ 62 ∧ R (Itr 0 j.toNat) H1
theorem pi_range1 {a : Expr} {ta : TA} {p pos : Pos} (hg : Gl X "range") (hm : X.mg "range" = none) (ha : PA X [a] ta) (hs : starEach [a] X.env = [(false, eval a X.env)] := by rfl) : PI X tg (.Call (.Name "range" p) [a] [] pos) (iRng1 ta) := by
  intro pins s σ H R I h
  refine Call_ (ld_blt I hg hm boot_range (PyProof.Rows.callWith_type1 (thn (ha pos pins s σ H _ I h) fun us s1 ⟨vs, H1, I1, r1, q1⟩ => ?_) hs rfl))
  obtain ⟨j, e, q1, q2, q⟩ := q1
  subst e
  cases r1 with
  | cons r rr =>
    cases rr
    obtain ⟨t, rfl⟩ := r
    exact call_range_1 (range_it I1 (by omega) (by omega) q1 q2 (by simpa using q))
def tFor (wi : TI) (g : TG) (tb : TS) : TS := fun D σ H => wi σ H fun J H1 => ∃ W : Nat → Nat → St → Hp → Prop, (∃ m, W 0 m σ H1) ∧ ∀ i m σ H, W i m σ H →
  (J.stop i H ∧ D.nx σ H) ∨ (J.go i H ∧ ∃ N : St → Hp → Prop, (∀ σ' H', N σ' H' → ∃ m', m' < m ∧ W (i + 1) m' σ' H') ∧ ∀ x H', J.yld i H x H' → g x σ H' fun σ2 H2 => tb { D with nx := N, ct := N, bk := D.nx } σ2 H2)
def pinsAt (fp : List Addr) (h : Heap) : List (Addr × Obj) := fp.filterMap fun b => (h.get? b).map fun o => (b, o)
theorem mem_pinsAt {fp : List Addr} {h : Heap} {b : Addr} {o : Obj} (hb : b ∈ fp) (e : h.get? b = some o) : (b, o) ∈ pinsAt fp h := List.mem_filterMap.mpr ⟨b, hb, by rw [e]; rfl⟩
theorem of_pinsAt {fp : List Addr} {h : Heap} {p : Addr × Obj} (hp : p ∈ pinsAt fp h) : p.1 ∈ fp ∧ h.get? p.1 = some p.2 := by
  obtain ⟨b, hb, e⟩ := List.mem_filterMap.mp hp
  cases q : h.get? b with
  | none => rw [q] at e; cases e
  | some o =>
    rw [q] at e
    have e' : (b, o) = p := Option.some.inj e
    subst e'
    exact ⟨hb, q⟩
theorem Inv.pinned {pins : List (Addr × Obj)} {σ : St} {H : Hp} {s : Shared} {fp : List Addr} (I : Inv X pins σ H s) (hf : ∀ b ∈ fp, FpOk X pins H b) (ho : ∀ b ∈ fp, ∃ o, s.heap.get? b = some o ∧ ∀ v, o.data ≠ .cell v) : Inv X (pins ++ pinsAt fp s.heap) σ H s :=
  I.pins_of fun p hp => (List.mem_append.mp hp).elim (fun z => I.pin p (List.mem_append_right _ z)) fun z => by
    obtain ⟨hb, e⟩ := of_pinsAt z
    obtain ⟨f0, f1, f2, _⟩ := hf p.1 hb
    obtain ⟨o, e', d⟩ := ho p.1 hb
    rw [e] at e'; cases e'
    exact ⟨e, f0, f1, f2, d⟩
theorem Inv.unpinned {pins pl : List (Addr × Obj)} {σ : St} {H : Hp} {s : Shared} (I : Inv X (pins ++ pl) σ H s) : Inv X pins σ H s := I.pins_of fun p hp => I.pin p (List.mem_append_right _ (List.mem_append_left _ hp))
theorem ps_for {iter : Expr} {body : List Stmt} {wi : TI} {g : TG} {tb : TS} {pos : Pos} (hp : PassesOwn (model X.prog X.w) X.A X.env X.xe) (hc : X.calm = true) (hi : PI X tg iter wi) (hg : PG X tg g) (hb : PSs X body tb)
    (hs : ∀ x, foldedSetIterable iter X.env x = pure x := by intro _; rfl) : PS X (.For tg iter body [] pos) (tFor wi g tb) := by
  intro pins s σ H D I h
  refine wpAny_For (thn (hi pins s σ H _ I h) fun v s1 h1 => thn h1 fun itv s2 h2 => ?_) hs
  obtain ⟨it, fp, tn, J, H2, e, I2, T, st2, f2, W, ⟨m0, w0⟩, turn⟩ := h2
  subst e
  -- what stays true of the iterator's objects through the loop
  have stat : ∀ {H' : Hp}, (∀ b ∈ fp, H' b = none) → ∀ b ∈ fp, FpOk X pins H' b := fun hn b hb => ⟨hn b hb, (f2 b hb).2⟩
  refine codeAny_forLoop_any (fun n s' => ∃ i σ' H', Inv X pins σ' H' s' ∧ tn i s'.heap ∧ (∀ b ∈ fp, H' b = none) ∧ W i n σ' H') ?_ m0 ⟨0, σ, H2, I2, st2, fun b hb => (f2 b hb).1, w0⟩
  rintro n s3 ⟨i, σ3, H3, I3, st3, fr3, w3⟩
  rcases turn i n σ3 H3 w3 with ⟨stop, qn⟩ | ⟨go, N, hN, step⟩
  · refine wpAny_passesOwn hp (thn (T.done X rfl rfl rfl hc i pins s3 σ3 H3 X.xe I3 (stat fr3) st3 stop) fun r s4 ⟨hr, I4⟩ => ?_)
    subst hr
    exact wpAny_execs_nil ⟨σ3, H3, I4, qn⟩
  · refine wpAny_passesOwn hp (thn (T.item X rfl rfl rfl hc i pins s3 σ3 H3 X.xe I3 (stat fr3) st3 go) fun r s4 ⟨u, hr, h4⟩ => ?_)
    subst hr
    refine wpAny_passesOwn hp (thn h4 fun _ s5 ⟨x, H5, I5, r5, y5, st5, fr5⟩ => ?_)
    have I5' := I5.pinned (stat fr5) (T.obj _ _ st5)
    refine wpAny_passesOwn hp (thn (hg _ s5 σ3 H5 x u _ I5' r5 (step x H5 y5)) fun _ s6 ⟨σ6, H6, I6, q6⟩ => ?_)
    refine wpAny_passesOwn hp (thn (hb _ s6 σ6 H6 _ I6 q6) fun f s7 q7 => ?_)
    have again : ∀ {σ7 : St} {H7 : Hp}, Inv X (pins ++ pinsAt fp s5.heap) σ7 H7 s7 → N σ7 H7 → ∃ m, m < n ∧ ∃ i σ' H', Inv X pins σ' H' s7 ∧ tn i s7.heap ∧ (∀ b ∈ fp, H' b = none) ∧ W i m σ' H' := fun {σ7 H7} I7 n7 => by
      obtain ⟨m', hm, w7⟩ := hN σ7 H7 n7
      refine ⟨m', hm, i + 1, σ7, H7, I7.unpinned, T.keep _ _ _ st5 fun b hb o e => (I7.pin (b, o) (List.mem_append_right _ (List.mem_append_right _ (mem_pinsAt hb e)))).1, fun b hb => ?_, w7⟩
      obtain ⟨o, e, d⟩ := T.obj _ _ st5 b hb
      exact (I7.pin (b, o) (List.mem_append_right _ (List.mem_append_right _ (mem_pinsAt hb e)))).2.1
    cases f with
    | next => obtain ⟨σ7, H7, I7, n7⟩ := q7; exact again I7 n7
    | cont => obtain ⟨σ7, H7, I7, n7⟩ := q7; exact again I7 n7
    | brk => obtain ⟨σ7, H7, I7, q7⟩ := q7; exact ⟨σ7, H7, I7.unpinned, q7⟩
    | ret v => obtain ⟨x7, σ7, H7, I7, r7, q7⟩ := q7; exact ⟨x7, σ7, H7, I7.unpinned, r7, q7⟩
end
theorem for_list {K : PySem.W.Frag} {a : Addr} {xs : List V} {g : TG} {tb : TS} {D : Ends} {σ : St} {H : Hp} (Pv : Nat → St → Hp → Prop) (h0 : Pv 0 σ H) (hl : ∀ i σ H, i ≤ xs.length → Pv i σ H → SqL K H a xs)
    (hs : ∀ i x σ H, xs[i]? = some x → Pv i σ H → g x σ H fun σ2 H2 => tb { D with nx := Pv (i + 1), ct := Pv (i + 1), bk := D.nx } σ2 H2) (hd : ∀ σ H, Pv xs.length σ H → D.nx σ H) :
    ∃ W : Nat → Nat → St → Hp → Prop, (∃ m, W 0 m σ H) ∧ ∀ i m σ H, W i m σ H →
      ((Itl K a).stop i H ∧ D.nx σ H) ∨ ((Itl K a).go i H ∧ ∃ N : St → Hp → Prop, (∀ σ' H', N σ' H' → ∃ m', m' < m ∧ W (i + 1) m' σ' H') ∧ ∀ x H', (Itl K a).yld i H x H' → g x σ H' fun σ2 H2 => tb { D with nx := N, ct := N, bk := D.nx } σ2 H2) := by
  refine ⟨fun i m σ H => m = xs.length - i ∧ i ≤ xs.length ∧ Pv i σ H, ⟨xs.length, by simp, Nat.zero_le _, h0⟩, ?_⟩
  rintro i m σ H ⟨rfl, hi, p⟩
  have q := hl i σ H hi p
  by_cases hlt : i < xs.length
  · refine .inr ⟨⟨xs, xs[i], q, by simp [hlt]⟩, Pv (i + 1), fun σ' H' p' => ⟨xs.length - (i + 1), by omega, rfl, hlt, p'⟩, fun x H' y => ?_⟩
    obtain ⟨e, y⟩ := y
    subst e
    exact hs i x σ _ (y xs q) p
  · have e : i = xs.length := by omega
    subst e
    exact .inl ⟨⟨xs, q, Nat.le_refl _⟩, hd σ H p⟩
end L2
namespace L2
open PySem PySem.Spec PyProof.Rows
abbrev R2 := V → V → Hp → VK → Prop
def OpR (X : Cx) (f : Value → Value → Sem Value) (r : R2) : Prop :=
  ∀ (pins : List (Addr × Obj)) (s : Shared) (σ : St) (H : Hp) (x y : V) (v u : Value) (Q : VK), Inv X pins σ H s → RelV x v → RelV y u → r x y H Q →
    wpAny (model X.prog X.w) X.A (f v u) (EP X pins σ Q) X.xe s
def UnR (X : Cx) (f : Value → Sem Value) (r : V → Hp → VK → Prop) : Prop :=
  ∀ (pins : List (Addr × Obj)) (s : Shared) (σ : St) (H : Hp) (x : V) (v : Value) (Q : VK), Inv X pins σ H s → RelV x v → r x H Q →
    wpAny (model X.prog X.w) X.A (f v) (EP X pins σ Q) X.xe s
def CallR (X : Cx) (f : Value) (r : List V → Hp → VK → Prop) : Prop :=
  ∀ (pins : List (Addr × Obj)) (s : Shared) (σ : St) (H : Hp) (xs : List V) (us : List Value) (Q : VK), Inv X pins σ H s → Vals xs us → r xs H Q →
    wpAny (model X.prog X.w) X.A (call f us) (EP X pins σ Q) X.xe s
def TruR (X : Cx) (r : V → Hp → (Bool → Hp → Prop) → Prop) : Prop :=
  ∀ (pins : List (Addr × Obj)) (s : Shared) (σ : St) (H : Hp) (x : V) (v : Value) (Q : Bool → Hp → Prop), Inv X pins σ H s → RelV x v → r x H Q →
    wpAny (model X.prog X.w) X.A (truthy v) (TP X pins σ Q) X.xe s
def tOp (r : R2) (ta tb : TE) : TE := fun σ H Q => ta σ H fun x H1 => tb σ H1 fun y H2 => r x y H2 Q
def tUn (r : V → Hp → VK → Prop) (ta : TE) : TE := fun σ H Q => ta σ H fun x H1 => r x H1 Q
def rI (C : Int → Int → Prop) (g : Int → Int → V) : R2 := fun x y H Q => ∃ i j, x = .int i ∧ y = .int j ∧ C i j ∧ Q (g i j) H
def rI0 (g : Int → Int → V) : R2 := fun x y H Q => ∃ i j, x = .int i ∧ y = .int j ∧ Q (g i j) H
def rU (g : Int → V) : V → Hp → VK → Prop := fun x H Q => ∃ i, x = .int i ∧ Q (g i) H
section
variable {X : Cx} {a b c : Expr} {ta tb tc : TE} {pos : Pos}
theorem binT (ha : PE X a ta) (hb : PE X b tb) {pins : List (Addr × Obj)} {s : Shared} {σ : St} {H : Hp} {R : V → V → Hp → Prop} (I : Inv X pins σ H s)
    (h : ta σ H fun x H1 => tb σ H1 fun y H2 => R x y H2) {Q : Value → Shared → Prop} {f : Value → Value → Sem Value}
    (hf : ∀ v u s2 x y H2, Inv X pins σ H2 s2 → RelV x v → RelV y u → R x y H2 → wpAny (model X.prog X.w) X.A (f v u) Q X.xe s2) :
    wpAny (model X.prog X.w) X.A (eval a X.env) (fun v s₁ => wpAny (model X.prog X.w) X.A (eval b X.env) (fun u s₂ => wpAny (model X.prog X.w) X.A (f v u) Q X.xe s₂) X.xe s₁) X.xe s := by
  refine thn (ha pins s σ H _ I h) fun v s1 ⟨x, H1, I1, r1, q1⟩ => ?_
  refine thn (hb pins s1 σ H1 _ I1 q1) fun u s2 ⟨y, H2, I2, r2, q2⟩ => ?_
  exact hf v u s2 x y H2 I2 r1 r2 q2
theorem pe_op {op : Operator} {r : R2} (ho : OpR X (binaryOp op) r) (ha : PE X a ta) (hb : PE X b tb) : PE X (.BinOp a op b pos) (tOp r ta tb) := by
  intro pins s σ H Q I h
  exact wpAny_BinOp (binT ha hb I h fun v u s2 x y H2 I2 rx ry q => ho pins s2 σ H2 x y v u Q I2 rx ry q)
theorem pe_un {op : UnaryOp} {r : V → Hp → VK → Prop} (ho : UnR X (unaryOp op) r) (ha : PE X a ta) : PE X (.UnaryOp op a pos) (tUn r ta) := by
  intro pins s σ H Q I h
  exact UnaryOp_ (thn (ha pins s σ H _ I h) fun v s1 ⟨x, H1, I1, r1, q1⟩ => ho pins s1 σ H1 x v Q I1 r1 q1)
theorem opI {f : Value → Value → Sem Value} {C : Int → Int → Prop} {g : Int → Int → Int}
    (rule : ∀ (i j : Int) (t u : Tok) (s : Shared) (Q : Value → Shared → Prop) (E : Value → Shared → Prop), C i j → Q (.int (g i j) s.toks) { s with toks := s.toks + 1 } → wpAny (model X.prog X.w) X.A (f (.int i t) (.int j u)) Q E s) :
    OpR X f (rI C fun i j => .int (g i j)) := by
  intro pins s σ H x y v u Q I rx ry h
  obtain ⟨i, j, rfl, rfl, hc, q⟩ := h
  obtain ⟨t, rfl⟩ := rx
  obtain ⟨t', rfl⟩ := ry
  exact rule i j t t' s _ _ hc ⟨.int (g i j), H, I.tok _, ⟨_, rfl⟩, q⟩
theorem opI0 {f : Value → Value → Sem Value} {g : Int → Int → Int}
    (rule : ∀ (i j : Int) (t u : Tok) (s : Shared) (Q : Value → Shared → Prop) (E : Value → Shared → Prop), Q (.int (g i j) s.toks) { s with toks := s.toks + 1 } → wpAny (model X.prog X.w) X.A (f (.int i t) (.int j u)) Q E s) :
    OpR X f (rI0 fun i j => .int (g i j)) := by
  intro pins s σ H x y v u Q I rx ry h
  obtain ⟨i, j, rfl, rfl, q⟩ := h
  obtain ⟨t, rfl⟩ := rx
  obtain ⟨t', rfl⟩ := ry
  exact rule i j t t' s _ _ ⟨.int (g i j), H, I.tok _, ⟨_, rfl⟩, q⟩
theorem opB0 {f : Value → Value → Sem Value} {g : Int → Int → Bool}
    (rule : ∀ (i j : Int) (t u : Tok) (s : Shared) (Q : Value → Shared → Prop) (E : Value → Shared → Prop), Q (.bool (g i j)) s → wpAny (model X.prog X.w) X.A (f (.int i t) (.int j u)) Q E s) :
    OpR X f (rI0 fun i j => .bl (g i j)) := by
  intro pins s σ H x y v u Q I rx ry h
  obtain ⟨i, j, rfl, rfl, q⟩ := h
  obtain ⟨t, rfl⟩ := rx
  obtain ⟨t', rfl⟩ := ry
  exact rule i j t t' s _ _ ⟨.bl (g i j), H, I, rfl, q⟩
def CDiv (i j : Int) : Prop := 0 < j ∧ j < 1073741824
def CPow (i j : Int) : Prop := 0 ≤ j ∧ j ≤ 1000000 ∧ i.natAbs < 2 ^ 64
def CMul (i j : Int) : Prop := (-(2 ^ 64) < i ∧ i < 2 ^ 64) ∨ (-(2 ^ 64) < j ∧ j < 2 ^ 64)
theorem CMul.ok {i j : Int} (h : CMul i j) : IntMulOk i j := by
  rcases h with ⟨h1, h2⟩ | ⟨h1, h2⟩
  · exact .of_left (intBits_le_64 h1 h2)
  · exact .of_right (intBits_le_64 h1 h2)
theorem two_pow_nn (k : Nat) : (0 : Int) ≤ 2 ^ k := by
  rw [two_pow_cast]
  exact Int.natCast_nonneg _
theorem op_add : OpR X (binaryOp .Add) (rI0 fun i j => .int (i + j)) := opI0 fun _ _ _ _ _ _ _ q => add_int q
theorem op_sub : OpR X (binaryOp .Sub) (rI0 fun i j => .int (i - j)) := opI0 fun _ _ _ _ _ _ _ q => sub_int q
theorem op_fdiv : OpR X (binaryOp .FloorDiv) (rI CDiv fun i j => .int (i / j)) := opI fun i j _ _ _ _ _ hc q => by
  have h1 : (0 : Int) < j := hc.1
  have h2 : j < 1073741824 := hc.2
  exact floordiv_int (by omega) (by rw [Int.fdiv_eq_ediv_of_nonneg i (by omega)]; exact q) (.inl (PyProof.noPylong_small (by omega)))
theorem op_mod : OpR X (binaryOp .Mod) (rI (fun _ j => 0 < j) fun i j => .int (i % j)) := opI fun i j _ _ _ _ _ hc q => by
  have h1 : (0 : Int) < j := hc
  exact mod_int' (by omega) (by rw [Int.fmod_eq_emod_of_nonneg i (by omega)]; exact q)
theorem op_shl : OpR X (binaryOp .LShift) (rI CPow fun i j => .int (i * 2 ^ j.toNat)) := opI fun _ _ _ _ _ _ _ hc q => lshift_int_small hc.1 hc.2.1 hc.2.2 q
theorem op_shr : OpR X (binaryOp .RShift) (rI (fun _ j => 0 ≤ j) fun i j => .int (i / 2 ^ j.toNat)) := opI fun i j _ _ _ _ _ hc q =>
  rshift_int hc (by rw [Int.fdiv_eq_ediv_of_nonneg i (two_pow_nn _)]; exact q)
theorem op_and : OpR X (binaryOp .BitAnd) (rI0 fun i j => .int (Builtin.bitAnd i j)) := opI0 fun _ _ _ _ _ _ _ q => and_int q
theorem op_or : OpR X (binaryOp .BitOr) (rI0 fun i j => .int (Builtin.bitOr i j)) := opI0 fun _ _ _ _ _ _ _ q => or_int q
theorem unI {f : Value → Sem Value} {g : Int → Int}
    (rule : ∀ (i : Int) (t : Tok) (s : Shared) (Q : Value → Shared → Prop) (E : Value → Shared → Prop), Q (.int (g i) s.toks) { s with toks := s.toks + 1 } → wpAny (model X.prog X.w) X.A (f (.int i t)) Q E s) :
    UnR X f (rU fun i => .int (g i)) := by
  intro pins s σ H x v Q I rx h
  obtain ⟨i, rfl, q⟩ := h
  obtain ⟨t, rfl⟩ := rx
  exact rule i t s _ _ ⟨.int (g i), H, I.tok _, ⟨_, rfl⟩, q⟩
theorem un_neg : UnR X (unaryOp .USub) (rU fun i => .int (-i)) := unI fun _ _ _ _ _ q => neg_int q
end
def scal : V → V → Bool
  | .non, .non => true | .non, .int _ => true | .int _, .non => true | .non, .bl _ => true | .bl _, .non => true | .non, .str _ => true | .str _, .non => true
  | .int _, .int _ => true | .bl _, .bl _ => true | .str _, .str _ => true | .byt _, .byt _ => true
  | .int _, .str _ => true | .str _, .int _ => true | .bl _, .str _ => true | .str _, .bl _ => true
  | _, _ => false
def rEq : R2 := fun x y H Q => scal x y = true ∧ Q (.bl (decide (x = y))) H
def rNe : R2 := fun x y H Q => scal x y = true ∧ Q (.bl (!decide (x = y))) H
theorem dec_int {i j : Int} : decide (V.int i = V.int j) = (i == j) := by
  rw [Bool.eq_iff_iff]
  simp
theorem dec_bl {i j : Bool} : decide (V.bl i = V.bl j) = (i == j) := by
  rw [Bool.eq_iff_iff]
  simp
theorem dec_str {i j : Str} : decide (V.str i = V.str j) = (i == j) := by
  rw [Bool.eq_iff_iff]
  simp
theorem dec_byt {i j : Array UInt8} : decide (V.byt i = V.byt j) = (i.toList == j.toList) := by
  rw [Bool.eq_iff_iff]
  cases i
  cases j
  simp
section
variable {X : Cx} {a b c : Expr} {ta tb tc : TE} {pos : Pos}
theorem fin_bl {pins : List (Addr × Obj)} {σ : St} {H : Hp} {s : Shared} {Q : VK} {k k' : Bool} (I : Inv X pins σ H s) (q : Q (.bl k) H) (e : k = k') : EP X pins σ Q (.bool k') s := by
  subst e
  exact ⟨.bl k, H, I, rfl, q⟩
theorem op_eq : OpR X (compareOp .Eq) rEq := by
  intro pins s σ H x y v u Q I rx ry h
  obtain ⟨hs, q⟩ := h
  cases x with
  | non =>
    cases rx
    cases y with
    | non => cases ry; exact PySem.EqNone.eq_none_none (fin_bl I q (by simp))
    | bl j => cases ry; exact PySem.EqNone.eq_none_bool (fin_bl I q (by simp))
    | int j => obtain ⟨t', rfl⟩ := ry; exact PySem.EqNone.eq_none_int (fin_bl I q (by simp))
    | str j => obtain ⟨t', rfl⟩ := ry; exact PySem.EqNone.eq_none_str (fin_bl I q (by simp))
    | _ => exact absurd (show false = true from hs) Bool.false_ne_true
  | bl i =>
    cases rx
    cases y with
    | non => cases ry; exact PySem.EqNone.eq_bool_none (fin_bl I q (by simp))
    | bl j => cases ry; exact eq_bool (fin_bl I q dec_bl)
    | str j => obtain ⟨t', rfl⟩ := ry; exact PySem.EqMixed.eq_bool_str (fin_bl I q (by simp))
    | _ => exact absurd (show false = true from hs) Bool.false_ne_true
  | int i =>
    obtain ⟨t, rfl⟩ := rx
    cases y with
    | non => cases ry; exact PySem.EqNone.eq_int_none (fin_bl I q (by simp))
    | int j => obtain ⟨t', rfl⟩ := ry; exact eq_int (fin_bl I q dec_int)
    | str j => obtain ⟨t', rfl⟩ := ry; exact PySem.EqMixed.eq_int_str (fin_bl I q (by simp))
    | _ => exact absurd (show false = true from hs) Bool.false_ne_true
  | str i =>
    obtain ⟨t, rfl⟩ := rx
    cases y with
    | non => cases ry; exact PySem.EqNone.eq_str_none (fin_bl I q (by simp))
    | bl j => cases ry; exact PySem.EqMixed.eq_str_bool (fin_bl I q (by simp))
    | int j => obtain ⟨t', rfl⟩ := ry; exact PySem.EqMixed.eq_str_int (fin_bl I q (by simp))
    | str j => obtain ⟨t', rfl⟩ := ry; exact eq_str (fin_bl I q dec_str)
    | _ => exact absurd (show false = true from hs) Bool.false_ne_true
  | byt i =>
    obtain ⟨t, rfl⟩ := rx
    cases y with
    | byt j => obtain ⟨t', rfl⟩ := ry; exact PySem.W.eq_bytes (fin_bl I q dec_byt)
    | _ => exact absurd (show false = true from hs) Bool.false_ne_true
  | _ => cases y <;> exact absurd (show false = true from hs) Bool.false_ne_true
theorem op_ne : OpR X (compareOp .NotEq) rNe := by
  intro pins s σ H x y v u Q I rx ry h
  obtain ⟨hs, q⟩ := h
  cases x with
  | non =>
    cases rx
    cases y with
    | non => cases ry; exact PySem.EqNone.ne_none_none (fin_bl I q (by simp))
    | bl j => cases ry; exact PySem.EqNone.ne_none_bool (fin_bl I q (by simp))
    | int j => obtain ⟨t', rfl⟩ := ry; exact PySem.EqNone.ne_none_int (fin_bl I q (by simp))
    | str j => obtain ⟨t', rfl⟩ := ry; exact PySem.EqNone.ne_none_str (fin_bl I q (by simp))
    | _ => exact absurd (show false = true from hs) Bool.false_ne_true
  | bl i =>
    cases rx
    cases y with
    | non => cases ry; exact PySem.EqNone.ne_bool_none (fin_bl I q (by simp))
    | bl j => cases ry; exact ne_bool (fin_bl I q (congrArg not dec_bl))
    | str j => obtain ⟨t', rfl⟩ := ry; exact PySem.EqMixed.ne_bool_str (fin_bl I q (by simp))
    | _ => exact absurd (show false = true from hs) Bool.false_ne_true
  | int i =>
    obtain ⟨t, rfl⟩ := rx
    cases y with
    | non => cases ry; exact PySem.EqNone.ne_int_none (fin_bl I q (by simp))
    | int j => obtain ⟨t', rfl⟩ := ry; exact ne_int (fin_bl I q (congrArg not dec_int))
    | str j => obtain ⟨t', rfl⟩ := ry; exact PySem.EqMixed.ne_int_str (fin_bl I q (by simp))
    | _ => exact absurd (show false = true from hs) Bool.false_ne_true
  | str i =>
    obtain ⟨t, rfl⟩ := rx
    cases y with
    | non => cases ry; exact PySem.EqNone.ne_str_none (fin_bl I q (by simp))
    | bl j => cases ry; exact PySem.EqMixed.ne_str_bool (fin_bl I q (by simp))
    | int j => obtain ⟨t', rfl⟩ := ry; exact PySem.EqMixed.ne_str_int (fin_bl I q (by simp))
    | str j => obtain ⟨t', rfl⟩ := ry; exact ne_str (fin_bl I q (congrArg not dec_str))
    | _ => exact absurd (show false = true from hs) Bool.false_ne_true
  | byt i =>
    obtain ⟨t, rfl⟩ := rx
    cases y with
    | byt j => obtain ⟨t', rfl⟩ := ry; exact PySem.W.ne_bytes (fin_bl I q (congrArg not dec_byt))
    | _ => exact absurd (show false = true from hs) Bool.false_ne_true
  | _ => cases y <;> exact absurd (show false = true from hs) Bool.false_ne_true
theorem op_lt : OpR X (compareOp .Lt) (rI0 fun i j => .bl (decide (i < j))) := opB0 fun _ _ _ _ _ _ _ q => lt_int q
theorem op_le : OpR X (compareOp .LtE) (rI0 fun i j => .bl (decide (i ≤ j))) := opB0 fun _ _ _ _ _ _ _ q => le_int q
theorem op_gt : OpR X (compareOp .Gt) (rI0 fun i j => .bl (decide (j < i))) := opB0 fun _ _ _ _ _ _ _ q => gt_int q
theorem op_ge : OpR X (compareOp .GtE) (rI0 fun i j => .bl (decide (j ≤ i))) := opB0 fun _ _ _ _ _ _ _ q => ge_int q
theorem nomark (b : Expr) {op : CmpOp} (h : op ≠ .In := by decide) (h2 : op ≠ .NotIn := by decide) : behindInMarks op b = false := by
  have e1 : (op == CmpOp.In) = false := by cases op <;> first | rfl | exact absurd rfl h
  have e2 : (op == CmpOp.NotIn) = false := by cases op <;> first | rfl | exact absurd rfl h2
  cases b <;> simp [behindInMarks, e1, e2]
theorem pe_cmpR {op : CmpOp} {r : R2} (ho : OpR X (compareOp op) r) (ha : PE X a ta) (hb : PE X b tb) (hm : behindInMarks op b = false) : PE X (.Compare a [op] [b] pos) (tOp r ta tb) := by
  intro pins s σ H Q I h
  exact wpAny_Compare1 (binT ha hb I h fun v u s2 x y H2 I2 rx ry q => ho pins s2 σ H2 x y v u Q I2 rx ry q) hm
def tTest (t : TE) : TT := fun σ H Q => t σ H fun x H' => ∃ k, x = .bl k ∧ Q k H'
theorem pt_cmpR {op : CmpOp} {r : R2} (ho : OpR X (compareOp op) r) (ha : PE X a ta) (hb : PE X b tb) (hm : behindInMarks op b = false) : PT X (.Compare a [op] [b] pos) (tTest (tOp r ta tb)) := by
  intro pins s σ H Q I h
  refine wpAny_isTrue_Compare1 (thn (ha pins s σ H _ I h) fun v s1 ⟨x, H1, I1, r1, q1⟩ => thn (hb pins s1 σ H1 _ I1 q1) fun u s2 ⟨y, H2, I2, r2, q2⟩ =>
    thn (ho pins s2 σ H2 x y v u _ I2 r1 r2 q2) fun c s3 ⟨z, H3, I3, r3, k, e, q3⟩ => ?_) hm
  subst e
  cases r3
  exact wpAny_truthy_bool ⟨H3, I3, q3⟩
def tChain (r r' : R2) (ta tb tc : TE) : TE := fun σ H Q => ta σ H fun x H1 => tb σ H1 fun y H2 => r x y H2 fun z H3 => ∃ k, z = .bl k ∧
  (if k = true then tc σ H3 fun w' H4 => r' y w' H4 Q else Q (.bl false) H3)
theorem pt_chain {op op' : CmpOp} {r r' : R2} (ho : OpR X (compareOp op) r) (ho' : OpR X (compareOp op') r') (ha : PE X a ta) (hb : PE X b tb) (hc : PE X c tc)
    (hm : lastMarks [op, op'] [b, c] = false := by with_unfolding_all rfl) : PT X (.Compare a [op, op'] [b, c] pos) (tTest (tChain r r' ta tb tc)) := by
  intro pins s σ H Q I h
  refine isTrue_chain (thn (ha pins s σ H _ I h) fun v s1 ⟨x, H1, I1, r1, q1⟩ => test_link (thn (hb pins s1 σ H1 _ I1 q1) fun u s2 ⟨y, H2, I2, r2, q2⟩ =>
    thn (ho pins s2 σ H2 x y v u _ I2 r1 r2 q2) fun d s3 ⟨z, H3, I3, r3, k, e, q3⟩ => ?_)) hm
  subst e
  cases r3
  refine wpAny_truthy_bool ?_
  cases k with
  | false =>
    obtain ⟨k', e', q'⟩ := q3
    cases e'
    exact ite_ff ⟨H3, I3, q'⟩
  | true =>
    refine ite_tt (test_last (thn (hc pins s3 σ H3 _ I3 q3) fun w' s4 ⟨z', H4, I4, r4, q4⟩ => thn (ho' pins s4 σ H4 y z' u w' _ I4 r2 r4 q4) fun d' s5 ⟨z2, H5, I5, r5, k2, e2, q5⟩ => ?_))
    subst e2
    cases r5
    exact wpAny_truthy_bool ⟨H5, I5, q5⟩
def TruV (K : PySem.W.Frag) (x : V) (H : Hp) (k : Bool) : Prop :=
  match x with
  | .non => k = false
  | .bl b => k = b
  | .int i => k = (i != 0)
  | .str y => y.length ≤ sizeLine ∧ k = ((y.length : Int) != 0)
  | .byt y => y.size ≤ sizeLine ∧ k = ((y.size : Int) != 0)
  | .ref p => (∃ xs, SqL K H p xs ∧ k = !xs.isEmpty) ∨ (∃ xs, SqT K H p xs ∧ k = !xs.isEmpty) ∨ ∃ kvs, H p = some (.dK kvs) ∧ k = !kvs.isEmpty
  | _ => False
theorem isEmpty_kv {κ : Type} {kvs : List (κ × V)} {vs : List (κ × Value)} (r : KV kvs vs) : (!vs.isEmpty) = !kvs.isEmpty := by
  cases r <;> rfl
theorem isEmpty_of {xs : List V} {its : List Value} (r : Vals xs its) : (!its.toArray.isEmpty) = !xs.isEmpty := by
  cases r <;> simp
theorem line63 : (sizeLine : Nat) < 2 ^ 63 := by rw [sizeLine_eq]; decide
theorem tru_ok : TruR X (fun x H Q => ∃ k, TruV X.K x H k ∧ Q k H) := by
  intro pins s σ H x v Q I rx h
  obtain ⟨k, e, q⟩ := h
  have hl := line63
  have hs : sizeLine = 16777216 := sizeLine_eq
  cases x with
  | non =>
    cases rx
    have e' : k = false := e
    subst e'
    exact truthy_none ⟨H, I, q⟩
  | bl b =>
    cases rx
    have e' : k = b := e
    subst e'
    exact wpAny_truthy_bool ⟨H, I, q⟩
  | int i =>
    obtain ⟨t, rfl⟩ := rx
    have e' : k = (i != 0) := e
    subst e'
    exact PySem.P.truthy_int ⟨H, I, q⟩
  | str y =>
    obtain ⟨t, rfl⟩ := rx
    obtain ⟨hy, e'⟩ : y.length ≤ sizeLine ∧ k = ((y.length : Int) != 0) := e
    subst e'
    exact PySem.P.truthy_str (by omega) ⟨H, I.tok _, q⟩
  | byt y =>
    obtain ⟨t, rfl⟩ := rx
    obtain ⟨hy, e'⟩ : y.size ≤ sizeLine ∧ k = ((y.size : Int) != 0) := e
    subst e'
    exact PySem.W.truthy_bytes (by omega) ⟨H, I.tok _, q⟩
  | ref p =>
    cases rx
    have e' : (∃ xs, SqL X.K H p xs ∧ k = !xs.isEmpty) ∨ (∃ xs, SqT X.K H p xs ∧ k = !xs.isEmpty) ∨ ∃ kvs, H p = some (.dK kvs) ∧ k = !kvs.isEmpty := e
    rcases e' with ⟨xs, hx, e'⟩ | ⟨xs, hx, e'⟩ | ⟨kvs, hx, e'⟩
    · subst e'
      obtain ⟨its, r, pl, hz⟩ := I.list hx
      have hlen := r.length
      exact wpAny_truthy_list pl.isList (by simp only [List.size_toArray]; omega) ⟨H, I.tok _, by rw [isEmpty_of r]; exact q⟩
    · subst e'
      obtain ⟨its, r, pl, hz⟩ := I.tuple hx
      have hlen := r.length
      exact truthy_tuple pl (by simp only [List.size_toArray]; omega) ⟨H, I.tok _, by rw [isEmpty_of r]; exact q⟩
    · subst e'
      obtain ⟨hz, hS, vs, r, m⟩ : kvs.length ≤ sizeLine ∧ (p == sysModules) = false ∧ ∃ vs, KV kvs vs ∧ s.heap.DictOf (mixKind X.prog X.w) p vs := I.hok p _ hx
      have hlen : kvs.length = vs.length := Paired.length r
      exact wpAny_truthy_dict hS m (by omega) ⟨H, I.tok _, by rw [isEmpty_kv r]; exact q⟩
  | _ => exact (show False from e).elim
theorem pt_truth (ha : PE X a ta) (he : ∀ whole, isTrue a X.env whole = (do let v ← whole; standAt a.pos; holding [v] (truthy v))) :
    PT X a (fun σ H Q => ta σ H fun x H' => ∃ k, TruV X.K x H' k ∧ Q k H') := by
  intro pins s σ H Q I h
  exact isTrue_plain (thn (ha pins s σ H _ I h) fun v s1 ⟨x, H1, I1, r1, q1⟩ => tru_ok pins s1 σ H1 x v Q I1 r1 q1) (he _)
theorem vals1 {x : V} {us : List Value} (r : Vals [x] us) : ∃ u, us = [u] ∧ RelV x u := by
  cases r with
  | cons r1 r2 => cases r2; exact ⟨_, rfl, r1⟩
theorem call_abs : CallR X (.builtin "abs") (fun xs H Q => ∃ i, xs = [.int i] ∧ Q (.int (if i < 0 then -i else i)) H) := by
  intro pins s σ H xs us Q I r h
  obtain ⟨i, rfl, q⟩ := h
  obtain ⟨u, rfl, t, rfl⟩ := vals1 r
  exact call_abs_int fun u tk => ⟨.int (if i < 0 then -i else i), H, I.tok _, ⟨_, rfl⟩, q⟩
end
end L2
namespace L2
open PySem PySem.Spec PyProof.Rows
structure ObjM (h : Heap) (x dx C : Addr) (mA : Str → Option Value) : Prop where
  obj : h.get? x = some (PySem.W.instObj C dx)
  ns : h.Ns1 dx mA
  ne : dx ≠ x
theorem lookIn_ns {h : Heap} {dx : Addr} {mA : Str → Option Value} (n : h.Ns1 dx mA) : ∃ od, h.get? dx = some od ∧ ∀ name, PySem.W.lookIn name od = some (mA name) := by
  obtain ⟨o, es, ep, ho, hd, hk, _, hm⟩ := n
  refine ⟨o, ho, fun name => ?_⟩
  have e := hm name
  unfold nsFind findBy at e
  rw [← Array.find?_toList] at e
  unfold PySem.W.lookIn
  rw [hd]
  dsimp only
  split
  · rename_i y q
    rw [q] at e
    exact congrArg some e
  · rename_i q
    rw [q] at e
    have a : es.toList.any (·.refKey) = false := by
      rw [List.any_eq_false]
      intro y hy
      obtain ⟨z, t, hkey⟩ := hk y (Array.mem_toList_iff.mp hy)
      simp [DictEntry.refKey, hkey]
    have a' : ¬ es.toList.any (·.refKey) = true := by rw [a]; exact Bool.false_ne_true
    rw [if_neg a']
    exact congrArg some e
theorem ObjM.look {h : Heap} {x dx C : Addr} {mA : Str → Option Value} (I : ObjM h x dx C mA) : ∃ od, PySem.W.InstAt h x (PySem.W.instObj C dx) C (some od) ∧ ∀ name, PySem.W.lookIn name od = some (mA name) :=
  let ⟨od, ho, hl⟩ := lookIn_ns I.ns
  ⟨od, ⟨I.obj, rfl, rfl, ho⟩, hl⟩
section
variable {prog : Program} {w : World} {A : Around} {E : Value → Shared → Prop} {s : Shared} {K : PySem.W.Frag} {x dx C f : Addr} {mA : Str → Option Value} {name : Str} {v : Value}
theorem get_map {expr : Bool} {Q : Value → Shared → Prop} (X : K.In s.heap) (I : ObjM s.heap x dx C mA) (hg : PySem.W.plainGet K C name = true) (hh : PySem.W.hasDictIn K C = true)
    (ha : PySem.W.findIn K (.ref C) name = some none) (hv : mA name = some v) (hv' : PySem.W.handedIn v = true) (h : Q v { s with toks := s.toks + 1 }) :
    wpAny (model prog w) A (getAttr (.ref x) name expr) Q E s := by
  obtain ⟨od, J, hl⟩ := I.look
  exact PySem.W.get_value X J (PySem.W.plainGet_of hg).1 (PySem.W.findObj_own hh ha rfl (by rw [hl, hv])) hv' h
theorem get_meth {pl : Sem Bool} {Q : Value × List Value → Shared → Prop} (X : K.In s.heap) (I : ObjM s.heap x dx C mA) (hg : PySem.W.plainGet K C name = true)
    (hf : PySem.W.findIn K (.ref C) name = some (some (.ref f))) (ht : PySem.W.isFn K (.ref f) = true) (hv : mA name = none) (h : Q (.ref f, [.ref x]) s) :
    wpAny (model prog w) A (getMethod (.ref x) name pl) Q E s := by
  obtain ⟨od, J, hl⟩ := I.look
  exact PySem.W.method_fn X J (PySem.W.plainGet_of hg).1 (PySem.W.plainGet_of hg).2 hf (beq_iff_eq.mp ht) (by show (PySem.W.lookIn name od).map (·.isSome) = some false; rw [hl, hv]; rfl) h
theorem set_map {ns : List Str} {Q : Unit → Shared → Prop} (X : K.In s.heap) (I : ObjM s.heap x dx C mA)
    (hs : PySem.W.findIn K (.ref C) "__setattr__" = some (some (.builtin "object.__setattr__"))) (hp : PySem.W.plainOver K C = true) (ht : PySem.W.takerIn K C name = some none) (hh : PySem.W.hasDictIn K C = true)
    (hw : PySem.Within mA ns) (hsz : ns.length ≤ sizeLine)
    (h : ∀ h', ObjM h' x dx C (fun y => if y = name then some v else mA y) → Heap.SameBut dx s.heap h' → Q () { s with heap := h', toks := s.toks + 2 }) :
    wpAny (model prog w) A (setAttr (.ref x) name v) Q E s := by
  obtain ⟨od, J, hl⟩ := I.look
  refine PySem.W.set_plain X J hs (PySem.W.osa_open (s := { s with toks := s.toks + 1 }) (r := none) X J hp ht fun b => ?_)
  obtain ⟨cd, hc, hd'⟩ := PySem.W.any_some hh
  have hx : s.heap.get? x = some ⟨.ref C, some dx, .plain, #[]⟩ := I.obj
  refine wpAny_bind (wpAny_pure (wpAny_bind (wpAny_bind (wpAny_loadPart hx (wpAny_bind (PySem.W.Looks.here (s := { s with toks := s.toks + 1 }) (PySem.W.looks_clsIn X hc) ?_))))))
  rw [hd']
  refine wpAny_pure (a := some dx) (wpAny_bind (wpAny_pure (wpAny_bind ?_)))
  refine wpAny_nsSet1 (s := { s with toks := s.toks + 1 }) I.ns fun h' hn2 hs2 => ?_
  obtain ⟨oD, esD, epD, hoD, hdD, hcD⟩ := hn2.count (PySem.Within.cons name v hw)
  refine wpAny_bind (wpAny_lookBehind hoD (by rw [hdD]; exact pastItsLine_dict (Nat.le_trans hcD (by rw [List.length_cons]; omega))) ?_)
  exact wpAny_pure (h _ ⟨(hs2.2 _ (Ne.symm I.ne)).trans I.obj, hn2, I.ne⟩ hs2)
theorem make_map {R : Result → Shared → Prop} {vs : List Value} {kw : List (Str × Value)} (X : K.In s.heap) (hm : PySem.W.makesIn K C = true)
    (hi : PySem.W.findIn K (.ref C) "__init__" = some (some (.ref f))) (hf : PySem.W.typeIn K (.ref f) = some (.type "function"))
    (h : codeAny (model prog w) (A.under (.builtin "type.__call__" ⟨.ref C :: vs, kw⟩)) (.call (.ref f) ⟨.ref (s.heap.objs.size + 1) :: vs, kw⟩) (PySem.W.InitBack (s.heap.objs.size + 1) R)
      { s with heap := (s.heap.push PySem.W.emptyDict).push (PySem.W.instObj C s.heap.objs.size) }) :
    codeAny (model prog w) A (.call (.ref C) ⟨vs, kw⟩) R s := by
  obtain ⟨hh, g, d, t, os⟩ := s
  exact PySem.W.make_core (PySem.W.makes_of X hm) (PySem.W.looks_findIn X hi) (fun self => PySem.W.bind_fn X self hf) (.inl rfl) h
end
def putF (f : Str) (v : V) : List (Str × V) → List (Str × V)
  | [] => [(f, v)]
  | (g, x) :: r => if g = f then (g, v) :: r else (g, x) :: putF f v r
theorem lookup_putF (f g : Str) (v : V) : ∀ fs : List (Str × V), (putF f v fs).lookup g = if g = f then some v else fs.lookup g
  | [] => by
    show List.lookup g [(f, v)] = _
    by_cases h : g = f
    · have hb : (g == f) = true := beq_iff_eq.mpr h
      simp only [List.lookup, hb, if_pos h]
    · have hb : (g == f) = false := beq_eq_false_iff_ne.mpr h
      simp only [List.lookup, hb, if_neg h]
  | (k, x) :: r => by
    have ih := lookup_putF f g v r
    rw [show putF f v ((k, x) :: r) = (if k = f then (k, v) :: r else (k, x) :: putF f v r) from rfl]
    by_cases hk : k = f
    · rw [if_pos hk]
      by_cases h : g = k
      · have hb : (g == k) = true := beq_iff_eq.mpr h
        simp only [List.lookup, hb, if_pos (h.trans hk)]
      · have hb : (g == k) = false := beq_eq_false_iff_ne.mpr h
        simp only [List.lookup, hb, if_neg (fun e : g = f => h (e.trans hk.symm))]
    · rw [if_neg hk]
      by_cases h : g = k
      · have hb : (g == k) = true := beq_iff_eq.mpr h
        simp only [List.lookup, hb, if_neg (fun e : g = f => hk (h.symm.trans e))]
      · have hb : (g == k) = false := beq_eq_false_iff_ne.mpr h
        simp only [List.lookup, hb]
        exact ih
theorem keys_putF (f : Str) (v : V) : ∀ fs : List (Str × V), f ∈ (putF f v fs).map (·.1) ∧ ∀ g, g ∈ fs.map (·.1) → g ∈ (putF f v fs).map (·.1)
  | [] => ⟨by simp [putF], fun g h => by simp at h⟩
  | (k, x) :: r => by
    obtain ⟨i1, i2⟩ := keys_putF f v r
    rw [show putF f v ((k, x) :: r) = (if k = f then (k, v) :: r else (k, x) :: putF f v r) from rfl]
    by_cases hk : k = f
    · rw [if_pos hk]
      subst hk
      exact ⟨by simp, fun g h => by simpa using h⟩
    · rw [if_neg hk]
      refine ⟨?_, fun g h => ?_⟩
      · rw [List.map_cons]
        exact List.mem_cons_of_mem _ i1
      · rw [List.map_cons] at h ⊢
        rcases List.mem_cons.mp h with e | e
        · exact List.mem_cons.mpr (.inl e)
        · exact List.mem_cons_of_mem _ (i2 g e)
theorem length_putF (f : Str) (v : V) : ∀ fs : List (Str × V), (putF f v fs).length ≤ fs.length + 1
  | [] => by simp [putF]
  | (k, x) :: r => by
    have ih := length_putF f v r
    rw [show putF f v ((k, x) :: r) = (if k = f then (k, v) :: r else (k, x) :: putF f v r) from rfl]
    by_cases hk : k = f
    · rw [if_pos hk, List.length_cons, List.length_cons]; omega
    · rw [if_neg hk, List.length_cons, List.length_cons]; omega
theorem RelO.some_of {v : V} {o : Option Value} (r : RelO (some v) o) : ∃ u, o = some u ∧ RelV v u := by
  cases o with
  | none => exact (show False from r).elim
  | some u => exact ⟨u, rfl, r⟩
theorem RelO.none_of {o : Option Value} (r : RelO none o) : o = none := by
  cases o with
  | none => rfl
  | some u => exact (show False from r).elim
theorem handed_of {v : V} {u : Value} (r : RelV v u) : PySem.W.handedIn u = true := by
  cases v with
  | non => cases (show u = Value.none from r); rfl
  | bl b => cases (show u = Value.bool b from r); rfl
  | int i => obtain ⟨t, e⟩ := (show ∃ t, u = Value.int i t from r); cases e; rfl
  | str x => obtain ⟨t, e⟩ := (show ∃ t, u = Value.str x t from r); cases e; rfl
  | byt b => obtain ⟨t, e⟩ := (show ∃ t, u = Value.bytes b t from r); cases e; rfl
  | flt b => obtain ⟨t, e⟩ := (show ∃ t, u = Value.float b t from r); cases e; rfl
  | ref a => cases (show u = Value.ref a from r); rfl
  | ty n => cases (show u = Value.type n from r); rfl
section
variable {P : Program} {w : World} {H H' : Hp} {h h' : Heap} {a C dx : Addr} {fs fs' : List (Str × V)}
theorem ins_get (hok : HOk P w H h) (e : H a = some (.ins C dx fs)) : ∃ mA, ObjM h a dx C mA ∧ (∀ f, RelO (fs.lookup f) (mA f)) ∧ PySem.Within mA (fs.map (·.1)) ∧ fs.length ≤ 1000 ∧ H dx = some (.own a) := by
  obtain ⟨d, z, ne, ob, mA, n, r, q⟩ := (show ObjOk P w H h a (.ins C dx fs) from hok a _ e)
  exact ⟨mA, ⟨ob, n, ne⟩, r, q, z, d⟩
end
structure Cls (K : PySem.W.Frag) (C : Addr) : Prop where
  pg : PySem.W.plainGet K C Str.empty = true
  hd : PySem.W.hasDictIn K C = true
  po : PySem.W.plainOver K C = true
  sa : PySem.W.findIn K (.ref C) "__setattr__" = some (some (.builtin "object.__setattr__"))
theorem Cls.get {K : PySem.W.Frag} {C : Addr} (c : Cls K C) (f : Str) : PySem.W.plainGet K C f = true := c.pg
def NoAttr (K : PySem.W.Frag) (C : Addr) (f : Str) : Prop := PySem.W.findIn K (.ref C) f = some none
theorem NoAttr.taker {K : PySem.W.Frag} {C : Addr} {f : Str} (n : NoAttr K C f) : PySem.W.takerIn K C f = some none := by
  unfold PySem.W.takerIn
  rw [show PySem.W.findIn K (.ref C) f = some none from n]
  rfl
structure Meth (K : PySem.W.Frag) (C : Addr) (m : Str) (f : Addr) : Prop where
  at_ : PySem.W.findIn K (.ref C) m = some (some (.ref f))
  fn : PySem.W.isFn K (.ref f) = true
  kp : PySem.W.keepIn K (.ref f) = true
section
variable {X : Cx} {pins : List (Addr × Obj)} {σ : St} {H : Hp} {s : Shared} {a C dx : Addr} {fs : List (Str × V)} {f : Str} {v : V} {A : Around} {E : Value → Shared → Prop}
theorem getattr_ok {b : Bool} {Q : Value → Shared → Prop} (I : Inv X pins σ H s) (e : H a = some (.ins C dx fs)) (c : Cls X.K C) (n : NoAttr X.K C f) (l : fs.lookup f = some v)
    (h : ∀ u s', Inv X pins σ H s' → RelV v u → Q u s') : wpAny (model X.prog X.w) A (getAttr (.ref a) f b) Q E s := by
  obtain ⟨mA, O, r, _, _, _⟩ := ins_get I.hok e
  obtain ⟨u, hu, ru⟩ := RelO.some_of (v := v) (o := mA f) (by rw [← l]; exact r f)
  exact get_map I.kIn O (c.get f) c.hd n hu (handed_of ru) (h u _ (I.tok _) ru)
theorem getmeth_ok {m : Str} {g : Addr} {pl : Sem Bool} {Q : Value × List Value → Shared → Prop} (I : Inv X pins σ H s) (e : H a = some (.ins C dx fs)) (c : Cls X.K C) (k : Meth X.K C m g) (l : fs.lookup m = none)
    (h : Q (.ref g, [.ref a]) s) : wpAny (model X.prog X.w) A (getMethod (.ref a) m pl) Q E s := by
  obtain ⟨mA, O, r, _, _, _⟩ := ins_get I.hok e
  have hn : mA m = none := RelO.none_of (by rw [← l]; exact r m)
  exact get_meth I.kIn O (c.get m) k.at_ k.fn hn h
theorem setattr_ok {y : V} {u : Value} {Q : Unit → Shared → Prop} (I : Inv X pins σ H s) (e : H a = some (.ins C dx fs)) (c : Cls X.K C) (n : NoAttr X.K C f) (hl : fs.length < 1000) (ry : RelV y u)
    (h : ∀ s', Inv X pins σ (upd H a (.ins C dx (putF f y fs))) s' → Q () s') : wpAny (model X.prog X.w) A (setAttr (.ref a) f u) Q E s := by
  obtain ⟨mA, O, r, wi, _, ho⟩ := ins_get I.hok e
  have hz : (fs.map (·.1)).length ≤ sizeLine := by rw [List.length_map, sizeLine_eq]; omega
  refine set_map I.kIn O c.sa c.po n.taker c.hd wi hz fun h' O' sb => h _ ?_
  have hd : ∃ o, h'.get? dx = some o := let ⟨o, _, _, e', _⟩ := O'.ns; ⟨o, e'⟩
  refine I.write (x := a) (e := dx) (by rw [e]; exact True.intro) (.inr ho) (fun b q hb z => (sb.2 b hb).trans z) hd ?_
  refine ⟨by rw [upd_ne O.ne]; exact ho, ?_, O.ne, O'.obj, _, O'.ns, fun g => ?_, fun g hg => ?_⟩
  · have := length_putF f y fs; omega
  · show RelO ((putF f y fs).lookup g) (if g = f then some u else mA g)
    rw [lookup_putF]
    by_cases q : g = f
    · rw [if_pos q, if_pos q]; exact ry
    · rw [if_neg q, if_neg q]; exact r g
  · by_cases q : g = f
    · rw [q]; exact (keys_putF f y fs).1
    · refine (keys_putF f y fs).2 g (wi g fun z => hg ?_)
      show (if g = f then some u else mA g) = none
      rw [if_neg q]; exact z
theorem Inv.made (I : Inv X pins σ H s) : Inv X pins σ (upd (upd H s.heap.objs.size (.own (s.heap.objs.size + 1))) (s.heap.objs.size + 1) (.ins C s.heap.objs.size []))
    { s with heap := (s.heap.push PySem.W.emptyDict).push (PySem.W.instObj C s.heap.objs.size) } := by
  have e1 : (s.heap.push PySem.W.emptyDict).get? s.heap.objs.size = some PySem.W.emptyDict := Heap.get?_push_size s.heap rfl
  have e2 : ((s.heap.push PySem.W.emptyDict).push (PySem.W.instObj C s.heap.objs.size)).get? (s.heap.objs.size + 1) = some (PySem.W.instObj C s.heap.objs.size) := by
    have := Heap.get?_push_size (s.heap.push PySem.W.emptyDict) (o := PySem.W.instObj C s.heap.objs.size) rfl
    rwa [Heap.size_push] at this
  have e3 : (s.heap.push PySem.W.emptyDict).Ns s.heap.objs.size (fun _ => none) := ⟨PySem.W.emptyDict, #[], _, e1, rfl, (fun e he => absurd he (by simp)), fun _ => rfl⟩
  have I1 := I.laid (a := s.heap.objs.size) (o := .own (s.heap.objs.size + 1)) (h' := s.heap.push PySem.W.emptyDict) (t' := s.toks) (fun b u q => Heap.get?_push_of_some _ q) (Nat.le_refl _) ⟨_, e1⟩
  refine I1.laid (a := s.heap.objs.size + 1) (o := .ins C s.heap.objs.size []) (t' := s.toks) (fun b u q => Heap.get?_push_of_some _ q) (Nat.le_of_eq (Heap.size_push _ _)) ?_
  have ne : s.heap.objs.size ≠ s.heap.objs.size + 1 := Nat.ne_of_lt (Nat.lt_succ_self _)
  refine ⟨by rw [upd_ne ne, upd_same], Nat.zero_le _, ne, e2, fun _ => none, (Heap.Ns1.of_empty e3).at fun o q => Heap.get?_push_of_some _ q, fun _ => True.intro, fun y hy => absurd rfl hy⟩
theorem attr_of {prog : Program} {w : World} {env : Env} {e : Expr} {f : Str} {pos : Pos} {s : Shared} {Q : Value → Shared → Prop} (hb : attributeBase e f env (eval e env) = eval e env)
    (h : wpAny (model prog w) A (eval e env) (fun o s₁ => wpAny (model prog w) A (getAttr o f true) Q E s₁) E s) : wpAny (model prog w) A (eval (.Attribute e f pos) env) Q E s :=
  Attribute_any_ h (by rw [arm_eval_Attribute, hb])
end
def tFld (K : PySem.W.Frag) (ta : TE) (f : Str) : TE := fun σ H Q => ta σ H fun x H1 => ∃ a C dx fs v, x = .ref a ∧ H1 a = some (.ins C dx fs) ∧ Cls K C ∧ NoAttr K C f ∧ fs.lookup f = some v ∧ Q v H1
def sFld (K : PySem.W.Frag) (ta tv : TE) (f : Str) : TS := fun D σ H => tv σ H fun y H1 => ta σ H1 fun x H2 => ∃ a C dx fs, x = .ref a ∧ H2 a = some (.ins C dx fs) ∧ Cls K C ∧ NoAttr K C f ∧ fs.length < 1000 ∧
  D.nx σ (upd H2 a (.ins C dx (putF f y fs)))
section
variable {X : Cx} {o e value : Expr} {f : Str} {pos pos' tpos : Pos} {ta tv : TE}
theorem pe_fld (he : PE X e ta) (hb : attributeBase e f X.env (eval e X.env) = eval e X.env) : PE X (.Attribute e f pos) (tFld X.K ta f) := by
  intro pins s σ H Q I h
  refine attr_of hb (thn (he pins s σ H _ I h) fun u s1 ⟨x, H1, I1, rx, a, C, dx, fs, v, ex, ea, c, n, l, q⟩ => ?_)
  subst ex
  obtain rfl : u = Value.ref a := rx
  exact getattr_ok I1 ea c n l fun u' s2 I2 ru => ⟨v, H1, I2, ru, q⟩
theorem ps_fld (ha : PE X o ta) (hv : PE X value tv) (hs : swapsWith value (some (.Attribute o f pos')) pos.line X.env = pure false) : PS X (.Assign [.Attribute o f pos'] value pos) (sFld X.K ta tv f) := by
  intro pins s σ H D I h
  refine plainObj_wpAny_Assign_Attribute (thn (hv pins s σ H _ I h) fun u s1 ⟨y, H1, I1, ry, q⟩ => thn (ha pins s1 σ H1 _ I1 q) fun ov s2 ⟨x, H2, I2, rx, a, C, dx, fs, ex, ea, c, n, l, q2⟩ => ?_) hs
  subst ex
  obtain rfl : ov = Value.ref a := rx
  exact setattr_ok I2 ea c n l ry fun s3 I3 => ⟨σ, _, I3, q2⟩
end
section
variable {X : Cx} {pins : List (Addr × Obj)} {σ : St} {H : Hp} {s : Shared} {A : Around} {E : Value → Shared → Prop} {Q : Value → Shared → Prop} {c : Value} {b : Bool}
end
end L2
namespace L2
open PySem PySem.Spec PyProof.Rows
structure Room (k : Nat) (A : Around) : Prop where
  hd : A.handled = none
  dp : A.depth + 3 * k + 5 < recursionLimit
  un : A.units + 16 * k + 200 < cLine
theorem Room.mono {j k : Nat} {A : Around} (r : Room k A) (h : j ≤ k) : Room j A := ⟨r.hd, by have := r.dp; omega, by have := r.un; omega⟩
theorem Room.deeper {k : Nat} {A : Around} (r : Room (k + 1) A) (env : Env) : Room k (A.deeper env) :=
  ⟨r.hd, by have := r.dp; show A.depth + 1 + 3 * k + 5 < _; omega, by have := r.un; show A.units + 3 + 16 * k + 200 < _; omega⟩
theorem make_depth {A : Around} {C : Addr} {us : List Value} {kw : List (Str × Value)} : (A.under (.builtin "type.__call__" ⟨.ref C :: us, kw⟩)).depth = A.depth + 1 := by
  first | rfl | simp [Around.under, Code.weight, Code.isCreation, Code.isGuard, Code.isCaller, Code.frames, Code.isFrame, guardIds]
theorem make_units {A : Around} {C : Addr} {us : List Value} {kw : List (Str × Value)} : (A.under (.builtin "type.__call__" ⟨.ref C :: us, kw⟩)).units = A.units + 1 := by
  first | rfl | simp [Around.under, Code.cUnits, Code.frames, Code.isFrame]
theorem Room.make {k : Nat} {A : Around} (r : Room (k + 1) A) (C : Addr) (us : List Value) (kw : List (Str × Value)) : Room k (A.under (.builtin "type.__call__" ⟨.ref C :: us, kw⟩)) :=
  ⟨r.hd, by have := r.dp; rw [make_depth]; omega, by have := r.un; rw [make_units]; omega⟩
theorem Room.depth {k : Nat} {A : Around} (r : Room k A) : A.depth < recursionLimit := by have := r.dp; omega
theorem Room.units {k : Nat} {A : Around} (r : Room k A) : A.units + 64 < cLine := by have := r.un; omega
def tNil : TA := fun _ H Q => Q [] H
def tCons (ta : TE) (tr : TA) : TA := fun σ H Q => ta σ H fun x H1 => tr σ H1 fun xs H2 => Q (x :: xs) H2
section
variable {X : Cx} {e : Expr} {es : List Expr} {te : TE} {t : TA} {pos : Pos}
theorem pa_nil : PA X [] tNil := fun _ _ _ _ H Q I h => Calls.spliced_nil ⟨[], H, I, .nil, h⟩
theorem pa_cons (ha : PE X e te) (hr : PA X es t) (hs : starEach (e :: es) X.env = (false, eval e X.env) :: starEach es X.env := by rfl) : PA X (e :: es) (tCons te t) := by
  intro pos pins s σ H Q I h
  rw [hs]
  show wpAny _ _ (spliced ((false, eval e X.env) :: backTo pos (starEach es X.env))) _ _ s
  refine Calls.spliced_cons (thn (ha pins s σ H _ I h) fun u s1 ⟨x, H1, I1, r1, q1⟩ => ?_)
  exact thn (hr pos pins s1 σ H1 _ I1 q1) fun us s2 ⟨xs, H2, I2, r2, q2⟩ => ⟨x :: xs, H2, I2, .cons r1 r2, q2⟩
def tTup (t : TA) : TE := fun σ H Q => t σ H fun xs H1 => xs.length ≤ sizeLine ∧ ∀ p, H1 p = none → Q (.ref p) (upd H1 p (.tup xs))
def tLst (t : TA) : TE := fun σ H Q => t σ H fun xs H1 => xs.length ≤ sizeLine ∧ ∀ p, H1 p = none → Q (.ref p) (upd H1 p (.lst xs))
theorem pe_tup {x1} (h : PA X es t) : PE X (.Tuple es x1 pos) (tTup t) := by
  intro pins s σ H Q I hq
  refine wpAny_Tuple_spliced (thn (h pos pins s σ H _ I hq) fun us s1 ⟨xs, H1, I1, r, z, q⟩ => ⟨by rw [← r.length]; exact z, ?_⟩)
  have hf : H1 s1.heap.objs.size = none := I1.hok.fresh (Nat.le_refl _)
  refine ⟨.ref s1.heap.objs.size, upd H1 s1.heap.objs.size (.tup xs), I1.laid (t' := s1.toks) (fun b u e => Heap.get?_push_of_some _ e) (Nat.le_refl _) ?_, rfl, q _ hf⟩
  exact ⟨z, us, r, ⟨_, Heap.get?_push_size _ rfl, rfl, _, rfl⟩⟩
theorem pe_lst (h : PA X es t) : PE X (.List es pos) (tLst t) := by
  intro pins s σ H Q I hq
  refine wpAny_List_spliced (thn (h pos pins s σ H _ I hq) fun us s1 ⟨xs, H1, I1, r, z, q⟩ => ⟨by rw [← r.length]; exact z, ?_⟩)
  have hf : H1 s1.heap.objs.size = none := I1.hok.fresh (Nat.le_refl _)
  refine ⟨.ref s1.heap.objs.size, upd H1 s1.heap.objs.size (.lst xs), I1.laid (t' := s1.toks) (fun b u e => Heap.get?_push_of_some _ e) (Nat.le_refl _) ?_, rfl, q _ hf⟩
  exact ⟨z, us, 0, r, Heap.get?_push_size _ rfl⟩
end
abbrev Sp := List V → Hp → VK → XK → Prop
abbrev CXT := List Env → Hp → Shared → XK → Value → Shared → Prop
structure Env0 (P : Program) (w : World) (K : PySem.W.Frag) (mg : Str → Option Value) (base : Heap) (A : Around) (outer : List Env) (s : Shared) (H : Hp) : Prop where
  frames : A.frames = some outer
  mod : Mod K mg base
  bs : ∀ b o, base.get? b = some o → s.heap.get? b = some o ∧ H b = none
  bsz : base.objs.size ≤ s.heap.objs.size
  funs : s.heap.FunFrames base outer
  frf : ∀ b ∈ frs outer, H b = none
  hok : HOk P w H s.heap
  bare : AllBare s.gens
def CE (outer : List Env) (P : Program) (w : World) (H : Hp) (s : Shared) (Q : VK) (u : Value) (s' : Shared) : Prop :=
  ∃ v H', s'.os = s.os ∧ AllBare s'.gens ∧ Un (frs outer) [] H H' s.heap s'.heap ∧ HOk P w H' s'.heap ∧ RelV v u ∧ Q v H'
def CR (CX : CXT) (outer : List Env) (P : Program) (w : World) (H : Hp) (s : Shared) (Q : VK) (E : XK) (r : Result) (s' : Shared) : Prop :=
  match r with
  | .ok (.ret u) => CE outer P w H s Q u s'
  | .ok _ => False
  | .error e => CX outer H s E e s'
structure FnOk (P : Program) (w : World) (K : PySem.W.Frag) (mg : Str → Option Value) (base : Heap) (CX : CXT) (k : Nat) (f : Addr) (fd : FuncData) (ps : List Str) (sp : Sp) : Prop where
  len : ∀ vs H Q E, sp vs H Q E → vs.length = ps.length
  run : ∀ (A : Around) (outer : List Env) (s : Shared) (H : Hp) (args : Args) (us : List Value) (vs : List V) (Q : VK) (E : XK), Room k A → Env0 P w K mg base A outer s H → BindsTo s fd args (ps.zip us) → Vals vs us → sp vs H Q E →
    codeAny (model P w) A (.call (.ref f) args) (CR CX outer P w H s Q E) s
theorem FnOk.mono {P : Program} {w : World} {K : PySem.W.Frag} {mg : Str → Option Value} {base : Heap} {CX : CXT} {j k : Nat} {f : Addr} {fd : FuncData} {ps : List Str} {sp : Sp} (F : FnOk P w K mg base CX j f fd ps sp) (h : j ≤ k) :
    FnOk P w K mg base CX k f fd ps sp := ⟨F.len, fun A outer s H args us vs Q E hr => F.run A outer s H args us vs Q E (hr.mono h)⟩
theorem Env0.make {P : Program} {w : World} {K : PySem.W.Frag} {mg : Str → Option Value} {base : Heap} {A : Around} {outer : List Env} {s : Shared} {H : Hp} (e : Env0 P w K mg base A outer s H) (C : Addr) (us : List Value) (kw : List (Str × Value)) :
    Env0 P w K mg base (A.under (.builtin "type.__call__" ⟨.ref C :: us, kw⟩)) outer s H := ⟨by first | exact e.frames | (simpa [Around.under, Code.envs, Code.isFrame, pushEnvs] using e.frames), e.mod, e.bs, e.bsz, e.funs, e.frf, e.hok, e.bare⟩
section
variable {X : Cx} {pins : List (Addr × Obj)} {σ : St} {H : Hp} {s s' : Shared}
theorem Inv.env0 (I : Inv X pins σ H s) : Env0 X.prog X.w X.K X.mg X.base X.A X.stack s H :=
  ⟨I.ok.frames, I.ok.mod, I.bs, Nat.le_trans I.ok.bsz I.sz, I.stack, I.stkFree, I.hok, I.bare⟩
theorem Inv.after {Q : VK} {u : Value} (I : Inv X pins σ H s) (h : CE X.stack X.prog X.w H s Q u s') : EP X pins σ Q u s' := by
  obtain ⟨v, H', os, bare, un, hok, r, q⟩ := h
  obtain ⟨hh, g, d, t, os'⟩ := s'
  obtain rfl : os' = s.os := os
  exact ⟨v, H', I.call (h' := hh) (g' := g) (d' := d) (t' := t) (ch := []) un hok bare (fun b z => absurd z (by simp)), r, q⟩
end
def tCall (sp : Sp) (dvs : List V) (E : XK) (t : TA) : TE := fun σ H Q => t σ H fun vs H1 => sp (vs ++ dvs) H1 Q E
def tMeth (C : Addr) (m : Str) (sp : Sp) (dvs : List V) (E : XK) (ta : TE) (t : TA) : TE := fun σ H Q => ta σ H fun x H1 => ∃ a dx fs, x = .ref a ∧ H1 a = some (.ins C dx fs) ∧ fs.lookup m = none ∧
  t σ H1 fun vs H2 => sp (x :: (vs ++ dvs)) H2 Q E
def tMake (C : Addr) (sp : Sp) (dvs : List V) (E : XK) (t : TA) : TE := fun σ H Q => t σ H fun vs H1 => ∀ x dx, H1 x = none → H1 dx = none → dx ≠ x →
  sp (.ref x :: (vs ++ dvs)) (upd (upd H1 dx (.own x)) x (.ins C dx [])) (fun v H2 => v = .non ∧ Q (.ref x) H2) E
def Binds (K : PySem.W.Frag) (fd : FuncData) (ps : List Str) (ds : List Value) : Prop :=
  ∀ (s : Shared) (us : List Value), K.In s.heap → (us ++ ds).length = ps.length → BindsTo s fd ⟨us, []⟩ (ps.zip (us ++ ds))
theorem Binds.all {K : PySem.W.Frag} {fd : FuncData} {ps : List Str} (h : ∀ us : List Value, us.length = ps.length → bindArgs fd ⟨us, []⟩ = pure (ps.zip us)) : Binds K fd ps [] := fun s us _ hl => by
  rw [List.append_nil] at hl ⊢
  exact .of_eq (h us hl)
def Passes (CX : CXT) (X : Cx) (E : XK) : Prop := ∀ (pins : List (Addr × Obj)) (σ : St) (H : Hp) (s : Shared) (e : Value) (s' : Shared), Inv X pins σ H s → CX X.stack H s E e s' → X.xe e s'
section
variable {X : Cx} {CX : CXT} {k : Nat} {f C : Addr} {fd : FuncData} {ps : List Str} {sp : Sp} {dvs : List V} {ds : List Value} {E : XK} {x m : Str} {p pos apos : Pos} {e o : Expr} {es : List Expr} {ta : TE} {t : TA}
theorem run_fn {pins : List (Addr × Obj)} {σ : St} {H : Hp} {s : Shared} {Q : VK} {us : List Value} {vs : List V} (F : FnOk X.prog X.w X.K X.mg X.base CX k f fd ps sp) (hr : Room k X.A) (hb : Binds X.K fd ps ds) (hd : Vals dvs ds) (hx : Passes CX X E)
    (I : Inv X pins σ H s) (r : Vals vs us) (h : sp (vs ++ dvs) H Q E) : wpAny (model X.prog X.w) X.A (call (.ref f) us) (EP X pins σ Q) X.xe s := by
  have r2 : Vals (vs ++ dvs) (us ++ ds) := r.append hd
  have hl : (us ++ ds).length = ps.length := by rw [← r2.length]; exact F.len _ _ _ _ h
  refine wpAny_call (codeAny_mono (F.run X.A X.stack s H ⟨us, []⟩ (us ++ ds) (vs ++ dvs) Q E hr I.env0 (hb s us I.kIn hl) r2 h) fun r s' hq => ?_)
  cases r with
  | error e => exact hx pins σ H s e s' I hq
  | ok fl =>
    cases fl with
    | ret u => exact I.after hq
    | next => exact False.elim hq
    | brk => exact False.elim hq
    | cont => exact False.elim hq
theorem pe_call (F : FnOk X.prog X.w X.K X.mg X.base CX k f fd ps sp) (hr : Room k X.A) (hg : Gl X x) (hm : X.mg x = some (.ref f)) (hk : PySem.W.keepIn X.K (.ref f) = true) (hb : Binds X.K fd ps ds) (hd : Vals dvs ds) (hx : Passes CX X E)
    (ha : PA X (e :: es) t) (hdb : (x == ("__debug__" : Str)) = false := by decide) (he : starEach (e :: es) X.env = (false, eval e X.env) :: starEach es X.env := by rfl) (hpl : (backTo pos (starEach es X.env)).any (·.1) = false := by rfl) :
    PE X (.Call (.Name x p) (e :: es) [] pos) (tCall sp dvs E t) := by
  intro pins s σ H Q I h
  refine wpAny_Call_Name_kw (ld_glob I hg hm ?_ hdb)
  refine PySem.W.callWith_K (h₀ := X.base) I.ok.mod.kin hk (thn (ha pos pins s σ H _ I h) fun us s1 ⟨vs, H1, I1, r, q⟩ => ⟨I1.kIn, ?_⟩) he hpl
  exact run_fn F hr hb hd hx I1 r q
theorem pe_meth {pl : Sem Bool} (he : PE X o ta) (c : Cls X.K C) (hm : Meth X.K C m f) (F : FnOk X.prog X.w X.K X.mg X.base CX k f fd ps sp) (hr : Room k X.A) (hb : Binds X.K fd ps ds) (hd : Vals dvs ds) (hx : Passes CX X E) (ha : PA X (e :: es) t)
    (hst : starEach (e :: es) X.env = (false, eval e X.env) :: starEach es X.env := by rfl) (hpl : (backTo pos (starEach es X.env)).any (·.1) = false := by rfl)
    (ht : eval (.Call (.Attribute o m apos) (e :: es) [] pos) X.env = (do
      let ov ← eval o X.env
      standAt apos.atName
      let (f, first) ← holding [ov] (getMethod ov m pl)
      callWith pos f first (backTo pos (starEach (e :: es) X.env)) (backToKw pos (keywordEach [] X.env))) := by rfl) :
    PE X (.Call (.Attribute o m apos) (e :: es) [] pos) (tMeth C m sp dvs E ta t) := by
  intro pins s σ H Q I h
  refine PySem.W.methodCall_KW (pl := pl) (thn (he pins s σ H _ I h) fun u s1 ⟨x, H1, I1, rx, a, dx, fs, ex, ea, l, q⟩ => ?_) ht
  subst ex
  obtain rfl : u = Value.ref a := rx
  refine getmeth_ok I1 ea c hm l ?_
  refine PySem.W.callWith_K (first := [.ref a]) (h₀ := X.base) I.ok.mod.kin hm.kp (thn (ha pos pins s1 σ H1 _ I1 q) fun us s2 ⟨vs, H2, I2, r, q2⟩ => ⟨I2.kIn, ?_⟩) hst hpl
  exact run_fn (us := .ref a :: us) (vs := .ref a :: vs) F hr hb hd hx I2 (.cons rfl r) q2
theorem pe_meth0 {pl : Sem Bool} (he : PE X o ta) (c : Cls X.K C) (hm : Meth X.K C m f) (F : FnOk X.prog X.w X.K X.mg X.base CX k f fd ps sp) (hr : Room k X.A) (hb : Binds X.K fd ps ds) (hd : Vals dvs ds) (hx : Passes CX X E)
    (ht : eval (.Call (.Attribute o m apos) [] [] pos) X.env = (do
      let ov ← eval o X.env
      standAt apos.atName
      let (f, first) ← holding [ov] (getMethod ov m pl)
      callWith pos f first (backTo pos (starEach [] X.env)) (backToKw pos (keywordEach [] X.env))) := by rfl) :
    PE X (.Call (.Attribute o m apos) [] [] pos) (tMeth C m sp dvs E ta tNil) := by
  intro pins s σ H Q I h
  refine PySem.W.methodCall_KW (pl := pl) (thn (he pins s σ H _ I h) fun u s1 ⟨x, H1, I1, rx, a, dx, fs, ex, ea, l, q⟩ => ?_) ht
  subst ex
  obtain rfl : u = Value.ref a := rx
  refine getmeth_ok I1 ea c hm l ?_
  exact PySem.W.callWith_K0 (first := [.ref a]) I1.kIn hm.kp (run_fn (us := [.ref a]) (vs := [.ref a]) F hr hb hd hx I1 (.cons rfl .nil) q)
structure Mk (K : PySem.W.Frag) (C f : Addr) : Prop where
  makes : PySem.W.makesIn K C = true
  init : PySem.W.findIn K (.ref C) "__init__" = some (some (.ref f))
  fn : PySem.W.isFn K (.ref f) = true
  kp : PySem.W.keepIn K (.ref C) = true
theorem run_make {pins : List (Addr × Obj)} {σ : St} {H : Hp} {s : Shared} {Q : VK} {us : List Value} {vs : List V} (M : Mk X.K C f) (F : FnOk X.prog X.w X.K X.mg X.base CX k f fd ps sp) (hr : Room (k + 1) X.A) (hb : Binds X.K fd ps ds) (hd : Vals dvs ds)
    (hx : Passes CX X E) (I : Inv X pins σ H s) (r : Vals vs us)
    (h : ∀ x dx, H x = none → H dx = none → dx ≠ x → sp (.ref x :: (vs ++ dvs)) (upd (upd H dx (.own x)) x (.ins C dx [])) (fun v H2 => v = .non ∧ Q (.ref x) H2) E) :
    wpAny (model X.prog X.w) X.A (call (.ref C) us) (EP X pins σ Q) X.xe s := by
  have hq := h (s.heap.objs.size + 1) s.heap.objs.size (I.hok.fresh (Nat.le_succ _)) (I.hok.fresh (Nat.le_refl _)) (Nat.ne_of_lt (Nat.lt_succ_self _))
  have I2 := Inv.made (C := C) I
  have r2 : Vals (V.ref (s.heap.objs.size + 1) :: (vs ++ dvs)) (Value.ref (s.heap.objs.size + 1) :: (us ++ ds)) := .cons rfl (r.append hd)
  have hl : (Value.ref (s.heap.objs.size + 1) :: us ++ ds).length = ps.length := by
    have e := r2.length
    rw [F.len _ _ _ _ hq] at e
    exact e.symm
  refine wpAny_call (make_map (f := f) I.kIn M.makes M.init (beq_iff_eq.mp M.fn) (codeAny_mono (F.run _ X.stack _ _ ⟨Value.ref (s.heap.objs.size + 1) :: us, []⟩ (Value.ref (s.heap.objs.size + 1) :: (us ++ ds)) _ _ E (hr.make C us [])
    (I2.env0.make C us []) (hb _ (Value.ref (s.heap.objs.size + 1) :: us) I2.kIn hl) r2 hq) fun r s' hq' => ?_))
  cases r with
  | error e => exact hx pins σ _ _ e s' I2 hq'
  | ok fl =>
    cases fl with
    | ret u =>
      obtain ⟨v, H', I3, rv, ev, q3⟩ := I2.after hq'
      subst ev
      exact ⟨rv, ⟨V.ref (s.heap.objs.size + 1), H', I3, rfl, q3⟩⟩
    | next => exact False.elim hq'
    | brk => exact False.elim hq'
    | cont => exact False.elim hq'
theorem pe_make0 (M : Mk X.K C f) (F : FnOk X.prog X.w X.K X.mg X.base CX k f fd ps sp) (hr : Room (k + 1) X.A) (hg : Gl X x) (hm : X.mg x = some (.ref C)) (hb : Binds X.K fd ps ds) (hd : Vals dvs ds) (hx : Passes CX X E)
    (hdb : (x == ("__debug__" : Str)) = false := by decide) : PE X (.Call (.Name x p) [] [] pos) (tMake C sp dvs E tNil) := by
  intro pins s σ H Q I h
  refine wpAny_Call_Name_kw (ld_glob I hg hm ?_ hdb)
  exact PySem.W.callWith_K0 I.kIn M.kp (run_make (us := []) M F hr hb hd hx I .nil h)
end
section
variable {X : Cx} {CX : CXT} {k : Nat} {f C : Addr} {fd : FuncData} {ps ks : List Str} {sp : Sp} {E : XK} {x m : Str} {p pos apos kpos : Pos} {e o : Expr} {es : List Expr} {kws : List Keyword} {te ta : TE} {t tk : TA} {nm : Option Str}
variable {g : List Value → List Value → List Value} {gV : List V → List V → List V}
end
structure FnScope (N P : List Str) (sc : Scope) : Prop where
  kind : sc.kind = .function
  co : sc.isCoroutine = false
  gen : sc.isGenerator = false
  nd : N.Nodup
  pre : N.take P.length = P
  par : ∀ x ∈ P, sc.names.lookup x = some .local ∨ sc.names.lookup x = some .cell
  nofree : ∀ y ∈ sc.names, y.2 ≠ .free
theorem bindL_out {kindOf : Str → Option NameKind} {x : Str} : ∀ {binds : List (Str × Value)} {m : Str → Option Value}, (∀ v, (x, v) ∉ binds) → bindL kindOf binds m x = m x
  | [], _, _ => rfl
  | (n, v) :: r, m, h => by
    unfold bindL
    rw [bindL_out fun w hw => h w (List.mem_cons_of_mem _ hw)]
    split
    · have : x ≠ n := by rintro rfl; exact h v List.mem_cons_self
      simp [this]
    · rfl
theorem bindC_out {kindOf : Str → Option NameKind} {x : Str} : ∀ {binds : List (Str × Value)} {m : Str → Option Value}, (∀ v, (x, v) ∉ binds) → bindC kindOf binds m x = m x
  | [], _, _ => rfl
  | (n, v) :: r, m, h => by
    unfold bindC
    rw [bindC_out fun w hw => h w (List.mem_cons_of_mem _ hw)]
    split
    · rfl
    · have : x ≠ n := by rintro rfl; exact h v List.mem_cons_self
      simp [this]
theorem bindL_get {kindOf : Str → Option NameKind} {x : Str} {v : Value} : ∀ {P : List Str} {vs : List Value} {i : Nat} {m : Str → Option Value}, P.Nodup → P[i]? = some x → vs[i]? = some v → kindOf x = some .local →
    bindL kindOf (P.zip vs) m x = some v
  | [], _, _, _, _, h, _, _ => by simp at h
  | _ :: _, [], _, _, _, _, h, _ => by simp at h
  | p :: P, w :: vs, 0, m, nd, h1, h2, hk => by
    simp at h1 h2; subst h1; subst h2
    show bindL kindOf ((p, w) :: P.zip vs) m p = _
    unfold bindL
    rw [bindL_out fun v hv => (List.nodup_cons.mp nd).1 (List.of_mem_zip hv).1, if_pos hk]
    simp
  | p :: P, w :: vs, i + 1, m, nd, h1, h2, hk => by
    show bindL kindOf ((p, w) :: P.zip vs) m x = _
    unfold bindL
    exact bindL_get (i := i) (List.nodup_cons.mp nd).2 (by simpa using h1) (by simpa using h2) hk
theorem bindC_get {kindOf : Str → Option NameKind} {x : Str} {v : Value} : ∀ {P : List Str} {vs : List Value} {i : Nat} {m : Str → Option Value}, P.Nodup → P[i]? = some x → vs[i]? = some v → kindOf x ≠ some .local →
    bindC kindOf (P.zip vs) m x = some v
  | [], _, _, _, _, h, _, _ => by simp at h
  | _ :: _, [], _, _, _, _, h, _ => by simp at h
  | p :: P, w :: vs, 0, m, nd, h1, h2, hk => by
    simp at h1 h2; subst h1; subst h2
    show bindC kindOf ((p, w) :: P.zip vs) m p = _
    unfold bindC
    rw [bindC_out fun v hv => (List.nodup_cons.mp nd).1 (List.of_mem_zip hv).1, if_neg hk]
    simp
  | p :: P, w :: vs, i + 1, m, nd, h1, h2, hk => by
    show bindC kindOf ((p, w) :: P.zip vs) m x = _
    unfold bindC
    exact bindC_get (i := i) (List.nodup_cons.mp nd).2 (by simpa using h1) (by simpa using h2) hk
def start (N : List Str) (vs : List V) : St := vs.map some ++ List.replicate (N.length - vs.length) none
def cxOf (CX : CXT) (P : Program) (w : World) (K : PySem.W.Frag) (mg : Str → Option Value) (base : Heap) (N : List Str) (qual : Str) (scope : Scope) (f : Addr) (cd : Value) (A : Around) (outer : List Env) (s : Shared) (H : Hp) (E : XK) : Cx where
  prog := P
  w := w
  K := K
  mg := mg
  base := base
  A := A.deeper (envOfC qual scope s.heap.objs.size f cd)
  N := N
  s_0 := s
  H_0 := H
  env := envOfC qual scope s.heap.objs.size f cd
  outer := outer
  stack := envOfC qual scope s.heap.objs.size f cd :: outer
  ex := []
  calm := true
  fn := fun _ => true
  pn := []
  xe := fun e s' => wpAny (model P w) (A.deeper (envOfC qual scope s.heap.objs.size f cd)) (leaving (envOfC qual scope s.heap.objs.size f cd) e) (fun _ s'' => CX outer H s E e s'') (fun e' s'' => CX outer H s E e' s'') s'
theorem cell_has {sc : Scope} {n : Nat} {x : Str} (h : sc.names.lookup x = some .cell) : ∃ c, (cellsFrom n sc.names []).lookup x = some c := by
  have q := PySem.W.cellsFrom_some sc.names n [] (.inl h)
  exact Option.isSome_iff_exists.mp q
theorem inv_start {CX : CXT} {P : Program} {w : World} {K : PySem.W.Frag} {mg : Str → Option Value} {base : Heap} {N ps : List Str} {qual : Str} {scope : Scope} {f : Addr} {cd : Value} {A : Around} {outer : List Env} {s s1 : Shared} {H : Hp} {E : XK} {us : List Value} {vs : List V}
    (S : FnScope N ps scope) (hd : A.handled = none) (e0 : Env0 P w K mg base A outer s H) (hl : vs.length = ps.length) (r : Vals vs us)
    (x : InCallC s s.heap.objs.size (bindL (envOfC qual scope s.heap.objs.size f cd).kindOf (ps.zip us) fun _ => none) (cellsFrom (s.heap.objs.size + 1) scope.names []) (bindC (envOfC qual scope s.heap.objs.size f cd).kindOf (ps.zip us) fun _ => none) s1) :
    Inv (cxOf CX P w K mg base N qual scope f cd A outer s H E) [] (start N vs) H s1 := by
  have hpl : ps.length ≤ N.length := by have := congrArg List.length S.pre; rw [List.length_take] at this; omega
  obtain ⟨h1, tk, rfl, hk⟩ := x.done
  have noA : ∀ b : Addr, b ∉ (cxOf CX P w K mg base N qual scope f cd A outer s H E).ex := fun b z => absurd (show b ∈ ([] : List Addr) from z) (by simp)
  refine ⟨⟨e0.mod, S.kind, rfl, rfl, Nat.le_refl _, fun y z c h1 h2 => ?_, fun y hy => ?_, fun y c _ h => ?_, fun _ => hd, Around.frames_deeper e0.frames, .inr ⟨rfl, rfl⟩, fun b z => absurd z (noA b), e0.bs, e0.bsz, fun b _ _ => noA b, fun b z => absurd z (noA b), e0.funs, e0.frf⟩,
    rfl, e0.bare, Un.kept hk, ⟨_, x.toInCall.ns, fun i y v h1 h2 h3 => ?_⟩, fun y c h => ⟨_, x.cell y c h⟩, e0.hok.fresh (Nat.le_refl _), fun y c h => ?_, fun p hp => absurd (show p ∈ ([] : List (Addr × Obj)) from hp) (by simp), e0.hok.kept hk, ?_⟩
  · exact name_of_addr x.apart (PySem.mem_of_lookup h1) (PySem.mem_of_lookup h2)
  · have hy : scope.names.lookup y = some .cell ∨ scope.names.lookup y = some .free := hy
    rcases hy with hy | hy
    · exact cell_has hy
    · exact absurd rfl (S.nofree _ (PySem.mem_of_lookup hy))
  · exact Nat.le_of_lt (x.above y c (PySem.mem_of_lookup h))
  · have hi : i < vs.length := by
      unfold start at h2
      by_cases hi : i < vs.length
      · exact hi
      · rw [List.getElem?_append_right (by simpa using hi)] at h2
        rw [List.getElem?_replicate] at h2
        split at h2 <;> cases h2
    have ha : vs[i]? = some v := by
      unfold start at h2
      rw [List.getElem?_append_left (by simpa using hi), List.getElem?_map] at h2
      cases e : vs[i]? with
      | none => rw [e] at h2; cases h2
      | some a => rw [e] at h2; cases h2; rfl
    obtain ⟨u, hu, rv⟩ := r.get ha
    have hp : ps[i]? = some y := by
      rw [← S.pre, List.getElem?_take_of_lt (by omega)]; exact h1
    have ndP : ps.Nodup := by rw [← S.pre]; exact S.nd.sublist (List.take_sublist _ _)
    refine ⟨u, rv, ?_⟩
    rcases S.par y (List.mem_of_getElem? hp) with k | k
    · exact .inl ⟨k, bindL_get ndP hp hu k⟩
    · obtain ⟨c, e⟩ := cell_has (n := s.heap.objs.size + 1) k
      refine .inr ⟨.inl k, c, e, ?_⟩
      have q := x.cell y c e
      rw [bindC_get ndP hp hu (by show scope.names.lookup y ≠ _; rw [k]; decide)] at q
      exact q
  · exact e0.hok.fresh (Nat.le_of_lt (x.above y c (PySem.mem_of_lookup h)))
  · unfold start
    show _ = N.length
    rw [List.length_append, List.length_map, List.length_replicate]
    omega
theorem fn_of {CX : CXT} {P : Program} {w : World} {K : PySem.W.Frag} {mg : Str → Option Value} {base : Heap} {k : Nat} {f : Addr} {name qual : Str} {params : Arguments} {body : List Stmt} {scope : Scope} {dV kV doc pm cdv ct oc : Value} {an od : Option Addr}
    {osl : Array (Option Value)} {N ps : List Str} {sp : Sp} (lk : K.lookup f = some ⟨oc, od, .func (PySem.W.fnOf name qual params body scope dV kV doc pm an cdv ct), osl⟩) (hcd : PySem.W.codeIn K cdv qual = true) (S : FnScope N ps scope)
    (len : ∀ vs H Q E, sp vs H Q E → vs.length = ps.length)
    (hbody : ∀ (A : Around) (outer : List Env) (s : Shared) (H : Hp) (vs : List V) (Q : VK) (E : XK), Room k (A.deeper (envOfC qual scope s.heap.objs.size f cdv)) → sp vs H Q E →
      ∃ t, PSs (cxOf CX P w K mg base N qual scope f cdv A outer s H E) body t ∧ t { nx := fun _ H' => Q .non H', rt := Q } (start N vs) H) :
    FnOk P w K mg base CX (k + 1) f (PySem.W.fnOf name qual params body scope dV kV doc pm an cdv ct) ps sp := by
  refine ⟨len, fun A outer s H args us vs Q E hr e0 hb r hsp => ?_⟩
  have hl := len _ _ _ _ hsp
  have KX : K.In s.heap := e0.mod.kin.keeps fun b o e => (e0.bs b o e).1
  have lim : s.heap.NoLimit := e0.mod.nolimit.keeps fun b o e => (e0.bs b o e).1
  have hkind : ∀ y ∈ ps.zip us, scope.names.lookup y.1 = some .local ∨ (scope.names.lookup y.1 = some .cell ∧ ((cellsFrom (s.heap.objs.size + 1) scope.names []).lookup y.1).isSome = true) := fun ⟨n, v⟩ hy => by
    rcases S.par n (List.of_mem_zip hy).1 with q | q
    · exact .inl q
    · exact .inr ⟨q, PySem.W.cellsFrom_some _ _ _ (.inl q)⟩
  refine codeAny_call_function hr.depth (KX _ _ lk) rfl S.co S.gen rfl (PySem.W.codeRec_of KX hcd) (hb _ _ _ _ ?_)
  refine wpAny_newFunctionEnv_cells S.kind hkind fun env he s1 x => ?_
  subst he
  refine ⟨lim.keeps x.toInCall.keep, codeAny_func ?_⟩
  obtain ⟨t, ht, hq⟩ := hbody A outer s H vs Q E (hr.deeper _) hsp
  have I : Inv (cxOf CX P w K mg base N qual scope f cdv A outer s H E) [] (start N vs) H s1 := inv_start S hr.hd e0 hl r x
  refine wpAny_mono (ht [] s1 (start N vs) H _ I hq) (fun fl s' hs => ?_) fun e s' hs => hs
  have fin : ∀ {σ' : St} {H' : Hp} {v : V} {u : Value}, Inv (cxOf CX P w K mg base N qual scope f cdv A outer s H E) [] σ' H' s' → RelV v u → Q v H' → CE outer P w H s Q u s' :=
    fun {σ' H' v u} J rv q => ⟨v, H', J.os, J.bare, J.base, J.hok, rv, q⟩
  cases fl with
  | ret u =>
    obtain ⟨v, σ', H', J, rv, q⟩ := hs
    exact fin J rv q
  | next =>
    obtain ⟨σ', H', J, q⟩ := hs
    exact fin (v := V.non) (u := Value.none) J rfl q
  | brk =>
    obtain ⟨_, _, _, q⟩ := hs
    exact False.elim q
  | cont =>
    obtain ⟨_, _, _, q⟩ := hs
    exact False.elim q
end L2
namespace L2
open PySem PySem.Spec PyProof.Rows
section
variable {X : Cx} {x : Str} {p pos : Pos} {e : Expr} {es : List Expr} {t : TA} {id T : String} {r : List V → Hp → VK → Prop}
def tCB (r : List V → Hp → VK → Prop) (t : TA) : TE := fun σ H Q => t σ H fun vs H1 => r vs H1 Q
theorem pe_callB (hc : CallR X (.builtin id) r) (hg : Gl X x) (hm : X.mg x = none) (hv : bootBuiltins x = some (.builtin id)) (ha : PA X (e :: es) t) (hn : x ≠ "__name__" := by decide) (hdb : (x == ("__debug__" : Str)) = false := by decide)
    (he : starEach (e :: es) X.env = (false, eval e X.env) :: starEach es X.env := by rfl) (hpl : (backTo pos (starEach es X.env)).any (·.1) = false := by rfl) : PE X (.Call (.Name x p) (e :: es) [] pos) (tCB r t) := by
  intro pins s σ H Q I h
  refine wpAny_Call_Name_kw (ld_blt I hg hm hv ?_ hn hdb)
  exact PyProof.Rows.callWith_builtin1 (thn (ha pos pins s σ H _ I h) fun us s1 ⟨vs, H1, I1, r1, q1⟩ => hc pins s1 σ H1 vs us Q I1 r1 q1) he hpl
theorem pe_callTy (hc : CallR X (.type T) r) (hg : Gl X x) (hm : X.mg x = none) (hv : bootBuiltins x = some (.type T)) (ha : PA X (e :: es) t) (hn : x ≠ "__name__" := by decide) (hdb : (x == ("__debug__" : Str)) = false := by decide)
    (he : starEach (e :: es) X.env = (false, eval e X.env) :: starEach es X.env := by rfl) (hpl : (backTo pos (starEach es X.env)).any (·.1) = false := by rfl) : PE X (.Call (.Name x p) (e :: es) [] pos) (tCB r t) := by
  intro pins s σ H Q I h
  refine wpAny_Call_Name_kw (ld_blt I hg hm hv ?_ hn hdb)
  exact PyProof.Rows.callWith_type1 (thn (ha pos pins s σ H _ I h) fun us s1 ⟨vs, H1, I1, r1, q1⟩ => hc pins s1 σ H1 vs us Q I1 r1 q1) he hpl
end
end L2
namespace HT
open PySem PyProof.Rows
section
open PySem.SeqAt
open PySem.AutoSeq1 (wpAny_loadPart')
open PySem.MeetsSeq PySem.MeetsSeq2 PySem.MeetsSeq3
end
section
variable {prog : Program} {w : World} {A : Around} {E : Value → Shared → Prop} {s : Shared}
def sIx (n d : Nat) : Option Int → Nat
  | none => d
  | some v => if v < 0 then (v + (n : Int)).toNat else min v.toNat n
theorem sIx_none (n d : Nat) : sIx n d none = d := rfl
theorem sIx_nat (n d k : Nat) : sIx n d (some (k : Int)) = min k n := by
  show (if (k : Int) < 0 then ((k : Int) + (n : Int)).toNat else min (k : Int).toNat n) = min k n
  rw [if_neg (by omega), Int.toNat_natCast]
end
end HT
namespace L2
open PySem PySem.Spec PyProof.Rows
abbrev TO := St → Hp → (Option Int → Hp → Prop) → Prop
def PO (X : Cx) (e : Option Expr) (t : TO) : Prop :=
  ∀ (pins : List (Addr × Obj)) (s : Shared) (σ : St) (H : Hp) (Q : Option Int → Hp → Prop), Inv X pins σ H s → t σ H Q →
    wpAny (model X.prog X.w) X.A (evalPart e X.env) (fun u s' => ∃ o H', Inv X pins σ H' s' ∧ IsPart u o ∧ Q o H') X.xe s
def tNoPart : TO := fun _ H Q => Q none H
def tPart (t : TE) : TO := fun σ H Q => t σ H fun x H1 => ∃ i, x = .int i ∧ Q (some i) H1
section
variable {X : Cx} {e : Expr} {te : TE} {lo hi : Option Expr} {tl th : TO} {pos p2 : Pos}
theorem po_none : PO X none tNoPart := by
  intro pins s σ H Q I h
  rw [evalPart_none]
  exact wpAny_pure ⟨none, H, I, .none, h⟩
theorem po_some (h : PE X e te) : PO X (some e) (tPart te) := by
  intro pins s σ H Q I hw
  rw [evalPart_some]
  refine thn (h pins s σ H _ I hw) fun u s1 ⟨x, H1, I1, r1, q1⟩ => ?_
  obtain ⟨i, rfl, q⟩ := q1
  obtain ⟨t, rfl⟩ := r1
  exact ⟨some i, H1, I1, .int i t, q⟩
def SlR (X : Cx) (r : V → Option Int → Option Int → Hp → VK → Prop) : Prop :=
  ∀ (pins : List (Addr × Obj)) (s : Shared) (σ : St) (H : Hp) (x : V) (v vl vu : Value) (lo hi : Option Int) (sl : Addr) (Q : VK), Inv X pins σ H s → RelV x v → s.heap.IsSliceOf sl vl vu .none → IsPart vl lo → IsPart vu hi → r x lo hi H Q →
    ∃ T id, typeLookup (.type T) "__getitem__" = pure (some (.builtin id)) ∧ s.TypeIs v T ∧ wpAny (model X.prog X.w) X.A (getItem v (.ref sl)) (EP X pins σ Q) X.xe s
def tSl (r : V → Option Int → Option Int → Hp → VK → Prop) (te : TE) (tl th : TO) : TE := fun σ H Q => te σ H fun x H1 => tl σ H1 fun l H2 => th σ H2 fun u H3 => r x l u H3 Q
theorem pe_slice {r : V → Option Int → Option Int → Hp → VK → Prop} (hr : SlR X r) (he : PE X e te) (hl : PO X lo tl) (hu : PO X hi th) : PE X (.Subscript e (.Slice lo hi none p2) pos) (tSl r te tl th) := by
  intro pins s σ H Q I h
  refine Subscript_ (thn (he pins s σ H _ I h) fun v s1 ⟨x, H1, I1, r1, q1⟩ => ?_)
  refine wpAny_Slice (thn (hl pins s1 σ H1 _ I1 q1) fun vl s2 ⟨l, H2, I2, pl, q2⟩ => thn (hu pins s2 σ H2 _ I2 q2) fun vu s3 ⟨u, H3, I3, pu, q3⟩ => ?_)
  rw [evalPart_none]
  refine wpAny_pure ?_
  have I4 : Inv X pins σ H3 { s3 with heap := s3.heap.push { cls := .type "slice", data := .fields #[vl, vu, .none] } } := I3.kept (t' := s3.toks) fun b ob q => Heap.get?_push_of_some _ q
  obtain ⟨T, id, hT, ht, hg⟩ := hr pins { s3 with heap := s3.heap.push { cls := .type "slice", data := .fields #[vl, vu, .none] } } σ H3 x v vl vu l u s3.heap.objs.size Q I4 r1 (Heap.IsSliceOf.new ..) pl pu q3
  show wpAny (model X.prog X.w) X.A (subscriptTail e (.Slice lo hi none p2) v (.ref s3.heap.objs.size)) (EP X pins σ Q) X.xe { s3 with heap := s3.heap.push { cls := .type "slice", data := .fields #[vl, vu, .none] } }
  exact tail_any (ops := [.ref s3.heap.objs.size, v]) ht hT hg (by with_unfolding_all rfl)
def cutV (xs : List V) (lo hi : Option Int) : List V := (xs.drop (HT.sIx xs.length 0 lo)).take (HT.sIx xs.length xs.length hi - HT.sIx xs.length 0 lo)
theorem cutV_length (xs : List V) (lo hi : Option Int) : (cutV xs lo hi).length ≤ xs.length := by
  unfold cutV
  rw [List.length_take, List.length_drop]
  omega
end
end L2
namespace L2
open PySem PySem.Spec PyProof.Rows
def ixN (n : Nat) (i : Int) : Option Nat := if 0 ≤ i then (if i < n then some i.toNat else none) else if -(n : Int) ≤ i then some (i + n).toNat else none
def atI {α : Type} (xs : List α) (i : Int) : Option α := (ixN xs.length i).bind fun j => xs[j]?
theorem ixN_seq {n : Nat} {i : Int} {j : Nat} (h : ixN n i = some j) : seqIndex? i n = some j ∧ j < n ∧ -(n : Int) ≤ i ∧ i < n := by
  unfold ixN at h
  by_cases h0 : 0 ≤ i
  · rw [if_pos h0] at h
    by_cases h1 : i < n
    · rw [if_pos h1] at h
      have e : i.toNat = j := Option.some.inj h
      exact ⟨by rw [seqIndex_of h0 h1, e], by omega, by omega, h1⟩
    · rw [if_neg h1] at h; cases h
  · rw [if_neg h0] at h
    by_cases h1 : -(n : Int) ≤ i
    · rw [if_pos h1] at h
      have e : (i + n).toNat = j := Option.some.inj h
      exact ⟨by rw [seqIndex_neg (by omega) h1, e], by omega, h1, by omega⟩
    · rw [if_neg h1] at h; cases h
theorem atI_get {α : Type} {xs : List α} {i : Int} {v : α} (h : atI xs i = some v) : ∃ j, seqIndex? i xs.length = some j ∧ xs[j]? = some v ∧ j < xs.length ∧ -(xs.length : Int) ≤ i ∧ i < xs.length := by
  unfold atI at h
  cases e : ixN xs.length i with
  | none => rw [e] at h; cases h
  | some j =>
    rw [e] at h
    obtain ⟨h1, h2, h3, h4⟩ := ixN_seq e
    exact ⟨j, h1, h, h2, h3, h4⟩
theorem atI_nat {α : Type} {xs : List α} {j : Nat} {v : α} (h : xs[j]? = some v) : atI xs (j : Int) = some v := by
  have hj : j < xs.length := (List.getElem?_eq_some_iff.mp h).1
  have e : ixN xs.length (j : Int) = some j := by
    unfold ixN
    rw [if_pos (by omega), if_pos (by omega)]; simp
  unfold atI; rw [e]; exact h
def PlainIx (b : Expr) : Prop := ∀ o i, subscripted b false o i = operate [o, i] (getItem o i)
def IxR (X : Cx) (r : R2) : Prop :=
  ∀ (value slice : Expr) (pins : List (Addr × Obj)) (s : Shared) (σ : St) (H : Hp) (x y : V) (v u : Value) (Q : VK), Inv X pins σ H s → RelV x v → RelV y u → r x y H Q →
    subscripted slice false v u = operate [v, u] (getItem v u) → wpAny (model X.prog X.w) X.A (subscriptTail value slice v u) (EP X pins σ Q) X.xe s
def MtR (X : Cx) (id : String) (r : V → List V → Hp → VK → Prop) : Prop :=
  ∀ (pins : List (Addr × Obj)) (s : Shared) (σ : St) (H : Hp) (x : V) (xs : List V) (v : Value) (us : List Value) (Q : VK), Inv X pins σ H s → RelV x v → Vals xs us → r x xs H Q →
    wpAny (model X.prog X.w) X.A (call (.builtin id) (v :: us)) (EP X pins σ Q) X.xe s
section
variable {X : Cx} {a b : Expr} {ta tb : TE} {pos : Pos}
theorem pe_ix {r : R2} (hr : IxR X r) (ha : PE X a ta) (hb : PE X b tb) (hs : PlainIx b) : PE X (.Subscript a b pos) (tOp r ta tb) := by
  intro pins s σ H Q I h
  exact Subscript_ (binT ha hb I h fun v u s2 x y H2 I2 rx ry q => hr a b pins s2 σ H2 x y v u Q I2 rx ry q (hs _ _))
def rIxL (K : PySem.W.Frag) : R2 := fun x y H Q => ∃ p xs i v, x = .ref p ∧ y = .int i ∧ SqL K H p xs ∧ atI xs i = some v ∧ Q v H
def rIxT (K : PySem.W.Frag) : R2 := fun x y H Q => ∃ p xs i v, x = .ref p ∧ y = .int i ∧ SqT K H p xs ∧ atI xs i = some v ∧ Q v H
theorem ix_list : IxR X (rIxL X.K) := by
  intro value slice pins s σ H x y v u Q I rx ry h hs
  obtain ⟨p, xs, i, z, rfl, rfl, hq, he, q⟩ := h
  cases rx
  obtain ⟨t, rfl⟩ := ry
  obtain ⟨its, r, pl, hz⟩ := I.list hq
  obtain ⟨j, h1, h2, h3, h4, h5⟩ := atI_get he
  obtain ⟨w, ew, rw'⟩ := r.get h2
  have hl := r.length
  have hn := line63
  have fin : EP X pins σ Q w s := ⟨z, H, I, rw', q⟩
  by_cases h0 : 0 ≤ i
  · have hj : i.toNat = j := by
      rw [seqIndex_of h0 h5] at h1
      exact Option.some.inj h1
    exact item_listR pl.isList h0 (by omega) (by rw [hj]; simpa using ew) fin hs
  · have hj : (i + (its.toArray.size : Int)).toNat = j := by
      rw [seqIndex_neg (by omega) h4] at h1
      rw [List.size_toArray, ← hl]
      exact Option.some.inj h1
    exact subscriptTail_builtinR (x := w) pl.isList.typeIs slot_list_getitem.lookup
      (wpAny_getItem_list_neg (Q := fun r s' => r = w ∧ EP X pins σ Q r s') pl.isList (by omega) (by rw [List.size_toArray] <;> omega) (by omega) (by rw [hj]; simpa using ew) ⟨rfl, fin⟩) hs
theorem ix_tup : IxR X (rIxT X.K) := by
  intro value slice pins s σ H x y v u Q I rx ry h hs
  obtain ⟨p, xs, i, z, rfl, rfl, hq, he, q⟩ := h
  cases rx
  obtain ⟨t, rfl⟩ := ry
  obtain ⟨its, r, pl, hz⟩ := I.tuple hq
  obtain ⟨j, h1, h2, h3, h4, h5⟩ := atI_get he
  obtain ⟨w, ew, rw'⟩ := r.get h2
  have hl := r.length
  have hn := line63
  have fin : EP X pins σ Q w s := ⟨z, H, I, rw', q⟩
  exact subscriptTail_builtinR (x := w) pl.typeIs slot_tuple_getitem.lookup
    (getItem_tuple (j := j) (Q := fun r s' => r = w ∧ EP X pins σ Q r s') pl (by omega) (by omega) (by rw [List.size_toArray, ← hl]; exact h1) (by simpa using ew) ⟨rfl, fin⟩) hs
theorem mapSeq_set (its : List Value) (n j : Nat) (u : Value) : Obj.mapSeq (·.setIfInBounds j u) { cls := .type "list", data := .seq its.toArray n } = { cls := .type "list", data := .seq (its.set j u).toArray n } := by
  simp [Obj.mapSeq]
theorem Inv.lst {pins : List (Addr × Obj)} {σ : St} {H : Hp} {s : Shared} {p : Addr} {xs : List V} (I : Inv X pins σ H s) (h : H p = some (.lst xs)) :
    ∃ (its : List Value) (n : Nat), Vals xs its ∧ s.heap.get? p = some { cls := .type "list", data := .seq its.toArray n } ∧ xs.length ≤ sizeLine := by
  obtain ⟨z, its, n, r, e⟩ := I.hok p _ h
  exact ⟨its, n, r, e, z⟩
theorem Inv.lstUpd {pins : List (Addr × Obj)} {σ : St} {H : Hp} {s : Shared} {p : Addr} {xs ys : List V} {its its' : List Value} {n n' : Nat} {f : Obj → Obj} (I : Inv X pins σ H s) (h : H p = some (.lst xs))
    (ho : s.heap.get? p = some { cls := .type "list", data := .seq its.toArray n }) (hf : f { cls := .type "list", data := .seq its.toArray n } = { cls := .type "list", data := .seq its'.toArray n' }) (r : Vals ys its') (hz : ys.length ≤ sizeLine) (t : Nat) :
    Inv X pins σ (upd H p (.lst ys)) { s with heap := s.heap.update p f, toks := t } := by
  have e : (s.heap.update p f).get? p = some { cls := .type "list", data := .seq its'.toArray n' } := by
    rw [Heap.get?_update_self f ho (by rw [hf] <;> rfl), hf]
  refine I.write (x := p) (e := p) (by rw [h]; trivial) (.inl rfl) (fun b u hb q => (Heap.get?_update_other _ _ (Ne.symm hb)).trans q) ⟨_, e⟩ ?_
  exact ⟨hz, its', n', r, e⟩
def rSetL : V → V → V → Hp → (Hp → Prop) → Prop := fun o i v H Q => ∃ p xs k j, o = .ref p ∧ i = .int k ∧ H p = some (.lst xs) ∧ ixN xs.length k = some j ∧ Q (upd H p (.lst (xs.set j v)))
theorem set_list : PSet X rSetL := by
  intro pins s σ H o i v ov iv u Q I ro ri rv h
  obtain ⟨p, xs, k, j, rfl, rfl, hp, hj, q⟩ := h
  cases ro
  obtain ⟨t, rfl⟩ := ri
  obtain ⟨its, n, r, ho, hz⟩ := I.lst hp
  obtain ⟨h1, h2, h3, h4⟩ := ixN_seq hj
  have hl := r.length
  have hn := line63
  have I' : Inv X pins σ (upd H p (.lst (xs.set j v))) { s with heap := s.heap.update p (Obj.mapSeq (·.setIfInBounds j u)) } :=
    I.lstUpd hp ho (mapSeq_set its n j u) (r.set rv j) (by rw [List.length_set]; exact hz) s.toks
  by_cases h0 : 0 ≤ k
  · have hk : k.toNat = j := by
      rw [seqIndex_of h0 h4] at h1
      exact Option.some.inj h1
    exact PySem.W.ki_setAt ho h0 (by omega) (by rw [List.size_toArray, ← hl]; exact h4) (by rw [hk]; exact ⟨_, I', q⟩)
  · have hk : (k + (its.toArray.size : Int)).toNat = j := by
      rw [seqIndex_neg (by omega) h3] at h1
      rw [List.size_toArray, ← hl]
      exact Option.some.inj h1
    exact PySem.W.ki_setBack ho (by omega) (by rw [List.size_toArray, ← hl]; exact h3) (by omega) (by rw [hk]; exact ⟨_, I', q⟩)
theorem slice_bounds (lo hi : Option Int) (n : Nat) : (sliceBounds lo hi none n).1 = ((HT.sIx n 0 lo : Nat) : Int) ∧ (sliceBounds lo hi none n).2.1 = ((HT.sIx n n hi : Nat) : Int) ∧ (sliceBounds lo hi none n).2.2 = 1 := by
  refine ⟨?_, ?_, rfl⟩
  · cases lo with
    | none => simp [sliceBounds, HT.sIx]
    | some i =>
      simp only [sliceBounds, HT.sIx, Option.getD_none, show (1 : Int) > 0 by decide, if_true]
      by_cases h : i < 0
      · simp only [h, if_true] <;> omega
      · simp only [h, if_false] <;> omega
  · cases hi with
    | none => simp [sliceBounds, HT.sIx]
    | some i =>
      simp only [sliceBounds, HT.sIx, Option.getD_none, show (1 : Int) > 0 by decide, if_true]
      by_cases h : i < 0
      · simp only [h, if_true] <;> omega
      · simp only [h, if_false] <;> omega
theorem slicePick_cut (its : List Value) (lo hi : Option Int) : slicePick its.toArray lo hi none = ((its.drop (HT.sIx its.length 0 lo)).take (HT.sIx its.length its.length hi - HT.sIx its.length 0 lo)).toArray := by
  obtain ⟨h1, h2, h3⟩ := slice_bounds lo hi its.toArray.size
  unfold slicePick
  rw [h1, h2, h3]
  simp only [sliceRange_one, pick_run, List.size_toArray] <;> rfl
def rSlL (K : PySem.W.Frag) : V → Option Int → Option Int → Hp → VK → Prop := fun x lo hi H Q => ∃ a xs, x = .ref a ∧ SqL K H a xs ∧ ∀ p, H p = none → Q (.ref p) (upd H p (.lst (cutV xs lo hi)))
theorem sl_list : SlR X (rSlL X.K) := by
  intro pins s σ H x v vl vu lo hi sl Q I rx hs pl pu h
  obtain ⟨a, xs, rfl, hx, q⟩ := h
  cases rx
  obtain ⟨its, r, ht, hz⟩ := I.list hx
  have hlen := r.length
  refine ⟨"list", _, slot_list_getitem.lookup, ht.isList.typeIs, ?_⟩
  refine wpAny_getItem_list_slice ht.isList hs pl pu .none (by simp) ?_ (by rw [List.size_toArray] <;> omega)
  rw [slicePick_cut, ← hlen]
  refine ⟨.ref s.heap.objs.size, _, I.laid (t' := s.toks) (o := .lst (cutV xs lo hi)) (fun b ob q => Heap.get?_push_of_some _ q) (Nat.le_refl _) ?_, rfl, q _ (I.hok.fresh (Nat.le_refl _))⟩
  exact ⟨Nat.le_trans (cutV_length xs lo hi) hz, _, 0, (r.drop (HT.sIx xs.length 0 lo)).take (HT.sIx xs.length xs.length hi - HT.sIx xs.length 0 lo), Heap.get?_push_size _ rfl⟩
def flatV : V → Bool
  | .non => true
  | .bl _ => true
  | .int _ => true
  | .str _ => true
  | _ => false
def eqV : V → V → Bool
  | .non, .non => true
  | .bl a, .bl b => a == b
  | .bl a, .int b => (if a then 1 else 0) == b
  | .int a, .bl b => a == (if b then 1 else 0)
  | .int a, .int b => a == b
  | .str a, .str b => a == b
  | _, _ => false
theorem eqAt_V {A : Around} {s : Shared} {y x : V} {u v : Value} (ry : RelV y u) (rx : RelV x v) (fy : flatV y = true) (fx : flatV x = true) : SeqAt.EqAt A s u v (eqV y x) := by
  cases y with
  | non =>
    cases ry
    cases x with
    | non => cases rx; exact SeqAt.EqAt.same _
    | bl b => cases rx; exact SeqAt.EqAt.none_bool b
    | int b => obtain ⟨t, rfl⟩ := rx; exact SeqAt.EqAt.none_int b t
    | str b => obtain ⟨t, rfl⟩ := rx; exact SeqAt.EqAt.none_str b t
    | _ => exact absurd (show false = true from fx) Bool.false_ne_true
  | bl a =>
    cases ry
    cases x with
    | non => cases rx; exact SeqAt.EqAt.bool_none a
    | bl b => cases rx; exact SeqAt.EqAt.bool_bool a b
    | int b => obtain ⟨t, rfl⟩ := rx; exact SeqAt.EqAt.bool_int a b t
    | str b => obtain ⟨t, rfl⟩ := rx; exact SeqAt.EqAt.bool_str a b t
    | _ => exact absurd (show false = true from fx) Bool.false_ne_true
  | int a =>
    obtain ⟨t', rfl⟩ := ry
    cases x with
    | non => cases rx; exact SeqAt.EqAt.int_none a t'
    | bl b => cases rx; exact SeqAt.EqAt.int_bool a t' b
    | int b => obtain ⟨t, rfl⟩ := rx; exact SeqAt.EqAt.int_int a t' b t
    | str b => obtain ⟨t, rfl⟩ := rx; exact SeqAt.EqAt.int_str a t' b t
    | _ => exact absurd (show false = true from fx) Bool.false_ne_true
  | str a =>
    obtain ⟨t', rfl⟩ := ry
    cases x with
    | non => cases rx; exact SeqAt.EqAt.str_none a t'
    | bl b => cases rx; exact SeqAt.EqAt.str_bool a t' b
    | int b => obtain ⟨t, rfl⟩ := rx; exact SeqAt.EqAt.str_int a t' b t
    | str b => obtain ⟨t, rfl⟩ := rx; exact SeqAt.EqAt.str_str a t' b t
    | _ => exact absurd (show false = true from fx) Bool.false_ne_true
  | _ => exact absurd (show false = true from fy) Bool.false_ne_true
def eqU (x : V) (u : Value) : Bool := match u with
  | .none => eqV .non x
  | .bool b => eqV (.bl b) x
  | .int i _ => eqV (.int i) x
  | .str z _ => eqV (.str z) x
  | _ => false
theorem eqU_of {x y : V} {u : Value} (r : RelV y u) (f : flatV y = true) : eqU x u = eqV y x := by
  cases y with
  | non => cases r; rfl
  | bl b => cases r; rfl
  | int i => obtain ⟨t, rfl⟩ := r; rfl
  | str z => obtain ⟨t, rfl⟩ := r; rfl
  | _ => exact absurd (show false = true from f) Bool.false_ne_true
theorem any_eqU {x : V} : ∀ {xs : List V} {us : List Value}, Vals xs us → xs.all flatV = true → us.any (eqU x) = xs.any fun y => eqV y x
  | _, _, .nil, _ => rfl
  | y :: xs, u :: us, .cons r t, f => by
    rw [List.all_cons, Bool.and_eq_true] at f
    rw [List.any_cons, List.any_cons, eqU_of r f.1, any_eqU t f.2]
theorem mem_eqAt {A : Around} {s : Shared} {x : V} {v : Value} (rx : RelV x v) (fx : flatV x = true) : ∀ {xs : List V} {us : List Value}, Vals xs us → xs.all flatV = true → ∀ u ∈ us, SeqAt.EqAt A s u v (eqU x u)
  | _, _, .nil, _ => fun u hu => by cases hu
  | y :: xs, u :: us, .cons r t, f => fun u' hu => by
    rw [List.all_cons, Bool.and_eq_true] at f
    rcases List.mem_cons.mp hu with rfl | hu
    · rw [eqU_of r f.1]; exact eqAt_V r rx f.1 fx
    · exact mem_eqAt rx fx t f.2 u' hu
def inV (x : V) (xs : List V) : Bool := xs.any fun y => eqV y x
def rIn (K : PySem.W.Frag) (neg : Bool) : R2 := fun x y H Q => ∃ p xs, y = .ref p ∧ (SqL K H p xs ∨ SqT K H p xs) ∧ flatV x = true ∧ xs.all flatV = true ∧ Q (.bl (if neg then !inV x xs else inV x xs)) H
theorem op_notIn_seq : OpR X (compareOp .NotIn) (rIn X.K true) := by
  intro pins s σ H x y v u Q I rx ry h
  obtain ⟨p, xs, rfl, hq, fx, fs, q⟩ := h
  cases ry
  rcases hq with hq | hq
  · obtain ⟨its, r, pl, hz⟩ := I.list hq
    refine SeqAt.notIn_listAt (eqU x) pl.isList (fun w hw => mem_eqAt rx fx r fs w (by simpa using hw)) ⟨.bl _, H, I, rfl, ?_⟩
    rw [show its.toArray.any (eqU x) = its.any (eqU x) by simp, any_eqU r fs]
    exact q
  · obtain ⟨its, r, pl, hz⟩ := I.tuple hq
    refine SeqAt.notIn_tupleAt (eqU x) pl (fun w hw => mem_eqAt rx fx r fs w (by simpa using hw)) ⟨.bl _, H, I, rfl, ?_⟩
    rw [show its.toArray.any (eqU x) = its.any (eqU x) by simp, any_eqU r fs]
    exact q
theorem call_len_seq : CallR X (.builtin "len") (fun xs H Q => ∃ p ys, xs = [.ref p] ∧ (SqL X.K H p ys ∨ SqT X.K H p ys) ∧ Q (.int ys.length) H) := by
  intro pins s σ H xs us Q I r h
  obtain ⟨p, ys, rfl, hq, q⟩ := h
  obtain ⟨u, rfl, rx⟩ := vals1 r
  cases rx
  have hn := line63
  rcases hq with hq | hq
  · obtain ⟨its, r', pl, hz⟩ := I.list hq
    have hlen := r'.length
    exact Calls.call_len_list pl.isList (by simp only [List.size_toArray] <;> omega) ⟨.int ys.length, H, I.tok _, ⟨s.toks + 1, by rw [List.size_toArray, hlen]⟩, q⟩
  · obtain ⟨its, r', pl, hz⟩ := I.tuple hq
    have hlen := r'.length
    exact len_tuple pl (by simp only [List.size_toArray] <;> omega) ⟨.int ys.length, H, I.tok _, ⟨s.toks + 1, by rw [List.size_toArray, hlen]⟩, q⟩
theorem call_list_of : CallR X (.type "list") (fun xs H Q => ∃ p ys, xs = [.ref p] ∧ (SqL X.K H p ys ∨ SqT X.K H p ys) ∧ ∀ l, H l = none → Q (.ref l) (upd H l (.lst ys))) := by
  intro pins s σ H xs us Q I r h
  obtain ⟨p, ys, rfl, hq, q⟩ := h
  obtain ⟨u, rfl, rx⟩ := vals1 r
  cases rx
  have fin : ∀ (its : List Value), Vals ys its → ys.length ≤ sizeLine → ∀ (h' : Heap) (c' : Nat), (∀ b o', s.heap.get? b = some o' → h'.get? b = some o') →
      h'.get? s.heap.objs.size = some { cls := .type "list", dict := none, data := .seq its.toArray c', slots := #[] } → EP X pins σ Q (.ref s.heap.objs.size) { s with heap := h' } := fun its r' hz h' c' kp e =>
    ⟨.ref s.heap.objs.size, _, I.laid (t' := s.toks) kp (Nat.le_refl _) (show ObjOk X.prog X.w _ h' _ (.lst ys) from ⟨hz, its, c', r', e⟩), rfl, q _ (I.hok.fresh (Nat.le_refl _))⟩
  rcases hq with hq | hq
  · obtain ⟨its, r', pl, hz⟩ := I.list hq
    have hlen := r'.length
    obtain ⟨o, ho, hc, n, hd⟩ := pl.isList
    exact call_list_seq p (.inl rfl) ho hc hd (fun h' c' kp e => fin its r' hz h' c' kp e) (by simp only [List.size_toArray] <;> omega)
  · obtain ⟨its, r', pl, hz⟩ := I.tuple hq
    have hlen := r'.length
    obtain ⟨o, ho, hc, n, hd⟩ := pl
    exact call_list_seq p (.inr rfl) ho hc hd (fun h' c' kp e => fin its r' hz h' c' kp e) (by simp only [List.size_toArray] <;> omega)
def tyV (K : PySem.W.Frag) (T : String) (x : V) (H : Hp) : Prop := match x with
  | .str _ => T = "str"
  | .int _ => T = "int"
  | .ref p => (T = "list" ∧ ∃ xs, SqL K H p xs) ∨ (T = "tuple" ∧ ∃ o, K.lookup p = some o ∧ o.cls = .type "tuple" ∧ o.dict = none) ∨
      (T = "dict" ∧ ((∃ kvs, H p = some (.dK kvs)) ∨ ∃ kvs, H p = some (.dT kvs))) ∨ (T = "set" ∧ ∃ S n, H p = some (.set S n))
  | _ => False
theorem tyV_is {pins : List (Addr × Obj)} {σ : St} {H : Hp} {s : Shared} {T : String} {x : V} {v : Value} (I : Inv X pins σ H s) (r : RelV x v) (ty : tyV X.K T x H) :
    s.TypeIs v T ∧ ∀ a, v = .ref a → ∃ ob, s.heap.get? a = some ob ∧ ob.dict = none := by
  cases x with
  | str z =>
    obtain ⟨t, rfl⟩ := r
    cases (show T = "str" from ty)
    exact ⟨typeIs_str s z t, fun _ e => nomatch e⟩
  | int i =>
    obtain ⟨t, rfl⟩ := r
    cases (show T = "int" from ty)
    exact ⟨typeIs_int s i t, fun _ e => nomatch e⟩
  | ref p =>
    cases r
    rcases ty with ⟨rfl, xs, hq⟩ | ⟨rfl, o, hk, hc, hd⟩ | ⟨rfl, hk⟩ | ⟨rfl, S, n, hk⟩
    · obtain ⟨its, _, pl, _⟩ := I.list hq
      refine ⟨pl.isList.typeIs, fun a e => ?_⟩
      cases e
      obtain ⟨o, n, e, c, hd, _⟩ := pl
      exact ⟨o, e, hd⟩
    · refine ⟨⟨o, I.kIn p o hk, hc⟩, fun a e => ?_⟩
      cases e
      exact ⟨o, I.kIn _ o hk, hd⟩
    · have z : ∃ o, s.heap.get? p = some o ∧ o.ExactDict := by
        rcases hk with ⟨kvs, hk⟩ | ⟨kvs, hk⟩
        · obtain ⟨_, _, _, _, o, _, _, e, ex, _⟩ := I.hok p _ hk
          exact ⟨o, e, ex⟩
        · obtain ⟨_, _, _, _, o, _, _, e, ex, _⟩ := I.hok p _ hk
          exact ⟨o, e, ex⟩
      obtain ⟨o, e, ex⟩ := z
      refine ⟨⟨o, e, ex.1⟩, fun a e2 => ?_⟩
      cases e2
      exact ⟨o, e, ex.2.1⟩
    · obtain ⟨o, _, _, _, e, ex, _⟩ := I.hok p _ hk
      refine ⟨⟨o, e, ex.1⟩, fun a e2 => ?_⟩
      cases e2
      exact ⟨o, e, ex.2.1⟩
  | _ => exact False.elim ty
def tBM (K : PySem.W.Frag) (T : String) (r : V → List V → Hp → VK → Prop) (to : TE) (t : TA) : TE := fun σ H Q => to σ H fun x H1 => tyV K T x H1 ∧ t σ H1 fun xs H2 => r x xs H2 Q
variable {o e : Expr} {es : List Expr} {to : TE} {t : TA} {name : Str} {apos cpos : Pos} {T id : String} {r : V → List V → Hp → VK → Prop}
theorem pe_bm (pa : PlainAttrs T) (slot : Slot T name id) (hty : typeOf (.builtin id) = pure (.type "method_descriptor")) (hm : MtR X id r) (ho : PE X o to) (ha : PA X (e :: es) t)
    (hbase : attributeBase o name X.env (eval o X.env) = eval o X.env := by rfl)
    (hfew : ((backTo cpos (starEach (e :: es) X.env)).all (fun x => !x.1) && (backToKw cpos (keywordEach [] X.env)).all (fun x => x.1.isSome)
      && decide ((e :: es).length + ([] : List Keyword).length + (if ([] : List Keyword).isEmpty then 0 else 1) < 30)) = true := by rfl)
    (hline : (apos.endLine == cpos.line) = true := by rfl) (hs : starEach (e :: es) X.env = (false, eval e X.env) :: starEach es X.env := by rfl) (hplain : (backTo cpos (starEach es X.env)).any (·.1) = false := by rfl) :
    PE X (.Call (.Attribute o name apos) (e :: es) [] cpos) (tBM X.K T r to t) := by
  intro pins s σ H Q I h
  refine wpAny_Call_method_late hbase hfew hline rfl (thn (ho pins s σ H _ I h) fun v s1 ⟨x, H1, I1, r1, ty, q1⟩ => ?_)
  obtain ⟨h1, h2⟩ := tyV_is I1 r1 ty
  refine ⟨T, id, pa, slot, hty, h1, h2, ?_⟩
  have hA := ha cpos pins s1 σ H1 _ I1 q1
  rw [hs] at hA ⊢
  refine Calls.callWith_builtin (by show (false || (backTo cpos (starEach es X.env)).any (·.1)) = false; rw [hplain] <;> rfl) (Calls.evalArgs_plain ?_)
  exact thn hA fun us s2 ⟨vs, H2, I2, r2, q2⟩ => hm pins s2 σ H2 x vs v us Q I2 r1 r2 q2
end
end L2
namespace L2
open PySem PySem.Spec PyProof.Rows
def MtM (X : Cx) (id : String) (r : V → List V → Hp → VK → Prop) : Prop :=
  ∀ (pins : List (Addr × Obj)) (s : Shared) (σ : St) (H : Hp) (x : V) (xs : List V) (v : Value) (us : List Value) (Q : VK), Inv X pins σ H s → RelV x v → Vals xs us → r x xs H Q →
    wpAny (model X.prog X.w) X.A (call (.builtin id) (v :: us)) (EP X pins σ Q) X.xe s
theorem Vals.one : ∀ {x : V} {us : List Value}, Vals [x] us → ∃ u, us = [u] ∧ RelV x u
  | _, _, .cons r .nil => ⟨_, rfl, r⟩
theorem Vals.two : ∀ {x y : V} {us : List Value}, Vals [x, y] us → ∃ u v, us = [u, v] ∧ RelV x u ∧ RelV y v
  | _, _, _, .cons r (.cons q .nil) => ⟨_, _, rfl, r, q⟩
theorem Vals.zero : ∀ {us : List Value}, Vals [] us → us = []
  | _, .nil => rfl
theorem Vals.rep {xs : List V} {us : List Value} (h : Vals xs us) : ∀ k : Nat, Vals (List.replicate k xs).flatten (List.replicate k us).flatten
  | 0 => .nil
  | k + 1 => by
    rw [List.replicate_succ, List.replicate_succ, List.flatten_cons, List.flatten_cons]
    exact Vals.append h (Vals.rep h k)
theorem foldl_rep (its : List Value) : ∀ (k : Nat) (acc : List Value),
    List.foldl (fun x1 x2 => x1 ++ x2) acc.toArray (List.replicate k its.toArray) = (acc ++ (List.replicate k its).flatten).toArray
  | 0, acc => by simp
  | k + 1, acc => by
    have e : acc.toArray ++ its.toArray = (acc ++ its).toArray := by simp
    have e2 : (acc ++ its) ++ (List.replicate k its).flatten = acc ++ (List.replicate (k + 1) its).flatten := by
      rw [List.replicate_succ, List.flatten_cons, List.append_assoc]
    rw [← e2, ← foldl_rep its k (acc ++ its), ← e, List.replicate_succ, List.foldl_cons]
section
variable {X : Cx} {pins : List (Addr × Obj)} {σ : St} {H : Hp} {s : Shared} {l b : Addr} {xs ys zs : List V}
theorem Inv.lset {its its' : List Value} {n : Nat} {f : Array Value → Array Value} {t' : Nat} (I : Inv X pins σ H s) (hH : H l = some (.lst xs))
    (e : s.heap.get? l = some { cls := .type "list", data := .seq its.toArray n }) (hf : f its.toArray = its'.toArray) (hv : Vals ys its') (hz : ys.length ≤ sizeLine) :
    Inv X pins σ (upd H l (.lst ys)) { s with heap := s.heap.update l (Obj.mapSeq f), toks := t' } := by
  have q := PySem.IsL.update e f
  rw [hf] at q
  refine I.write (x := l) (e := l) (by rw [hH]; exact trivial) (.inl rfl) (fun b' u hb hu => (Heap.get?_update_other s.heap (Obj.mapSeq f) (Ne.symm hb)).trans hu) ⟨_, q⟩ ?_
  exact ⟨hz, its', _, hv, q⟩
theorem Inv.lnew {its : List Value} {t' : Nat} (I : Inv X pins σ H s) (hv : Vals ys its) (hz : ys.length ≤ sizeLine) :
    Inv X pins σ (upd H s.heap.objs.size (.lst ys)) { s with heap := s.heap.push { cls := .type "list", data := .seq its.toArray }, toks := t' } :=
  I.laid (fun _ _ q => Heap.get?_push_of_some _ q) (Nat.le_refl _) ⟨hz, its, 0, hv, Heap.get?_push_size _ rfl⟩
theorem Inv.fresh (I : Inv X pins σ H s) : H s.heap.objs.size = none := I.hok.fresh (Nat.le_refl _)
theorem Inv.lstM (I : Inv X pins σ H s) (hH : H l = some (.lst xs)) : xs.length ≤ sizeLine ∧ ∃ (its : List Value) (n : Nat), Vals xs its ∧ xs.length = its.length ∧ s.heap.get? l = some { cls := .type "list", data := .seq its.toArray n } := by
  obtain ⟨z, its, n, r, e⟩ := I.hok l _ hH
  exact ⟨z, its, n, r, r.length, e⟩
theorem notLongL {n : Nat} (h : n ≤ sizeLine) : Builtin.List.listTooLong n = false := by
  unfold Builtin.List.listTooLong
  exact decide_eq_false (by omega)
end
section
variable {X : Cx}
def rAppend : V → List V → Hp → VK → Prop := fun x vs H Q => ∃ l xs y, x = .ref l ∧ vs = [y] ∧ H l = some (.lst xs) ∧ xs.length < sizeLine ∧ Q .non (upd H l (.lst (xs ++ [y])))
theorem mt_append : MtM X "list.append" rAppend := by
  intro pins s σ H x vs v us Q I rx rv h
  obtain ⟨l, xs, y, rfl, rfl, hH, hz, q⟩ := h
  cases rx
  obtain ⟨u, rfl, ru⟩ := rv.one
  obtain ⟨z, its, n, r, hl, e⟩ := I.lstM hH
  refine call_meets F.slot_list_append ⟨_, e, rfl⟩ F.entry_list_append (F.args_list_append_2 _ _) (PySem.list_append l its.toArray n u (by rw [List.size_toArray]; omega)) ⟨e, ?_⟩
  refine ⟨.non, _, I.lset (its' := its ++ [u]) hH e (by simp) (r.append (.cons ru .nil)) ?_, rfl, q⟩
  rw [List.length_append, List.length_singleton]
  omega
def rExtend : V → List V → Hp → VK → Prop := fun x vs H Q => ∃ l b xs zs, x = .ref l ∧ vs = [.ref b] ∧ H l = some (.lst xs) ∧ H b = some (.lst zs) ∧ xs.length + zs.length ≤ sizeLine ∧ Q .non (upd H l (.lst (xs ++ zs)))
theorem mt_extend : MtM X "list.extend" rExtend := by
  intro pins s σ H x vs v us Q I rx rv h
  obtain ⟨l, b, xs, zs, rfl, rfl, hH, hB, hz, q⟩ := h
  cases rx
  obtain ⟨u, rfl, ru⟩ := rv.one
  cases ru
  obtain ⟨z, its, n, r, hl, e⟩ := I.lstM hH
  obtain ⟨z2, its2, n2, r2, hl2, e2⟩ := I.lstM hB
  have hsz : its.toArray.size + its2.toArray.size ≤ sizeLine := by rw [List.size_toArray, List.size_toArray]; omega
  have hlong : ¬ (!its.toArray.isEmpty && Builtin.List.listTooLong (its.toArray.size + its2.toArray.size)) = true := by
    rw [notLongL hsz, Bool.and_false]
    exact Bool.false_ne_true
  refine call_meets F.slot_list_extend ⟨_, e, rfl⟩ F.entry_list_extend (F.args_list_extend_2 _ _)
    (AutoSeq1.list_extend_list_list_0 l its.toArray n b its2.toArray n2 hlong (by rw [List.size_toArray]; omega) (by omega)) ⟨e, e2, ?_⟩
  refine ⟨.non, _, I.lset (its' := its ++ its2) hH e (by simp) (r.append r2) ?_, rfl, q⟩
  rw [List.length_append]
  omega
def rCat : R2 := fun x y H Q => ∃ l b xs zs, x = .ref l ∧ y = .ref b ∧ H l = some (.lst xs) ∧ H b = some (.lst zs) ∧ xs.length + zs.length ≤ sizeLine ∧ ∀ p, H p = none → Q (.ref p) (upd H p (.lst (xs ++ zs)))
theorem op_cat : OpR X (binaryOp .Add) rCat := by
  intro pins s σ H x y v u Q I rx ry h
  obtain ⟨l, b, xs, zs, rfl, rfl, hH, hB, hz, q⟩ := h
  cases rx
  cases ry
  obtain ⟨z, its, n, r, hl, e⟩ := I.lstM hH
  obtain ⟨z2, its2, n2, r2, hl2, e2⟩ := I.lstM hB
  refine PySem.P.add_list e e2 ?_ (by rw [List.size_toArray, List.size_toArray]; omega)
  have ea : its.toArray ++ its2.toArray = (its ++ its2).toArray := by simp
  rw [ea]
  exact ⟨.ref _, _, I.lnew (t' := s.toks) (r.append r2) (by rw [List.length_append]; omega), rfl, q _ I.fresh⟩
def rRep : R2 := fun x y H Q => ∃ l k xs, x = .ref l ∧ y = .int k ∧ H l = some (.lst xs) ∧ -(2 ^ 63) ≤ k ∧ k < 2 ^ 63 ∧ xs.length * k.toNat ≤ sizeLine ∧
  ∀ p, H p = none → Q (.ref p) (upd H p (.lst (List.replicate k.toNat xs).flatten))
theorem len_rep {α : Type} (xs : List α) (k : Nat) : (List.replicate k xs).flatten.length = k * xs.length := by
  induction k with
  | zero => simp
  | succ k ih => rw [List.replicate_succ, List.flatten_cons, List.length_append, ih, Nat.succ_mul, Nat.add_comm]
theorem op_rep : OpR X (binaryOp .Mult) rRep := by
  intro pins s σ H x y v u Q I rx ry h
  obtain ⟨l, k, xs, rfl, rfl, hH, h1, h2, hz, q⟩ := h
  cases rx
  obtain ⟨t, rfl⟩ := ry
  obtain ⟨z, its, n, r, hl, e⟩ := I.lstM hH
  have hlen : its.toArray.size * k.toNat ≤ sizeLine := by rw [List.size_toArray, ← hl]; exact hz
  have hcap : ¬ its.toArray.size * k.toNat > (2 ^ 63 - 1) / 8 := by
    have : (sizeLine : Nat) ≤ (2 ^ 63 - 1) / 8 := by decide
    omega
  have hfit : ¬ (!Builtin.List.listFitsIndex k) = true := by
    rw [fitsIndex_both h1 h2]
    exact Bool.false_ne_true
  have hlong : ¬ Builtin.List.listTooLong (its.toArray.size * k.toNat) = true := by
    rw [notLongL hlen]
    exact Bool.false_ne_true
  have hnew : List.foldl (fun x1 x2 => x1 ++ x2) #[] (List.replicate (if its.toArray.isEmpty = true then 0 else k.toNat) its.toArray) = (List.replicate k.toNat its).flatten.toArray := by
    have f0 : ∀ m : Nat, List.foldl (fun x1 x2 => x1 ++ x2) #[] (List.replicate m its.toArray) = (List.replicate m its).flatten.toArray := fun m => by
      have := foldl_rep its m []
      rw [List.nil_append] at this
      exact this
    rw [f0]
    cases its with
    | nil => simp
    | cons a r' => rw [if_neg (by simp)]
  refine wpAny_binaryOp_repeat_ref (T := "list") (U := "int") (by decide) ⟨_, e, rfl⟩ (fun s' => typeIs_int s' k t) noFill_list_mul F.fills_int_mul F.slot_int_rmul repeat_list F.slot_int_index.lookup
    (call_meets F.slot_int_rmul (typeIs_int s k t) F.entry_int_rmul (F.args_int_rmul_2 _ _) (int___rmul___int_list k t l its.toArray n)
      ⟨e, rfl, ⟨_, e, rfl⟩, call_meets F.slot_list_mul ⟨_, e, rfl⟩ F.entry_list_mul (F.args_list_mul_2 _ _) (AutoListH.list___mul___list_int_3 l its.toArray n k t hfit hcap hlong) ⟨e, ?_⟩⟩)
  rw [hnew]
  exact ⟨.ref _, _, I.lnew (t' := s.toks) (r.rep k.toNat) (by rw [len_rep, Nat.mul_comm]; exact hz), rfl, q _ I.fresh⟩
end
section
variable {prog : Program} {w : World} {A : Around} {E : Value → Shared → Prop} {s : Shared}
set_option maxRecDepth 100000 in
end
section
variable {X : Cx}
end
end L2
namespace L2
open PySem PySem.Spec PyProof.Rows
theorem Vals.ints : ∀ {ns : List Int} {us : List Value}, Vals (ns.map V.int) us → IntsAre us ns
  | [], us, h => by
    rw [List.map_nil] at h
    cases h
    exact IntsAre.nil
  | n :: ns, us, h => by
    rw [List.map_cons] at h
    cases h with
    | cons r t =>
      obtain ⟨k, rfl⟩ := r
      exact IntsAre.cons n k (Vals.ints t)
theorem Vals.ref1 {a : Addr} {us : List Value} (r : Vals [V.ref a] us) : us = [Value.ref a] := by
  cases r with
  | cons r t =>
    cases t
    cases r
    rfl
section
variable {prog : Program} {w : World} {A : Around} {E : Value → Shared → Prop} {s : Shared} {l : Addr} {its : List Value} {ns : List Int} {Q : Value → Shared → Prop}
theorem sum_raw (hh : A.handled = none) (hl : s.heap.IsList l its.toArray) (hi : IntsAre its ns)
    (h : ∀ h' tk t', (∀ b o, s.heap.get? b = some o → h'.get? b = some o) → Q (.int ns.sum t') { s with heap := h', toks := tk }) : wpAny (model prog w) A (call (.builtin "sum") [.ref l]) Q E s := by
  obtain ⟨xs, e⟩ := hi.allInts.items
  have hn : numsOf (intItems xs).toList = ns := by rw [← e]; exact hi.numsOf
  rw [nums_intItems] at hn
  rw [e] at hl
  refine PySem.sum_intListG hh hl fun h' tk t' hk => ?_
  have := h h' tk t' hk
  rw [preSum_eq, List.take_of_length_le (by simp), hn]; exact this
end
section
variable {X : Cx}
def rSum (K : PySem.W.Frag) : List V → Hp → VK → Prop := fun vs H Q => ∃ (a : Addr) (ns : List Int), vs = [V.ref a] ∧ SqL K H a (ns.map V.int) ∧ Q (.int ns.sum) H
theorem cr_sum (hc : X.calm = true) : CallR X (.builtin "sum") (rSum X.K) := by
  intro pins s σ H vs us Q I r h
  obtain ⟨a, ns, rfl, hs, q⟩ := h
  obtain ⟨its, rv, hl, _⟩ := I.list hs
  rw [Vals.ref1 r]
  exact sum_raw (I.ok.hd hc) hl.isList rv.ints fun h' tk t' hk => ⟨.int _, H, I.kept hk, ⟨_, rfl⟩, q⟩
end
section
variable {X : Cx}
end
section
variable {X : Cx}
end
section
variable {X : Cx}
end
mutual
inductive Dp (K : PySem.W.Frag) (H : Hp) : V → PyData → Prop
  | non : Dp K H .non .none
  | bl (b : Bool) : Dp K H (.bl b) (.bool b)
  | int (i : Int) : Dp K H (.int i) (.int i)
  | str (x : Str) : Dp K H (.str x) (.str x)
  | lst {a : Addr} {xs : List V} {ds : List PyData} : SqL K H a xs → DpAll K H xs ds → Dp K H (.ref a) (.list ds)
  | tup {a : Addr} {xs : List V} {ds : List PyData} : SqT K H a xs → DpAll K H xs ds → Dp K H (.ref a) (.tuple ds)
inductive DpAll (K : PySem.W.Frag) (H : Hp) : List V → List PyData → Prop
  | nil : DpAll K H [] []
  | cons {v : V} {vs : List V} {d : PyData} {ds : List PyData} : Dp K H v d → DpAll K H vs ds → DpAll K H (v :: vs) (d :: ds)
end
section
variable {X : Cx} {pins : List (Addr × Obj)} {σ : St} {H : Hp} {s : Shared}
mutual
theorem Dp.reads (I : Inv X pins σ H s) : ∀ (d : PyData) (v : V) (u : Value), Dp X.K H v d → RelV v u → ∃ as, Reads s.heap u d as
  | .none, _, _, h, r => by
    cases h
    cases r
    exact ⟨_, Reads.none⟩
  | .bool b, _, _, h, r => by
    cases h
    cases r
    exact ⟨_, Reads.bool b⟩
  | .int i, _, _, h, r => by
    cases h
    obtain ⟨t, rfl⟩ := r
    exact ⟨_, Reads.int i t⟩
  | .str x, _, _, h, r => by
    cases h
    obtain ⟨t, rfl⟩ := r
    exact ⟨_, Reads.str x t⟩
  | .list ds, _, _, h, r => by
    cases h with
    | lst hs ha =>
      cases r
      obtain ⟨its, rv, ⟨o, n, ho, hc, _, hd⟩, _⟩ := I.list hs
      obtain ⟨as, hr⟩ := Dp.readsAll I ds _ its ha rv
      exact ⟨_, Reads.list ho hc hd hr⟩
  | .tuple ds, _, _, h, r => by
    cases h with
    | tup hs ha =>
      cases r
      obtain ⟨its, rv, ⟨o, ho, hc, n, hd⟩, _⟩ := I.tuple hs
      obtain ⟨as, hr⟩ := Dp.readsAll I ds _ its ha rv
      exact ⟨_, Reads.tuple ho hc hd hr⟩
  | .dict _, _, _, h, _ => by cases h
theorem Dp.readsAll (I : Inv X pins σ H s) : ∀ (ds : List PyData) (vs : List V) (us : List Value), DpAll X.K H vs ds → Vals vs us → ∃ as, ReadsAll s.heap us ds as
  | [], _, _, h, r => by
    cases h
    cases r
    exact ⟨_, ReadsAll.nil⟩
  | d :: ds, _, _, h, r => by
    cases h with
    | cons h1 h2 =>
      cases r with
      | cons r1 r2 =>
        obtain ⟨as, q1⟩ := Dp.reads I d _ _ h1 r1
        obtain ⟨bs, q2⟩ := Dp.readsAll I ds _ _ h2 r2
        exact ⟨_, ReadsAll.cons q1 q2⟩
end
end
section
variable {X : Cx}
end
end L2
namespace L2
open PySem PySem.Spec PyProof.Rows
abbrev CellAt (h : Heap) (c : Addr) (v : Option Value) : Prop := h.IsCell c v
def relS (scope sc : Scope) : Scope :=
  { scope with names := scope.names.map fun (n, k) => if (k == .free && sc.kind == .function && sc.names.lookup n == some .cell) then (n, .cell) else (n, k) }
def cloFrom (cells : List (Str × Addr)) : List (Str × NameKind) → List (Str × Addr) → List (Str × Addr)
  | [], acc => acc
  | (n, k) :: r, acc => if k == .free then cloFrom cells r ((n, (cells.lookup n).getD 0) :: acc) else cloFrom cells r acc
theorem closure_loop (env : Env) (f : Str × NameKind → List (Str × Addr) → Sem (ForInStep (List (Str × Addr))))
    (hf : ∀ n k c, f (n, k) c = if k == .free then (do let a ← cellOf env n; pure (.yield ((n, a) :: c))) else pure (.yield c)) :
    ∀ (names : List (Str × NameKind)) (acc : List (Str × Addr)), (∀ y ∈ names, y.2 = .free → ∃ c, env.cells.lookup y.1 = some c) → forIn names acc f = pure (cloFrom env.cells names acc)
  | [], acc, _ => by rw [List.forIn_nil]; rfl
  | (n, k) :: r, acc, h => by
    rw [List.forIn_cons, hf]
    have ih := fun acc => closure_loop env f hf r acc fun y hy => h y (List.mem_cons_of_mem _ hy)
    unfold cloFrom
    by_cases hk : (k == NameKind.free) = true
    · rw [if_pos hk, if_pos hk]
      obtain ⟨c, hc⟩ := h (n, k) List.mem_cons_self (by simpa using hk)
      have e : cellOf env n = pure c := by unfold cellOf; rw [hc]
      rw [e]
      have e2 : (env.cells.lookup n).getD 0 = c := by rw [hc]; rfl
      rw [e2]
      exact ih _
    · rw [if_neg hk, if_neg hk]
      exact ih _
theorem closure_ok {scope : Scope} {env : Env} (h : ∀ y ∈ scope.names, y.2 = .free → ∃ c, env.cells.lookup y.1 = some c) : closureFor scope env = pure (cloFrom env.cells scope.names []) := by
  simp only [closureFor]
  rw [closure_loop env _ (fun n k c => rfl) scope.names [] h]
  rfl
theorem mem_lookup {α : Type} : ∀ {l : List (Str × α)} {n : Str} {c : α}, (n, c) ∈ l → ∃ c', l.lookup n = some c'
  | (k, v) :: r, n, c, h => by
    rw [List.lookup_cons]
    cases hb : n == k with
    | true => exact ⟨_, rfl⟩
    | false =>
      rcases List.mem_cons.mp h with e | h
      · cases e; simp at hb
      · exact mem_lookup h
theorem cloFrom_mem {cells : List (Str × Addr)} : ∀ {names : List (Str × NameKind)} {acc : List (Str × Addr)} {n : Str} {c : Addr}, (n, c) ∈ cloFrom cells names acc → (n, c) ∈ acc ∨ ((n, .free) ∈ names ∧ c = (cells.lookup n).getD 0)
  | [], _, _, _, h => .inl h
  | (m, k) :: r, acc, n, c, h => by
    unfold cloFrom at h
    split at h
    · rename_i hk
      have hk : k = .free := by simpa using hk
      rcases cloFrom_mem h with h | ⟨h1, h2⟩
      · rcases List.mem_cons.mp h with e | h
        · cases e; exact .inr ⟨hk ▸ List.mem_cons_self, rfl⟩
        · exact .inl h
      · exact .inr ⟨List.mem_cons_of_mem _ h1, h2⟩
    · rcases cloFrom_mem h with h | ⟨h1, h2⟩
      · exact .inl h
      · exact .inr ⟨List.mem_cons_of_mem _ h1, h2⟩
theorem cloFrom_acc {cells : List (Str × Addr)} : ∀ {names : List (Str × NameKind)} {acc : List (Str × Addr)} {p : Str × Addr}, p ∈ acc → p ∈ cloFrom cells names acc
  | [], _, _, h => h
  | (m, k) :: r, acc, p, h => by
    unfold cloFrom
    split
    · exact cloFrom_acc (List.mem_cons_of_mem _ h)
    · exact cloFrom_acc h
theorem cloFrom_has {cells : List (Str × Addr)} : ∀ {names : List (Str × NameKind)} {acc : List (Str × Addr)} {n : Str}, (n, .free) ∈ names → (n, (cells.lookup n).getD 0) ∈ cloFrom cells names acc
  | (m, k) :: r, acc, n, h => by
    unfold cloFrom
    rcases List.mem_cons.mp h with e | h
    · cases e
      exact cloFrom_acc List.mem_cons_self
    · split
      · exact cloFrom_has h
      · exact cloFrom_has h
theorem cells_mem : ∀ {names : List (Str × NameKind)} {h : Heap} {acc : List (Str × Addr)} {x : Str} {c : Addr}, (x, c) ∈ cellsFrom h.objs.size names acc →
    (x, c) ∈ acc ∨ ((x, .cell) ∈ names ∧ h.objs.size ≤ c ∧ CellAt (pushCells h names) c none)
  | [], _, _, _, _, h => .inl h
  | (n, k) :: r, h, acc, x, c, hm => by
    unfold cellsFrom at hm
    unfold pushCells
    split at hm
    · rename_i hk
      rw [if_pos hk]
      have hk : k = .cell := by simpa using hk
      rw [← Heap.size_push h { cls := .type "cell", data := .cell none }] at hm
      rcases cells_mem hm with hm | ⟨h1, h2, h3⟩
      · rcases List.mem_cons.mp hm with e | hm
        · cases e
          exact .inr ⟨hk ▸ List.mem_cons_self, Nat.le_refl _, _, pushCells_keeps r _ _ _ (Heap.get?_push_size _ rfl), rfl⟩
        · exact .inl hm
      · rw [Heap.size_push] at h2
        exact .inr ⟨List.mem_cons_of_mem _ h1, Nat.le_of_succ_le h2, h3⟩
    · rename_i hk
      rw [if_neg hk]
      rcases cells_mem hm with hm | ⟨h1, h2, h3⟩
      · exact .inl hm
      · exact .inr ⟨List.mem_cons_of_mem _ h1, h2, h3⟩
theorem cells_acc : ∀ {names : List (Str × NameKind)} {n : Nat} {acc : List (Str × Addr)} {p : Str × Addr}, p ∈ acc → p ∈ cellsFrom n names acc
  | [], _, _, _, h => h
  | (m, k) :: r, n, acc, p, h => by
    unfold cellsFrom
    split
    · exact cells_acc (List.mem_cons_of_mem _ h)
    · exact cells_acc h
theorem cells_has : ∀ {names : List (Str × NameKind)} {n : Nat} {acc : List (Str × Addr)} {x : Str}, (x, .cell) ∈ names → ∃ c, (x, c) ∈ cellsFrom n names acc
  | (m, k) :: r, n, acc, x, h => by
    unfold cellsFrom
    rcases List.mem_cons.mp h with e | h
    · cases e
      exact ⟨n, cells_acc List.mem_cons_self⟩
    · split
      · exact cells_has h
      · exact cells_has h
theorem cells_inj : ∀ {names : List (Str × NameKind)} {h : Heap} {acc : List (Str × Addr)} {x y : Str} {c : Addr}, (∀ p ∈ acc, p.2 < h.objs.size) → (∀ x y c, (x, c) ∈ acc → (y, c) ∈ acc → x = y) →
    (x, c) ∈ cellsFrom h.objs.size names acc → (y, c) ∈ cellsFrom h.objs.size names acc → x = y
  | [], _, _, _, _, _, _, hi, h1, h2 => hi _ _ _ h1 h2
  | (n, k) :: r, h, acc, x, y, c, hl, hi, h1, h2 => by
    unfold cellsFrom at h1 h2
    split at h1
    · rename_i hk
      rw [if_pos hk] at h2
      rw [← Heap.size_push h { cls := .type "cell", data := .cell none }] at h1 h2
      refine cells_inj (h := h.push _) (fun p hp => ?_) (fun x y c a b => ?_) h1 h2
      · rw [Heap.size_push]
        rcases List.mem_cons.mp hp with rfl | hp
        · exact Nat.lt_succ_self _
        · exact Nat.lt_succ_of_lt (hl p hp)
      · rcases List.mem_cons.mp a with e | a <;> rcases List.mem_cons.mp b with e' | b
        · cases e; cases e'; rfl
        · cases e; exact absurd (hl _ b) (Nat.lt_irrefl _)
        · cases e'; exact absurd (hl _ a) (Nat.lt_irrefl _)
        · exact hi _ _ _ a b
    · rename_i hk
      rw [if_neg hk] at h2
      exact cells_inj hl hi h1 h2
theorem newEnv_comp {M : Model} {A : Around} {E : Value → Shared → Prop} {s : Shared} {scope : Scope} {globals : Addr} {closure : List (Str × Addr)} {qual : Str} {func : Option Addr} {code : Value} {around : Env} {builtins : Addr} {Q : Env → Shared → Prop}
    (h : Q (newEnv scope s.heap.objs.size globals (cellsFrom (s.heap.objs.size + 1) scope.names closure) qual func code (some around) builtins)
      { s with heap := pushCells (s.heap.push { cls := .type "dict", data := .dict #[] }) scope.names }) :
    wpAny M A (newFunctionEnv scope globals closure [] qual func code (some around) builtins) Q E s := by
  simp only [newFunctionEnv, Option.isSome_some, if_true]
  refine wpAny_bind (wpAny_alloc ?_)
  refine wpAny_bind (wpAny_layCells _ (fun n k c => rfl) scope.names closure _ _ ?_)
  rw [show ({ s with heap := s.heap.push { cls := .type "dict", data := .dict #[] } } : Shared).heap.objs.size = s.heap.objs.size + 1 from Heap.size_push ..]
  rw [List.forIn_nil]
  exact wpAny_bind (wpAny_pure (wpAny_pure h))
theorem lookup_relS {sc : Scope} : ∀ {names : List (Str × NameKind)} {x : Str} {k : NameKind},
    (names.map fun (n, k) => if (k == NameKind.free && sc.kind == .function && sc.names.lookup n == some .cell) then (n, NameKind.cell) else (n, k)).lookup x = some k →
    ∃ k', names.lookup x = some k' ∧ (k = k' ∨ (k' = .free ∧ k = .cell))
  | [], _, _, h => by simp at h
  | (n, k₀) :: r, x, k, h => by
    have ih := @lookup_relS sc r x k
    have h' : List.lookup x ((if (k₀ == NameKind.free && sc.kind == .function && sc.names.lookup n == some .cell) = true then (n, NameKind.cell) else (n, k₀)) :: (r.map _)) = some k := h
    cases hx : x == n with
    | true =>
      simp only [List.lookup_cons, hx]
      by_cases hc : (k₀ == NameKind.free && sc.kind == .function && sc.names.lookup n == some .cell) = true
      · rw [if_pos hc] at h'
        simp only [List.lookup_cons, hx] at h'
        cases h'
        simp only [Bool.and_eq_true, beq_iff_eq] at hc
        exact ⟨k₀, rfl, .inr ⟨hc.1.1, rfl⟩⟩
      · rw [if_neg hc] at h'
        simp only [List.lookup_cons, hx] at h'
        cases h'
        exact ⟨_, rfl, .inl rfl⟩
    | false =>
      simp only [List.lookup_cons, hx]
      by_cases hc : (k₀ == NameKind.free && sc.kind == .function && sc.names.lookup n == some .cell) = true
      · rw [if_pos hc] at h'
        simp only [List.lookup_cons, hx] at h'
        exact ih h'
      · rw [if_neg hc] at h'
        simp only [List.lookup_cons, hx] at h'
        exact ih h'
structure BlkOk (N : List Str) (sc scope : Scope) (own : List (Str × Nat)) : Prop where
  kind : scope.kind = .function
  uniq : ∀ y ∈ scope.names, scope.names.lookup y.1 = some y.2
  ix : ∀ p ∈ own, N[p.2]? = some p.1
  free : ∀ y ∈ scope.names, y.2 = .free → sc.names.lookup y.1 = some .cell ∨ sc.names.lookup y.1 = some .free
  own : ∀ y ∈ scope.names, y.2 = .local ∨ y.2 = .cell → y.1 ∈ own.map (·.1) ∨ y.1 ∉ N
def wipe (σ : St) : List Nat → St
  | [] => σ
  | v :: vs => (wipe σ vs).set v none
theorem wipe_length (σ : St) : ∀ vs : List Nat, (wipe σ vs).length = σ.length
  | [] => rfl
  | v :: vs => by unfold wipe; rw [List.length_set, wipe_length σ vs]
theorem wipe_some {σ : St} {i : Nat} {x : V} : ∀ {vs : List Nat}, (wipe σ vs)[i]? = some (some x) → σ[i]? = some (some x) ∧ i ∉ vs
  | [], h => ⟨h, by simp⟩
  | v :: vs, h => by
    unfold wipe at h
    by_cases hi : v = i
    · subst hi
      by_cases hv : v < (wipe σ vs).length
      · rw [List.getElem?_set_self hv] at h; cases h
      · rw [List.getElem?_eq_none (by simpa using hv)] at h; cases h
    · rw [List.getElem?_set_ne hi] at h
      obtain ⟨h1, h2⟩ := wipe_some h
      exact ⟨h1, by simp only [List.mem_cons, not_or]; exact ⟨fun e => hi e.symm, h2⟩⟩
abbrev Cx.blk (X : Cx) (s : Shared) (H : Hp) (scope : Scope) (cenv : Env) (fp : List Addr) : Cx := { X with s_0 := s, H_0 := H, env := cenv, outer := X.stack, ex := fp, fn := fun x => scope.names.lookup x == some .cell, pn := [], xe := fun _ _ => False }
section
variable {X : Cx} {pins : List (Addr × Obj)} {σ : St} {H : Hp} {s : Shared}
theorem block_start {scope : Scope} {own : List (Str × Nat)} {fp : List Addr} (I : Inv X pins σ H s) (ok : BlkOk X.N X.env.scope scope own) (hN : X.N.Nodup) (hfp : ∀ b ∈ fp, FpOk X pins H b ∧ b < s.heap.objs.size) :
    Inv (X.blk s H scope (compEnvC scope (cellsFrom (s.heap.objs.size + 1) scope.names (cloFrom X.env.cells scope.names [])) s.heap.objs.size X.env) fp) [] (wipe σ (own.map (·.2))) H { s with heap := pushCells (s.heap.push { cls := .type "dict", data := .dict #[] }) scope.names } := by
  have hfree : ∀ y ∈ scope.names, y.2 = .free → ∃ c, X.env.cells.lookup y.1 = some c := fun y hy e => by
    rcases ok.free y hy e with k | k
    · exact I.ok.has _ (.inl k)
    · exact I.ok.has _ (.inr k)
  generalize hcenv : compEnvC scope (cellsFrom (s.heap.objs.size + 1) scope.names (cloFrom X.env.cells scope.names [])) s.heap.objs.size X.env = cenv
  have kp : ∀ b o, s.heap.get? b = some o → (pushCells (s.heap.push { cls := .type "dict", data := .dict #[] }) scope.names).get? b = some o := fun b o e => pushCells_keeps _ _ _ _ (Heap.get?_push_of_some _ e)
  have hL : cenv.locals = s.heap.objs.size := by rw [← hcenv]; rfl
  have hcl : cenv.cells = cellsFrom (s.heap.objs.size + 1) scope.names (cloFrom X.env.cells scope.names []) := by rw [← hcenv]; rfl
  have hsc : cenv.scope = relS scope X.env.scope := by rw [← hcenv]; rfl
  rw [← Heap.size_push s.heap { cls := .type "dict", data := .dict #[] }] at hcl
  have cm : ∀ {y c}, (y, c) ∈ cloFrom X.env.cells scope.names [] → X.env.cells.lookup y = some c ∧ c < s.heap.objs.size := fun {y c} hm => by
    rcases cloFrom_mem hm with hm | ⟨h1, rfl⟩
    · cases hm
    · obtain ⟨c, hc⟩ := hfree _ h1 rfl
      rw [hc]
      obtain ⟨w, z⟩ := I.cell _ _ hc
      exact ⟨rfl, z.lt⟩
  have mem : ∀ {y c}, cenv.cells.lookup y = some c → (X.env.cells.lookup y = some c ∧ c < s.heap.objs.size) ∨ (s.heap.objs.size + 1 ≤ c ∧ CellAt (pushCells (s.heap.push { cls := .type "dict", data := .dict #[] }) scope.names) c none) := fun {y c} e => by
    rw [hcl] at e
    rcases cells_mem (PySem.mem_of_lookup e) with hm | ⟨_, h2, h3⟩
    · exact .inl (cm hm)
    · rw [Heap.size_push] at h2; exact .inr ⟨h2, h3⟩
  have look : ∀ {y}, scope.names.lookup y = some .free → ∃ c, cenv.cells.lookup y = some c ∧ X.env.cells.lookup y = some c := fun {y} hl => by
    have hy : (y, NameKind.free) ∈ scope.names := PySem.mem_of_lookup hl
    obtain ⟨c', e'⟩ := mem_lookup (cells_acc (names := scope.names) (n := (s.heap.push { cls := .type "dict", data := .dict #[] }).objs.size) (cloFrom_has (cells := X.env.cells) (acc := []) hy))
    rw [← hcl] at e'
    refine ⟨c', e', ?_⟩
    rw [hcl] at e'
    rcases cells_mem (PySem.mem_of_lookup e') with hm | ⟨h1, _, _⟩
    · exact (cm hm).1
    · have := ok.uniq _ h1
      rw [hl] at this; cases this
  have okB : (X.blk s H scope cenv fp).Ok := by
    refine ⟨I.ok.mod, by show cenv.scope.kind = _; rw [hsc]; exact ok.kind, by show cenv.globals = _; rw [← hcenv]; exact I.ok.glob, by show cenv.builtins = _; rw [← hcenv]; exact I.ok.blt, by show s.heap.objs.size ≤ cenv.locals; rw [hL]; exact Nat.le_refl _,
      fun y z c e1 e2 => ?_, fun y hy => ?_, fun y c z e => ?_, I.ok.hd, I.ok.frames, .inl rfl, fun b hb => ⟨?_, fun y c e z => ?_⟩, I.bs, Nat.le_trans I.ok.bsz I.sz, fun b o e hb => ?_, fun b hb z => ?_, I.stack, I.stkFree⟩
    · have e1 : cenv.cells.lookup y = some c := e1
      have e2 : cenv.cells.lookup z = some c := e2
      rw [hcl] at e1 e2
      refine cells_inj (fun p hp => ?_) (fun y z c a b => I.ok.inj y z c (cm a).1 (cm b).1) (PySem.mem_of_lookup e1) (PySem.mem_of_lookup e2)
      rw [Heap.size_push]
      exact Nat.lt_succ_of_lt (cm (y := p.1) (c := p.2) hp).2
    · show ∃ c, cenv.cells.lookup y = some c
      have key : ∀ k, cenv.kindOf y = some k → (k = .cell ∨ k = .free) → ∃ c, cenv.cells.lookup y = some c := fun k hk hk' => by
        unfold Env.kindOf at hk
        rw [hsc] at hk
        obtain ⟨k', e, r⟩ := lookup_relS hk
        have : k' = .cell ∨ k' = .free := by
          rcases r with rfl | ⟨rfl, _⟩
          · exact hk'
          · exact .inr rfl
        rcases this with rfl | rfl
        · obtain ⟨c, hm⟩ := cells_has (n := (s.heap.push { cls := .type "dict", data := .dict #[] }).objs.size) (acc := cloFrom X.env.cells scope.names []) (PySem.mem_of_lookup e)
          obtain ⟨c', e'⟩ := mem_lookup hm
          exact ⟨c', by rw [hcl]; exact e'⟩
        · obtain ⟨c, h1, _⟩ := look e
          exact ⟨c, h1⟩
      rcases hy with hy | hy
      · exact key _ hy (.inl rfl)
      · exact key _ hy (.inr rfl)
    · have z : (scope.names.lookup y == some NameKind.cell) = true := z
      have z : scope.names.lookup y = some .cell := by simpa using z
      have e : cenv.cells.lookup y = some c := e
      rw [hcl] at e
      rcases cells_mem (PySem.mem_of_lookup e) with hm | ⟨_, h2, _⟩
      · rcases cloFrom_mem hm with hm | ⟨h1, _⟩
        · cases hm
        · have q := ok.uniq _ h1
          rw [z] at q; cases q
      · rw [Heap.size_push] at h2
        exact Nat.le_of_succ_le h2
    · show b ≠ cenv.locals
      rw [hL]; exact Nat.ne_of_lt (hfp b hb).2
    · have e : cenv.cells.lookup y = some c := e
      rcases mem e with ⟨h1, _⟩ | ⟨h1, _⟩
      · exact (hfp b hb).1.2.2.2.2.1 y c h1 z
      · have h2 : s.heap.objs.size + 1 ≤ b := by rw [← z]; exact h1
        exact absurd (Nat.lt_of_lt_of_le (hfp b hb).2 (Nat.le_of_succ_le h2)) (Nat.lt_irrefl _)
    · rcases (hfp b hb).1.2.2.2.1 with z | z
      · exact I.ok.noex b o e z
      · exact absurd (Nat.lt_of_lt_of_le (Heap.lt_size e) (Nat.le_trans I.ok.bsz z)) (Nat.lt_irrefl _)
    · rcases List.mem_cons.mp (I.stkSub b z) with z | z
      · exact (hfp b hb).1.2.1 z
      · exact (hfp b hb).1.2.2.1 z
  refine ⟨okB, rfl, I.bare, Un.kept kp, ⟨fun _ => none, ?_, fun i y av e1 e2 e3 => ?_⟩, fun y c e => ?_, ?_, fun y c e => ?_, fun p hp => ?_, I.hok.kept kp, by rw [wipe_length]; exact I.len⟩
  · show Heap.Ns _ cenv.locals _
    rw [hL]
    exact Heap.Ns.keeps (Heap.Ns.new ..) fun b o e => pushCells_keeps _ _ _ _ e
  · obtain ⟨e2, hne⟩ := wipe_some e2
    have hfr : scope.names.lookup y = some .free ∧ (cenv.kindOf y = some .cell ∨ cenv.kindOf y = some .free) := by
      have key : ∀ k, cenv.scope.names.lookup y = some k → k = .local ∨ k = .cell ∨ k = .free → scope.names.lookup y = some .free ∧ (cenv.kindOf y = some .cell ∨ cenv.kindOf y = some .free) := fun k hk hk' => by
        have hk0 := hk
        rw [hsc] at hk
        obtain ⟨k', e, r⟩ := lookup_relS hk
        have no : ¬ (k' = .local ∨ k' = .cell) := fun hh => by
          rcases ok.own _ (PySem.mem_of_lookup e) hh with e' | e'
          · obtain ⟨p, hp, hpy⟩ := List.mem_map.mp e'
            have e3 := ok.ix p hp
            have : p.1 = y := hpy
            rw [this] at e3
            exact hne (List.mem_map.mpr ⟨p, hp, nodup_ix hN e3 e1⟩)
          · exact e' (List.mem_of_getElem? e1)
        rcases r with rfl | ⟨rfl, rfl⟩
        · rcases hk' with rfl | rfl | rfl
          · exact absurd (.inl rfl) no
          · exact absurd (.inr rfl) no
          · exact ⟨e, .inr hk0⟩
        · exact ⟨e, .inl hk0⟩
      have e3 : Vis cenv.scope y := e3
      rcases e3 with e3 | e3 | e3
      · exact key _ e3 (.inl rfl)
      · exact key _ e3 (.inr (.inl rfl))
      · exact key _ e3 (.inr (.inr rfl))
    obtain ⟨m, hn, hl⟩ := I.loc
    have hvis : Vis X.env.scope y := (ok.free _ (PySem.mem_of_lookup hfr.1) rfl).elim (fun k => .inr (.inl k)) (fun k => .inr (.inr k))
    obtain ⟨w, r, q⟩ := hl i y av e1 e2 hvis
    refine ⟨w, r, .inr ⟨hfr.2, ?_⟩⟩
    obtain ⟨c, h1, h2⟩ := look hfr.1
    rcases q with ⟨k, _⟩ | ⟨_, c', e', z⟩
    · have k : X.env.scope.names.lookup y = some .local := k
      rcases ok.free _ (PySem.mem_of_lookup hfr.1) rfl with k' | k' <;> rw [show X.env.scope.names.lookup y = _ from k'] at k <;> cases k
    · rw [h2] at e'; cases e'
      exact ⟨c, h1, z.keeps kp⟩
  · have e : cenv.cells.lookup y = some c := e
    rcases mem e with ⟨h1, _⟩ | ⟨_, z⟩
    · obtain ⟨w, z⟩ := I.cell y c h1
      exact ⟨w, z.keeps kp⟩
    · exact ⟨_, z⟩
  · show H cenv.locals = none
    rw [hL]; exact I.hok.fresh (Nat.le_refl _)
  · have e : cenv.cells.lookup y = some c := e
    rcases mem e with ⟨h1, _⟩ | ⟨h1, _⟩
    · exact I.freeC y c h1
    · exact I.hok.fresh (Nat.le_of_succ_le h1)
  · exact absurd (show p ∈ ([] : List (Addr × Obj)) ++ [] from hp) (by simp)
theorem app_ok {E : Value → Shared → Prop} {D : Addr} {xs : List V} {y : V} {v : Value} {Q : Value → Shared → Prop} (I : Inv X pins σ H s) (hD : H D = some (.lst xs)) (hz : xs.length < sizeLine) (r : RelV y v)
    (h : ∀ s', Inv X pins σ (upd H D (.lst (xs ++ [y]))) s' → Q .none s') : wpAny (model X.prog X.w) X.A (call (.builtin "list.append") [.ref D, v]) Q E s := by
  obtain ⟨hz', its, n, ri, e⟩ := I.hok D _ hD
  have hl := ri.length
  refine append_at (hsz := by rw [List.size_toArray]; omega) e fun h' sb ho' => ?_
  refine h { s with heap := h' } (I.write (t' := s.toks) (by rw [hD]; trivial) (.inl rfl) (fun b u hb q => (sb.2 b hb).trans q) ⟨_, ho'⟩ ⟨by rw [List.length_append]; exact hz, its ++ [v], n + 1, ri.append (.cons r .nil), ?_⟩)
  rw [ho']
  simp
def PTs (X : Cx) (ifs : List Expr) (t : TT) : Prop :=
  ∀ (pins : List (Addr × Obj)) (s : Shared) (σ : St) (H : Hp) (Q : Bool → Hp → Prop), Inv X pins σ H s → t σ H Q →
    wpAny (model X.prog X.w) X.A (forIn ifs true fun c r => if r = true then do let ok ← isTrue c X.env (eval c X.env); pure (ForInStep.yield ok) else pure (ForInStep.yield r)) (TP X pins σ Q) X.xe s
def tYes : TT := fun _ H Q => Q true H
theorem pts_nil : PTs X [] tYes := fun _ _ _ H _ I h => wpAny_tests_nil ⟨H, I, h⟩
theorem pts_one {c : Expr} {t : TT} (h : PT X c t) : PTs X [c] t := fun pins s σ H Q I hw => wpAny_tests_one (h pins s σ H Q I hw)
end
theorem thnF {α : Type} {t : Sem α} {Q Q' : α → Shared → Prop} {M : Model} {A : Around} {E : Value → Shared → Prop} {s : Shared} (h : wpAny M A t Q (fun _ _ => False) s) (hQ : ∀ a s, Q a s → Q' a s) : wpAny M A t Q' E s := wpAny_mono h hQ fun _ _ z => False.elim z
theorem compLoop_any {prog : Program} {w : World} {A : Around} {R : Result → Shared → Prop} {s : Shared} {elt target iter : Expr} {ifs : List Expr} {scope : Scope} {pos : Pos} {it acc : Value} {env : Env} (I : Nat → Shared → Prop)
    (turn : ∀ n s, I n s → wpAny (model prog w) A (pyNext it) (fun r s₁ => match r with
      | none => R (.ok .next) s₁
      | some v => wpAny (model prog w) A (letOwnedTupleGo target it v) (fun _ s₁' => wpAny (model prog w) A (assign target env v) (fun _ s₂ =>
          wpAny (model prog w) A (forIn ifs true fun c r => if r = true then do let ok ← isTrue c env (eval c env); pure (ForInStep.yield ok) else pure (ForInStep.yield r)) (fun ok s₃ =>
            if ok = true then wpAny (model prog w) A (eval elt env) (fun x s₄ =>
              wpAny (model prog w) A (call (.builtin "list.append") [acc, x]) (fun _ s₅ => ∃ m, m < n ∧ I m s₅) (notedBy (model prog w) A env fun e s' => R (.error e) s') s₄) (notedBy (model prog w) A env fun e s' => R (.error e) s') s₃
            else ∃ m, m < n ∧ I m s₃) (notedBy (model prog w) A env fun e s' => R (.error e) s') s₂) (notedBy (model prog w) A env fun e s' => R (.error e) s') s₁') (notedBy (model prog w) A env fun e s' => R (.error e) s') s₁) (notedBy (model prog w) A env fun e s' => R (.error e) s') s)
    (n : Nat) (h : I n s) :
    codeAny (model prog w) A (.compLoop (.ListComp elt [⟨target, iter, ifs, 0⟩] scope pos) 0 it acc env) R s := by
  refine codeAny_loop rfl I (fun n s hI => ?_) n h
  show wpAny _ A ((compTurn (.ListComp elt [⟨target, iter, ifs, 0⟩] scope pos) 0 it acc env).onRaise (fun x => do noteFrame x env; theTreesLotGoes x)) _ _ s
  refine wpAny_noted ?_
  rw [compTurn_list]
  refine wpAny_bind (wpAny_standAt (wpAny_bind (wpAny_mono (turn n s hI) (fun r s₁ h₁ => ?_) fun _ _ h' => h')))
  cases r with
  | none => exact wpAny_pure h₁
  | some v =>
    refine wpAny_bind (wpAny_mono h₁ (fun _ s₁' h₁' => ?_) fun _ _ h' => h')
    refine wpAny_bind (wpAny_mono h₁' (fun _ s₂ h₂ => wpAny_bind (wpAny_mono h₂ (fun ok s₃ h₃ => ?_) fun _ _ h' => h')) fun _ _ h' => h')
    cases ok with
    | false => exact wpAny_pure ⟨rfl, h₃⟩
    | true =>
      exact wpAny_bind (wpAny_bind (wpAny_mono h₃ (fun x s₄ h₄ => wpAny_bind (wpAny_mono h₄ (fun _ s₅ h₅ => wpAny_pure (wpAny_pure ⟨rfl, h₅⟩)) fun _ _ h' => h')) fun _ _ h' => h'))
section
variable {X : Cx}
def tLc (wi : TI) (g : TG) (tt : TT) (te : TE) (vs : List Nat) : TE := fun σ H Q => wi σ H fun J H1 => ∀ D, H1 D = none → ∃ W : Nat → Nat → Hp → Prop, (∃ m, W 0 m (upd H1 D (.lst []))) ∧ ∀ i m H, W i m H →
  (J.stop i H ∧ Q (.ref D) H) ∨ (J.go i H ∧ ∃ Nx : Hp → Prop, (∀ H', Nx H' → ∃ m', m' < m ∧ W (i + 1) m' H') ∧ ∀ x H', J.yld i H x H' → g x (wipe σ vs) H' fun σ2 H2 => wipe σ2 vs = wipe σ vs ∧ tt σ2 H2 fun b H3 =>
    if b = true then te σ2 H3 fun y H4 => ∃ acc, H4 D = some (.lst acc) ∧ acc.length < sizeLine ∧ Nx (upd H4 D (.lst (acc ++ [y]))) else Nx H3)
theorem lc_core {pins : List (Addr × Obj)} {s : Shared} {σ : St} {H : Hp} {Q : VK} {elt tg iter : Expr} {ifs : List Expr} {scope : Scope} {own : List (Str × Nat)} {pos pos' : Pos} {wi : TI} {g : TG} {tt : TT} {te : TE} {use : Option (Value → Sem Unit)} {Qf : Value → Shared → Prop}
    (hc : X.calm = true) (hN : X.N.Nodup) (I : Inv X pins σ H s) (hi : PI X tg iter wi) (ok : BlkOk X.N X.env.scope scope own)
    (hg : ∀ (s : Shared) (H : Hp) (C : Addr) (cl : List (Str × Addr)) (fp : List Addr), PG (X.blk s H scope (compEnvC scope cl C X.env) fp) tg g) (ht : ∀ (s : Shared) (H : Hp) (C : Addr) (cl : List (Str × Addr)) (fp : List Addr), PTs (X.blk s H scope (compEnvC scope cl C X.env) fp) ifs tt)
    (he : ∀ (s : Shared) (H : Hp) (C : Addr) (cl : List (Str × Addr)) (fp : List Addr), PE (X.blk s H scope (compEnvC scope cl C X.env) fp) elt te) (hs : ∀ x, foldedSetIterable iter X.env x = pure x)
    (h : tLc wi g tt te (own.map (·.2)) σ H Q)
    (hRR : ∀ D C s' m H', Inv X pins σ H' s' → Q (.ref D) H' → s'.heap.Ns C m → FpOk X pins H' C → compPost (model X.prog X.w) X.A X.xe use Qf (.ref D) C (.ok .next) s') :
    wpAny (model X.prog X.w) X.A (comprehension (.ListComp elt [⟨tg, iter, ifs, 0⟩] scope pos) scope X.env pos' (newList []) false (eval iter X.env) use) Qf X.xe s := by
  have hfree : ∀ y ∈ scope.names, y.2 = .free → ∃ c, X.env.cells.lookup y.1 = some c := fun y hy e => by
    rcases ok.free y hy e with k | k
    · exact I.ok.has _ (.inl k)
    · exact I.ok.has _ (.inr k)
  refine wpAny_comprehension_free (use := use) rfl hs (closure_ok hfree) ok.kind (fun y hy e => by rw [ok.uniq y hy, e])
    (thn (hi pins s σ H _ I h) fun xv s1 hx => thn hx fun itv s2 h2 => ?_)
  obtain ⟨it, fp, tn, J, H2, e, I2, T, st2, f2, q⟩ := h2
  subst e
  refine wpAny_newObj_type (newEnv_comp ?_) (by show 0 ≤ sizeLine; decide)
  generalize hD : s2.heap.objs.size = D
  have hDn : H2 D = none := I2.hok.fresh (Nat.le_of_eq hD)
  obtain ⟨W, ⟨m0, w0⟩, turn⟩ := q D hDn
  -- the new list
  generalize hs3 : ({ s2 with heap := s2.heap.push { cls := .type "list", data := .seq ([] : List Value).toArray } } : Shared) = s3
  have I3 : Inv X pins σ (upd H2 D (.lst [])) s3 := by
    rw [← hs3]
    refine I2.laid (t' := s2.toks) (fun b o e => Heap.get?_push_of_some _ e) (Nat.le_of_eq hD) ⟨Nat.zero_le _, [], 0, .nil, ?_⟩
    rw [← hD]
    exact Heap.get?_push_size _ rfl
  have h3 : s3.heap = s2.heap.push { cls := .type "list", data := .seq ([] : List Value).toArray } := by rw [← hs3]
  have sz : ∀ b ∈ fp, b < s2.heap.objs.size := fun b hb => by
    obtain ⟨o, e, _⟩ := T.obj _ _ st2 b hb
    exact Heap.lt_size e
  have f3 : ∀ b ∈ fp, FpOk X pins (upd H2 D (.lst [])) b ∧ b < s3.heap.objs.size := fun b hb => by
    have hlt := sz b hb
    refine ⟨⟨?_, (f2 b hb).2⟩, by rw [h3, Heap.size_push]; exact Nat.lt_succ_of_lt hlt⟩
    rw [upd_ne (by rw [← hD]; exact Nat.ne_of_lt hlt)]
    exact (f2 b hb).1
  have st3 : tn 0 s3.heap := T.keep _ _ _ st2 fun b _ o e => by rw [h3]; exact Heap.get?_push_of_some _ e
  have I4 := block_start I3 ok hN f3
  have pg := hg s3 (upd H2 D (.lst [])) s3.heap.objs.size (cellsFrom (s3.heap.objs.size + 1) scope.names (cloFrom X.env.cells scope.names [])) fp
  have pt := ht s3 (upd H2 D (.lst [])) s3.heap.objs.size (cellsFrom (s3.heap.objs.size + 1) scope.names (cloFrom X.env.cells scope.names [])) fp
  have pe := he s3 (upd H2 D (.lst [])) s3.heap.objs.size (cellsFrom (s3.heap.objs.size + 1) scope.names (cloFrom X.env.cells scope.names [])) fp
  show codeAny _ _ (.compStart (.ListComp elt [⟨tg, iter, ifs, 0⟩] scope pos) 0 (.ref it) (.ref D) (compEnvC scope (cellsFrom (s3.heap.objs.size + 1) scope.names (cloFrom X.env.cells scope.names [])) s3.heap.objs.size X.env)) (compPost (model X.prog X.w) X.A X.xe use Qf (.ref D) s3.heap.objs.size) { s3 with heap := pushCells (s3.heap.push { cls := .type "dict", data := .dict #[] }) scope.names }
  have nfp : ∀ b ∈ fp, (upd H2 D (.lst [])) b = none := fun b hb => (f3 b hb).1.1
  generalize hce : compEnvC scope (cellsFrom (s3.heap.objs.size + 1) scope.names (cloFrom X.env.cells scope.names [])) s3.heap.objs.size X.env = ce at I4 pg pt pe ⊢
  have cL : ce.locals = s3.heap.objs.size := by subst hce; rfl
  generalize hH3 : upd H2 D (.lst []) = H3 at I3 I4 pg pt pe w0 nfp f3
  generalize hs4 : ({ s3 with heap := pushCells (s3.heap.push { cls := .type "dict", data := .dict #[] }) scope.names } : Shared) = s4 at I4 ⊢
  have st4 : tn 0 s4.heap := T.keep _ _ _ st3 fun b _ o e => by rw [← hs4]; exact pushCells_keeps _ _ _ _ (Heap.get?_push_of_some _ e)
  have stat : ∀ {σ' : St} {H' : Hp} {s' : Shared}, Inv (X.blk s3 H3 scope ce fp) [] σ' H' s' → (∀ b ∈ fp, H' b = none) → ∀ b ∈ fp, FpOk (X.blk s3 H3 scope ce fp) [] H' b := fun {σ' H' s'} I' hn b hb =>
    ⟨hn b hb, (I'.ok.exf b hb).1, I'.ok.exfs b hb, .inl hb, fun x c e => (I'.ok.exf b hb).2 x c e, fun p hp => absurd (show p ∈ ([] : List (Addr × Obj)) ++ [] from hp) (by simp)⟩
  have loop : codeAny (model X.prog X.w) X.A (.compLoop (.ListComp elt [⟨tg, iter, ifs, 0⟩] scope pos) 0 (.ref it) (.ref D) ce) (compPost (model X.prog X.w) X.A X.xe use Qf (.ref D) s3.heap.objs.size) s4 := by
    refine compLoop_any (fun n s' => ∃ i H', Inv (X.blk s3 H3 scope ce fp) [] (wipe σ (own.map (·.2))) H' s' ∧ tn i s'.heap ∧ (∀ b ∈ fp, H' b = none) ∧ W i n H') ?_ m0 ⟨0, H3, I4, st4, nfp, w0⟩
    rintro n s5 ⟨i, H5, I5, st5, n5, w5⟩
    rcases turn i n H5 w5 with ⟨stop, qq⟩ | ⟨go, Nx, hNx, step⟩
    · have td := T.done (X.blk s3 H3 scope ce fp) rfl rfl rfl hc i [] s5 _ H5 (fun _ _ => False) I5 (stat I5 n5) st5 stop
      refine thnF td fun r s6 ⟨hr, I6⟩ => ?_
      subst hr
      -- back in the def's context
      have I7 : Inv X pins σ H5 s6 := I3.call' (ch := fp) I6.os I6.base I6.hok I6.bare fun b hb => ⟨(f3 b hb).1.2.2.2.1, (f3 b hb).1.2.1, (f3 b hb).1.2.2.2.2.1, (f3 b hb).1.2.2.2.2.2⟩
      have nC : H5 s3.heap.objs.size = none := by
        have z : H5 ce.locals = none := I6.free
        rw [cL] at z
        exact z
      obtain ⟨m, hn, _⟩ := I6.loc
      have hn : s6.heap.Ns ce.locals m := hn
      rw [cL] at hn
      exact hRR D s3.heap.objs.size s6 m H5 I7 qq hn (I3.fpOk (Nat.le_refl _) nC)
    · have ti := T.item (X.blk s3 H3 scope ce fp) rfl rfl rfl hc i [] s5 _ H5 (fun _ _ => False) I5 (stat I5 n5) st5 go
      refine thnF ti fun r s6 ⟨u, hr, h6⟩ => ?_
      subst hr
      refine thnF h6 fun _ s7 ⟨x, H7, I7, r7, y7, st7, n7⟩ => ?_
      have I7' := I7.pinned (stat I7 n7) (T.obj _ _ st7)
      refine thnF (pg _ s7 _ H7 x u _ I7' r7 (step x H7 y7)) fun _ s8 ⟨σ8, H8, I8, hw8, q8⟩ => ?_
      refine thnF (pt _ s8 σ8 H8 _ I8 q8) fun b s9 ⟨H9, I9, q9⟩ => ?_
      -- the turn's end
      have fin : ∀ {s' : Shared} {H' : Hp}, Inv (X.blk s3 H3 scope ce fp) ([] ++ pinsAt fp s7.heap) σ8 H' s' → Nx H' → ∃ m, m < n ∧ ∃ i H', Inv (X.blk s3 H3 scope ce fp) [] (wipe σ (own.map (·.2))) H' s' ∧ tn i s'.heap ∧ (∀ b ∈ fp, H' b = none) ∧ W i m H' := fun {s' H'} I' nx => by
        obtain ⟨m', hm, w'⟩ := hNx H' nx
        have pin' : ∀ b ∈ fp, ∀ o, s7.heap.get? b = some o → s'.heap.get? b = some o ∧ H' b = none := fun b hb o e =>
          let z := I'.pin (b, o) (List.mem_append_right _ (List.mem_append_right _ (mem_pinsAt hb e)))
          ⟨z.1, z.2.1⟩
        have hl : (wipe σ (own.map (·.2))).length = σ8.length := by rw [← hw8, wipe_length]
        refine ⟨m', hm, i + 1, H', (I'.unpinned (pins := [])).weak hl (fun j v e => ?_), T.keep _ _ _ st7 fun b hb o e => (pin' b hb o e).1, fun b hb => ?_, w'⟩
        · rw [← hw8] at e
          exact (wipe_some e).1
        · obtain ⟨o, e, _⟩ := T.obj _ _ st7 b hb
          exact (pin' b hb o e).2
      cases b with
      | false =>
        simp only [Bool.false_eq_true, if_false] at q9 ⊢
        exact fin I9 q9
      | true =>
        simp only [if_true] at q9 ⊢
        refine thnF (pe _ s9 σ8 H9 _ I9 q9) fun z s10 ⟨yv, H10, I10, r10, acc, hD10, hz10, nx⟩ => ?_
        exact app_ok (X := X.blk s3 H3 scope ce fp) I10 hD10 hz10 r10 fun s11 I11 => fin I11 nx
  exact codeAny_compStart_list loop (T.self X.A 0 _ _ _ st4 loop)
theorem pe_lc {elt tg iter : Expr} {ifs : List Expr} {scope : Scope} {own : List (Str × Nat)} {pos : Pos} {wi : TI} {g : TG} {tt : TT} {te : TE} (hc : X.calm = true) (hN : X.N.Nodup) (hi : PI X tg iter wi) (ok : BlkOk X.N X.env.scope scope own)
    (hg : ∀ (s : Shared) (H : Hp) (C : Addr) (cl : List (Str × Addr)) (fp : List Addr), PG (X.blk s H scope (compEnvC scope cl C X.env) fp) tg g) (ht : ∀ (s : Shared) (H : Hp) (C : Addr) (cl : List (Str × Addr)) (fp : List Addr), PTs (X.blk s H scope (compEnvC scope cl C X.env) fp) ifs tt)
    (he : ∀ (s : Shared) (H : Hp) (C : Addr) (cl : List (Str × Addr)) (fp : List Addr), PE (X.blk s H scope (compEnvC scope cl C X.env) fp) elt te) (hs : ∀ x, foldedSetIterable iter X.env x = pure x := by intro _; rfl) :
    PE X (.ListComp elt [⟨tg, iter, ifs, 0⟩] scope pos) (tLc wi g tt te (own.map (·.2))) := by
  intro pins s σ H Q I h
  rw [eval_ListComp]
  refine lc_core hc hN I hi ok hg ht he hs h fun D C s' m H' I' q hn f => ⟨m, hn, fun h'' sb => ?_⟩
  obtain ⟨f0, f1, f2, f3, f4, f5⟩ := f
  exact ⟨.ref D, H', I'.turned (t' := s'.toks) (fun b o hb e => (sb.2 b hb).trans e) f0 f1 f3 f4 f5, rfl, q⟩
theorem ps_setLc {i : Nat} {y : Str} {py : Pos} {elt tg iter : Expr} {ifs : List Expr} {scope : Scope} {own : List (Str × Nat)} {pos spos : Pos} {wi : TI} {g : TG} {tt : TT} {te : TE} (hc : X.calm = true) (hN : X.N.Nodup) (hy : X.N[i]? = some y) (hyl : X.env.scope.names.lookup y = some .local)
    (hsw : swapsWith (.ListComp elt [⟨tg, iter, ifs, 0⟩] scope pos) (some (.Name y py)) spos.line X.env = pure true) (hi : PI X tg iter wi) (ok : BlkOk X.N X.env.scope scope own)
    (hg : ∀ (s : Shared) (H : Hp) (C : Addr) (cl : List (Str × Addr)) (fp : List Addr), PG (X.blk s H scope (compEnvC scope cl C X.env) fp) tg g) (ht : ∀ (s : Shared) (H : Hp) (C : Addr) (cl : List (Str × Addr)) (fp : List Addr), PTs (X.blk s H scope (compEnvC scope cl C X.env) fp) ifs tt)
    (he : ∀ (s : Shared) (H : Hp) (C : Addr) (cl : List (Str × Addr)) (fp : List Addr), PE (X.blk s H scope (compEnvC scope cl C X.env) fp) elt te) (hs : ∀ x, foldedSetIterable iter X.env x = pure x := by intro _; rfl) :
    PS X (.Assign [.Name y py] (.ListComp elt [⟨tg, iter, ifs, 0⟩] scope pos) spos) (tAsg (tLc wi g tt te (own.map (·.2))) (gName i)) := by
  intro pins s σ H D I h
  rw [exec_Assign_Name_used _ _ _ _ hsw]
  refine wpAny_bind (wpAny_standAt (wpAny_bind ?_))
  show wpAny _ X.A (do let _ ← comprehension (.ListComp elt [⟨tg, iter, ifs, 0⟩] scope pos) scope X.env (firstIterPos [⟨tg, iter, ifs, 0⟩] pos) (newList []) false (eval iter X.env) (some (assign (.Name y py) X.env))) _ _ s
  have h : tLc wi g tt te (own.map (·.2)) σ H (fun x H1 => gName i x σ H1 D.nx) := h
  refine wpAny_bind (thn (lc_core (Qf := fun _ s' => SP X pins D .next s') hc hN I hi ok hg ht he hs h fun L C s' m H' I' q hn f => ?_) fun _ s' hq => wpAny_pure (wpAny_pure hq))
  show wpAny _ _ (assign (.Name y py) X.env (.ref L)) _ _ _
  refine wpAny_assign_Name (store_ok2 (v := V.ref L) I' hN hy (.inl hyl) rfl (fun s2 I2 ⟨a, sb, ha⟩ => ?_) (.inr hyl))
  obtain ⟨f0, f1, f2, f3, f4, f5⟩ := f
  have haC : C ≠ a := by
    rcases ha with z | z
    · rw [z]; exact f1
    · exact fun e => f4 y a z e.symm
  refine ⟨m, hn.sameBut sb haC, fun h3 sb3 => ?_⟩
  exact ⟨_, H', I2.turned (t' := s2.toks) (fun b o hb e => (sb3.2 b hb).trans e) f0 f1 f3 f4 f5, q⟩
end
end L2
namespace L2
open PySem PySem.Spec PyProof.Rows
section
variable {prog : Program} {w : World} {A : Around} {R : Result → Shared → Prop} {s : Shared} {elt t0 i0 t1 i1 : Expr} {ifs0 ifs1 : List Expr} {scope : Scope} {pos : Pos} {it acc : Value} {env : Env}
end
section
variable {X : Cx}
end
end L2
namespace L2
open PySem PySem.Spec PyProof.Rows
section
variable {κ : Type} [DecidableEq κ]
def valV (kvs : List (κ × V)) (k : κ) : Option V := (kvs.find? fun kv => decide (kv.1 = k)).map (·.2)
def putK (kvs : List (κ × V)) (k : κ) (v : V) : List (κ × V) :=
  if (kvs.any fun kv => decide (kv.1 = k)) = true then kvs.map (fun kv => if kv.1 = k then (kv.1, v) else kv) else kvs ++ [(k, v)]
def dropK (kvs : List (κ × V)) (k : κ) : List (κ × V) := kvs.filter fun kv => decide (kv.1 ≠ k)
theorem valV_pos {p : κ × V} {r : List (κ × V)} {k : κ} (e : p.1 = k) : valV (p :: r) k = some p.2 := by simp [valV, List.find?_cons, e]
theorem valV_neg {p : κ × V} {r : List (κ × V)} {k : κ} (e : ¬ p.1 = k) : valV (p :: r) k = valV r k := by simp [valV, List.find?_cons, e]
theorem valV_any (k : κ) : ∀ kvs : List (κ × V), (kvs.any fun kv => decide (kv.1 = k)) = (valV kvs k).isSome
  | [] => rfl
  | p :: r => by
    rw [List.any_cons]
    by_cases e : p.1 = k
    · simp only [valV_pos e, decide_eq_true e, Bool.true_or, Option.isSome_some]
    · rw [valV_neg e, decide_eq_false e, Bool.false_or]; exact valV_any k r
theorem RelO.isSome_eq {o : Option V} {u : Option Value} (r : RelO o u) : o.isSome = u.isSome := by
  cases o with
  | none => cases u with
    | none => rfl
    | some _ => exact (show False from r).elim
  | some _ => cases u with
    | none => exact (show False from r).elim
    | some _ => rfl
theorem RelO.getD {o : Option V} {u : Option Value} {d : V} {d' : Value} (r : RelO o u) (rd : RelV d d') : RelV (o.getD d) (u.getD d') := by
  cases o with
  | none => cases u with
    | none => exact rd
    | some _ => exact (show False from r).elim
  | some _ => cases u with
    | none => exact (show False from r).elim
    | some _ => exact r
theorem KV.val {kvs : List (κ × V)} {vs : List (κ × Value)} (r : KV kvs vs) (k : κ) : RelO (valV kvs k) (valueAt vs k) := by
  unfold KV at r
  induction r with
  | nil => exact True.intro
  | @cons p q ps qs h t ih =>
    obtain ⟨h1, h2⟩ := h
    by_cases e : p.1 = k
    · have e' : q.1 = k := h1.symm.trans e
      have b : valueAt (q :: qs) k = some q.2 := by simp [valueAt, List.find?_cons, e']
      rw [valV_pos e, b]; exact h2
    · have e' : ¬ q.1 = k := fun z => e (h1.trans z)
      have b : valueAt (q :: qs) k = valueAt qs k := by simp [valueAt, List.find?_cons, e']
      rw [valV_neg e, b]; exact ih
theorem KV.any {kvs : List (κ × V)} {vs : List (κ × Value)} (r : KV kvs vs) (k : κ) : (kvs.any fun kv => decide (kv.1 = k)) = vs.any fun kv => decide (kv.1 = k) := by
  unfold KV at r
  induction r with
  | nil => rfl
  | cons h t ih => rw [List.any_cons, List.any_cons, ih, h.1]
theorem KV.repl {kvs : List (κ × V)} {vs : List (κ × Value)} (r : KV kvs vs) (k : κ) {y : V} {u : Value} (ry : RelV y u) :
    KV (kvs.map fun kv => if kv.1 = k then (kv.1, y) else kv) (vs.map fun kv => if kv.1 = k then (kv.1, u) else kv) := by
  unfold KV at r ⊢
  induction r with
  | nil => exact .nil
  | @cons p q ps qs h t ih =>
    rw [List.map_cons, List.map_cons]
    refine .cons ?_ ih
    obtain ⟨h1, h2⟩ := h
    by_cases e : p.1 = k
    · rw [if_pos e, if_pos (h1.symm.trans e)]; exact ⟨h1, ry⟩
    · rw [if_neg e, if_neg (fun z => e (h1.trans z))]; exact ⟨h1, h2⟩
theorem KV.put {kvs : List (κ × V)} {vs : List (κ × Value)} (r : KV kvs vs) (k : κ) {y : V} {u : Value} (ry : RelV y u) : KV (putK kvs k y) (stored vs k u) := by
  unfold putK stored
  rw [r.any k]
  by_cases e : (vs.any fun kv => decide (kv.1 = k)) = true
  · rw [if_pos e, if_pos e]; exact r.repl k ry
  · rw [if_neg e, if_neg e]; exact Paired.snoc r ⟨rfl, ry⟩
theorem KV.drop {kvs : List (κ × V)} {vs : List (κ × Value)} (r : KV kvs vs) (k : κ) : KV (dropK kvs k) (without vs k) := by
  unfold KV at r ⊢
  unfold dropK without
  induction r with
  | nil => exact .nil
  | @cons p q ps qs h t ih =>
    obtain ⟨h1, h2⟩ := h
    rw [List.filter_cons, List.filter_cons]
    by_cases e : p.1 = k
    · have a : ¬ decide (p.1 ≠ k) = true := by simp [e]
      have b : ¬ decide (q.1 ≠ k) = true := by simp [h1.symm.trans e]
      rw [if_neg a, if_neg b]; exact ih
    · have e' : ¬ q.1 = k := fun z => e (h1.trans z)
      have a : decide (p.1 ≠ k) = true := by simp [e]
      have b : decide (q.1 ≠ k) = true := by simp [e']
      rw [if_pos a, if_pos b]; exact .cons ⟨h1, h2⟩ ih
theorem KV.keys {kvs : List (κ × V)} {vs : List (κ × Value)} (r : KV kvs vs) : kvs.map (·.1) = vs.map (·.1) := by
  unfold KV at r
  induction r with
  | nil => rfl
  | cons h t ih => rw [List.map_cons, List.map_cons, ih, h.1]
theorem KV.length {kvs : List (κ × V)} {vs : List (κ × Value)} (r : KV kvs vs) : kvs.length = vs.length := Paired.length r
end
theorem kV_is {P : Program} {w : World} {k : Key} {u : Value} (r : RelV (kV k) u) : (mixKind P w).is k u = true := by
  cases k with
  | inl i => obtain ⟨t, e⟩ := (show ∃ t, u = Value.int i t from r); subst e; exact mixKind_int P w i t
  | inr x => obtain ⟨t, e⟩ := (show ∃ t, u = Value.str x t from r); subst e; exact mixKind_str P w x t
abbrev KT (H : Hp) : List (List Key × V) → List (List Key × Addr × Value) → Prop := Paired fun p q => p.1 = q.1 ∧ H q.2.1 = some (.tup (p.1.map kV)) ∧ RelV p.2 q.2.2
theorem KT.val {H : Hp} {kvs : List (List Key × V)} {xs : List (List Key × Addr × Value)} (r : KT H kvs xs) (k : List Key) : RelO (valV kvs k) ((atKey xs k).map (·.2)) := by
  induction r with
  | nil => exact True.intro
  | @cons p q ps qs h t ih =>
    obtain ⟨h1, _, h2⟩ := h
    by_cases e : p.1 = k
    · have e' : q.1 = k := h1.symm.trans e
      have b : atKey (q :: qs) k = some q.2 := by simp [atKey, List.find?_cons, e']
      rw [valV_pos e, b]; exact h2
    · have e' : ¬ q.1 = k := fun z => e (h1.trans z)
      have b : atKey (q :: qs) k = atKey qs k := by simp [atKey, List.find?_cons, e']
      rw [valV_neg e, b]; exact ih
theorem KT.repl {H : Hp} {kvs : List (List Key × V)} {xs : List (List Key × Addr × Value)} (r : KT H kvs xs) (k : List Key) {y : V} {u : Value} (ry : RelV y u) :
    KT H (kvs.map fun kv => if kv.1 = k then (kv.1, y) else kv) (xs.map (putAt k u)) := by
  induction r with
  | nil => exact .nil
  | @cons p q ps qs h t ih =>
    rw [List.map_cons, List.map_cons]
    refine .cons ?_ ih
    obtain ⟨h1, h2, h3⟩ := h
    unfold putAt
    by_cases e : p.1 = k
    · rw [if_pos e, if_pos (h1.symm.trans e)]; exact ⟨h1, h2, ry⟩
    · rw [if_neg e, if_neg (fun z => e (h1.trans z))]; exact ⟨h1, h2, h3⟩
theorem KT.put {H : Hp} {kvs : List (List Key × V)} {xs : List (List Key × Addr × Value)} (r : KT H kvs xs) (k : List Key) {b : Addr} {y : V} {u : Value} (hb : H b = some (.tup (k.map kV))) (ry : RelV y u) :
    KT H (putK kvs k y) (storedH xs k b u) := by
  have e : (kvs.any fun kv => decide (kv.1 = k)) = (atKey xs k).isSome := by
    rw [valV_any, (r.val k).isSome_eq, Option.isSome_map]
  unfold putK storedH
  rw [e]
  by_cases q : (atKey xs k).isSome = true
  · rw [if_pos q, if_pos q]; exact r.repl k ry
  · rw [if_neg q, if_neg q]; exact Paired.snoc r ⟨rfl, hb, ry⟩
theorem KT.keeps {H H' : Hp} {kvs : List (List Key × V)} {xs : List (List Key × Addr × Value)} (r : KT H kvs xs) (ht : ∀ b ys, H b = some (.tup ys) → H' b = some (.tup ys)) : KT H' kvs xs :=
  Paired.mapP r fun _ _ z => ⟨z.1, ht _ _ z.2.1, z.2.2⟩
section
variable {P : Program} {w : World} {H : Hp} {h : Heap} {a : Addr}
end
def DGet (H : Hp) (a : Addr) (y : V) (r : Option V) : Prop :=
  (∃ kvs k, Rd H a (.dK kvs) ∧ y = kV k ∧ r = valV kvs k) ∨ ∃ kvs k b, Rd H a (.dT kvs) ∧ y = .ref b ∧ H b = some (.tup (k.map kV)) ∧ r = valV kvs k
def DPut (H : Hp) (a : Addr) (y v : V) (H' : Hp) : Prop :=
  (∃ kvs k, H a = some (.dK kvs) ∧ y = kV k ∧ kvs.length < sizeLine ∧ H' = upd H a (.dK (putK kvs k v))) ∨
  ∃ kvs k b, H a = some (.dT kvs) ∧ y = .ref b ∧ H b = some (.tup (k.map kV)) ∧ kvs.length < sizeLine ∧ H' = upd H a (.dT (putK kvs k v))
theorem DGet.k {H : Hp} {a : Addr} {kvs : List (Key × V)} {k : Key} (e : H a = some (.dK kvs)) : DGet H a (kV k) (valV kvs k) := .inl ⟨kvs, k, .inl e, rfl, rfl⟩
theorem DGet.t {H : Hp} {a b : Addr} {kvs : List (List Key × V)} {k : List Key} (e : H a = some (.dT kvs)) (eb : H b = some (.tup (k.map kV))) : DGet H a (.ref b) (valV kvs k) := .inr ⟨kvs, k, b, .inl e, rfl, eb, rfl⟩
theorem DPut.k {H : Hp} {a : Addr} {kvs : List (Key × V)} {k : Key} {v : V} (e : H a = some (.dK kvs)) (hl : kvs.length < sizeLine) : DPut H a (kV k) v (upd H a (.dK (putK kvs k v))) := .inl ⟨kvs, k, e, rfl, hl, rfl⟩
theorem DPut.t {H : Hp} {a b : Addr} {kvs : List (List Key × V)} {k : List Key} {v : V} (e : H a = some (.dT kvs)) (eb : H b = some (.tup (k.map kV))) (hl : kvs.length < sizeLine) :
    DPut H a (.ref b) v (upd H a (.dT (putK kvs k v))) := .inr ⟨kvs, k, b, e, rfl, eb, hl, rfl⟩
section
variable {X : Cx} {pins : List (Addr × Obj)} {σ : St} {H : Hp} {s : Shared} {a : Addr} {y v : V} {u r : Value} {o : Option V} {A : Around} {E : Value → Shared → Prop}
theorem Inv.big (I : Inv X pins σ H s) : sysModules < s.heap.objs.size := by
  have h : mainGlobals < s.heap.objs.size := (I.mod.glob.keeps I.bk).lt
  exact Nat.lt_trans (by decide) h
end
section
variable {X : Cx} {pins : List (Addr × Obj)} {σ : St} {H : Hp} {s : Shared} {a : Addr} {kvs : List (Key × V)} {k : Key} {u : Value} {A : Around} {E : Value → Shared → Prop}
end
def NoSl (i : Expr) : Prop := ∀ ov iv, subscripted i false ov iv = operate [ov, iv] (getItem ov iv)
theorem subD_of {prog : Program} {w : World} {A : Around} {E : Value → Shared → Prop} {s : Shared} {env : Env} {value slice : Expr} {pos : Pos} {T id : String} {Q : Value → Shared → Prop}
    (hl : typeLookup (.type T) "__getitem__" = pure (some (.builtin id))) (hs : NoSl slice)
    (h : wpAny (model prog w) A (eval value env) (fun o s₁ => wpAny (model prog w) A (eval slice env) (fun i s₂ => s₂.TypeIs o T ∧ wpAny (model prog w) A (getItem o i) Q E s₂) E s₁) E s) :
    wpAny (model prog w) A (eval (.Subscript value slice pos) env) Q E s := by
  refine Subscript_ (wpAny_mono h (fun o s₁ h₁ => wpAny_mono h₁ (fun i s₂ h₂ => ?_) fun _ _ x => x) fun _ _ x => x)
  obtain ⟨hT, h₂⟩ := h₂
  unfold subscriptTail
  refine wpAny_bind ?_
  rw [getitemInPython_of_ne hT.not_modules]
  refine wpAny_bind (wpAny_specialOf hT hl ?_)
  have fin : wpAny (model prog w) A (subscripted slice false o i) (fun r s₃ => wpAny (model prog w) A (letTemporaryGo value o r >>= fun _ => pure r) Q E s₃) E s₂ := by
    rw [hs o i]
    exact wpAny_operating (wpAny_mono h₂ (fun r s₃ h₃ => wpAny_bind (wpAny_letTemporaryGo (wpAny_pure h₃))) fun _ _ x => x)
  first
    | exact wpAny_pure (wpAny_bind fin)
    | exact wpAny_bind (wpAny_pure (wpAny_bind fin))
    | exact wpAny_bind fin
section
variable {X : Cx} {o i e value : Expr} {pos pos' tpos : Pos} {td ty tv : TE}
end
section
variable {X : Cx} {pos : Pos}
end
structure M1 (X : Cx) (o : Expr) (m : Str) (apos : Pos) (e : Expr) (cpos : Pos) : Prop where
  base : attributeBase o m X.env (eval o X.env) = eval o X.env
  few : ((backTo cpos (starEach [e] X.env)).all (fun x => !x.1) && (backToKw cpos (keywordEach [] X.env)).all (fun x => x.1.isSome)
    && decide (([e] : List Expr).length + ([] : List Keyword).length + (if ([] : List Keyword).isEmpty then 0 else 1) < 30)) = true
  line : (apos.endLine == cpos.line) = true
  trees : backTo cpos (starEach [e] X.env) = [(false, eval e X.env)]
structure M2 (X : Cx) (o : Expr) (m : Str) (apos : Pos) (e f : Expr) (cpos : Pos) : Prop where
  base : attributeBase o m X.env (eval o X.env) = eval o X.env
  few : ((backTo cpos (starEach [e, f] X.env)).all (fun x => !x.1) && (backToKw cpos (keywordEach [] X.env)).all (fun x => x.1.isSome)
    && decide (([e, f] : List Expr).length + ([] : List Keyword).length + (if ([] : List Keyword).isEmpty then 0 else 1) < 30)) = true
  line : (apos.endLine == cpos.line) = true
  trees : backTo cpos (starEach [e, f] X.env) = [(false, eval e X.env), (false, eval f X.env)]
section
variable {X : Cx} {pins : List (Addr × Obj)} {σ : St} {H : Hp} {s : Shared} {a : Addr} {y d : V} {u r : Value} {o : Option V} {A : Around} {E : Value → Shared → Prop}
end
section
variable {X : Cx} {o e f : Expr} {apos cpos : Pos} {td ty tx : TE}
end
section
variable {X : Cx} {pins : List (Addr × Obj)} {σ : St} {H : Hp} {s : Shared} {a : Addr} {kvs : List (Key × V)} {A : Around} {E : Value → Shared → Prop}
end
section
variable {X : Cx} {pins : List (Addr × Obj)} {σ : St} {H : Hp} {s : Shared} {a : Addr} {y : V} {u : Value} {A : Around} {E : Value → Shared → Prop}
end
end L2
namespace L2
open PySem PySem.Spec PyProof.Rows
section
variable {prog : Program} {w : World} {A : Around} {E : Value → Shared → Prop}
end
section
variable {X : Cx}
end
end L2
namespace L2
open PySem PySem.Spec PyProof.Rows
section
variable {X : Cx} {pins : List (Addr × Obj)} {σ : St} {H : Hp} {s : Shared} {h' : Heap}
theorem Inv.turnedL {t' : Nat} {ch : List Addr} (I : Inv X pins σ H s) (k : ∀ b o, b ∉ ch → s.heap.get? b = some o → h'.get? b = some o) (hf : ∀ b ∈ ch, FpOk X pins H b) : Inv X pins σ H { s with heap := h', toks := t' } := by
  have nit : ∀ b u, H b = some u → b ∉ ch := fun b u e z => by
    have q := (hf b z).1
    rw [q] at e; cases e
  refine I.step (g' := s.gens) (d' := s.drawn) (ch := ch) (fun b hb => ⟨(hf b hb).2.2.2.1, (hf b hb).2.1, (hf b hb).2.2.2.2.1, (hf b hb).2.2.2.2.2⟩) (fun b o _ _ hc e _ => k b o hc e) (fun b o _ _ hc e _ => ⟨o.slots, k b o hc e⟩)
    (fun _ _ _ _ n => n) (fun b o hc e => ⟨o, k b o hc e⟩) (fun _ _ e => e) (fun _ _ _ e => e) (fun b ps e => ⟨#[], by rw [e]; simp⟩) (fun m hm => ?_) (fun b u e => ?_) I.bare
  · obtain ⟨o, es, ep, ho, r⟩ := hm
    exact ⟨o, es, ep, k _ o (fun z => (hf _ z).2.1 rfl) ho, r⟩
  · refine (I.hok b u e).stay (fun c v hc q => k c v ?_ q) (fun _ q => q) fun _ _ q => q
    rcases hc with z | z
    · rw [z]; exact nit b u e
    · exact nit c _ z
theorem Inv.turnedNew {t' : Nat} {ch : List Addr} {T : Addr} {ob : HO} (I : Inv X pins σ H s) (k : ∀ b o, b ∉ ch → s.heap.get? b = some o → h'.get? b = some o) (hf : ∀ b ∈ ch, FpOk X pins H b) (hT : s.heap.objs.size ≤ T)
    (new : ObjOk X.prog X.w (upd H T ob) h' T ob) : Inv X pins σ (upd H T ob) { s with heap := h', toks := t' } := by
  have hn : H T = none := I.hok.fresh hT
  have nit : ∀ b u, H b = some u → b ∉ ch := fun b u e z => by
    have q := (hf b z).1
    rw [q] at e; cases e
  refine I.step (g' := s.gens) (d' := s.drawn) (ch := ch) (fun b hb => ⟨(hf b hb).2.2.2.1, (hf b hb).2.1, (hf b hb).2.2.2.2.1, (hf b hb).2.2.2.2.2⟩) (fun b o _ _ hc e _ => k b o hc e) (fun b o _ _ hc e _ => ⟨o.slots, k b o hc e⟩)
    (fun b o _ e n => ?_) (fun b o hc e => ⟨o, k b o hc e⟩) (fun b xs e => ?_) (fun b o u e => ?_) (fun b ps e => ⟨#[], ?_⟩) (fun m hm => ?_) (fun b u e => ?_) I.bare
  · rw [upd_ne (Nat.ne_of_lt (Nat.lt_of_lt_of_le (Heap.lt_size e) hT))]; exact n
  · rw [upd_ne (ne_of_none e hn)]; exact e
  · rw [upd_ne (ne_of_none e hn)]; exact e
  · rw [upd_ne (ne_of_none e hn), e]; simp
  · obtain ⟨o, es, ep, ho, r⟩ := hm
    exact ⟨o, es, ep, k _ o (fun z => (hf _ z).2.1 rfl) ho, r⟩
  · by_cases hb : b = T
    · subst hb
      rw [upd_same] at e
      cases e
      exact new
    · rw [upd_ne hb] at e
      refine (I.hok b u e).stay (fun c v hc q => k c v ?_ q) (fun c q => by rw [upd_ne (ne_of_none q hn)]; exact q) fun c xs q => by rw [upd_ne (ne_of_none q hn)]; exact q
      rcases hc with z | z
      · rw [z]; exact nit b u e
      · exact nit c _ z
end
section
variable {X : Cx}
theorem pi_one {tg : Expr} {pins : List (Addr × Obj)} {σ : St} {H : Hp} {s : Shared} {R : It → Hp → Prop} {J : It} {tn : Nat → Heap → Prop} {tk : Nat} (I : Inv X pins σ H s) (o : Obj)
    (T : Turn X.prog X.w X.K tg J [s.heap.objs.size] s.heap.objs.size tn) (st : tn 0 (s.heap.push o)) (q : R J H) : PIE X pins σ tg R (.ref s.heap.objs.size) { s with heap := s.heap.push o, toks := tk } := by
  refine ⟨s.heap.objs.size, [s.heap.objs.size], tn, J, H, rfl, I.kept fun b ob e => Heap.get?_push_of_some _ e, T, st, fun b hb => ?_, q⟩
  have e : b = s.heap.objs.size := by simpa using hb
  subst e
  exact I.fpOk (Nat.le_refl _) (I.hok.fresh (Nat.le_refl _))
end
def Itc (lo c : Int) (n : Nat) : It := ⟨fun i _ => i < n, fun i H x H' => H' = H ∧ x = .int (lo + (i : Nat) * c), fun i _ => n ≤ i⟩
theorem turn_rangeC {P : Program} {w : World} {K : PySem.W.Frag} {tg : Expr} (it : Addr) (lo c : Int) (n : Nat) : Turn P w K tg (Itc lo c n) [it] it (fun i h => IsRangeIter h it (lo + (i : Nat) * c) ((n : Int) - (i : Nat)) c) where
  mem := by simp
  obj := fun i h st b hb => by
    have e : b = it := by simpa using hb
    subst e
    exact ⟨_, st, fun v z => nomatch z⟩
  keep := fun i h h' st k => k it (by simp) _ st
  item := by
    intro X hP hw hK hc i pins s σ H E I hf st hg
    subst hP hw hK
    obtain ⟨f0, f1, f2, f3, f4, f5⟩ := hf it (by simp)
    have W := Walks.range (prog := X.prog) (w := X.w) (I.ok.hd hc) it lo c n
    refine W.item i s _ _ hg st fun v h' tk hv st' kk => ?_
    obtain ⟨t, rfl⟩ := hv
    have I1 : Inv X pins σ H { s with heap := h', toks := tk } := I.turned (fun b o hb e => kk b o (by simpa using hb) e) f0 f1 f3 f4 f5
    exact ⟨_, rfl, go_of (s := { s with heap := h', toks := tk }) (n := "range_iterator") st' rfl rfl (by decide) ⟨.int (lo + (i : Nat) * c), H, I1, ⟨t, rfl⟩, ⟨rfl, rfl⟩, st', fun b hb => (hf b hb).1⟩⟩
  done := by
    intro X hP hw hK hc i pins s σ H E I hf st hg
    subst hP hw hK
    obtain ⟨f0, f1, f2, f3, f4, f5⟩ := hf it (by simp)
    exact wpAny_pyNext_range_end (I.ok.hd hc) st (by have : n ≤ i := hg; omega) fun h' eb => ⟨rfl, I.turned (t' := s.toks) (fun b o hb e => eb b o hb e) f0 f1 f3 f4 f5⟩
  self := fun A i s Q E st h => wpAny_pyIter_rangeiter st h
def RgC (i j c : Int) (n : Nat) : Prop := c ≠ 0 ∧ c.natAbs < 1073741824 ∧ Builtin.Range.small i j c = true ∧ Builtin.Range.rangeSize i j c = n
theorem RgC.neg {i j : Int} (ha : -(2 ^ 62) ≤ i) (ha' : i < 2 ^ 62) (hb : -(2 ^ 62) ≤ j) (hb' : j < 2 ^ 62) : RgC i j (-1) (i - j).toNat :=
  ⟨by decide, by decide, PySem.W.small_down ha ha' hb hb', PySem.W.rangeSize_downNat i j⟩
def iRng3 (ta : TA) : TI := fun σ H R => ta σ H fun vs H1 => ∃ (i j c : Int) (n : Nat), vs = [.int i, .int j, .int c] ∧ RgC i j c n ∧ R (Itc i c n) H1
section
variable {X : Cx} {tg : Expr}
theorem pi_range3 {a b c : Expr} {ta : TA} {p pos : Pos} (hg : Gl X "range") (hm : X.mg "range" = none) (ha : PA X [a, b, c] ta)
    (hs : starEach [a, b, c] X.env = (false, eval a X.env) :: starEach [b, c] X.env := by rfl) (hpl : (backTo pos (starEach [b, c] X.env)).any (·.1) = false := by rfl) :
    PI X tg (.Call (.Name "range" p) [a, b, c] [] pos) (iRng3 ta) := by
  intro pins s σ H R I h
  refine Call_ (ld_blt I hg hm boot_range (PyProof.Rows.callWith_type1 (thn (ha pos pins s σ H _ I h) fun us s1 ⟨vs, H1, I1, r1, q1⟩ => ?_) hs hpl))
  obtain ⟨i, j, k, n, e, ⟨c0, c1, c2, c3⟩, q⟩ := q1
  subst e
  cases r1 with
  | cons r rr =>
    cases rr with
    | cons r' rr =>
      cases rr with
      | cons r'' rr =>
        cases rr
        obtain ⟨t, rfl⟩ := r
        obtain ⟨t', rfl⟩ := r'
        obtain ⟨t'', rfl⟩ := r''
        refine call_range_3 c0 ?_ (.inl (PyProof.noPylong_small c1))
        refine wpAny_pyIter_range (IsRange.new ..) c2 ?_
        have I2 : Inv X pins σ H1 { s1 with heap := s1.heap.push { cls := .type "range", data := .fields #[.int i t, .int j t', .int k t''] } } := I1.kept (t' := s1.toks) fun b o e => Heap.get?_push_of_some _ e
        refine pi_one (tk := s1.toks) I2 _ (turn_rangeC _ i k n) ?_ q
        have e1 : i + ((0 : Nat) : Int) * k = i := by simp
        have e2 : (n : Int) - ((0 : Nat) : Int) = Builtin.Range.rangeSize i j k := by rw [c3]; simp
        show IsRangeIter _ _ (i + ((0 : Nat) : Int) * k) ((n : Int) - ((0 : Nat) : Int)) k
        rw [e1, e2]
        exact Heap.get?_push_size _ rfl
end
theorem for_rangeC {lo c : Int} {n : Nat} {g : TG} {tb : TS} {D : Ends} {σ : St} {H : Hp} (Pv : Nat → St → Hp → Prop) (h0 : Pv 0 σ H)
    (hs : ∀ i σ H, i < n → Pv i σ H → g (.int (lo + (i : Nat) * c)) σ H fun σ2 H2 => tb { D with nx := Pv (i + 1), ct := Pv (i + 1), bk := D.nx } σ2 H2) (hd : ∀ σ H, Pv n σ H → D.nx σ H) :
    ∃ W : Nat → Nat → St → Hp → Prop, (∃ m, W 0 m σ H) ∧ ∀ i m σ H, W i m σ H →
      ((Itc lo c n).stop i H ∧ D.nx σ H) ∨ ((Itc lo c n).go i H ∧ ∃ N : St → Hp → Prop, (∀ σ' H', N σ' H' → ∃ m', m' < m ∧ W (i + 1) m' σ' H') ∧ ∀ x H', (Itc lo c n).yld i H x H' → g x σ H' fun σ2 H2 => tb { D with nx := N, ct := N, bk := D.nx } σ2 H2) := by
  refine ⟨fun i m σ H => m = n - i ∧ i ≤ n ∧ Pv i σ H, ⟨n, by simp, Nat.zero_le _, h0⟩, ?_⟩
  rintro i m σ H ⟨rfl, hi, p⟩
  by_cases hlt : i < n
  · refine .inr ⟨hlt, Pv (i + 1), fun σ' H' p' => ⟨n - (i + 1), by omega, rfl, hlt, p'⟩, fun x H' y => ?_⟩
    obtain ⟨e, y⟩ := y
    subst e y
    exact hs i σ _ hlt p
  · have e : i = n := by omega
    subst e
    exact .inl ⟨Nat.le_refl _, hd σ H p⟩
section
variable {X : Cx} {tg : Expr}
end
section
variable {prog : Program} {w : World} {A : Around} {E : Value → Shared → Prop} {s : Shared}
end
section
variable {X : Cx} {pins : List (Addr × Obj)} {σ : St} {H : Hp} {s : Shared} {d : Addr} {o : Obj}
end
section
variable {P : Program} {w : World} {K : PySem.W.Frag} {tg : Expr} {d : Addr} {o : Obj} {es : Array DictEntry} {ep : Nat}
end
section
variable {X : Cx} {tg e : Expr} {td : TE} {apos cpos : Pos}
end
theorem boot_zip5 : bootBuiltins "zip" = some (.type "zip") := by decide +kernel
def Itz (K : PySem.W.Frag) (a b : Addr) : It :=
  ⟨fun i H => ∃ (xs ys : List V) (x y : V), SqL K H a xs ∧ SqL K H b ys ∧ xs[i]? = some x ∧ ys[i]? = some y,
    fun i H v H' => ∃ T x y, v = .ref T ∧ H T = none ∧ H' = upd H T (.tup [x, y]) ∧ (∀ xs, SqL K H a xs → xs[i]? = some x) ∧ ∀ ys, SqL K H b ys → ys[i]? = some y,
    fun i H => ∃ xs ys : List V, SqL K H a xs ∧ SqL K H b ys ∧ (xs.length ≤ i ∨ ys.length ≤ i)⟩
theorem turn_zip {P : Program} {w : World} {K : PySem.W.Frag} {elts : List Expr} {kk : Nat} {tpos : Pos} {a b z TI TO i1 i2 : Addr} (D : ZipApart z TI TO i1 i2 a b) :
    Turn P w K (.Tuple elts kk tpos) (Itz K a b) [z, TI, TO, i1, i2] z (fun i h => IsZip h z TI TO .none ∧ IsPair h TI (.ref i1) (.ref i2) ∧ (∃ x y, IsPair h TO x y) ∧ h.IsListIter i1 a i ∧ h.IsListIter i2 b i) where
  mem := by simp
  obj := fun i h st c hc => by
    obtain ⟨hz, hTI, ⟨x, y, hTO⟩, ⟨o1, e1, _, d1⟩, ⟨o2, e2, _, d2⟩⟩ := st
    have e' : c = z ∨ c = TI ∨ c = TO ∨ c = i1 ∨ c = i2 := by simpa using hc
    rcases e' with q | q | q | q | q
    · rw [q]; exact ⟨_, hz, fun v q => nomatch q⟩
    · rw [q]; exact ⟨_, hTI, fun v q => nomatch q⟩
    · rw [q]; exact ⟨_, hTO, fun v q => nomatch q⟩
    · rw [q]; exact ⟨o1, e1, fun v q => by rw [d1] at q; cases q⟩
    · rw [q]; exact ⟨o2, e2, fun v q => by rw [d2] at q; cases q⟩
  keep := fun i h h' st k => by
    obtain ⟨hz, hTI, ⟨x, y, hTO⟩, h1, h2⟩ := st
    exact ⟨k z (by simp) _ hz, k TI (by simp) _ hTI, ⟨x, y, k TO (by simp) _ hTO⟩, h1.at fun o q => k i1 (by simp) o q, h2.at fun o q => k i2 (by simp) o q⟩
  item := by
    intro X hP hw hK hc i pins s σ H E I hf st hg
    subst hP hw hK
    obtain ⟨hz, hTI, ⟨x0, y0, hTO⟩, h1, h2⟩ := st
    obtain ⟨xs, ys, x, y, hqx, hqy, hx, hy⟩ := hg
    obtain ⟨its, rv, p, _⟩ := I.list hqx
    obtain ⟨its2, rv2, p2, _⟩ := I.list hqy
    obtain ⟨u, hu, ru⟩ := rv.get hx
    obtain ⟨u2, hu2, ru2⟩ := rv2.get hy
    have hzl : z < s.heap.objs.size := Heap.lt_size hz
    refine wpAny_pyNext_zip_item D hz hTI hTO h1 h2 p.isList p2.isList (x := u) (y := u2) (by simpa using hu) (by simpa using hu2) fun h' z' TO' h1' h2' hT hsz hk => ?_
    refine ⟨_, rfl, wpAny_letOwnedTupleGo_zip (s := { s with heap := h' }) z' fun h'' z'' sb => ?_⟩
    have hT2 : h''.get? s.heap.objs.size = some { cls := .type "tuple", data := .seq #[u, u2] } := (sb.2 _ (Nat.ne_of_gt hzl)).trans hT
    have new : ObjOk X.prog X.w (upd H s.heap.objs.size (.tup [x, y])) h'' s.heap.objs.size (.tup [x, y]) :=
      ⟨by show 2 ≤ sizeLine; decide, [u, u2], .cons ru (.cons ru2 .nil), ⟨_, hT2, rfl, _, rfl⟩⟩
    have I1 : Inv X pins σ (upd H s.heap.objs.size (.tup [x, y])) { s with heap := h'' } :=
      I.turnedNew (t' := s.toks) (ch := [z, TI, TO, i1, i2]) (fun c o hb q => (sb.2 c (fun q' => hb (by simp [q']))).trans (hk c o (fun q' => hb (by simp [q'])) (fun q' => hb (by simp [q'])) (fun q' => hb (by simp [q'])) (fun q' => hb (by simp [q'])) q)) hf (Nat.le_refl _) new
    refine ⟨.ref s.heap.objs.size, _, I1, rfl, ⟨_, x, y, rfl, I.hok.fresh (Nat.le_refl _), rfl, fun l hl => by rw [I.list_inj hl hqx]; exact hx, fun l hl => by rw [I.list_inj hl hqy]; exact hy⟩, ⟨z'', ?_, ⟨u, u2, ?_⟩, ?_, ?_⟩, fun c hcm => ?_⟩
    · exact (sb.2 _ D.TIz).trans (hk _ _ D.TIz D.TITO D.TIi1 D.TIi2 hTI)
    · exact (sb.2 _ D.TOz).trans TO'
    · exact h1'.at fun o q => (sb.2 _ D.i1z).trans q
    · exact h2'.at fun o q => (sb.2 _ D.i2z).trans q
    · have hlt : c < s.heap.objs.size := by
        have e' : c = z ∨ c = TI ∨ c = TO ∨ c = i1 ∨ c = i2 := by simpa using hcm
        rcases e' with q | q | q | q | q
        · rw [q]; exact hzl
        · rw [q]; exact Heap.lt_size hTI
        · rw [q]; exact Heap.lt_size hTO
        · rw [q]; obtain ⟨_, e1, _⟩ := h1; exact Heap.lt_size e1
        · rw [q]; obtain ⟨_, e2, _⟩ := h2; exact Heap.lt_size e2
      rw [upd_ne (Nat.ne_of_lt hlt)]
      exact (hf c hcm).1
  done := by
    intro X hP hw hK hc i pins s σ H E I hf st hg
    subst hP hw hK
    obtain ⟨hz, hTI, ⟨x0, y0, hTO⟩, h1, h2⟩ := st
    obtain ⟨xs, ys, hqx, hqy, hend⟩ := hg
    obtain ⟨its, rv, p, _⟩ := I.list hqx
    obtain ⟨its2, rv2, p2, _⟩ := I.list hqy
    have l1 := rv.length
    have l2 := rv2.length
    have he : its.toArray[i]? = none ∨ its2.toArray[i]? = none := by
      rcases hend with q | q
      · exact .inl (by simp; omega)
      · exact .inr (by simp; omega)
    exact wpAny_pyNext_zip_end (I.ok.hd hc) D hz hTI hTO h1 h2 p.isList p2.isList he fun h' hk => ⟨rfl, I.turnedL (t' := s.toks) (ch := [z, TI, TO, i1, i2]) (fun c o hb q =>
      hk c o (fun q' => hb (by simp [q'])) (fun q' => hb (by simp [q'])) (fun q' => hb (by simp [q'])) (fun q' => hb (by simp [q'])) q) hf⟩
  self := fun A i s Q E st h => wpAny_pyIter_zip st.1 h
def iZip (K : PySem.W.Frag) (ta : TA) : TI := fun σ H R => ta σ H fun vs H1 => ∃ a b xs ys, vs = [.ref a, .ref b] ∧ SqL K H1 a xs ∧ SqL K H1 b ys ∧ R (Itz K a b) H1
theorem pi_zip {X : Cx} {e e2 : Expr} {ta : TA} {p pos tpos : Pos} {elts : List Expr} {kk : Nat} (hg : Gl X "zip") (hm : X.mg "zip" = none) (ha : PA X [e, e2] ta)
    (hs : starEach [e, e2] X.env = (false, eval e X.env) :: starEach [e2] X.env := by rfl) (hpl : (backTo pos (starEach [e2] X.env)).any (·.1) = false := by rfl) :
    PI X (.Tuple elts kk tpos) (.Call (.Name "zip" p) [e, e2] [] pos) (iZip X.K ta) := by
  intro pins s σ H R I h
  refine Call_ (ld_blt I hg hm boot_zip5 (PyProof.Rows.callWith_type1 (thn (ha pos pins s σ H _ I h) fun us s1 ⟨vs, H1, I1, r1, q1⟩ => ?_) hs hpl))
  obtain ⟨a, b, xs, ys, ex, hqx, hqy, q⟩ := q1
  subst ex
  cases r1 with
  | cons r rr =>
    cases rr with
    | cons r' rr =>
      cases rr
      cases r
      cases r'
      obtain ⟨its, rv, p1, _⟩ := I1.list hqx
      obtain ⟨its2, rv2, p2, _⟩ := I1.list hqy
      have la : a < s1.heap.objs.size := p1.lt
      have lb : b < s1.heap.objs.size := p2.lt
      refine call_zip_2 p1.isList p2.isList fun h' hz hTI hTO h1 h2 hsz hk => wpAny_pyIter_zip hz ?_
      have I2 : Inv X pins σ H1 { s1 with heap := h' } := I1.kept (t' := s1.toks) hk
      refine ⟨s1.heap.objs.size + 4, [s1.heap.objs.size + 4, s1.heap.objs.size + 2, s1.heap.objs.size + 3, s1.heap.objs.size, s1.heap.objs.size + 1], _, _, H1, rfl, I2, turn_zip (PySem.W.ktu_apart s1.heap.objs.size a b la lb), ⟨hz, hTI, ⟨_, _, hTO⟩, h1, h2⟩, fun c hcm => ?_, q⟩
      have e' : c = s1.heap.objs.size + 4 ∨ c = s1.heap.objs.size + 2 ∨ c = s1.heap.objs.size + 3 ∨ c = s1.heap.objs.size ∨ c = s1.heap.objs.size + 1 := by simpa using hcm
      have hle : s1.heap.objs.size ≤ c := by
        rcases e' with z | z | z | z | z
        · rw [z]; exact Nat.le_add_right _ _
        · rw [z]; exact Nat.le_add_right _ _
        · rw [z]; exact Nat.le_add_right _ _
        · rw [z]; exact Nat.le_refl _
        · rw [z]; exact Nat.le_add_right _ _
      exact I1.fpOk hle (I1.hok.fresh hle)
end L2
section 
namespace Bits
open PySem PyProof.Rows
end Bits
end 
section 
namespace TL
open PySem PySem.Builtin PySem.Builtin.Str PySem.StrLaws
abbrev tl (x : Str) : List Nat := x.cps.toList
def pre (S l : List Nat) : Bool := l.take S.length == S
def par (S : List Nat) : List Nat → List Nat → Option (List Nat × List Nat)
  | _, [] => none
  | acc, c :: r => if pre S (c :: r) = true then some (acc, (c :: r).drop S.length) else par S (acc ++ [c]) r
end TL
end 
namespace L2
open PySem PySem.Spec PyProof.Rows
section
variable {X : Cx} {pins : List (Addr × Obj)} {σ : St} {H : Hp} {s : Shared} {Q : VK}
end
section
variable {X : Cx}
end
section
variable {X : Cx} {o e : Expr} {to te : TE}
end
end L2
namespace L2
open PySem PySem.Spec PyProof.Rows
section
variable {X : Cx}
end
theorem IsPart.raw {v : Value} {o : Option Int} (p : IsPart v o) : ∃ l : Option (Int × Tok), v = partValue l ∧ l.map (·.1) = o := by
  cases p with
  | none => exact ⟨none, rfl, rfl⟩
  | int i t => exact ⟨some (i, t), rfl, rfl⟩
end L2
namespace Att
open PySem PySem.W PySem.Calls PyProof.Rows
section
variable {prog : Program} {w : World} {A : Around} {E : Value → Shared → Prop} {s : Shared} {K : Frag}
end
end Att
namespace L2
open PySem PySem.Spec PyProof.Rows
end L2
namespace L2
open PySem PySem.Spec PyProof.Rows
end L2
namespace L2
open PySem PySem.Spec PyProof.Rows
def inClass (s : Stmt) (j : Nat) : Stmt := match s with
  | .ClassDef _ _ _ body _ _ _ _ _ _ _ => body.getD j (.Pass ⟨0, 0, 0, 0⟩)
  | _ => .Pass ⟨0, 0, 0, 0⟩
def defArgs (s : Stmt) : Arguments := match s with
  | .FunctionDef _ a _ _ _ _ _ _ _ _ => a
  | _ => { posonlyargs := [], args := [], vararg := none, kwonlyargs := [], kw_defaults := [], kwarg := none, defaults := [] }
def defBody (s : Stmt) : List Stmt := match s with
  | .FunctionDef _ _ b _ _ _ _ _ _ _ => b
  | _ => []
def defScope (s : Stmt) : Scope := match s with
  | .FunctionDef _ _ _ _ _ _ sc _ _ _ => sc
  | _ => { kind := .function, names := [], isGenerator := false, isCoroutine := false }
abbrev CX0 : CXT := fun _ _ _ _ _ _ => False
abbrev E0 : XK := fun _ _ _ => False
theorem pass0 {X : Cx} : Passes CX0 X E0 := fun _ _ _ _ _ _ _ h => h.elim
structure Fun (K : PySem.W.Frag) (x qual : Str) (st : Stmt) (f : Addr) (fd : FuncData) : Prop where
  ex : ∃ (oc : Value) (od : Option Addr) (kV doc pm : Value) (an : Option Addr) (cdv ct : Value) (osl : Array (Option Value)),
    fd = PySem.W.fnOf x qual (defArgs st) (defBody st) (defScope st) .none kV doc pm an cdv ct ∧ K.lookup f = some ⟨oc, od, .func fd, osl⟩ ∧ PySem.W.codeIn K cdv qual = true
  kp : PySem.W.keepIn K (.ref f) = true
section
variable {P : Program} {w : World} {K : PySem.W.Frag} {mg : Str → Option Value} {base : Heap}
theorem Fun.ok {x qual : Str} {st : Stmt} {f : Addr} {fd : FuncData} {N ps : List Str} {k : Nat} {sp : Sp} (F : Fun K x qual st f fd) (S : FnScope N ps (defScope st)) (len : ∀ vs H Q E, sp vs H Q E → vs.length = ps.length)
    (hbody : ∀ (cdv : Value) (A : Around) (outer : List Env) (s : Shared) (H : Hp) (vs : List V) (Q : VK) (E : XK), Room k (A.deeper (envOfC qual (defScope st) s.heap.objs.size f cdv)) → sp vs H Q E →
      ∃ t, PSs (cxOf CX0 P w K mg base N qual (defScope st) f cdv A outer s H E).nox (defBody st) t ∧ t { nx := fun _ H' => Q .non H', rt := Q } (start N vs) H) : FnOk P w K mg base CX0 (k + 1) f fd ps sp := by
  obtain ⟨oc, od, kV, doc, pm, an, cdv, ct, osl, rfl, lk, hcd⟩ := F.ex
  refine fn_of lk hcd S len fun A outer s H vs Q E hr hsp => ?_
  obtain ⟨t, h, q⟩ := hbody cdv A outer s H vs Q E hr hsp
  exact ⟨t, h.nox, q⟩
theorem Fun.binds {x qual : Str} {st : Stmt} {f : Addr} {fd : FuncData} {ps : List Str} (F : Fun K x qual st f fd)
    (h : ∀ (kV doc pm : Value) (an : Option Addr) (cdv ct : Value) (us : List Value), us.length = ps.length → bindArgs (PySem.W.fnOf x qual (defArgs st) (defBody st) (defScope st) .none kV doc pm an cdv ct) ⟨us, []⟩ = pure (ps.zip us)) : Binds K fd ps [] := by
  obtain ⟨oc, od, kV, doc, pm, an, cdv, ct, osl, rfl, lk, hcd⟩ := F.ex
  exact .all (h kV doc pm an cdv ct)
theorem fun_mk {x qual : Str} {st : Stmt} {f : Addr} {oc : Value} {od an : Option Addr} {osl : Array (Option Value)} {kV doc pm cdv ct : Value} (l : K.lookup f = some ⟨oc, od, .func (PySem.W.fnOf x qual (defArgs st) (defBody st) (defScope st) .none kV doc pm an cdv ct), osl⟩)
    (c : PySem.W.codeIn K cdv qual = true) (k : PySem.W.keepIn K (.ref f) = true) : Fun K x qual st f (PySem.W.fnOf x qual (defArgs st) (defBody st) (defScope st) .none kV doc pm an cdv ct) := ⟨⟨oc, od, kV, doc, pm, an, cdv, ct, osl, rfl, l, c⟩, k⟩
end
section
variable {X : Cx}
theorem pv (i : Nat) {x : Str} {pos : Pos} (hN : X.N[i]? = some x := by rfl) (hv : Vis X.env.scope x := by first | exact Or.inl rfl | exact Or.inr (Or.inl rfl) | exact Or.inr (Or.inr rfl)) (hd : (x == ("__debug__" : Str)) = false := by decide)
    (hcd : (x == ("__classdict__" : Str)) = false := by decide) : PE X (.Name x pos) (tVar i) := pe_var hN hv hd hcd
end
theorem iteF {A B : Prop} (h : B) : if false = true then A else B := by
  rw [if_neg Bool.false_ne_true]
  exact h
theorem iteT {A B : Prop} (h : A) : if true = true then A else B := by
  rw [if_pos rfl]
  exact h
theorem ite2 {c A B : Prop} [Decidable c] (h1 : c → A) (h2 : ¬ c → B) : if c then A else B := by
  by_cases h : c
  · rw [if_pos h]
    exact h1 h
  · rw [if_neg h]
    exact h2 h
def Same (H H' : Hp) : Prop := ∀ b o, H b = some o → H' b = some o
theorem Same.refl (H : Hp) : Same H H := fun _ _ h => h
theorem Same.trans {H H1 H2 : Hp} (a : Same H H1) (b : Same H1 H2) : Same H H2 := fun c o h => b c o (a c o h)
theorem Same.free {H H' : Hp} (e : Same H H') {l : Addr} (h : H' l = Option.none) : H l = Option.none := by
  cases q : H l with
  | none => rfl
  | some o =>
    rw [e l o q] at h
    cases h
theorem Same.seq {K : PySem.W.Frag} {H H' : Hp} {a : Addr} {xs : List V} (e : Same H H') (h : SqL K H a xs) : SqL K H' a xs := by
  rcases h with (h | ⟨o, h⟩) | h
  · exact .inl (.inl (e _ _ h))
  · exact .inl (.inr ⟨o, e _ _ h⟩)
  · exact .inr h
section
variable {κ : Type} [DecidableEq κ]
end
theorem at_of {xs : List V} {z : Int} {j : Nat} {v : V} (e : z = (j : Int)) (h : xs[j]? = some v) : atI xs z = some v := by
  rw [e]
  exact atI_nat h
theorem Same.made {H H1 : Hp} {x dx C : Addr} (nx : H x = Option.none) (nd : H dx = Option.none) (k : ∀ b o, (upd (upd H dx (.own x)) x (.ins C dx [])) b = some o → b ≠ x → H1 b = some o) : Same H H1 := fun b o e =>
  k b o (by rw [upd_ne (ne_of_none e nx), upd_ne (ne_of_none e nd)]; exact e) (ne_of_none e nx)
end L2
section
set_option maxHeartbeats 2000000
namespace L2
open PySem PySem.Spec PyProof.Rows
open PySem.W (WData Codec OpenSpec Well WellAll ReadsW ReadsAllW)
mutual
/-- x stands for the datum d, lists and tuples all the way -/
inductive Dw (K : PySem.W.Frag) (H : Hp) : V → WData → Prop
  | non : Dw K H .non .none
  | bl (b : Bool) : Dw K H (.bl b) (.bool b)
  | int (i : Int) : Dw K H (.int i) (.int i)
  | str (x : Str) : Dw K H (.str x) (.str x)
  | byt (b : Array UInt8) : Dw K H (.byt b) (.bytes b.toList)
  | lst {a : Addr} {xs : List V} {ds : List WData} : SqL K H a xs → DwAll K H xs ds → Dw K H (.ref a) (.list ds)
  | tup {a : Addr} {xs : List V} {ds : List WData} : SqT K H a xs → DwAll K H xs ds → Dw K H (.ref a) (.tuple ds)
inductive DwAll (K : PySem.W.Frag) (H : Hp) : List V → List WData → Prop
  | nil : DwAll K H [] []
  | cons {v : V} {vs : List V} {d : WData} {ds : List WData} : Dw K H v d → DwAll K H vs ds → DwAll K H (v :: vs) (d :: ds)
end
theorem dw_ints {K : PySem.W.Frag} {H : Hp} : ∀ ns : List Int, DwAll K H (ns.map V.int) (ns.map WData.int)
  | [] => .nil
  | n :: r => .cons (.int n) (dw_ints r)
theorem ints_dw {K : PySem.W.Frag} {H : Hp} : ∀ (ns : List Int) (xs : List V), DwAll K H xs (ns.map WData.int) → xs = ns.map V.int
  | [], xs, h => by
    cases h
    rfl
  | n :: r, xs, h => by
    cases h with
    | cons h1 h2 =>
      cases h1
      rw [ints_dw r _ h2] <;> rfl
section
variable {P : Program} {w : World} {K : PySem.W.Frag} {H : Hp} {h : Heap} {R : PySem.W.WRecords} {cl : Str → Option Addr}
theorem sqL_at {a : Addr} {xs : List V} (hok : HOk P w H h) (KX : K.In h) (q : SqL K H a xs) : ∃ (its : List Value) (o : Obj) (n : Nat), Vals xs its ∧ h.get? a = some o ∧ o.cls = .type "list" ∧ o.data = .seq its.toArray n := by
  rcases q with q | ⟨o, its, n, e, hc, _, hd, _, hv⟩
  · obtain ⟨_, its, n, hv, e⟩ := (show ObjOk P w H h a (.lst xs) from q.ok hok)
    exact ⟨its, _, n, hv, e, rfl, rfl⟩
  · exact ⟨its.toList, o, n, hv, KX _ _ e, hc, by simp [hd]⟩
theorem sqT_at {a : Addr} {xs : List V} (hok : HOk P w H h) (KX : K.In h) (q : SqT K H a xs) : ∃ (its : List Value) (o : Obj) (n : Nat), Vals xs its ∧ h.get? a = some o ∧ o.cls = .type "tuple" ∧ o.data = .seq its.toArray n := by
  rcases q with q | ⟨o, its, n, e, hc, hd, _, hv⟩
  · obtain ⟨_, its, hv, o, e, hc, n, hd⟩ := (show ObjOk P w H h a (.tup xs) from q.ok hok)
    exact ⟨its, o, n, hv, e, hc, hd⟩
  · exact ⟨its.toList, o, n, hv, KX _ _ e, hc, by simp [hd]⟩
mutual
theorem Dw.reads (hok : HOk P w H h) (KX : K.In h) : ∀ (d : WData) (v : V) (u : Value), Dw K H v d → RelV v u → ∃ as, ReadsW R cl h u d as
  | .none, _, _, x, r => by
    cases x
    cases r
    exact ⟨_, ReadsW.none⟩
  | .bool b, _, _, x, r => by
    cases x
    cases r
    exact ⟨_, ReadsW.bool b⟩
  | .int i, _, _, x, r => by
    cases x
    obtain ⟨t, rfl⟩ := r
    exact ⟨_, ReadsW.int i t⟩
  | .str s, _, _, x, r => by
    cases x
    obtain ⟨t, rfl⟩ := r
    exact ⟨_, ReadsW.str s t⟩
  | .bytes b, _, _, x, r => by
    cases x
    obtain ⟨t, rfl⟩ := r
    exact ⟨_, ReadsW.bytes _ t⟩
  | .list ds, _, _, x, r => by
    cases x with
    | lst hs ha =>
      cases r
      obtain ⟨its, o, n, rv, ho, hc, hd⟩ := sqL_at hok KX hs
      obtain ⟨as, hr⟩ := Dw.readsAll hok KX ds _ its ha rv
      exact ⟨_, ReadsW.list ho hc hd hr⟩
  | .tuple ds, _, _, x, r => by
    cases x with
    | tup hs ha =>
      cases r
      obtain ⟨its, o, n, rv, ho, hc, hd⟩ := sqT_at hok KX hs
      obtain ⟨as, hr⟩ := Dw.readsAll hok KX ds _ its ha rv
      exact ⟨_, ReadsW.tuple ho hc hd hr⟩
  | .float _, _, _, x, _ => by cases x
  | .dict _, _, _, x, _ => by cases x
  | .bytearray _, _, _, x, _ => by cases x
  | .set _, _, _, x, _ => by cases x
  | .frozenset _, _, _, x, _ => by cases x
  | .obj _ _, _, _, x, _ => by cases x
theorem Dw.readsAll (hok : HOk P w H h) (KX : K.In h) : ∀ (ds : List WData) (vs : List V) (us : List Value), DwAll K H vs ds → Vals vs us → ∃ as, ReadsAllW R cl h us ds as
  | [], _, _, x, r => by
    cases x
    cases r
    exact ⟨_, ReadsAllW.nil⟩
  | d :: ds, _, _, x, r => by
    cases x with
    | cons h1 h2 =>
      cases r with
      | cons r1 r2 =>
        obtain ⟨as, q1⟩ := Dw.reads hok KX d _ _ h1 r1
        obtain ⟨bs, q2⟩ := Dw.readsAll hok KX ds _ _ h2 r2
        exact ⟨_, ReadsAllW.cons q1 q2⟩
end
end
mutual
/-- data that a codec tells -/
def plW : WData → Bool
  | .none => true
  | .bool _ => true
  | .int _ => true
  | .str _ => true
  | .bytes _ => true
  | .list xs => plWs xs
  | .tuple xs => plWs xs
  | _ => false
def plWs : List WData → Bool
  | [] => true
  | x :: r => plW x && plWs r
end
theorem plWs_map {α : Type} {f : α → WData} (h : ∀ a, plW (f a) = true) : ∀ l : List α, plWs (l.map f) = true
  | [] => rfl
  | x :: r => by
    show (plW (f x) && plWs (r.map f)) = true
    rw [h x, plWs_map h r] <;> rfl
theorem pl_enc : ∀ (c : Codec) (a : c.denote), plW (c.enc a) = true
  | .unit, _ => rfl
  | .bool, _ => rfl
  | .int _ _, _ => rfl
  | .nat _ _, _ => rfl
  | .u8, _ => rfl
  | .bytes _ _, _ => rfl
  | .text _ _ _ _, _ => rfl
  | .list _ _ c, a => plWs_map (fun x => pl_enc c x) a
  | .pair c d, a => by
    show (plW (c.enc a.1) && (plW (d.enc a.2) && true)) = true
    rw [pl_enc c a.1, pl_enc d a.2] <;> rfl
  | .triple c d e, a => by
    show (plW (c.enc a.1) && (plW (d.enc a.2.1) && (plW (e.enc a.2.2) && true))) = true
    rw [pl_enc c a.1, pl_enc d a.2.1, pl_enc e a.2.2] <;> rfl
  | .option c, none => rfl
  | .option c, some x => pl_enc c x
theorem pl_encAll : ∀ (cs : List Codec) (a : Codec.denoteAll cs), plWs (Codec.encAll cs a) = true
  | [], _ => rfl
  | c :: cs, a => by
    show (plW (c.enc a.1) && plWs (Codec.encAll cs a.2)) = true
    rw [pl_enc c a.1, pl_encAll cs a.2] <;> rfl
theorem weight_mem : ∀ {xs : List WData} {d : WData}, d ∈ xs → d.weight ≤ WData.weightAll xs
  | [], d, h => absurd h (by simp)
  | x :: r, d, h => by
    show d.weight ≤ x.weight + 1 + WData.weightAll r
    rcases List.mem_cons.mp h with e | m
    · rw [e]
      omega
    · have z := weight_mem m
      omega
def toV : Value → V
  | .none => .non
  | .bool b => .bl b
  | .int i _ => .int i
  | .str x _ => .str x
  | .bytes b _ => .byt b
  | .ref a => .ref a
  | _ => .non
def OkU (A : List Addr) : Value → Prop
  | .none => True
  | .bool _ => True
  | .int _ _ => True
  | .str _ _ => True
  | .bytes _ _ => True
  | .ref a => a ∈ A
  | _ => False
theorem OkU.mono {A B : List Addr} (h : ∀ a ∈ A, a ∈ B) : ∀ {u : Value}, OkU A u → OkU B u := fun {u} x => by
  cases u with
  | ref a => exact h a x
  | none => trivial
  | bool b => trivial
  | int i t => trivial
  | str s t => trivial
  | bytes b t => trivial
  | _ => exact False.elim x
theorem relV_toV {A : List Addr} {u : Value} (x : OkU A u) : RelV (toV u) u := by
  cases u with
  | ref a => rfl
  | none => rfl
  | bool b => rfl
  | int i t => exact ⟨t, rfl⟩
  | str s t => exact ⟨t, rfl⟩
  | bytes b t => exact ⟨t, rfl⟩
  | _ => exact False.elim x
theorem vals_toV {A : List Addr} : ∀ {vs : List Value}, (∀ u ∈ vs, OkU A u) → Vals (vs.map toV) vs
  | [], _ => .nil
  | u :: r, h => .cons (relV_toV (h u (List.mem_cons_self ..))) (vals_toV fun x hx => h x (List.mem_cons_of_mem _ hx))
def ArgOb (h : Heap) (A : List Addr) (a : Addr) : Prop := ∃ vs : List Value, vs.length ≤ sizeLine ∧ (∀ u ∈ vs, OkU A u) ∧
  (h.get? a = some { cls := .type "list", data := .seq vs.toArray } ∨ h.get? a = some { cls := .type "tuple", data := .seq vs.toArray })
theorem ArgOb.mono {h : Heap} {A B : List Addr} {a : Addr} (k : ∀ a ∈ A, a ∈ B) (x : ArgOb h A a) : ArgOb h B a := by
  obtain ⟨vs, h1, h2, h3⟩ := x
  exact ⟨vs, h1, fun u hu => (h2 u hu).mono k, h3⟩
theorem wellAll_len {P : Params} {h : Heap} : ∀ {vs : List Value} {ds : List WData}, WellAll P h vs ds → vs.length = ds.length
  | _, _, .nil => rfl
  | _, _, .cons _ b => by
    show _ + 1 = _ + 1
    rw [wellAll_len b]
theorem well_list {P : Params} {h : Heap} {v : Value} {ds : List WData} (x : Well P h v (.list ds)) : ∃ (a : Addr) (vs : List Value), v = .ref a ∧ h.get? a = some { cls := .type "list", data := .seq vs.toArray } ∧ WellAll P h vs ds := by
  cases x with
  | list ho hall => exact ⟨_, _, rfl, ho, hall⟩
theorem well_tuple {P : Params} {h : Heap} {v : Value} {ds : List WData} (x : Well P h v (.tuple ds)) : ∃ (a : Addr) (vs : List Value), v = .ref a ∧ h.get? a = some { cls := .type "tuple", data := .seq vs.toArray } ∧ WellAll P h vs ds := by
  cases x with
  | tuple ho hall => exact ⟨_, _, rfl, ho, hall⟩
theorem well_cons {P : Params} {h : Heap} {us : List Value} {d : WData} {ds : List WData} (x : WellAll P h us (d :: ds)) : ∃ (v : Value) (vs : List Value), us = v :: vs ∧ Well P h v d ∧ WellAll P h vs ds := by
  cases x with
  | cons a b => exact ⟨_, _, rfl, a, b⟩
theorem line_of {n : Nat} (h : n ≤ 1048576) : n ≤ sizeLine := Nat.le_trans h (by decide)
section
variable {P : Params} {h : Heap}
mutual
theorem area_one : ∀ (d : WData) (v : Value), Well P h v d → plW d = true → d.weight ≤ 1048576 → ∃ A : List Addr, OkU A v ∧ ∀ a ∈ A, ArgOb h A a
  | .none, _, x, _, _ => by
    cases x
    exact ⟨[], trivial, fun a m => absurd m (by simp)⟩
  | .bool b, _, x, _, _ => by
    cases x
    exact ⟨[], trivial, fun a m => absurd m (by simp)⟩
  | .int i, _, x, _, _ => by
    cases x
    exact ⟨[], trivial, fun a m => absurd m (by simp)⟩
  | .str s, _, x, _, _ => by
    cases x
    exact ⟨[], trivial, fun a m => absurd m (by simp)⟩
  | .bytes b, _, x, _, _ => by
    cases x
    exact ⟨[], trivial, fun a m => absurd m (by simp)⟩
  | .list ds, _, x, p, z => by
    obtain ⟨a, vs, rfl, ho, hall⟩ := well_list x
    have z2 : WData.weightAll ds ≤ 1048576 := z
    obtain ⟨A, h1, h2⟩ := area_all ds _ hall p fun d hd => Nat.le_trans (weight_mem hd) z2
    have k : ∀ b ∈ A, b ∈ a :: A := fun b hb => List.mem_cons_of_mem _ hb
    refine ⟨a :: A, List.mem_cons_self .., fun b hb => ?_⟩
    rcases List.mem_cons.mp hb with e | m
    · rw [e]
      exact ⟨vs, line_of (by rw [wellAll_len hall]; exact Nat.le_trans (PySem.W.length_le_weightAllW ds) z2), fun u hu => (h1 u hu).mono k, .inl ho⟩
    · exact (h2 b m).mono k
  | .tuple ds, _, x, p, z => by
    obtain ⟨a, vs, rfl, ho, hall⟩ := well_tuple x
    have z2 : WData.weightAll ds ≤ 1048576 := z
    obtain ⟨A, h1, h2⟩ := area_all ds _ hall p fun d hd => Nat.le_trans (weight_mem hd) z2
    have k : ∀ b ∈ A, b ∈ a :: A := fun b hb => List.mem_cons_of_mem _ hb
    refine ⟨a :: A, List.mem_cons_self .., fun b hb => ?_⟩
    rcases List.mem_cons.mp hb with e | m
    · rw [e]
      exact ⟨vs, line_of (by rw [wellAll_len hall]; exact Nat.le_trans (PySem.W.length_le_weightAllW ds) z2), fun u hu => (h1 u hu).mono k, .inr ho⟩
    · exact (h2 b m).mono k
  | .float _, _, _, p, _ => Bool.noConfusion (show false = true from p)
  | .dict _, _, _, p, _ => Bool.noConfusion (show false = true from p)
  | .bytearray _, _, _, p, _ => Bool.noConfusion (show false = true from p)
  | .set _, _, _, p, _ => Bool.noConfusion (show false = true from p)
  | .frozenset _, _, _, p, _ => Bool.noConfusion (show false = true from p)
  | .obj _ _, _, _, p, _ => Bool.noConfusion (show false = true from p)
theorem area_all : ∀ (ds : List WData) (vs : List Value), WellAll P h vs ds → plWs ds = true → (∀ d ∈ ds, d.weight ≤ 1048576) → ∃ A : List Addr, (∀ u ∈ vs, OkU A u) ∧ ∀ a ∈ A, ArgOb h A a
  | [], _, x, _, _ => by
    cases x
    exact ⟨[], fun u m => absurd m (by simp), fun a m => absurd m (by simp)⟩
  | d :: ds, _, x, p, z => by
    obtain ⟨v, vs, rfl, x1, x2⟩ := well_cons x
    have q : plW d = true ∧ plWs ds = true := Bool.and_eq_true_iff.mp p
    obtain ⟨A, a1, a2⟩ := area_one d v x1 q.1 (z d (List.mem_cons_self ..))
    obtain ⟨B, b1, b2⟩ := area_all ds vs x2 q.2 fun e he => z e (List.mem_cons_of_mem _ he)
    have kA : ∀ b ∈ A, b ∈ A ++ B := fun b hb => List.mem_append.mpr (.inl hb)
    have kB : ∀ b ∈ B, b ∈ A ++ B := fun b hb => List.mem_append.mpr (.inr hb)
    refine ⟨A ++ B, fun u hu => ?_, fun b hb => ?_⟩
    · rcases List.mem_cons.mp hu with e | m
      · rw [e]
        exact a1.mono kA
      · exact (b1 u m).mono kB
    · rcases List.mem_append.mp hb with m | m
      · exact (a2 b m).mono kA
      · exact (b2 b m).mono kB
end
end
def hoOf (o : Obj) : Option HO := match o.data with
  | .seq vs _ => if (o.cls == Value.type "list") = true then some (.frz o (.lst (vs.toList.map toV))) else some (.frz o (.tup (vs.toList.map toV)))
  | _ => none
def argH (K : PySem.W.Frag) (h : Heap) (A : List Addr) : Hp := fun b => if b ∈ A then (if (K.lookup b).isNone = true then (h.get? b).bind hoOf else none) else none
def OnlyF (H : Hp) : Prop := ∀ b, H b = none ∨ ∃ o u, H b = some (.frz o u)
theorem hoOf_lst (vs : List Value) : hoOf { cls := .type "list", data := .seq vs.toArray } = some (.frz { cls := .type "list", data := .seq vs.toArray } (.lst (vs.map toV))) := by
  show (if (Value.type "list" == Value.type "list") = true then some (HO.frz { cls := .type "list", data := .seq vs.toArray } (.lst (vs.toArray.toList.map toV))) else some (HO.frz { cls := .type "list", data := .seq vs.toArray } (.tup (vs.toArray.toList.map toV)))) = _
  rw [if_pos (beq_self_eq_true _)]
theorem hoOf_tup (vs : List Value) : hoOf { cls := .type "tuple", data := .seq vs.toArray } = some (.frz { cls := .type "tuple", data := .seq vs.toArray } (.tup (vs.map toV))) := by
  show (if (Value.type "tuple" == Value.type "list") = true then some (HO.frz { cls := .type "tuple", data := .seq vs.toArray } (.lst (vs.toArray.toList.map toV))) else some (HO.frz { cls := .type "tuple", data := .seq vs.toArray } (.tup (vs.toArray.toList.map toV)))) = _
  rw [if_neg (by decide)]
section
variable {P : Program} {w : World} {K : PySem.W.Frag} {h : Heap} {A : List Addr}
theorem argH_at {b : Addr} {o : Obj} (hb : b ∈ A) (hk : K.lookup b = none) (e : h.get? b = some o) : argH K h A b = hoOf o := by
  unfold argH
  rw [if_pos hb, hk, if_pos (show (none : Option Obj).isNone = true from rfl), e] <;> rfl
theorem of_argH {b : Addr} {u : HO} (q : argH K h A b = some u) : b ∈ A ∧ K.lookup b = none := by
  unfold argH at q
  by_cases hb : b ∈ A
  · rw [if_pos hb] at q
    cases hk : K.lookup b with
    | none => exact ⟨hb, rfl⟩
    | some o =>
      rw [hk, if_neg (by simp)] at q
      cases q
  · rw [if_neg hb] at q
    cases q
theorem argH_is (ar : ∀ a ∈ A, ArgOb h A a) {b : Addr} {u : HO} (q : argH K h A b = some u) : K.lookup b = none ∧ ∃ vs : List Value, vs.length ≤ sizeLine ∧ (∀ u ∈ vs, OkU A u) ∧
    ((h.get? b = some { cls := .type "list", data := .seq vs.toArray } ∧ u = .frz { cls := .type "list", data := .seq vs.toArray } (.lst (vs.map toV))) ∨
     (h.get? b = some { cls := .type "tuple", data := .seq vs.toArray } ∧ u = .frz { cls := .type "tuple", data := .seq vs.toArray } (.tup (vs.map toV)))) := by
  obtain ⟨hb, hk⟩ := of_argH q
  obtain ⟨vs, h1, h2, h3⟩ := ar b hb
  refine ⟨hk, vs, h1, h2, ?_⟩
  rcases h3 with e | e
  · rw [argH_at hb hk e, hoOf_lst] at q
    exact .inl ⟨e, (Option.some.inj q).symm⟩
  · rw [argH_at hb hk e, hoOf_tup] at q
    exact .inr ⟨e, (Option.some.inj q).symm⟩
theorem argH_only (ar : ∀ a ∈ A, ArgOb h A a) : OnlyF (argH K h A) := fun b => by
  cases q : argH K h A b with
  | none => exact .inl rfl
  | some u =>
    obtain ⟨_, vs, _, _, ⟨_, e⟩ | ⟨_, e⟩⟩ := argH_is ar q
    · exact .inr ⟨_, _, by rw [e]⟩
    · exact .inr ⟨_, _, by rw [e]⟩
theorem argH_ok (ar : ∀ a ∈ A, ArgOb h A a) : HOk P w (argH K h A) h := fun b u q => by
  obtain ⟨_, vs, h1, h2, ⟨e, rfl⟩ | ⟨e, rfl⟩⟩ := argH_is ar q
  · exact ⟨e, by rw [List.length_map]; exact h1, vs, _, vals_toV h2, e⟩
  · exact ⟨e, by rw [List.length_map]; exact h1, vs, vals_toV h2, _, e, rfl, _, rfl⟩
theorem seq_inj {c c' : Value} {vs us : List Value} (e : (some { cls := c, data := .seq vs.toArray } : Option Obj) = some { cls := c', data := .seq us.toArray }) : c = c' ∧ vs = us := by
  have e1 := Option.some.inj e
  have e2 : c = c' := congrArg Obj.cls e1
  have e3 : Data.seq vs.toArray = Data.seq us.toArray := congrArg Obj.data e1
  injection e3 with e4
  refine ⟨e2, ?_⟩
  have e5 := congrArg Array.toList e4
  simpa using e5
theorem argL (KX : K.In h) (ar : ∀ a ∈ A, ArgOb h A a) {a : Addr} {vs : List Value} (ha : a ∈ A) (e : h.get? a = some { cls := .type "list", data := .seq vs.toArray }) : (∀ u ∈ vs, OkU A u) ∧ SqL K (argH K h A) a (vs.map toV) := by
  obtain ⟨us, h1, h2, h3⟩ := ar a ha
  have hu : us = vs := by
    rcases h3 with q | q
    · rw [e] at q
      exact (seq_inj q).2.symm
    · rw [e] at q
      exact absurd (Value.type.inj (seq_inj q).1) (by decide)
  subst hu
  refine ⟨h2, ?_⟩
  cases hk : K.lookup a with
  | none => exact .inl (.inr ⟨_, by rw [argH_at ha hk e, hoOf_lst]⟩)
  | some o =>
    have e2 := KX a o hk
    rw [e] at e2
    obtain rfl := Option.some.inj e2
    exact .inr ⟨_, us.toArray, _, hk, rfl, rfl, rfl, by rw [List.size_toArray]; exact h1, by simpa using vals_toV h2⟩
theorem argT (KX : K.In h) (ar : ∀ a ∈ A, ArgOb h A a) {a : Addr} {vs : List Value} (ha : a ∈ A) (e : h.get? a = some { cls := .type "tuple", data := .seq vs.toArray }) : (∀ u ∈ vs, OkU A u) ∧ SqT K (argH K h A) a (vs.map toV) := by
  obtain ⟨us, h1, h2, h3⟩ := ar a ha
  have hu : us = vs := by
    rcases h3 with q | q
    · rw [e] at q
      exact absurd (Value.type.inj (seq_inj q).1) (by decide)
    · rw [e] at q
      exact (seq_inj q).2.symm
  subst hu
  refine ⟨h2, ?_⟩
  cases hk : K.lookup a with
  | none => exact .inl (.inr ⟨_, by rw [argH_at ha hk e, hoOf_tup]⟩)
  | some o =>
    have e2 := KX a o hk
    rw [e] at e2
    obtain rfl := Option.some.inj e2
    exact .inr ⟨_, us.toArray, _, hk, rfl, rfl, by rw [List.size_toArray]; exact h1, by simpa using vals_toV h2⟩
mutual
theorem dw_one {Pm : Params} (KX : K.In h) (ar : ∀ a ∈ A, ArgOb h A a) : ∀ (d : WData) (v : Value), Well Pm h v d → plW d = true → OkU A v → Dw K (argH K h A) (toV v) d
  | .none, _, x, _, _ => by
    cases x
    exact .non
  | .bool b, _, x, _, _ => by
    cases x
    exact .bl b
  | .int i, _, x, _, _ => by
    cases x
    exact .int i
  | .str s, _, x, _, _ => by
    cases x
    exact .str s
  | .bytes b, _, x, _, _ => by
    cases x
    have z := Dw.byt (K := K) (H := argH K h A) b.toArray
    exact z
  | .list ds, _, x, p, hu => by
    obtain ⟨a, vs, rfl, ho, hall⟩ := well_list x
    obtain ⟨h2, hs⟩ := argL KX ar hu ho
    exact .lst hs (dw_all KX ar ds _ hall p h2)
  | .tuple ds, _, x, p, hu => by
    obtain ⟨a, vs, rfl, ho, hall⟩ := well_tuple x
    obtain ⟨h2, hs⟩ := argT KX ar hu ho
    exact .tup hs (dw_all KX ar ds _ hall p h2)
  | .float _, _, _, p, _ => Bool.noConfusion (show false = true from p)
  | .dict _, _, _, p, _ => Bool.noConfusion (show false = true from p)
  | .bytearray _, _, _, p, _ => Bool.noConfusion (show false = true from p)
  | .set _, _, _, p, _ => Bool.noConfusion (show false = true from p)
  | .frozenset _, _, _, p, _ => Bool.noConfusion (show false = true from p)
  | .obj _ _, _, _, p, _ => Bool.noConfusion (show false = true from p)
theorem dw_all {Pm : Params} (KX : K.In h) (ar : ∀ a ∈ A, ArgOb h A a) : ∀ (ds : List WData) (vs : List Value), WellAll Pm h vs ds → plWs ds = true → (∀ u ∈ vs, OkU A u) → DwAll K (argH K h A) (vs.map toV) ds
  | [], _, x, _, _ => by
    cases x
    exact .nil
  | d :: ds, _, x, p, hu => by
    obtain ⟨v, vs, rfl, x1, x2⟩ := well_cons x
    have q : plW d = true ∧ plWs ds = true := Bool.and_eq_true_iff.mp p
    exact .cons (dw_one KX ar d v x1 q.1 (hu _ (List.mem_cons_self ..))) (dw_all KX ar ds vs x2 q.2 fun u m => hu u (List.mem_cons_of_mem _ m))
end
end
theorem spec_call {P : Program} {w : World} {K : PySem.W.Frag} {mg mb : Str → Option Value} {CX : CXT} {k : Nat} {fa : Addr} {fd : FuncData} {ps : List Str} {sp : Sp} {s₁ : Shared} {vals : List Value} {ds : List WData} {R : PySem.W.WRecords} {cl : Str → Option Addr} {d0 : WData}
    (KX : K.In s₁.heap) (hns : s₁.heap.Ns mainGlobals mg) (hb : s₁.heap.Ns builtinsNs mb) (hbb : ∀ x : Str, x ≠ "__name__" → mb x = bootBuiltins x) (hlim : s₁.heap.NoLimit) (hg : s₁.gens = #[])
    (hwl : WellAll w.params s₁.heap vals ds) (hpl : plWs ds = true) (hwt : ∀ d ∈ ds, d.weight ≤ 1048576) (hr : Room k callerA)
    (F : ∀ base : Heap, K.In base → base.Ns mainGlobals mg → FnOk P w K mg base CX k fa fd ps sp) (hbind : ∀ (s : Shared) (us : List Value), us.length = ps.length → BindsTo s fd ⟨us, []⟩ (ps.zip us)) (hlen : ds.length = ps.length)
    (hsp : ∀ (H : Hp) (xs : List V), OnlyF H → DwAll K H xs ds → sp xs H (fun v H' => Dw K H' v d0) fun _ _ _ => False)
    (hCX : ∀ H e s', CX [] H s₁ (fun _ _ _ => False) e s' → False) :
    codeAny (model P w) callerA (.call (.ref fa) ⟨vals, []⟩) (fun r s' => ∃ u as, r = .ok (.ret u) ∧ ReadsW R cl s'.heap u d0 as ∧ OldK s₁.heap s'.heap ∧ s'.os = s₁.os ∧ AllBare s'.gens) s₁ := by
  obtain ⟨A, ho, ar⟩ := area_all ds vals hwl hpl hwt
  have hO : OnlyF (argH K s₁.heap A) := argH_only ar
  have hok : HOk P w (argH K s₁.heap A) s₁.heap := argH_ok ar
  have hS := dw_all KX ar ds vals hwl hpl ho
  have hV := vals_toV ho
  have hK : ∀ b u, argH K s₁.heap A b = some u → K.lookup b = none := fun b u q => (argH_is ar q).1
  have noA : ∀ {b : Addr} {o : Obj} {es : Array DictEntry} {ep : Nat}, s₁.heap.get? b = some o → o.data = .dict es ep → argH K s₁.heap A b = none := fun {b o es ep} e d => by
    cases q : argH K s₁.heap A b with
    | none => rfl
    | some u =>
      obtain ⟨_, vs, _, _, ⟨e2, _⟩ | ⟨e2, _⟩⟩ := argH_is ar q
      · rw [e2] at e
        cases e
        have d' : Data.seq vs.toArray _ = Data.dict es ep := d
        cases d'
      · rw [e2] at e
        cases e
        have d' : Data.seq vs.toArray _ = Data.dict es ep := d
        cases d'
  generalize argH K s₁.heap A = H at hO hok hS hK noA
  have base_of : ∀ {b : Addr} {o : Obj}, s₁.heap.get? b = some o → H b = none → (hidT s₁.heap H).get? b = some o := fun e n => hidT_get e n
  have nsK : ∀ {b : Addr} {m : Str → Option Value}, s₁.heap.Ns b m → (hidT s₁.heap H).Ns b m := fun {b m} ⟨o, es, ep, e, d, r⟩ => ⟨o, es, ep, base_of e (noA e d), d, r⟩
  have nK : ∀ b o, K.lookup b = some o → H b = none := fun b o e => by
    cases q : H b with
    | none => rfl
    | some u =>
      rw [hK b u q] at e
      cases e
  have hKb : K.In (hidT s₁.heap H) := fun b o e => base_of (KX b o e) (nK b o e)
  have hM : Mod K mg (hidT s₁.heap H) := ⟨hKb, nsK hns, ⟨mb, nsK hb, hbb⟩, let ⟨mc, h1, h2⟩ := hlim; ⟨mc, nsK h1, h2⟩⟩
  have e0 : Env0 P w K mg (hidT s₁.heap H) callerA [] s₁ H := ⟨rfl, hM, fun b o e => of_hidT e, Nat.le_of_eq (hidT_size _ _), trivial, fun b hb => absurd (show b ∈ ([] : List Addr) from hb) (by simp), hok, .of_eq hg⟩
  have hl : vals.length = ps.length := by rw [wellAll_len hwl]; exact hlen
  refine codeAny_mono ((F _ hKb (nsK hns)).run callerA [] s₁ H ⟨vals, []⟩ vals (vals.map toV) _ _ hr e0 (hbind s₁ vals hl) hV (hsp H _ hO hS)) fun r s' x => ?_
  cases r with
  | error e => exact (hCX H e s' x).elim
  | ok fl =>
    cases fl with
    | next => exact False.elim x
    | brk => exact False.elim x
    | cont => exact False.elim x
    | ret u =>
      obtain ⟨v, H', os, bare, un, hok', r', q⟩ := x
      have kept : ∀ b o, s₁.heap.get? b = some o → s'.heap.get? b = some o := fun b o e => by
        cases q2 : H b with
        | none => exact un.keep b o e q2 (by intro z; exact absurd (show b ∈ ([] : List Addr) from z) (by simp)) (by simp)
        | some u2 =>
          rcases hO b with z | ⟨ob, u3, z⟩
          · rw [q2] at z
            cases z
          · have z2 := un.frzs b ob _ z
            obtain ⟨e1, _⟩ := hok b _ z
            obtain ⟨e2, _⟩ := hok' b _ z2
            rw [e] at e1
            cases e1
            exact e2
      have KX' : K.In s'.heap := fun b o e => kept b o (KX b o e)
      obtain ⟨as, hrd⟩ := Dw.reads (R := R) (cl := cl) hok' KX' d0 v u q r'
      exact ⟨u, as, rfl, hrd, OldK.of_keep kept, os, bare⟩
theorem layable_weight {ds : List WData} (h : WData.layableAll ds = true) : ∀ d ∈ ds, d.weight ≤ 1048576 := fun d hd =>
  (PySem.W.layableW_iff.mp (List.all_eq_true.mp h d hd)).2.2
theorem encAll_len : ∀ (cs : List Codec) (a : Codec.denoteAll cs), (Codec.encAll cs a).length = cs.length
  | [], _ => rfl
  | c :: cs, a => by
    show (Codec.encAll cs a.2).length + 1 = cs.length + 1
    rw [encAll_len cs a.2]
theorem walk_spec {r : OpenSpec} {k : Nat} {q : Program} {loose : List Str} {XP : (Str → Option Value) → Heap → Prop} {YP : World → Heap → Prop} {d : DefRec} {K : Params → PySem.W.Frag} {CX : World → CXT} {ps : List Str} {sp : World → Sp}
    (hwell : r.wellSaid = true) (hdf : d.params.defaults = []) (hlen : r.args.length = ps.length) (hr : Room k callerA)
    (hY : ∀ (w : World) (h : Heap), YP w h → (K w.params).In h)
    (F : ∀ (w : World) (mg : Str → Option Value) (fa : Addr) (h : Heap), YP w h → (K w.params).In h → h.Ns mainGlobals mg → mg d.name = some (.ref fa) →
      ∃ fd : FuncData, (∀ (s : Shared) (us : List Value), us.length = ps.length → BindsTo s fd ⟨us, []⟩ (ps.zip us)) ∧
        ∀ base : Heap, (K w.params).In base → base.Ns mainGlobals mg → FnOk r.prog w (K w.params) mg base (CX w) k fa fd ps (sp w))
    (hsp : ∀ (w : World) (H : Hp) (xs : List V) (a : Codec.denoteAll r.args), OnlyF H → Codec.withinAll r.args a = true → Codec.app r.args r.asked a = true → DwAll (K w.params) H xs (Codec.encAll r.args a) →
      sp w xs H (fun v H' => Dw (K w.params) H' v (r.ret.enc (Codec.app r.args r.f a))) fun _ _ _ => False)
    (hCX : ∀ (w : World) (H : Hp) (s : Shared) (e : Value) (s' : Shared), CX w [] H s (fun _ _ _ => False) e s' → False) :
    PySem.W.WalkOS q loose XP YP r d [] (fun f vs => PySem.call f vs) := by
  intro w s_0 s₁ mg mb G Y fa o pm cd doc dV kV ho hd hcd hD hmg hg args vals as hpre hlay hrd hwl hlo
  obtain ⟨a, e1, e2⟩ := PySem.W.os_pre_some hpre
  obtain ⟨e3, hwi⟩ := Codec.encAll_of_decAll r.args args a e1
  subst e3
  have KX := hY w _ Y
  obtain ⟨fd, hb, hF⟩ := F w mg fa _ Y KX G.T.g hmg
  refine PySem.W.enter_call (codeAny_mono (spec_call (R := []) (cl := classAt s_0.heap) (d0 := r.ret.enc (Codec.app r.args r.f a)) KX G.T.g G.T.b G.T.builtins G.T.nolimit hg hwl (pl_encAll _ _) (layable_weight hlay) hr hF hb (by rw [encAll_len]; exact hlen)
    (fun H xs hO hS => hsp w H xs a hO hwi e2 hS) fun H e s' => hCX w H s₁ e s') fun r' s' hq => ?_)
  obtain ⟨u, as', rfl, h1, h2, h3, h4⟩ := hq
  exact ⟨.inl ⟨u, _, as', rfl, fun _ => rfl, h1, (OpenSpec.post_iff hwell hwi _ _).mpr rfl, fun z => Bool.noConfusion (show false = true from z)⟩, h2, h3, h4⟩
theorem walk_specK {r : OpenSpec} {k : Nat} {q : Program} {loose : List Str} {XP : (Str → Option Value) → Heap → Prop} {YP : World → Heap → Prop} {d : DefRec} {K : Params → PySem.W.Frag} {CX : CXT} {ps : List Str} {sp : PySem.W.Frag → Sp}
    (hwell : r.wellSaid = true) (hdf : d.params.defaults = []) (hlen : r.args.length = ps.length) (hr : Room k callerA)
    (hY : ∀ (w : World) (h : Heap), YP w h → (K w.params).In h)
    (F : ∀ (w : World) (mg : Str → Option Value) (fa : Addr) (h : Heap), YP w h → (K w.params).In h → h.Ns mainGlobals mg → mg d.name = some (.ref fa) →
      ∃ fd : FuncData, (∀ (s : Shared) (us : List Value), us.length = ps.length → BindsTo s fd ⟨us, []⟩ (ps.zip us)) ∧
        ∀ base : Heap, (K w.params).In base → base.Ns mainGlobals mg → FnOk r.prog w (K w.params) mg base CX k fa fd ps (sp (K w.params)))
    (hsp : ∀ (K : PySem.W.Frag) (H : Hp) (xs : List V) (a : Codec.denoteAll r.args), OnlyF H → Codec.withinAll r.args a = true → Codec.app r.args r.asked a = true → DwAll K H xs (Codec.encAll r.args a) →
      sp K xs H (fun v H' => Dw K H' v (r.ret.enc (Codec.app r.args r.f a))) fun _ _ _ => False)
    (hCX : ∀ (H : Hp) (s : Shared) (e : Value) (s' : Shared), CX [] H s (fun _ _ _ => False) e s' → False) :
    PySem.W.WalkOS q loose XP YP r d [] (fun f vs => PySem.call f vs) :=
  walk_spec (K := K) (CX := fun _ => CX) (sp := fun w => sp (K w.params)) hwell hdf hlen hr hY F (fun w H xs a h1 h2 h3 h4 => hsp (K w.params) H xs a h1 h2 h3 h4) fun _ H s e s' => hCX H s e s'
end L2
end

end

section
set_option Elab.async false
set_option linter.all false
set_option maxRecDepth 100000
namespace Z3
open PySem
/-- a tuple of three -/
abbrev IsTrip (h : Heap) (T : Addr) (a b c : Value) : Prop := h.get? T = some { cls := .type "tuple", data := .seq #[a, b, c] }
structure Ap (z TI TO p1 p2 p3 m1 m2 m3 : Addr) : Prop where
  tiz : TI ≠ z
  toz : TO ≠ z
  p1z : p1 ≠ z
  p2z : p2 ≠ z
  p3z : p3 ≠ z
  tito : TI ≠ TO
  tip1 : TI ≠ p1
  tip2 : TI ≠ p2
  tip3 : TI ≠ p3
  top1 : TO ≠ p1
  top2 : TO ≠ p2
  top3 : TO ≠ p3
  p12 : p1 ≠ p2
  p13 : p1 ≠ p3
  p23 : p2 ≠ p3
  m1z : m1 ≠ z
  m2z : m2 ≠ z
  m3z : m3 ≠ z
  m1o : m1 ≠ TO
  m2o : m2 ≠ TO
  m3o : m3 ≠ TO
  m2p1 : m2 ≠ p1
  m3p1 : m3 ≠ p1
  m3p2 : m3 ≠ p2
section
variable {prog : Program} {w : World} {A : Around} {E : Value → Shared → Prop} {s : Shared}
theorem upd_trip {T : Addr} {a b c x : Value} {k : Nat} {Q : Unit → Shared → Prop} (ht : IsTrip s.heap T a b c)
    (q : ∀ g, g.get? T = some { cls := .type "tuple", data := .seq ((#[a, b, c] : Array Value).setIfInBounds k x) } → Heap.SameBut T s.heap g → Q () { s with heap := g }) :
    wpAny (model prog w) A (updateSeq T (·.setIfInBounds k x)) Q E s := by
  refine wpAny_updateSeq ht rfl (q _ ?_ (Heap.SameBut.update ..))
  rw [Heap.get?_update_self _ ht rfl]; simp [Obj.mapSeq]
theorem next_item {z TI TO p1 p2 p3 m1 m2 m3 : Addr} {n : Nat} {us vs ws : Array Value} {x y t a b c : Value} {Q : Value → Shared → Prop} (D : Ap z TI TO p1 p2 p3 m1 m2 m3)
    (hz : IsZip s.heap z TI TO .none) (ht : IsTrip s.heap TI (.ref p1) (.ref p2) (.ref p3)) (ho : IsTrip s.heap TO a b c)
    (j1 : s.heap.IsListIter p1 m1 n) (j2 : s.heap.IsListIter p2 m2 n) (j3 : s.heap.IsListIter p3 m3 n) (k1 : s.heap.IsList m1 us) (k2 : s.heap.IsList m2 vs) (k3 : s.heap.IsList m3 ws)
    (hx : us[n]? = some x) (hy : vs[n]? = some y) (hw : ws[n]? = some t)
    (q : ∀ g, IsZip g z TI TO (rawInt s.heap.objs.size) → IsTrip g TO x y t → g.IsListIter p1 m1 (n + 1) → g.IsListIter p2 m2 (n + 1) → g.IsListIter p3 m3 (n + 1) → IsTrip g s.heap.objs.size x y t →
      (∀ c o, c ≠ z → c ≠ TO → c ≠ p1 → c ≠ p2 → c ≠ p3 → s.heap.get? c = some o → g.get? c = some o) → Q (.ref s.heap.objs.size) { s with heap := g }) :
    wpAny (model prog w) A (Builtin.«zip.__next__» ⟨[.ref z], []⟩) (fun fin s' => ∃ v, fin = .done (.ret v) ∧ Q v s') E s := by
  show wpAny (model prog w) A (field (.ref z) 2 >>= _) _ E s
  refine wpAny_bind (wpAny_field hz rfl (x := Value.bool false) rfl ?_)
  show wpAny (model prog w) A (field (.ref z) 3 >>= _) _ E s
  refine wpAny_bind (wpAny_field hz rfl (x := Value.ref TI) rfl ?_)
  refine wpAny_bind (wpAny_seqItems ht rfl ?_)
  show wpAny (model prog w) A (Builtin.SmallTypes.ownedTupleIsFree (.ref z) >>= _) _ E s
  refine wpAny_bind ?_
  unfold Builtin.SmallTypes.ownedTupleIsFree
  refine wpAny_bind (wpAny_field hz rfl (x := Value.none) rfl (wpAny_pure ?_))
  simp only [if_true]
  refine wpAny_bind (wpAny_rule ?_)
  refine wpAny_bind (wpAny_field hz rfl (x := Value.ref TO) rfl ?_)
  refine wpAny_bind (wpAny_setField_rec hz (by simp) fun g1 z1 s1 => ?_)
  replace z1 : IsZip g1 z TI TO .ellipsis := z1
  refine wpAny_bind ?_
  simp only [List.zipIdx_cons, List.zipIdx_nil, List.forIn_cons, List.forIn_nil]
  -- the first
  refine wpAny_bind (wpAny_bind (wpAny_onRaise ?_))
  show wpAny (model prog w) A (Builtin.SmallTypes.nextOf (.ref p1) >>= _) _ _ _
  refine wpAny_bind (wpAny_nextOf_list_item (j1.extBut s1.extBut D.p1z) (k1.extBut s1.extBut D.m1z) hx fun g2 i2 s2 => wpAny_pure ?_)
  have o2 : IsTrip g2 TO a b c := s2.extBut _ _ D.top1 (s1.extBut _ _ D.toz ho)
  refine wpAny_bind (wpAny_seqItems o2 rfl ?_)
  refine wpAny_bind (upd_trip o2 fun g3 o3 s3 => ?_)
  replace o3 : IsTrip g3 TO x b c := o3
  refine wpAny_bind (wpAny_letGo (wpAny_pure ?_))
  -- the second
  refine wpAny_bind (wpAny_bind (wpAny_onRaise ?_))
  show wpAny (model prog w) A (Builtin.SmallTypes.nextOf (.ref p2) >>= _) _ _ _
  refine wpAny_bind (wpAny_nextOf_list_item (((j2.extBut s1.extBut D.p2z).extBut s2.extBut D.p12.symm).extBut s3.extBut D.top2.symm)
    (((k2.extBut s1.extBut D.m2z).extBut s2.extBut D.m2p1).extBut s3.extBut D.m2o) hy fun g4 i4 s4 => wpAny_pure ?_)
  have o4 : IsTrip g4 TO x b c := s4.extBut _ _ D.top2 o3
  refine wpAny_bind (wpAny_seqItems o4 rfl ?_)
  refine wpAny_bind (upd_trip o4 fun g5 o5 s5 => ?_)
  replace o5 : IsTrip g5 TO x y c := o5
  refine wpAny_bind (wpAny_letGo (wpAny_pure ?_))
  -- the third
  refine wpAny_bind (wpAny_bind (wpAny_onRaise ?_))
  show wpAny (model prog w) A (Builtin.SmallTypes.nextOf (.ref p3) >>= _) _ _ _
  refine wpAny_bind (wpAny_nextOf_list_item (((((j3.extBut s1.extBut D.p3z).extBut s2.extBut D.p13.symm).extBut s3.extBut D.top3.symm).extBut s4.extBut D.p23.symm).extBut s5.extBut D.top3.symm)
    (((((k3.extBut s1.extBut D.m3z).extBut s2.extBut D.m3p1).extBut s3.extBut D.m3o).extBut s4.extBut D.m3p2).extBut s5.extBut D.m3o) hw fun g6 i6 s6 => wpAny_pure ?_)
  have o6 : IsTrip g6 TO x y c := s6.extBut _ _ D.top3 o5
  refine wpAny_bind (wpAny_seqItems o6 rfl ?_)
  refine wpAny_bind (upd_trip o6 fun g7 o7 s7 => ?_)
  replace o7 : IsTrip g7 TO x y t := o7
  refine wpAny_bind (wpAny_letGo (wpAny_pure (wpAny_pure ?_)))
  -- the tuple
  refine wpAny_bind (wpAny_seqItems o7 rfl ?_)
  refine wpAny_bind (wpAny_newTuple ?_)
  have es : g7.objs.size = s.heap.objs.size := by rw [s7.1, s6.1, s5.1, s4.1, s3.1, s2.1, s1.1]
  have z7 : IsZip g7 z TI TO .ellipsis := s7.extBut _ _ D.toz.symm (s6.extBut _ _ D.p3z.symm (s5.extBut _ _ D.toz.symm (s4.extBut _ _ D.p2z.symm (s3.extBut _ _ D.toz.symm (s2.extBut _ _ D.p1z.symm z1)))))
  have kp : ∀ c o, c ≠ z → c ≠ TO → c ≠ p1 → c ≠ p2 → c ≠ p3 → s.heap.get? c = some o → g7.get? c = some o := fun c o c1 c2 c3 c4 c5 e =>
    s7.extBut _ _ c2 (s6.extBut _ _ c5 (s5.extBut _ _ c2 (s4.extBut _ _ c4 (s3.extBut _ _ c2 (s2.extBut _ _ c3 (s1.extBut _ _ c1 e))))))
  have r1 : g7.IsListIter p1 m1 (n + 1) := ((((i2.extBut s3.extBut D.top1.symm).extBut s4.extBut D.p12).extBut s5.extBut D.top1.symm).extBut s6.extBut D.p13).extBut s7.extBut D.top1.symm
  have r2 : g7.IsListIter p2 m2 (n + 1) := ((i4.extBut s5.extBut D.top2.symm).extBut s6.extBut D.p23).extBut s7.extBut D.top2.symm
  have r3 : g7.IsListIter p3 m3 (n + 1) := i6.extBut s7.extBut D.top3.symm
  have zlt : z < g7.objs.size := Heap.lt_size z7
  show wpAny (model prog w) A (Builtin.SmallTypes.ownedTupleHandOut (.ref z) (.ref g7.objs.size) >>= _) _ E _
  refine wpAny_bind ?_
  unfold Builtin.SmallTypes.ownedTupleHandOut
  have z8 : IsZip (g7.push { cls := .type "tuple", data := .seq #[x, y, t] }) z TI TO .ellipsis := Heap.get?_push_of_some _ z7
  refine wpAny_bind (wpAny_setField_rec z8 (by simp) fun g9 z9 s9 => ?_)
  replace z9 : IsZip g9 z TI TO (rawInt g7.objs.size) := z9
  refine wpAny_setField_rec z9 (by simp) fun g10 z10 s10 => ?_
  replace z10 : IsZip g10 z TI TO (rawInt g7.objs.size) := z10
  have up : ∀ c o, c ≠ z → g7.get? c = some o → g10.get? c = some o := fun c o c1 e => s10.extBut _ _ c1 (s9.extBut _ _ c1 (Heap.get?_push_of_some _ e))
  have tt : IsTrip g10 g7.objs.size x y t := s10.extBut _ _ (Nat.ne_of_gt zlt) (s9.extBut _ _ (Nat.ne_of_gt zlt) (Heap.get?_push_size _ rfl))
  rw [es] at z10 tt
  refine wpAny_pure ⟨_, rfl, ?_⟩
  show Q (.ref g7.objs.size) _
  rw [es]
  exact q g10 z10 (up _ _ D.toz o7) (r1.at fun o e => up _ o D.p1z e) (r2.at fun o e => up _ o D.p2z e) (r3.at fun o e => up _ o D.p3z e) tt fun c o c1 c2 c3 c4 c5 e => up c o c1 (kp c o c1 c2 c3 c4 c5 e)
/-- the first list is through -/
theorem next_end {z TI TO p1 p2 p3 m1 : Addr} {n : Nat} {us : Array Value} {Q : Fin → Shared → Prop} (hh : A.handled = none) (d1 : p1 ≠ z) (d2 : m1 ≠ z)
    (hz : IsZip s.heap z TI TO .none) (ht : IsTrip s.heap TI (.ref p1) (.ref p2) (.ref p3))
    (j1 : s.heap.IsListIter p1 m1 n) (k1 : s.heap.IsList m1 us) (hx : us[n]? = none)
    (q : ∀ g e, (∀ c o, c ≠ z → c ≠ p1 → s.heap.get? c = some o → g.get? c = some o) → (∃ o, g.get? e = some o ∧ o.cls = .type "StopIteration") → E (.ref e) { s with heap := g }) :
    wpAny (model prog w) A (Builtin.«zip.__next__» ⟨[.ref z], []⟩) Q E s := by
  show wpAny (model prog w) A (field (.ref z) 2 >>= _) Q E s
  refine wpAny_bind (wpAny_field hz rfl (x := Value.bool false) rfl ?_)
  show wpAny (model prog w) A (field (.ref z) 3 >>= _) Q E s
  refine wpAny_bind (wpAny_field hz rfl (x := Value.ref TI) rfl ?_)
  refine wpAny_bind (wpAny_seqItems ht rfl ?_)
  show wpAny (model prog w) A (Builtin.SmallTypes.ownedTupleIsFree (.ref z) >>= _) Q E s
  refine wpAny_bind ?_
  unfold Builtin.SmallTypes.ownedTupleIsFree
  refine wpAny_bind (wpAny_field hz rfl (x := Value.none) rfl (wpAny_pure ?_))
  simp only [if_true]
  refine wpAny_bind (wpAny_rule ?_)
  refine wpAny_bind (wpAny_field hz rfl (x := Value.ref TO) rfl ?_)
  refine wpAny_bind (wpAny_setField_rec hz (by simp) fun g1 z1 s1 => ?_)
  replace z1 : IsZip g1 z TI TO .ellipsis := z1
  refine wpAny_bind ?_
  simp only [List.zipIdx_cons, List.zipIdx_nil, List.forIn_cons, List.forIn_nil]
  refine wpAny_bind (wpAny_bind (wpAny_onRaise ?_))
  show wpAny (model prog w) A (Builtin.SmallTypes.nextOf (.ref p1) >>= _) _ _ _
  refine wpAny_bind (wpAny_nextOf_list_end hh (j1.extBut s1.extBut d1) (k1.extBut s1.extBut d2) hx fun g2 e s2 he => ?_)
  obtain ⟨oe, e1, e2⟩ := he
  have z2 : IsZip g2 z TI TO .ellipsis := s2 _ _ d1.symm z1
  have ez : e ≠ z := fun h => by subst h; rw [z2] at e1; cases e1; simp at e2
  refine wpAny_setField_rec z2 (by simp) fun g3 _ s3 => q g3 e (fun c o c1 c3 h => s3.extBut _ _ c1 (s2 _ _ c3 (s1.extBut _ _ c1 h))) ⟨oe, s3.extBut _ _ ez e1, e2⟩
theorem pyNext_item {z TI TO p1 p2 p3 m1 m2 m3 : Addr} {n : Nat} {us vs ws : Array Value} {x y t a b c : Value} {Q : Option Value → Shared → Prop} (D : Ap z TI TO p1 p2 p3 m1 m2 m3)
    (hz : IsZip s.heap z TI TO .none) (ht : IsTrip s.heap TI (.ref p1) (.ref p2) (.ref p3)) (ho : IsTrip s.heap TO a b c)
    (j1 : s.heap.IsListIter p1 m1 n) (j2 : s.heap.IsListIter p2 m2 n) (j3 : s.heap.IsListIter p3 m3 n) (k1 : s.heap.IsList m1 us) (k2 : s.heap.IsList m2 vs) (k3 : s.heap.IsList m3 ws)
    (hx : us[n]? = some x) (hy : vs[n]? = some y) (hw : ws[n]? = some t)
    (q : ∀ g, IsZip g z TI TO (rawInt s.heap.objs.size) → IsTrip g TO x y t → g.IsListIter p1 m1 (n + 1) → g.IsListIter p2 m2 (n + 1) → g.IsListIter p3 m3 (n + 1) → IsTrip g s.heap.objs.size x y t →
      (∀ c o, c ≠ z → c ≠ TO → c ≠ p1 → c ≠ p2 → c ≠ p3 → s.heap.get? c = some o → g.get? c = some o) → Q (some (.ref s.heap.objs.size)) { s with heap := g }) :
    wpAny (model prog w) A (pyNext (.ref z)) Q E s := by
  have tz : s.TypeIs (.ref z) "zip" := ⟨_, hz, rfl⟩
  unfold pyNext
  exact wpAny_bind (wpAny_attempt (wpAny_callSpecial?_slot (name := Str.ofString "__next__") tz F.slot_zip_next
    (wpAny_call_entry F.slot_zip_next tz F.entry_zip_next
      (next_item D hz ht ho j1 j2 j3 k1 k2 k3 hx hy hw fun g a1 a2 a3 a4 a5 a6 a7 => wpAny_pure (q g a1 a2 a3 a4 a5 a6 a7)) (F.args_zip_next_1 _))))
theorem pyNext_end {z TI TO p1 p2 p3 m1 : Addr} {n : Nat} {us : Array Value} {Q : Option Value → Shared → Prop} (hh : A.handled = none) (d1 : p1 ≠ z) (d2 : m1 ≠ z)
    (hz : IsZip s.heap z TI TO .none) (ht : IsTrip s.heap TI (.ref p1) (.ref p2) (.ref p3))
    (j1 : s.heap.IsListIter p1 m1 n) (k1 : s.heap.IsList m1 us) (hx : us[n]? = none)
    (q : ∀ g, (∀ c o, c ≠ z → c ≠ p1 → s.heap.get? c = some o → g.get? c = some o) → Q none { s with heap := g }) : wpAny (model prog w) A (pyNext (.ref z)) Q E s := by
  have tz : s.TypeIs (.ref z) "zip" := ⟨_, hz, rfl⟩
  unfold pyNext
  refine wpAny_bind (wpAny_attempt (wpAny_callSpecial?_slot (name := Str.ofString "__next__") tz F.slot_zip_next
    (wpAny_call_entry F.slot_zip_next tz F.entry_zip_next (next_end hh d1 d2 hz ht j1 k1 hx fun g e kp he => ?_) (F.args_zip_next_1 _))))
  obtain ⟨o, e1, e2⟩ := he
  refine wpAny_bind (wpAny_isInstance (T := "StopIteration") (b := true) ⟨o, e1, e2⟩ isSubtype_stop ?_)
  exact wpAny_pure (q _ kp)
end
/-! the call -/
theorem typeCall3 (a b c : Value) : checkTypeCall "zip" ⟨[a, b, c], []⟩ = pure () := by kernel_rfl
theorem newCall3 (a b c : Value) : checkBuiltinCall "zip.__new__" ⟨[.type "zip", a, b, c], []⟩ = pure () := by kernel_rfl
theorem args_init4 (a b c d : Value) : argsOk "object.__init__" ⟨[a, b, c, d], []⟩ := by
  unfold argsOk; rw [signature?_of (id := "object.__init__") (n := ['_', '_', 't', 'i', 'n', 'i', '_', '_']) (o := ['t', 'c', 'e', 'j', 'b', 'o']) (by kernel_rfl) PySem.F.owner_object]; kernel_rfl
abbrev g1 (h : Heap) (l : Addr) : Heap := h.push { cls := .type "list_iterator", data := .fields #[.ref l, .int 0 0] }
abbrev g3 (h : Heap) (a b c : Addr) : Heap := g1 (g1 (g1 h a) b) c
abbrev g4 (h : Heap) (a b c : Addr) : Heap := (g3 h a b c).push { cls := .type "tuple", data := .seq #[.ref h.objs.size, .ref (g1 h a).objs.size, .ref (g1 (g1 h a) b).objs.size] }
abbrev g5 (h : Heap) (a b c : Addr) : Heap := (g4 h a b c).push { cls := .type "tuple", data := .seq #[.none, .none, .none] }
abbrev g6 (h : Heap) (a b c : Addr) : Heap := (g5 h a b c).push { cls := .type "zip", data := .fields #[.none, .bool false, .bool false, .ref (g3 h a b c).objs.size, .ref (g4 h a b c).objs.size] }
theorem meets_new (a b c : Addr) (us vs ws : Array Value) :
    Meets (Builtin.«zip.__new__» ⟨[.type "zip", .ref a, .ref b, .ref c], []⟩) (fun _ R s => s.heap.IsList a us ∧ s.heap.IsList b vs ∧ s.heap.IsList c ws ∧
      R (.ok (.ret (.ref (g5 s.heap a b c).objs.size))) { s with heap := g6 s.heap a b c }) :=
  .of_wp fun prog w A R s h => by
    obtain ⟨hp, g, d, tk, os⟩ := s; obtain ⟨h1, h2, h3, h⟩ := h
    have hsub := sub_zip
    have e1 : Heap.IsList (Shared.heap ⟨hp, g, d, tk, os⟩) a us := h1
    have e2 : Heap.IsList (Shared.heap ⟨g1 hp a, g, d, tk, os⟩) b vs := Heap.IsList.push h2 _
    have e3 : Heap.IsList (Shared.heap ⟨g1 (g1 hp a) b, g, d, tk, os⟩) c ws := Heap.IsList.push (Heap.IsList.push h3 _) _
    wp_walk using wpAny_pyIter_list e1, wpAny_pyIter_list e2, wpAny_pyIter_list e3
    exact ⟨_, rfl, h⟩
section
variable {prog : Program} {w : World} {A : Around} {E : Value → Shared → Prop} {s : Shared}
theorem call3 {a b c : Addr} {us vs ws : Array Value} {Q : Value → Shared → Prop} (h1 : s.heap.IsList a us) (h2 : s.heap.IsList b vs) (h3 : s.heap.IsList c ws)
    (q : ∀ g, IsZip g (s.heap.objs.size + 5) (s.heap.objs.size + 3) (s.heap.objs.size + 4) .none → IsTrip g (s.heap.objs.size + 3) (.ref s.heap.objs.size) (.ref (s.heap.objs.size + 1)) (.ref (s.heap.objs.size + 2)) →
      IsTrip g (s.heap.objs.size + 4) .none .none .none → g.IsListIter s.heap.objs.size a 0 → g.IsListIter (s.heap.objs.size + 1) b 0 → g.IsListIter (s.heap.objs.size + 2) c 0 →
      (∀ c o, s.heap.get? c = some o → g.get? c = some o) → Q (.ref (s.heap.objs.size + 5)) { s with heap := g }) :
    wpAny (model prog w) A (call (.type "zip") [.ref a, .ref b, .ref c]) Q E s := by
  refine callType_new F.called_zip (by decide) (typeCall3 _ _ _) (newCall3 _ _ _) (fun obj => args_init4 obj _ _ _) F.entry_zip_new (meets_new a b c us vs ws) ⟨h1, h2, h3, ?_⟩
  have y1 : (g1 s.heap a).objs.size = s.heap.objs.size + 1 := Heap.size_push ..
  have y2 : (g1 (g1 s.heap a) b).objs.size = s.heap.objs.size + 2 := by rw [Heap.size_push, y1]
  have y3 : (g3 s.heap a b c).objs.size = s.heap.objs.size + 3 := by rw [Heap.size_push, y2]
  have y4 : (g4 s.heap a b c).objs.size = s.heap.objs.size + 4 := by rw [Heap.size_push, y3]
  have y5 : (g5 s.heap a b c).objs.size = s.heap.objs.size + 5 := by rw [Heap.size_push, y4]
  have x6 : (g6 s.heap a b c).get? (g5 s.heap a b c).objs.size = some _ := Heap.get?_push_size _ rfl
  have x5 : (g6 s.heap a b c).get? (g4 s.heap a b c).objs.size = some _ := Heap.get?_push_of_some _ (Heap.get?_push_size _ rfl)
  have x4 : (g6 s.heap a b c).get? (g3 s.heap a b c).objs.size = some _ := Heap.get?_push_of_some _ (Heap.get?_push_of_some _ (Heap.get?_push_size _ rfl))
  have x3 : (g6 s.heap a b c).get? (g1 (g1 s.heap a) b).objs.size = some _ := Heap.get?_push_of_some _ (Heap.get?_push_of_some _ (Heap.get?_push_of_some _ (Heap.get?_push_size _ rfl)))
  have x2 : (g6 s.heap a b c).get? (g1 s.heap a).objs.size = some _ := Heap.get?_push_of_some _ (Heap.get?_push_of_some _ (Heap.get?_push_of_some _ (Heap.get?_push_of_some _ (Heap.get?_push_size _ rfl))))
  have x1 : (g6 s.heap a b c).get? s.heap.objs.size = some _ := Heap.get?_push_of_some _ (Heap.get?_push_of_some _ (Heap.get?_push_of_some _ (Heap.get?_push_of_some _ (Heap.get?_push_of_some _ (Heap.get?_push_size _ rfl)))))
  show _ ∧ _
  rw [y3, y4, y5] at x6
  rw [y4] at x5
  rw [y1, y2, y3] at x4
  rw [y2] at x3
  rw [y1] at x2
  rw [y5]
  exact ⟨⟨_, x6, rfl⟩, q _ x6 x4 x5 ⟨_, x1, rfl, rfl⟩ ⟨_, x2, rfl, rfl⟩ ⟨_, x3, rfl, rfl⟩ fun c o e =>
    Heap.get?_push_of_some _ (Heap.get?_push_of_some _ (Heap.get?_push_of_some _ (Heap.get?_push_of_some _ (Heap.get?_push_of_some _ (Heap.get?_push_of_some _ e)))))⟩
end
end Z3

end

section
namespace Mq
open Sg24
/-! numbers -/
theorem ext_num {x y : Num} (a : x.a = y.a) (b : x.b = y.b) (c : x.c = y.c) (d : x.d = y.d) : x = y := by
  cases x; cases y; simp_all
theorem root_eq (x : Num) : root x = ⟨x.b - x.d, x.a + x.c, x.b + x.d, x.c - x.a⟩ := by
  apply ext_num <;> simp only [root, sub, add, neg, turned, turns] <;> omega
theorem rooted_iff (x : Num) : rooted x = true ↔ (x.a + x.c) % 2 = 0 ∧ (x.b + x.d) % 2 = 0 := by
  simp only [rooted, Bool.and_eq_true, beq_iff_eq]; omega
theorem unroot_eq (x : Num) : unroot x = ⟨(x.b - x.d) / 2, (x.a + x.c) / 2, (x.b + x.d) / 2, (x.c - x.a) / 2⟩ := by
  simp only [unroot, root_eq]
theorem rooted_root (x : Num) : rooted (root x) = true := by
  rw [rooted_iff, root_eq]; simp only; omega
theorem unroot_root (x : Num) : unroot (root x) = x := by
  rw [unroot_eq, root_eq]; apply ext_num <;> simp only <;> omega
theorem root_unroot {x : Num} (h : rooted x = true) : root (unroot x) = x := by
  rw [rooted_iff] at h; rw [unroot_eq, root_eq]; apply ext_num <;> simp only <;> omega
theorem rooted_turned (x : Num) : rooted (turned x) = rooted x := by
  rw [Bool.eq_iff_iff, rooted_iff, rooted_iff]; simp only [turned]; omega
theorem rooted_turns (n : Nat) (x : Num) : rooted (turns n x) = rooted x := by
  induction n with
  | zero => rfl
  | succ n ih => rw [turns, rooted_turned, ih]
theorem rooted_neg (x : Num) : rooted (neg x) = rooted x := by
  rw [Bool.eq_iff_iff, rooted_iff, rooted_iff]; simp only [neg]; omega
theorem turns4 (x : Num) : turns 4 x = neg x := rfl
theorem turns6 (x : Num) : turns 6 x = neg (turns 2 x) := rfl
theorem turns7 (x : Num) : turns 7 x = neg (turns 3 x) := rfl
theorem rooted_sub_add (x y : Num) : rooted (sub x y) = rooted (add x y) := by
  rw [Bool.eq_iff_iff, rooted_iff, rooted_iff]; simp only [sub, add, neg]; omega
/-! norms -/
def nadd (x y : Int × Int) : Int × Int := (x.1 + y.1, x.2 + y.2)
theorem norm_turned (x : Num) : norm (turned x) = norm x := by
  simp only [norm, turned]; ext <;> simp only <;> grind
theorem norm_neg (x : Num) : norm (neg x) = norm x := by
  simp only [norm, neg]; ext <;> simp only <;> grind
theorem norm_turns (n : Nat) (x : Num) : norm (turns n x) = norm x := by
  induction n with
  | zero => rfl
  | succ n ih => rw [turns, norm_turned, ih]
theorem norm_root (x : Num) : norm (root x) = nadd (norm x) (norm x) := by
  rw [root_eq]; simp only [norm, nadd]; ext <;> simp only <;> grind
theorem norm_add_sub (x y : Num) : nadd (norm (add x y)) (norm (sub x y)) = nadd (nadd (norm x) (norm y)) (nadd (norm x) (norm y)) := by
  simp only [norm, nadd, add, sub, neg]; ext <;> simp only <;> grind
end Mq

end

section
namespace Mq
open Sg24
/-! bits -/
theorem bit_tb (p t : Nat) : bit p t = p.testBit t := by
  rw [Nat.testBit_eq_decide_div_mod_eq]; rfl
theorem or_add {p t : Nat} (h : p.testBit t = false) : p ||| 2 ^ t = p + 2 ^ t := by
  have h1 : p / 2 ^ t % 2 = 0 := by
    rw [Nat.testBit_eq_decide_div_mod_eq] at h
    have := of_decide_eq_false h
    omega
  obtain ⟨q, r, hr, e⟩ : ∃ q r, r < 2 ^ t ∧ p = 2 ^ (t + 1) * q + r := by
    refine ⟨p / 2 ^ t / 2, p % 2 ^ t, Nat.mod_lt _ (Nat.two_pow_pos t), ?_⟩
    have e1 := Nat.div_add_mod p (2 ^ t)
    have e2 := Nat.div_add_mod (p / 2 ^ t) 2
    rw [h1, Nat.add_zero] at e2
    rw [Nat.pow_succ, Nat.mul_assoc, e2, e1]
  have h2 : r < 2 ^ (t + 1) := by rw [Nat.pow_succ]; omega
  have h3 : r + 2 ^ t < 2 ^ (t + 1) := by rw [Nat.pow_succ]; omega
  rw [e, Nat.add_assoc, Nat.two_pow_add_eq_or_of_lt h2, Nat.two_pow_add_eq_or_of_lt h3, Nat.or_assoc, Nat.or_two_pow_eq_add_of_lt hr]
theorem tb_or_pow (p t i : Nat) : (p ||| 2 ^ t).testBit i = (p.testBit i || decide (t = i)) := by
  rw [Nat.testBit_or, Nat.testBit_two_pow]
theorem tb_add {p t : Nat} (h : p.testBit t = false) (i : Nat) : (p + 2 ^ t).testBit i = (p.testBit i || decide (t = i)) := by
  rw [← or_add h, tb_or_pow]
theorem sub_tb {p t : Nat} (h : p.testBit t = true) : (p - 2 ^ t).testBit t = false ∧ p - 2 ^ t + 2 ^ t = p := by
  have h0 : 2 ^ t ≤ p := Nat.ge_two_pow_of_testBit h
  have e : p - 2 ^ t + 2 ^ t = p := by omega
  refine ⟨?_, e⟩
  cases q : (p - 2 ^ t).testBit t with
  | false => rfl
  | true =>
    have := Nat.testBit_two_pow_add_eq (p - 2 ^ t) t
    rw [Nat.add_comm, e, h, q] at this
    cases this
theorem add_lt {p t n : Nat} (h : p.testBit t = false) (hp : p < 2 ^ n) (ht : t < n) : p + 2 ^ t < 2 ^ n := by
  rw [← or_add h]
  exact Nat.or_lt_two_pow hp (Nat.pow_lt_pow_right (by decide) ht)
theorem chosen_iff (on off p : Nat) : chosen on off p = true ↔ p &&& on = on ∧ p &&& off = 0 := by
  simp [chosen]
theorem and_self_iff (p on : Nat) : p &&& on = on ↔ ∀ i, on.testBit i = true → p.testBit i = true := by
  constructor
  · intro h i hi
    have := congrArg (fun z => z.testBit i) h
    simp only [Nat.testBit_and, hi, Bool.and_true] at this
    exact this
  · intro h
    apply Nat.eq_of_testBit_eq
    intro i
    rw [Nat.testBit_and]
    cases e : on.testBit i with
    | false => simp
    | true => rw [h i e]; rfl
theorem and_zero_iff (p off : Nat) : p &&& off = 0 ↔ ∀ i, off.testBit i = true → p.testBit i = false := by
  constructor
  · intro h i hi
    have := congrArg (fun z => z.testBit i) h
    simp only [Nat.testBit_and, hi, Bool.and_true, Nat.zero_testBit] at this
    exact this
  · intro h
    apply Nat.eq_of_testBit_eq
    intro i
    rw [Nat.testBit_and, Nat.zero_testBit]
    cases e : off.testBit i with
    | false => simp
    | true => rw [h i e]; rfl
/-- the places' test -/
theorem place_iff {t on off p : Nat} (h : on &&& off = 0) (h1 : on.testBit t = false) (h2 : off.testBit t = false) :
    p &&& (2 ^ t ||| on ||| off) = on ↔ p.testBit t = false ∧ chosen on off p = true := by
  rw [chosen_iff, and_self_iff, and_zero_iff]
  have hh := (and_zero_iff on off).mp h
  constructor
  · intro e
    have f : ∀ i, (p.testBit i && (decide (t = i) || on.testBit i || off.testBit i)) = on.testBit i := fun i => by
      have := congrArg (fun z => z.testBit i) e
      simpa only [Nat.testBit_and, Nat.testBit_or, Nat.testBit_two_pow] using this
    refine ⟨?_, fun i hi => ?_, fun i hi => ?_⟩
    · have := f t
      simpa [h1] using this
    · have := f i
      simpa [hi] using this
    · have := f i
      have e2 : on.testBit i = false := by
        cases q : on.testBit i with
        | false => rfl
        | true => rw [hh i hi] at q; cases q
      simpa [hi, e2] using this
  · rintro ⟨a, b, c⟩
    apply Nat.eq_of_testBit_eq
    intro i
    simp only [Nat.testBit_and, Nat.testBit_or, Nat.testBit_two_pow]
    by_cases hi : t = i
    · subst hi; simp [a, h1]
    · cases q : on.testBit i with
      | true => simp [b i q]
      | false =>
        cases q2 : off.testBit i with
        | true => simp [c i q2]
        | false => simp [hi]
theorem chosen_add {t on off p : Nat} (h1 : on.testBit t = false) (h2 : off.testBit t = false) (h : p.testBit t = false) : chosen on off (p + 2 ^ t) = chosen on off p := by
  rw [Bool.eq_iff_iff, chosen_iff, chosen_iff, and_self_iff, and_self_iff, and_zero_iff, and_zero_iff]
  have g1 : ∀ i, on.testBit i = true → t ≠ i := fun i hi e => by subst e; rw [h1] at hi; cases hi
  have g2 : ∀ i, off.testBit i = true → t ≠ i := fun i hi e => by subst e; rw [h2] at hi; cases hi
  constructor
  · rintro ⟨a, b⟩
    refine ⟨fun i hi => ?_, fun i hi => ?_⟩
    · have := a i hi; rw [tb_add h] at this; simpa [g1 i hi] using this
    · have := b i hi; rw [tb_add h] at this; simpa [g2 i hi] using this
  · rintro ⟨a, b⟩
    refine ⟨fun i hi => ?_, fun i hi => ?_⟩
    · rw [tb_add h, a i hi]; rfl
    · rw [tb_add h, b i hi]; simp [g2 i hi]
/-! the program's put -/
def putM (t : Nat) : List (Nat × Num × Num) → List Num → List Num
  | [], l => l
  | (p, x, y) :: r, l => putM t r ((l.set p x).set (p ||| 2 ^ t) y)
theorem putM_length (t : Nat) : ∀ (r : List (Nat × Num × Num)) (l : List Num), (putM t r l).length = l.length
  | [], _ => rfl
  | (p, x, y) :: r, l => by rw [putM, putM_length t r, List.length_set, List.length_set]
theorem putM_get {t : Nat} {f g : Nat → Num} (q : Nat) : ∀ (ps : List Nat) (l : List Num), (∀ p ∈ ps, p.testBit t = false ∧ p + 2 ^ t < l.length) →
    (putM t (ps.map fun p => (p, f p, g p)) l)[q]? = if q ∈ ps then some (f q) else if q.testBit t = true ∧ q - 2 ^ t ∈ ps then some (g (q - 2 ^ t)) else l[q]?
  | [], l, _ => by simp [putM]
  | p :: ps, l, h => by
    obtain ⟨hp, hl⟩ := h p (List.mem_cons_self)
    have ih := putM_get (f := f) (g := g) q ps ((l.set p (f p)).set (p ||| 2 ^ t) (g p)) (fun p' h' => by
      rw [List.length_set, List.length_set]; exact h p' (List.mem_cons_of_mem _ h'))
    rw [List.map_cons, putM, ih]
    by_cases c1 : q ∈ ps
    · rw [if_pos c1, if_pos (List.mem_cons_of_mem _ c1)]
    · rw [if_neg c1, or_add hp, List.getElem?_set, List.getElem?_set]
      by_cases c2 : q = p
      · subst c2
        have n1 : ¬ (q.testBit t = true ∧ q - 2 ^ t ∈ ps) := fun z => by rw [hp] at z; cases z.1
        have n2 : ¬ (q + 2 ^ t = q) := by have := Nat.two_pow_pos t; omega
        have n3 : q < l.length := by have := Nat.two_pow_pos t; omega
        simp [n1, n3]
      · have c3 : q ∉ p :: ps := by simp [c1, c2]
        rw [if_neg c3]
        by_cases c4 : q.testBit t = true
        · obtain ⟨s1, s2⟩ := sub_tb c4
          by_cases c5 : q - 2 ^ t ∈ ps
          · rw [if_pos ⟨c4, c5⟩, if_pos ⟨c4, List.mem_cons_of_mem _ c5⟩]
          · rw [if_neg (fun z => c5 z.2)]
            by_cases c6 : q - 2 ^ t = p
            · have e : p + 2 ^ t = q := by omega
              rw [if_pos e, if_pos (by rw [List.length_set]; exact hl), if_pos ⟨c4, by rw [c6]; exact List.mem_cons_self⟩, c6]
            · have e : ¬ p + 2 ^ t = q := by omega
              rw [if_neg e, if_neg (fun z => c2 z.symm), if_neg (fun z => by simp [c5, c6] at z)]
        · have e : ¬ p + 2 ^ t = q := fun z => by
            apply c4; rw [← z, tb_add hp]; simp
          rw [if_neg (fun z => c4 z.1), if_neg e, if_neg (fun z => c2 z.symm), if_neg (fun z => c4 z.1)]
def placesM (n fixed on : Nat) : List Nat := (List.range (2 ^ n)).filter fun p => p &&& fixed == on
theorem mem_places {n t on off q : Nat} (h : on &&& off = 0) (h1 : on.testBit t = false) (h2 : off.testBit t = false) :
    q ∈ placesM n (2 ^ t ||| on ||| off) on ↔ q < 2 ^ n ∧ q.testBit t = false ∧ chosen on off q = true := by
  rw [placesM, List.mem_filter, List.mem_range, beq_iff_eq, place_iff h h1 h2]
theorem put_eq {n t on off : Nat} {f g : Nat → Num} {l : List Num} (ht : t < n) (h : on &&& off = 0) (h1 : on.testBit t = false) (h2 : off.testBit t = false) (hl : l.length = 2 ^ n) :
    putM t ((placesM n (2 ^ t ||| on ||| off) on).map fun p => (p, f p, g p)) l = (List.range (2 ^ n)).map fun q => if chosen on off q = true then (if bit q t = true then g (q - 2 ^ t) else f q) else l.getD q zero := by
  apply List.ext_getElem?
  intro q
  rw [putM_get]
  · rw [List.getElem?_map]
    by_cases hq : q < 2 ^ n
    · rw [List.getElem?_range hq, Option.map_some]
      have eg : l[q]? = some (l.getD q zero) := by
        rw [List.getD_eq_getElem?_getD, List.getElem?_eq_getElem (by omega)]; rfl
      by_cases c : chosen on off q = true
      · rw [if_pos c, bit_tb]
        cases b : q.testBit t with
        | false =>
          rw [if_pos ((mem_places h h1 h2).mpr ⟨hq, b, c⟩)]; simp
        | true =>
          obtain ⟨s1, s2⟩ := sub_tb b
          have m : q - 2 ^ t ∈ placesM n (2 ^ t ||| on ||| off) on := (mem_places h h1 h2).mpr ⟨by have := Nat.two_pow_pos t; omega, s1, by rw [← chosen_add h1 h2 s1, s2]; exact c⟩
          rw [if_neg (fun z => by have := ((mem_places h h1 h2).mp z).2.1; rw [b] at this; cases this), if_pos ⟨rfl, m⟩]; simp
      · rw [if_neg c, if_neg (fun z => c ((mem_places h h1 h2).mp z).2.2), eg, if_neg]
        rintro ⟨b, z⟩
        obtain ⟨s1, s2⟩ := sub_tb b
        apply c
        rw [← s2, chosen_add h1 h2 s1]
        exact ((mem_places h h1 h2).mp z).2.2
    · have e1 : l[q]? = none := List.getElem?_eq_none (by omega)
      have e2 : (List.range (2 ^ n))[q]? = none := List.getElem?_eq_none (by rw [List.length_range]; omega)
      rw [if_neg (fun z => hq ((mem_places h h1 h2).mp z).1), e1, e2, if_neg, Option.map_none]
      rintro ⟨b, z⟩
      obtain ⟨s1, s2⟩ := sub_tb b
      have := add_lt s1 ((mem_places h h1 h2).mp z).1 ht
      omega
  · intro p hp
    obtain ⟨a, b, _⟩ := (mem_places h h1 h2).mp hp
    exact ⟨b, by rw [hl]; exact add_lt b a ht⟩
end Mq

end

section
namespace Mq
open Sg24
/-! sums -/
def sumTo : Nat → (Nat → Int) → Int
  | 0, _ => 0
  | m + 1, F => sumTo m F + F m
theorem sumTo_congr {F G : Nat → Int} : ∀ (m : Nat), (∀ i, i < m → F i = G i) → sumTo m F = sumTo m G
  | 0, _ => rfl
  | m + 1, h => by rw [sumTo, sumTo, sumTo_congr m (fun i hi => h i (by omega)), h m (by omega)]
theorem sumTo_plus (F G : Nat → Int) : ∀ (m : Nat), sumTo m (fun i => F i + G i) = sumTo m F + sumTo m G
  | 0 => rfl
  | m + 1 => by rw [sumTo, sumTo, sumTo, sumTo_plus F G m]; omega
theorem sumTo_append (F : Nat → Int) (a : Nat) : ∀ (b : Nat), sumTo (a + b) F = sumTo a F + sumTo b (fun i => F (a + i))
  | 0 => by simp [sumTo]
  | b + 1 => by rw [← Nat.add_assoc, sumTo, sumTo_append F a b, sumTo]; omega
/-- the other place of a pair -/
def flip (t p : Nat) : Nat := if p.testBit t = true then p - 2 ^ t else p + 2 ^ t
theorem flip_add {t n p : Nat} (h : t < n) : flip t (2 ^ n + p) = 2 ^ n + flip t p := by
  unfold flip
  rw [Nat.testBit_two_pow_add_gt h]
  split
  · rename_i hb
    have h0 : 2 ^ t ≤ p := Nat.ge_two_pow_of_testBit hb
    have := Nat.two_pow_pos n
    have := Nat.two_pow_pos t
    omega
  · omega
theorem flip_lt {t n p : Nat} (h : t < n) (hp : p < 2 ^ n) : flip t p < 2 ^ n := by
  unfold flip
  split
  · have := Nat.two_pow_pos t
    omega
  · rename_i hb
    exact add_lt (by simpa using hb) hp h
theorem flip_flip (t p : Nat) : flip t (flip t p) = p := by
  unfold flip
  cases b : p.testBit t with
  | true =>
    obtain ⟨s1, s2⟩ := sub_tb b
    simp [s1, s2]
  | false =>
    have : (p + 2 ^ t).testBit t = true := by rw [tb_add b]; simp
    simp [this]
theorem sum_flip {t : Nat} (F : Nat → Int) : ∀ {n : Nat}, t < n → sumTo (2 ^ n) (fun p => F (flip t p)) = sumTo (2 ^ n) F
  | 0, h => by omega
  | n + 1, h => by
    have e : 2 ^ (n + 1) = 2 ^ n + 2 ^ n := by rw [Nat.pow_succ]; omega
    rw [e, sumTo_append, sumTo_append]
    by_cases c : t = n
    · subst c
      have a1 : sumTo (2 ^ t) (fun p => F (flip t p)) = sumTo (2 ^ t) (fun i => F (2 ^ t + i)) := sumTo_congr _ fun i hi => by
        have : i.testBit t = false := Nat.testBit_lt_two_pow hi
        show F (flip t i) = _
        unfold flip; rw [this]; simp [Nat.add_comm]
      have a2 : sumTo (2 ^ t) (fun i => F (flip t (2 ^ t + i))) = sumTo (2 ^ t) F := sumTo_congr _ fun i hi => by
        have h1 : i.testBit t = false := Nat.testBit_lt_two_pow hi
        have : (2 ^ t + i).testBit t = true := by rw [Nat.testBit_two_pow_add_eq, h1]; rfl
        show F (flip t (2 ^ t + i)) = _
        unfold flip; rw [this, if_pos rfl]; congr 1; omega
      rw [a1, a2]; omega
    · have h' : t < n := by omega
      rw [sum_flip F h']
      have a2 : sumTo (2 ^ n) (fun i => F (flip t (2 ^ n + i))) = sumTo (2 ^ n) (fun i => F (2 ^ n + flip t i)) := sumTo_congr _ fun i _ => by
        show F (flip t (2 ^ n + i)) = _
        rw [flip_add h']
      rw [a2, sum_flip (fun i => F (2 ^ n + i)) h']
/-- sums whose pairs agree agree -/
theorem sum_pairs {t n : Nat} {F G : Nat → Int} (h : t < n) (e : ∀ p, p < 2 ^ n → p.testBit t = false → F p + F (p + 2 ^ t) = G p + G (p + 2 ^ t)) : sumTo (2 ^ n) F = sumTo (2 ^ n) G := by
  have a := sum_flip F h
  have b := sum_flip G h
  have c : sumTo (2 ^ n) (fun p => F p + F (flip t p)) = sumTo (2 ^ n) (fun p => G p + G (flip t p)) := sumTo_congr _ fun p hp => by
    show F p + F (flip t p) = G p + G (flip t p)
    unfold flip
    cases q : p.testBit t with
    | false => simpa using e p hp q
    | true =>
      obtain ⟨s1, s2⟩ := sub_tb q
      have := e (p - 2 ^ t) (by have := Nat.two_pow_pos t; omega) s1
      rw [s2] at this
      rw [if_pos rfl]; omega
  rw [sumTo_plus, sumTo_plus, a, b] at c
  omega
/-! states -/
structure Nrm (s : State) : Prop where
  n1 : 1 ≤ s.n
  n10 : s.n ≤ 10
  len : s.amps.length = 2 ^ s.n
  r1 : sumTo (2 ^ s.n) (fun p => (norm (s.at_ p)).1) = 2 ^ s.k
  r2 : sumTo (2 ^ s.n) (fun p => (norm (s.at_ p)).2) = 0
def Lst (s : State) : Prop := s.k = 0 ∨ s.amps.all rooted = false
structure Good (s : State) : Prop where
  nm : Nrm s
  kk : s.k ≤ 120
  ls : Lst s
theorem at_lt {s : State} (N : Nrm s) {p : Nat} (h : p < 2 ^ s.n) : s.amps[p]? = some (s.at_ p) := by
  unfold State.at_
  rw [List.getD_eq_getElem?_getD, List.getElem?_eq_getElem (by rw [N.len]; exact h)]; rfl
theorem at_mem {s : State} (N : Nrm s) {p : Nat} (h : p < 2 ^ s.n) : s.at_ p ∈ s.amps := List.mem_of_getElem? (at_lt N h)
theorem all_iff {s : State} (N : Nrm s) : s.amps.all rooted = true ↔ ∀ p, p < 2 ^ s.n → rooted (s.at_ p) = true := by
  rw [List.all_eq_true]
  constructor
  · intro h p hp
    exact h _ (at_mem N hp)
  · intro h x hx
    obtain ⟨i, hi, e⟩ := List.getElem_of_mem hx
    have hi' : i < 2 ^ s.n := by rw [← N.len]; exact hi
    have := at_lt N hi'
    rw [List.getElem?_eq_getElem hi, Option.some.injEq] at this
    rw [← e, this]
    exact h i hi'
/-- the list read anew -/
theorem amps_eq {s : State} (N : Nrm s) : s.amps = (List.range (2 ^ s.n)).map s.at_ := by
  apply List.ext_getElem?
  intro q
  rw [List.getElem?_map]
  by_cases h : q < 2 ^ s.n
  · rw [at_lt N h, List.getElem?_range h]; rfl
  · rw [List.getElem?_eq_none (by rw [N.len]; omega), List.getElem?_eq_none (by rw [List.length_range]; omega)]; rfl
theorem map_at {n k m p : Nat} {F : Nat → Num} (h : p < 2 ^ m) : State.at_ ⟨n, k, (List.range (2 ^ m)).map F⟩ p = F p := by
  unfold State.at_
  rw [List.getD_eq_getElem?_getD, List.getElem?_map, List.getElem?_range h]; rfl
/-! least -/
theorem least_stop {s : State} (h : Lst s) : ∀ f, least f s = s
  | 0 => rfl
  | f + 1 => by
    rw [least, if_neg]
    rintro ⟨a, b⟩
    rcases h with h | h
    · omega
    · rw [h] at b; cases b
theorem least_go {s : State} (hk : 0 < s.k) (h : s.amps.all rooted = true) (f : Nat) : least (f + 1) s = least f { s with k := s.k - 1, amps := s.amps.map unroot } := by
  rw [least, if_pos ⟨hk, h⟩]
theorem least_k (f : Nat) : ∀ s : State, (least f s).k ≤ s.k ∧ (least f s).n = s.n := by
  induction f with
  | zero => intro s; exact ⟨Nat.le_refl _, rfl⟩
  | succ f ih =>
    intro s
    rw [least]
    split
    · have := ih { s with k := s.k - 1, amps := s.amps.map unroot }
      exact ⟨Nat.le_trans this.1 (Nat.sub_le _ _), this.2⟩
    · exact ⟨Nat.le_refl _, rfl⟩
theorem least_lst (f : Nat) : ∀ s : State, s.k ≤ f → Lst (least f s) := by
  induction f with
  | zero => intro s h; exact .inl (by show s.k = 0; omega)
  | succ f ih =>
    intro s h
    rw [least]
    split
    · exact ih _ (by show s.k - 1 ≤ f; omega)
    · rename_i c
      by_cases c1 : 0 < s.k
      · exact .inr (by cases e : s.amps.all rooted with | false => rfl | true => exact absurd ⟨c1, e⟩ c)
      · exact .inl (by omega)
theorem unroot_nrm {s : State} (N : Nrm s) (hk : 0 < s.k) (h : s.amps.all rooted = true) : Nrm { s with k := s.k - 1, amps := s.amps.map unroot } := by
  have hr := (all_iff N).mp h
  have ea : ∀ p, p < 2 ^ s.n → State.at_ { s with k := s.k - 1, amps := s.amps.map unroot } p = unroot (s.at_ p) := fun p hp => by
    show (s.amps.map unroot).getD p zero = _
    rw [List.getD_eq_getElem?_getD, List.getElem?_map, at_lt N hp]; rfl
  have e1 : ∀ p, p < 2 ^ s.n → norm (s.at_ p) = nadd (norm (unroot (s.at_ p))) (norm (unroot (s.at_ p))) := fun p hp => by
    rw [← norm_root, root_unroot (hr p hp)]
  have ek : (2 : Int) ^ s.k = 2 ^ (s.k - 1) + 2 ^ (s.k - 1) := by
    have : s.k = (s.k - 1) + 1 := by omega
    rw [this, Int.pow_succ]; simp only [Nat.add_sub_cancel]; omega
  refine ⟨N.n1, N.n10, by rw [List.length_map]; exact N.len, ?_, ?_⟩
  · show sumTo (2 ^ s.n) _ = 2 ^ (s.k - 1)
    rw [sumTo_congr (2 ^ s.n) (fun p hp => by rw [ea p hp])]
    have := N.r1
    rw [sumTo_congr (2 ^ s.n) (fun p hp => by rw [e1 p hp]), ek] at this
    simp only [nadd] at this
    rw [sumTo_plus] at this
    omega
  · show sumTo (2 ^ s.n) _ = 0
    rw [sumTo_congr (2 ^ s.n) (fun p hp => by rw [ea p hp])]
    have := N.r2
    rw [sumTo_congr (2 ^ s.n) (fun p hp => by rw [e1 p hp])] at this
    simp only [nadd] at this
    rw [sumTo_plus] at this
    omega
theorem least_nrm (f : Nat) : ∀ s : State, Nrm s → Nrm (least f s) := by
  induction f with
  | zero => intro s N; exact N
  | succ f ih =>
    intro s N
    rw [least]
    split
    · rename_i c
      exact ih _ (unroot_nrm N c.1 c.2)
    · exact N
end Mq

end

section
namespace Mq
open Sg24
/-- the gate before it is kept least -/
def rawNew (kind t on off : Nat) (s : State) (p : Nat) : Num :=
  if chosen on off p = true then (if bit p t = true then (pair kind (s.at_ (if bit p t = true then p - 2 ^ t else p)) (s.at_ ((if bit p t = true then p - 2 ^ t else p) + 2 ^ t))).2 else (pair kind (s.at_ (if bit p t = true then p - 2 ^ t else p)) (s.at_ ((if bit p t = true then p - 2 ^ t else p) + 2 ^ t))).1)
  else if (kind == 7) = true then root (s.at_ p) else s.at_ p
def raw (kind t on off : Nat) (s : State) : State := ⟨s.n, if (kind == 7) = true then s.k + 1 else s.k, (List.range (2 ^ s.n)).map (rawNew kind t on off s)⟩
theorem gate_raw (kind t on off : Nat) (s : State) : gate kind t on off s = least 130 (raw kind t on off s) := rfl
/-- what may be told -/
structure May (s : State) (kind t : Int) (on off : Nat) : Prop where
  k0 : 0 ≤ kind
  k7 : kind ≤ 7
  t0 : 0 ≤ t
  tn : t < s.n
  on1 : on < 2 ^ s.n
  off1 : off < 2 ^ s.n
  dis : on &&& off = 0
  on2 : on.testBit t.toNat = false
  off2 : off.testBit t.toNat = false
theorem may_iff {s : State} {kind t : Int} {on off : Nat} : may s kind t on off = true ↔ May s kind t on off := by
  simp only [may, Bool.and_eq_true, decide_eq_true_eq, beq_iff_eq, Bool.not_eq_true', bit_tb]
  constructor
  · rintro ⟨a, b, c, d, e, f, g, h, i⟩; exact ⟨a, b, c, d, e, f, g, h, i⟩
  · rintro ⟨a, b, c, d, e, f, g, h, i⟩; exact ⟨a, b, c, d, e, f, g, h, i⟩
section
variable {s : State} {kind t on off : Nat}
theorem raw_lo {p : Nat} (h : p.testBit t = false) (c : chosen on off p = true) : rawNew kind t on off s p = (pair kind (s.at_ p) (s.at_ (p + 2 ^ t))).1 := by
  unfold rawNew; rw [if_pos c, bit_tb, h]; simp
theorem raw_hi {p : Nat} (h1 : on.testBit t = false) (h2 : off.testBit t = false) (h : p.testBit t = false) (c : chosen on off p = true) : rawNew kind t on off s (p + 2 ^ t) = (pair kind (s.at_ p) (s.at_ (p + 2 ^ t))).2 := by
  have b : (p + 2 ^ t).testBit t = true := by rw [tb_add h]; simp
  unfold rawNew; rw [if_pos ((chosen_add h1 h2 h).trans c), bit_tb, b]; simp
theorem raw_no {p : Nat} (c : chosen on off p = false) : rawNew kind t on off s p = if (kind == 7) = true then root (s.at_ p) else s.at_ p := by
  unfold rawNew; rw [if_neg (by rw [c]; decide)]
/-- norms of a pair -/
theorem norm_pair (x y : Num) : nadd (norm (pair kind x y).1) (norm (pair kind x y).2) = if kind < 7 then nadd (norm x) (norm y) else nadd (nadd (norm x) (norm y)) (nadd (norm x) (norm y)) := by
  unfold pair
  split <;> rename_i h
  · simp [nadd, Int.add_comm]
  · simp [nadd, norm_neg, norm_turns, Int.add_comm]
  · simp [nadd, norm_neg]
  · simp [nadd, norm_turns]
  · simp [nadd, norm_neg, norm_turns]
  · simp [nadd, norm_turned]
  · simp [nadd, norm_neg, norm_turns]
  · rw [if_neg (fun z => by
      have : kind = 0 ∨ kind = 1 ∨ kind = 2 ∨ kind = 3 ∨ kind = 4 ∨ kind = 5 ∨ kind = 6 := by omega
      rcases this with rfl | rfl | rfl | rfl | rfl | rfl | rfl <;> simp_all)]
    exact norm_add_sub x y
theorem raw_nrm (N : Nrm s) (ht : t < s.n) (hk : kind ≤ 7) (h1 : on.testBit t = false) (h2 : off.testBit t = false) : Nrm (raw kind t on off s) := by
  have ea : ∀ p, p < 2 ^ s.n → (raw kind t on off s).at_ p = rawNew kind t on off s p := fun p hp => map_at hp
  refine ⟨N.n1, N.n10, by simp [raw], ?_, ?_⟩
  · show sumTo (2 ^ s.n) _ = 2 ^ (if (kind == 7) = true then s.k + 1 else s.k)
    rw [sumTo_congr (2 ^ s.n) (fun p hp => by rw [ea p hp])]
    by_cases k7 : kind = 7
    · subst k7
      have e : sumTo (2 ^ s.n) (fun p => (norm (rawNew 7 t on off s p)).1) = sumTo (2 ^ s.n) (fun p => (norm (s.at_ p)).1 + (norm (s.at_ p)).1) := sum_pairs ht fun p hp hb => by
        cases c : chosen on off p with
        | true =>
          have := congrArg Prod.fst (norm_pair (kind := 7) (s.at_ p) (s.at_ (p + 2 ^ t)))
          rw [raw_lo hb c, raw_hi h1 h2 hb c]
          simp only [nadd, if_neg (show ¬ (7 < 7) by decide)] at this
          omega
        | false =>
          have c' : chosen on off (p + 2 ^ t) = false := (chosen_add h1 h2 hb).trans c
          rw [raw_no c, raw_no c', if_pos (by rfl), if_pos (by rfl), norm_root, norm_root]
          simp only [nadd]
      rw [e, sumTo_plus, N.r1, if_pos (by rfl), Int.pow_succ]; omega
    · have k7' : (kind == 7) = false := by simpa using k7
      have e : sumTo (2 ^ s.n) (fun p => (norm (rawNew kind t on off s p)).1) = sumTo (2 ^ s.n) (fun p => (norm (s.at_ p)).1) := sum_pairs ht fun p hp hb => by
        cases c : chosen on off p with
        | true =>
          have := congrArg Prod.fst (norm_pair (kind := kind) (s.at_ p) (s.at_ (p + 2 ^ t)))
          rw [raw_lo hb c, raw_hi h1 h2 hb c]
          rw [if_pos (show kind < 7 by omega)] at this
          exact this
        | false =>
          have c' : chosen on off (p + 2 ^ t) = false := (chosen_add h1 h2 hb).trans c
          rw [raw_no c, raw_no c', k7']; rfl
      rw [e, N.r1, k7']; rfl
  · show sumTo (2 ^ s.n) _ = 0
    rw [sumTo_congr (2 ^ s.n) (fun p hp => by rw [ea p hp])]
    by_cases k7 : kind = 7
    · subst k7
      have e : sumTo (2 ^ s.n) (fun p => (norm (rawNew 7 t on off s p)).2) = sumTo (2 ^ s.n) (fun p => (norm (s.at_ p)).2 + (norm (s.at_ p)).2) := sum_pairs ht fun p hp hb => by
        cases c : chosen on off p with
        | true =>
          have := congrArg Prod.snd (norm_pair (kind := 7) (s.at_ p) (s.at_ (p + 2 ^ t)))
          rw [raw_lo hb c, raw_hi h1 h2 hb c]
          simp only [nadd, if_neg (show ¬ (7 < 7) by decide)] at this
          omega
        | false =>
          have c' : chosen on off (p + 2 ^ t) = false := (chosen_add h1 h2 hb).trans c
          rw [raw_no c, raw_no c', if_pos (by rfl), if_pos (by rfl), norm_root, norm_root]
          simp only [nadd]
      rw [e, sumTo_plus, N.r2]; rfl
    · have k7' : (kind == 7) = false := by simpa using k7
      have e : sumTo (2 ^ s.n) (fun p => (norm (rawNew kind t on off s p)).2) = sumTo (2 ^ s.n) (fun p => (norm (s.at_ p)).2) := sum_pairs ht fun p hp hb => by
        cases c : chosen on off p with
        | true =>
          have := congrArg Prod.snd (norm_pair (kind := kind) (s.at_ p) (s.at_ (p + 2 ^ t)))
          rw [raw_lo hb c, raw_hi h1 h2 hb c]
          rw [if_pos (show kind < 7 by omega)] at this
          exact this
        | false =>
          have c' : chosen on off (p + 2 ^ t) = false := (chosen_add h1 h2 hb).trans c
          rw [raw_no c, raw_no c', k7']; rfl
      rw [e, N.r2]
/-- rooted pairs -/
theorem rooted_pair (hk : kind < 7) (x y : Num) (h1 : rooted (pair kind x y).1 = true) (h2 : rooted (pair kind x y).2 = true) : rooted x = true ∧ rooted y = true := by
  have : kind = 0 ∨ kind = 1 ∨ kind = 2 ∨ kind = 3 ∨ kind = 4 ∨ kind = 5 ∨ kind = 6 := by omega
  rcases this with rfl | rfl | rfl | rfl | rfl | rfl | rfl <;> simp only [pair, rooted_neg, rooted_turns, rooted_turned] at h1 h2 <;> exact ⟨by assumption, by assumption⟩
theorem raw_lst (N : Nrm s) (L : Lst s) (ht : t < s.n) (hk : kind < 7) (h1 : on.testBit t = false) (h2 : off.testBit t = false) : Lst (raw kind t on off s) := by
  have k7' : (kind == 7) = false := by simp; omega
  rcases L with L | L
  · exact .inl (by show (if (kind == 7) = true then s.k + 1 else s.k) = 0; rw [k7']; exact L)
  · refine .inr ?_
    cases e : (raw kind t on off s).amps.all rooted with
    | false => rfl
    | true =>
      have R := (all_iff (raw_nrm N ht (by omega) h1 h2)).mp e
      have R' : ∀ p, p < 2 ^ s.n → rooted (rawNew kind t on off s p) = true := fun p hp => by
        have := R p hp
        rwa [show (raw kind t on off s).at_ p = rawNew kind t on off s p from map_at hp] at this
      have lo : ∀ p, p < 2 ^ s.n → p.testBit t = false → rooted (s.at_ p) = true ∧ rooted (s.at_ (p + 2 ^ t)) = true := fun p hp hb => by
        have hq := add_lt hb hp ht
        cases c : chosen on off p with
        | true =>
          have a := R' p hp
          have b := R' (p + 2 ^ t) hq
          rw [raw_lo hb c] at a
          rw [raw_hi h1 h2 hb c] at b
          exact rooted_pair hk _ _ a b
        | false =>
          have c' : chosen on off (p + 2 ^ t) = false := (chosen_add h1 h2 hb).trans c
          have a := R' p hp
          have b := R' (p + 2 ^ t) hq
          rw [raw_no c, k7'] at a
          rw [raw_no c', k7'] at b
          exact ⟨a, b⟩
      have : s.amps.all rooted = true := (all_iff N).mpr fun p hp => by
        cases q : p.testBit t with
        | false => exact (lo p hp q).1
        | true =>
          obtain ⟨s1, s2⟩ := sub_tb q
          have := (lo (p - 2 ^ t) (by have := Nat.two_pow_pos t; omega) s1).2
          rwa [s2] at this
      rw [L] at this; cases this
/-- the program's triples -/
def trip (t : Nat) (s : State) (f : Num → Num → Num) (g : Num → Num → Num) (ps : List Nat) : List (Nat × Num × Num) :=
  ps.map fun p => (p, f (s.at_ p) (s.at_ (p ||| 2 ^ t)), g (s.at_ p) (s.at_ (p ||| 2 ^ t)))
theorem put_trip {l : List Num} {f g : Num → Num → Num} (ht : t < s.n) (h : on &&& off = 0) (h1 : on.testBit t = false) (h2 : off.testBit t = false) (hl : l.length = 2 ^ s.n) :
    putM t (trip t s f g (placesM s.n (2 ^ t ||| on ||| off) on)) l = (List.range (2 ^ s.n)).map fun q => if chosen on off q = true then (if bit q t = true then g (s.at_ (q - 2 ^ t)) (s.at_ q) else f (s.at_ q) (s.at_ (q + 2 ^ t))) else l.getD q zero := by
  have e := put_eq (f := fun p => f (s.at_ p) (s.at_ (p ||| 2 ^ t))) (g := fun p => g (s.at_ p) (s.at_ (p ||| 2 ^ t))) ht h h1 h2 hl
  rw [trip, e]
  apply List.map_congr_left
  intro q _
  split
  · rename_i c
    split
    · rename_i b
      rw [bit_tb] at b
      obtain ⟨s1, s2⟩ := sub_tb b
      rw [or_add s1, s2]
    · rename_i b
      rw [bit_tb] at b
      rw [or_add (by simpa using b)]
  · rfl
/-- a gate that is no H -/
theorem gate_lt7 (G : Good s) (ht : t < s.n) (hk : kind < 7) (h : on &&& off = 0) (h1 : on.testBit t = false) (h2 : off.testBit t = false) :
    gate kind t on off s = { s with amps := putM t (trip t s (fun x y => (pair kind x y).1) (fun x y => (pair kind x y).2) (placesM s.n (2 ^ t ||| on ||| off) on)) s.amps } := by
  have k7' : (kind == 7) = false := by simp; omega
  rw [gate_raw, least_stop (raw_lst G.nm G.ls ht hk h1 h2), put_trip ht h h1 h2 G.nm.len]
  show State.mk _ _ _ = State.mk _ _ _
  rw [k7']
  congr 1
  apply List.map_congr_left
  intro q _
  cases c : chosen on off q with
  | false => rw [raw_no c, k7']; rfl
  | true =>
    rw [bit_tb]
    cases b : q.testBit t with
    | false => rw [raw_lo b c]; rfl
    | true =>
      obtain ⟨s1, s2⟩ := sub_tb b
      have := raw_hi (s := s) (kind := kind) h1 h2 s1 (by rw [← chosen_add h1 h2 s1, s2]; exact c)
      rw [s2] at this
      rw [this]; rfl
/-! H -/
theorem raw7_all (N : Nrm s) (ht : t < s.n) (h : on &&& off = 0) (h1 : on.testBit t = false) (h2 : off.testBit t = false) :
    (raw 7 t on off s).amps.all rooted = ((placesM s.n (2 ^ t ||| on ||| off) on).map fun p => add (s.at_ p) (s.at_ (p ||| 2 ^ t))).all rooted := by
  rw [Bool.eq_iff_iff, all_iff (raw_nrm N ht (by decide) h1 h2), List.all_eq_true]
  constructor
  · intro a x hx
    obtain ⟨p, hp, rfl⟩ := List.mem_map.mp hx
    obtain ⟨m1, m2, m3⟩ := (mem_places h h1 h2).mp hp
    have := a p m1
    rw [show (raw 7 t on off s).at_ p = rawNew 7 t on off s p from map_at m1, raw_lo m2 m3] at this
    rw [or_add m2]; exact this
  · intro a p hp
    rw [show (raw 7 t on off s).at_ p = rawNew 7 t on off s p from map_at hp]
    cases c : chosen on off p with
    | false => rw [raw_no c]; exact rooted_root _
    | true =>
      cases b : p.testBit t with
      | false =>
        have := a _ (List.mem_map.mpr ⟨p, (mem_places h h1 h2).mpr ⟨hp, b, c⟩, rfl⟩)
        rw [or_add b] at this
        rw [raw_lo b c]; exact this
      | true =>
        obtain ⟨s1, s2⟩ := sub_tb b
        have c' : chosen on off (p - 2 ^ t) = true := by rw [← chosen_add h1 h2 s1, s2]; exact c
        have := a _ (List.mem_map.mpr ⟨p - 2 ^ t, (mem_places h h1 h2).mpr ⟨by have := Nat.two_pow_pos t; have hp' : p < 2 ^ s.n := hp; omega, s1, c'⟩, rfl⟩)
        rw [or_add s1] at this
        have e := raw_hi (s := s) (kind := 7) h1 h2 s1 c'
        rw [s2] at e
        rw [e]
        show rooted (sub _ _) = true
        rw [s2] at this
        rw [rooted_sub_add]; exact this
theorem raw7_at {q : Nat} (h1 : on.testBit t = false) (h2 : off.testBit t = false) : rawNew 7 t on off s q = if chosen on off q = true then (if bit q t = true then sub (s.at_ (q - 2 ^ t)) (s.at_ q) else add (s.at_ q) (s.at_ (q + 2 ^ t))) else root (s.at_ q) := by
  cases c : chosen on off q with
  | false => rw [raw_no c]; rfl
  | true =>
    rw [bit_tb]
    cases b : q.testBit t with
    | false => rw [raw_lo b c]; rfl
    | true =>
      obtain ⟨s1, s2⟩ := sub_tb b
      have := raw_hi (s := s) (kind := 7) h1 h2 s1 (by rw [← chosen_add h1 h2 s1, s2]; exact c)
      rw [s2] at this
      rw [this]; rfl
/-- all sums hold the root -/
theorem gate7_yes (N : Nrm s) (ht : t < s.n) (h : on &&& off = 0) (h1 : on.testBit t = false) (h2 : off.testBit t = false)
    (hs : ((placesM s.n (2 ^ t ||| on ||| off) on).map fun p => add (s.at_ p) (s.at_ (p ||| 2 ^ t))).all rooted = true) :
    gate 7 t on off s = least 129 { s with amps := putM t (trip t s (fun x y => unroot (add x y)) (fun x y => unroot (sub x y)) (placesM s.n (2 ^ t ||| on ||| off) on)) s.amps } := by
  rw [gate_raw, least_go (by show 0 < s.k + 1; omega) (by rw [raw7_all N ht h h1 h2]; exact hs), put_trip ht h h1 h2 N.len]
  congr 1
  show State.mk _ _ _ = State.mk _ _ _
  congr 1
  show ((List.range (2 ^ s.n)).map (rawNew 7 t on off s)).map unroot = _
  rw [List.map_map]
  apply List.map_congr_left
  intro q hq
  show unroot (rawNew 7 t on off s q) = _
  rw [raw7_at h1 h2]
  split
  · split <;> rfl
  · exact unroot_root _
/-- not all do -/
theorem gate7_no (N : Nrm s) (ht : t < s.n) (h : on &&& off = 0) (h1 : on.testBit t = false) (h2 : off.testBit t = false)
    (hs : ((placesM s.n (2 ^ t ||| on ||| off) on).map fun p => add (s.at_ p) (s.at_ (p ||| 2 ^ t))).all rooted = false) :
    gate 7 t on off s = ⟨s.n, s.k + 1, putM t (trip t s add sub (placesM s.n (2 ^ t ||| on ||| off) on)) (s.amps.map root)⟩ := by
  rw [gate_raw, least_stop (.inr (by rw [raw7_all N ht h h1 h2]; exact hs)), put_trip ht h h1 h2 (by rw [List.length_map]; exact N.len)]
  show State.mk _ _ _ = State.mk _ _ _
  congr 1
  apply List.map_congr_left
  intro q hq
  rw [raw7_at h1 h2]
  split
  · split <;> rfl
  · rw [List.getD_eq_getElem?_getD, List.getElem?_map, at_lt N (List.mem_range.mp hq)]; rfl
end
/-- what told leaves is good -/
theorem told_good {s : State} {kind t : Int} {on off : Nat} (G : Good s) : Good (told s kind t on off).2 := by
  unfold told
  split
  · exact G
  · rename_i hm
    have m := may_iff.mp (by simpa using hm)
    simp only
    split
    · exact G
    · rename_i hk
      have k7 : kind.toNat ≤ 7 := by have := m.k7; omega
      have tn : t.toNat < s.n := by have := m.tn; have := m.t0; omega
      have R := raw_nrm (on := on) (off := off) G.nm tn k7 m.on2 m.off2
      refine ⟨least_nrm 130 _ R, by have : ¬ 120 < (gate kind.toNat t.toNat on off s).k := hk; exact Nat.le_of_not_lt this, ?_⟩
      refine least_lst 130 _ ?_
      show (if (kind.toNat == 7) = true then s.k + 1 else s.k) ≤ 130
      have := G.kk
      split <;> omega
theorem fresh_good {n p : Nat} (h1 : 1 ≤ n) (h2 : n ≤ 10) (hp : p < 2 ^ n) : Good (fresh n p) := by
  have ea : ∀ i, i < 2 ^ n → (fresh n p).at_ i = if i = p then one else zero := fun i hi => map_at hi
  have aux : ∀ (F : Int) m, sumTo m (fun i => if i = p then F else 0) = if p < m then F else 0 := fun F m => by
    induction m with
    | zero => rfl
    | succ m ih =>
      rw [sumTo, ih]
      by_cases c : p < m
      · rw [if_pos c, if_neg (by omega), if_pos (by omega)]; omega
      · by_cases d : m = p
        · rw [if_neg c, if_pos d, if_pos (by omega)]; omega
        · rw [if_neg c, if_neg d, if_neg (by omega)]; rfl
  refine ⟨⟨h1, h2, by simp [fresh], ?_, ?_⟩, Nat.zero_le _, .inl rfl⟩
  · show sumTo (2 ^ n) _ = 2 ^ 0
    rw [sumTo_congr (2 ^ n) (G := fun i => if i = p then 1 else 0) (fun i hi => by rw [ea i hi]; split <;> rfl), aux, if_pos hp]; rfl
  · show sumTo (2 ^ n) _ = 0
    rw [sumTo_congr (2 ^ n) (G := fun i => if i = p then 0 else 0) (fun i hi => by rw [ea i hi]; split <;> rfl), aux]; split <;> rfl
end Mq

end

section
namespace Mq
open Sg24
open Sg24Neutral (bytesOf)
/-! words -/
def sp : Bytes → Bytes → List Bytes
  | w, [] => if w = [] then [] else [w]
  | w, c :: r => if space c = true then (if w = [] then sp [] r else w :: sp [] r) else sp (w ++ [c]) r
theorem sp_drop : ∀ b : Bytes, sp [] b = sp [] (b.dropWhile space)
  | [] => rfl
  | c :: r => by
    cases h : space c with
    | true => rw [sp, if_pos h, if_pos rfl, List.dropWhile_cons_of_pos h]; exact sp_drop r
    | false => rw [List.dropWhile_cons_of_neg (by simp [h])]
theorem sp_take : ∀ (c w : Bytes), sp w c = sp (w ++ c.takeWhile fun x => !space x) (c.drop (c.takeWhile fun x => !space x).length)
  | [], w => by simp
  | c :: r, w => by
    cases h : space c with
    | true => rw [List.takeWhile_cons_of_neg (by simp [h])]; simp
    | false =>
      rw [sp, if_neg (by simp [h]), List.takeWhile_cons_of_pos (by simp [h]), sp_take r (w ++ [c])]
      simp
theorem drop_head : ∀ (c : Bytes), c.drop (c.takeWhile fun x => !space x).length = [] ∨ ∃ x r, c.drop (c.takeWhile fun x => !space x).length = x :: r ∧ space x = true
  | [] => .inl rfl
  | c :: r => by
    cases h : space c with
    | true => rw [List.takeWhile_cons_of_neg (by simp [h])]; exact .inr ⟨c, r, rfl, h⟩
    | false => rw [List.takeWhile_cons_of_pos (by simp [h])]; exact drop_head r
theorem sp_word {w r : Bytes} (hw : w ≠ []) (h : r = [] ∨ ∃ x q, r = x :: q ∧ space x = true) : sp w r = w :: sp [] r := by
  rcases h with rfl | ⟨x, q, rfl, h⟩
  · simp [sp, hw]
  · simp [sp, hw, h]
theorem words_sp : ∀ (k : Nat) (b : Bytes), b.length < k → words k b = sp [] b
  | 0, b, h => by omega
  | k + 1, b, h => by
    rw [words, sp_drop]
    have hl : (b.dropWhile space).length ≤ b.length := (List.dropWhile_sublist _).length_le
    by_cases e : b.dropWhile space = []
    · simp [e, sp]
    · simp only [if_neg e]
      rw [sp_take (b.dropWhile space) []]
      obtain ⟨c, r, ec⟩ : ∃ c r, b.dropWhile space = c :: r := List.exists_cons_of_ne_nil e
      have hc : space c = false := by
        have := List.head_dropWhile_not space (l := b) e
        simpa [ec] using this
      have hw : (b.dropWhile space).takeWhile (fun x => !space x) ≠ [] := by
        rw [ec, List.takeWhile_cons_of_pos (by simp [hc])]; simp
      have hlen : 0 < ((b.dropWhile space).takeWhile fun x => !space x).length := List.length_pos_iff.mpr hw
      rw [List.nil_append, sp_word hw (drop_head _), words_sp k _ (by rw [List.length_drop]; have : 0 < (b.dropWhile space).length := List.length_pos_iff.mpr e; omega)]
/-! the same over whole numbers -/
def spI : List Int → List Int → List (List Int)
  | w, [] => if w = [] then [] else [w]
  | w, c :: r => if c = 32 ∨ c = 10 then (if w = [] then spI [] r else w :: spI [] r) else spI (w ++ [c]) r
def ByteL (l : List Int) : Prop := ∀ x ∈ l, 0 ≤ x ∧ x ≤ 255
def byt (z : Int) : UInt8 := UInt8.ofNat z.toNat
theorem byt_cases {P : Int → Prop} (h : ∀ n : _root_.Fin 256, P (n.val : Int)) (z : Int) (h0 : 0 ≤ z) (h1 : z ≤ 255) : P z := by
  have := h ⟨z.toNat, by omega⟩
  rwa [show ((z.toNat : Nat) : Int) = z by omega] at this
theorem space_byt (z : Int) (h0 : 0 ≤ z) (h1 : z ≤ 255) : space (byt z) = decide (z = 32 ∨ z = 10) :=
  byt_cases (P := fun z => space (byt z) = decide (z = 32 ∨ z = 10)) (by decide +kernel) z h0 h1
theorem sp_spI : ∀ (b w : List Int), ByteL b → sp (bytesOf w) (bytesOf b) = (spI w b).map bytesOf
  | [], w, _ => by
    rw [spI]
    by_cases h : w = []
    · subst h; rfl
    · have : bytesOf w ≠ [] := by simpa [bytesOf] using h
      rw [if_neg h]; show (if bytesOf w = [] then [] else [bytesOf w]) = _
      rw [if_neg this]; rfl
  | c :: r, w, h => by
    have hc := h c List.mem_cons_self
    have hr : ByteL r := fun x hx => h x (List.mem_cons_of_mem _ hx)
    have es := space_byt c hc.1 hc.2
    show (if space (byt c) = true then (if bytesOf w = [] then sp [] (bytesOf r) else bytesOf w :: sp [] (bytesOf r)) else sp (bytesOf w ++ [byt c]) (bytesOf r)) = _
    rw [es, spI]
    by_cases s : c = 32 ∨ c = 10
    · rw [if_pos (by simpa using s), if_pos s]
      by_cases e : w = []
      · subst e
        rw [if_pos rfl]
        exact (if_pos rfl).trans (sp_spI r [] hr)
      · have : bytesOf w ≠ [] := by simpa [bytesOf] using e
        rw [if_neg e, if_neg this, List.map_cons]
        exact congrArg _ (sp_spI r [] hr)
    · rw [if_neg (by simpa using s), if_neg s]
      have := sp_spI r (w ++ [c]) hr
      rw [← this]; simp [bytesOf, byt]
/-- the words are not empty, and of bytes -/
theorem spI_mem : ∀ (b w : List Int), ByteL b → ByteL w → ∀ x ∈ spI w b, x ≠ [] ∧ ByteL x
  | [], w, _, hw, x, hx => by
    rw [spI] at hx
    split at hx
    · simp at hx
    · rename_i e; rw [List.mem_singleton] at hx; subst hx; exact ⟨e, hw⟩
  | c :: r, w, h, hw, x, hx => by
    have hc := h c List.mem_cons_self
    have hr : ByteL r := fun x hx => h x (List.mem_cons_of_mem _ hx)
    have hn : ByteL [] := fun x hx => by simp at hx
    rw [spI] at hx
    split at hx
    · split at hx
      · exact spI_mem r [] hr hn x hx
      · rename_i e
        rcases List.mem_cons.mp hx with rfl | hx
        · exact ⟨e, hw⟩
        · exact spI_mem r [] hr hn x hx
    · refine spI_mem r (w ++ [c]) hr (fun y hy => ?_) x hx
      rcases List.mem_append.mp hy with hy | hy
      · exact hw y hy
      · rw [List.mem_singleton] at hy; subst hy; exact hc
theorem spI_length : ∀ (b w : List Int), (spI w b).length ≤ b.length + 1
  | [], w => by rw [spI]; split <;> simp
  | c :: r, w => by
    rw [spI]
    have h1 := spI_length r []
    have h2 := spI_length r (w ++ [c])
    split
    · split <;> simp <;> omega
    · simp; omega
/-! a word -/
def kindP (c : Int) : Option Nat := if c = 88 then some 0 else if c = 89 then some 1 else if c = 90 then some 2 else if c = 83 then some 3 else if c = 115 then some 4 else if c = 84 then some 5 else if c = 116 then some 6 else if c = 72 then some 7 else none
def dgt (c : Int) : Option Nat := if 48 ≤ c ∧ c ≤ 57 then some (c - 48).toNat else none
theorem kind_byt (z : Int) (h0 : 0 ≤ z) (h1 : z ≤ 255) : (LETTERS.findIdx? fun x => x == byt z) = kindP z :=
  byt_cases (P := fun z => (LETTERS.findIdx? fun x => x == byt z) = kindP z) (by decide +kernel) z h0 h1
theorem digit_byt (z : Int) (h0 : 0 ≤ z) (h1 : z ≤ 255) : digit (byt z) = dgt z :=
  byt_cases (P := fun z => digit (byt z) = dgt z) (by decide +kernel) z h0 h1
theorem byt_eq (z : Int) (h0 : 0 ≤ z) (h1 : z ≤ 255) : (byt z = 43 ↔ z = 43) ∧ (byt z = 45 ↔ z = 45) :=
  byt_cases (P := fun z => (byt z = 43 ↔ z = 43) ∧ (byt z = 45 ↔ z = 45)) (by decide +kernel) z h0 h1
def ctlP : List Int → Nat → Nat → Nat → Option (Nat × Nat)
  | [], _, on, off => some (on, off)
  | s :: c :: r, seen, on, off => match dgt c with
    | some i => if seen.testBit i = true then none else if s = 43 then ctlP r (seen ||| 2 ^ i) (on ||| 2 ^ i) off else if s = 45 then ctlP r (seen ||| 2 ^ i) on (off ||| 2 ^ i) else none
    | none => none
  | [_], _, _, _ => none
def toldP : List Int → Option (Nat × Nat × Nat × Nat)
  | l :: c :: r => match kindP l, dgt c with
    | some k, some t => (ctlP r (2 ^ t) 0 0).map fun z => (k, t, z.1, z.2)
    | _, _ => none
  | _ => none
theorem controls_mono (t : Nat) : ∀ (r : Bytes) (on off on' off' : Nat), controls r on off = some (on', off') → (on.testBit t = true → on'.testBit t = true) ∧ (off.testBit t = true → off'.testBit t = true)
  | [], on, off, on', off', h => by simp [controls] at h; obtain ⟨rfl, rfl⟩ := h; exact ⟨id, id⟩
  | [_], _, _, _, _, h => by simp [controls] at h
  | s :: c :: r, on, off, on', off', h => by
    rw [controls] at h
    split at h
    · rename_i i _
      split at h
      · cases h
      · rename_i hb
        have b1 : on.testBit i = false := by rw [← bit_tb]; cases e : bit on i with | false => rfl | true => exact absurd (.inl e) hb
        have b2 : off.testBit i = false := by rw [← bit_tb]; cases e : bit off i with | false => rfl | true => exact absurd (.inr e) hb
        split at h
        · have := controls_mono t r _ _ _ _ h
          refine ⟨fun z => this.1 (by rw [tb_add b1, z]; rfl), this.2⟩
        · split at h
          · have := controls_mono t r _ _ _ _ h
            refine ⟨this.1, fun z => this.2 (by rw [tb_add b2, z]; rfl)⟩
          · cases h
    · cases h
/-- a word read by the program, and by the document -/
theorem ctl_spec (t : Nat) : ∀ (r : List Int) (on off : Nat), ByteL r → on.testBit t = false → off.testBit t = false →
    (∀ z, ctlP r (2 ^ t ||| on ||| off) on off = some z → controls (bytesOf r) on off = some z) ∧
    (ctlP r (2 ^ t ||| on ||| off) on off = none → controls (bytesOf r) on off = none ∨ ∃ on' off', controls (bytesOf r) on off = some (on', off') ∧ (on'.testBit t = true ∨ off'.testBit t = true))
  | [], on, off, _, _, _ => ⟨fun z h => h, fun h => by cases h⟩
  | [_], _, _, _, _, _ => ⟨fun z h => (by cases h), fun _ => .inl rfl⟩
  | s :: c :: r, on, off, hb, h1, h2 => by
    have hs := hb s List.mem_cons_self
    have hc := hb c (List.mem_cons_of_mem _ List.mem_cons_self)
    have hr : ByteL r := fun x hx => hb x (List.mem_cons_of_mem _ (List.mem_cons_of_mem _ hx))
    have e : controls (bytesOf (s :: c :: r)) on off = match digit (byt c) with
      | some i => if bit on i = true ∨ bit off i = true then none else if byt s = 43 then controls (bytesOf r) (on + 2 ^ i) off else if byt s = 45 then controls (bytesOf r) on (off + 2 ^ i) else none
      | none => none := rfl
    rw [e, ctlP, digit_byt c hc.1 hc.2]
    cases d : dgt c with
    | none => exact ⟨fun z h => (by cases h), fun _ => .inl rfl⟩
    | some i =>
      simp only [bit_tb, (byt_eq s hs.1 hs.2).1, (byt_eq s hs.1 hs.2).2]
      have eb : (2 ^ t ||| on ||| off).testBit i = (decide (t = i) || on.testBit i || off.testBit i) := by
        rw [Nat.testBit_or, Nat.testBit_or, Nat.testBit_two_pow]
      rw [eb]
      by_cases c1 : on.testBit i = true ∨ off.testBit i = true
      · have : (decide (t = i) || on.testBit i || off.testBit i) = true := by rcases c1 with z | z <;> simp [z]
        rw [if_pos this, if_pos c1]
        exact ⟨fun z h => (by cases h), fun _ => .inl rfl⟩
      · rw [if_neg c1]
        have n1 : on.testBit i = false := by cases q : on.testBit i with | false => rfl | true => exact absurd (.inl q) c1
        have n2 : off.testBit i = false := by cases q : off.testBit i with | false => rfl | true => exact absurd (.inr q) c1
        by_cases c2 : t = i
        · subst c2
          have : (decide (t = t) || on.testBit t || off.testBit t) = true := by simp
          rw [if_pos this]
          refine ⟨fun z h => (by cases h), fun _ => ?_⟩
          by_cases c3 : s = 43
          · rw [if_pos c3]
            cases q : controls (bytesOf r) (on + 2 ^ t) off with
            | none => exact .inl rfl
            | some z => exact .inr ⟨z.1, z.2, rfl, .inl ((controls_mono t _ _ _ _ _ q).1 (by rw [tb_add n1]; simp))⟩
          · rw [if_neg c3]
            by_cases c4 : s = 45
            · rw [if_pos c4]
              cases q : controls (bytesOf r) on (off + 2 ^ t) with
              | none => exact .inl rfl
              | some z => exact .inr ⟨z.1, z.2, rfl, .inr ((controls_mono t _ _ _ _ _ q).2 (by rw [tb_add n2]; simp))⟩
            · rw [if_neg c4]; exact .inl rfl
        · have : ¬ (decide (t = i) || on.testBit i || off.testBit i) = true := by simp [c2, n1, n2]
          rw [if_neg this]
          by_cases c3 : s = 43
          · rw [if_pos c3, if_pos c3, ← or_add n1]
            have ee : 2 ^ t ||| on ||| off ||| 2 ^ i = 2 ^ t ||| (on ||| 2 ^ i) ||| off := by
              simp only [Nat.or_assoc]; rw [Nat.or_comm off (2 ^ i)]
            rw [ee]
            exact ctl_spec t r (on ||| 2 ^ i) off hr (by rw [tb_or_pow, h1]; simp; exact fun z => c2 z.symm) h2
          · rw [if_neg c3, if_neg c3]
            by_cases c4 : s = 45
            · rw [if_pos c4, if_pos c4, ← or_add n2]
              have ee : 2 ^ t ||| on ||| off ||| 2 ^ i = 2 ^ t ||| on ||| (off ||| 2 ^ i) := by
                simp only [Nat.or_assoc]
              rw [ee]
              exact ctl_spec t r on (off ||| 2 ^ i) hr h1 (by rw [tb_or_pow, h2]; simp; exact fun z => c2 z.symm)
            · rw [if_neg c4, if_neg c4]; exact ⟨fun z h => (by cases h), fun _ => .inl rfl⟩
theorem told_some {w : List Int} {k t on off : Nat} (hb : ByteL w) (h : toldP w = some (k, t, on, off)) : word (bytesOf w) = some (k, t, on, off) := by
  match w, h with
  | l :: c :: r, h =>
    have hl := hb l List.mem_cons_self
    have hc := hb c (List.mem_cons_of_mem _ List.mem_cons_self)
    have hr : ByteL r := fun x hx => hb x (List.mem_cons_of_mem _ (List.mem_cons_of_mem _ hx))
    show (match LETTERS.findIdx? fun x => x == byt l, digit (byt c), controls (bytesOf r) 0 0 with
      | some k, some t, some (on, off) => some (k, t, on, off)
      | _, _, _ => none) = _
    rw [kind_byt l hl.1 hl.2, digit_byt c hc.1 hc.2]
    rw [toldP] at h
    cases e1 : kindP l with
    | none => rw [e1] at h; simp at h
    | some k' =>
      cases e2 : dgt c with
      | none => rw [e1, e2] at h; simp at h
      | some t' =>
        rw [e1, e2] at h
        simp only [Option.map_eq_some_iff] at h
        obtain ⟨z, hz, e⟩ := h
        have := (ctl_spec t' r 0 0 hr (Nat.zero_testBit _) (Nat.zero_testBit _)).1 z (by simpa using hz)
        rw [this]
        exact congrArg some e
theorem told_none {w : List Int} (hb : ByteL w) (h : toldP w = none) (s : State) : word (bytesOf w) = none ∨ ∃ k t on off, word (bytesOf w) = some (k, t, on, off) ∧ (told s k t on off).1 = -1 := by
  match w, h with
  | [], _ => exact .inl rfl
  | [_], _ => exact .inl rfl
  | l :: c :: r, h =>
    have hl := hb l List.mem_cons_self
    have hc := hb c (List.mem_cons_of_mem _ List.mem_cons_self)
    have hr : ByteL r := fun x hx => hb x (List.mem_cons_of_mem _ (List.mem_cons_of_mem _ hx))
    have ew : word (bytesOf (l :: c :: r)) = (match LETTERS.findIdx? fun x => x == byt l, digit (byt c), controls (bytesOf r) 0 0 with
      | some k, some t, some (on, off) => some (k, t, on, off)
      | _, _, _ => none) := rfl
    rw [ew, kind_byt l hl.1 hl.2, digit_byt c hc.1 hc.2]
    rw [toldP] at h
    cases e1 : kindP l with
    | none => exact .inl (by simp)
    | some k' =>
      cases e2 : dgt c with
      | none => exact .inl (by simp)
      | some t' =>
        rw [e1, e2] at h
        simp only [Option.map_eq_none_iff] at h
        rcases (ctl_spec t' r 0 0 hr (Nat.zero_testBit _) (Nat.zero_testBit _)).2 (by simpa using h) with q | ⟨on', off', q, q2⟩
        · rw [q]; exact .inl rfl
        · rw [q]
          refine .inr ⟨k', t', on', off', rfl, ?_⟩
          unfold told
          rw [if_pos]
          cases m : may s k' t' on' off' with
          | false => rfl
          | true =>
            have m := may_iff.mp m
            have a := m.on2
            have b := m.off2
            rw [Int.toNat_natCast] at a b
            rcases q2 with q2 | q2
            · rw [a] at q2; cases q2
            · rw [b] at q2; cases q2
theorem told_ne {s : State} {kind t : Int} {on off : Nat} (h : (told s kind t on off).1 ≠ 0) : (told s kind t on off).2 = s := by
  unfold told at h ⊢
  split
  · rfl
  · simp only
    split
    · rfl
    · rename_i a b
      rw [if_neg a] at h
      simp only [if_neg b] at h
      exact absurd rfl h
theorem run_none {s : State} {i : Nat} {w : List Int} {l : List Bytes} (hb : ByteL w) (h : toldP w = none) : Sg24.run s i (bytesOf w :: l) = (-1 - (i : Int), s) := by
  rw [Sg24.run]
  rcases told_none hb h s with e | ⟨k, t, on, off, e, e2⟩
  · rw [e]
  · rw [e]; simp only [e2]; rfl
theorem run_some {s : State} {i : Nat} {w : List Int} {l : List Bytes} {k t on off : Nat} (hb : ByteL w) (h : toldP w = some (k, t, on, off)) :
    Sg24.run s i (bytesOf w :: l) = if (told s k t on off).1 = 0 then Sg24.run (told s k t on off).2 (i + 1) l else (-1 - (i : Int), (told s k t on off).2) := by
  rw [Sg24.run, told_some hb h]
  simp only
  split
  · rfl
  · rename_i h; rw [told_ne h]
end Mq

end

section
namespace Mq
open PyFlat
theorem whole_id (c : List (List Int)) : PySg24.whole c = c := by
  unfold PySg24.whole; split <;> rfl
inductive Shp : List (List Int) → Prop
  | begin (a b : Int) : Shp [[0, a, b]]
  | gate (a b c d : Int) : Shp [[1, a, b, c, d]]
  | run (r : List Int) : Shp [[2], r]
  | amp (a : Int) : Shp [[3, a]]
  | chance (a b : Int) : Shp [[4, a, b]]
  | draw (a : Int) : Shp [[5, a]]
theorem shp_of {c : List (List Int)} (h : okCall PySg24.shape c) : Shp c := by
  obtain ⟨p, a, xs, rfl, e⟩ := h
  unfold PySg24.shape at e
  repeat' split at e
  all_goals simp only [Option.some.injEq, Prod.mk.injEq, reduceCtorEq] at e
  all_goals rename_i hp
  all_goals obtain ⟨e1, e2⟩ := e
  all_goals subst hp
  · match a, xs, e1, e2 with | [x, y], [], _, _ => exact .begin x y
  · match a, xs, e1, e2 with | [x, y, z, w], [], _, _ => exact .gate x y z w
  · match a, xs, e1, e2 with | [], [r], _, _ => exact .run r
  · match a, xs, e1, e2 with | [x], [], _, _ => exact .amp x
  · match a, xs, e1, e2 with | [x, y], [], _, _ => exact .chance x y
  · match a, xs, e1, e2 with | [x], [], _, _ => exact .draw x
theorem calls_put_of {l : List Int} {cs : List (List (List Int))} (h : PySg24.calls l = some cs) : l = put cs ∧ ∀ c ∈ cs, Shp c := by
  unfold PySg24.calls at h
  split at h
  · cases h
  · rename_i cs' e
    have e2 : cs'.map PySg24.whole = cs' := by
      have : PySg24.whole = id := funext whole_id
      rw [this, List.map_id]
    rw [e2, Option.some.injEq] at h
    subst h
    obtain ⟨a, b⟩ := put_calls _ _ _ e
    exact ⟨a, fun c hc => shp_of (b c hc)⟩
end Mq

end

section
namespace Bt
open PySem
theorem band (a b : Nat) : Builtin.bitAnd (a : Int) (b : Int) = ((a &&& b : Nat) : Int) := by
  unfold Builtin.bitAnd
  rw [decide_eq_true (Int.natCast_nonneg a), decide_eq_true (Int.natCast_nonneg b)]
  simp
theorem bnot2 (a : Int) : Builtin.bitNot (Builtin.bitNot a) = a := by
  unfold Builtin.bitNot; omega
theorem bor (a b : Nat) : Builtin.bitOr (a : Int) (b : Int) = ((a ||| b : Nat) : Int) := by
  unfold Builtin.bitOr Builtin.bitAnd
  have h : ∀ c : Nat, decide (0 ≤ Builtin.bitNot (c : Int)) = false := fun c => decide_eq_false (by unfold Builtin.bitNot; omega)
  rw [h a, h b]
  simp only [bnot2, Int.toNat_natCast]
theorem shl1 (t : Nat) : (1 : Int) * 2 ^ ((t : Int)).toNat = ((2 ^ t : Nat) : Int) := by
  rw [Int.toNat_natCast, Int.one_mul]; simp
end Bt

end

section
namespace Mq
open Sg24
/-! chances as sums -/
theorem sumTo_nonneg {F : Nat → Int} : ∀ (m : Nat), (∀ i, i < m → 0 ≤ F i) → 0 ≤ sumTo m F
  | 0, _ => Int.le_refl _
  | m + 1, h => by rw [sumTo]; have := sumTo_nonneg m (fun i hi => h i (by omega)); have := h m (by omega); omega
theorem sumTo_mono {F G : Nat → Int} : ∀ (m : Nat), (∀ i, i < m → F i ≤ G i) → sumTo m F ≤ sumTo m G
  | 0, _ => Int.le_refl _
  | m + 1, h => by rw [sumTo, sumTo]; have := sumTo_mono m (fun i hi => h i (by omega)); have := h m (by omega); omega
theorem sumTo_le {F : Nat → Int} {a b : Nat} (h : a ≤ b) (h0 : ∀ i, i < b → 0 ≤ F i) : sumTo a F ≤ sumTo b F := by
  obtain ⟨c, rfl⟩ := Nat.exists_eq_add_of_le h
  rw [sumTo_append]
  have := sumTo_nonneg (F := fun i => F (a + i)) c (fun i hi => h0 _ (by omega))
  omega
theorem sumTo_term {F : Nat → Int} {m i : Nat} (hi : i < m) (h0 : ∀ i, i < m → 0 ≤ F i) : F i ≤ sumTo m F := by
  have h1 : sumTo (i + 1) F ≤ sumTo m F := sumTo_le (by omega) h0
  have h2 := sumTo_nonneg i (fun j hj => h0 j (by omega))
  rw [sumTo] at h1
  omega
def pl (z w : Int × Int) : Int × Int := (z.1 + w.1, z.2 + w.2)
theorem foldl_pl (l : List (Int × Int)) : ∀ z, l.foldl (fun z w => (z.1 + w.1, z.2 + w.2)) z = pl z (l.foldl (fun z w => (z.1 + w.1, z.2 + w.2)) (0, 0)) := by
  induction l with
  | nil => intro z; simp [pl]
  | cons a l ih =>
    intro z
    rw [List.foldl_cons, ih, List.foldl_cons, ih (0 + a.1, 0 + a.2)]
    simp only [pl]; ext <;> simp only <;> omega
theorem fold_range (F : Nat → Int × Int) (f : Nat → Bool) : ∀ m, (((List.range m).filter f).map F).foldl (fun z w => (z.1 + w.1, z.2 + w.2)) (0, 0) = (sumTo m (fun p => if f p = true then (F p).1 else 0), sumTo m (fun p => if f p = true then (F p).2 else 0))
  | 0 => rfl
  | m + 1 => by
    rw [List.range_succ, List.filter_append, List.map_append, List.foldl_append, fold_range F f m, sumTo, sumTo]
    by_cases h : f m = true
    · rw [if_pos h, if_pos h, show [m].filter f = [m] by simp [h]]; rfl
    · rw [if_neg h, if_neg h, show [m].filter f = [] by simp [h]]; simp
theorem chance_eq (s : State) (f : Nat → Bool) : chance s f = (sumTo (2 ^ s.n) (fun p => if f p = true then (norm (s.at_ p)).1 else 0), sumTo (2 ^ s.n) (fun p => if f p = true then (norm (s.at_ p)).2 else 0)) :=
  fold_range (fun p => norm (s.at_ p)) f _
/-- the chances of the places below m together -/
def cum (s : State) (m : Nat) : Int × Int := (sumTo m (fun p => (norm (s.at_ p)).1), sumTo m (fun p => (norm (s.at_ p)).2))
theorem cum_succ (s : State) (m : Nat) : cum s (m + 1) = ((cum s m).1 + (norm (s.at_ m)).1, (cum s m).2 + (norm (s.at_ m)).2) := rfl
theorem sumTo_cut {F : Nat → Int} {p : Nat} : ∀ {m : Nat}, p < m → sumTo m (fun i => if decide (i ≤ p) = true then F i else 0) = sumTo (p + 1) F
  | m + 1, h => by
    rw [sumTo]
    by_cases e : p = m
    · subst e
      rw [if_pos (by simp), sumTo]
      congr 1
      exact sumTo_congr _ fun i hi => by simp; omega
    · rw [sumTo_cut (m := m) (by omega), if_neg (by simp; omega)]; omega
theorem chance_cum {s : State} {p : Nat} (h : p < 2 ^ s.n) : chance s (fun i => decide (i ≤ p)) = cum s (p + 1) := by
  rw [chance_eq]
  unfold cum
  rw [sumTo_cut h, sumTo_cut h]
theorem reaches_eq {s : State} {r p : Nat} (h : p < 2 ^ s.n) : reaches s r p = positive (2 ^ 64 * (cum s (p + 1)).1 - (r : Int) * 2 ^ s.k) (2 ^ 64 * (cum s (p + 1)).2) := by
  unfold reaches
  rw [chance_cum h]
theorem norm_nonneg (x : Num) : 0 ≤ (norm x).1 := by
  unfold norm
  have h := fun a : Int => (show 0 ≤ a * a from by
    rcases Int.le_total 0 a with h | h
    · exact Int.mul_nonneg h h
    · exact Int.mul_nonneg_of_nonpos_of_nonpos h h)
  have := h x.a; have := h x.b; have := h x.c; have := h x.d
  simp only; omega
theorem sq_nonneg (a : Int) : 0 ≤ a * a := by
  rcases Int.le_total 0 a with h | h
  · exact Int.mul_nonneg h h
  · exact Int.mul_nonneg_of_nonpos_of_nonpos h h
theorem norm_abs (x : Num) : (norm x).2 ≤ (norm x).1 ∧ -(norm x).1 ≤ (norm x).2 := by
  unfold norm
  simp only
  have h1 := sq_nonneg (x.a - x.b); have h2 := sq_nonneg (x.b - x.c); have h3 := sq_nonneg (x.c - x.d); have h4 := sq_nonneg (x.d + x.a)
  have g1 := sq_nonneg (x.a + x.b); have g2 := sq_nonneg (x.b + x.c); have g3 := sq_nonneg (x.c + x.d); have g4 := sq_nonneg (x.d - x.a)
  have e1 : (x.a - x.b) * (x.a - x.b) = x.a * x.a + x.b * x.b - 2 * (x.a * x.b) := by grind
  have e2 : (x.b - x.c) * (x.b - x.c) = x.b * x.b + x.c * x.c - 2 * (x.b * x.c) := by grind
  have e3 : (x.c - x.d) * (x.c - x.d) = x.c * x.c + x.d * x.d - 2 * (x.c * x.d) := by grind
  have e4 : (x.d + x.a) * (x.d + x.a) = x.d * x.d + x.a * x.a + 2 * (x.d * x.a) := by grind
  have f1 : (x.a + x.b) * (x.a + x.b) = x.a * x.a + x.b * x.b + 2 * (x.a * x.b) := by grind
  have f2 : (x.b + x.c) * (x.b + x.c) = x.b * x.b + x.c * x.c + 2 * (x.b * x.c) := by grind
  have f3 : (x.c + x.d) * (x.c + x.d) = x.c * x.c + x.d * x.d + 2 * (x.c * x.d) := by grind
  have f4 : (x.d - x.a) * (x.d - x.a) = x.d * x.d + x.a * x.a - 2 * (x.d * x.a) := by grind
  constructor <;> omega
section
variable {s : State}
theorem pow_k (G : Good s) : (2 : Int) ^ s.k ≤ 2 ^ 120 := by
  have : (2 : Nat) ^ s.k ≤ 2 ^ 120 := Nat.pow_le_pow_right (by decide) G.kk
  have e : ∀ k : Nat, (2 : Int) ^ k = ((2 ^ k : Nat) : Int) := fun k => by simp
  rw [e s.k, e 120]; omega
/-- the chances up to a place -/
theorem cum_bound (G : Good s) {m : Nat} (h : m ≤ 2 ^ s.n) : 0 ≤ (cum s m).1 ∧ (cum s m).1 ≤ 2 ^ s.k ∧ -(2 ^ s.k) ≤ (cum s m).2 ∧ (cum s m).2 ≤ 2 ^ s.k := by
  have a : 0 ≤ (cum s m).1 := sumTo_nonneg _ fun i _ => norm_nonneg _
  have b : (cum s m).1 ≤ 2 ^ s.k := by
    rw [← G.nm.r1]; exact sumTo_le h fun i _ => norm_nonneg _
  have c : (cum s m).2 ≤ (cum s m).1 := sumTo_mono _ fun i _ => (norm_abs _).1
  have d : -(cum s m).1 ≤ (cum s m).2 := by
    have e : ∀ (F : Nat → Int) m, -sumTo m F = sumTo m (fun i => -F i) := fun F m => by
      induction m with
      | zero => rfl
      | succ m ih => rw [sumTo, sumTo, ← ih]; omega
    show -sumTo m _ ≤ sumTo m _
    rw [e]
    exact sumTo_mono _ fun i _ => (norm_abs _).2
  exact ⟨a, b, by omega, by omega⟩
theorem cum_all (G : Good s) : cum s (2 ^ s.n) = (2 ^ s.k, 0) := by
  unfold cum; rw [G.nm.r1, G.nm.r2]
/-- a chance of any places -/
theorem chance_bound (G : Good s) (f : Nat → Bool) {m : Nat} (h : m ≤ 2 ^ s.n) : let x := sumTo m (fun p => if f p = true then (norm (s.at_ p)).1 else 0); let y := sumTo m (fun p => if f p = true then (norm (s.at_ p)).2 else 0);
    0 ≤ x ∧ x ≤ 2 ^ s.k ∧ -(2 ^ s.k) ≤ y ∧ y ≤ 2 ^ s.k := by
  intro x y
  have a : 0 ≤ x := sumTo_nonneg _ fun i _ => by split; exact norm_nonneg _; exact Int.le_refl _
  have b : x ≤ 2 ^ s.k := by
    rw [← G.nm.r1]
    refine Int.le_trans (sumTo_mono (G := fun p => (norm (s.at_ p)).1) m fun i _ => ?_) (sumTo_le h fun i _ => norm_nonneg _)
    split; exact Int.le_refl _; exact norm_nonneg _
  have c : y ≤ x := sumTo_mono _ fun i _ => by split; exact (norm_abs _).1; exact Int.le_refl _
  have d : -x ≤ y := by
    have e : ∀ (F : Nat → Int) m, -sumTo m F = sumTo m (fun i => -F i) := fun F m => by
      induction m with
      | zero => rfl
      | succ m ih => rw [sumTo, sumTo, ← ih]; omega
    show -sumTo m _ ≤ sumTo m _
    rw [e]
    exact sumTo_mono _ fun i _ => by split; exact (norm_abs _).2; exact Int.le_refl _
  exact ⟨a, b, by omega, by omega⟩
theorem sq_lt {a : Int} (h : a * a ≤ 2 ^ 120) : -(2 ^ 61) < a ∧ a < 2 ^ 61 := by
  constructor
  · apply Int.lt_of_not_ge; intro z
    have z : 2 ^ 61 ≤ -a := by omega
    have := Int.mul_le_mul z z (by decide) (by omega)
    have e : -a * -a = a * a := by grind
    rw [e] at this
    have : (2 : Int) ^ 61 * 2 ^ 61 ≤ 2 ^ 120 := Int.le_trans this h
    exact absurd this (by decide)
  · apply Int.lt_of_not_ge; intro z
    have := Int.mul_le_mul z z (by decide) (by omega)
    have : (2 : Int) ^ 61 * 2 ^ 61 ≤ 2 ^ 120 := Int.le_trans this h
    exact absurd this (by decide)
/-- the parts of an amplitude are small -/
theorem amp_small (G : Good s) {p : Nat} (h : p < 2 ^ s.n) : (-(2 ^ 61) < (s.at_ p).a ∧ (s.at_ p).a < 2 ^ 61) ∧ (-(2 ^ 61) < (s.at_ p).b ∧ (s.at_ p).b < 2 ^ 61) ∧ (-(2 ^ 61) < (s.at_ p).c ∧ (s.at_ p).c < 2 ^ 61) ∧ (-(2 ^ 61) < (s.at_ p).d ∧ (s.at_ p).d < 2 ^ 61) := by
  have h1 : (norm (s.at_ p)).1 ≤ 2 ^ 120 := by
    refine Int.le_trans ?_ (pow_k G)
    rw [← G.nm.r1]
    exact sumTo_term (F := fun p => (norm (s.at_ p)).1) h fun i _ => norm_nonneg _
  unfold norm at h1
  simp only at h1
  have a := sq_nonneg (s.at_ p).a; have b := sq_nonneg (s.at_ p).b; have c := sq_nonneg (s.at_ p).c; have d := sq_nonneg (s.at_ p).d
  exact ⟨sq_lt (by omega), sq_lt (by omega), sq_lt (by omega), sq_lt (by omega)⟩
/-! draw -/
theorem reaches_last (G : Good s) {r : Nat} (hr : r < 2 ^ 64) : reaches s r (2 ^ s.n - 1) = true := by
  have pos := Nat.two_pow_pos s.n
  rw [reaches_eq (by omega), show 2 ^ s.n - 1 + 1 = 2 ^ s.n by omega, cum_all G]
  simp only
  have pk : (0 : Int) < 2 ^ s.k := by
    have e : (2 : Int) ^ s.k = ((2 ^ s.k : Nat) : Int) := by simp
    rw [e]; have := Nat.two_pow_pos s.k; omega
  have hr' : (r : Int) + 1 ≤ 2 ^ 64 := by
    have : ((2 ^ 64 : Nat) : Int) = 2 ^ 64 := by decide
    omega
  have : 0 < (2 : Int) ^ 64 * 2 ^ s.k - (r : Int) * 2 ^ s.k := by
    rw [← Int.sub_mul]
    exact Int.mul_pos (by omega) pk
  unfold positive
  rw [if_pos ⟨by omega, by decide⟩]
  have : ((2 : Int) ^ 64 * 2 ^ s.k - (r : Int) * 2 ^ s.k != 0) = true := by rw [bne_iff_ne]; omega
  rw [this]; rfl
theorem find_first {f : Nat → Bool} : ∀ {m p : Nat}, p < m → (∀ i, i < p → f i = false) → f p = true → (List.range m).find? f = some p := by
  intro m p hp h0 h1
  rw [List.find?_eq_some_iff_append]
  refine ⟨h1, List.range p, (List.range (m - p - 1)).map (· + (p + 1)), ?_, fun a ha => ?_⟩
  · apply List.ext_getElem?
    intro i
    by_cases hi : i < m
    · rw [List.getElem?_range hi]
      by_cases c : i < p
      · rw [List.getElem?_append_left (by rw [List.length_range]; exact c), List.getElem?_range c]
      · rw [List.getElem?_append_right (by rw [List.length_range]; omega), List.length_range]
        by_cases e : i = p
        · subst e; simp
        · obtain ⟨j, rfl⟩ : ∃ j, i = p + 1 + j := ⟨i - p - 1, by omega⟩
          rw [show p + 1 + j - p = j + 1 by omega, List.getElem?_cons_succ, List.getElem?_map, List.getElem?_range (by omega)]
          simp; omega
    · rw [List.getElem?_eq_none (by rw [List.length_range]; omega), List.getElem?_eq_none]
      simp; omega
  · rw [List.mem_range] at ha
    rw [h0 a ha]; rfl
theorem drawn_first {r p : Nat} (hp : p < 2 ^ s.n) (h0 : ∀ i, i < p → reaches s r i = false) (h1 : reaches s r p = true) : drawn s r = p := by
  unfold drawn
  rw [find_first hp h0 h1]; rfl
end
end Mq

end

section
namespace Mq
open Sg24
/-! the program's own words for chances and draws -/
theorem foldl_sums (l : List (Int × Int)) : ∀ z : Int × Int, l.foldl (fun z w => (z.1 + w.1, z.2 + w.2)) z = (z.1 + (l.map (·.1)).sum, z.2 + (l.map (·.2)).sum) := by
  induction l with
  | nil => intro z; simp
  | cons a l ih =>
    intro z
    rw [List.foldl_cons, ih, List.map_cons, List.map_cons, List.sum_cons, List.sum_cons]
    simp only
    rw [Int.add_assoc, Int.add_assoc]
def seenOf (s : State) (f : Nat → Bool) : List Num := ((List.range (2 ^ s.n)).filter f).map s.at_
theorem chance_sums (s : State) (f : Nat → Bool) : chance s f = (((seenOf s f).map fun u => (norm u).1).sum, ((seenOf s f).map fun u => (norm u).2).sum) := by
  unfold chance seenOf
  rw [foldl_sums, List.map_map, List.map_map, List.map_map, List.map_map]
  simp only [Int.zero_add]; rfl
def absI (i : Int) : Int := if i < 0 then -i else i
/-- the root out of it, by squares with their signs -/
theorem below_eq (r y : Int) : decide (0 < r * absI r + 2 * y * absI y) = positive r y := by
  unfold positive absI
  have e2 : 2 * y * y = 2 * (y * y) := Int.mul_assoc _ _ _
  have e3 : 2 * y * -y = -(2 * (y * y)) := by rw [Int.mul_neg, e2]
  have e4 : r * -r = -(r * r) := by rw [Int.mul_neg]
  have sr := sq_nonneg r
  have sy := sq_nonneg y
  have zr : r = 0 ∨ 0 < r * r := by
    rcases Int.lt_trichotomy r 0 with h | h | h
    · exact .inr (Int.mul_pos_of_neg_of_neg h h)
    · exact .inl h
    · exact .inr (Int.mul_pos h h)
  have zy : y = 0 ∨ 0 < y * y := by
    rcases Int.lt_trichotomy y 0 with h | h | h
    · exact .inr (Int.mul_pos_of_neg_of_neg h h)
    · exact .inl h
    · exact .inr (Int.mul_pos h h)
  by_cases hr : r < 0
  · rw [if_pos hr, e4, if_neg (show ¬ (0 ≤ r ∧ 0 ≤ y) by omega)]
    by_cases hy : y < 0
    · rw [if_pos hy, e3, if_pos (by omega)]; exact decide_eq_false (by omega)
    · rw [if_neg hy, e2]
      by_cases y0 : y = 0
      · subst y0; rw [if_pos (by omega)]; exact decide_eq_false (by omega)
      · rw [if_neg (by omega), if_neg (by omega)]; apply decide_eq_decide.mpr; omega
  · rw [if_neg hr]
    by_cases hy : y < 0
    · rw [if_pos hy, e3, if_neg (by omega)]
      by_cases r0 : r = 0
      · subst r0; rw [if_pos (by omega)]; exact decide_eq_false (by omega)
      · rw [if_neg (by omega), if_pos (by omega)]; apply decide_eq_decide.mpr; omega
    · rw [if_neg hy, e2, if_pos (by omega)]
      by_cases r0 : r = 0
      · by_cases y0 : y = 0
        · subst r0; subst y0; rfl
        · have : (y != 0) = true := by rw [bne_iff_ne]; exact y0
          rw [this, Bool.or_true]; exact decide_eq_true (by omega)
      · have : (r != 0) = true := by rw [bne_iff_ne]; exact r0
        rw [this, Bool.true_or]; exact decide_eq_true (by omega)
theorem abs_nat (i : Int) : (absI i).natAbs = i.natAbs := by unfold absI; split <;> omega
theorem nat_lt {i : Int} {n : Nat} (h : -(n : Int) < i ∧ i < (n : Int)) : i.natAbs < n := by omega
theorem nat_le {i : Int} {n : Nat} (h : -(n : Int) ≤ i ∧ i ≤ (n : Int)) : i.natAbs ≤ n := by omega
theorem amp_nat {s : State} (G : Good s) {p : Nat} (h : p < 2 ^ s.n) : (s.at_ p).a.natAbs < 2 ^ 61 ∧ (s.at_ p).b.natAbs < 2 ^ 61 ∧ (s.at_ p).c.natAbs < 2 ^ 61 ∧ (s.at_ p).d.natAbs < 2 ^ 61 := by
  obtain ⟨a, b, c, d⟩ := amp_small G h
  refine ⟨?_, ?_, ?_, ?_⟩ <;> omega
theorem powk_nat {s : State} (G : Good s) : (2 : Nat) ^ s.k ≤ 2 ^ 120 := Nat.pow_le_pow_right (by decide) G.kk
theorem cum_nat {s : State} (G : Good s) {m : Nat} (h : m ≤ 2 ^ s.n) : (cum s m).1.natAbs ≤ 2 ^ 120 ∧ (cum s m).2.natAbs ≤ 2 ^ 120 := by
  obtain ⟨a, b, c, d⟩ := cum_bound G h
  have := pow_k G
  constructor <;> omega
/-- what the loop of draw looks at, m places being taken -/
def below (s : State) (r m : Nat) : Bool := positive (2 ^ 64 * (cum s m).1 - (r : Int) * 2 ^ s.k) (2 ^ 64 * (cum s m).2)
theorem below_zero (s : State) (r : Nat) : below s r 0 = false := by
  unfold below positive
  have e : cum s 0 = (0, 0) := rfl
  rw [e]; simp only [Int.mul_zero, Int.zero_sub]
  have pk : (0 : Int) ≤ (r : Int) * 2 ^ s.k := by
    have e : (2 : Int) ^ s.k = ((2 ^ s.k : Nat) : Int) := by simp
    rw [e]; exact Int.mul_nonneg (Int.natCast_nonneg _) (Int.natCast_nonneg _)
  by_cases z : (r : Int) * 2 ^ s.k = 0
  · rw [z]; decide
  · rw [if_neg (by omega), if_pos (by omega)]
theorem below_succ {s : State} {r p : Nat} (h : p < 2 ^ s.n) : below s r (p + 1) = reaches s r p := (reaches_eq h).symm
theorem below_done {s : State} {r m : Nat} (hm : m ≤ 2 ^ s.n) (h0 : ∀ i, i < m → below s r i = false) (h1 : below s r m = true) : 0 < m ∧ drawn s r = m - 1 := by
  have pos : 0 < m := by
    apply Nat.pos_of_ne_zero; intro e; subst e; rw [below_zero] at h1; cases h1
  refine ⟨pos, drawn_first (by omega) (fun i hi => ?_) ?_⟩
  · rw [← below_succ (by omega)]; exact h0 _ (by omega)
  · rw [← below_succ (by omega), show m - 1 + 1 = m by omega]; exact h1
theorem below_last {s : State} (G : Good s) {r : Nat} (hr : r < 2 ^ 64) : below s r (2 ^ s.n) = true := by
  have pos := Nat.two_pow_pos s.n
  have := reaches_last G hr
  rw [← below_succ (by omega), show 2 ^ s.n - 1 + 1 = 2 ^ s.n by omega] at this
  exact this
end Mq

end

section
set_option Elab.async false
set_option linter.all false
set_option maxRecDepth 100000
namespace L2
open PySem PySem.Spec PyProof.Rows
/-! ### zip of three lists -/
def Itz3 (K : PySem.W.Frag) (a b c : Addr) : It :=
  ⟨fun i H => ∃ (xs ys zs : List V) (x y z : V), SqL K H a xs ∧ SqL K H b ys ∧ SqL K H c zs ∧ xs[i]? = some x ∧ ys[i]? = some y ∧ zs[i]? = some z,
    fun i H v H' => ∃ T x y z, v = .ref T ∧ H T = none ∧ H' = upd H T (.tup [x, y, z]) ∧ (∀ xs, SqL K H a xs → xs[i]? = some x) ∧ (∀ ys, SqL K H b ys → ys[i]? = some y) ∧ ∀ zs, SqL K H c zs → zs[i]? = some z,
    fun i H => ∃ xs : List V, SqL K H a xs ∧ xs.length ≤ i⟩
theorem turn_zip3 {P : Program} {w : World} {K : PySem.W.Frag} {elts : List Expr} {kk : Nat} {tpos : Pos} {a b c z TI TO p1 p2 p3 : Addr} (D : Z3.Ap z TI TO p1 p2 p3 a b c) :
    Turn P w K (.Tuple elts kk tpos) (Itz3 K a b c) [z, TI, TO, p1, p2, p3] z (fun i h => IsZip h z TI TO .none ∧ Z3.IsTrip h TI (.ref p1) (.ref p2) (.ref p3) ∧ (∃ x y t, Z3.IsTrip h TO x y t) ∧ h.IsListIter p1 a i ∧ h.IsListIter p2 b i ∧ h.IsListIter p3 c i) where
  mem := by simp
  obj := fun i h st d hd => by
    obtain ⟨hz, hTI, ⟨x, y, t, hTO⟩, ⟨o1, e1, _, d1⟩, ⟨o2, e2, _, d2⟩, ⟨o3, e3, _, d3⟩⟩ := st
    have e' : d = z ∨ d = TI ∨ d = TO ∨ d = p1 ∨ d = p2 ∨ d = p3 := by simpa using hd
    rcases e' with q | q | q | q | q | q
    · rw [q]; exact ⟨_, hz, fun v q => nomatch q⟩
    · rw [q]; exact ⟨_, hTI, fun v q => nomatch q⟩
    · rw [q]; exact ⟨_, hTO, fun v q => nomatch q⟩
    · rw [q]; exact ⟨o1, e1, fun v q => by rw [d1] at q; cases q⟩
    · rw [q]; exact ⟨o2, e2, fun v q => by rw [d2] at q; cases q⟩
    · rw [q]; exact ⟨o3, e3, fun v q => by rw [d3] at q; cases q⟩
  keep := fun i h h' st k => by
    obtain ⟨hz, hTI, ⟨x, y, t, hTO⟩, h1, h2, h3⟩ := st
    exact ⟨k z (by simp) _ hz, k TI (by simp) _ hTI, ⟨x, y, t, k TO (by simp) _ hTO⟩, h1.at fun o q => k p1 (by simp) o q, h2.at fun o q => k p2 (by simp) o q, h3.at fun o q => k p3 (by simp) o q⟩
  item := by
    intro X hP hw hK hc i pins s σ H E I hf st hg
    subst hP hw hK
    obtain ⟨hz, hTI, ⟨x0, y0, t0, hTO⟩, h1, h2, h3⟩ := st
    obtain ⟨xs, ys, zs, x, y, t, hqx, hqy, hqz, hx, hy, ht⟩ := hg
    obtain ⟨its, rv, q1, _⟩ := I.list hqx
    obtain ⟨its2, rv2, q2, _⟩ := I.list hqy
    obtain ⟨its3, rv3, q3, _⟩ := I.list hqz
    obtain ⟨u, hu, ru⟩ := rv.get hx
    obtain ⟨u2, hu2, ru2⟩ := rv2.get hy
    obtain ⟨u3, hu3, ru3⟩ := rv3.get ht
    have hzl : z < s.heap.objs.size := Heap.lt_size hz
    refine Z3.pyNext_item D hz hTI hTO h1 h2 h3 q1.isList q2.isList q3.isList (x := u) (y := u2) (t := u3) (by simpa using hu) (by simpa using hu2) (by simpa using hu3) fun h' z' TO' h1' h2' h3' hT hk => ?_
    refine ⟨_, rfl, wpAny_letOwnedTupleGo_zip (s := { s with heap := h' }) z' fun h'' z'' sb => ?_⟩
    have hT2 : h''.get? s.heap.objs.size = some { cls := .type "tuple", data := .seq #[u, u2, u3] } := (sb.2 _ (Nat.ne_of_gt hzl)).trans hT
    have new : ObjOk X.prog X.w (upd H s.heap.objs.size (.tup [x, y, t])) h'' s.heap.objs.size (.tup [x, y, t]) :=
      ⟨by show 3 ≤ sizeLine; decide, [u, u2, u3], .cons ru (.cons ru2 (.cons ru3 .nil)), ⟨_, hT2, rfl, _, rfl⟩⟩
    have I1 : Inv X pins σ (upd H s.heap.objs.size (.tup [x, y, t])) { s with heap := h'' } :=
      I.turnedNew (t' := s.toks) (ch := [z, TI, TO, p1, p2, p3]) (fun c o hb q => (sb.2 c (fun q' => hb (by simp [q']))).trans (hk c o (fun q' => hb (by simp [q'])) (fun q' => hb (by simp [q'])) (fun q' => hb (by simp [q'])) (fun q' => hb (by simp [q'])) (fun q' => hb (by simp [q'])) q)) hf (Nat.le_refl _) new
    refine ⟨.ref s.heap.objs.size, _, I1, rfl, ⟨_, x, y, t, rfl, I.hok.fresh (Nat.le_refl _), rfl, fun l hl => by rw [I.list_inj hl hqx]; exact hx, fun l hl => by rw [I.list_inj hl hqy]; exact hy, fun l hl => by rw [I.list_inj hl hqz]; exact ht⟩, ⟨z'', ?_, ⟨u, u2, u3, ?_⟩, ?_, ?_, ?_⟩, fun c hcm => ?_⟩
    · exact (sb.2 _ D.tiz).trans (hk _ _ D.tiz D.tito D.tip1 D.tip2 D.tip3 hTI)
    · exact (sb.2 _ D.toz).trans TO'
    · exact h1'.at fun o q => (sb.2 _ D.p1z).trans q
    · exact h2'.at fun o q => (sb.2 _ D.p2z).trans q
    · exact h3'.at fun o q => (sb.2 _ D.p3z).trans q
    · have hlt : c < s.heap.objs.size := by
        have e' : c = z ∨ c = TI ∨ c = TO ∨ c = p1 ∨ c = p2 ∨ c = p3 := by simpa using hcm
        rcases e' with q | q | q | q | q | q
        · rw [q]; exact hzl
        · rw [q]; exact Heap.lt_size hTI
        · rw [q]; exact Heap.lt_size hTO
        · rw [q]; obtain ⟨_, e1, _⟩ := h1; exact Heap.lt_size e1
        · rw [q]; obtain ⟨_, e2, _⟩ := h2; exact Heap.lt_size e2
        · rw [q]; obtain ⟨_, e3, _⟩ := h3; exact Heap.lt_size e3
      rw [upd_ne (Nat.ne_of_lt hlt)]
      exact (hf c hcm).1
  done := by
    intro X hP hw hK hc i pins s σ H E I hf st hg
    subst hP hw hK
    obtain ⟨hz, hTI, _, h1, h2, h3⟩ := st
    obtain ⟨xs, hqx, hend⟩ := hg
    obtain ⟨its, rv, q1, _⟩ := I.list hqx
    have l1 := rv.length
    have he : its.toArray[i]? = none := by simp; omega
    exact Z3.pyNext_end (I.ok.hd hc) D.p1z D.m1z hz hTI h1 q1.isList he fun h' hk => ⟨rfl, I.turnedL (t' := s.toks) (ch := [z, TI, TO, p1, p2, p3]) (fun c o hb q =>
      hk c o (fun q' => hb (by simp [q'])) (fun q' => hb (by simp [q'])) q) hf⟩
  self := fun A i s Q E st h => wpAny_pyIter_zip st.1 h
theorem ap3 (I a b c : Nat) (h1 : a < I) (h2 : b < I) (h3 : c < I) : Z3.Ap (I + 5) (I + 3) (I + 4) I (I + 1) (I + 2) a b c := by
  constructor <;> (refine PySem.W.neN ?_; omega)
def iZip3 (K : PySem.W.Frag) (ta : TA) : TI := fun σ H R => ta σ H fun vs H1 => ∃ a b c xs ys zs, vs = [.ref a, .ref b, .ref c] ∧ SqL K H1 a xs ∧ SqL K H1 b ys ∧ SqL K H1 c zs ∧ R (Itz3 K a b c) H1
theorem pi_zip3 {X : Cx} {e e2 e3 : Expr} {ta : TA} {p pos tpos : Pos} {elts : List Expr} {kk : Nat} (hg : Gl X "zip") (hm : X.mg "zip" = none) (ha : PA X [e, e2, e3] ta)
    (hs : starEach [e, e2, e3] X.env = (false, eval e X.env) :: starEach [e2, e3] X.env := by rfl) (hpl : (backTo pos (starEach [e2, e3] X.env)).any (·.1) = false := by rfl) :
    PI X (.Tuple elts kk tpos) (.Call (.Name "zip" p) [e, e2, e3] [] pos) (iZip3 X.K ta) := by
  intro pins s σ H R I h
  refine Call_ (ld_blt I hg hm boot_zip5 (PyProof.Rows.callWith_type1 (thn (ha pos pins s σ H _ I h) fun us s1 ⟨vs, H1, I1, r1, q1⟩ => ?_) hs hpl))
  obtain ⟨a, b, c, xs, ys, zs, ex, hqx, hqy, hqz, q⟩ := q1
  subst ex
  cases r1 with
  | cons r rr =>
    cases rr with
    | cons r' rr =>
      cases rr with
      | cons r'' rr =>
      cases rr
      cases r
      cases r'
      cases r''
      obtain ⟨its, rv, q1, _⟩ := I1.list hqx
      obtain ⟨its2, rv2, q2, _⟩ := I1.list hqy
      obtain ⟨its3, rv3, q3, _⟩ := I1.list hqz
      have la : a < s1.heap.objs.size := q1.lt
      have lb : b < s1.heap.objs.size := q2.lt
      have lc : c < s1.heap.objs.size := q3.lt
      refine Z3.call3 q1.isList q2.isList q3.isList fun h' hz hTI hTO h1 h2 h3 hk => wpAny_pyIter_zip hz ?_
      have I2 : Inv X pins σ H1 { s1 with heap := h' } := I1.kept (t' := s1.toks) hk
      have D := ap3 s1.heap.objs.size a b c la lb lc
      refine ⟨s1.heap.objs.size + 5, [s1.heap.objs.size + 5, s1.heap.objs.size + 3, s1.heap.objs.size + 4, s1.heap.objs.size, s1.heap.objs.size + 1, s1.heap.objs.size + 2], _, _, H1, rfl, I2, turn_zip3 D, ⟨hz, hTI, ⟨_, _, _, hTO⟩, h1, h2, h3⟩, fun d hd => ?_, q⟩
      have e' : d = s1.heap.objs.size + 5 ∨ d = s1.heap.objs.size + 3 ∨ d = s1.heap.objs.size + 4 ∨ d = s1.heap.objs.size ∨ d = s1.heap.objs.size + 1 ∨ d = s1.heap.objs.size + 2 := by simpa using hd
      have hle : s1.heap.objs.size ≤ d := by
        rcases e' with z | z | z | z | z | z
        · rw [z]; exact Nat.le_add_right _ _
        · rw [z]; exact Nat.le_add_right _ _
        · rw [z]; exact Nat.le_add_right _ _
        · rw [z]; exact Nat.le_refl _
        · rw [z]; exact Nat.le_add_right _ _
        · rw [z]; exact Nat.le_add_right _ _
      exact I1.fpOk hle (I1.hok.fresh hle)
/-! ### a dict of the module's own, int keys: read alone -/
structure KDict (K : PySem.W.Frag) (a : Addr) (kvs : List (Int × V)) : Prop where
  nm : (a == sysModules) = false
  nd : (kvs.map (·.1)).Nodup
  ex : ∃ (o : Obj) (es : Array DictEntry) (ep : Nat), K.lookup a = some o ∧ o.ExactDict ∧ o.data = .dict es ep ∧ Paired (fun (e : DictEntry) (kv : Int × V) => (∃ t, e.key = .int kv.1 t) ∧ e.hash = hashInt kv.1 ∧ RelV kv.2 e.val) es.toList kvs
theorem kd_pairs {P : Program} {w : World} : ∀ {es : List DictEntry} {kvs : List (Int × V)}, Paired (fun (e : DictEntry) (kv : Int × V) => (∃ t, e.key = .int kv.1 t) ∧ e.hash = hashInt kv.1 ∧ RelV kv.2 e.val) es kvs →
    ∃ vs : List (Key × Value), Pairs (mixKind P w) es vs ∧ KV (kvs.map fun p => ((Sum.inl p.1 : Key), p.2)) vs ∧ vs.map (·.1) = kvs.map (fun p => (Sum.inl p.1 : Key)) ∧ ∀ e ∈ es, ∃ k, (mixKind P w).is k e.key = true ∧ e.hash = (mixKind P w).hash k
  | _, _, .nil => ⟨[], .nil, .nil, rfl, fun _ h => by cases h⟩
  | e :: es, kv :: kvs, .cons ⟨⟨t, h1⟩, h2, h3⟩ r => by
    obtain ⟨vs, a, b, c, d⟩ := kd_pairs (P := P) (w := w) r
    have ik : (mixKind P w).is (Sum.inl kv.1) e.key = true := by rw [h1]; exact mixKind_int P w kv.1 t
    refine ⟨(Sum.inl kv.1, e.val) :: vs, .cons ik rfl a, .cons ⟨rfl, h3⟩ b, by rw [List.map_cons, List.map_cons, c], fun e' he => ?_⟩
    rcases List.mem_cons.mp he with rfl | he
    · exact ⟨_, ik, h2⟩
    · exact d e' he
theorem nodup_inl : ∀ {l : List Int}, l.Nodup → (l.map fun i => (Sum.inl i : Key)).Nodup
  | [], _ => List.nodup_nil
  | a :: l, h => by
    obtain ⟨h1, h2⟩ := List.nodup_cons.mp h
    rw [List.map_cons]
    refine List.nodup_cons.mpr ⟨fun m => ?_, nodup_inl h2⟩
    obtain ⟨b, hb, e⟩ := List.mem_map.mp m
    cases e
    exact h1 hb
theorem KDict.dict {X : Cx} {pins : List (Addr × Obj)} {σ : St} {H : Hp} {s : Shared} {a : Addr} {kvs : List (Int × V)} (d : KDict X.K a kvs) (I : Inv X pins σ H s) :
    ∃ vs : List (Key × Value), KV (kvs.map fun p => ((Sum.inl p.1 : Key), p.2)) vs ∧ s.heap.DictOf (mixKind X.prog X.w) a vs := by
  obtain ⟨o, es, ep, hk, hx, hd, hp⟩ := d.ex
  obtain ⟨vs, p1, p2, p3, p4⟩ := kd_pairs (P := X.prog) (w := X.w) hp
  refine ⟨vs, p2, o, es, ep, I.kIn a o hk, hx, hd, fun e he => p4 e (by simpa using he), p1, ?_⟩
  rw [p3]
  have := nodup_inl d.nd
  rw [List.map_map] at this
  exact this
def kval (kvs : List (Int × V)) (i : Int) : Option V := valV (kvs.map fun p => ((Sum.inl p.1 : Key), p.2)) (Sum.inl i)
/-- d[i], d a dict of the module -/
def tKGet (K : PySem.W.Frag) (td ty : TE) : TE := fun σ H Q => td σ H fun x H1 => ty σ H1 fun y H2 => ∃ a kvs i v, x = .ref a ∧ y = .int i ∧ KDict K a kvs ∧ kval kvs i = some v ∧ Q v H2
/-- d.get(i) -/
def tKGet1 (K : PySem.W.Frag) (td ty : TE) : TE := fun σ H Q => td σ H fun x H1 => ∃ a kvs, x = .ref a ∧ KDict K a kvs ∧ ty σ H1 fun y H2 => ∃ i, y = .int i ∧ Q ((kval kvs i).getD .non) H2
section
variable {X : Cx} {o i e : Expr} {td ty : TE} {pos apos cpos : Pos}
theorem pe_kget (ho : PE X o td) (hi : PE X i ty) (hs : NoSl i) : PE X (.Subscript o i pos) (tKGet X.K td ty) := by
  intro pins s σ H Q I h
  refine subD_of PySem.F.slot_dict_getitem.lookup hs (thn (ho pins s σ H _ I h) fun u s1 ⟨x, H1, I1, rx, q1⟩ => thn (hi pins s1 σ H1 _ I1 q1) fun iv s2 ⟨y, H2, I2, ry, a, kvs, n, v, ex, ey, d, g, q2⟩ => ?_)
  subst ex; subst ey
  obtain rfl : u = Value.ref a := rx
  obtain ⟨vs, rel, dd⟩ := d.dict I2
  refine ⟨dd.typeIs, ?_⟩
  obtain ⟨w', hw, rw'⟩ := RelO.some_of (v := v) (o := valueAt vs (Sum.inl n)) (by rw [← g]; exact rel.val (Sum.inl n))
  exact wpAny_getItem_of (kV_is (k := Sum.inl n) ry) dd.mapOf hw ⟨v, H2, I2.tok _, rw', q2⟩
theorem pe_kget1 (ho : PE X o td) (he : PE X e ty) (m : M1 X o "get" apos e cpos) : PE X (.Call (.Attribute o "get" apos) [e] [] cpos) (tKGet1 X.K td ty) := by
  intro pins s σ H Q I h
  refine wpAny_Call_method m.base m.few m.line PySem.F.plainAttrs_dict PySem.F.slot_dict_get PySem.F.type_dict_get (thn (ho pins s σ H _ I h) fun u s1 ⟨x, H1, I1, rx, a, kvs, ex, d, q1⟩ => ?_)
  subst ex
  obtain rfl : u = Value.ref a := rx
  obtain ⟨vs, rel, dd⟩ := d.dict I1
  refine ⟨dd.typeIs, dd.mapOf.noDict, ?_⟩
  rw [m.trees]
  refine Calls.callWith_builtin rfl (Calls.evalArgs_plain (Calls.spliced_cons (thn (he pins s1 σ H1 _ I1 q1) fun iv s2 ⟨y, H2, I2, ry, n, ey, q2⟩ => Calls.spliced_nil ?_)))
  subst ey
  obtain ⟨vs2, rel2, dd2⟩ := d.dict I2
  refine call_meetsIn PySem.F.slot_dict_get dd2.typeIs PySem.F.entry_dict_get (PySem.F.args_dict_get_2 _ _) (meets_dict_get (mixKind X.prog X.w) a (kV_is (k := Sum.inl n) ry) d.nm) ⟨_, dd2.mapOf, ⟨_, H2, I2.tok _, ?_, q2⟩⟩
  exact (rel2.val (Sum.inl n)).getD rfl
end
/-! ### a comprehension, by a word of the turn -/
/-- the look at a block's names, decided -/
def blkB (N : List Str) (sc scope : Scope) (own : List (Str × Nat)) : Bool :=
  decide (scope.kind = .function) && scope.names.all (fun y => decide (scope.names.lookup y.1 = some y.2)) && own.all (fun p => decide (N[p.2]? = some p.1)) &&
  scope.names.all (fun y => decide (y.2 = .free → sc.names.lookup y.1 = some .cell ∨ sc.names.lookup y.1 = some .free)) && scope.names.all (fun y => decide ((y.2 = .local ∨ y.2 = .cell) → y.1 ∈ own.map (·.1) ∨ y.1 ∉ N))
theorem blk_of {N : List Str} {sc scope : Scope} {own : List (Str × Nat)} (h : blkB N sc scope own = true) : BlkOk N sc scope own := by
  unfold blkB at h
  simp only [Bool.and_eq_true, List.all_eq_true, decide_eq_true_eq] at h
  obtain ⟨⟨⟨⟨a, b⟩, c⟩, d⟩, e⟩ := h
  exact ⟨a, b, c, d, e⟩
/-- rules within a block: the written part by its name -/
theorem ix_tupK {X : Cx} {K : PySem.W.Frag} (h : X.K = K) : IxR X (rIxT K) := by subst h; exact ix_tup
theorem ix_listK {X : Cx} {K : PySem.W.Frag} (h : X.K = K) : IxR X (rIxL K) := by subst h; exact ix_list
theorem pe_fldK {X : Cx} {K : PySem.W.Frag} {e : Expr} {ta : TE} {f : Str} {pos : Pos} (h : X.K = K) (he : PE X e ta) (hb : attributeBase e f X.env (eval e X.env) = eval e X.env) : PE X (.Attribute e f pos) (tFld K ta f) := by subst h; exact pe_fld he hb
theorem pg_tupK {X : Cx} {K : PySem.W.Frag} {es : List Expr} {k : Nat} {t : TGs} {n : Nat} {pos : Pos} (hK : X.K = K) (hc : X.calm = true) (h : PGs X es t)
    (hn : (assignEach es X.env).length = n := by rfl) (hst : (assignEach es X.env).findIdx? (·.1) = none := by rfl) : PG X (.Tuple es k pos) (gTup K n t) := by subst hK; exact pg_tup hc h hn hst
def LcGoal (J : It) (g : TG) (tt : TT) (te : TE) (vs : List Nat) (σ : St) (Q : VK) (H1 : Hp) (D : Addr) : Prop :=
  ∃ W : Nat → Nat → Hp → Prop, (∃ m, W 0 m (upd H1 D (.lst []))) ∧ ∀ i m H, W i m H →
    (J.stop i H ∧ Q (.ref D) H) ∨ (J.go i H ∧ ∃ Nx : Hp → Prop, (∀ H', Nx H' → ∃ m', m' < m ∧ W (i + 1) m' H') ∧ ∀ x H', J.yld i H x H' → g x (wipe σ vs) H' fun σ2 H2 => wipe σ2 vs = wipe σ vs ∧ tt σ2 H2 fun b H3 =>
      if b = true then te σ2 H3 fun y H4 => ∃ acc, H4 D = some (.lst acc) ∧ acc.length < sizeLine ∧ Nx (upd H4 D (.lst (acc ++ [y]))) else Nx H3)
theorem lc_by {J : It} {g : TG} {tt : TT} {te : TE} {vs : List Nat} {σ : St} {Q : VK} {H1 : Hp} {D : Addr} (n : Nat) (Pv : Nat → Hp → Prop) (h0 : Pv 0 (upd H1 D (.lst [])))
    (go : ∀ i H, i < n → Pv i H → J.go i H) (stop : ∀ H, Pv n H → J.stop n H ∧ Q (.ref D) H)
    (hs : ∀ i H x H', i < n → Pv i H → J.yld i H x H' → g x (wipe σ vs) H' fun σ2 H2 => wipe σ2 vs = wipe σ vs ∧ tt σ2 H2 fun b H3 =>
      if b = true then te σ2 H3 fun y H4 => ∃ acc, H4 D = some (.lst acc) ∧ acc.length < sizeLine ∧ Pv (i + 1) (upd H4 D (.lst (acc ++ [y]))) else Pv (i + 1) H3) :
    LcGoal J g tt te vs σ Q H1 D := by
  refine ⟨fun i m H => m = n - i ∧ i ≤ n ∧ Pv i H, ⟨n, by simp, Nat.zero_le _, h0⟩, ?_⟩
  rintro i m H ⟨rfl, hi, p⟩
  by_cases hlt : i < n
  · exact .inr ⟨go i H hlt p, Pv (i + 1), fun H' p' => ⟨n - (i + 1), by omega, rfl, hlt, p'⟩, fun x H' y => hs i H x H' hlt p y⟩
  · have e : i = n := by omega
    subst e
    exact .inl (stop H p)
/-! ### what stays: all but lists and instances -/
def Tk (H H' : Hp) : Prop := (∀ b xs, H b = some (.tup xs) → H' b = some (.tup xs)) ∧ ∀ b o u, H b = some (.frz o u) → H' b = some (.frz o u)
theorem Tk.refl (H : Hp) : Tk H H := ⟨fun _ _ h => h, fun _ _ _ h => h⟩
theorem Tk.trans {H H1 H2 : Hp} (a : Tk H H1) (b : Tk H1 H2) : Tk H H2 := ⟨fun c xs h => b.1 c xs (a.1 c xs h), fun c o u h => b.2 c o u (a.2 c o u h)⟩
theorem Same.tk {H H' : Hp} (a : Same H H') : Tk H H' := ⟨fun b xs h => a b _ h, fun b o u h => a b _ h⟩
theorem Tk.sqT {K : PySem.W.Frag} {H H' : Hp} {a : Addr} {xs : List V} (e : Tk H H') (h : SqT K H a xs) : SqT K H' a xs := by
  rcases h with (h | ⟨o, h⟩) | h
  · exact .inl (.inl (e.1 _ _ h))
  · exact .inl (.inr ⟨o, e.2 _ _ _ h⟩)
  · exact .inr h
theorem tk_upd {H : Hp} {a : Addr} {o : HO} (h : ∀ u, H a = some u → (∃ xs, u = .lst xs) ∨ ∃ C dx fs, u = .ins C dx fs) : Tk H (upd H a o) := by
  constructor
  · intro b xs e
    rw [upd_ne]
    · exact e
    · rintro rfl
      rcases h _ e with ⟨ys, q⟩ | ⟨C, dx, fs, q⟩ <;> cases q
  · intro b ob u e
    rw [upd_ne]
    · exact e
    · rintro rfl
      rcases h _ e with ⟨ys, q⟩ | ⟨C, dx, fs, q⟩ <;> cases q
theorem tk_none {H : Hp} {a : Addr} {o : HO} (h : H a = none) : Tk H (upd H a o) := tk_upd fun u e => by rw [h] at e; cases e
theorem tk_lst {H : Hp} {a : Addr} {o : HO} {xs : List V} (h : H a = some (.lst xs)) : Tk H (upd H a o) := tk_upd fun u e => by rw [h] at e; cases e; exact .inl ⟨_, rfl⟩
theorem tk_ins {H : Hp} {a : Addr} {o : HO} {C dx : Addr} {fs : List (Str × V)} (h : H a = some (.ins C dx fs)) : Tk H (upd H a o) := tk_upd fun u e => by rw [h] at e; cases e; exact .inr ⟨_, _, _, rfl⟩
theorem same_none {H : Hp} {a : Addr} {o : HO} (h : H a = none) : Same H (upd H a o) := fun b u e => by
  rw [upd_ne (ne_of_none e h)]; exact e
/-- a list new since H: a store there leaves H's own things -/
theorem Same.store {H H' : Hp} {a : Addr} {o : HO} (s : Same H H') (h : H a = none) : Same H (upd H' a o) := fun b u e => by
  rw [upd_ne (ne_of_none e h)]; exact s b u e
end L2

end

section
set_option Elab.async false
set_option linter.all false
set_option maxRecDepth 100000
namespace Fq
open PySem PySem.Spec PyProof.Rows L2
open Sg24 (Num)
/-! the text by places -/
def top (i : Nat) : Stmt := PySem.Challenge.pw_fewqubits_s01_answers.main.body.getD i (.Pass ⟨0, 0, 0, 0⟩)
abbrev sWords : Stmt := top 7
abbrev sDigit : Stmt := top 8
abbrev sTold : Stmt := top 9
abbrev sAdded : Stmt := top 13
abbrev sSubbed : Stmt := top 14
abbrev sTurned : Stmt := top 15
abbrev sTimes : Stmt := top 16
abbrev sOver : Stmt := top 17
abbrev sHold : Stmt := top 18
abbrev sSizes : Stmt := top 19
abbrev sBelow : Stmt := top 20
/-! numbers as tuples -/
def NT (u : Num) : List V := [.int u.a, .int u.b, .int u.c, .int u.d]
abbrev Tups (K : PySem.W.Frag) (H : Hp) : List Addr → List Num → Prop := Paired fun r u => SqT K H r (NT u)
def NumsAt (K : PySem.W.Frag) (H : Hp) (a : Addr) (us : List Num) : Prop := ∃ rs : List Addr, H a = some (.lst (rs.map V.ref)) ∧ Tups K H rs us
theorem Tups.tk {K : PySem.W.Frag} {H H' : Hp} {rs : List Addr} {us : List Num} (t : Tups K H rs us) (k : Tk H H') : Tups K H' rs us := Paired.mapP t fun _ _ h => k.sqT h
theorem Tups.get {K : PySem.W.Frag} {H : Hp} : ∀ {rs : List Addr} {us : List Num} {i : Nat} {u : Num}, Tups K H rs us → us[i]? = some u → ∃ r, rs[i]? = some r ∧ SqT K H r (NT u)
  | _, _, _, _, .nil, e => by simp at e
  | r :: _, _ :: _, 0, _, .cons h _, e => by simp at e; subst e; exact ⟨r, rfl, h⟩
  | _ :: _, _ :: _, i + 1, u, .cons _ t, e => by
    obtain ⟨r, h1, h2⟩ := Tups.get (i := i) (u := u) t (by simpa using e)
    exact ⟨r, by simpa using h1, h2⟩
theorem Tups.snoc {K : PySem.W.Frag} {H : Hp} {r : Addr} {u : Num} (h : SqT K H r (NT u)) : ∀ {rs : List Addr} {us : List Num}, Tups K H rs us → Tups K H (rs ++ [r]) (us ++ [u])
  | _, _, .nil => .cons h .nil
  | _, _, .cons a t => .cons a (Tups.snoc h t)
theorem Tups.set {K : PySem.W.Frag} {H : Hp} {r : Addr} {u : Num} (h : SqT K H r (NT u)) : ∀ {rs : List Addr} {us : List Num} (i : Nat), Tups K H rs us → Tups K H (rs.set i r) (us.set i u)
  | _, _, _, .nil => .nil
  | _, _, 0, .cons _ t => .cons h t
  | _, _, i + 1, .cons a t => .cons a (Tups.set h i t)
theorem NumsAt.same {K : PySem.W.Frag} {H H' : Hp} {a : Addr} {us : List Num} (h : NumsAt K H a us) (s : Same H H') : NumsAt K H' a us := by
  obtain ⟨rs, h1, h2⟩ := h
  exact ⟨rs, s _ _ h1, Tups.tk h2 s.tk⟩
theorem take_snoc' {α : Type} {l : List α} {i : Nat} {x : α} (h : l[i]? = some x) : l.take (i + 1) = l.take i ++ [x] := by
  rw [List.take_add_one, h]; rfl
/-! comprehensions over numbers -/
theorem lc_nums {K : PySem.W.Frag} {g : TG} {te : TE} {vs : List Nat} {σ : L2.St} {Q : VK} {H : Hp} {a : Addr} {us : List Num} (φ : Num → Num) (h : NumsAt K H a us) (hz : us.length ≤ 1024)
    (he : ∀ (u : Num) (r : Addr) (H' : Hp) (R : VK) (Z : Hp → Prop), SqT K H' r (NT u) → (∀ p, H' p = none → R (.ref p) (upd H' p (.tup (NT (φ u))))) →
      g (.ref r) (wipe σ vs) H' fun σ2 H2 => wipe σ2 vs = wipe σ vs ∧ tYes σ2 H2 fun b H3 => if b = true then te σ2 H3 R else Z H3)
    (k : ∀ (H' : Hp) (p : Addr), Same H H' → H p = none → NumsAt K H' p (us.map φ) → Q (.ref p) H') (D : Addr) (hD : H D = none) : LcGoal (Itl K a) g tYes te vs σ Q H D := by
  obtain ⟨rs0, ha, t0⟩ := h
  have ln : rs0.length = us.length := Paired.length t0
  refine lc_by us.length (fun i H' => ∃ rs : List Addr, H' D = some (.lst (rs.map V.ref)) ∧ Tups K H' rs ((us.take i).map φ) ∧ Same H H') ⟨[], upd_same, .nil, same_none hD⟩ ?_ ?_ ?_
  · rintro i H' hi ⟨rs, _, _, sm⟩
    obtain ⟨r, hr, _⟩ := Tups.get t0 (List.getElem?_eq_getElem hi)
    exact ⟨_, _, SqL.of (sm _ _ ha), by rw [List.getElem?_map, hr]; rfl⟩
  · rintro H' ⟨rs, h1, h2, sm⟩
    refine ⟨⟨_, SqL.of (sm _ _ ha), by rw [List.length_map]; omega⟩, k H' D sm hD ⟨rs, h1, ?_⟩⟩
    rwa [List.take_length] at h2
  · rintro i H1 x H' hi ⟨rs, h1, h2, sm⟩ ⟨rfl, hy⟩
    obtain ⟨r, hr, ht⟩ := Tups.get t0 (List.getElem?_eq_getElem hi)
    have ex : x = .ref r := by
      have := hy _ (SqL.of (sm _ _ ha))
      rw [List.getElem?_map, hr] at this
      exact (Option.some.inj this).symm
    subst ex
    refine he us[i] r H' _ _ (sm.tk.sqT ht) fun p hp => ?_
    have pD : D ≠ p := fun e => by subst e; rw [h1] at hp; cases hp
    have hD4 : (upd H' p (.tup (NT (φ us[i])))) D = some (.lst (rs.map V.ref)) := by rw [upd_ne pD]; exact h1
    have lr : rs.length = i := by
      have := Paired.length h2
      rw [List.length_map, List.length_take] at this
      omega
    refine ⟨_, hD4, by rw [List.length_map, lr]; exact Nat.lt_of_lt_of_le hi (Nat.le_trans hz (by decide)), rs ++ [p], by rw [upd_same, List.map_append]; rfl, ?_, Same.store (sm.trans (same_none hp)) hD⟩
    rw [take_snoc' (List.getElem?_eq_getElem hi), List.map_append]
    refine Tups.snoc ?_ (Tups.tk h2 ((tk_none hp).trans (tk_lst hD4)))
    exact (tk_lst hD4).sqT (SqT.of upd_same)
theorem lc_zip {K : PySem.W.Frag} {g : TG} {te : TE} {vs : List Nat} {σ : L2.St} {Q : VK} {H : Hp} {a b : Addr} {us ws : List Num} (φ : Num → Num → Num) (h : NumsAt K H a us) (h' : NumsAt K H b ws) (hl : us.length = ws.length) (hz : us.length ≤ 1024)
    (he : ∀ (u w : Num) (r r2 T : Addr) (H' : Hp) (R : VK) (Z : Hp → Prop), SqT K H' r (NT u) → SqT K H' r2 (NT w) → SqT K H' T [.ref r, .ref r2] → (∀ p, H' p = none → R (.ref p) (upd H' p (.tup (NT (φ u w))))) →
      g (.ref T) (wipe σ vs) H' fun σ2 H2 => wipe σ2 vs = wipe σ vs ∧ tYes σ2 H2 fun b H3 => if b = true then te σ2 H3 R else Z H3)
    (k : ∀ (H' : Hp) (p : Addr), Same H H' → H p = none → NumsAt K H' p (List.zipWith φ us ws) → Q (.ref p) H') (D : Addr) (hD : H D = none) : LcGoal (Itz K a b) g tYes te vs σ Q H D := by
  obtain ⟨rs0, ha, t0⟩ := h
  obtain ⟨qs0, hb, t1⟩ := h'
  have ln : rs0.length = us.length := Paired.length t0
  have ln2 : qs0.length = ws.length := Paired.length t1
  have lz : (List.zipWith φ us ws).length = us.length := by rw [List.length_zipWith]; omega
  refine lc_by us.length (fun i H' => ∃ rs : List Addr, H' D = some (.lst (rs.map V.ref)) ∧ Tups K H' rs ((List.zipWith φ us ws).take i) ∧ Same H H') ⟨[], upd_same, .nil, same_none hD⟩ ?_ ?_ ?_
  · rintro i H' hi ⟨rs, _, _, sm⟩
    obtain ⟨r, hr, _⟩ := Tups.get t0 (List.getElem?_eq_getElem hi)
    obtain ⟨q, hq, _⟩ := Tups.get t1 (List.getElem?_eq_getElem (hl ▸ hi))
    exact ⟨_, _, _, _, SqL.of (sm _ _ ha), SqL.of (sm _ _ hb), by rw [List.getElem?_map, hr]; rfl, by rw [List.getElem?_map, hq]; rfl⟩
  · rintro H' ⟨rs, h1, h2, sm⟩
    refine ⟨⟨_, _, SqL.of (sm _ _ ha), SqL.of (sm _ _ hb), .inl (by rw [List.length_map]; omega)⟩, k H' D sm hD ⟨rs, h1, ?_⟩⟩
    rwa [← lz, List.take_length] at h2
  · rintro i H1 x H' hi ⟨rs, h1, h2, sm⟩ ⟨T, x1, x2, rfl, hT, rfl, y1, y2⟩
    obtain ⟨r, hr, ht⟩ := Tups.get t0 (List.getElem?_eq_getElem hi)
    obtain ⟨q, hq, hu⟩ := Tups.get t1 (List.getElem?_eq_getElem (hl ▸ hi))
    have e1 : x1 = .ref r := by
      have := y1 _ (SqL.of (sm _ _ ha))
      rw [List.getElem?_map, hr] at this
      exact (Option.some.inj this).symm
    have e2 : x2 = .ref q := by
      have := y2 _ (SqL.of (sm _ _ hb))
      rw [List.getElem?_map, hq] at this
      exact (Option.some.inj this).symm
    subst e1; subst e2
    have smT : Same H (upd H1 T (.tup [.ref r, .ref q])) := sm.trans (same_none hT)
    have TD : D ≠ T := fun e => by subst e; rw [h1] at hT; cases hT
    refine he us[i] (ws[i]'(hl ▸ hi)) r q T _ _ _ (smT.tk.sqT ht) (smT.tk.sqT hu) (SqT.of upd_same) fun p hp => ?_
    have h1' : (upd H1 T (.tup [.ref r, .ref q])) D = some (.lst (rs.map V.ref)) := by rw [upd_ne TD]; exact h1
    have pD : D ≠ p := fun e => by subst e; rw [h1'] at hp; cases hp
    have hD4 : (upd (upd H1 T (.tup [.ref r, .ref q])) p (.tup (NT (φ us[i] (ws[i]'(hl ▸ hi)))))) D = some (.lst (rs.map V.ref)) := by rw [upd_ne pD]; exact h1'
    have lr : rs.length = i := by
      have := Paired.length h2
      rw [List.length_take] at this
      omega
    refine ⟨_, hD4, by rw [List.length_map, lr]; exact Nat.lt_of_lt_of_le hi (Nat.le_trans hz (by decide)), rs ++ [p], by rw [upd_same, List.map_append]; rfl, ?_, Same.store (smT.trans (same_none hp)) hD⟩
    have eg : (List.zipWith φ us ws)[i]? = some (φ us[i] (ws[i]'(hl ▸ hi))) := by
      rw [List.getElem?_zipWith, List.getElem?_eq_getElem hi, List.getElem?_eq_getElem (hl ▸ hi)]
    rw [take_snoc' eg]
    refine Tups.snoc ?_ (Tups.tk h2 (((tk_none hT).trans (tk_none hp)).trans (tk_lst hD4)))
    exact (tk_lst hD4).sqT (SqT.of upd_same)
/-! ### the promises of exact.py -/
def spZip (K : PySem.W.Frag) (φ : Num → Num → Num) : Sp := fun vs H Q _ => ∃ (a b : Addr) (us ws : List Num), vs = [.ref a, .ref b] ∧ NumsAt K H a us ∧ NumsAt K H b ws ∧ us.length = ws.length ∧ us.length ≤ 1024 ∧
  ∀ (H' : Hp) (p : Addr), Same H H' → H p = none → NumsAt K H' p (List.zipWith φ us ws) → Q (.ref p) H'
def spMap (K : PySem.W.Frag) (φ : Num → Num) : Sp := fun vs H Q _ => ∃ (a : Addr) (us : List Num), vs = [.ref a] ∧ NumsAt K H a us ∧ us.length ≤ 1024 ∧
  ∀ (H' : Hp) (p : Addr), Same H H' → H p = none → NumsAt K H' p (us.map φ) → Q (.ref p) H'
section
variable {P : Program} {w : World} {K : PySem.W.Frag} {mg : Str → Option Value} {base : Heap}
theorem scAdded : FnScope ["xs", "ys", "x", "y"] ["xs", "ys"] (defScope sAdded) := ⟨rfl, rfl, rfl, by decide +kernel, rfl, by decide +kernel, by decide +kernel⟩
theorem ok_added {f : Addr} {fd : FuncData} (F : Fun K "added" "added" sAdded f fd) (zp : mg "zip" = none) : FnOk P w K mg base CX0 1 f fd ["xs", "ys"] (spZip K Sg24.add) := by
  refine F.ok scAdded (fun vs H Q E h => ?_) (fun cdv A outer s H vs Q E hr h => ?_)
  · obtain ⟨a, b, us, ws, rfl, _⟩ := h
    rfl
  · obtain ⟨a, b, us, ws, rfl, ha, hb, hl, hz, k⟩ := h
    refine ⟨_, pss_one (ps_ret (pe_lc (own := [("x", 2), ("y", 3)]) rfl scAdded.nd (pi_zip rfl zp (pa_cons (pv 0) (pa_cons (pv 1) pa_nil)))
      (blk_of (N := ["xs", "ys", "x", "y"]) (sc := defScope sAdded) (by decide +kernel))
      (fun _ _ _ _ _ => pg_tupK (K := K) (n := 2) rfl rfl (pgs_cons (pg_name (i := 2) scAdded.nd rfl (Or.inl rfl) (Or.inr rfl)) (pgs_cons (pg_name (i := 3) scAdded.nd rfl (Or.inl rfl) (Or.inr rfl)) pgs_nil)))
      (fun _ _ _ _ _ => pts_nil)
      (fun _ _ _ _ _ => pe_tup (pa_cons (pe_op op_add (pe_ix (ix_tupK (K := K) rfl) (pv 2) pe_int (fun _ _ => rfl)) (pe_ix (ix_tupK (K := K) rfl) (pv 3) pe_int (fun _ _ => rfl)))
        (pa_cons (pe_op op_add (pe_ix (ix_tupK (K := K) rfl) (pv 2) pe_int (fun _ _ => rfl)) (pe_ix (ix_tupK (K := K) rfl) (pv 3) pe_int (fun _ _ => rfl)))
        (pa_cons (pe_op op_add (pe_ix (ix_tupK (K := K) rfl) (pv 2) pe_int (fun _ _ => rfl)) (pe_ix (ix_tupK (K := K) rfl) (pv 3) pe_int (fun _ _ => rfl)))
        (pa_cons (pe_op op_add (pe_ix (ix_tupK (K := K) rfl) (pv 2) pe_int (fun _ _ => rfl)) (pe_ix (ix_tupK (K := K) rfl) (pv 3) pe_int (fun _ _ => rfl))) pa_nil))))))), ?_⟩
    obtain ⟨rs0, ha0, t0⟩ := id ha
    obtain ⟨qs0, hb0, t1⟩ := id hb
    refine ⟨_, rfl, _, rfl, a, b, _, _, rfl, SqL.of ha0, SqL.of hb0, ?_⟩
    refine lc_zip (us := us) (ws := ws) Sg24.add ha hb hl hz (fun u w r r2 T H' R Z h1 h2 hT kk => ?_) k
    refine ⟨T, _, rfl, hT, rfl, _, _, rfl, _, _, rfl, rfl, rfl, ?_⟩
    refine ⟨_, rfl, r, _, _, _, rfl, rfl, h1, rfl, _, rfl, r2, _, _, _, rfl, rfl, h2, rfl, _, _, rfl, rfl, ?_⟩
    refine ⟨_, rfl, r, _, _, _, rfl, rfl, h1, rfl, _, rfl, r2, _, _, _, rfl, rfl, h2, rfl, _, _, rfl, rfl, ?_⟩
    refine ⟨_, rfl, r, _, _, _, rfl, rfl, h1, rfl, _, rfl, r2, _, _, _, rfl, rfl, h2, rfl, _, _, rfl, rfl, ?_⟩
    refine ⟨_, rfl, r, _, _, _, rfl, rfl, h1, rfl, _, rfl, r2, _, _, _, rfl, rfl, h2, rfl, _, _, rfl, rfl, ?_⟩
    exact ⟨(by show 4 ≤ sizeLine; decide), fun p hp => kk p hp⟩
theorem scSubbed : FnScope ["xs", "ys", "x", "y"] ["xs", "ys"] (defScope sSubbed) := ⟨rfl, rfl, rfl, by decide +kernel, rfl, by decide +kernel, by decide +kernel⟩
theorem ok_subbed {f : Addr} {fd : FuncData} (F : Fun K "subtracted" "subtracted" sSubbed f fd) (zp : mg "zip" = none) : FnOk P w K mg base CX0 1 f fd ["xs", "ys"] (spZip K Sg24.sub) := by
  refine F.ok scSubbed (fun vs H Q E h => ?_) (fun cdv A outer s H vs Q E hr h => ?_)
  · obtain ⟨a, b, us, ws, rfl, _⟩ := h
    rfl
  · obtain ⟨a, b, us, ws, rfl, ha, hb, hl, hz, k⟩ := h
    refine ⟨_, pss_one (ps_ret (pe_lc (own := [("x", 2), ("y", 3)]) rfl scSubbed.nd (pi_zip rfl zp (pa_cons (pv 0) (pa_cons (pv 1) pa_nil)))
      (blk_of (N := ["xs", "ys", "x", "y"]) (sc := defScope sSubbed) (by decide +kernel))
      (fun _ _ _ _ _ => pg_tupK (K := K) (n := 2) rfl rfl (pgs_cons (pg_name (i := 2) scSubbed.nd rfl (Or.inl rfl) (Or.inr rfl)) (pgs_cons (pg_name (i := 3) scSubbed.nd rfl (Or.inl rfl) (Or.inr rfl)) pgs_nil)))
      (fun _ _ _ _ _ => pts_nil)
      (fun _ _ _ _ _ => pe_tup (pa_cons (pe_op op_sub (pe_ix (ix_tupK (K := K) rfl) (pv 2) pe_int (fun _ _ => rfl)) (pe_ix (ix_tupK (K := K) rfl) (pv 3) pe_int (fun _ _ => rfl)))
        (pa_cons (pe_op op_sub (pe_ix (ix_tupK (K := K) rfl) (pv 2) pe_int (fun _ _ => rfl)) (pe_ix (ix_tupK (K := K) rfl) (pv 3) pe_int (fun _ _ => rfl)))
        (pa_cons (pe_op op_sub (pe_ix (ix_tupK (K := K) rfl) (pv 2) pe_int (fun _ _ => rfl)) (pe_ix (ix_tupK (K := K) rfl) (pv 3) pe_int (fun _ _ => rfl)))
        (pa_cons (pe_op op_sub (pe_ix (ix_tupK (K := K) rfl) (pv 2) pe_int (fun _ _ => rfl)) (pe_ix (ix_tupK (K := K) rfl) (pv 3) pe_int (fun _ _ => rfl))) pa_nil))))))), ?_⟩
    obtain ⟨rs0, ha0, t0⟩ := id ha
    obtain ⟨qs0, hb0, t1⟩ := id hb
    refine ⟨_, rfl, _, rfl, a, b, _, _, rfl, SqL.of ha0, SqL.of hb0, ?_⟩
    refine lc_zip (us := us) (ws := ws) Sg24.sub ha hb hl hz (fun u w r r2 T H' R Z h1 h2 hT kk => ?_) k
    refine ⟨T, _, rfl, hT, rfl, _, _, rfl, _, _, rfl, rfl, rfl, ?_⟩
    refine ⟨_, rfl, r, _, _, _, rfl, rfl, h1, rfl, _, rfl, r2, _, _, _, rfl, rfl, h2, rfl, _, _, rfl, rfl, ?_⟩
    refine ⟨_, rfl, r, _, _, _, rfl, rfl, h1, rfl, _, rfl, r2, _, _, _, rfl, rfl, h2, rfl, _, _, rfl, rfl, ?_⟩
    refine ⟨_, rfl, r, _, _, _, rfl, rfl, h1, rfl, _, rfl, r2, _, _, _, rfl, rfl, h2, rfl, _, _, rfl, rfl, ?_⟩
    refine ⟨_, rfl, r, _, _, _, rfl, rfl, h1, rfl, _, rfl, r2, _, _, _, rfl, rfl, h2, rfl, _, _, rfl, rfl, ?_⟩
    exact ⟨(by show 4 ≤ sizeLine; decide), fun p hp => kk p hp⟩
end
end Fq

end

section
set_option Elab.async false
set_option linter.all false
set_option maxRecDepth 100000
namespace Fq
open PySem PySem.Spec PyProof.Rows L2
open Sg24 (Num)
/-! times_root, over_root, turned, all_hold_root -/
section
variable {P : Program} {w : World} {K : PySem.W.Frag} {mg : Str → Option Value} {base : Heap}
theorem scTimes : FnScope ["numbers", "a", "b", "c", "d"] ["numbers"] (defScope sTimes) := ⟨rfl, rfl, rfl, by decide +kernel, rfl, by decide +kernel, by decide +kernel⟩
theorem ok_times {f : Addr} {fd : FuncData} (F : Fun K "times_root" "times_root" sTimes f fd) : FnOk P w K mg base CX0 1 f fd ["numbers"] (spMap K Sg24.root) := by
  refine F.ok scTimes (fun vs H Q E h => ?_) (fun cdv A outer s H vs Q E hr h => ?_)
  · obtain ⟨a, us, rfl, _⟩ := h
    rfl
  · obtain ⟨a, us, rfl, ha, hz, k⟩ := h
    refine ⟨_, pss_one (ps_ret (pe_lc (own := [("a", 1), ("b", 2), ("c", 3), ("d", 4)]) rfl scTimes.nd (pi_list (pv 0))
      (blk_of (N := ["numbers", "a", "b", "c", "d"]) (sc := defScope sTimes) (by decide +kernel))
      (fun _ _ _ _ _ => pg_tupK (K := K) (n := 4) rfl rfl (pgs_cons (pg_name (i := 1) scTimes.nd rfl (Or.inl rfl) (Or.inr rfl)) (pgs_cons (pg_name (i := 2) scTimes.nd rfl (Or.inl rfl) (Or.inr rfl)) (pgs_cons (pg_name (i := 3) scTimes.nd rfl (Or.inl rfl) (Or.inr rfl)) (pgs_cons (pg_name (i := 4) scTimes.nd rfl (Or.inl rfl) (Or.inr rfl)) pgs_nil)))))
      (fun _ _ _ _ _ => pts_nil)
      (fun _ _ _ _ _ => pe_tup (pa_cons (pe_op op_sub (pv 2) (pv 4)) (pa_cons (pe_op op_add (pv 1) (pv 3)) (pa_cons (pe_op op_add (pv 2) (pv 4)) (pa_cons (pe_op op_sub (pv 3) (pv 1)) pa_nil))))))), ?_⟩
    obtain ⟨rs0, ha0, t0⟩ := id ha
    refine ⟨_, rfl, a, rfl, ⟨_, SqL.of ha0⟩, ?_⟩
    refine lc_nums (us := us) Sg24.root ha hz (fun u r H' R Z h1 kk => ?_) k
    rw [Mq.root_eq] at kk
    refine ⟨r, _, rfl, h1, rfl, _, _, rfl, _, _, rfl, _, _, rfl, _, _, rfl, rfl, rfl, ?_⟩
    refine ⟨_, rfl, _, rfl, _, _, rfl, rfl, ?_⟩
    refine ⟨_, rfl, _, rfl, _, _, rfl, rfl, ?_⟩
    refine ⟨_, rfl, _, rfl, _, _, rfl, rfl, ?_⟩
    refine ⟨_, rfl, _, rfl, _, _, rfl, rfl, ?_⟩
    exact ⟨(by show 4 ≤ sizeLine; decide), fun p hp => kk p hp⟩
theorem scOver : FnScope ["numbers", "a", "b", "c", "d"] ["numbers"] (defScope sOver) := ⟨rfl, rfl, rfl, by decide +kernel, rfl, by decide +kernel, by decide +kernel⟩
theorem ok_over {f : Addr} {fd : FuncData} (F : Fun K "over_root" "over_root" sOver f fd) : FnOk P w K mg base CX0 1 f fd ["numbers"] (spMap K Sg24.unroot) := by
  refine F.ok scOver (fun vs H Q E h => ?_) (fun cdv A outer s H vs Q E hr h => ?_)
  · obtain ⟨a, us, rfl, _⟩ := h
    rfl
  · obtain ⟨a, us, rfl, ha, hz, k⟩ := h
    refine ⟨_, pss_one (ps_ret (pe_lc (own := [("a", 1), ("b", 2), ("c", 3), ("d", 4)]) rfl scOver.nd (pi_list (pv 0))
      (blk_of (N := ["numbers", "a", "b", "c", "d"]) (sc := defScope sOver) (by decide +kernel))
      (fun _ _ _ _ _ => pg_tupK (K := K) (n := 4) rfl rfl (pgs_cons (pg_name (i := 1) scOver.nd rfl (Or.inl rfl) (Or.inr rfl)) (pgs_cons (pg_name (i := 2) scOver.nd rfl (Or.inl rfl) (Or.inr rfl)) (pgs_cons (pg_name (i := 3) scOver.nd rfl (Or.inl rfl) (Or.inr rfl)) (pgs_cons (pg_name (i := 4) scOver.nd rfl (Or.inl rfl) (Or.inr rfl)) pgs_nil)))))
      (fun _ _ _ _ _ => pts_nil)
      (fun _ _ _ _ _ => pe_tup (pa_cons (pe_op op_fdiv (pe_op op_sub (pv 2) (pv 4)) pe_int) (pa_cons (pe_op op_fdiv (pe_op op_add (pv 1) (pv 3)) pe_int) (pa_cons (pe_op op_fdiv (pe_op op_add (pv 2) (pv 4)) pe_int) (pa_cons (pe_op op_fdiv (pe_op op_sub (pv 3) (pv 1)) pe_int) pa_nil))))))), ?_⟩
    obtain ⟨rs0, ha0, t0⟩ := id ha
    refine ⟨_, rfl, a, rfl, ⟨_, SqL.of ha0⟩, ?_⟩
    refine lc_nums (us := us) Sg24.unroot ha hz (fun u r H' R Z h1 kk => ?_) k
    rw [Mq.unroot_eq] at kk
    refine ⟨r, _, rfl, h1, rfl, _, _, rfl, _, _, rfl, _, _, rfl, _, _, rfl, rfl, rfl, ?_⟩
    refine ⟨_, rfl, _, rfl, _, _, rfl, rfl, _, _, rfl, rfl, ⟨by decide, by decide⟩, ?_⟩
    refine ⟨_, rfl, _, rfl, _, _, rfl, rfl, _, _, rfl, rfl, ⟨by decide, by decide⟩, ?_⟩
    refine ⟨_, rfl, _, rfl, _, _, rfl, rfl, _, _, rfl, rfl, ⟨by decide, by decide⟩, ?_⟩
    refine ⟨_, rfl, _, rfl, _, _, rfl, rfl, _, _, rfl, rfl, ⟨by decide, by decide⟩, ?_⟩
    exact ⟨(by show 4 ≤ sizeLine; decide), fun p hp => kk p hp⟩
/-- whether all hold the root -/
def spHold (K : PySem.W.Frag) : Sp := fun vs H Q _ => ∃ (a : Addr) (us : List Num), vs = [.ref a] ∧ NumsAt K H a us ∧ Q (.bl (us.all Sg24.rooted)) H
theorem scHold : FnScope ["numbers", "a", "b", "c", "d"] ["numbers"] (defScope sHold) := ⟨rfl, rfl, rfl, by decide +kernel, rfl, by decide +kernel, by decide +kernel⟩
theorem ok_hold {f : Addr} {fd : FuncData} (F : Fun K "all_hold_root" "all_hold_root" sHold f fd) : FnOk P w K mg base CX0 1 f fd ["numbers"] (spHold K) := by
  refine F.ok scHold (fun vs H Q E h => ?_) (fun cdv A outer s H vs Q E hr h => ?_)
  · obtain ⟨a, us, rfl, _⟩ := h
    rfl
  · obtain ⟨a, us, rfl, ha, k⟩ := h
    refine ⟨_, pss_cons (ps_for PassesOwn.never rfl (pi_list (pv 0))
        (pg_tup rfl (pgs_cons (pg_name (i := 1) scHold.nd rfl (Or.inl rfl)) (pgs_cons (pg_name (i := 2) scHold.nd rfl (Or.inl rfl)) (pgs_cons (pg_name (i := 3) scHold.nd rfl (Or.inl rfl)) (pgs_cons (pg_name (i := 4) scHold.nd rfl (Or.inl rfl)) pgs_nil)))))
        (pss_one (ps_if (pw_or (pt_cmpR op_ne (pe_op op_mod (pe_op op_add (pv 1) (pv 3)) pe_int) pe_int (nomark _)) (pw_or1 (pt_cmpR op_ne (pe_op op_mod (pe_op op_add (pv 2) (pv 4)) pe_int) pe_int (nomark _)))).pt
          (pss_one (ps_ret pe_bl)) pss_nil)))
      (pss_one (ps_ret pe_bl)), ?_⟩
    obtain ⟨rs0, ha0, t0⟩ := id ha
    have ln : rs0.length = us.length := Paired.length t0
    refine ⟨_, rfl, a, rfl, ⟨_, SqL.of ha0⟩, for_list (K := K) (a := a) (xs := rs0.map V.ref) (fun i σ H' => (∃ x1 x2 x3 x4 : Option V, σ = [some (.ref a), x1, x2, x3, x4]) ∧ H' = H ∧ (us.take i).all Sg24.rooted = true)
      ⟨⟨_, _, _, _, rfl⟩, rfl, rfl⟩ (fun i σ H' _ ⟨_, e, _⟩ => by rw [e]; exact SqL.of ha0) ?_ ?_⟩
    · rintro i x σ H' hx ⟨⟨x1, x2, x3, x4, rfl⟩, rfl, hall⟩
      have hi : i < us.length := by
        have := (List.getElem?_eq_some_iff.mp hx).1
        rw [List.length_map] at this; omega
      obtain ⟨r, hr, ht⟩ := Tups.get t0 (List.getElem?_eq_getElem hi)
      have ex : x = .ref r := by
        rw [List.getElem?_map, hr] at hx
        exact (Option.some.inj hx).symm
      subst ex
      refine ⟨r, _, rfl, ht, rfl, _, _, rfl, _, _, rfl, _, _, rfl, _, _, rfl, rfl, ?_⟩
      refine ⟨_, rfl, _, rfl, _, _, rfl, rfl, _, _, rfl, rfl, (by show (0 : Int) < 2; decide), rfl, _, rfl, ?_⟩
      have fin : ∀ b : Bool, (b = true ↔ Sg24.rooted us[i] = true) → b = true → (us.take (i + 1)).all Sg24.rooted = true := fun b hb hq => by
        rw [take_snoc' (List.getElem?_eq_getElem hi), List.all_append, hall, List.all_cons, List.all_nil, hb.mp hq]; rfl
      have bad : Sg24.rooted us[i] = false → us.all Sg24.rooted = false := fun hq => by
        rw [Bool.eq_false_iff]
        intro hh
        have := (List.all_eq_true.mp hh) _ (List.getElem_mem hi)
        rw [hq] at this; cases this
      have rt := Mq.rooted_iff us[i]
      refine ite2 (fun c => ?_) (fun c => ?_)
      · -- the first sum is odd
        refine iteT ?_
        show Q (.bl false) H'
        have : Sg24.rooted us[i] = false := by
          cases e : Sg24.rooted us[i] with
          | false => rfl
          | true =>
            have := (rt.mp e).1
            simp [this] at c
        rw [← bad this]; exact k
      · refine ⟨_, rfl, _, rfl, _, _, rfl, rfl, _, _, rfl, rfl, (by show (0 : Int) < 2; decide), rfl, _, rfl, ?_⟩
        refine ite2 (fun c2 => ?_) (fun c2 => ?_)
        · show Q (.bl false) H'
          have : Sg24.rooted us[i] = false := by
            cases e : Sg24.rooted us[i] with
            | false => rfl
            | true =>
              have := (rt.mp e).2
              simp [this] at c2
          rw [← bad this]; exact k
        · refine ⟨⟨_, _, _, _, rfl⟩, rfl, ?_⟩
          refine fin true ⟨fun _ => rt.mpr ⟨?_, ?_⟩, fun _ => rfl⟩ rfl
          · simpa using c
          · simpa using c2
    · rintro σ H' ⟨⟨x1, x2, x3, x4, rfl⟩, rfl, hall⟩
      rw [List.length_map, ln, List.take_length] at hall
      show Q (.bl true) H'
      rw [← hall]; exact k
end
end Fq

end

section
set_option Elab.async false
set_option linter.all false
set_option maxRecDepth 100000
namespace Fq
open PySem PySem.Spec PyProof.Rows L2
open Sg24 (Num)
theorem ne_mem {r a : Addr} {rs : List Addr} (h : r ∈ rs) (n : a ∉ rs) : r ≠ a := fun e => n (e ▸ h)
/-- a whole number of the file's top -/
def GI (mg : Str → Option Value) (x : Str) (i : Int) : Prop := ∃ t, mg x = some (.int i t)
theorem pe_gi {X : Cx} {x : Str} {i : Int} {pos : Pos} (h : GI X.mg x i) (hg : Gl X x := by rfl) (hd : (x == ("__debug__" : Str)) = false := by decide) : PE X (.Name x pos) (tC (.int i)) := by
  obtain ⟨t, h⟩ := h
  exact pe_glob hg h ⟨t, rfl⟩ hd
/-- an object of the file's top -/
theorem pe_go {X : Cx} {x : Str} {a : Addr} {pos : Pos} (h : X.mg x = some (.ref a)) (hg : Gl X x := by rfl) (hd : (x == ("__debug__" : Str)) = false := by decide) : PE X (.Name x pos) (tC (.ref a)) := pe_glob hg h rfl hd
theorem iteTD {c : Prop} [Decidable c] {A B : Prop} (hc : c) (h : A) : if decide c = true then A else B := by rw [if_pos (decide_eq_true hc)]; exact h
theorem iteFD {c : Prop} [Decidable c] {A B : Prop} (hc : ¬ c) (h : B) : if decide c = true then A else B := by rw [if_neg (by simp [hc])]; exact h
/-- what the top has written, of circuit.py -/
structure Tc (K : PySem.W.Frag) (mg : Str → Option Value) (kA : Addr) : Prop where
  bl : ∃ bA, mg "BLANKS" = some (.ref bA) ∧ ∀ H : Hp, SqT K H bA [.int 32, .int 10]
  pl : GI mg "PLUS" 43
  mi : GI mg "MINUS" 45
  zd : GI mg "ZERO_DIGIT" 48
  nd : GI mg "NINE_DIGIT" 57
  kd : mg "KINDS" = some (.ref kA)
  kk : KDict K kA [(88, .int 0), (89, .int 1), (90, .int 2), (83, .int 3), (115, .int 4), (84, .int 5), (116, .int 6), (72, .int 7)]
  ln : mg "len" = none
  rg : mg "range" = none
section
variable {P : Program} {w : World} {K : PySem.W.Frag} {mg : Str → Option Value} {base : Heap} {kA : Addr}
/-! digit -/
def dV : Option Nat → V
  | some i => .int (i : Int)
  | none => .non
def spDigit : Sp := fun vs H Q _ => ∃ c : Int, vs = [.int c] ∧ Q (dV (Mq.dgt c)) H
theorem scDigit : FnScope ["byte"] ["byte"] (defScope sDigit) := ⟨rfl, rfl, rfl, by decide +kernel, rfl, by decide +kernel, by decide +kernel⟩
theorem ok_digit {f : Addr} {fd : FuncData} (F : Fun K "digit" "digit" sDigit f fd) (T : Tc K mg kA) : FnOk P w K mg base CX0 1 f fd ["byte"] spDigit := by
  refine F.ok scDigit (fun vs H Q E h => ?_) (fun cdv A outer s H vs Q E hr h => ?_)
  · obtain ⟨c, rfl, _⟩ := h
    rfl
  · obtain ⟨c, rfl, k⟩ := h
    refine ⟨_, pss_cons (ps_if (pt_chain op_le op_le (pe_gi T.zd) (pv 0) (pe_gi T.nd)) (pss_one (ps_ret (pe_op op_sub (pv 0) (pe_gi T.zd)))) pss_nil) (pss_one (ps_ret pe_non)), ?_⟩
    refine ⟨_, rfl, _, _, rfl, rfl, _, rfl, ?_⟩
    unfold Mq.dgt at k
    refine ite2 (fun c1 => ?_) (fun c1 => ?_)
    · have c1 : (48 : Int) ≤ c := of_decide_eq_true c1
      refine ⟨_, _, rfl, rfl, _, rfl, ?_⟩
      refine ite2 (fun c2 => ?_) (fun c2 => ?_)
      · have c2 : c ≤ (57 : Int) := of_decide_eq_true c2
        refine ⟨_, rfl, _, _, rfl, rfl, ?_⟩
        rw [if_pos ⟨c1, c2⟩] at k
        have e : (((c - 48).toNat : Nat) : Int) = c - 48 := by omega
        have k : Q (.int (((c - 48).toNat : Nat) : Int)) H := k
        rw [e] at k
        exact k
      · have c2 : ¬ c ≤ (57 : Int) := fun z => c2 (decide_eq_true z)
        rw [if_neg (fun z => c2 z.2)] at k
        exact k
    · have c1 : ¬ (48 : Int) ≤ c := fun z => c1 (decide_eq_true z)
      rw [if_neg (fun z => c1 z.1)] at k
      exact ⟨_, rfl, iteF k⟩
/-! words -/
def WordsAt (H : Hp) (rs : List Addr) (ws : List (List Int)) : Prop := Paired (fun r w => H r = some (.lst (w.map V.int))) rs ws
theorem WordsAt.same {H H' : Hp} {rs : List Addr} {ws : List (List Int)} (h : WordsAt H rs ws) (k : ∀ r ∈ rs, ∀ o, H r = some o → H' r = some o) : WordsAt H' rs ws := by
  induction h with
  | nil => exact .nil
  | cons a t ih => exact .cons (k _ List.mem_cons_self _ a) (ih fun r hr => k r (List.mem_cons_of_mem _ hr))
theorem WordsAt.snoc {H : Hp} {r : Addr} {w : List Int} (h : H r = some (.lst (w.map V.int))) : ∀ {rs : List Addr} {ws : List (List Int)}, WordsAt H rs ws → WordsAt H (rs ++ [r]) (ws ++ [w])
  | _, _, .nil => .cons h .nil
  | _, _, .cons a t => .cons a (WordsAt.snoc h t)
theorem WordsAt.get {H : Hp} : ∀ {rs : List Addr} {ws : List (List Int)} {i : Nat} {w : List Int}, WordsAt H rs ws → ws[i]? = some w → ∃ r, rs[i]? = some r ∧ H r = some (.lst (w.map V.int))
  | _, _, _, _, .nil, e => by simp at e
  | r :: _, _ :: _, 0, _, .cons h _, e => by simp at e; subst e; exact ⟨r, rfl, h⟩
  | _ :: _, _ :: _, i + 1, w, .cons _ t, e => by
    obtain ⟨r, h1, h2⟩ := WordsAt.get (i := i) (w := w) t (by simpa using e)
    exact ⟨r, by simpa using h1, h2⟩
/-- the list of words at q is new, and they are -/
def spWords (K : PySem.W.Frag) : Sp := fun vs H Q _ => ∃ (a : Addr) (b : List Int), vs = [.ref a] ∧ SqL K H a (b.map V.int) ∧ b.length ≤ 65536 ∧
  ∀ (H' : Hp) (q : Addr) (rs : List Addr), Same H H' → H' q = some (.lst (rs.map V.ref)) → WordsAt H' rs (Mq.spI [] b) → H q = none → (∀ r ∈ rs, H r = none) → Q (.ref q) H'
theorem scWords : FnScope ["text", "found", "word", "byte"] ["text"] (defScope sWords) := ⟨rfl, rfl, rfl, by decide +kernel, rfl, by decide +kernel, by decide +kernel⟩
/-- what holds between two turns -/
structure WInv (H : Hp) (b : List Int) (i : Nat) (H' : Hp) (fl wl : Addr) (rs : List Addr) (dn : List (List Int)) (cur : List Int) : Prop where
  f : H' fl = some (.lst (rs.map V.ref))
  w : H' wl = some (.lst (cur.map V.int))
  ws : WordsAt H' rs dn
  fw : fl ≠ wl
  fr : fl ∉ rs
  wr : wl ∉ rs
  sm : Same H H'
  nf : H fl = none
  nw : H wl = none
  nr : ∀ r ∈ rs, H r = none
  eq : dn ++ Mq.spI cur (b.drop i) = Mq.spI [] b
  l1 : rs.length ≤ i
  l2 : cur.length ≤ i
theorem ok_words {f : Addr} {fd : FuncData} (F : Fun K "words" "words" sWords f fd) (T : Tc K mg kA) : FnOk P w K mg base CX0 1 f fd ["text"] (spWords K) := by
  refine F.ok scWords (fun vs H Q E h => ?_) (fun cdv A outer s H vs Q E hr h => ?_)
  · obtain ⟨a, b, rfl, _⟩ := h
    rfl
  · obtain ⟨a, b, rfl, ha, hz, k⟩ := h
    obtain ⟨bA, hbA, bT⟩ := T.bl
    refine ⟨_, pss_cons (ps_set (i := 1) scWords.nd rfl (Or.inl rfl) (pe_lst pa_nil))
      (pss_cons (ps_set (i := 2) scWords.nd rfl (Or.inl rfl) (pe_lst pa_nil))
      (pss_cons (ps_for PassesOwn.never rfl (pi_list (pv 0)) (pg_name (i := 3) scWords.nd rfl (Or.inl rfl))
        (pss_one (ps_if (pt_cmpR op_notIn_seq (pv 3) (pe_go hbA) (by with_unfolding_all rfl))
          (pss_one (ps_expr (pe_bm PySem.F.plainAttrs_list PySem.F.slot_list_append PySem.F.type_list_append mt_append (pv 2) (pa_cons (pv 3) pa_nil))))
          (pss_one (ps_if (pt_cmpR op_gt (pe_callB call_len_seq (by rfl) T.ln PySem.boot_len (pa_cons (pv 2) pa_nil)) pe_int (nomark _))
            (pss_cons (ps_expr (pe_bm PySem.F.plainAttrs_list PySem.F.slot_list_append PySem.F.type_list_append mt_append (pv 1) (pa_cons (pv 2) pa_nil)))
              (pss_one (ps_set (i := 2) scWords.nd rfl (Or.inl rfl) (pe_lst pa_nil))))
            pss_nil)))))
      (pss_cons (ps_if (pt_cmpR op_gt (pe_callB call_len_seq (by rfl) T.ln PySem.boot_len (pa_cons (pv 2) pa_nil)) pe_int (nomark _))
            (pss_one (ps_expr (pe_bm PySem.F.plainAttrs_list PySem.F.slot_list_append PySem.F.type_list_append mt_append (pv 1) (pa_cons (pv 2) pa_nil)))) pss_nil)
      (pss_one (ps_ret (pv 1)))))), ?_⟩
    have sl : (65536 : Nat) < sizeLine := by decide
    refine ⟨Nat.zero_le _, fun fl hfl => ⟨Nat.zero_le _, fun wl hwl => ?_⟩⟩
    have fw : fl ≠ wl := fun e => by subst e; rw [upd_same] at hwl; cases hwl
    have hwl0 : H wl = none := by rw [upd_ne (Ne.symm fw)] at hwl; exact hwl
    have sm0 : Same H (upd (upd H fl (.lst [])) wl (.lst [])) := (same_none hfl).store hwl0
    refine ⟨_, rfl, a, rfl, ⟨_, sm0.seq ha⟩, for_list (K := K) (a := a) (xs := b.map V.int) (fun i σ H' => ∃ (wl : Addr) (x : Option V) (rs : List Addr) (dn : List (List Int)) (cur : List Int), σ = [some (.ref a), some (.ref fl), some (.ref wl), x] ∧ WInv H b i H' fl wl rs dn cur)
      ⟨wl, none, [], [], [], rfl, ⟨by rw [upd_ne fw, upd_same]; rfl, upd_same, .nil, fw, by simp, by simp, sm0, hfl, hwl0, by simp, rfl, Nat.le_refl _, Nat.le_refl _⟩⟩
      (fun i σ H' _ ⟨_, _, _, _, _, _, W⟩ => W.sm.seq ha) ?_ ?_⟩
    · rintro i x σ H' hx ⟨wl, x0, rs, dn, cur, rfl, W⟩
      have hi : i < b.length := by
        have := (List.getElem?_eq_some_iff.mp hx).1
        rwa [List.length_map] at this
      have ex : x = .int b[i] := by
        rw [List.getElem?_map, List.getElem?_eq_getElem hi] at hx
        exact (Option.some.inj hx).symm
      subst ex
      have dr : b.drop i = b[i] :: b.drop (i + 1) := (List.getElem_cons_drop hi).symm
      have eq := W.eq
      rw [dr, Mq.spI] at eq
      refine ⟨_, rfl, bA, _, rfl, .inr (bT _), rfl, rfl, _, rfl, ?_⟩
      have cond : (if true = true then !inV (.int b[i]) [.int 32, .int 10] else inV (.int b[i]) [.int 32, .int 10]) = !decide (b[i] = 32 ∨ b[i] = 10) := by
        show (!((32 == b[i]) || ((10 == b[i]) || false))) = _
        rw [Bool.or_false]
        congr 1
        rw [Bool.eq_iff_iff, Bool.or_eq_true, beq_iff_eq, beq_iff_eq, decide_eq_true_eq]
        omega
      rw [cond]
      refine ite2 (fun c => ?_) (fun c => ?_)
      · -- no blank
        have nb : ¬ (b[i] = 32 ∨ b[i] = 10) := by simpa using c
        rw [if_neg nb] at eq
        refine ⟨_, rfl, .inl ⟨rfl, _, SqL.of W.w⟩, _, rfl, wl, _, _, rfl, rfl, W.w, by rw [List.length_map]; have := W.l2; omega, ?_⟩
        refine ⟨wl, _, rs, dn, cur ++ [b[i]], rfl, ⟨by rw [upd_ne W.fw]; exact W.f, by rw [upd_same, List.map_append]; rfl, WordsAt.same W.ws fun r hr o e => by rw [upd_ne (ne_mem hr W.wr)]; exact e, W.fw, W.fr, W.wr,
          W.sm.store W.nw, W.nf, W.nw, W.nr, eq, Nat.le_succ_of_le W.l1, by rw [List.length_append]; have := W.l2; simp; omega⟩⟩
      · have nb : (b[i] = 32 ∨ b[i] = 10) := by simp at c; omega
        rw [if_pos nb] at eq
        refine ⟨_, rfl, wl, _, rfl, .inl (SqL.of W.w), _, _, rfl, rfl, _, rfl, ?_⟩
        refine ite2 (fun c2 => ?_) (fun c2 => ?_)
        · have ne : cur ≠ [] := fun z => by subst z; simp at c2
          rw [if_neg ne] at eq
          refine ⟨_, rfl, .inl ⟨rfl, _, SqL.of W.f⟩, _, rfl, fl, _, _, rfl, rfl, W.f, by rw [List.length_map]; have := W.l1; omega, Nat.zero_le _, fun w2 hw2 => ?_⟩
          have w2f : fl ≠ w2 := fun e => by subst e; rw [upd_same] at hw2; cases hw2
          have hw2' : H' w2 = none := by rw [upd_ne (Ne.symm w2f)] at hw2; exact hw2
          have hw20 : H w2 = none := W.sm.free hw2'
          have w2r : w2 ∉ rs ++ [wl] := fun z => by
            rcases List.mem_append.mp z with z | z
            · obtain ⟨j, hj, e⟩ := List.getElem_of_mem z
              have hl : j < dn.length := by rw [← Paired.length W.ws]; exact hj
              obtain ⟨r, h1, h2⟩ := WordsAt.get W.ws (List.getElem?_eq_getElem hl)
              rw [List.getElem?_eq_getElem hj, e] at h1
              cases h1
              rw [hw2'] at h2; cases h2
            · rw [List.mem_singleton] at z; subst z; rw [W.w] at hw2'; cases hw2'
          refine ⟨w2, _, rs ++ [wl], dn ++ [cur], [], rfl, ⟨by rw [upd_ne w2f, upd_same, List.map_append]; rfl, upd_same, ?_, w2f, ?_, w2r, (W.sm.store W.nf).store hw20, W.nf, hw20, ?_, ?_, ?_, Nat.zero_le _⟩⟩
          · refine WordsAt.snoc ?_ (WordsAt.same W.ws fun r hr o e => ?_)
            · rw [upd_ne (ne_mem (List.mem_append_right _ (List.mem_singleton.mpr rfl)) w2r), upd_ne (Ne.symm W.fw)]; exact W.w
            · rw [upd_ne (ne_mem (List.mem_append_left _ hr) w2r), upd_ne (ne_mem hr W.fr)]; exact e
          · intro z
            rcases List.mem_append.mp z with z | z
            · exact W.fr z
            · exact W.fw (List.mem_singleton.mp z)
          · intro r hr
            rcases List.mem_append.mp hr with hr | hr
            · exact W.nr r hr
            · rw [List.mem_singleton.mp hr]; exact W.nw
          · rw [List.append_assoc]; exact eq
          · rw [List.length_append]; have := W.l1; simp; omega
        · have e0 : cur = [] := by
            cases cur with
            | nil => rfl
            | cons y ys => exact absurd (decide_eq_true (by simp)) c2
          subst e0
          rw [if_pos rfl] at eq
          exact ⟨wl, _, rs, dn, [], rfl, ⟨W.f, W.w, W.ws, W.fw, W.fr, W.wr, W.sm, W.nf, W.nw, W.nr, eq, Nat.le_succ_of_le W.l1, Nat.zero_le _⟩⟩
    · rintro σ H' ⟨wl, x0, rs, dn, cur, rfl, W⟩
      have eq := W.eq
      have l1 := W.l1
      rw [List.length_map] at l1
      rw [List.length_map, List.drop_length, Mq.spI] at eq
      refine ⟨_, rfl, wl, _, rfl, .inl (SqL.of W.w), _, _, rfl, rfl, _, rfl, ?_⟩
      refine ite2 (fun c2 => ?_) (fun c2 => ?_)
      · have ne : cur ≠ [] := fun z => by subst z; simp at c2
        rw [if_neg ne] at eq
        refine ⟨_, rfl, .inl ⟨rfl, _, SqL.of W.f⟩, _, rfl, fl, _, _, rfl, rfl, W.f, by rw [List.length_map]; omega, _, rfl, ?_⟩
        refine k _ fl (rs ++ [wl]) (W.sm.store W.nf) (by rw [upd_same, List.map_append]; rfl) ?_ W.nf ?_
        · rw [← eq]
          refine WordsAt.snoc (by rw [upd_ne (Ne.symm W.fw)]; exact W.w) (WordsAt.same W.ws fun r hr o e => by rw [upd_ne (ne_mem hr W.fr)]; exact e)
        · intro r hr
          rcases List.mem_append.mp hr with hr | hr
          · exact W.nr r hr
          · rw [List.mem_singleton.mp hr]; exact W.nw
      · have e0 : cur = [] := by
          cases cur with
          | nil => rfl
          | cons y ys => exact absurd (decide_eq_true (by simp)) c2
        subst e0
        rw [if_pos rfl, List.append_nil] at eq
        refine ⟨_, rfl, k _ fl rs W.sm W.f ?_ W.nf W.nr⟩
        rw [← eq]; exact W.ws
end
end Fq

end

section
set_option Elab.async false
set_option linter.all false
set_option maxRecDepth 100000
namespace Fq
open PySem PySem.Spec PyProof.Rows L2
open Sg24 (Num)
/-! told_gate -/
theorem kinds_val (l : Int) : (kval [(88, .int 0), (89, .int 1), (90, .int 2), (83, .int 3), (115, .int 4), (84, .int 5), (116, .int 6), (72, .int 7)] l).getD .non = dV (Mq.kindP l) := by
  unfold kval valV Mq.kindP
  have e : ∀ a b : Int, decide ((Sum.inl a : Key) = Sum.inl b) = decide (a = b) := fun a b => by
    by_cases h : a = b
    · subst h; simp
    · rw [decide_eq_false h, decide_eq_false (fun z => h (Sum.inl.inj z))]
  simp only [List.map_cons, List.map_nil, List.find?_cons, List.find?_nil, e]
  by_cases h1 : l = 88
  · subst h1; rfl
  by_cases h2 : l = 89
  · subst h2; rfl
  by_cases h3 : l = 90
  · subst h3; rfl
  by_cases h4 : l = 83
  · subst h4; rfl
  by_cases h5 : l = 115
  · subst h5; rfl
  by_cases h6 : l = 84
  · subst h6; rfl
  by_cases h7 : l = 116
  · subst h7; rfl
  by_cases h8 : l = 72
  · subst h8; rfl
  simp [h1, h2, h3, h4, h5, h6, h7, h8, Ne.symm h1, Ne.symm h2, Ne.symm h3, Ne.symm h4, Ne.symm h5, Ne.symm h6, Ne.symm h7, Ne.symm h8, eq_comm, dV]
theorem ctl_odd : ∀ (r : List Int) (a b c : Nat), r.length % 2 = 1 → Mq.ctlP r a b c = none
  | [], _, _, _, h => by simp at h
  | [_], _, _, _, _ => rfl
  | s :: c :: r, x, on, off, h => by
    rw [Mq.ctlP]
    have h' : r.length % 2 = 1 := by simp at h; omega
    split
    · rename_i i _
      split
      · rfl
      · split
        · exact ctl_odd r _ _ _ h'
        · split
          · exact ctl_odd r _ _ _ h'
          · rfl
    · rfl
theorem told_odd : ∀ {ws : List Int}, ws.length % 2 = 1 → Mq.toldP ws = none
  | [], h => by simp at h
  | [_], _ => rfl
  | l :: c :: r, h => by
    have h' : r.length % 2 = 1 := by simp at h; omega
    rw [Mq.toldP]
    split
    · rw [ctl_odd r _ _ _ h']; rfl
    · rfl
theorem dgt_le {c : Int} {t : Nat} (h : Mq.dgt c = some t) : t ≤ 9 := by
  unfold Mq.dgt at h
  split at h
  · cases h; omega
  · cases h
theorem rg2 {L n : Nat} (h : L = 2 * n + 2) (hL : L ≤ 65536) : RgC 2 (L : Int) 2 n := by
  have e : Builtin.Range.rangeSize 2 (L : Int) 2 = (n : Int) := by
    unfold Builtin.Range.rangeSize
    rw [if_pos (by decide)]
    split <;> omega
  refine ⟨by decide, by decide, ?_, e⟩
  have fit : ∀ i : Int, -1000000 ≤ i → i ≤ 1000000 → Builtin.Range.rangeFitsLong i = true := fun i h1 h2 => by
    unfold Builtin.Range.rangeFitsLong
    rw [Bool.and_eq_true]
    exact ⟨decide_eq_true (by omega), decide_eq_true (by omega)⟩
  unfold Builtin.Range.small
  rw [e, fit 2 (by omega) (by omega), fit L (by omega) (by omega), fit n (by omega) (by omega), if_pos (by decide), fit _ (by omega) (by omega)]
  cases ((n : Int) == 0) <;> rfl
theorem even_cons : ∀ {ws : List Int}, ws ≠ [] → ws.length % 2 = 0 → ∃ l d r, ws = l :: d :: r
  | [], h, _ => absurd rfl h
  | [_], _, h => by simp at h
  | l :: d :: r, _, _ => ⟨l, d, r, rfl⟩
theorem tb_ne0 (seen i : Nat) : (((seen &&& 2 ^ i : Nat) : Int) != 0) = seen.testBit i := by
  rw [Bool.eq_iff_iff, bne_iff_ne]
  constructor
  · intro h
    cases e : seen.testBit i with
    | true => rfl
    | false =>
      exfalso; apply h
      have : seen &&& 2 ^ i = 0 := (Mq.and_zero_iff seen (2 ^ i)).mpr fun j hj => by
        rw [Nat.testBit_two_pow] at hj
        have : i = j := by simpa using hj
        subst this; exact e
      rw [this]; rfl
  · intro h z
    have z : seen &&& 2 ^ i = 0 := by omega
    have := (Mq.and_zero_iff seen (2 ^ i)).mp z i (by rw [Nat.testBit_two_pow]; simp)
    rw [h] at this; cases this
def spTold (K : PySem.W.Frag) : Sp := fun vs H Q _ => ∃ (a : Addr) (ws : List Int), vs = [.ref a] ∧ SqL K H a (ws.map V.int) ∧ ws ≠ [] ∧ ws.length ≤ 65536 ∧ (Mq.toldP ws = none → Q .non H) ∧
  ∀ k t on off, Mq.toldP ws = some (k, t, on, off) → ∀ p, H p = none → Q (.ref p) (upd H p (.tup [.int (k : Nat), .int (t : Nat), .int (on : Nat), .int (off : Nat)]))
section
variable {P : Program} {w : World} {K : PySem.W.Frag} {mg : Str → Option Value} {base : Heap} {kA : Addr}
theorem scTold : FnScope ["word", "kind", "target", "seen", "on", "off", "at", "control"] ["word"] (defScope sTold) := ⟨rfl, rfl, rfl, by decide +kernel, rfl, by decide +kernel, by decide +kernel⟩
theorem ok_told {f fD : Addr} {fd fdD : FuncData} (F : Fun K "told_gate" "told_gate" sTold f fd) (T : Tc K mg kA) (FD : Fun K "digit" "digit" sDigit fD fdD) (bD : Binds K fdD ["byte"] []) (mD : mg "digit" = some (.ref fD)) :
    FnOk P w K mg base CX0 2 f fd ["word"] (spTold K) := by
  have GD : FnOk P w K mg base CX0 1 fD fdD ["byte"] spDigit := ok_digit FD T
  refine F.ok scTold (fun vs H Q E h => ?_) (fun cdv A outer s H vs Q E hr h => ?_)
  · obtain ⟨a, ws, rfl, _⟩ := h
    rfl
  · obtain ⟨a, ws, rfl, ha, hne, hz, kn, ks⟩ := h
    refine ⟨_, pss_cons (ps_if (pt_cmpR op_ne (pe_op op_mod (pe_callB call_len_seq (by rfl) T.ln PySem.boot_len (pa_cons (pv 0) pa_nil)) pe_int) pe_int (nomark _)) (pss_one (ps_ret pe_non)) pss_nil)
      (pss_cons (ps_set (i := 1) scTold.nd rfl (Or.inl rfl) (pe_kget1 (pe_go T.kd) (pe_ix ix_list (pv 0) pe_int (fun _ _ => rfl)) ⟨rfl, rfl, rfl, rfl⟩))
      (pss_cons (ps_set (i := 2) scTold.nd rfl (Or.inl rfl) (pe_call GD hr rfl mD FD.kp bD .nil pass0 (pa_cons (pe_ix ix_list (pv 0) pe_int (fun _ _ => rfl)) pa_nil)))
      (pss_cons (ps_if (pw_or (pt_cmp (pc_isN (pv 1))) (pw_or1 (pt_cmp (pc_isN (pv 2))))).pt (pss_one (ps_ret pe_non)) pss_nil)
      (pss_cons (ps_set (i := 3) scTold.nd rfl (Or.inl rfl) (pe_op op_shl pe_int (pv 2)))
      (pss_cons (ps_set (i := 4) scTold.nd rfl (Or.inl rfl) pe_int)
      (pss_cons (ps_set (i := 5) scTold.nd rfl (Or.inl rfl) pe_int)
      (pss_cons (ps_for PassesOwn.never rfl (pi_range3 rfl T.rg (pa_cons pe_int (pa_cons (pe_callB call_len_seq (by rfl) T.ln PySem.boot_len (pa_cons (pv 0) pa_nil)) (pa_cons pe_int pa_nil)))) (pg_name (i := 6) scTold.nd rfl (Or.inl rfl))
        (pss_cons (ps_set (i := 7) scTold.nd rfl (Or.inl rfl) (pe_call GD hr rfl mD FD.kp bD .nil pass0 (pa_cons (pe_ix ix_list (pv 0) (pe_op op_add (pv 6) pe_int) (fun _ _ => rfl)) pa_nil)))
        (pss_cons (ps_if (pw_or (pt_cmp (pc_isN (pv 7))) (pw_or1 (pt_truth (pe_op op_and (pv 3) (pe_op op_shl pe_int (pv 7))) (fun _ => rfl)))).pt (pss_one (ps_ret pe_non)) pss_nil)
        (pss_cons (ps_set (i := 3) scTold.nd rfl (Or.inl rfl) (pe_op op_or (pv 3) (pe_op op_shl pe_int (pv 7))))
        (pss_one (ps_if (pt_cmpR op_eq (pe_ix ix_list (pv 0) (pv 6) (fun _ _ => rfl)) (pe_gi T.pl) (nomark _))
          (pss_one (ps_set (i := 4) scTold.nd rfl (Or.inl rfl) (pe_op op_or (pv 4) (pe_op op_shl pe_int (pv 7)))))
          (pss_one (ps_if (pt_cmpR op_eq (pe_ix ix_list (pv 0) (pv 6) (fun _ _ => rfl)) (pe_gi T.mi) (nomark _))
            (pss_one (ps_set (i := 5) scTold.nd rfl (Or.inl rfl) (pe_op op_or (pv 5) (pe_op op_shl pe_int (pv 7)))))
            (pss_one (ps_ret pe_non))))))))))
      (pss_one (ps_ret (pe_tup (pa_cons (pv 1) (pa_cons (pv 2) (pa_cons (pv 4) (pa_cons (pv 5) pa_nil)))))))))))))), ?_⟩
    -- an odd number of bytes
    refine ⟨_, rfl, a, _, rfl, .inl ha, _, _, rfl, rfl, (by show (0 : Int) < 2; decide), rfl, _, rfl, ?_⟩
    refine ite2 (fun c => ?_) (fun c => ?_)
    · refine kn (told_odd ?_)
      have : ¬ ((ws.map V.int).length : Int) % 2 = 0 := by simpa using c
      rw [List.length_map] at this
      omega
    have ev : ws.length % 2 = 0 := by
      have : ((ws.map V.int).length : Int) % 2 = 0 := by simpa using c
      rw [List.length_map] at this
      omega
    obtain ⟨l, d, r, rfl⟩ := even_cons hne ev
    -- kind, target
    refine ⟨kA, _, rfl, T.kk, _, rfl, a, _, 0, _, rfl, rfl, ha, at_of (j := 0) rfl rfl, _, rfl, ?_⟩
    refine ⟨_, rfl, a, _, 1, _, rfl, rfl, ha, at_of (j := 1) rfl rfl, d, rfl, ?_⟩
    have kvl := kinds_val l
    have tg : Mq.toldP (l :: d :: r) = match Mq.kindP l, Mq.dgt d with
      | some k, some t => (Mq.ctlP r (2 ^ t) 0 0).map fun z => (k, t, z.1, z.2)
      | _, _ => none := rfl
    generalize hk : Mq.kindP l = ok at kvl tg
    generalize ht : Mq.dgt d = ot at tg
    rw [tg] at kn ks
    generalize (kval [(88, V.int 0), (89, V.int 1), (90, V.int 2), (83, V.int 3), (115, V.int 4), (84, V.int 5), (116, V.int 6), (72, V.int 7)] l).getD V.non = kv at kvl
    subst kvl
    refine ⟨_, rfl, _, rfl, ?_⟩
    cases ok with
    | none => exact iteTD rfl (iteT (kn rfl))
    | some k =>
    refine iteFD (by simp [dV]) ?_
    refine ⟨_, rfl, _, rfl, ?_⟩
    cases ot with
    | none => exact iteTD rfl (kn rfl)
    | some t =>
    refine iteFD (by simp [dV]) ?_
    have t9 := dgt_le ht
    have e0 : Mq.toldP (l :: d :: r) = (Mq.ctlP r (2 ^ t) 0 0).map fun z => (k, t, z.1, z.2) := tg
    have kn : Mq.ctlP r (2 ^ t) 0 0 = none → Q .non H := fun z => kn (by show Option.map _ _ = _; rw [z]; rfl)
    have ks : ∀ on off, Mq.ctlP r (2 ^ t) 0 0 = some (on, off) → ∀ p, H p = none → Q (.ref p) (upd H p (.tup [.int (k : Nat), .int (t : Nat), .int (on : Nat), .int (off : Nat)])) := fun on off z => ks k t on off (by show Option.map _ _ = _; rw [z]; rfl)
    refine ⟨_, rfl, _, _, rfl, rfl, ⟨by omega, by omega, by decide⟩, ?_⟩
    obtain ⟨n, hn⟩ : ∃ n, r.length = 2 * n := ⟨r.length / 2, by simp at ev; omega⟩
    have hzr : r.length + 2 ≤ 65536 := by simpa using hz
    refine ⟨_, rfl, a, _, rfl, .inl ha, 2, _, 2, n, rfl, rg2 (by simp [hn]) (by simpa using hz), ?_⟩
    refine for_rangeC (lo := 2) (c := 2) (n := n) (fun i σ H' => ∃ (seen on off : Nat) (x6 x7 : Option V), σ = [some (.ref a), some (.int (k : Nat)), some (.int (t : Nat)), some (.int (seen : Nat)), some (.int (on : Nat)), some (.int (off : Nat)), x6, x7] ∧ H' = H ∧ Mq.ctlP r (2 ^ t) 0 0 = Mq.ctlP (r.drop (2 * i)) seen on off)
      ⟨2 ^ t, 0, 0, none, none, by rw [← Bt.shl1]; rfl, rfl, rfl⟩ ?_ ?_
    · rintro i σ H' hi ⟨seen, on, off, x6, x7, rfl, rfl, hc⟩
      have h1 : 2 * i < r.length := by omega
      have h2 : 2 * i + 1 < r.length := by omega
      have dr : r.drop (2 * i) = r[2 * i] :: r[2 * i + 1] :: r.drop (2 * (i + 1)) := by
        rw [← List.getElem_cons_drop h1, ← List.getElem_cons_drop h2]; rfl
      rw [dr, Mq.ctlP] at hc
      have at1 : atI ((l :: d :: r).map V.int) (2 + (i : Nat) * 2 + 1) = some (.int r[2 * i + 1]) :=
        at_of (j := 2 * i + 1 + 2) (by omega) (by rw [List.getElem?_map]; show ((l :: d :: r)[2 * i + 1 + 2]?).map V.int = _; rw [show (l :: d :: r)[2 * i + 1 + 2]? = r[2 * i + 1]? from rfl, List.getElem?_eq_getElem h2]; rfl)
      have at0 : atI ((l :: d :: r).map V.int) (2 + (i : Nat) * 2) = some (.int r[2 * i]) :=
        at_of (j := 2 * i + 2) (by omega) (by rw [List.getElem?_map]; show ((l :: d :: r)[2 * i + 2]?).map V.int = _; rw [show (l :: d :: r)[2 * i + 2]? = r[2 * i]? from rfl, List.getElem?_eq_getElem h1]; rfl)
      refine ⟨_, rfl, _, rfl, _, _, rfl, rfl, a, _, _, _, rfl, rfl, ha, at1, r[2 * i + 1], rfl, ?_⟩
      generalize hj : Mq.dgt r[2 * i + 1] = oj at hc
      refine ⟨_, rfl, _, rfl, ?_⟩
      cases oj with
      | none => exact iteTD rfl (iteT (kn hc))
      | some j =>
      refine iteFD (by simp [dV]) ?_
      have j9 := dgt_le hj
      have sh : (1 : Int) * 2 ^ ((j : Nat) : Int).toNat = ((2 ^ j : Nat) : Int) := Bt.shl1 j
      refine ⟨_, rfl, _, rfl, _, _, rfl, rfl, ⟨by omega, by omega, by decide⟩, _, _, rfl, rfl, _, rfl, ?_⟩
      rw [sh, Bt.band, tb_ne0]
      simp only at hc
      refine ite2 (fun c => ?_) (fun c => ?_)
      · rw [if_pos c] at hc
        exact kn hc
      · rw [if_neg c] at hc
        refine ⟨_, rfl, _, rfl, _, _, rfl, rfl, ⟨by omega, by omega, by decide⟩, _, _, rfl, rfl, ?_⟩
        refine ⟨_, rfl, _, rfl, a, _, _, _, rfl, rfl, ha, at0, rfl, _, rfl, ?_⟩
        have so : Builtin.bitOr (seen : Int) ((1 : Int) * 2 ^ ((j : Nat) : Int).toNat) = ((seen ||| 2 ^ j : Nat) : Int) := by rw [sh, Bt.bor]
        refine ite2 (fun c3 => ?_) (fun c3 => ?_)
        · have c3 : r[2 * i] = 43 := by simpa using c3
          rw [if_pos c3] at hc
          refine ⟨_, rfl, _, rfl, _, _, rfl, rfl, ⟨by omega, by omega, by decide⟩, _, _, rfl, rfl, ?_⟩
          have oo : Builtin.bitOr (on : Int) ((1 : Int) * 2 ^ ((j : Nat) : Int).toNat) = ((on ||| 2 ^ j : Nat) : Int) := by rw [sh, Bt.bor]
          exact ⟨seen ||| 2 ^ j, on ||| 2 ^ j, off, _, _, by rw [← so, ← oo]; rfl, rfl, hc⟩
        · have c3 : ¬ r[2 * i] = 43 := by simpa using c3
          rw [if_neg c3] at hc
          refine ⟨_, rfl, _, rfl, a, _, _, _, rfl, rfl, ha, at0, rfl, _, rfl, ?_⟩
          refine ite2 (fun c4 => ?_) (fun c4 => ?_)
          · have c4 : r[2 * i] = 45 := by simpa using c4
            rw [if_pos c4] at hc
            refine ⟨_, rfl, _, rfl, _, _, rfl, rfl, ⟨by omega, by omega, by decide⟩, _, _, rfl, rfl, ?_⟩
            have oo : Builtin.bitOr (off : Int) ((1 : Int) * 2 ^ ((j : Nat) : Int).toNat) = ((off ||| 2 ^ j : Nat) : Int) := by rw [sh, Bt.bor]
            exact ⟨seen ||| 2 ^ j, on, off ||| 2 ^ j, _, _, by rw [← so, ← oo]; rfl, rfl, hc⟩
          · have c4 : ¬ r[2 * i] = 45 := by simpa using c4
            rw [if_neg c4] at hc
            exact kn hc
    · rintro σ H' ⟨seen, on, off, x6, x7, rfl, rfl, hc⟩
      rw [← hn, List.drop_length] at hc
      refine ⟨_, rfl, _, rfl, _, rfl, _, rfl, (by show 4 ≤ sizeLine; decide), fun p hp => ?_⟩
      exact ks on off hc p hp
end
end Fq

end

section
set_option Elab.async false
set_option linter.all false
set_option maxRecDepth 100000
namespace Fq
open PySem PySem.Spec PyProof.Rows L2
open Sg24 (Num)
/-! the state's object -/
abbrev sState : Stmt := top 41
abbrev sInit : Stmt := inClass sState 0
abbrev sBegin : Stmt := inClass sState 1
abbrev sGate : Stmt := inClass sState 2
abbrev sRun : Stmt := inClass sState 3
abbrev sAmp : Stmt := inClass sState 4
abbrev sChance : Stmt := inClass sState 5
abbrev sDraw : Stmt := inClass sState 6
abbrev sAllows : Stmt := inClass sState 7
abbrev sPut : Stmt := inClass sState 8
abbrev sMix : Stmt := inClass sState 9
abbrev sLessen : Stmt := inClass sState 10
def sf (n k : Int) (l : Addr) : List (Str × V) := [("qubits", .int n), ("k", .int k), ("amplitudes", .ref l)]
theorem nKQ : ¬ ("k" : Str) = "qubits" := by decide +kernel
theorem nAQ : ¬ ("amplitudes" : Str) = "qubits" := by decide +kernel
theorem nAK : ¬ ("amplitudes" : Str) = "k" := by decide +kernel
theorem lk_cons (g f : Str) (v : V) (r : List (Str × V)) : List.lookup g ((f, v) :: r) = if g = f then some v else List.lookup g r := by
  rw [List.lookup_cons]
  by_cases h : g = f
  · subst h; rw [if_pos rfl, beq_self_eq_true]
  · rw [if_neg h, beq_eq_false_iff_ne.mpr h]
theorem sf_q (n k : Int) (l : Addr) : (sf n k l).lookup ("qubits" : Str) = some (.int n) := by
  unfold sf; rw [lk_cons, if_pos rfl]
theorem sf_k (n k : Int) (l : Addr) : (sf n k l).lookup ("k" : Str) = some (.int k) := by
  unfold sf; rw [lk_cons, if_neg nKQ, lk_cons, if_pos rfl]
theorem sf_a (n k : Int) (l : Addr) : (sf n k l).lookup ("amplitudes" : Str) = some (.ref l) := by
  unfold sf; rw [lk_cons, if_neg nAQ, lk_cons, if_neg nAK, lk_cons, if_pos rfl]
theorem sf_no (n k : Int) (l : Addr) {m : Str} (h1 : ¬ m = "qubits") (h2 : ¬ m = "k") (h3 : ¬ m = "amplitudes") : (sf n k l).lookup m = none := by
  unfold sf; rw [lk_cons, if_neg h1, lk_cons, if_neg h2, lk_cons, if_neg h3]; rfl
theorem put_q (n k n' : Int) (l : Addr) : putF "qubits" (.int n') (sf n k l) = sf n' k l := by
  unfold sf; simp only [putF, if_true]
theorem put_k (n k k' : Int) (l : Addr) : putF "k" (.int k') (sf n k l) = sf n k' l := by
  unfold sf; simp only [putF, if_neg nKQ, if_neg (Ne.symm nKQ), if_true]
theorem put_a (n k : Int) (l l' : Addr) : putF "amplitudes" (.ref l') (sf n k l) = sf n k l' := by
  unfold sf; simp only [putF, if_neg nAQ, if_neg nAK, if_neg (Ne.symm nAQ), if_neg (Ne.symm nAK), if_true]
theorem sf_len (n k : Int) (l : Addr) : (sf n k l).length < 1000 := by show 3 < 1000; decide
/-- the state s stands at a, its amplitudes' list at l -/
def StAt (K : PySem.W.Frag) (C : Addr) (H : Hp) (a l : Addr) (s : Sg24.State) : Prop :=
  ∃ (dx : Addr) (rs : List Addr), H a = some (.ins C dx (sf (s.n : Nat) (s.k : Nat) l)) ∧ H l = some (.lst (rs.map V.ref)) ∧ Tups K H rs s.amps
theorem StAt.same {K : PySem.W.Frag} {C : Addr} {H H' : Hp} {a l : Addr} {s : Sg24.State} (h : StAt K C H a l s) (k : Same H H') : StAt K C H' a l s := by
  obtain ⟨dx, rs, h1, h2, h3⟩ := h
  exact ⟨dx, rs, k _ _ h1, k _ _ h2, Tups.tk h3 k.tk⟩
theorem StAt.ne {K : PySem.W.Frag} {C : Addr} {H : Hp} {a l : Addr} {s : Sg24.State} (h : StAt K C H a l s) : a ≠ l := by
  obtain ⟨dx, rs, h1, h2, _⟩ := h
  exact ne_of h1 h2 (fun z => nomatch z)
/-- all but the addresses named is kept, and nothing is lost -/
structure Kp (xs : List Addr) (H H' : Hp) : Prop where
  at_ : ∀ b o, H b = some o → b ∉ xs → H' b = some o
  fr : ∀ b, H' b = none → H b = none
instance {xs : List Addr} {H H' : Hp} : CoeFun (Kp xs H H') (fun _ => ∀ b o, H b = some o → b ∉ xs → H' b = some o) := ⟨Kp.at_⟩
theorem Kp.refl (xs : List Addr) (H : Hp) : Kp xs H H := ⟨fun _ _ h _ => h, fun _ h => h⟩
theorem Kp.trans {xs : List Addr} {H H1 H2 : Hp} (a : Kp xs H H1) (b : Kp xs H1 H2) : Kp xs H H2 := ⟨fun c o h n => b.at_ c o (a.at_ c o h n) n, fun c h => a.fr c (b.fr c h)⟩
theorem Kp.of_same {xs : List Addr} {H H' : Hp} (s : Same H H') : Kp xs H H' := ⟨fun b o h _ => s b o h, fun b h => s.free h⟩
theorem Kp.mono {xs ys : List Addr} {H H' : Hp} (a : Kp xs H H') (h : ∀ b ∈ xs, b ∈ ys) : Kp ys H H' := ⟨fun b o e n => a.at_ b o e fun z => n (h b z), a.fr⟩
theorem upd_none {H : Hp} {a b : Addr} {o : HO} (h : upd H a o b = none) : H b = none := by
  by_cases e : b = a
  · subst e; rw [upd_same] at h; cases h
  · rw [upd_ne e] at h; exact h
theorem Kp.upd {xs : List Addr} {H H' : Hp} {a : Addr} {o : HO} (k : Kp xs H H') (h : a ∈ xs ∨ H a = none) : Kp xs H (upd H' a o) := by
  refine ⟨fun b u e n => ?_, fun b z => k.fr b (upd_none z)⟩
  rw [upd_ne]
  · exact k.at_ b u e n
  · rintro rfl
    rcases h with h | h
    · exact n h
    · rw [h] at e; cases e
/-- what the top has written, of exact.py and state.py -/
structure Ts (K : PySem.W.Frag) (mg : Str → Option Value) (C tA : Addr) : Prop where
  cl : Cls K C
  nQ : NoAttr K C "qubits"
  nK : NoAttr K C "k"
  nA : NoAttr K C "amplitudes"
  mgC : mg "State" = some (.ref C)
  zr : ∃ zA, mg "ZERO" = some (.ref zA) ∧ ∀ H : Hp, SqT K H zA (NT Sg24.zero)
  on : ∃ oA, mg "ONE" = some (.ref oA) ∧ ∀ H : Hp, SqT K H oA (NT Sg24.one)
  dn : GI mg "DONE" 0
  rf : GI mg "REFUSED" (-1)
  tf : GI mg "TOO_FINE" (-2)
  tl : GI mg "TOO_LONG" (-65537)
  mq : GI mg "MOST_QUBITS" 10
  mkk : GI mg "MOST_K" 120
  lt : GI mg "LONGEST_TEXT" 65536
  kX : GI mg "X" 0
  kY : GI mg "Y" 1
  kH : GI mg "H" 7
  lk : GI mg "LAST_KIND" 7
  td : mg "TURNS" = some (.ref tA)
  tk : KDict K tA [(2, .int 4), (3, .int 2), (4, .int 6), (5, .int 1), (6, .int 7)]
  ln : mg "len" = none
  rg : mg "range" = none
  zp : mg "zip" = none
section
variable {P : Program} {w : World} {K : PySem.W.Frag} {mg : Str → Option Value} {base : Heap} {C tA : Addr}
/-! __init__ -/
def spInit (C : Addr) : Sp := fun vs H Q _ => ∃ (p dx : Addr), vs = [.ref p] ∧ H p = some (.ins C dx []) ∧ ∀ (H' : Hp) (l : Addr), H' p = some (.ins C dx (sf 0 0 l)) → H l = none → H' l = some (.lst []) → Kp [p] H H' → Q .non H'
theorem scInit : FnScope ["self"] ["self"] (defScope sInit) := ⟨rfl, rfl, rfl, by decide +kernel, rfl, by decide +kernel, by decide +kernel⟩
theorem ok_init {f : Addr} {fd : FuncData} (F : Fun K "__init__" "State.__init__" sInit f fd) (T : Ts K mg C tA) : FnOk P w K mg base CX0 1 f fd ["self"] (spInit C) := by
  refine F.ok scInit (fun vs H Q E h => ?_) (fun cdv A outer s H vs Q E hr h => ?_)
  · obtain ⟨p, dx, rfl, _⟩ := h
    rfl
  · obtain ⟨p, dx, rfl, hp, k⟩ := h
    refine ⟨_, pss_cons (ps_fld (pv 0) pe_int rfl) (pss_cons (ps_fld (pv 0) pe_int rfl) (pss_one (ps_fld (pv 0) (pe_lst pa_nil) rfl))), ?_⟩
    refine ⟨_, rfl, p, C, dx, _, rfl, hp, T.cl, T.nQ, (by show 0 < 1000; decide), ?_⟩
    refine ⟨_, rfl, p, C, dx, _, rfl, upd_same, T.cl, T.nK, (by show 1 < 1000; decide), ?_⟩
    refine ⟨Nat.zero_le _, fun l hl => ?_⟩
    have lp : p ≠ l := fun e => by subst e; rw [upd_same] at hl; cases hl
    refine ⟨_, rfl, p, C, dx, _, rfl, (by rw [upd_ne lp, upd_same]), T.cl, T.nA, (by show 2 < 1000; decide), ?_⟩
    have hl0 : H l = none := by rw [upd_ne (Ne.symm lp), upd_ne (Ne.symm lp)] at hl; exact hl
    refine k _ l ?_ hl0 ?_ ?_
    · rw [upd_same]
      show some (HO.ins C dx (putF "amplitudes" (.ref l) (putF "k" (.int 0) (putF "qubits" (.int 0) [])))) = _
      rfl
    · rw [upd_ne (Ne.symm lp), upd_same]
    · exact (((Kp.refl [p] H).upd (.inl (by simp))).upd (.inl (by simp))).upd (.inr hl0) |>.upd (.inl (by simp))
/-! begin -/
theorem flat_one {α : Type} (x : α) : ∀ m, (List.replicate m [x]).flatten = List.replicate m x
  | 0 => rfl
  | m + 1 => by rw [List.replicate_succ, List.flatten_cons, flat_one x m]; rfl
theorem rep_tups {H : Hp} {zA : Addr} {u : Num} (h : SqT K H zA (NT u)) : ∀ m, Tups K H (List.replicate m zA) (List.replicate m u)
  | 0 => .nil
  | m + 1 => .cons h (rep_tups h m)
theorem fresh_amps (n p : Nat) : (List.replicate (2 ^ n) Sg24.zero).set p Sg24.one = (Sg24.fresh n p).amps := by
  apply List.ext_getElem?
  intro i
  show _ = ((List.range (2 ^ n)).map fun i => if i = p then Sg24.one else Sg24.zero)[i]?
  rw [List.getElem?_set, List.getElem?_map, List.getElem?_replicate, List.length_replicate]
  by_cases h : i < 2 ^ n
  · rw [List.getElem?_range h]
    by_cases e : p = i
    · subst e; simp [h]
    · simp [h, e, Ne.symm e]
  · rw [List.getElem?_eq_none (by rw [List.length_range]; omega)]
    by_cases e : p = i
    · subst e; simp [h]
    · simp [h, e]
def spBegin (K : PySem.W.Frag) (C : Addr) : Sp := fun vs H Q _ => ∃ (a dx l0 : Addr) (n place n0 k0 : Int), vs = [.ref a, .int n, .int place] ∧ H a = some (.ins C dx (sf n0 k0 l0)) ∧ 0 ≤ place ∧
  (Sg24.startOk n place.toNat = false → Q (.int (-1)) H) ∧
  (Sg24.startOk n place.toNat = true → ∀ (H' : Hp) (l : Addr), StAt K C H' a l (Sg24.fresh n.toNat place.toNat) → H l = none → Kp [a] H H' → Q (.int 0) H')
theorem scBegin : FnScope ["self", "n", "place"] ["self", "n", "place"] (defScope sBegin) := ⟨rfl, rfl, rfl, by decide +kernel, rfl, by decide +kernel, by decide +kernel⟩
theorem start_iff (n : Int) (p : Nat) : Sg24.startOk n p = true ↔ 1 ≤ n ∧ n ≤ 10 ∧ p < 2 ^ n.toNat := by
  simp [Sg24.startOk, Bool.and_eq_true]
theorem ok_begin {f : Addr} {fd : FuncData} (F : Fun K "begin" "State.begin" sBegin f fd) (T : Ts K mg C tA) : FnOk P w K mg base CX0 1 f fd ["self", "n", "place"] (spBegin K C) := by
  refine F.ok scBegin (fun vs H Q E h => ?_) (fun cdv A outer s H vs Q E hr h => ?_)
  · obtain ⟨a, dx, l0, n, place, n0, k0, rfl, _⟩ := h
    rfl
  · obtain ⟨a, dx, l0, n, place, n0, k0, rfl, ha, hp, kno, kyes⟩ := h
    obtain ⟨zA, hzA, zT⟩ := T.zr
    obtain ⟨oA, hoA, oT⟩ := T.on
    refine ⟨_, pss_cons (ps_if (pw_or (pt_cmpR op_lt (pv 1) pe_int (nomark _)) (pw_or (pt_cmpR op_gt (pv 1) (pe_gi T.mq) (nomark _)) (pw_or1 (pt_cmpR op_ge (pv 2) (pe_op op_shl pe_int (pv 1)) (nomark _))))).pt (pss_one (ps_ret (pe_gi T.rf))) pss_nil)
      (pss_cons (ps_fld (pv 0) (pv 1) rfl)
      (pss_cons (ps_fld (pv 0) pe_int rfl)
      (pss_cons (ps_fld (pv 0) (pe_op op_rep (pe_lst (pa_cons (pe_go hzA) pa_nil)) (pe_op op_shl pe_int (pv 1))) rfl)
      (pss_cons (ps_asg (pe_go hoA) (pg_sub (pe_fld (pv 0) rfl) (pv 2) set_list))
      (pss_one (ps_ret (pe_gi T.dn))))))), ?_⟩
    refine ⟨_, rfl, _, _, rfl, rfl, _, rfl, ?_⟩
    refine ite2 (fun c => iteT ?_) (fun c => ?_)
    · have c : n < 1 := of_decide_eq_true c
      exact kno (by rw [Bool.eq_false_iff]; intro z; have := ((start_iff _ _).mp z).1; omega)
    have c : ¬ n < 1 := fun z => c (decide_eq_true z)
    refine ⟨_, rfl, _, _, rfl, rfl, _, rfl, ?_⟩
    refine ite2 (fun c2 => iteT ?_) (fun c2 => ?_)
    · have c2 : (10 : Int) < n := of_decide_eq_true c2
      exact kno (by rw [Bool.eq_false_iff]; intro z; have := ((start_iff _ _).mp z).2.1; omega)
    have c2 : ¬ (10 : Int) < n := fun z => c2 (decide_eq_true z)
    obtain ⟨m, rfl⟩ : ∃ m : Nat, n = (m : Int) := ⟨n.toNat, by omega⟩
    obtain ⟨q, rfl⟩ : ∃ q : Nat, place = (q : Int) := ⟨place.toNat, by omega⟩
    have sh : (1 : Int) * 2 ^ ((m : Nat) : Int).toNat = ((2 ^ m : Nat) : Int) := Bt.shl1 m
    have m10 : m ≤ 10 := by omega
    have p10 : 2 ^ m ≤ 1024 := Nat.le_trans (Nat.pow_le_pow_right (n := 2) (by decide) m10) (by decide)
    refine ⟨_, rfl, _, rfl, _, _, rfl, rfl, ⟨by omega, by omega, by decide⟩, _, _, rfl, rfl, _, rfl, ?_⟩
    rw [sh]
    refine ite2 (fun c3 => ?_) (fun c3 => ?_)
    · have c3 : ((2 ^ m : Nat) : Int) ≤ (q : Int) := of_decide_eq_true c3
      exact kno (by rw [Bool.eq_false_iff]; intro z; have := ((start_iff _ _).mp z).2.2; rw [Int.toNat_natCast, Int.toNat_natCast] at this; omega)
    have c3 : ¬ ((2 ^ m : Nat) : Int) ≤ (q : Int) := fun z => c3 (decide_eq_true z)
    have hq : q < 2 ^ m := by omega
    have kyes := kyes ((start_iff _ _).mpr ⟨by omega, by omega, by rw [Int.toNat_natCast, Int.toNat_natCast]; exact hq⟩)
    refine ⟨_, rfl, _, rfl, a, C, dx, _, rfl, ha, T.cl, T.nQ, sf_len _ _ _, ?_⟩
    rw [put_q]
    refine ⟨_, rfl, a, C, dx, _, rfl, upd_same, T.cl, T.nK, sf_len _ _ _, ?_⟩
    rw [put_k, upd_upd]
    refine ⟨(by show 1 ≤ sizeLine; decide), fun z hz => ?_⟩
    refine ⟨_, rfl, _, _, rfl, rfl, ⟨by omega, by omega, by decide⟩, ?_⟩
    refine ⟨z, _, _, rfl, rfl, upd_same, ?_, ?_, ?_, fun l hl => ?_⟩
    · rw [sh]; omega
    · rw [sh]; have : ((2 ^ m : Nat) : Int) ≤ 1024 := by omega
      omega
    · rw [sh, Int.toNat_natCast]; show 1 * 2 ^ m ≤ sizeLine
      exact Nat.le_trans (by omega) (show 1024 ≤ sizeLine by decide)
    rw [sh, Int.toNat_natCast, flat_one]
    have az : a ≠ z := fun e => by subst e; rw [upd_same] at hz; cases hz
    have zl : z ≠ l := fun e => by subst e; rw [upd_same] at hl; cases hl
    have al : a ≠ l := fun e => by subst e; rw [upd_ne az, upd_same] at hl; cases hl
    have hz0 : H z = none := by rw [upd_ne (Ne.symm az)] at hz; exact hz
    have hl0 : H l = none := by rw [upd_ne (Ne.symm zl), upd_ne (Ne.symm al)] at hl; exact hl
    refine ⟨_, rfl, a, C, dx, _, rfl, (by rw [upd_ne al, upd_ne az, upd_same]), T.cl, T.nA, sf_len _ _ _, ?_⟩
    rw [put_a]
    refine ⟨_, rfl, a, C, dx, _, _, rfl, upd_same, T.cl, T.nA, sf_a _ _ _, _, rfl, l, _, _, q, rfl, rfl, (by rw [upd_ne (Ne.symm al), upd_same]), ?_, ?_⟩
    · rw [List.length_replicate]; unfold ixN; rw [if_pos (by omega), if_pos (by omega), Int.toNat_natCast]
    · refine kyes _ l ⟨dx, (List.replicate (2 ^ m) zA).set q oA, ?_, ?_, ?_⟩ hl0 ?_
      · rw [upd_ne al, upd_same]; rfl
      · rw [upd_same, List.map_set, List.map_replicate]
      · rw [Int.toNat_natCast, Int.toNat_natCast, ← fresh_amps]
        exact Tups.set (oT _) q (rep_tups (zT _) _)
      · exact (((((Kp.refl [a] H).upd (.inl (by simp))).upd (.inr hz0)).upd (.inr hl0)).upd (.inl (by simp))).upd (.inr hl0)
end
end Fq

end

section
set_option Elab.async false
set_option linter.all false
set_option maxRecDepth 100000
namespace Fq
open PySem PySem.Spec PyProof.Rows L2
open Sg24 (Num)
/-! allows -/
theorem or_pow_zero {on off t : Nat} : (on ||| off) &&& 2 ^ t = 0 ↔ on.testBit t = false ∧ off.testBit t = false := by
  rw [Mq.and_zero_iff]
  constructor
  · intro h
    have := h t (by rw [Nat.testBit_two_pow]; simp)
    rw [Nat.testBit_or, Bool.or_eq_false_iff] at this
    exact this
  · rintro ⟨a, b⟩ i hi
    rw [Nat.testBit_two_pow] at hi
    have : t = i := by simpa using hi
    subst this
    rw [Nat.testBit_or, a, b]; rfl
theorem or_lt_iff {on off n : Nat} : (on ||| off) / 2 ^ n = 0 ↔ on < 2 ^ n ∧ off < 2 ^ n := by
  rw [Nat.div_eq_zero_iff]
  constructor
  · intro h
    have h : on ||| off < 2 ^ n := by
      rcases h with h | h
      · have := Nat.two_pow_pos n; omega
      · exact h
    exact ⟨Nat.lt_of_le_of_lt Nat.left_le_or h, Nat.lt_of_le_of_lt Nat.right_le_or h⟩
  · rintro ⟨a, b⟩; exact .inr (Nat.or_lt_two_pow a b)
theorem may_false {s : Sg24.State} {kind t : Int} {on off : Nat} (h : ¬ Mq.May s kind t on off) : Sg24.may s kind t on off = false := by
  rw [Bool.eq_false_iff]; exact fun z => h (Mq.may_iff.mp z)
def spAllows (K : PySem.W.Frag) (C : Addr) : Sp := fun vs H Q _ => ∃ (a l : Addr) (s : Sg24.State) (kind t : Int) (on off : Nat), vs = [.ref a, .int kind, .int t, .int (on : Nat), .int (off : Nat)] ∧ StAt K C H a l s ∧ s.n ≤ 10 ∧ Q (.bl (Sg24.may s kind t on off)) H
section
variable {P : Program} {w : World} {K : PySem.W.Frag} {mg : Str → Option Value} {base : Heap} {C tA : Addr}
theorem scAllows : FnScope ["self", "kind", "target", "on", "off"] ["self", "kind", "target", "on", "off"] (defScope sAllows) := ⟨rfl, rfl, rfl, by decide +kernel, rfl, by decide +kernel, by decide +kernel⟩
theorem ok_allows {f : Addr} {fd : FuncData} (F : Fun K "allows" "State.allows" sAllows f fd) (T : Ts K mg C tA) : FnOk P w K mg base CX0 1 f fd ["self", "kind", "target", "on", "off"] (spAllows K C) := by
  refine F.ok scAllows (fun vs H Q E h => ?_) (fun cdv A outer s H vs Q E hr h => ?_)
  · obtain ⟨a, l, s, kind, t, on, off, rfl, _⟩ := h
    rfl
  · obtain ⟨a, l, s, kind, t, on, off, rfl, ⟨dx, rs, ha, hl, ht⟩, hn, k⟩ := h
    refine ⟨_, pss_cons (ps_if (pw_or (pt_cmpR op_lt (pv 1) pe_int (nomark _)) (pw_or (pt_cmpR op_gt (pv 1) (pe_gi T.lk) (nomark _)) (pw_or (pt_cmpR op_lt (pv 2) pe_int (nomark _)) (pw_or1 (pt_cmpR op_ge (pv 2) (pe_fld (pv 0) rfl) (nomark _)))))).pt (pss_one (ps_ret pe_bl)) pss_nil)
      (pss_cons (ps_if (pt_cmpR op_ne (pe_op op_shr (pe_op op_or (pv 3) (pv 4)) (pe_fld (pv 0) rfl)) pe_int (nomark _)) (pss_one (ps_ret pe_bl)) pss_nil)
      (pss_one (ps_ret (pe_and (pe_cmpR op_eq (pe_op op_and (pe_op op_or (pv 3) (pv 4)) (pe_op op_shl pe_int (pv 2))) pe_int (nomark _)) (pe_one (pe_cmpR op_eq (pe_op op_and (pv 3) (pv 4)) pe_int (nomark _))))))), ?_⟩
    have no : ¬ Mq.May s kind t on off → Q (.bl false) H := fun z => by rw [may_false z] at k; exact k
    refine ⟨_, rfl, _, _, rfl, rfl, _, rfl, ?_⟩
    refine ite2 (fun c => iteT (no fun m => ?_)) (fun c1 => ?_)
    · have c : kind < 0 := of_decide_eq_true c
      have := m.k0; omega
    refine ⟨_, rfl, _, _, rfl, rfl, _, rfl, ?_⟩
    refine ite2 (fun c => iteT (no fun m => ?_)) (fun c2 => ?_)
    · have c : (7 : Int) < kind := of_decide_eq_true c
      have := m.k7; omega
    refine ⟨_, rfl, _, _, rfl, rfl, _, rfl, ?_⟩
    refine ite2 (fun c => iteT (no fun m => ?_)) (fun c3 => ?_)
    · have c : t < 0 := of_decide_eq_true c
      have := m.t0; omega
    refine ⟨_, rfl, _, rfl, a, C, dx, _, _, rfl, ha, T.cl, T.nQ, sf_q _ _ _, _, _, rfl, rfl, _, rfl, ?_⟩
    refine ite2 (fun c => no fun m => ?_) (fun c4 => ?_)
    · have c : ((s.n : Nat) : Int) ≤ t := of_decide_eq_true c
      have := m.tn; omega
    have c1 : ¬ kind < 0 := fun z => c1 (decide_eq_true z)
    have c2 : ¬ (7 : Int) < kind := fun z => c2 (decide_eq_true z)
    have c3 : ¬ t < 0 := fun z => c3 (decide_eq_true z)
    have c4 : ¬ ((s.n : Nat) : Int) ≤ t := fun z => c4 (decide_eq_true z)
    obtain ⟨u, rfl⟩ : ∃ u : Nat, t = (u : Int) := ⟨t.toNat, by omega⟩
    refine ⟨_, rfl, _, rfl, _, _, rfl, rfl, _, rfl, a, C, dx, _, _, rfl, ha, T.cl, T.nQ, sf_q _ _ _, _, _, rfl, rfl, (by show (0 : Int) ≤ ((s.n : Nat) : Int); omega), rfl, _, rfl, ?_⟩
    have e1 : Builtin.bitOr (on : Int) (off : Int) / 2 ^ ((s.n : Nat) : Int).toNat = (((on ||| off) / 2 ^ s.n : Nat) : Int) := by
      rw [Bt.bor, Int.toNat_natCast]; simp
    refine ite2 (fun c => no fun m => ?_) (fun c5 => ?_)
    · have c : ¬ Builtin.bitOr (on : Int) (off : Int) / 2 ^ ((s.n : Nat) : Int).toNat = 0 := by
        intro z
        rw [Bool.not_eq_true', decide_eq_false_iff_not] at c
        exact c (congrArg V.int z)
      rw [e1] at c
      exact c (by rw [or_lt_iff.mpr ⟨m.on1, m.off1⟩]; rfl)
    have c5 : Builtin.bitOr (on : Int) (off : Int) / 2 ^ ((s.n : Nat) : Int).toNat = 0 := by
      rw [Bool.not_eq_true', decide_eq_false_iff_not, Classical.not_not] at c5
      exact V.int.inj c5
    rw [e1] at c5
    have c5 := or_lt_iff.mp (by omega : (on ||| off) / 2 ^ s.n = 0)
    have sh : (1 : Int) * 2 ^ ((u : Nat) : Int).toNat = ((2 ^ u : Nat) : Int) := Bt.shl1 u
    refine ⟨_, rfl, _, rfl, _, _, rfl, rfl, _, rfl, _, _, rfl, rfl, ⟨by omega, by omega, by decide⟩, _, _, rfl, rfl, rfl, _, rfl, ?_⟩
    have ev : ∀ x : Nat, decide (V.int ((x : Nat) : Int) = V.int 0) = decide (x = 0) := fun x => by
      by_cases h : x = 0
      · subst h; rfl
      · rw [decide_eq_false h, decide_eq_false]; intro z; injection z with z; omega
    have e2 : decide (V.int (Builtin.bitAnd (Builtin.bitOr (on : Int) (off : Int)) ((1 : Int) * 2 ^ ((u : Nat) : Int).toNat)) = V.int 0) = decide ((on ||| off) &&& 2 ^ u = 0) := by rw [sh, Bt.bor, Bt.band, ev]
    refine ite2 (fun c => ?_) (fun c => ?_)
    · have c := or_pow_zero.mp (of_decide_eq_true (e2.symm.trans c))
      refine ⟨_, rfl, _, rfl, _, _, rfl, rfl, rfl, ?_⟩
      show Q (.bl (decide (V.int (Builtin.bitAnd (on : Int) (off : Int)) = V.int 0))) H
      rw [Bt.band, ev]
      have : Sg24.may s kind (u : Int) on off = decide (on &&& off = 0) := by
        rw [Bool.eq_iff_iff, Mq.may_iff, decide_eq_true_eq]
        constructor
        · exact fun m => m.dis
        · exact fun z => ⟨by omega, by omega, by omega, by omega, c5.1, c5.2, z, by rw [Int.toNat_natCast]; exact c.1, by rw [Int.toNat_natCast]; exact c.2⟩
      rw [← this]; exact k
    · refine no fun m => c (e2.trans (decide_eq_true (or_pow_zero.mpr ?_)))
      have a := m.on2
      have b := m.off2
      rw [Int.toNat_natCast] at a b
      exact ⟨a, b⟩
/-! put -/
theorem for_by {J : It} {g : TG} {tb : TS} {D : Ends} {σ : L2.St} {H : Hp} (n : Nat) (Pv : Nat → L2.St → Hp → Prop) (h0 : Pv 0 σ H) (go : ∀ i σ H, i < n → Pv i σ H → J.go i H) (stop : ∀ σ H, Pv n σ H → J.stop n H ∧ D.nx σ H)
    (hs : ∀ i σ H x H', i < n → Pv i σ H → J.yld i H x H' → g x σ H' fun σ2 H2 => tb { D with nx := Pv (i + 1), ct := Pv (i + 1), bk := D.nx } σ2 H2) :
    ∃ W : Nat → Nat → L2.St → Hp → Prop, (∃ m, W 0 m σ H) ∧ ∀ i m σ H, W i m σ H →
      (J.stop i H ∧ D.nx σ H) ∨ (J.go i H ∧ ∃ N : L2.St → Hp → Prop, (∀ σ' H', N σ' H' → ∃ m', m' < m ∧ W (i + 1) m' σ' H') ∧ ∀ x H', J.yld i H x H' → g x σ H' fun σ2 H2 => tb { D with nx := N, ct := N, bk := D.nx } σ2 H2) := by
  refine ⟨fun i m σ H => m = n - i ∧ i ≤ n ∧ Pv i σ H, ⟨n, by simp, Nat.zero_le _, h0⟩, ?_⟩
  rintro i m σ H ⟨rfl, hi, p⟩
  by_cases hlt : i < n
  · exact .inr ⟨go i σ H hlt p, Pv (i + 1), fun σ' H' p' => ⟨n - (i + 1), by omega, rfl, hlt, p'⟩, fun x H' y => hs i σ H x H' hlt p y⟩
  · have e : i = n := by omega
    subst e
    exact .inl (stop σ H p)
theorem putM_snoc (t p : Nat) (x y : Num) : ∀ (r : List (Nat × Num × Num)) (l : List Num), Mq.putM t (r ++ [(p, x, y)]) l = ((Mq.putM t r l).set p x).set (p ||| 2 ^ t) y
  | [], l => rfl
  | (q, u, v) :: r, l => by
    show Mq.putM t (r ++ [(p, x, y)]) _ = _
    rw [putM_snoc t p x y r]; rfl
def spPut (K : PySem.W.Frag) (C : Addr) : Sp := fun vs H Q _ => ∃ (a l pl xl yl : Addr) (s : Sg24.State) (t : Nat) (zs : List (Nat × Num × Num)), vs = [.ref a, .ref pl, .int ((2 ^ t : Nat) : Int), .ref xl, .ref yl] ∧ StAt K C H a l s ∧
  H pl = some (.lst (zs.map fun z => V.int (z.1 : Nat))) ∧ NumsAt K H xl (zs.map (·.2.1)) ∧ NumsAt K H yl (zs.map (·.2.2)) ∧ pl ≠ l ∧ xl ≠ l ∧ yl ≠ l ∧ (∀ z ∈ zs, z.1 < s.amps.length ∧ z.1 ||| 2 ^ t < s.amps.length) ∧
  ∀ H' : Hp, StAt K C H' a l { s with amps := Mq.putM t zs s.amps } → Kp [l] H H' → Q .non H'
theorem scPut : FnScope ["self", "places", "bit", "xs", "ys", "place", "x", "y"] ["self", "places", "bit", "xs", "ys"] (defScope sPut) := ⟨rfl, rfl, rfl, by decide +kernel, rfl, by decide +kernel, by decide +kernel⟩
theorem ok_put {f : Addr} {fd : FuncData} (F : Fun K "put" "State.put" sPut f fd) (T : Ts K mg C tA) : FnOk P w K mg base CX0 1 f fd ["self", "places", "bit", "xs", "ys"] (spPut K C) := by
  refine F.ok scPut (fun vs H Q E h => ?_) (fun cdv A outer s H vs Q E hr h => ?_)
  · obtain ⟨a, l, pl, xl, yl, s, t, zs, rfl, _⟩ := h
    rfl
  · obtain ⟨a, l, pl, xl, yl, s, t, zs, rfl, ⟨dx, rs, ha, hl, ht⟩, hp, ⟨xr, hx, xt⟩, ⟨yr, hy, yt⟩, pn, xn, yn, hr2, k⟩ := h
    have al : a ≠ l := ne_of ha hl (fun z => nomatch z)
    have lx : xr.length = zs.length := by have := Paired.length xt; rwa [List.length_map] at this
    have ly : yr.length = zs.length := by have := Paired.length yt; rwa [List.length_map] at this
    refine ⟨_, pss_one (ps_for PassesOwn.never rfl (pi_zip3 rfl T.zp (pa_cons (pv 1) (pa_cons (pv 3) (pa_cons (pv 4) pa_nil))))
        (pg_tup rfl (pgs_cons (pg_name (i := 5) scPut.nd rfl (Or.inl rfl)) (pgs_cons (pg_name (i := 6) scPut.nd rfl (Or.inl rfl)) (pgs_cons (pg_name (i := 7) scPut.nd rfl (Or.inl rfl)) pgs_nil))))
        (pss_cons (ps_asg (pv 6) (pg_sub (pe_fld (pv 0) rfl) (pv 5) set_list))
        (pss_one (ps_asg (pv 7) (pg_sub (pe_fld (pv 0) rfl) (pe_op op_or (pv 5) (pv 2)) set_list))))), ?_⟩
    refine ⟨_, rfl, _, rfl, _, rfl, pl, xl, yl, _, _, _, rfl, SqL.of hp, SqL.of hx, SqL.of hy, ?_⟩
    refine for_by zs.length (fun i σ H' => (∃ x1 x2 x3 : Option V, σ = [some (.ref a), some (.ref pl), some (.int ((2 ^ t : Nat) : Int)), some (.ref xl), some (.ref yl), x1, x2, x3]) ∧
        H' a = some (.ins C dx (sf (s.n : Nat) (s.k : Nat) l)) ∧ (∃ rs : List Addr, H' l = some (.lst (rs.map V.ref)) ∧ Tups K H' rs (Mq.putM t (zs.take i) s.amps)) ∧ Kp [l] H H')
      ⟨⟨_, _, _, rfl⟩, ha, ⟨rs, hl, ht⟩, Kp.refl _ _⟩ ?_ ?_ ?_
    · rintro i σ H' hi ⟨_, _, _, kp⟩
      obtain ⟨r, h1, _⟩ := Tups.get xt (i := i) (u := zs[i].2.1) (by rw [List.getElem?_map, List.getElem?_eq_getElem hi]; rfl)
      obtain ⟨q, h2, _⟩ := Tups.get yt (i := i) (u := zs[i].2.2) (by rw [List.getElem?_map, List.getElem?_eq_getElem hi]; rfl)
      refine ⟨_, _, _, _, _, _, SqL.of (kp pl _ hp (by simp [pn])), SqL.of (kp xl _ hx (by simp [xn])), SqL.of (kp yl _ hy (by simp [yn])), (by rw [List.getElem?_map, List.getElem?_eq_getElem hi]; rfl), (by rw [List.getElem?_map, h1]; rfl), (by rw [List.getElem?_map, h2]; rfl)⟩
    · rintro σ H' ⟨_, ha', ⟨rs', hl', ht'⟩, kp⟩
      rw [List.take_length] at ht'
      exact ⟨⟨_, SqL.of (kp pl _ hp (by simp [pn])), by rw [List.length_map]; exact Nat.le_refl _⟩, k H' ⟨dx, rs', ha', hl', ht'⟩ kp⟩
    · rintro i σ H' x H2 hi ⟨⟨x1, x2, x3, rfl⟩, ha', ⟨rs', hl', ht'⟩, kp⟩ ⟨Tq, y1, y2, y3, rfl, hT, rfl, e1, e2, e3⟩
      obtain ⟨r, h1, t1⟩ := Tups.get xt (i := i) (u := zs[i].2.1) (by rw [List.getElem?_map, List.getElem?_eq_getElem hi]; rfl)
      obtain ⟨q, h2, t2⟩ := Tups.get yt (i := i) (u := zs[i].2.2) (by rw [List.getElem?_map, List.getElem?_eq_getElem hi]; rfl)
      have f1 : y1 = .int (zs[i].1 : Nat) := by
        have := e1 _ (SqL.of (kp pl _ hp (by simp [pn])))
        rw [List.getElem?_map, List.getElem?_eq_getElem hi] at this
        exact (Option.some.inj this).symm
      have f2 : y2 = .ref r := by
        have := e2 _ (SqL.of (kp xl _ hx (by simp [xn])))
        rw [List.getElem?_map, h1] at this
        exact (Option.some.inj this).symm
      have f3 : y3 = .ref q := by
        have := e3 _ (SqL.of (kp yl _ hy (by simp [yn])))
        rw [List.getElem?_map, h2] at this
        exact (Option.some.inj this).symm
      subst f1; subst f2; subst f3
      have kt : Tk H H' := ⟨fun b xs e => kp b _ e (by rw [List.mem_singleton]; rintro rfl; rw [hl] at e; cases e), fun b o u e => kp b _ e (by rw [List.mem_singleton]; rintro rfl; rw [hl] at e; cases e)⟩
      have aT : a ≠ Tq := fun e => by subst e; rw [ha'] at hT; cases hT
      have lT : l ≠ Tq := fun e => by subst e; rw [hl'] at hT; cases hT
      have hm := hr2 _ (List.getElem_mem hi)
      have len : rs'.length = s.amps.length := by rw [Paired.length ht', Mq.putM_length]
      refine ⟨Tq, _, rfl, SqT.of upd_same, rfl, _, _, rfl, _, _, rfl, _, _, rfl, rfl, ?_⟩
      -- self.amplitudes[place] = x
      refine ⟨_, rfl, _, rfl, a, C, dx, _, _, rfl, (by rw [upd_ne aT]; exact ha'), T.cl, T.nA, sf_a _ _ _, _, rfl, l, _, _, zs[i].1, rfl, rfl, (by rw [upd_ne lT]; exact hl'), ?_, ?_⟩
      · unfold ixN; rw [List.length_map, if_pos (by omega), if_pos (by omega), Int.toNat_natCast]
      -- self.amplitudes[place | bit] = y
      refine ⟨_, rfl, _, rfl, a, C, dx, _, _, rfl, (by rw [upd_ne al, upd_ne aT]; exact ha'), T.cl, T.nA, sf_a _ _ _, _, rfl, _, rfl, _, _, rfl, rfl, l, _, _, zs[i].1 ||| 2 ^ t, rfl, rfl, upd_same, ?_, ?_⟩
      · rw [Bt.bor]; unfold ixN; rw [List.length_set, List.length_map, if_pos (by omega), if_pos (by omega), Int.toNat_natCast]
      refine ⟨⟨_, _, _, rfl⟩, (by rw [upd_ne al, upd_ne al, upd_ne aT]; exact ha'), ⟨(rs'.set zs[i].1 r).set (zs[i].1 ||| 2 ^ t) q, ?_, ?_⟩, ?_⟩
      · rw [upd_same, List.map_set, List.map_set]
      · rw [take_snoc' (List.getElem?_eq_getElem hi), show zs[i] = (zs[i].1, zs[i].2.1, zs[i].2.2) from rfl, putM_snoc]
        have k1 : Tk H' (upd H' Tq (.tup [.int (zs[i].1 : Nat), .ref r, .ref q])) := tk_none hT
        have k2 := k1.trans (tk_lst (o := .lst ((rs'.map V.ref).set zs[i].1 (.ref r))) (show (upd H' Tq (.tup [.int (zs[i].1 : Nat), .ref r, .ref q])) l = some (.lst (rs'.map V.ref)) by rw [upd_ne lT]; exact hl'))
        have k3 := k2.trans (tk_lst (o := .lst (((rs'.map V.ref).set zs[i].1 (.ref r)).set (zs[i].1 ||| 2 ^ t) (.ref q))) upd_same)
        exact Tups.set ((kt.trans k3).sqT t2) _ (Tups.set ((kt.trans k3).sqT t1) _ (Tups.tk ht' k3))
      · have hT0 : H Tq = none := by
          cases e : H Tq with
          | none => rfl
          | some o => rw [kp Tq o e (by simp [Ne.symm lT])] at hT; cases hT
        exact ((kp.upd (.inr hT0)).upd (.inl (by simp))).upd (.inl (by simp))
end
end Fq

end

section
set_option Elab.async false
set_option linter.all false
set_option maxRecDepth 100000
namespace Fq
open PySem PySem.Spec PyProof.Rows L2
open Sg24 (Num)
/-! turned -/
abbrev gABCD (K : PySem.W.Frag) : TG := gTup K 4 (gCons (gName 2) (gCons (gName 3) (gCons (gName 4) (gCons (gName 5) gNil))))
section
variable {P : Program} {w : World} {K : PySem.W.Frag} {mg : Str → Option Value} {base : Heap} {C tA : Addr}
abbrev tNg (i : Nat) : TE := tUn (rU fun i => .int (-i)) (tVar i)
theorem lc_t1 {D : Ends} {H : Hp} {a : Addr} {e x2 x3 x4 x5 : Option V} {us : List Num} (h : NumsAt K H a us) (hz : us.length ≤ 1024)
    (k : ∀ (H' : Hp) (p : Addr), Same H H' → H p = none → NumsAt K H' p (us.map Sg24.turned) → D.nx [some (.ref p), e, x2, x3, x4, x5] H') :
    tAsg (tLc (iList K (tVar 0)) (gABCD K) tYes (tTup (tCons (tNg 5) (tCons (tVar 2) (tCons (tVar 3) (tCons (tVar 4) tNil))))) [2, 3, 4, 5]) (gName 0) D [some (.ref a), e, x2, x3, x4, x5] H := by
  obtain ⟨rs0, ha0, t0⟩ := id h
  refine ⟨_, rfl, a, rfl, ⟨_, SqL.of ha0⟩, ?_⟩
  refine lc_nums (Q := fun x H1 => gName 0 x [some (.ref a), e, x2, x3, x4, x5] H1 D.nx) (us := us) Sg24.turned h hz (fun u r H' R Z h1 kk => ?_) k
  refine ⟨r, _, rfl, h1, rfl, _, _, rfl, _, _, rfl, _, _, rfl, _, _, rfl, rfl, rfl, ?_⟩
  exact ⟨_, rfl, _, rfl, _, rfl, _, rfl, _, rfl, (by show 4 ≤ sizeLine; decide), fun p hp => kk p hp⟩
theorem lc_t2 {D : Ends} {H : Hp} {a : Addr} {e x2 x3 x4 x5 : Option V} {us : List Num} (h : NumsAt K H a us) (hz : us.length ≤ 1024)
    (k : ∀ (H' : Hp) (p : Addr), Same H H' → H p = none → NumsAt K H' p (us.map (Sg24.turns 2)) → D.nx [some (.ref p), e, x2, x3, x4, x5] H') :
    tAsg (tLc (iList K (tVar 0)) (gABCD K) tYes (tTup (tCons (tNg 4) (tCons (tNg 5) (tCons (tVar 2) (tCons (tVar 3) tNil))))) [2, 3, 4, 5]) (gName 0) D [some (.ref a), e, x2, x3, x4, x5] H := by
  obtain ⟨rs0, ha0, t0⟩ := id h
  refine ⟨_, rfl, a, rfl, ⟨_, SqL.of ha0⟩, ?_⟩
  refine lc_nums (Q := fun x H1 => gName 0 x [some (.ref a), e, x2, x3, x4, x5] H1 D.nx) (us := us) (Sg24.turns 2) h hz (fun u r H' R Z h1 kk => ?_) k
  refine ⟨r, _, rfl, h1, rfl, _, _, rfl, _, _, rfl, _, _, rfl, _, _, rfl, rfl, rfl, ?_⟩
  exact ⟨_, rfl, _, rfl, _, rfl, _, rfl, _, rfl, _, rfl, (by show 4 ≤ sizeLine; decide), fun p hp => kk p hp⟩
theorem lc_t4 {D : Ends} {H : Hp} {a : Addr} {e x2 x3 x4 x5 : Option V} {us : List Num} (h : NumsAt K H a us) (hz : us.length ≤ 1024)
    (k : ∀ (H' : Hp) (p : Addr), Same H H' → H p = none → NumsAt K H' p (us.map Sg24.neg) → D.nx [some (.ref p), e, x2, x3, x4, x5] H') :
    tAsg (tLc (iList K (tVar 0)) (gABCD K) tYes (tTup (tCons (tNg 2) (tCons (tNg 3) (tCons (tNg 4) (tCons (tNg 5) tNil))))) [2, 3, 4, 5]) (gName 0) D [some (.ref a), e, x2, x3, x4, x5] H := by
  obtain ⟨rs0, ha0, t0⟩ := id h
  refine ⟨_, rfl, a, rfl, ⟨_, SqL.of ha0⟩, ?_⟩
  refine lc_nums (Q := fun x H1 => gName 0 x [some (.ref a), e, x2, x3, x4, x5] H1 D.nx) (us := us) Sg24.neg h hz (fun u r H' R Z h1 kk => ?_) k
  refine ⟨r, _, rfl, h1, rfl, _, _, rfl, _, _, rfl, _, _, rfl, _, _, rfl, rfl, rfl, ?_⟩
  exact ⟨_, rfl, _, rfl, _, rfl, _, rfl, _, rfl, _, rfl, _, rfl, _, rfl, (by show 4 ≤ sizeLine; decide), fun p hp => kk p hp⟩
def spTurned (K : PySem.W.Frag) : Sp := fun vs H Q _ => ∃ (a : Addr) (us : List Num) (e : Nat), vs = [.ref a, .int (e : Nat)] ∧ NumsAt K H a us ∧ us.length ≤ 1024 ∧ (e = 1 ∨ e = 2 ∨ e = 4 ∨ e = 6 ∨ e = 7) ∧
  ∀ (H' : Hp) (p : Addr), Same H H' → H p = none → NumsAt K H' p (us.map (Sg24.turns e)) → Q (.ref p) H'
theorem scTurned : FnScope ["numbers", "eighths", "a", "b", "c", "d"] ["numbers", "eighths"] (defScope sTurned) := ⟨rfl, rfl, rfl, by decide +kernel, rfl, by decide +kernel, by decide +kernel⟩
theorem ok_turned {f : Addr} {fd : FuncData} (F : Fun K "turned" "turned" sTurned f fd) : FnOk P w K mg base CX0 1 f fd ["numbers", "eighths"] (spTurned K) := by
  refine F.ok scTurned (fun vs H Q E h => ?_) (fun cdv A outer s H vs Q E hr h => ?_)
  · obtain ⟨a, us, e, rfl, _⟩ := h
    rfl
  · obtain ⟨a, us, e, rfl, ha, hz, he, k⟩ := h
    refine ⟨_, pss_cons (ps_if (pt_truth (pe_op op_and (pv 1) pe_int) (fun _ => rfl)) (pss_one (ps_setLc (i := 0) (own := [("a", 2), ("b", 3), ("c", 4), ("d", 5)]) rfl scTurned.nd rfl rfl rfl (pi_list (pv 0))
        (blk_of (N := ["numbers", "eighths", "a", "b", "c", "d"]) (sc := defScope sTurned) (by decide +kernel))
        (fun _ _ _ _ _ => pg_tupK (K := K) (n := 4) rfl rfl (pgs_cons (pg_name (i := 2) scTurned.nd rfl (Or.inl rfl) (Or.inr rfl)) (pgs_cons (pg_name (i := 3) scTurned.nd rfl (Or.inl rfl) (Or.inr rfl)) (pgs_cons (pg_name (i := 4) scTurned.nd rfl (Or.inl rfl) (Or.inr rfl)) (pgs_cons (pg_name (i := 5) scTurned.nd rfl (Or.inl rfl) (Or.inr rfl)) pgs_nil)))))
        (fun _ _ _ _ _ => pts_nil)
        (fun _ _ _ _ _ => pe_tup (pa_cons (pe_un un_neg (pv 5)) (pa_cons (pv 2) (pa_cons (pv 3) (pa_cons (pv 4) pa_nil))))))) pss_nil)
      (pss_cons (ps_if (pt_truth (pe_op op_and (pv 1) pe_int) (fun _ => rfl)) (pss_one (ps_setLc (i := 0) (own := [("a", 2), ("b", 3), ("c", 4), ("d", 5)]) rfl scTurned.nd rfl rfl rfl (pi_list (pv 0))
        (blk_of (N := ["numbers", "eighths", "a", "b", "c", "d"]) (sc := defScope sTurned) (by decide +kernel))
        (fun _ _ _ _ _ => pg_tupK (K := K) (n := 4) rfl rfl (pgs_cons (pg_name (i := 2) scTurned.nd rfl (Or.inl rfl) (Or.inr rfl)) (pgs_cons (pg_name (i := 3) scTurned.nd rfl (Or.inl rfl) (Or.inr rfl)) (pgs_cons (pg_name (i := 4) scTurned.nd rfl (Or.inl rfl) (Or.inr rfl)) (pgs_cons (pg_name (i := 5) scTurned.nd rfl (Or.inl rfl) (Or.inr rfl)) pgs_nil)))))
        (fun _ _ _ _ _ => pts_nil)
        (fun _ _ _ _ _ => pe_tup (pa_cons (pe_un un_neg (pv 4)) (pa_cons (pe_un un_neg (pv 5)) (pa_cons (pv 2) (pa_cons (pv 3) pa_nil))))))) pss_nil)
      (pss_cons (ps_if (pt_truth (pe_op op_and (pv 1) pe_int) (fun _ => rfl)) (pss_one (ps_setLc (i := 0) (own := [("a", 2), ("b", 3), ("c", 4), ("d", 5)]) rfl scTurned.nd rfl rfl rfl (pi_list (pv 0))
        (blk_of (N := ["numbers", "eighths", "a", "b", "c", "d"]) (sc := defScope sTurned) (by decide +kernel))
        (fun _ _ _ _ _ => pg_tupK (K := K) (n := 4) rfl rfl (pgs_cons (pg_name (i := 2) scTurned.nd rfl (Or.inl rfl) (Or.inr rfl)) (pgs_cons (pg_name (i := 3) scTurned.nd rfl (Or.inl rfl) (Or.inr rfl)) (pgs_cons (pg_name (i := 4) scTurned.nd rfl (Or.inl rfl) (Or.inr rfl)) (pgs_cons (pg_name (i := 5) scTurned.nd rfl (Or.inl rfl) (Or.inr rfl)) pgs_nil)))))
        (fun _ _ _ _ _ => pts_nil)
        (fun _ _ _ _ _ => pe_tup (pa_cons (pe_un un_neg (pv 2)) (pa_cons (pe_un un_neg (pv 3)) (pa_cons (pe_un un_neg (pv 4)) (pa_cons (pe_un un_neg (pv 5)) pa_nil))))))) pss_nil)
      (pss_one (ps_ret (pv 0))))), ?_⟩
    have b1 : ∀ e m : Nat, (Builtin.bitAnd (e : Int) (m : Int) != 0) = ((e &&& m) != 0) := fun e m => by
      rw [Bt.band, Bool.eq_iff_iff, bne_iff_ne, bne_iff_ne]; omega
    refine ⟨_, rfl, _, _, rfl, rfl, _, (b1 e 1).symm, ?_⟩
    rcases he with rfl | rfl | rfl | rfl | rfl
    · refine iteT (lc_t1 ha hz fun H1 p1 s1 n1 h1 => ?_)
      refine ⟨_, rfl, _, _, rfl, rfl, _, (b1 1 2).symm, iteF ?_⟩
      refine ⟨_, rfl, _, _, rfl, rfl, _, (b1 1 4).symm, iteF ?_⟩
      exact ⟨_, rfl, k H1 p1 s1 n1 h1⟩
    · refine iteF ?_
      refine ⟨_, rfl, _, _, rfl, rfl, _, (b1 2 2).symm, iteT (lc_t2 ha hz fun H1 p1 s1 n1 h1 => ?_)⟩
      refine ⟨_, rfl, _, _, rfl, rfl, _, (b1 2 4).symm, iteF ?_⟩
      exact ⟨_, rfl, k H1 p1 s1 n1 h1⟩
    · refine iteF ?_
      refine ⟨_, rfl, _, _, rfl, rfl, _, (b1 4 2).symm, iteF ?_⟩
      refine ⟨_, rfl, _, _, rfl, rfl, _, (b1 4 4).symm, iteT (lc_t4 ha hz fun H1 p1 s1 n1 h1 => ?_)⟩
      exact ⟨_, rfl, k H1 p1 s1 n1 h1⟩
    · refine iteF ?_
      refine ⟨_, rfl, _, _, rfl, rfl, _, (b1 6 2).symm, iteT (lc_t2 ha hz fun H1 p1 s1 n1 h1 => ?_)⟩
      refine ⟨_, rfl, _, _, rfl, rfl, _, (b1 6 4).symm, iteT (lc_t4 h1 (by rw [List.length_map]; exact hz) fun H2 p2 s2 n2 h2 => ?_)⟩
      refine ⟨_, rfl, k H2 p2 (s1.trans s2) (s1.free n2) ?_⟩
      rw [List.map_map] at h2; exact h2
    · refine iteT (lc_t1 ha hz fun H0 p0 s0 n0 h0 => ?_)
      refine ⟨_, rfl, _, _, rfl, rfl, _, (b1 7 2).symm, iteT (lc_t2 h0 (by rw [List.length_map]; exact hz) fun H1 p1 s1 n1 h1 => ?_)⟩
      refine ⟨_, rfl, _, _, rfl, rfl, _, (b1 7 4).symm, iteT (lc_t4 h1 (by rw [List.length_map, List.length_map]; exact hz) fun H2 p2 s2 n2 h2 => ?_)⟩
      refine ⟨_, rfl, k H2 p2 ((s0.trans s1).trans s2) ((s0.trans s1).free n2) ?_⟩
      rw [List.map_map, List.map_map] at h2; exact h2
/-! lessen -/
def spLessen (K : PySem.W.Frag) (C : Addr) : Sp := fun vs H Q _ => ∃ (a l : Addr) (s : Sg24.State) (f : Nat), vs = [.ref a] ∧ StAt K C H a l s ∧ s.amps.length ≤ 1024 ∧ s.k ≤ f ∧
  ∀ (H' : Hp) (l' : Addr), StAt K C H' a l' (Sg24.least f s) → (l' = l ∨ H l' = none) → Kp [a] H H' → Q .non H'
theorem scLessen : FnScope ["self"] ["self"] (defScope sLessen) := ⟨rfl, rfl, rfl, by decide +kernel, rfl, by decide +kernel, by decide +kernel⟩
theorem ok_lessen {f fH fO : Addr} {fd fdH fdO : FuncData} (F : Fun K "lessen" "State.lessen" sLessen f fd) (T : Ts K mg C tA)
    (FH : Fun K "all_hold_root" "all_hold_root" sHold fH fdH) (bH : Binds K fdH ["numbers"] []) (mH : mg "all_hold_root" = some (.ref fH))
    (FO : Fun K "over_root" "over_root" sOver fO fdO) (bO : Binds K fdO ["numbers"] []) (mO : mg "over_root" = some (.ref fO)) : FnOk P w K mg base CX0 2 f fd ["self"] (spLessen K C) := by
  have GH : FnOk P w K mg base CX0 1 fH fdH ["numbers"] (spHold K) := ok_hold FH
  have GO : FnOk P w K mg base CX0 1 fO fdO ["numbers"] (spMap K Sg24.unroot) := ok_over FO
  refine F.ok scLessen (fun vs H Q E h => ?_) (fun cdv A outer s H vs Q E hr h => ?_)
  · obtain ⟨a, l, s, f, rfl, _⟩ := h
    rfl
  · obtain ⟨a, l, s, f, rfl, st, hz, hf, k⟩ := h
    refine ⟨_, pss_one (ps_while PassesOwn.never (PW.pt (pw_and (pt_cmpR op_gt (pe_fld (pv 0) rfl) pe_int (nomark _)) (pw_and1 (pt_val (pe_call GH hr rfl mH FH.kp bH .nil pass0 (pa_cons (pe_fld (pv 0) rfl) pa_nil))))))
      (pss_cons (ps_fld (pv 0) (pe_call GO hr rfl mO FO.kp bO .nil pass0 (pa_cons (pe_fld (pv 0) rfl) pa_nil)) rfl)
      (pss_one (ps_fld (pv 0) (pe_op op_sub (pe_fld (pv 0) rfl) pe_int) rfl)))), ?_⟩
    refine ⟨fun m σ H' => σ = [some (.ref a)] ∧ ∃ (l' : Addr) (s' : Sg24.State) (f' : Nat), StAt K C H' a l' s' ∧ s'.k = m ∧ s'.amps.length ≤ 1024 ∧ s'.k ≤ f' ∧ Sg24.least f' s' = Sg24.least f s ∧ (l' = l ∨ H l' = none) ∧ Kp [a] H H',
      ⟨s.k, rfl, l, s, f, st, rfl, hz, hf, rfl, .inl rfl, Kp.refl _ _⟩, ?_⟩
    rintro m σ H' ⟨rfl, l', s', f', ⟨dx, rs, ha, hl, ht⟩, rfl, hz', hf', el, fr, kp⟩
    have stop : Mq.Lst s' → Q .non H' := fun L => k H' l' (by rw [← el, Mq.least_stop L]; exact ⟨dx, rs, ha, hl, ht⟩) fr kp
    refine ⟨_, rfl, a, C, dx, _, _, rfl, ha, T.cl, T.nK, sf_k _ _ _, _, _, rfl, rfl, _, rfl, ?_⟩
    refine ite2 (fun c => ?_) (fun c => ?_)
    · have c : (0 : Int) < ((s'.k : Nat) : Int) := of_decide_eq_true c
      refine ⟨_, rfl, a, C, dx, _, _, rfl, ha, T.cl, T.nA, sf_a _ _ _, l', s'.amps, rfl, ⟨rs, hl, ht⟩, _, rfl, ?_⟩
      refine ite2 (fun c2 => ?_) (fun c2 => ?_)
      · refine ⟨fun σ H2 => σ = [some (.ref a)] ∧ ∃ (l2 : Addr), StAt K C H2 a l2 { s' with k := s'.k - 1, amps := s'.amps.map Sg24.unroot } ∧ (l2 = l ∨ H l2 = none) ∧ Kp [a] H H2, ?_, ?_⟩
        · rintro σ H2 ⟨rfl, l2, st2, fr2, kp2⟩
          refine ⟨s'.k - 1, by omega, rfl, l2, _, f' - 1, st2, rfl, by show (s'.amps.map Sg24.unroot).length ≤ 1024; rw [List.length_map]; exact hz', by show s'.k - 1 ≤ f' - 1; omega, ?_, fr2, kp2⟩
          rw [← el]
          have := Mq.least_go (s := s') (by omega) c2 (f' - 1)
          rw [show f' - 1 + 1 = f' by omega] at this
          exact this.symm
        · refine ⟨_, rfl, a, C, dx, _, _, rfl, ha, T.cl, T.nA, sf_a _ _ _, l', s'.amps, rfl, ⟨rs, hl, ht⟩, hz', fun H3 p3 s3 n3 h3 => ?_⟩
          obtain ⟨rs3, hp3, t3⟩ := h3
          refine ⟨_, rfl, a, C, dx, _, rfl, s3 _ _ ha, T.cl, T.nA, sf_len _ _ _, ?_⟩
          rw [put_a]
          refine ⟨_, rfl, a, C, dx, _, _, rfl, upd_same, T.cl, T.nK, sf_k _ _ _, _, _, rfl, rfl, _, rfl, a, C, dx, _, rfl, upd_same, T.cl, T.nK, sf_len _ _ _, ?_⟩
          rw [put_k, upd_upd]
          have ap : a ≠ p3 := fun e => by subst e; rw [ha] at n3; cases n3
          refine ⟨rfl, p3, ⟨dx, rs3, ?_, ?_, ?_⟩, .inr ?_, ?_⟩
          · rw [upd_same]
            have e : ((s'.k : Nat) : Int) - 1 = ((s'.k - 1 : Nat) : Int) := by omega
            rw [e]
          · rw [upd_ne (Ne.symm ap)]; exact hp3
          · exact Tups.tk t3 (tk_ins (s3 _ _ ha))
          · cases e : H p3 with
            | none => rfl
            | some o => rw [kp p3 o e (by simp [Ne.symm ap])] at n3; cases n3
          · exact (kp.trans (Kp.of_same s3)).upd (.inl (by simp))
      · exact stop (.inr (by simpa using c2))
    · exact stop (.inl (by
        have c : ¬ (0 : Int) < ((s'.k : Nat) : Int) := fun z => c (decide_eq_true z)
        omega))
end
end Fq

end

section
set_option Elab.async false
set_option linter.all false
set_option maxRecDepth 100000
namespace Fq
open PySem PySem.Spec PyProof.Rows L2
open Sg24 (Num)
/-! mix: the gate H -/
theorem zip_map {α β γ δ : Type} (f : β → γ → δ) (g : α → β) (h : α → γ) : ∀ l : List α, List.zipWith f (l.map g) (l.map h) = l.map fun p => f (g p) (h p)
  | [] => rfl
  | a :: l => by rw [List.map_cons, List.map_cons, List.zipWith_cons_cons, zip_map f g h l, List.map_cons]
theorem places_len (n a b : Nat) : (Mq.placesM n a b).length ≤ 2 ^ n := by
  unfold Mq.placesM
  exact Nat.le_trans (List.length_filter_le _ _) (by rw [List.length_range]; exact Nat.le_refl _)
theorem pow10 {n : Nat} (h : n ≤ 10) : 2 ^ n ≤ 1024 := Nat.le_trans (Nat.pow_le_pow_right (n := 2) (by decide) h) (by decide)
/-- what a gate is told of, and holds -/
structure Mx (s : Sg24.State) (t on off : Nat) : Prop where
  g : Mq.Good s
  tn : t < s.n
  dis : on &&& off = 0
  on2 : on.testBit t = false
  off2 : off.testBit t = false
theorem Mx.rng {s : Sg24.State} {t on off p : Nat} (m : Mx s t on off) (h : p ∈ Mq.placesM s.n (2 ^ t ||| on ||| off) on) : p < 2 ^ s.n ∧ p ||| 2 ^ t < 2 ^ s.n := by
  obtain ⟨a, b, _⟩ := (Mq.mem_places m.dis m.on2 m.off2).mp h
  exact ⟨a, by rw [Mq.or_add b]; exact Mq.add_lt b a m.tn⟩
abbrev psOf (s : Sg24.State) (t on off : Nat) : List Nat := Mq.placesM s.n (2 ^ t ||| on ||| off) on
theorem trip_1 {t : Nat} {s : Sg24.State} {f g : Num → Num → Num} (ps : List Nat) : ((Mq.trip t s f g ps).map fun z => V.int (z.1 : Nat)) = ps.map fun p => V.int (p : Nat) := by
  unfold Mq.trip; rw [List.map_map]; rfl
theorem trip_2 {t : Nat} {s : Sg24.State} {f g : Num → Num → Num} (ps : List Nat) : (Mq.trip t s f g ps).map (·.2.1) = ps.map fun p => f (s.at_ p) (s.at_ (p ||| 2 ^ t)) := by
  unfold Mq.trip; rw [List.map_map]; rfl
theorem trip_3 {t : Nat} {s : Sg24.State} {f g : Num → Num → Num} (ps : List Nat) : (Mq.trip t s f g ps).map (·.2.2) = ps.map fun p => g (s.at_ p) (s.at_ (p ||| 2 ^ t)) := by
  unfold Mq.trip; rw [List.map_map]; rfl
theorem trip_rng {s : Sg24.State} {t on off : Nat} {f g : Num → Num → Num} (m : Mx s t on off) {N : Nat} (hN : N = 2 ^ s.n) : ∀ z ∈ Mq.trip t s f g (psOf s t on off), z.1 < N ∧ z.1 ||| 2 ^ t < N := by
  intro z hz
  unfold Mq.trip at hz
  obtain ⟨p, hp, rfl⟩ := List.mem_map.mp hz
  rw [hN]; exact m.rng hp
def spMix (K : PySem.W.Frag) (C : Addr) : Sp := fun vs H Q _ => ∃ (a l pl xl yl : Addr) (s : Sg24.State) (t on off : Nat), vs = [.ref a, .ref pl, .int ((2 ^ t : Nat) : Int), .ref xl, .ref yl] ∧ StAt K C H a l s ∧ Mx s t on off ∧
  H pl = some (.lst ((psOf s t on off).map fun p => V.int (p : Nat))) ∧ NumsAt K H xl ((psOf s t on off).map s.at_) ∧ NumsAt K H yl ((psOf s t on off).map fun p => s.at_ (p ||| 2 ^ t)) ∧ pl ≠ l ∧ xl ≠ l ∧ yl ≠ l ∧
  (120 < (Sg24.gate 7 t on off s).k → ∀ H' : Hp, Same H H' → Q (.int (-2)) H') ∧
  (¬ 120 < (Sg24.gate 7 t on off s).k → ∀ (H' : Hp) (l' : Addr), StAt K C H' a l' (Sg24.gate 7 t on off s) → (l' = l ∨ H l' = none) → Kp [a, l] H H' → Q (.int 0) H')
section
variable {P : Program} {w : World} {K : PySem.W.Frag} {mg : Str → Option Value} {base : Heap} {C tA : Addr}
/-- the defs of exact.py -/
structure Fe (K : PySem.W.Frag) (mg : Str → Option Value) (f1 f2 f3 f4 f5 f6 : Addr) (d1 d2 d3 d4 d5 d6 : FuncData) : Prop where
  F1 : Fun K "added" "added" sAdded f1 d1
  b1 : Binds K d1 ["xs", "ys"] []
  m1 : mg "added" = some (.ref f1)
  F2 : Fun K "subtracted" "subtracted" sSubbed f2 d2
  b2 : Binds K d2 ["xs", "ys"] []
  m2 : mg "subtracted" = some (.ref f2)
  F3 : Fun K "turned" "turned" sTurned f3 d3
  b3 : Binds K d3 ["numbers", "eighths"] []
  m3 : mg "turned" = some (.ref f3)
  F4 : Fun K "times_root" "times_root" sTimes f4 d4
  b4 : Binds K d4 ["numbers"] []
  m4 : mg "times_root" = some (.ref f4)
  F5 : Fun K "over_root" "over_root" sOver f5 d5
  b5 : Binds K d5 ["numbers"] []
  m5 : mg "over_root" = some (.ref f5)
  F6 : Fun K "all_hold_root" "all_hold_root" sHold f6 d6
  b6 : Binds K d6 ["numbers"] []
  m6 : mg "all_hold_root" = some (.ref f6)
theorem scMix : FnScope ["self", "places", "bit", "xs", "ys", "sums", "differences"] ["self", "places", "bit", "xs", "ys"] (defScope sMix) := ⟨rfl, rfl, rfl, by decide +kernel, rfl, by decide +kernel, by decide +kernel⟩
theorem fs_no {n k : Int} {l : Addr} : (sf n k l).lookup ("put" : Str) = none ∧ (sf n k l).lookup ("lessen" : Str) = none ∧ (sf n k l).lookup ("mix" : Str) = none ∧ (sf n k l).lookup ("allows" : Str) = none ∧ (sf n k l).lookup ("gate" : Str) = none ∧ (sf n k l).lookup ("run" : Str) = none ∧ (sf n k l).lookup ("begin" : Str) = none :=
  ⟨sf_no _ _ _ (by decide +kernel) (by decide +kernel) (by decide +kernel), sf_no _ _ _ (by decide +kernel) (by decide +kernel) (by decide +kernel), sf_no _ _ _ (by decide +kernel) (by decide +kernel) (by decide +kernel),
   sf_no _ _ _ (by decide +kernel) (by decide +kernel) (by decide +kernel), sf_no _ _ _ (by decide +kernel) (by decide +kernel) (by decide +kernel), sf_no _ _ _ (by decide +kernel) (by decide +kernel) (by decide +kernel), sf_no _ _ _ (by decide +kernel) (by decide +kernel) (by decide +kernel)⟩
theorem ok_mix {f fP fL f1 f2 f3 f4 f5 f6 : Addr} {fd fdP fdL d1 d2 d3 d4 d5 d6 : FuncData} (F : Fun K "mix" "State.mix" sMix f fd) (T : Ts K mg C tA) (X : Fe K mg f1 f2 f3 f4 f5 f6 d1 d2 d3 d4 d5 d6)
    (FP : Fun K "put" "State.put" sPut fP fdP) (bP : Binds K fdP ["self", "places", "bit", "xs", "ys"] []) (mP : Meth K C "put" fP)
    (FL : Fun K "lessen" "State.lessen" sLessen fL fdL) (bL : Binds K fdL ["self"] []) (mL : Meth K C "lessen" fL) :
    FnOk P w K mg base CX0 3 f fd ["self", "places", "bit", "xs", "ys"] (spMix K C) := by
  have G1 : FnOk P w K mg base CX0 1 f1 d1 ["xs", "ys"] (spZip K Sg24.add) := ok_added X.F1 T.zp
  have G2 : FnOk P w K mg base CX0 1 f2 d2 ["xs", "ys"] (spZip K Sg24.sub) := ok_subbed X.F2 T.zp
  have G4 : FnOk P w K mg base CX0 1 f4 d4 ["numbers"] (spMap K Sg24.root) := ok_times X.F4
  have G5 : FnOk P w K mg base CX0 1 f5 d5 ["numbers"] (spMap K Sg24.unroot) := ok_over X.F5
  have G6 : FnOk P w K mg base CX0 1 f6 d6 ["numbers"] (spHold K) := ok_hold X.F6
  have GP : FnOk P w K mg base CX0 1 fP fdP ["self", "places", "bit", "xs", "ys"] (spPut K C) := ok_put FP T
  have GL : FnOk P w K mg base CX0 2 fL fdL ["self"] (spLessen K C) := ok_lessen FL T X.F6 X.b6 X.m6 X.F5 X.b5 X.m5
  refine F.ok scMix (fun vs H Q E h => ?_) (fun cdv A outer s H vs Q E hr h => ?_)
  · obtain ⟨a, l, pl, xl, yl, s, t, on, off, rfl, _⟩ := h
    rfl
  · obtain ⟨a, l, pl, xl, yl, s, t, on, off, rfl, st, M, hp, hx, hy, pn, xn, yn, kno, kyes⟩ := h
    have hr1 : Room 1 _ := hr.mono (by decide)
    refine ⟨_, pss_cons (ps_set (i := 5) scMix.nd rfl (Or.inl rfl) (pe_call G1 hr1 rfl X.m1 X.F1.kp X.b1 .nil pass0 (pa_cons (pv 3) (pa_cons (pv 4) pa_nil))))
      (pss_cons (ps_set (i := 6) scMix.nd rfl (Or.inl rfl) (pe_call G2 hr1 rfl X.m2 X.F2.kp X.b2 .nil pass0 (pa_cons (pv 3) (pa_cons (pv 4) pa_nil))))
      (pss_cons (ps_if (pt_val (pe_call G6 hr1 rfl X.m6 X.F6.kp X.b6 .nil pass0 (pa_cons (pv 5) pa_nil)))
        (pss_cons (ps_expr (pe_meth (pv 0) T.cl mP GP hr1 bP .nil pass0 (pa_cons (pv 1) (pa_cons (pv 2) (pa_cons (pe_call G5 hr1 rfl X.m5 X.F5.kp X.b5 .nil pass0 (pa_cons (pv 5) pa_nil)) (pa_cons (pe_call G5 hr1 rfl X.m5 X.F5.kp X.b5 .nil pass0 (pa_cons (pv 6) pa_nil)) pa_nil))))))
        (pss_cons (ps_expr (pe_meth0 (pv 0) T.cl mL GL hr bL .nil pass0))
        (pss_one (ps_ret (pe_gi T.dn))))) pss_nil)
      (pss_cons (ps_if (pt_cmpR op_eq (pe_fld (pv 0) rfl) (pe_gi T.mkk) (nomark _)) (pss_one (ps_ret (pe_gi T.tf))) pss_nil)
      (pss_cons (ps_fld (pv 0) (pe_call G4 hr1 rfl X.m4 X.F4.kp X.b4 .nil pass0 (pa_cons (pe_fld (pv 0) rfl) pa_nil)) rfl)
      (pss_cons (ps_expr (pe_meth (pv 0) T.cl mP GP hr1 bP .nil pass0 (pa_cons (pv 1) (pa_cons (pv 2) (pa_cons (pv 5) (pa_cons (pv 6) pa_nil))))))
      (pss_cons (ps_fld (pv 0) (pe_op op_add (pe_fld (pv 0) rfl) pe_int) rfl)
      (pss_one (ps_ret (pe_gi T.dn))))))))), ?_⟩
    have N := M.g.nm
    have lenP : (psOf s t on off).length ≤ 1024 := Nat.le_trans (places_len _ _ _) (pow10 N.n10)
    have lenA : s.amps.length ≤ 1024 := by rw [N.len]; exact pow10 N.n10
    -- sums, differences
    refine ⟨_, rfl, _, rfl, xl, yl, _, _, rfl, hx, hy, by rw [List.length_map, List.length_map], by rw [List.length_map]; exact lenP, fun H1 p1 s1 n1 h1 => ?_⟩
    refine ⟨_, rfl, _, rfl, xl, yl, _, _, rfl, hx.same s1, hy.same s1, by rw [List.length_map, List.length_map], by rw [List.length_map]; exact lenP, fun H2 p2 s2 n2 h2 => ?_⟩
    rw [zip_map] at h1 h2
    have s12 := s1.trans s2
    have h1' := h1.same s2
    have l1 : l ≠ p1 := fun e => by subst e; obtain ⟨_, _, _, hl, _⟩ := st; rw [hl] at n1; cases n1
    have l2 : l ≠ p2 := fun e => by subst e; obtain ⟨_, _, _, hl, _⟩ := st; rw [s1 _ _ hl] at n2; cases n2
    refine ⟨_, rfl, p1, _, rfl, h1', _, rfl, ?_⟩
    refine ite2 (fun c => ?_) (fun c => ?_)
    · -- all hold it
      have eg := Mq.gate7_yes N M.tn M.dis M.on2 M.off2 c
      have gk : ¬ 120 < (Sg24.gate 7 t on off s).k := by
        rw [eg]
        have := (Mq.least_k 129 { s with amps := Mq.putM t (Mq.trip t s (fun x y => Sg24.unroot (Sg24.add x y)) (fun x y => Sg24.unroot (Sg24.sub x y)) (Mq.placesM s.n (2 ^ t ||| on ||| off) on)) s.amps }).1
        have h3 := M.g.kk
        have : (Sg24.least 129 { s with amps := Mq.putM t (Mq.trip t s (fun x y => Sg24.unroot (Sg24.add x y)) (fun x y => Sg24.unroot (Sg24.sub x y)) (Mq.placesM s.n (2 ^ t ||| on ||| off) on)) s.amps }).k ≤ s.k := this
        omega
      have kyes := kyes gk
      obtain ⟨dx, rs, ha, hl, ht⟩ := id st
      refine ⟨_, rfl, a, dx, _, rfl, s12 _ _ ha, fs_no.1, _, rfl, _, rfl, ?_⟩
      refine ⟨_, rfl, p1, _, rfl, h1', by rw [List.length_map]; exact lenP, fun H3 p3 s3 n3 h3 => ?_⟩
      refine ⟨_, rfl, p2, _, rfl, h2.same s3, by rw [List.length_map]; exact lenP, fun H4 p4 s4 n4 h4 => ?_⟩
      have s13 := s12.trans s3
      have s14 := s13.trans s4
      have l3 : l ≠ p3 := fun e => by subst e; rw [s12 _ _ hl] at n3; cases n3
      have l4 : l ≠ p4 := fun e => by subst e; rw [s13 _ _ hl] at n4; cases n4
      rw [List.map_map] at h3 h4
      refine ⟨a, l, pl, p3, p4, s, t, Mq.trip t s (fun x y => Sg24.unroot (Sg24.add x y)) (fun x y => Sg24.unroot (Sg24.sub x y)) (psOf s t on off), rfl, st.same s14, ?_, ?_, ?_, pn, Ne.symm l3, Ne.symm l4, trip_rng M N.len, fun H5 st5 kp5 => ?_⟩
      · rw [trip_1]; exact s14 _ _ hp
      · rw [trip_2]; exact h3.same s4
      · rw [trip_3]; exact h4
      obtain ⟨dx5, rs5, ha5, hl5, ht5⟩ := id st5
      refine ⟨_, rfl, a, dx5, _, rfl, ha5, fs_no.2.1, ?_⟩
      refine ⟨a, l, _, 129, rfl, st5, ?_, ?_, fun H6 l6 st6 fr6 kp6 => ?_⟩
      · show (Mq.putM t _ s.amps).length ≤ 1024
        rw [Mq.putM_length]; exact lenA
      · show s.k ≤ 129
        have := M.g.kk; omega
      refine kyes H6 l6 (by rw [eg]; exact st6) ?_ ?_
      · rcases fr6 with e | e
        · exact .inl e
        · refine .inr ?_
          cases q : H l6 with
          | none => rfl
          | some o =>
            by_cases e2 : l6 = l
            · subst e2; rw [hl5] at e; cases e
            · rw [kp5 l6 o (s14 _ _ q) (by simp [e2])] at e; cases e
      · exact ((Kp.of_same s14).trans (kp5.mono (by simp))).trans (kp6.mono (by simp))
    · -- not all
      have eg := Mq.gate7_no N M.tn M.dis M.on2 M.off2 (by simpa using c)
      have st2 := st.same s12
      obtain ⟨dx, rs, ha, hl, ht⟩ := id st2
      refine ⟨_, rfl, a, C, dx, _, _, rfl, ha, T.cl, T.nK, sf_k _ _ _, rfl, _, rfl, ?_⟩
      refine ite2 (fun c2 => ?_) (fun c2 => ?_)
      · have c2 : ((s.k : Nat) : Int) = 120 := by simpa using c2
        refine kno ?_ H2 s12
        rw [eg]; show 120 < s.k + 1; omega
      have c2 : ¬ ((s.k : Nat) : Int) = 120 := by simpa using c2
      have kyes := kyes (by rw [eg]; show ¬ 120 < s.k + 1; have := M.g.kk; omega)
      refine ⟨_, rfl, a, C, dx, _, _, rfl, ha, T.cl, T.nA, sf_a _ _ _, l, s.amps, rfl, ⟨rs, hl, ht⟩, lenA, fun H3 p3 s3 n3 h3 => ?_⟩
      obtain ⟨rs3, hp3, t3⟩ := id h3
      have ap : a ≠ p3 := fun e => by subst e; rw [ha] at n3; cases n3
      refine ⟨_, rfl, a, C, dx, _, rfl, s3 _ _ ha, T.cl, T.nA, sf_len _ _ _, ?_⟩
      rw [put_a]
      have tk3 : Tk H3 (upd H3 a (.ins C dx (sf (s.n : Nat) (s.k : Nat) p3))) := tk_ins (s3 _ _ ha)
      have stA : StAt K C (upd H3 a (.ins C dx (sf (s.n : Nat) (s.k : Nat) p3))) a p3 { s with amps := s.amps.map Sg24.root } :=
        ⟨dx, rs3, upd_same, by rw [upd_ne (Ne.symm ap)]; exact hp3, Tups.tk t3 tk3⟩
      have keep : ∀ b o, H2 b = some o → b ≠ a → (upd H3 a (.ins C dx (sf (s.n : Nat) (s.k : Nat) p3))) b = some o := fun b o e n => by rw [upd_ne n]; exact s3 _ _ e
      have hp2 := s12 _ _ hp
      have ap1 : p1 ≠ a := fun e => by obtain ⟨_, q, _⟩ := h1'; rw [e, ha] at q; cases q
      have ap2 : p2 ≠ a := fun e => by obtain ⟨_, q, _⟩ := h2; rw [e, ha] at q; cases q
      have app : pl ≠ a := fun e => by rw [e, ha] at hp2; cases hp2
      have nu : ∀ {q : Addr} {us : List Num}, NumsAt K H2 q us → q ≠ a → NumsAt K (upd H3 a (.ins C dx (sf (s.n : Nat) (s.k : Nat) p3))) q us := fun h n => by
        obtain ⟨r, e1, e2⟩ := h
        exact ⟨r, keep _ _ e1 n, Tups.tk e2 (s3.tk.trans tk3)⟩
      refine ⟨_, rfl, a, dx, _, rfl, upd_same, fs_no.1, _, rfl, _, rfl, _, rfl, _, rfl, ?_⟩
      refine ⟨a, p3, pl, p1, p2, _, t, Mq.trip t s Sg24.add Sg24.sub (psOf s t on off), rfl, stA, ?_, ?_, ?_, ?_, ?_, ?_, ?_, fun H5 st5 kp5 => ?_⟩
      · rw [trip_1]; exact keep _ _ hp2 app
      · rw [trip_2]; exact nu h1' ap1
      · rw [trip_3]; exact nu h2 ap2
      · intro e; subst e; rw [hp2] at n3; cases n3
      · intro e; subst e; obtain ⟨_, q, _⟩ := h1'; rw [q] at n3; cases n3
      · intro e; subst e; obtain ⟨_, q, _⟩ := h2; rw [q] at n3; cases n3
      · exact trip_rng M (by show (s.amps.map Sg24.root).length = _; rw [List.length_map, N.len])
      obtain ⟨dx5, rs5, ha5, hl5, ht5⟩ := id st5
      refine ⟨_, rfl, a, C, dx5, _, _, rfl, ha5, T.cl, T.nK, sf_k _ _ _, _, _, rfl, rfl, _, rfl, a, C, dx5, _, rfl, ha5, T.cl, T.nK, sf_len _ _ _, ?_⟩
      rw [put_k]
      refine kyes _ p3 ⟨dx5, rs5, ?_, ?_, ?_⟩ (.inr (s12.free n3)) ?_
      · rw [upd_same, eg]; rfl
      · rw [upd_ne (Ne.symm ap)]; exact hl5
      · rw [eg]; exact Tups.tk ht5 (tk_ins ha5)
      · refine ⟨fun b o e n => ?_, fun b e => s12.free (s3.free (upd_none (kp5.fr b (upd_none e))))⟩
        have n1 : b ≠ a := fun z => n (by simp [z])
        have n2 : b ≠ p3 := fun z => by subst z; rw [s12.free n3] at e; cases e
        rw [upd_ne n1]
        exact kp5.at_ b o (keep b o (s12 _ _ e) n1) (by simp [n2])
end
end Fq

end

section
set_option Elab.async false
set_option linter.all false
set_option maxRecDepth 100000
namespace Fq
open PySem PySem.Spec PyProof.Rows L2
open Sg24 (Num)
/-! gate -/
theorem told_no {s : Sg24.State} {kind t : Int} {on off : Nat} (h : Sg24.may s kind t on off = false) : Sg24.told s kind t on off = (-1, s) := by
  unfold Sg24.told; rw [if_pos h]
theorem told_big {s : Sg24.State} {kind t : Int} {on off : Nat} (h : Sg24.may s kind t on off = true) (g : 120 < (Sg24.gate kind.toNat t.toNat on off s).k) : Sg24.told s kind t on off = (-2, s) := by
  unfold Sg24.told; rw [if_neg (by rw [h]; decide)]
  show (if 120 < (Sg24.gate kind.toNat t.toNat on off s).k then _ else _) = _
  rw [if_pos g]
theorem told_yes {s : Sg24.State} {kind t : Int} {on off : Nat} (h : Sg24.may s kind t on off = true) (g : ¬ 120 < (Sg24.gate kind.toNat t.toNat on off s).k) : Sg24.told s kind t on off = (0, Sg24.gate kind.toNat t.toNat on off s) := by
  unfold Sg24.told; rw [if_neg (by rw [h]; decide)]
  show (if 120 < (Sg24.gate kind.toNat t.toNat on off s).k then _ else _) = _
  rw [if_neg g]
section
variable {P : Program} {w : World} {K : PySem.W.Frag} {mg : Str → Option Value} {base : Heap} {C tA : Addr}
theorem filter_snoc {f : Nat → Bool} (i : Nat) : (List.range (i + 1)).filter f = (List.range i).filter f ++ (if f i = true then [i] else []) := by
  rw [List.range_succ, List.filter_append]; congr 1
  by_cases h : f i = true
  · simp [h]
  · simp [h]
theorem lc_places {D : Ends} {H : Hp} {a l : Addr} {s : Sg24.State} {on fx : Nat} {x1 x2 x4 x5 x7 x8 x9 x10 : Option V} {fi : Int} (hf : fi = (fx : Int)) (c1 : Cls K C) (c2 : NoAttr K C "qubits") (st : StAt K C H a l s) (hn : s.n ≤ 10)
    (k : ∀ (H' : Hp) (p : Addr), Same H H' → H p = none → H' p = some (.lst ((Mq.placesM s.n fx on).map fun p => V.int (p : Nat))) → D.nx [some (.ref a), x1, x2, some (.int (on : Nat)), x4, x5, some (.int fi), some (.ref p), x8, x9, x10] H') :
    tAsg (tLc (iRng1 (tCons (tOp (rI CPow fun i j => .int (i * 2 ^ j.toNat)) (tC (.int 1)) (tFld K (tVar 0) "qubits")) tNil)) (gName 10) (tTest (tOp rEq (tOp (rI0 fun i j => .int (Builtin.bitAnd i j)) (tVar 10) (tVar 6)) (tVar 3))) (tVar 10) [10]) (gName 7) D
      [some (.ref a), x1, x2, some (.int (on : Nat)), x4, x5, some (.int fi), x7, x8, x9, x10] H := by
  subst hf
  obtain ⟨dx, rs, ha, hl, ht⟩ := id st
  have sh : (1 : Int) * 2 ^ ((s.n : Nat) : Int).toNat = ((2 ^ s.n : Nat) : Int) := Bt.shl1 s.n
  have p10 := pow10 hn
  have jn : ((1 : Int) * 2 ^ ((s.n : Nat) : Int).toNat).toNat = 2 ^ s.n := by rw [sh, Int.toNat_natCast]
  refine ⟨_, rfl, a, C, dx, _, _, rfl, ha, c1, c2, sf_q _ _ _, _, _, rfl, rfl, ⟨by omega, by omega, by decide⟩, _, rfl, ?_, ?_, fun L hL => ?_⟩
  · rw [sh]; omega
  · rw [sh]; have : ((2 ^ s.n : Nat) : Int) ≤ 1024 := by omega
    omega
  refine lc_by (Q := fun x H1 => gName 7 x [some (.ref a), x1, x2, some (.int (on : Nat)), x4, x5, some (.int (fx : Int)), x7, x8, x9, x10] H1 D.nx) (2 ^ s.n)
    (fun i H' => H' L = some (.lst (((List.range i).filter fun p => p &&& fx == on).map fun p => V.int (p : Nat))) ∧ Same H H') ⟨upd_same, same_none hL⟩ ?_ ?_ ?_
  · rintro i H' hi _
    show i < ((1 : Int) * 2 ^ ((s.n : Nat) : Int).toNat).toNat
    rw [jn]; exact hi
  · rintro H' ⟨h1, sm⟩
    refine ⟨?_, k H' L sm hL h1⟩
    show ((1 : Int) * 2 ^ ((s.n : Nat) : Int).toNat).toNat ≤ _
    rw [jn]; exact Nat.le_refl _
  · rintro i H' x H2 hi ⟨h1, sm⟩ ⟨rfl, rfl⟩
    have lt : ((List.range i).filter fun p => p &&& fx == on).length ≤ i := Nat.le_trans (List.length_filter_le _ _) (by rw [List.length_range]; exact Nat.le_refl _)
    refine ⟨rfl, _, rfl, _, rfl, _, _, rfl, rfl, _, rfl, rfl, _, rfl, ?_⟩
    have e0 : (0 : Int) + (i : Nat) = (i : Nat) := by omega
    have ec : decide (V.int (Builtin.bitAnd ((0 : Int) + (i : Nat)) (fx : Int)) = V.int (on : Nat)) = (i &&& fx == on) := by
      rw [e0, Bt.band]
      by_cases h : i &&& fx = on
      · rw [h]; simp
      · rw [decide_eq_false (fun z => h (by injection z with z; omega)), beq_eq_false_iff_ne.mpr h]
    refine ite2 (fun c => ?_) (fun c => ?_)
    · have c := ec.symm.trans c
      refine ⟨_, rfl, _, h1, by rw [List.length_map]; exact Nat.lt_of_le_of_lt lt (Nat.lt_of_lt_of_le hi (Nat.le_trans p10 (by decide))), ?_, sm.store hL⟩
      rw [upd_same, filter_snoc, if_pos c, List.map_append, e0]; rfl
    · have c : ¬ (i &&& fx == on) = true := fun z => c (ec.trans z)
      refine ⟨?_, sm⟩
      rw [filter_snoc, if_neg c, List.append_nil]; exact h1
/-- amplitudes by places -/
theorem lc_amps {D : Ends} {H : Hp} {a l pl : Addr} {s : Sg24.State} {σ : L2.St} {ps : List Nat} {tix : TE} {ix : Nat → Nat} {d : Nat} (c1 : Cls K C) (c2 : NoAttr K C "amplitudes") (st : StAt K C H a l s) (N : Mq.Nrm s)
    (hp : H pl = some (.lst (ps.map fun p => V.int (p : Nat)))) (hr : ∀ p ∈ ps, ix p < 2 ^ s.n) (hps : ps.length ≤ 1024) (h7 : σ[7]? = some (some (.ref pl))) (h0 : ∀ v, ((wipe σ [10]).set 10 v)[0]? = some (some (.ref a))) (hw : ∀ v, wipe ((wipe σ [10]).set 10 v) [10] = wipe σ [10])
    (hix : ∀ (p : Nat) (H2 : Hp) (R : VK), p ∈ ps → R (.int (ix p : Nat)) H2 → tix ((wipe σ [10]).set 10 (some (.int (p : Nat)))) H2 R)
    (k : ∀ (H' : Hp) (q : Addr), Same H H' → H q = none → NumsAt K H' q (ps.map fun p => s.at_ (ix p)) → D.nx (σ.set d (some (.ref q))) H') :
    tAsg (tLc (iList K (tVar 7)) (gName 10) tYes (tOp (rIxL K) (tFld K (tVar 0) "amplitudes") tix) [10]) (gName d) D σ H := by
  obtain ⟨dx, rs, ha, hl, ht⟩ := id st
  have ln : rs.length = 2 ^ s.n := by rw [Paired.length ht, N.len]
  refine ⟨_, h7, pl, rfl, ⟨_, SqL.of hp⟩, fun L hL => ?_⟩
  refine lc_by (Q := fun x H1 => gName d x σ H1 D.nx) ps.length (fun i H' => ∃ qs : List Addr, H' L = some (.lst (qs.map V.ref)) ∧ Tups K H' qs ((ps.take i).map fun p => s.at_ (ix p)) ∧ Same H H') ⟨[], upd_same, .nil, same_none hL⟩ ?_ ?_ ?_
  · rintro i H' hi ⟨_, _, _, sm⟩
    exact ⟨_, _, SqL.of (sm _ _ hp), by rw [List.getElem?_map, List.getElem?_eq_getElem hi]; rfl⟩
  · rintro H' ⟨qs, h1, h2, sm⟩
    refine ⟨⟨_, SqL.of (sm _ _ hp), by rw [List.length_map]; exact Nat.le_refl _⟩, k H' L sm hL ⟨qs, h1, ?_⟩⟩
    rwa [List.take_length] at h2
  · rintro i H1 x H' hi ⟨qs, h1, h2, sm⟩ ⟨rfl, hy⟩
    have ex : x = .int (ps[i] : Nat) := by
      have := hy _ (SqL.of (sm _ _ hp))
      rw [List.getElem?_map, List.getElem?_eq_getElem hi] at this
      exact (Option.some.inj this).symm
    subst ex
    have hm := List.getElem_mem hi
    refine ⟨hw _, _, h0 _, a, C, dx, _, _, rfl, sm _ _ ha, c1, c2, sf_a _ _ _, ?_⟩
    refine hix _ _ _ hm ?_
    obtain ⟨r, h3, h4⟩ := Tups.get ht (Mq.at_lt N (hr _ hm))
    refine ⟨l, _, _, _, rfl, rfl, SqL.of (sm _ _ hl), at_of (j := ix ps[i]) rfl (by rw [List.getElem?_map, h3]; rfl), ?_⟩
    have lq : qs.length = i := by
      have := Paired.length h2
      rw [List.length_map, List.length_take] at this
      omega
    refine ⟨_, h1, by rw [List.length_map, lq]; exact Nat.lt_of_lt_of_le hi (Nat.le_trans hps (by decide)), qs ++ [r], by rw [upd_same, List.map_append]; rfl, ?_, sm.store hL⟩
    rw [take_snoc' (List.getElem?_eq_getElem hi), List.map_append]
    exact Tups.snoc ((sm.tk.trans (tk_lst h1)).sqT h4) (Tups.tk h2 (tk_lst h1))
theorem turns_val (kd : Nat) (h2 : 2 ≤ kd) (h6 : kd ≤ 6) : ∃ e : Nat, kval [(2, .int 4), (3, .int 2), (4, .int 6), (5, .int 1), (6, .int 7)] (kd : Int) = some (.int (e : Nat)) ∧ (e = 1 ∨ e = 2 ∨ e = 4 ∨ e = 6 ∨ e = 7) ∧ ∀ x y, Sg24.pair kd x y = (x, Sg24.turns e y) := by
  have : kd = 2 ∨ kd = 3 ∨ kd = 4 ∨ kd = 5 ∨ kd = 6 := by omega
  rcases this with rfl | rfl | rfl | rfl | rfl
  · exact ⟨4, rfl, by simp, fun x y => rfl⟩
  · exact ⟨2, rfl, by simp, fun x y => rfl⟩
  · exact ⟨6, rfl, by simp, fun x y => rfl⟩
  · exact ⟨1, rfl, by simp, fun x y => rfl⟩
  · exact ⟨7, rfl, by simp, fun x y => rfl⟩
def spGate (K : PySem.W.Frag) (C : Addr) : Sp := fun vs H Q _ => ∃ (a l : Addr) (s : Sg24.State) (kind t : Int) (on off : Nat), vs = [.ref a, .int kind, .int t, .int (on : Nat), .int (off : Nat)] ∧ StAt K C H a l s ∧ Mq.Good s ∧
  ∀ (H' : Hp) (l' : Addr), StAt K C H' a l' (Sg24.told s kind t on off).2 → (l' = l ∨ H l' = none) → Kp [a, l] H H' → Q (.int (Sg24.told s kind t on off).1) H'
/-- the methods that gate calls -/
structure Fg (K : PySem.W.Frag) (C : Addr) (fA fP fL fM : Addr) (dA dP dL dM : FuncData) : Prop where
  FA : Fun K "allows" "State.allows" sAllows fA dA
  bA : Binds K dA ["self", "kind", "target", "on", "off"] []
  mA : Meth K C "allows" fA
  FP : Fun K "put" "State.put" sPut fP dP
  bP : Binds K dP ["self", "places", "bit", "xs", "ys"] []
  mP : Meth K C "put" fP
  FL : Fun K "lessen" "State.lessen" sLessen fL dL
  bL : Binds K dL ["self"] []
  mL : Meth K C "lessen" fL
  FM : Fun K "mix" "State.mix" sMix fM dM
  bM : Binds K dM ["self", "places", "bit", "xs", "ys"] []
  mM : Meth K C "mix" fM
abbrev nGate : List Str := ["self", "kind", "target", "on", "off", "bit", "fixed", "places", "xs", "ys", "p"]
theorem scGate : FnScope nGate ["self", "kind", "target", "on", "off"] (defScope sGate) := ⟨rfl, rfl, rfl, by decide +kernel, rfl, by decide +kernel, by decide +kernel⟩
theorem ok_gate {f fA fP fL fM f1 f2 f3 f4 f5 f6 : Addr} {fd dA dP dL dM d1 d2 d3 d4 d5 d6 : FuncData} (F : Fun K "gate" "State.gate" sGate f fd) (T : Ts K mg C tA) (X : Fe K mg f1 f2 f3 f4 f5 f6 d1 d2 d3 d4 d5 d6) (Y : Fg K C fA fP fL fM dA dP dL dM) :
    FnOk P w K mg base CX0 4 f fd ["self", "kind", "target", "on", "off"] (spGate K C) := by
  have G3 : FnOk P w K mg base CX0 1 f3 d3 ["numbers", "eighths"] (spTurned K) := ok_turned X.F3
  have GA : FnOk P w K mg base CX0 1 fA dA ["self", "kind", "target", "on", "off"] (spAllows K C) := ok_allows Y.FA T
  have GP : FnOk P w K mg base CX0 1 fP dP ["self", "places", "bit", "xs", "ys"] (spPut K C) := ok_put Y.FP T
  have GM : FnOk P w K mg base CX0 3 fM dM ["self", "places", "bit", "xs", "ys"] (spMix K C) := ok_mix Y.FM T X Y.FP Y.bP Y.mP Y.FL Y.bL Y.mL
  refine F.ok scGate (fun vs H Q E h => ?_) (fun cdv A outer s H vs Q E hr h => ?_)
  · obtain ⟨a, l, s, kind, t, on, off, rfl, _⟩ := h
    rfl
  · obtain ⟨a, l, s, kind, t, on, off, rfl, st, G, k⟩ := h
    have hr1 : Room 1 _ := hr.mono (by decide)
    refine ⟨_, pss_cons (ps_if (pt_not (pt_val (pe_meth (pv 0) T.cl Y.mA GA hr1 Y.bA .nil pass0 (pa_cons (pv 1) (pa_cons (pv 2) (pa_cons (pv 3) (pa_cons (pv 4) pa_nil))))))) (pss_one (ps_ret (pe_gi T.rf))) pss_nil)
      (pss_cons (ps_set (i := 5) scGate.nd rfl (Or.inr rfl) (pe_op op_shl pe_int (pv 2)))
      (pss_cons (ps_set (i := 6) scGate.nd rfl (Or.inr rfl) (pe_op op_or (pe_op op_or (pv 5) (pv 3)) (pv 4)))
      (pss_cons (ps_setLc (i := 7) (own := [("p", 10)]) rfl scGate.nd rfl rfl rfl (pi_range1 rfl T.rg (pa_cons (pe_op op_shl pe_int (pe_fld (pv 0) rfl)) pa_nil)) (blk_of (N := nGate) (sc := defScope sGate) (by decide +kernel))
        (fun _ _ _ _ _ => pg_name (i := 10) scGate.nd rfl (Or.inl rfl) (Or.inr rfl)) (fun _ _ _ _ _ => pts_one (pt_cmpR op_eq (pe_op op_and (pv 10) (pv 6)) (pv 3) (nomark _))) (fun _ _ _ _ _ => pv 10))
      (pss_cons (ps_setLc (i := 8) (own := [("p", 10)]) rfl scGate.nd rfl rfl rfl (pi_list (pv 7)) (blk_of (N := nGate) (sc := defScope sGate) (by decide +kernel))
        (fun _ _ _ _ _ => pg_name (i := 10) scGate.nd rfl (Or.inl rfl) (Or.inr rfl)) (fun _ _ _ _ _ => pts_nil) (fun _ _ _ _ _ => pe_ix (ix_listK (K := K) rfl) (pe_fldK (K := K) rfl (pv 0) rfl) (pv 10) (fun _ _ => rfl)))
      (pss_cons (ps_setLc (i := 9) (own := [("p", 10)]) rfl scGate.nd rfl rfl rfl (pi_list (pv 7)) (blk_of (N := nGate) (sc := defScope sGate) (by decide +kernel))
        (fun _ _ _ _ _ => pg_name (i := 10) scGate.nd rfl (Or.inl rfl) (Or.inr rfl)) (fun _ _ _ _ _ => pts_nil) (fun _ _ _ _ _ => pe_ix (ix_listK (K := K) rfl) (pe_fldK (K := K) rfl (pv 0) rfl) (pe_op op_or (pv 10) (pv 5)) (fun _ _ => rfl)))
      (pss_cons (ps_if (pt_cmpR op_eq (pv 1) (pe_gi T.kH) (nomark _)) (pss_one (ps_ret (pe_meth (pv 0) T.cl Y.mM GM hr Y.bM .nil pass0 (pa_cons (pv 7) (pa_cons (pv 5) (pa_cons (pv 8) (pa_cons (pv 9) pa_nil))))))) pss_nil)
      (pss_cons (ps_if (pt_cmpR op_eq (pv 1) (pe_gi T.kX) (nomark _)) (pss_one (ps_expr (pe_meth (pv 0) T.cl Y.mP GP hr1 Y.bP .nil pass0 (pa_cons (pv 7) (pa_cons (pv 5) (pa_cons (pv 9) (pa_cons (pv 8) pa_nil)))))))
        (pss_one (ps_if (pt_cmpR op_eq (pv 1) (pe_gi T.kY) (nomark _))
          (pss_one (ps_expr (pe_meth (pv 0) T.cl Y.mP GP hr1 Y.bP .nil pass0 (pa_cons (pv 7) (pa_cons (pv 5) (pa_cons (pe_call G3 hr1 rfl X.m3 X.F3.kp X.b3 .nil pass0 (pa_cons (pv 9) (pa_cons pe_int pa_nil))) (pa_cons (pe_call G3 hr1 rfl X.m3 X.F3.kp X.b3 .nil pass0 (pa_cons (pv 8) (pa_cons pe_int pa_nil))) pa_nil)))))))
          (pss_one (ps_expr (pe_meth (pv 0) T.cl Y.mP GP hr1 Y.bP .nil pass0 (pa_cons (pv 7) (pa_cons (pv 5) (pa_cons (pv 8) (pa_cons (pe_call G3 hr1 rfl X.m3 X.F3.kp X.b3 .nil pass0 (pa_cons (pv 9) (pa_cons (pe_kget (pe_go T.td) (pv 1) (fun _ _ => rfl)) pa_nil))) pa_nil))))))))))
      (pss_one (ps_ret (pe_gi T.dn)))))))))), ?_⟩
    have N := G.nm
    obtain ⟨dx, rs, ha, hl, ht⟩ := id st
    -- allows
    refine ⟨_, rfl, a, dx, _, rfl, ha, fs_no.2.2.2.1, _, rfl, _, rfl, _, rfl, _, rfl, ?_⟩
    refine ⟨a, l, s, kind, t, on, off, rfl, st, N.n10, _, rfl, ?_⟩
    cases hm : Sg24.may s kind t on off with
    | false =>
      rw [told_no hm] at k
      exact k H l st (.inl rfl) (Kp.refl _ _)
    | true =>
    have m := Mq.may_iff.mp hm
    obtain ⟨u, rfl⟩ : ∃ u : Nat, t = (u : Int) := ⟨t.toNat, by have := m.t0; omega⟩
    obtain ⟨kd, rfl⟩ : ∃ kd : Nat, kind = (kd : Int) := ⟨kind.toNat, by have := m.k0; omega⟩
    have k7 : kd ≤ 7 := by have := m.k7; omega
    have on2 := m.on2
    have off2 := m.off2
    rw [Int.toNat_natCast] at on2 off2
    have un : u < s.n := by have := m.tn; omega
    have M : Mx s u on off := ⟨G, un, m.dis, on2, off2⟩
    have tl1 := told_big (s := s) (kind := kd) (t := u) (on := on) (off := off) hm
    have tl2 := told_yes (s := s) (kind := kd) (t := u) (on := on) (off := off) hm
    rw [Int.toNat_natCast, Int.toNat_natCast] at tl1 tl2
    have sh : (1 : Int) * 2 ^ ((u : Nat) : Int).toNat = ((2 ^ u : Nat) : Int) := Bt.shl1 u
    have n10 := N.n10
    refine ⟨_, rfl, _, _, rfl, rfl, ⟨by omega, by omega, by decide⟩, ?_⟩
    refine ⟨_, rfl, _, rfl, _, _, rfl, rfl, _, rfl, _, _, rfl, rfl, ?_⟩
    -- places
    refine lc_places (fx := 2 ^ u ||| on ||| off) (by rw [sh, Bt.bor, Bt.bor]) T.cl T.nQ st N.n10 fun H1 pl s1 n1 h1 => ?_
    have lenP : (psOf s u on off).length ≤ 1024 := Nat.le_trans (places_len _ _ _) (pow10 N.n10)
    have rng := fun p (hp : p ∈ psOf s u on off) => M.rng hp
    refine lc_amps (ps := psOf s u on off) (ix := fun p => p) T.cl T.nA (st.same s1) N h1 (fun p hp => (rng p hp).1) lenP rfl (fun _ => rfl) (fun _ => rfl) (fun p H2 R _ hR => ⟨_, rfl, hR⟩) fun H2 xl s2 n2 h2 => ?_
    refine lc_amps (ps := psOf s u on off) (ix := fun p => p ||| 2 ^ u) T.cl T.nA (st.same (s1.trans s2)) N (s2 _ _ h1) (fun p hp => (rng p hp).2) lenP rfl (fun _ => rfl) (fun _ => rfl)
      (fun p H2 R _ hR => ⟨_, rfl, _, rfl, _, _, rfl, rfl, by show R (.int (Builtin.bitOr ((p : Nat) : Int) ((1 : Int) * 2 ^ ((u : Nat) : Int).toNat))) H2; rw [sh, Bt.bor]; exact hR⟩) fun H3 yl s3 n3 h3 => ?_
    have s13 := (s1.trans s2).trans s3
    have st3 := st.same s13
    have hp3 := s3 _ _ (s2 _ _ h1)
    have hx3 := h2.same s3
    have pn : pl ≠ l := fun e => by subst e; rw [hl] at n1; cases n1
    have xn : xl ≠ l := fun e => by subst e; rw [s1 _ _ hl] at n2; cases n2
    have yn : yl ≠ l := fun e => by subst e; rw [s2 _ _ (s1 _ _ hl)] at n3; cases n3
    have nn : ∀ {b : Addr}, H3 b = none → H b = none := fun h => s13.free h
    -- a put is a gate
    have done : kd < 7 → ∀ H' : Hp, StAt K C H' a l { s with amps := Mq.putM u (Mq.trip u s (fun x y => (Sg24.pair kd x y).1) (fun x y => (Sg24.pair kd x y).2) (psOf s u on off)) s.amps } → Kp [a, l] H H' → Q (.int 0) H' := fun h7 H' st' kp' => by
      have eg := Mq.gate_lt7 G un h7 m.dis on2 off2
      have e := tl2 (by rw [eg]; exact Nat.not_lt.mpr G.kk)
      rw [e] at k
      exact k H' l (by rw [eg]; exact st') (.inl rfl) kp'
    refine ⟨_, rfl, rfl, _, rfl, ?_⟩
    refine ite2 (fun c => ?_) (fun c => ?_)
    · have c : ((kd : Nat) : Int) = 7 := by simpa using c
      obtain rfl : kd = 7 := by omega
      obtain ⟨dx3, _, ha3, _, _⟩ := id st3
      refine ⟨_, rfl, a, dx3, _, rfl, ha3, fs_no.2.2.1, _, rfl, _, rfl, _, rfl, _, rfl, ?_⟩
      refine ⟨a, l, pl, xl, yl, s, u, on, off, by rw [← sh]; rfl, st3, M, hp3, hx3, h3, pn, xn, yn, fun g H' sm => ?_, fun g H' l' st' fr kp => ?_⟩
      · rw [tl1 g] at k
        exact k H' l (st3.same sm) (.inl rfl) (Kp.of_same (s13.trans sm))
      · rw [tl2 g] at k
        refine k H' l' st' ?_ ((Kp.of_same s13).trans kp)
        rcases fr with e | e
        · exact .inl e
        · exact .inr (nn e)
    have c : ¬ ((kd : Nat) : Int) = 7 := by simpa using c
    have h7 : kd < 7 := by omega
    obtain ⟨dx3, _, ha3, _, _⟩ := id st3
    refine ⟨_, rfl, rfl, _, rfl, ?_⟩
    refine ite2 (fun c0 => ?_) (fun c0 => ?_)
    · have c0 : ((kd : Nat) : Int) = 0 := by simpa using c0
      obtain rfl : kd = 0 := by omega
      refine ⟨_, rfl, a, dx3, _, rfl, ha3, fs_no.1, _, rfl, _, rfl, _, rfl, _, rfl, ?_⟩
      refine ⟨a, l, pl, yl, xl, s, u, Mq.trip u s (fun x y => (Sg24.pair 0 x y).1) (fun x y => (Sg24.pair 0 x y).2) (psOf s u on off), by rw [← sh]; rfl, st3, by rw [trip_1]; exact hp3, by rw [trip_2]; exact h3, by rw [trip_3]; exact hx3, pn, yn, xn, trip_rng M N.len, fun H' st' kp => ?_⟩
      exact done h7 H' st' ((Kp.of_same s13).trans (kp.mono (by simp)))
    have c0 : ¬ ((kd : Nat) : Int) = 0 := by simpa using c0
    refine ⟨_, rfl, rfl, _, rfl, ?_⟩
    refine ite2 (fun c1 => ?_) (fun c1 => ?_)
    · have c1 : ((kd : Nat) : Int) = 1 := by simpa using c1
      obtain rfl : kd = 1 := by omega
      refine ⟨_, rfl, a, dx3, _, rfl, ha3, fs_no.1, _, rfl, _, rfl, _, rfl, ?_⟩
      refine ⟨yl, _, 6, rfl, h3, by rw [List.length_map]; exact lenP, by simp, fun H4 p4 s4 n4 h4 => ?_⟩
      refine ⟨_, rfl, xl, _, 2, rfl, hx3.same s4, by rw [List.length_map]; exact lenP, by simp, fun H5 p5 s5 n5 h5 => ?_⟩
      have s15 := (s13.trans s4).trans s5
      rw [List.map_map] at h4 h5
      have l4 : p4 ≠ l := fun e => by subst e; rw [s13 _ _ hl] at n4; cases n4
      have l5 : p5 ≠ l := fun e => by subst e; rw [s4 _ _ (s13 _ _ hl)] at n5; cases n5
      refine ⟨a, l, pl, p4, p5, s, u, Mq.trip u s (fun x y => (Sg24.pair 1 x y).1) (fun x y => (Sg24.pair 1 x y).2) (psOf s u on off), by rw [← sh]; rfl, st.same s15, by rw [trip_1]; exact s5 _ _ (s4 _ _ hp3), by rw [trip_2]; exact h4.same s5, by rw [trip_3]; exact h5, pn, l4, l5, trip_rng M N.len, fun H' st' kp => ?_⟩
      exact done h7 H' st' ((Kp.of_same s15).trans (kp.mono (by simp)))
    have c1 : ¬ ((kd : Nat) : Int) = 1 := by simpa using c1
    obtain ⟨e, he1, he2, he3⟩ := turns_val kd (by omega) (by omega)
    refine ⟨_, rfl, a, dx3, _, rfl, ha3, fs_no.1, _, rfl, _, rfl, _, rfl, _, rfl, _, rfl, tA, _, _, _, rfl, rfl, T.tk, he1, ?_⟩
    refine ⟨yl, _, e, rfl, h3, by rw [List.length_map]; exact lenP, he2, fun H4 p4 s4 n4 h4 => ?_⟩
    have s14 := s13.trans s4
    rw [List.map_map] at h4
    have l4 : p4 ≠ l := fun e => by subst e; rw [s13 _ _ hl] at n4; cases n4
    refine ⟨a, l, pl, xl, p4, s, u, Mq.trip u s (fun x y => (Sg24.pair kd x y).1) (fun x y => (Sg24.pair kd x y).2) (psOf s u on off), by rw [← sh]; rfl, st.same s14, by rw [trip_1]; exact s4 _ _ hp3, ?_, ?_, pn, xn, l4, trip_rng M N.len, fun H' st' kp => ?_⟩
    · rw [trip_2]; simp only [he3]; exact hx3.same s4
    · rw [trip_3]; simp only [he3]; exact h4
    · exact done h7 H' st' ((Kp.of_same s14).trans (kp.mono (by simp)))
end
end Fq

end

section
set_option Elab.async false
set_option linter.all false
set_option maxRecDepth 100000
namespace Fq
open PySem PySem.Spec PyProof.Rows L2
open Sg24 (Num)
open Sg24Neutral (bytesOf)
/-! run -/
theorem spI_len : ∀ (b w : List Int), ∀ x ∈ Mq.spI w b, x.length ≤ w.length + b.length
  | [], w, x, hx => by
    rw [Mq.spI] at hx
    split at hx
    · simp at hx
    · rw [List.mem_singleton] at hx; subst hx; simp
  | c :: r, w, x, hx => by
    rw [Mq.spI] at hx
    split at hx
    · split at hx
      · have := spI_len r [] x hx; simp at this ⊢; omega
      · rcases List.mem_cons.mp hx with rfl | hx
        · omega
        · have := spI_len r [] x hx; simp at this ⊢; omega
    · have := spI_len r (w ++ [c]) x hx; simp at this ⊢; omega
/-- what run answers, and leaves -/
def runR (s : Sg24.State) (b : List Int) : Int × Sg24.State := Sg24.run s 0 ((Mq.spI [] b).map bytesOf)
theorem does_run {s : Sg24.State} {b : List Int} (hb : Mq.ByteL b) (hl : b.length ≤ 65536) : Sg24.does s (.run (bytesOf b) b.length) = (Sg24.says (runR s b).1, (runR s b).2) := by
  unfold Sg24.does
  have : Sg24.textOk (b.length : Int) = true := by
    unfold Sg24.textOk Sg24.TEXT
    rw [Bool.and_eq_true]
    exact ⟨decide_eq_true (by omega), decide_eq_true (by omega)⟩
  simp only [this, if_true]
  have e : Sg24.words ((bytesOf b).length + 1) (bytesOf b) = (Mq.spI [] b).map bytesOf := by
    rw [Mq.words_sp _ _ (Nat.lt_succ_self _)]
    exact Mq.sp_spI b [] hb
  rw [e]; rfl
theorem run_good : ∀ (ws : List (List UInt8)) (s : Sg24.State) (i : Nat), Mq.Good s → Mq.Good (Sg24.run s i ws).2
  | [], s, i, G => G
  | w :: l, s, i, G => by
    rw [Sg24.run]
    split
    · exact G
    · rename_i k t on off _
      simp only
      split
      · exact run_good l _ _ (Mq.told_good G)
      · exact G
def spRun (K : PySem.W.Frag) (C : Addr) : Sp := fun vs H Q _ => ∃ (a l tx : Addr) (s : Sg24.State) (b : List Int), vs = [.ref a, .ref tx] ∧ StAt K C H a l s ∧ Mq.Good s ∧ SqL K H tx (b.map V.int) ∧ Mq.ByteL b ∧ b.length ≤ 65536 ∧
  ∀ (H' : Hp) (l' : Addr), StAt K C H' a l' (runR s b).2 → (l' = l ∨ H l' = none) → Kp [a, l] H H' → Q (.int (runR s b).1) H'
section
variable {P : Program} {w : World} {K : PySem.W.Frag} {mg : Str → Option Value} {base : Heap} {C tA kA : Addr}
/-- the defs of circuit.py -/
structure Fc (K : PySem.W.Frag) (mg : Str → Option Value) (fW fD fT : Addr) (dW dD dT : FuncData) : Prop where
  FW : Fun K "words" "words" sWords fW dW
  bW : Binds K dW ["text"] []
  mW : mg "words" = some (.ref fW)
  FD : Fun K "digit" "digit" sDigit fD dD
  bD : Binds K dD ["byte"] []
  mD : mg "digit" = some (.ref fD)
  FT : Fun K "told_gate" "told_gate" sTold fT dT
  bT : Binds K dT ["word"] []
  mT : mg "told_gate" = some (.ref fT)
theorem scRun : FnScope ["self", "text", "done", "word", "parts"] ["self", "text"] (defScope sRun) := ⟨rfl, rfl, rfl, by decide +kernel, rfl, by decide +kernel, by decide +kernel⟩
theorem ok_run {f fG fA fP fL fM f1 f2 f3 f4 f5 f6 fW fD fT : Addr} {fd dG dA dP dL dM d1 d2 d3 d4 d5 d6 dW dD dT : FuncData} (F : Fun K "run" "State.run" sRun f fd) (T : Ts K mg C tA) (Tq : Tc K mg kA) (X : Fe K mg f1 f2 f3 f4 f5 f6 d1 d2 d3 d4 d5 d6) (Y : Fg K C fA fP fL fM dA dP dL dM)
    (Z : Fc K mg fW fD fT dW dD dT) (FG : Fun K "gate" "State.gate" sGate fG dG) (bG : Binds K dG ["self", "kind", "target", "on", "off"] []) (mG : Meth K C "gate" fG) :
    FnOk P w K mg base CX0 5 f fd ["self", "text"] (spRun K C) := by
  have GG : FnOk P w K mg base CX0 4 fG dG ["self", "kind", "target", "on", "off"] (spGate K C) := ok_gate FG T X Y
  have GW : FnOk P w K mg base CX0 1 fW dW ["text"] (spWords K) := ok_words Z.FW Tq
  have GT : FnOk P w K mg base CX0 2 fT dT ["word"] (spTold K) := ok_told Z.FT Tq Z.FD Z.bD Z.mD
  refine F.ok scRun (fun vs H Q E h => ?_) (fun cdv A outer s H vs Q E hr h => ?_)
  · obtain ⟨a, l, tx, s, b, rfl, _⟩ := h
    rfl
  · obtain ⟨a, l, tx, s, b, rfl, st, G, htx, hb, hlen, k⟩ := h
    have hr1 : Room 1 _ := hr.mono (by decide)
    have hr2 : Room 2 _ := hr.mono (by decide)
    refine ⟨_, pss_cons (ps_if (pt_cmpR op_gt (pe_callB call_len_seq (by rfl) T.ln PySem.boot_len (pa_cons (pv 1) pa_nil)) (pe_gi T.lt) (nomark _)) (pss_one (ps_ret (pe_gi T.tl))) pss_nil)
      (pss_cons (ps_set (i := 2) scRun.nd rfl (Or.inl rfl) pe_int)
      (pss_cons (ps_for PassesOwn.never rfl (pi_list (pe_call GW hr1 rfl Z.mW Z.FW.kp Z.bW .nil pass0 (pa_cons (pv 1) pa_nil))) (pg_name (i := 3) scRun.nd rfl (Or.inl rfl))
        (pss_cons (ps_set (i := 4) scRun.nd rfl (Or.inl rfl) (pe_call GT hr2 rfl Z.mT Z.FT.kp Z.bT .nil pass0 (pa_cons (pv 3) pa_nil)))
        (pss_cons (ps_if (PW.pt (pw_or (pt_cmp (pc_isN (pv 4))) (pw_or1 (pt_cmpR op_ne (pe_meth (pv 0) T.cl mG GG hr bG .nil pass0
            (pa_cons (pe_ix ix_tup (pv 4) pe_int (fun _ _ => rfl)) (pa_cons (pe_ix ix_tup (pv 4) pe_int (fun _ _ => rfl)) (pa_cons (pe_ix ix_tup (pv 4) pe_int (fun _ _ => rfl)) (pa_cons (pe_ix ix_tup (pv 4) pe_int (fun _ _ => rfl)) pa_nil)))))
            (pe_gi T.dn) (nomark _)))))
          (pss_one (ps_ret (pe_op op_sub (pe_un un_neg pe_int) (pv 2)))) pss_nil)
        (pss_one (ps_set (i := 2) scRun.nd rfl (Or.inl rfl) (pe_op op_add (pv 2) pe_int))))))
      (pss_one (ps_ret (pv 2))))), ?_⟩
    refine ⟨_, rfl, tx, _, rfl, .inl htx, _, _, rfl, rfl, _, rfl, ?_⟩
    refine iteFD (by rw [List.length_map]; omega) ?_
    refine ⟨_, rfl, tx, b, rfl, htx, hlen, fun H1 q rs s1 hq hw nq nr => ?_⟩
    refine ⟨q, rfl, ⟨_, SqL.of hq⟩, ?_⟩
    have lw : rs.length = (Mq.spI [] b).length := Paired.length hw
    obtain ⟨dx0, rs0, ha0, hl0, _⟩ := id st
    have aq : q ≠ a := fun e => by subst e; rw [ha0] at nq; cases nq
    have ar : ∀ r ∈ rs, r ≠ a := fun r hr e => by subst e; have := nr _ hr; rw [ha0] at this; cases this
    have lq : q ≠ l := fun e => by subst e; rw [hl0] at nq; cases nq
    have lr : ∀ r ∈ rs, r ≠ l := fun r hr e => by subst e; have := nr _ hr; rw [hl0] at this; cases this
    refine for_list (K := K) (a := q) (xs := rs.map V.ref) (fun i σ H' => ∃ (l' : Addr) (s' : Sg24.State) (x3 x4 : Option V), σ = [some (.ref a), some (.ref tx), some (.int (i : Nat)), x3, x4] ∧ StAt K C H' a l' s' ∧ Mq.Good s' ∧
        runR s b = Sg24.run s' i (((Mq.spI [] b).drop i).map bytesOf) ∧ (l' = l ∨ H l' = none) ∧ Kp [a, l] H H' ∧ H' q = some (.lst (rs.map V.ref)) ∧ WordsAt H' rs (Mq.spI [] b) ∧ q ≠ l' ∧ ∀ r ∈ rs, r ≠ l')
      ⟨l, s, none, none, rfl, st.same s1, G, rfl, .inl rfl, Kp.of_same s1, hq, hw, lq, lr⟩
      (fun i σ H' _ ⟨_, _, _, _, _, _, _, _, _, _, h, _⟩ => SqL.of h) ?_ ?_
    · rintro i x σ H' hx ⟨l', s', x3, x4, rfl, st', G', er, fr, kp, hq', hw', lq', lr'⟩
      have hi : i < rs.length := by
        have := (List.getElem?_eq_some_iff.mp hx).1
        rwa [List.length_map] at this
      have hi2 : i < (Mq.spI [] b).length := by omega
      have ex : x = .ref rs[i] := by
        rw [List.getElem?_map, List.getElem?_eq_getElem hi] at hx
        exact (Option.some.inj hx).symm
      subst ex
      obtain ⟨r, h1, h2⟩ := WordsAt.get hw' (List.getElem?_eq_getElem hi2)
      rw [List.getElem?_eq_getElem hi] at h1
      obtain rfl : rs[i] = r := Option.some.inj h1
      have wm := List.getElem_mem hi2
      obtain ⟨wne, wb⟩ := Mq.spI_mem b [] hb (fun x hx => by simp at hx) _ wm
      have wl := spI_len b [] _ wm
      have dr : (Mq.spI [] b).drop i = (Mq.spI [] b)[i] :: (Mq.spI [] b).drop (i + 1) := (List.getElem_cons_drop hi2).symm
      rw [dr, List.map_cons] at er
      generalize (Mq.spI [] b)[i] = wd at *
      refine ⟨_, rfl, rs[i], wd, rfl, SqL.of h2, wne, by simp at wl; omega, fun hn => ?_, fun kd t on off hs p hp => ?_⟩
      · -- no gate's word
        rw [Mq.run_none wb hn] at er
        refine ⟨_, rfl, _, rfl, iteTD rfl (iteT ?_)⟩
        refine ⟨_, rfl, _, rfl, _, _, rfl, rfl, ?_⟩
        have := k H' l' (by rw [er]; exact st') fr kp
        rw [er] at this
        exact this
      · rw [Mq.run_some wb hs] at er
        have smp : Same H' (upd H' p (.tup [.int (kd : Nat), .int (t : Nat), .int (on : Nat), .int (off : Nat)])) := same_none hp
        have tp : SqT K (upd H' p (.tup [.int (kd : Nat), .int (t : Nat), .int (on : Nat), .int (off : Nat)])) p [.int (kd : Nat), .int (t : Nat), .int (on : Nat), .int (off : Nat)] := SqT.of upd_same
        have stp := st'.same smp
        obtain ⟨dx, rsA, ha, hl, ht⟩ := id stp
        refine ⟨_, rfl, _, rfl, iteFD (by simp) ?_⟩
        refine ⟨_, rfl, a, dx, _, rfl, ha, fs_no.2.2.2.2.1, ?_⟩
        refine ⟨_, rfl, p, _, 0, _, rfl, rfl, tp, rfl, _, rfl, p, _, 1, _, rfl, rfl, tp, rfl, _, rfl, p, _, 2, _, rfl, rfl, tp, rfl, _, rfl, p, _, 3, _, rfl, rfl, tp, rfl, ?_⟩
        refine ⟨a, l', s', kd, t, on, off, rfl, stp, G', fun H2 l2 st2 fr2 kp2 => ⟨rfl, _, rfl, ?_⟩⟩
        have hp0 : H p = none := kp.fr p hp
        have pq : q ≠ p := fun e => by subst e; rw [hq'] at hp; cases hp
        have kpA : Kp [a, l] H (upd H' p (.tup [.int (kd : Nat), .int (t : Nat), .int (on : Nat), .int (off : Nat)])) := kp.upd (.inr hp0)
        have fr' : l2 = l ∨ H l2 = none := by
          rcases fr2 with e | e
          · rw [e]; exact fr
          · exact .inr (kpA.fr l2 e)
        have kpB : Kp [a, l] H H2 := by
          refine ⟨fun b o e n => ?_, fun b e => kpA.fr b (kp2.fr b e)⟩
          refine kp2.at_ b o (kpA.at_ b o e n) ?_
          have n1 : b ≠ a := fun z => n (by simp [z])
          have n2 : b ≠ l' := fun z => by
            subst z
            rcases fr with e3 | e3
            · exact n (by simp [e3])
            · rw [e3] at e; cases e
          simp [n1, n2]
        refine ite2 (fun c => ?_) (fun c => ?_)
        · have c : ¬ (Sg24.told s' (kd : Nat) (t : Nat) on off).1 = 0 := fun z => by
            rw [Bool.not_eq_true', decide_eq_false_iff_not] at c
            exact c (congrArg V.int z)
          rw [if_neg c] at er
          refine ⟨_, rfl, _, rfl, _, _, rfl, rfl, ?_⟩
          have := k H2 l2 (by rw [er]; exact st2) fr' kpB
          rw [er] at this
          exact this
        · have c : (Sg24.told s' (kd : Nat) (t : Nat) on off).1 = 0 := by
            rw [Bool.not_eq_true', decide_eq_false_iff_not, Classical.not_not] at c
            exact V.int.inj c
          rw [if_pos c] at er
          refine ⟨_, rfl, _, _, rfl, rfl, ?_⟩
          refine ⟨l2, _, _, _, by rw [show (((i + 1 : Nat)) : Int) = (i : Nat) + 1 by omega]; rfl, st2, Mq.told_good G', er, fr', kpB, ?_, ?_, ?_, ?_⟩
          · exact kp2.at_ q _ (by rw [upd_ne pq]; exact hq') (by simp [aq, lq'])
          · refine WordsAt.same hw' fun r hr o e => kp2.at_ r o ?_ (by simp [ar r hr, lr' r hr])
            rw [upd_ne (fun z => by subst z; rw [hp] at e; cases e)]; exact e
          · rcases fr2 with e | e
            · rw [e]; exact lq'
            · intro z; subst z; rw [upd_ne pq, hq'] at e; cases e
          · intro r hr
            rcases fr2 with e | e
            · rw [e]; exact lr' r hr
            · intro z; subst z
              have e' := upd_none e
              obtain ⟨j, hj, ej⟩ := List.getElem_of_mem hr
              have hl : j < (Mq.spI [] b).length := by omega
              obtain ⟨r', q1, q2⟩ := WordsAt.get hw' (List.getElem?_eq_getElem hl)
              rw [List.getElem?_eq_getElem hj, ej] at q1
              cases q1
              rw [e'] at q2; cases q2
    · rintro σ H' ⟨l', s', x3, x4, rfl, st', G', er, fr, kp, _⟩
      rw [List.length_map, lw, List.drop_length] at er
      have e2 : runR s b = ((((Mq.spI [] b).length : Nat) : Int), s') := er
      refine ⟨_, rfl, ?_⟩
      have := k H' l' (by rw [e2]; exact st') fr kp
      rw [e2] at this
      rw [List.length_map, lw]
      exact this
end
end Fq

end

section
set_option Elab.async false
set_option linter.all false
set_option maxRecDepth 100000
namespace L2
open PySem PySem.Spec PyProof.Rows
/-! products and shifts of numbers that are not small -/
def CBig (i j : Int) : Prop := i.natAbs < 2 ^ 1000 ∧ j.natAbs < 2 ^ 1000
theorem op_mulB {X : Cx} : OpR X (binaryOp .Mult) (rI CBig fun i j => .int (i * j)) := opI fun _ _ _ _ _ _ _ hc q =>
  mul_int q (IntMulOk.of_bits (Nat.le_trans (PyProof.Rows.intBits_le hc.1) (by decide)) (Nat.le_trans (PyProof.Rows.intBits_le hc.2) (by decide)))
def CShl (i j : Int) : Prop := i.natAbs < 2 ^ 1000 ∧ 0 ≤ j ∧ j ≤ 1000
theorem op_shlB {X : Cx} : OpR X (binaryOp .LShift) (rI CShl fun i j => .int (i * 2 ^ j.toNat)) := opI fun i j _ _ _ _ _ hc q =>
  lshift_int hc.2.1 (by have := PyProof.Rows.intBits_le hc.1; have := hc.2.2; omega) q
end L2

end

section
set_option Elab.async false
set_option linter.all false
set_option maxRecDepth 100000
namespace Fq
open PySem PySem.Spec PyProof.Rows L2
open Sg24 (Num)
/-! squared_sizes, is_below, amplitude, chance, draw -/
theorem boot_abs' : bootBuiltins "abs" = some (.builtin "abs") := by decide +kernel
theorem boot_sum' : bootBuiltins "sum" = some (.builtin "sum") := by decide +kernel
theorem boot_list' : bootBuiltins "list" = some (.type "list") := by decide +kernel
/-- what the top has written, for these -/
structure Tx (mg : Str → Option Value) : Prop where
  db : GI mg "DRAWN_BITS" 64
  sm : mg "sum" = none
  ab : mg "abs" = none
  li : mg "list" = none
theorem big {i : Int} {e : Nat} (h : i.natAbs < 2 ^ e) (he : e ≤ 1000 := by decide) : i.natAbs < 2 ^ 1000 := Nat.lt_of_lt_of_le h (Nat.pow_le_pow_right (by decide) he)
theorem shl_lt {i : Int} {j A B : Nat} (h : i.natAbs ≤ 2 ^ A) (hj : j ≤ B) (hab : A + B < 190) : (i * 2 ^ j).natAbs < 2 ^ 190 := by
  rw [Int.natAbs_mul, Int.natAbs_pow]
  refine Nat.lt_of_le_of_lt (Nat.mul_le_mul h (Nat.pow_le_pow_right (n := (2 : Int).natAbs) (by decide) hj)) ?_
  show 2 ^ A * 2 ^ B < 2 ^ 190
  rw [← Nat.pow_add]
  exact Nat.pow_lt_pow_right (by decide) hab
/-! sizes as tuples -/
def ZT (u : Num) : List V := [.int (Sg24.norm u).1, .int (Sg24.norm u).2]
def SizesAt (K : PySem.W.Frag) (H : Hp) (a : Addr) (us : List Num) : Prop := ∃ rs : List Addr, H a = some (.lst (rs.map V.ref)) ∧ Paired (fun r u => SqT K H r (ZT u)) rs us
theorem szs_get {K : PySem.W.Frag} {H : Hp} : ∀ {rs : List Addr} {us : List Num} {i : Nat} {u : Num}, Paired (fun r u => SqT K H r (ZT u)) rs us → us[i]? = some u → ∃ r, rs[i]? = some r ∧ SqT K H r (ZT u)
  | _, _, _, _, .nil, e => by simp at e
  | r :: _, _ :: _, 0, _, .cons h _, e => by simp at e; subst e; exact ⟨r, rfl, h⟩
  | _ :: _, _ :: _, i + 1, u, .cons _ t, e => by
    obtain ⟨r, h1, h2⟩ := szs_get (i := i) (u := u) t (by simpa using e)
    exact ⟨r, by simpa using h1, h2⟩
theorem szs_snoc {K : PySem.W.Frag} {H : Hp} {r : Addr} {u : Num} (h : SqT K H r (ZT u)) : ∀ {rs : List Addr} {us : List Num}, Paired (fun r u => SqT K H r (ZT u)) rs us → Paired (fun r u => SqT K H r (ZT u)) (rs ++ [r]) (us ++ [u])
  | _, _, .nil => .cons h .nil
  | _, _, .cons a t => .cons a (szs_snoc h t)
theorem szs_tk {K : PySem.W.Frag} {H H' : Hp} {rs : List Addr} {us : List Num} (t : Paired (fun r u => SqT K H r (ZT u)) rs us) (k : Tk H H') : Paired (fun r u => SqT K H' r (ZT u)) rs us := Paired.mapP t fun _ _ h => k.sqT h
theorem SizesAt.same {K : PySem.W.Frag} {H H' : Hp} {a : Addr} {us : List Num} (h : SizesAt K H a us) (s : Same H H') : SizesAt K H' a us := by
  obtain ⟨rs, h1, h2⟩ := h
  exact ⟨rs, s _ _ h1, szs_tk h2 s.tk⟩
def Sml (u : Num) : Prop := u.a.natAbs < 2 ^ 61 ∧ u.b.natAbs < 2 ^ 61 ∧ u.c.natAbs < 2 ^ 61 ∧ u.d.natAbs < 2 ^ 61
theorem lc_sizes {K : PySem.W.Frag} {g : TG} {te : TE} {vs : List Nat} {σ : L2.St} {Q : VK} {H : Hp} {a : Addr} {us : List Num} (h : NumsAt K H a us) (hz : us.length ≤ 1024)
    (he : ∀ (u : Num) (r : Addr) (H' : Hp) (R : VK) (Z : Hp → Prop), u ∈ us → SqT K H' r (NT u) → (∀ p, H' p = none → R (.ref p) (upd H' p (.tup (ZT u)))) →
      g (.ref r) (wipe σ vs) H' fun σ2 H2 => wipe σ2 vs = wipe σ vs ∧ tYes σ2 H2 fun b H3 => if b = true then te σ2 H3 R else Z H3)
    (k : ∀ (H' : Hp) (p : Addr), Same H H' → H p = none → SizesAt K H' p us → Q (.ref p) H') (D : Addr) (hD : H D = none) : LcGoal (Itl K a) g tYes te vs σ Q H D := by
  obtain ⟨rs0, ha, t0⟩ := h
  have ln : rs0.length = us.length := Paired.length t0
  refine lc_by us.length (fun i H' => ∃ rs : List Addr, H' D = some (.lst (rs.map V.ref)) ∧ Paired (fun r u => SqT K H' r (ZT u)) rs (us.take i) ∧ Same H H') ⟨[], upd_same, .nil, same_none hD⟩ ?_ ?_ ?_
  · rintro i H' hi ⟨rs, _, _, sm⟩
    obtain ⟨r, hr, _⟩ := Tups.get t0 (List.getElem?_eq_getElem hi)
    exact ⟨_, _, SqL.of (sm _ _ ha), by rw [List.getElem?_map, hr]; rfl⟩
  · rintro H' ⟨rs, h1, h2, sm⟩
    refine ⟨⟨_, SqL.of (sm _ _ ha), by rw [List.length_map]; omega⟩, k H' D sm hD ⟨rs, h1, ?_⟩⟩
    rwa [List.take_length] at h2
  · rintro i H1 x H' hi ⟨rs, h1, h2, sm⟩ ⟨rfl, hy⟩
    obtain ⟨r, hr, ht⟩ := Tups.get t0 (List.getElem?_eq_getElem hi)
    have ex : x = .ref r := by
      have := hy _ (SqL.of (sm _ _ ha))
      rw [List.getElem?_map, hr] at this
      exact (Option.some.inj this).symm
    subst ex
    refine he us[i] r H' _ _ (List.getElem_mem hi) (sm.tk.sqT ht) fun p hp => ?_
    have pD : D ≠ p := fun e => by subst e; rw [h1] at hp; cases hp
    have hD4 : (upd H' p (.tup (ZT us[i]))) D = some (.lst (rs.map V.ref)) := by rw [upd_ne pD]; exact h1
    have lr : rs.length = i := by
      have := Paired.length h2
      rw [List.length_take] at this
      omega
    refine ⟨_, hD4, by rw [List.length_map, lr]; exact Nat.lt_of_lt_of_le hi (Nat.le_trans hz (by decide)), rs ++ [p], by rw [upd_same, List.map_append]; rfl, ?_, Same.store (sm.trans (same_none hp)) hD⟩
    rw [take_snoc' (List.getElem?_eq_getElem hi)]
    refine szs_snoc ?_ (szs_tk h2 ((tk_none hp).trans (tk_lst hD4)))
    exact (tk_lst hD4).sqT (SqT.of upd_same)
/-- one part of each size -/
theorem lc_part {K : PySem.W.Frag} {g : TG} {te : TE} {vs : List Nat} {σ : L2.St} {Q : VK} {H : Hp} {a : Addr} {us : List Num} (φ : Num → Int) (h : SizesAt K H a us) (hz : us.length ≤ 1024)
    (he : ∀ (u : Num) (r : Addr) (H' : Hp) (R : VK) (Z : Hp → Prop), SqT K H' r (ZT u) → R (.int (φ u)) H' →
      g (.ref r) (wipe σ vs) H' fun σ2 H2 => wipe σ2 vs = wipe σ vs ∧ tYes σ2 H2 fun b H3 => if b = true then te σ2 H3 R else Z H3)
    (k : ∀ (H' : Hp) (p : Addr), Same H H' → H p = none → H' p = some (.lst ((us.map φ).map V.int)) → Q (.ref p) H') (D : Addr) (hD : H D = none) : LcGoal (Itl K a) g tYes te vs σ Q H D := by
  obtain ⟨rs0, ha, t0⟩ := h
  have ln : rs0.length = us.length := Paired.length t0
  refine lc_by us.length (fun i H' => H' D = some (.lst (((us.take i).map φ).map V.int)) ∧ Same H H') ⟨upd_same, same_none hD⟩ ?_ ?_ ?_
  · rintro i H' hi ⟨_, sm⟩
    obtain ⟨r, hr, _⟩ := szs_get t0 (List.getElem?_eq_getElem hi)
    exact ⟨_, _, SqL.of (sm _ _ ha), by rw [List.getElem?_map, hr]; rfl⟩
  · rintro H' ⟨h1, sm⟩
    refine ⟨⟨_, SqL.of (sm _ _ ha), by rw [List.length_map]; omega⟩, k H' D sm hD ?_⟩
    rwa [List.take_length] at h1
  · rintro i H1 x H' hi ⟨h1, sm⟩ ⟨rfl, hy⟩
    obtain ⟨r, hr, ht⟩ := szs_get t0 (List.getElem?_eq_getElem hi)
    have ex : x = .ref r := by
      have := hy _ (SqL.of (sm _ _ ha))
      rw [List.getElem?_map, hr] at this
      exact (Option.some.inj this).symm
    subst ex
    refine he us[i] r H' _ _ (sm.tk.sqT ht) ?_
    refine ⟨_, h1, by rw [List.length_map, List.length_map, List.length_take]; exact Nat.lt_of_le_of_lt (Nat.min_le_left _ _) (Nat.lt_of_lt_of_le hi (Nat.le_trans hz (by decide))), ?_, sm.store hD⟩
    rw [upd_same, take_snoc' (List.getElem?_eq_getElem hi), List.map_append, List.map_append]; rfl
section
variable {P : Program} {w : World} {K : PySem.W.Frag} {mg : Str → Option Value} {base : Heap} {C tA : Addr}
/-! squared_sizes -/
def spSizes (K : PySem.W.Frag) : Sp := fun vs H Q _ => ∃ (a : Addr) (us : List Num), vs = [.ref a] ∧ NumsAt K H a us ∧ us.length ≤ 1024 ∧ (∀ u ∈ us, Sml u) ∧
  ∀ (H' : Hp) (p : Addr), Same H H' → H p = none → SizesAt K H' p us → Q (.ref p) H'
theorem scSizes : FnScope ["numbers", "a", "b", "c", "d"] ["numbers"] (defScope sSizes) := ⟨rfl, rfl, rfl, by decide +kernel, rfl, by decide +kernel, by decide +kernel⟩
theorem ok_sizes {f : Addr} {fd : FuncData} (F : Fun K "squared_sizes" "squared_sizes" sSizes f fd) : FnOk P w K mg base CX0 1 f fd ["numbers"] (spSizes K) := by
  refine F.ok scSizes (fun vs H Q E h => ?_) (fun cdv A outer s H vs Q E hr h => ?_)
  · obtain ⟨a, us, rfl, _⟩ := h
    rfl
  · obtain ⟨a, us, rfl, ha, hz, hsm, k⟩ := h
    refine ⟨_, pss_one (ps_ret (pe_lc (own := [("a", 1), ("b", 2), ("c", 3), ("d", 4)]) rfl scSizes.nd (pi_list (pv 0))
      (blk_of (N := ["numbers", "a", "b", "c", "d"]) (sc := defScope sSizes) (by decide +kernel))
      (fun _ _ _ _ _ => pg_tupK (K := K) (n := 4) rfl rfl (pgs_cons (pg_name (i := 1) scSizes.nd rfl (Or.inl rfl) (Or.inr rfl)) (pgs_cons (pg_name (i := 2) scSizes.nd rfl (Or.inl rfl) (Or.inr rfl)) (pgs_cons (pg_name (i := 3) scSizes.nd rfl (Or.inl rfl) (Or.inr rfl)) (pgs_cons (pg_name (i := 4) scSizes.nd rfl (Or.inl rfl) (Or.inr rfl)) pgs_nil)))))
      (fun _ _ _ _ _ => pts_nil)
      (fun _ _ _ _ _ => pe_tup (pa_cons (pe_op op_add (pe_op op_add (pe_op op_add (pe_op op_mulB (pv 1) (pv 1)) (pe_op op_mulB (pv 2) (pv 2))) (pe_op op_mulB (pv 3) (pv 3))) (pe_op op_mulB (pv 4) (pv 4)))
        (pa_cons (pe_op op_sub (pe_op op_add (pe_op op_add (pe_op op_mulB (pv 1) (pv 2)) (pe_op op_mulB (pv 2) (pv 3))) (pe_op op_mulB (pv 3) (pv 4))) (pe_op op_mulB (pv 4) (pv 1))) pa_nil))))), ?_⟩
    obtain ⟨rs0, ha0, t0⟩ := id ha
    refine ⟨_, rfl, a, rfl, ⟨_, SqL.of ha0⟩, ?_⟩
    refine lc_sizes (us := us) ha hz (fun u r H' R Z hu h1 kk => ?_) k
    obtain ⟨sa, sb, sc, sd⟩ := hsm u hu
    have sa := big sa; have sb := big sb; have sc := big sc; have sd := big sd
    refine ⟨r, _, rfl, h1, rfl, _, _, rfl, _, _, rfl, _, _, rfl, _, _, rfl, rfl, rfl, ?_⟩
    refine ⟨_, rfl, _, rfl, _, _, rfl, rfl, ⟨sa, sa⟩, _, rfl, _, rfl, _, _, rfl, rfl, ⟨sb, sb⟩, _, _, rfl, rfl, _, rfl, _, rfl, _, _, rfl, rfl, ⟨sc, sc⟩, _, _, rfl, rfl, _, rfl, _, rfl, _, _, rfl, rfl, ⟨sd, sd⟩, _, _, rfl, rfl, ?_⟩
    refine ⟨_, rfl, _, rfl, _, _, rfl, rfl, ⟨sa, sb⟩, _, rfl, _, rfl, _, _, rfl, rfl, ⟨sb, sc⟩, _, _, rfl, rfl, _, rfl, _, rfl, _, _, rfl, rfl, ⟨sc, sd⟩, _, _, rfl, rfl, _, rfl, _, rfl, _, _, rfl, rfl, ⟨sd, sa⟩, _, _, rfl, rfl, ?_⟩
    exact ⟨(by show 2 ≤ sizeLine; decide), fun p hp => kk p hp⟩
/-! is_below -/
def spBelow : Sp := fun vs H Q _ => ∃ (w x y : Int), vs = [.int w, .int x, .int y] ∧ w.natAbs < 2 ^ 190 ∧ x.natAbs < 2 ^ 190 ∧ y.natAbs < 2 ^ 190 ∧ Q (.bl (Sg24.positive (x - w) y)) H
theorem scBelow : FnScope ["whole", "x", "y", "rest"] ["whole", "x", "y"] (defScope sBelow) := ⟨rfl, rfl, rfl, by decide +kernel, rfl, by decide +kernel, by decide +kernel⟩
theorem ok_below {f : Addr} {fd : FuncData} (F : Fun K "is_below" "is_below" sBelow f fd) (Tz : Tx mg) : FnOk P w K mg base CX0 1 f fd ["whole", "x", "y"] spBelow := by
  refine F.ok scBelow (fun vs H Q E h => ?_) (fun cdv A outer s H vs Q E hr h => ?_)
  · obtain ⟨w, x, y, rfl, _⟩ := h
    rfl
  · obtain ⟨w, x, y, rfl, hw, hx, hy, k⟩ := h
    refine ⟨_, pss_cons (ps_set (i := 3) scBelow.nd rfl (Or.inl rfl) (pe_op op_sub (pv 1) (pv 0)))
      (pss_one (ps_ret (pe_cmpR op_gt (pe_op op_add (pe_op op_mulB (pv 3) (pe_callB call_abs (by rfl) Tz.ab boot_abs' (pa_cons (pv 3) pa_nil))) (pe_op op_mulB (pe_op op_mulB pe_int (pv 2)) (pe_callB call_abs (by rfl) Tz.ab boot_abs' (pa_cons (pv 2) pa_nil)))) pe_int (nomark _)))), ?_⟩
    have n1 : (x - w).natAbs < 2 ^ 191 := by omega
    have n2 : (2 * y).natAbs < 2 ^ 191 := by omega
    refine ⟨_, rfl, _, rfl, _, _, rfl, rfl, ?_⟩
    refine ⟨_, rfl, _, rfl, _, rfl, _, _, rfl, rfl, ⟨big n1, by rw [show (if x - w < 0 then -(x - w) else x - w) = Mq.absI (x - w) from rfl, Mq.abs_nat]; exact big n1⟩, ?_⟩
    refine ⟨_, rfl, _, _, rfl, rfl, ⟨by show (2 : Int).natAbs < 2 ^ 1000; exact big (e := 2) (by decide), big hy⟩, _, rfl, _, rfl, _, _, rfl, rfl, ⟨big n2, by rw [show (if y < 0 then -y else y) = Mq.absI y from rfl, Mq.abs_nat]; exact big hy⟩, _, _, rfl, rfl, _, _, rfl, rfl, ?_⟩
    show Q (.bl (decide (0 < (x - w) * Mq.absI (x - w) + 2 * y * Mq.absI y))) H
    rw [Mq.below_eq]; exact k
/-! amplitude -/
def ampR (s : Sg24.State) (p : Nat) : List Int := if p < 2 ^ s.n then [(s.k : Int), (s.at_ p).a, (s.at_ p).b, (s.at_ p).c, (s.at_ p).d] else [-1]
def spAmp (K : PySem.W.Frag) (C : Addr) : Sp := fun vs H Q _ => ∃ (a l : Addr) (s : Sg24.State) (p : Nat), vs = [.ref a, .int (p : Nat)] ∧ StAt K C H a l s ∧ Mq.Good s ∧
  ∀ (H' : Hp) (q : Addr), Same H H' → H q = none → H' q = some (.lst ((ampR s p).map V.int)) → Q (.ref q) H'
theorem scAmp : FnScope ["self", "place"] ["self", "place"] (defScope sAmp) := ⟨rfl, rfl, rfl, by decide +kernel, rfl, by decide +kernel, by decide +kernel⟩
theorem ok_amp {f : Addr} {fd : FuncData} (F : Fun K "amplitude" "State.amplitude" sAmp f fd) (T : Ts K mg C tA) (Tz : Tx mg) : FnOk P w K mg base CX0 1 f fd ["self", "place"] (spAmp K C) := by
  refine F.ok scAmp (fun vs H Q E h => ?_) (fun cdv A outer s H vs Q E hr h => ?_)
  · obtain ⟨a, l, s, p, rfl, _⟩ := h
    rfl
  · obtain ⟨a, l, s, p, rfl, st, G, k⟩ := h
    refine ⟨_, pss_cons (ps_if (pt_cmpR op_ge (pv 1) (pe_op op_shl pe_int (pe_fld (pv 0) rfl)) (nomark _)) (pss_one (ps_ret (pe_lst (pa_cons (pe_gi T.rf) pa_nil)))) pss_nil)
      (pss_one (ps_ret (pe_op op_cat (pe_lst (pa_cons (pe_fld (pv 0) rfl) pa_nil)) (pe_callTy call_list_of rfl Tz.li boot_list' (pa_cons (pe_ix ix_list (pe_fld (pv 0) rfl) (pv 1) (fun _ _ => rfl)) pa_nil))))), ?_⟩
    obtain ⟨dx, rs, ha, hl, ht⟩ := id st
    have n10 := G.nm.n10
    have sh : (1 : Int) * 2 ^ ((s.n : Nat) : Int).toNat = ((2 ^ s.n : Nat) : Int) := Bt.shl1 s.n
    refine ⟨_, rfl, _, rfl, a, C, dx, _, _, rfl, ha, T.cl, T.nQ, sf_q _ _ _, _, _, rfl, rfl, ⟨by omega, by omega, by decide⟩, _, _, rfl, rfl, _, rfl, ?_⟩
    rw [sh]
    refine ite2 (fun c => ?_) (fun c => ?_)
    · have c : ((2 ^ s.n : Nat) : Int) ≤ (p : Int) := of_decide_eq_true c
      refine ⟨(by show 1 ≤ sizeLine; decide), fun q hq => k _ q (same_none hq) hq ?_⟩
      rw [upd_same, ampR, if_neg (by omega)]; rfl
    · have c : ¬ ((2 ^ s.n : Nat) : Int) ≤ (p : Int) := fun z => c (decide_eq_true z)
      have hp : p < 2 ^ s.n := by omega
      obtain ⟨r, h3, h4⟩ := Tups.get ht (Mq.at_lt G.nm hp)
      refine ⟨_, rfl, a, C, dx, _, _, rfl, ha, T.cl, T.nK, sf_k _ _ _, (by show 1 ≤ sizeLine; decide), fun z hz => ?_⟩
      have s1 := same_none (o := .lst [V.int (s.k : Nat)]) hz
      refine ⟨_, rfl, a, C, dx, _, _, rfl, s1 _ _ ha, T.cl, T.nA, sf_a _ _ _, _, rfl, l, _, _, _, rfl, rfl, SqL.of (s1 _ _ hl), at_of (j := p) rfl (by rw [List.getElem?_map, h3]; rfl), r, _, rfl, .inr (s1.tk.sqT h4), fun y hy => ?_⟩
      have zy : z ≠ y := fun e => by subst e; rw [upd_same] at hy; cases hy
      have s2 := same_none (o := .lst (NT (s.at_ p))) hy
      refine ⟨z, y, _, _, rfl, rfl, (by rw [upd_ne zy, upd_same]), upd_same, (by show 1 + 4 ≤ sizeLine; decide), fun q hq => k _ q ((s1.trans s2).trans (same_none hq)) ((s1.trans s2).free hq) ?_⟩
      rw [upd_same, ampR, if_pos hp]; rfl
/-! chance -/
def chR (s : Sg24.State) (m v : Nat) : List Int := if m < 2 ^ s.n ∧ v < 2 ^ s.n ∧ v &&& m = v then [(s.k : Int), (Sg24.chance s fun p => p &&& m == v).1, (Sg24.chance s fun p => p &&& m == v).2] else [-1]
theorem filter_snoc' {f : Nat → Bool} {s : Sg24.State} (i : Nat) : ((List.range (i + 1)).filter f).map s.at_ = ((List.range i).filter f).map s.at_ ++ (if f i = true then [s.at_ i] else []) := by
  rw [filter_snoc, List.map_append]; congr 1
  split <;> rfl
theorem lc_seen {D : Ends} {H : Hp} {a l : Addr} {s : Sg24.State} {m v : Nat} {x3 x4 x5 x6 x7 : Option V} (c1 : Cls K C) (c2 : NoAttr K C "qubits") (c3 : NoAttr K C "amplitudes") (st : StAt K C H a l s) (N : Mq.Nrm s)
    (k : ∀ (H' : Hp) (q : Addr), Same H H' → H q = none → NumsAt K H' q (Mq.seenOf s fun p => p &&& m == v) → D.nx [some (.ref a), some (.int (m : Nat)), some (.int (v : Nat)), some (.ref q), x4, x5, x6, x7] H') :
    tAsg (tLc (iRng1 (tCons (tOp (rI CPow fun i j => .int (i * 2 ^ j.toNat)) (tC (.int 1)) (tFld K (tVar 0) "qubits")) tNil)) (gName 5) (tTest (tOp rEq (tOp (rI0 fun i j => .int (Builtin.bitAnd i j)) (tVar 5) (tVar 1)) (tVar 2))) (tOp (rIxL K) (tFld K (tVar 0) "amplitudes") (tVar 5)) [5]) (gName 3) D
      [some (.ref a), some (.int (m : Nat)), some (.int (v : Nat)), x3, x4, x5, x6, x7] H := by
  obtain ⟨dx, rs, ha, hl, ht⟩ := id st
  have hn := N.n10
  have sh : (1 : Int) * 2 ^ ((s.n : Nat) : Int).toNat = ((2 ^ s.n : Nat) : Int) := Bt.shl1 s.n
  have p10 := pow10 hn
  have jn : ((1 : Int) * 2 ^ ((s.n : Nat) : Int).toNat).toNat = 2 ^ s.n := by rw [sh, Int.toNat_natCast]
  refine ⟨_, rfl, a, C, dx, _, _, rfl, ha, c1, c2, sf_q _ _ _, _, _, rfl, rfl, ⟨by omega, by omega, by decide⟩, _, rfl, ?_, ?_, fun L hL => ?_⟩
  · rw [sh]; omega
  · rw [sh]; have : ((2 ^ s.n : Nat) : Int) ≤ 1024 := by omega
    omega
  refine lc_by (Q := fun x H1 => gName 3 x [some (.ref a), some (.int (m : Nat)), some (.int (v : Nat)), x3, x4, x5, x6, x7] H1 D.nx) (2 ^ s.n)
    (fun i H' => ∃ qs : List Addr, H' L = some (.lst (qs.map V.ref)) ∧ Tups K H' qs (((List.range i).filter fun p => p &&& m == v).map s.at_) ∧ Same H H') ⟨[], upd_same, .nil, same_none hL⟩ ?_ ?_ ?_
  · rintro i H' hi _
    show i < ((1 : Int) * 2 ^ ((s.n : Nat) : Int).toNat).toNat
    rw [jn]; exact hi
  · rintro H' ⟨qs, h1, h2, sm⟩
    refine ⟨?_, k H' L sm hL ⟨qs, h1, h2⟩⟩
    show ((1 : Int) * 2 ^ ((s.n : Nat) : Int).toNat).toNat ≤ _
    rw [jn]; exact Nat.le_refl _
  · rintro i H' x H2 hi ⟨qs, h1, h2, sm⟩ ⟨rfl, rfl⟩
    have lt : ((List.range i).filter fun p => p &&& m == v).length ≤ i := Nat.le_trans (List.length_filter_le _ _) (by rw [List.length_range]; exact Nat.le_refl _)
    have lq : qs.length ≤ i := by
      have := Paired.length h2
      rw [List.length_map] at this; omega
    refine ⟨rfl, _, rfl, _, rfl, _, _, rfl, rfl, _, rfl, rfl, _, rfl, ?_⟩
    have e0 : (0 : Int) + (i : Nat) = (i : Nat) := by omega
    have ec : decide (V.int (Builtin.bitAnd ((0 : Int) + (i : Nat)) (m : Int)) = V.int (v : Nat)) = (i &&& m == v) := by
      rw [e0, Bt.band]
      by_cases h : i &&& m = v
      · rw [h]; simp
      · rw [decide_eq_false (fun z => h (by injection z with z; omega)), beq_eq_false_iff_ne.mpr h]
    refine ite2 (fun c => ?_) (fun c => ?_)
    · have c := ec.symm.trans c
      obtain ⟨r, h3, h4⟩ := Tups.get ht (Mq.at_lt N hi)
      refine ⟨_, rfl, a, C, dx, _, _, rfl, sm _ _ ha, c1, c3, sf_a _ _ _, _, rfl, l, _, _, _, rfl, rfl, SqL.of (sm _ _ hl), at_of (j := i) e0 (by rw [List.getElem?_map, h3]; rfl), ?_⟩
      refine ⟨_, h1, by rw [List.length_map]; exact Nat.lt_of_le_of_lt lq (Nat.lt_of_lt_of_le hi (Nat.le_trans p10 (by decide))), qs ++ [r], by rw [upd_same, List.map_append]; rfl, ?_, sm.store hL⟩
      rw [filter_snoc', if_pos c]
      exact Tups.snoc ((sm.tk.trans (tk_lst h1)).sqT h4) (Tups.tk h2 (tk_lst h1))
    · have c : ¬ (i &&& m == v) = true := fun z => c (ec.trans z)
      refine ⟨qs, h1, ?_, sm⟩
      rw [filter_snoc', if_neg c, List.append_nil]; exact h2
/-- the comprehension of one part -/
theorem lc_pt {Q : VK} {H : Hp} {zl : Addr} {us : List Num} {x0 x1 x2 x3 : Option V} {j : Nat} (φ : Num → Int) (h : SizesAt K H zl us) (hz : us.length ≤ 1024)
    (hj : ∀ (u : Num) (H' : Hp) (R : VK), R (.int (φ u)) H' → tVar j [x0, x1, x2, x3, some (.ref zl), none, some (.int (Sg24.norm u).1), some (.int (Sg24.norm u).2)] H' R)
    (k : ∀ (H' : Hp) (p : Addr), Same H H' → H p = none → H' p = some (.lst ((us.map φ).map V.int)) → Q (.ref p) H') :
    tLc (iList K (tVar 4)) (gTup K 2 (gCons (gName 6) (gCons (gName 7) gNil))) tYes (tVar j) [6, 7] [x0, x1, x2, x3, some (.ref zl), none, none, none] H Q := by
  obtain ⟨zs, hz2, tz2⟩ := id h
  refine ⟨_, rfl, zl, rfl, ⟨_, SqL.of hz2⟩, fun L hL => ?_⟩
  refine lc_part (Q := Q) (σ := [x0, x1, x2, x3, some (.ref zl), none, none, none]) (us := us) φ h hz (fun u r H' R Z hu kk => ?_) k L hL
  refine ⟨r, _, rfl, hu, rfl, _, _, rfl, _, _, rfl, rfl, rfl, ?_⟩
  exact hj u H' R kk
theorem ret_ch {D : Ends} {H : Hp} {a l zl : Addr} {s : Sg24.State} {us : List Num} {x1 x2 x3 : Option V} (c1 : Cls K C) (c2 : NoAttr K C "k") (st : StAt K C H a l s) (h : SizesAt K H zl us) (hz : us.length ≤ 1024)
    (k : ∀ (H' : Hp) (q : Addr), Same H H' → H q = none → H' q = some (.lst [.int (s.k : Nat), .int (us.map fun u => (Sg24.norm u).1).sum, .int (us.map fun u => (Sg24.norm u).2).sum]) → D.rt (.ref q) H') :
    tRet (tLst (tCons (tFld K (tVar 0) "k") (tCons (tCB (rSum K) (tCons (tLc (iList K (tVar 4)) (gTup K 2 (gCons (gName 6) (gCons (gName 7) gNil))) tYes (tVar 6) [6, 7]) tNil)) (tCons (tCB (rSum K) (tCons (tLc (iList K (tVar 4)) (gTup K 2 (gCons (gName 6) (gCons (gName 7) gNil))) tYes (tVar 7) [6, 7]) tNil)) tNil)))) D
      [some (.ref a), x1, x2, x3, some (.ref zl), none, none, none] H := by
  obtain ⟨dx, rs, ha, hl, ht⟩ := id st
  refine ⟨_, rfl, a, C, dx, _, _, rfl, ha, c1, c2, sf_k _ _ _, ?_⟩
  unfold tCons tCB
  refine lc_pt (us := us) (fun u => (Sg24.norm u).1) h hz (fun u H' R kk => ⟨_, rfl, kk⟩) fun H3 p3 s3 n3 h3 => ?_
  refine ⟨p3, _, rfl, SqL.of h3, ?_⟩
  refine lc_pt (us := us) (fun u => (Sg24.norm u).2) (h.same s3) hz (fun u H' R kk => ⟨_, rfl, kk⟩) fun H4 p4 s4 n4 h4 => ?_
  refine ⟨p4, _, rfl, SqL.of h4, (by show 3 ≤ sizeLine; decide), fun q hq => ?_⟩
  exact k _ q ((s3.trans s4).trans (same_none hq)) ((s3.trans s4).free hq) upd_same
theorem seen_len (s : Sg24.State) (f : Nat → Bool) : (Mq.seenOf s f).length ≤ 2 ^ s.n := by
  unfold Mq.seenOf
  rw [List.length_map]
  exact Nat.le_trans (List.length_filter_le _ _) (by rw [List.length_range]; exact Nat.le_refl _)
theorem seen_sml {s : Sg24.State} (G : Mq.Good s) (f : Nat → Bool) : ∀ u ∈ Mq.seenOf s f, Sml u := by
  intro u hu
  unfold Mq.seenOf at hu
  obtain ⟨p, hp, rfl⟩ := List.mem_map.mp hu
  exact Mq.amp_nat G (List.mem_range.mp (List.mem_filter.mp hp).1)
theorem amps_sml {s : Sg24.State} (G : Mq.Good s) : ∀ u ∈ s.amps, Sml u := by
  intro u hu
  obtain ⟨i, hi, rfl⟩ := List.getElem_of_mem hu
  have hn : i < 2 ^ s.n := by rw [← G.nm.len]; exact hi
  have e : s.at_ i = s.amps[i] := by
    have := Mq.at_lt G.nm hn
    rw [List.getElem?_eq_getElem hi] at this
    exact (Option.some.inj this).symm
  rw [← e]; exact Mq.amp_nat G hn
abbrev nCh : List Str := ["self", "mask", "value", "seen", "sizes", "p", "x", "y"]
def spCh (K : PySem.W.Frag) (C : Addr) : Sp := fun vs H Q _ => ∃ (a l : Addr) (s : Sg24.State) (m v : Nat), vs = [.ref a, .int (m : Nat), .int (v : Nat)] ∧ StAt K C H a l s ∧ Mq.Good s ∧
  ∀ (H' : Hp) (q : Addr), Same H H' → H q = none → H' q = some (.lst ((chR s m v).map V.int)) → Q (.ref q) H'
theorem scCh : FnScope nCh ["self", "mask", "value"] (defScope sChance) := ⟨rfl, rfl, rfl, by decide +kernel, rfl, by decide +kernel, by decide +kernel⟩
theorem ok_chance {f fS : Addr} {fd dS : FuncData} (F : Fun K "chance" "State.chance" sChance f fd) (T : Ts K mg C tA) (Tz : Tx mg) (FS : Fun K "squared_sizes" "squared_sizes" sSizes fS dS) (bS : Binds K dS ["numbers"] []) (mS : mg "squared_sizes" = some (.ref fS)) :
    FnOk P w K mg base CX0 2 f fd ["self", "mask", "value"] (spCh K C) := by
  have GS : FnOk P w K mg base CX0 1 fS dS ["numbers"] (spSizes K) := ok_sizes FS
  refine F.ok scCh (fun vs H Q E h => ?_) (fun cdv A outer s H vs Q E hr h => ?_)
  · obtain ⟨a, l, s, m, v, rfl, _⟩ := h
    rfl
  · obtain ⟨a, l, s, m, v, rfl, st, G, k⟩ := h
    refine ⟨_, pss_cons (ps_if (pw_or (pt_cmpR op_ne (pe_op op_shr (pe_op op_or (pv 1) (pv 2)) (pe_fld (pv 0) rfl)) pe_int (nomark _)) (pw_or1 (pt_cmpR op_ne (pe_op op_and (pv 2) (pv 1)) (pv 2) (nomark _)))).pt (pss_one (ps_ret (pe_lst (pa_cons (pe_gi T.rf) pa_nil)))) pss_nil)
      (pss_cons (ps_setLc (i := 3) (own := [("p", 5)]) rfl scCh.nd rfl rfl rfl (pi_range1 rfl T.rg (pa_cons (pe_op op_shl pe_int (pe_fld (pv 0) rfl)) pa_nil)) (blk_of (N := nCh) (sc := defScope sChance) (by decide +kernel))
        (fun _ _ _ _ _ => pg_name (i := 5) scCh.nd rfl (Or.inl rfl) (Or.inr rfl)) (fun _ _ _ _ _ => pts_one (pt_cmpR op_eq (pe_op op_and (pv 5) (pv 1)) (pv 2) (nomark _))) (fun _ _ _ _ _ => pe_ix (ix_listK (K := K) rfl) (pe_fldK (K := K) rfl (pv 0) rfl) (pv 5) (fun _ _ => rfl)))
      (pss_cons (ps_set (i := 4) scCh.nd rfl (Or.inl rfl) (pe_call GS hr rfl mS FS.kp bS .nil pass0 (pa_cons (pv 3) pa_nil)))
      (pss_one (ps_ret (pe_lst (pa_cons (pe_fld (pv 0) rfl)
        (pa_cons (pe_callB (cr_sum rfl) (by rfl) Tz.sm boot_sum' (pa_cons (pe_lc (own := [("x", 6), ("y", 7)]) rfl scCh.nd (pi_list (pv 4)) (blk_of (N := nCh) (sc := defScope sChance) (by decide +kernel))
          (fun _ _ _ _ _ => pg_tupK (K := K) (n := 2) rfl rfl (pgs_cons (pg_name (i := 6) scCh.nd rfl (Or.inl rfl) (Or.inr rfl)) (pgs_cons (pg_name (i := 7) scCh.nd rfl (Or.inl rfl) (Or.inr rfl)) pgs_nil))) (fun _ _ _ _ _ => pts_nil) (fun _ _ _ _ _ => pv 6)) pa_nil))
        (pa_cons (pe_callB (cr_sum rfl) (by rfl) Tz.sm boot_sum' (pa_cons (pe_lc (own := [("x", 6), ("y", 7)]) rfl scCh.nd (pi_list (pv 4)) (blk_of (N := nCh) (sc := defScope sChance) (by decide +kernel))
          (fun _ _ _ _ _ => pg_tupK (K := K) (n := 2) rfl rfl (pgs_cons (pg_name (i := 6) scCh.nd rfl (Or.inl rfl) (Or.inr rfl)) (pgs_cons (pg_name (i := 7) scCh.nd rfl (Or.inl rfl) (Or.inr rfl)) pgs_nil))) (fun _ _ _ _ _ => pts_nil) (fun _ _ _ _ _ => pv 7)) pa_nil))
          pa_nil)))))))), ?_⟩
    obtain ⟨dx, rs, ha, hl, ht⟩ := id st
    have n10 := G.nm.n10
    have no : ¬ (m < 2 ^ s.n ∧ v < 2 ^ s.n ∧ v &&& m = v) → ∀ q, H q = none → Q (.ref q) (upd H q (.lst [.int (-1)])) := fun z q hq => k _ q (same_none hq) hq (by rw [upd_same, chR, if_neg z]; rfl)
    have l1 : 1 ≤ sizeLine := by decide
    have e1 : Builtin.bitOr (m : Int) (v : Int) / 2 ^ ((s.n : Nat) : Int).toNat = (((m ||| v) / 2 ^ s.n : Nat) : Int) := by
      rw [Bt.bor, Int.toNat_natCast]; simp
    refine ⟨_, rfl, _, rfl, _, _, rfl, rfl, _, rfl, a, C, dx, _, _, rfl, ha, T.cl, T.nQ, sf_q _ _ _, _, _, rfl, rfl, (by show (0 : Int) ≤ ((s.n : Nat) : Int); omega), rfl, _, rfl, ?_⟩
    refine ite2 (fun c => iteT ⟨l1, no fun z => ?_⟩) (fun c5 => ?_)
    · have c : ¬ Builtin.bitOr (m : Int) (v : Int) / 2 ^ ((s.n : Nat) : Int).toNat = 0 := by
        intro z
        rw [Bool.not_eq_true', decide_eq_false_iff_not] at c
        exact c (congrArg V.int z)
      rw [e1] at c
      exact c (by rw [or_lt_iff.mpr ⟨z.1, z.2.1⟩]; rfl)
    have c5 : Builtin.bitOr (m : Int) (v : Int) / 2 ^ ((s.n : Nat) : Int).toNat = 0 := by
      rw [Bool.not_eq_true', decide_eq_false_iff_not, Classical.not_not] at c5
      exact V.int.inj c5
    rw [e1] at c5
    have c5 := or_lt_iff.mp (by omega : (m ||| v) / 2 ^ s.n = 0)
    refine ⟨_, rfl, _, rfl, _, _, rfl, rfl, _, rfl, rfl, _, rfl, ?_⟩
    refine ite2 (fun c => ⟨l1, no fun z => ?_⟩) (fun c6 => ?_)
    · rw [Bool.not_eq_true', decide_eq_false_iff_not] at c
      exact c (congrArg V.int (by rw [Bt.band, z.2.2]))
    have c6 : Builtin.bitAnd (v : Int) (m : Int) = (v : Int) := by
      rw [Bool.not_eq_true', decide_eq_false_iff_not, Classical.not_not] at c6
      exact V.int.inj c6
    rw [Bt.band] at c6
    have yes : m < 2 ^ s.n ∧ v < 2 ^ s.n ∧ v &&& m = v := ⟨c5.1, c5.2, by omega⟩
    refine lc_seen T.cl T.nQ T.nA st G.nm fun H1 sl s1 n1 h1 => ?_
    have len : (Mq.seenOf s fun p => p &&& m == v).length ≤ 1024 := Nat.le_trans (seen_len _ _) (pow10 n10)
    refine ⟨_, rfl, sl, _, rfl, h1, len, seen_sml G _, fun H2 zl s2 n2 h2 => ?_⟩
    have s12 := s1.trans s2
    refine ret_ch T.cl T.nK (st.same s12) h2 len fun H3 q s3 nq hq => ?_
    refine k _ q (s12.trans s3) (s12.free nq) ?_
    rw [hq, chR, if_pos yes, Mq.chance_sums]; rfl
/-! draw -/
def spDraw (K : PySem.W.Frag) (C : Addr) : Sp := fun vs H Q _ => ∃ (a l : Addr) (s : Sg24.State) (r : Nat), vs = [.ref a, .int (r : Nat)] ∧ StAt K C H a l s ∧ Mq.Good s ∧ r < 2 ^ 64 ∧
  ∀ H' : Hp, Same H H' → Q (.int (Sg24.drawn s r : Nat)) H'
theorem scDraw : FnScope ["self", "number", "sizes", "place", "x", "y"] ["self", "number"] (defScope sDraw) := ⟨rfl, rfl, rfl, by decide +kernel, rfl, by decide +kernel, by decide +kernel⟩
theorem ok_draw {f fS fB : Addr} {fd dS dB : FuncData} (F : Fun K "draw" "State.draw" sDraw f fd) (T : Ts K mg C tA) (Tz : Tx mg) (FS : Fun K "squared_sizes" "squared_sizes" sSizes fS dS) (bS : Binds K dS ["numbers"] []) (mS : mg "squared_sizes" = some (.ref fS))
    (FB : Fun K "is_below" "is_below" sBelow fB dB) (bB : Binds K dB ["whole", "x", "y"] []) (mB : mg "is_below" = some (.ref fB)) :
    FnOk P w K mg base CX0 2 f fd ["self", "number"] (spDraw K C) := by
  have GS : FnOk P w K mg base CX0 1 fS dS ["numbers"] (spSizes K) := ok_sizes FS
  have GB : FnOk P w K mg base CX0 1 fB dB ["whole", "x", "y"] spBelow := ok_below FB Tz
  refine F.ok scDraw (fun vs H Q E h => ?_) (fun cdv A outer s H vs Q E hr h => ?_)
  · obtain ⟨a, l, s, r, rfl, _⟩ := h
    rfl
  · obtain ⟨a, l, s, r, rfl, st, G, hr64, k⟩ := h
    refine ⟨_, pss_cons (ps_set (i := 2) scDraw.nd rfl (Or.inl rfl) (pe_call GS hr rfl mS FS.kp bS .nil pass0 (pa_cons (pe_fld (pv 0) rfl) pa_nil)))
      (pss_cons (ps_set (i := 3) scDraw.nd rfl (Or.inl rfl) (pe_un un_neg pe_int))
      (pss_cons (ps_set (i := 4) scDraw.nd rfl (Or.inl rfl) pe_int)
      (pss_cons (ps_set (i := 5) scDraw.nd rfl (Or.inl rfl) pe_int)
      (pss_cons (ps_while PassesOwn.never (pt_not (pt_val (pe_call GB hr rfl mB FB.kp bB .nil pass0 (pa_cons (pe_op op_shlB (pv 1) (pe_fld (pv 0) rfl)) (pa_cons (pe_op op_shlB (pv 4) (pe_gi Tz.db)) (pa_cons (pe_op op_shlB (pv 5) (pe_gi Tz.db)) pa_nil))))))
        (pss_cons (ps_set (i := 3) scDraw.nd rfl (Or.inl rfl) (pe_op op_add (pv 3) pe_int))
        (pss_cons (ps_set (i := 4) scDraw.nd rfl (Or.inl rfl) (pe_op op_add (pv 4) (pe_ix ix_tup (pe_ix ix_list (pv 2) (pv 3) (fun _ _ => rfl)) pe_int (fun _ _ => rfl))))
        (pss_one (ps_set (i := 5) scDraw.nd rfl (Or.inl rfl) (pe_op op_add (pv 5) (pe_ix ix_tup (pe_ix ix_list (pv 2) (pv 3) (fun _ _ => rfl)) pe_int (fun _ _ => rfl))))))))
      (pss_one (ps_ret (pv 3))))))), ?_⟩
    obtain ⟨dx, rs, ha, hl, ht⟩ := id st
    have N := G.nm
    have lenA : s.amps.length ≤ 1024 := by rw [N.len]; exact pow10 N.n10
    refine ⟨_, rfl, a, C, dx, _, _, rfl, ha, T.cl, T.nA, sf_a _ _ _, l, s.amps, rfl, ⟨rs, hl, ht⟩, lenA, amps_sml G, fun H1 zl s1 n1 h1 => ?_⟩
    obtain ⟨zs, hz, tz⟩ := id h1
    refine ⟨_, rfl, ?_⟩
    refine ⟨fun t σ H' => H' = H1 ∧ ∃ (i : Nat) (z : Int), t = 2 ^ s.n - i ∧ i ≤ 2 ^ s.n ∧ z = (i : Int) - 1 ∧ σ = [some (.ref a), some (.int (r : Nat)), some (.ref zl), some (.int z), some (.int (Mq.cum s i).1), some (.int (Mq.cum s i).2)] ∧ ∀ j, j < i → Mq.below s r j = false,
      ⟨2 ^ s.n, rfl, 0, -1, rfl, Nat.zero_le _, rfl, rfl, fun j hj => absurd hj (Nat.not_lt_zero _)⟩, ?_⟩
    rintro t σ H' ⟨rfl, i, z, rfl, hi, hzz, rfl, hb⟩
    have kk := G.kk
    obtain ⟨q1, q2⟩ := Mq.cum_nat G hi
    have b1 : ((r : Int) * 2 ^ s.k).natAbs < 2 ^ 190 := shl_lt (A := 64) (B := 120) (by omega) kk (by decide)
    have b2 : ((Mq.cum s i).1 * 2 ^ 64).natAbs < 2 ^ 190 := shl_lt (A := 120) (B := 64) q1 (Nat.le_refl _) (by decide)
    have b3 : ((Mq.cum s i).2 * 2 ^ 64).natAbs < 2 ^ 190 := shl_lt (A := 120) (B := 64) q2 (Nat.le_refl _) (by decide)
    have eb : Sg24.positive ((Mq.cum s i).1 * 2 ^ 64 - (r : Int) * 2 ^ s.k) ((Mq.cum s i).2 * 2 ^ 64) = Mq.below s r i := by
      unfold Mq.below; rw [Int.mul_comm (Mq.cum s i).1, Int.mul_comm (Mq.cum s i).2]
    have cr : (r : Int).natAbs < 2 ^ 1000 := big (e := 64) (by omega)
    have cx : (Mq.cum s i).1.natAbs < 2 ^ 1000 := big (e := 121) (by omega)
    have cy : (Mq.cum s i).2.natAbs < 2 ^ 1000 := big (e := 121) (by omega)
    refine ⟨_, rfl, _, rfl, a, C, dx, _, _, rfl, s1 _ _ ha, T.cl, T.nK, sf_k _ _ _, _, _, rfl, rfl, ⟨cr, by show (0 : Int) ≤ ((s.k : Nat) : Int); omega, by show ((s.k : Nat) : Int) ≤ 1000; omega⟩,
      _, rfl, _, _, rfl, rfl, ⟨cx, by decide, by decide⟩, _, rfl, _, _, rfl, rfl, ⟨cy, by decide, by decide⟩, (r : Int) * 2 ^ s.k, (Mq.cum s i).1 * 2 ^ 64, (Mq.cum s i).2 * 2 ^ 64, rfl, b1, b2, b3, _, rfl, ?_⟩
    rw [eb]
    refine ite2 (fun c => ?_) (fun c => ?_)
    · have c : Mq.below s r i = false := by simpa using c
      have hi' : i < 2 ^ s.n := by
        rcases Nat.lt_or_eq_of_le hi with h | h
        · exact h
        · rw [h, Mq.below_last G hr64] at c; cases c
      refine ⟨fun σ H2 => H2 = H' ∧ σ = [some (.ref a), some (.int (r : Nat)), some (.ref zl), some (.int (z + 1)), some (.int (Mq.cum s (i + 1)).1), some (.int (Mq.cum s (i + 1)).2)], ?_, ?_⟩
      · rintro σ H2 ⟨rfl, rfl⟩
        refine ⟨2 ^ s.n - (i + 1), by omega, rfl, i + 1, z + 1, rfl, by omega, by omega, rfl, fun j hj => ?_⟩
        rcases Nat.lt_or_eq_of_le (Nat.lt_succ_iff.mp hj) with h | h
        · exact hb j h
        · rw [h]; exact c
      · obtain ⟨rr, h3, h4⟩ := szs_get tz (Mq.at_lt N hi')
        refine ⟨_, rfl, _, _, rfl, rfl, ?_⟩
        refine ⟨_, rfl, _, rfl, _, rfl, zl, _, _, _, rfl, rfl, SqL.of hz, at_of (j := i) (by omega) (by rw [List.getElem?_map, h3]; rfl), rr, _, _, _, rfl, rfl, h4, rfl, _, _, rfl, rfl, ?_⟩
        refine ⟨_, rfl, _, rfl, _, rfl, zl, _, _, _, rfl, rfl, SqL.of hz, at_of (j := i) (by omega) (by rw [List.getElem?_map, h3]; rfl), rr, _, _, _, rfl, rfl, h4, rfl, _, _, rfl, rfl, ?_⟩
        exact ⟨rfl, rfl⟩
    · have c : Mq.below s r i = true := by simpa using c
      obtain ⟨pos, e⟩ := Mq.below_done hi hb c
      refine ⟨_, rfl, ?_⟩
      have ez : z = ((Sg24.drawn s r : Nat) : Int) := by rw [e]; omega
      rw [ez]; exact k _ s1
theorem fs_no2 {n k : Int} {l : Addr} : (sf n k l).lookup ("amplitude" : Str) = none ∧ (sf n k l).lookup ("chance" : Str) = none ∧ (sf n k l).lookup ("draw" : Str) = none :=
  ⟨sf_no _ _ _ (by decide +kernel) (by decide +kernel) (by decide +kernel), sf_no _ _ _ (by decide +kernel) (by decide +kernel) (by decide +kernel), sf_no _ _ _ (by decide +kernel) (by decide +kernel) (by decide +kernel)⟩
/-- the defs and methods of amplitude, chance, draw -/
structure Fx (K : PySem.W.Frag) (mg : Str → Option Value) (C : Addr) (fS fB fU fC fD : Addr) (dS dB dU dC dD : FuncData) : Prop where
  FS : Fun K "squared_sizes" "squared_sizes" sSizes fS dS
  bS : Binds K dS ["numbers"] []
  mS : mg "squared_sizes" = some (.ref fS)
  FB : Fun K "is_below" "is_below" sBelow fB dB
  bB : Binds K dB ["whole", "x", "y"] []
  mB : mg "is_below" = some (.ref fB)
  FU : Fun K "amplitude" "State.amplitude" sAmp fU dU
  bU : Binds K dU ["self", "place"] []
  mU : Meth K C "amplitude" fU
  FC : Fun K "chance" "State.chance" sChance fC dC
  bC : Binds K dC ["self", "mask", "value"] []
  mC : Meth K C "chance" fC
  FD : Fun K "draw" "State.draw" sDraw fD dD
  bD : Binds K dD ["self", "number"] []
  mD : Meth K C "draw" fD
end
end Fq

end

section
set_option Elab.async false
set_option linter.all false
set_option maxRecDepth 100000
namespace Fq
open PySem PySem.Spec PyProof.Rows L2
open Sg24 (Num)
open PyFlat (put put1)
abbrev sLen : Stmt := top 42
abbrev sAnswer : Stmt := top 43
abbrev sAns : Stmt := top 44
structure Ta (K : PySem.W.Frag) (mg : Str → Option Value) : Prop where
  bg : GI mg "BEGIN" 0
  gt : GI mg "GATE" 1
  rn : GI mg "RUN" 2
  am : GI mg "AMPLITUDE" 3
  ch : GI mg "CHANCE" 4
  ls : ∃ zA, mg "LENGTHS" = some (.ref zA) ∧ ∀ H : Hp, SqT K H zA [.int 3, .int 5, .int 2, .int 2, .int 3, .int 2]
/-! dicts of the top, looked at -/
def kdB : List DictEntry → List (Int × Int) → Bool
  | [], [] => true
  | e :: es, (k, v) :: r => (match e.key with | .int i _ => i == k | _ => false) && (e.hash == hashInt k) && (match e.val with | .int j _ => j == v | _ => false) && kdB es r
  | _, _ => false
theorem kd_paired : ∀ {es : List DictEntry} {kvs : List (Int × Int)}, kdB es kvs = true →
    Paired (fun (e : DictEntry) (kv : Int × V) => (∃ t, e.key = .int kv.1 t) ∧ e.hash = hashInt kv.1 ∧ RelV kv.2 e.val) es (kvs.map fun p => (p.1, V.int p.2))
  | [], [], _ => .nil
  | [], _ :: _, h => by simp [kdB] at h
  | _ :: _, [], h => by simp [kdB] at h
  | e :: es, (k, v) :: r, h => by
    rw [kdB, Bool.and_eq_true, Bool.and_eq_true, Bool.and_eq_true] at h
    obtain ⟨⟨⟨h1, h2⟩, h3⟩, h4⟩ := h
    refine .cons ⟨?_, by simpa using h2, ?_⟩ (kd_paired h4)
    · cases q : e.key <;> rw [q] at h1 <;> simp at h1
      subst h1; exact ⟨_, rfl⟩
    · cases q : e.val <;> rw [q] at h3 <;> simp at h3
      subst h3; exact ⟨_, rfl⟩
theorem kd_mk {K : PySem.W.Frag} {a : Addr} {es : Array DictEntry} {ep : Nat} {kvs : List (Int × Int)} (n : (a == sysModules) = false) (nd : (kvs.map (·.1)).Nodup) (l : K.lookup a = some ⟨.type "dict", none, .dict es ep, #[]⟩) (h : kdB es.toList kvs = true) : KDict K a (kvs.map fun p => (p.1, V.int p.2)) :=
  ⟨n, by rw [List.map_map]; exact nd, ⟨_, es, ep, l, ⟨rfl, rfl, rfl⟩, rfl, kd_paired h⟩⟩
/-! the calls, one by one -/
theorem drop_at {ns t : List Int} {x : Int} {i : Nat} (h : ns.drop i = x :: t) : ns[i]? = some x ∧ ns.drop (i + 1) = t := by
  have hi : i < ns.length := by
    apply Nat.lt_of_not_le; intro z
    rw [List.drop_eq_nil_of_le z] at h; cases h
  rw [← List.getElem_cons_drop hi] at h
  injection h with h1 h2
  exact ⟨by rw [List.getElem?_eq_getElem hi, h1], h2⟩
theorem at_int {ns : List Int} {x : Int} {i : Nat} {z : Int} (h : ns[i]? = some x) (e : z = (i : Int)) : atI (ns.map V.int) z = some (.int x) := at_of e (by rw [List.getElem?_map, h]; rfl)
theorem put_nil : put [] = [] := rfl
theorem put_cons (c : List (List Int)) (cs : List (List (List Int))) : put (c :: cs) = put1 c ++ put cs := rfl
theorem p1_begin (a b : Int) : put1 [[0, a, b]] = [0, a, b] := rfl
theorem p1_gate (a b c d : Int) : put1 [[1, a, b, c, d]] = [1, a, b, c, d] := rfl
theorem p1_run (r : List Int) : put1 [[2], r] = 2 :: (r.length : Int) :: r := by
  show [2] ++ (((r.length : Int) :: r) ++ []) = _
  rw [List.append_nil]; rfl
theorem p1_amp (a : Int) : put1 [[3, a]] = [3, a] := rfl
theorem p1_chance (a b : Int) : put1 [[4, a, b]] = [4, a, b] := rfl
theorem p1_draw (a : Int) : put1 [[5, a]] = [5, a] := rfl
theorem p1_pos {c : List (List Int)} (h : Mq.Shp c) : 0 < (put1 c).length := by
  cases h with
  | begin a b => rw [p1_begin]; simp
  | gate a b c d => rw [p1_gate]; simp
  | run r => rw [p1_run]; simp
  | amp a => rw [p1_amp]; simp
  | chance a b => rw [p1_chance]; simp
  | draw a => rw [p1_draw]; simp
/-- a call behind begin, as it may be handed in -/
inductive Live : List (List Int) → Prop
  | gate (k t a b : Int) : 0 ≤ a → 0 ≤ b → Live [[1, k, t, a, b]]
  | run (b : List Int) : Mq.ByteL b → b.length ≤ 65536 → Live [[2], b]
  | amp (p : Int) : 0 ≤ p → p ≤ 4294967295 → Live [[3, p]]
  | chance (m v : Int) : 0 ≤ m → m ≤ 4294967295 → 0 ≤ v → v ≤ 4294967295 → Live [[4, m, v]]
  | draw (n : Int) : 0 ≤ n → n < 2 ^ 64 → Live [[5, n]]
theorem Live.shp {c : List (List Int)} (h : Live c) : Mq.Shp c := by
  cases h
  · exact .gate _ _ _ _
  · exact .run _
  · exact .amp _
  · exact .chance _ _
  · exact .draw _
theorem step_gate (s : Sg24.State) (k t a b : Int) : Sg24Neutral.step s [[1, k, t, a, b]] = ((Sg24.told s k t a.toNat b.toNat).2, [(Sg24.told s k t a.toNat b.toNat).1]) := rfl
theorem step_run {s : Sg24.State} {b : List Int} (hb : Mq.ByteL b) (hl : b.length ≤ 65536) : Sg24Neutral.step s [[2], b] = ((runR s b).2, [(runR s b).1]) := by
  show ((Sg24.does s (.run (Sg24Neutral.bytesOf b) b.length)).2, (Sg24.does s (.run (Sg24Neutral.bytesOf b) b.length)).1.code :: (Sg24.does s (.run (Sg24Neutral.bytesOf b) b.length)).1.out) = _
  rw [does_run hb hl]; rfl
theorem step_begin (s : Sg24.State) (n p : Int) : Sg24Neutral.step s [[0, n, p]] = if Sg24.startOk n p.toNat = false then (s, [-1]) else (Sg24.fresh n.toNat p.toNat, [0]) := rfl
theorem step_amp (s : Sg24.State) (p : Int) : Sg24Neutral.step s [[3, p]] = ((Sg24.does s (.amplitude p.toNat)).2, (Sg24.does s (.amplitude p.toNat)).1.code :: (Sg24.does s (.amplitude p.toNat)).1.out) := rfl
theorem step_chance (s : Sg24.State) (m v : Int) : Sg24Neutral.step s [[4, m, v]] = ((Sg24.does s (.chance m.toNat v.toNat)).2, (Sg24.does s (.chance m.toNat v.toNat)).1.code :: (Sg24.does s (.chance m.toNat v.toNat)).1.out) := rfl
theorem step_draw (s : Sg24.State) (n : Int) : Sg24Neutral.step s [[5, n]] = (s, [(Sg24.drawn s n.toNat : Int)]) := rfl
theorem step_ampR (s : Sg24.State) (p : Nat) : Sg24Neutral.step s [[3, (p : Int)]] = (s, ampR s p) := by
  rw [step_amp, Int.toNat_natCast]
  have e : Sg24.does s (.amplitude p) = if p < 2 ^ s.n then (⟨s.k, [(s.at_ p).a, (s.at_ p).b, (s.at_ p).c, (s.at_ p).d]⟩, s) else (Sg24.says (-1), s) := rfl
  rw [e, ampR]
  by_cases h : p < 2 ^ s.n
  · rw [if_pos h, if_pos h]
  · rw [if_neg h, if_neg h]; rfl
theorem step_chR (s : Sg24.State) (m v : Nat) : Sg24Neutral.step s [[4, (m : Int), (v : Int)]] = (s, chR s m v) := by
  rw [step_chance, Int.toNat_natCast, Int.toNat_natCast]
  have e : Sg24.does s (.chance m v) = if m < 2 ^ s.n ∧ v < 2 ^ s.n ∧ v &&& m = v then (⟨s.k, [(Sg24.chance s fun p => p &&& m == v).1, (Sg24.chance s fun p => p &&& m == v).2]⟩, s) else (Sg24.says (-1), s) := rfl
  rw [e, chR]
  by_cases h : m < 2 ^ s.n ∧ v < 2 ^ s.n ∧ v &&& m = v
  · rw [if_pos h, if_pos h]
  · rw [if_neg h, if_neg h]; rfl
theorem step_good {s : Sg24.State} {c : List (List Int)} (G : Mq.Good s) (h : Live c) : Mq.Good (Sg24Neutral.step s c).1 := by
  cases h with
  | gate k t a b _ _ => rw [step_gate]; exact Mq.told_good G
  | run b hb hl => rw [step_run hb hl]; exact run_good _ _ _ G
  | amp p _ _ =>
    rw [step_amp]; show Mq.Good (Sg24.does s (.amplitude p.toNat)).2
    unfold Sg24.does; simp only; split <;> exact G
  | chance m v _ _ _ _ =>
    rw [step_chance]; show Mq.Good (Sg24.does s (.chance m.toNat v.toNat)).2
    unfold Sg24.does; simp only; split <;> exact G
  | draw n _ _ => rw [step_draw]; exact G
theorem step_len {s : Sg24.State} {c : List (List Int)} (h : Live c) : (Sg24Neutral.step s c).2.length ≤ 5 := by
  cases h with
  | gate k t a b _ _ => rw [step_gate]; simp
  | run b hb hl => rw [step_run hb hl]; simp
  | amp p _ _ =>
    rw [step_amp]; show ((Sg24.does s (.amplitude p.toNat)).1.code :: (Sg24.does s (.amplitude p.toNat)).1.out).length ≤ 5
    unfold Sg24.does; simp only; split <;> simp [Sg24.says]
  | chance m v _ _ _ _ =>
    rw [step_chance]; show ((Sg24.does s (.chance m.toNat v.toNat)).1.code :: (Sg24.does s (.chance m.toNat v.toNat)).1.out).length ≤ 5
    unfold Sg24.does; simp only; split <;> simp [Sg24.says]
  | draw n _ _ => rw [step_draw]; simp
theorem bytes_of {b : List Int} (h : NeutralIO.bytes b = true) : Mq.ByteL b := by
  intro x hx
  have := (List.all_eq_true.mp h) x hx
  rw [Bool.and_eq_true, decide_eq_true_eq, decide_eq_true_eq] at this
  exact this
theorem within_iff {n lo hi : Int} : NeutralIO.within n lo hi = true ↔ lo ≤ n ∧ n ≤ hi := by
  unfold NeutralIO.within; rw [Bool.and_eq_true, decide_eq_true_eq, decide_eq_true_eq]
theorem live_of {c : List (List Int)} (h : Sg24Neutral.right c = true) (hl : (put1 c).length ≤ 16000) : Live c := by
  unfold Sg24Neutral.right at h
  split at h
  · rename_i k t a b
    rw [Bool.and_eq_true, Bool.and_eq_true, Bool.and_eq_true] at h
    exact .gate k t a b (within_iff.mp h.2.2.1).1 (within_iff.mp h.2.2.2).1
  · rename_i b
    rw [Bool.and_eq_true] at h
    refine .run b (bytes_of h.1) ?_
    rw [p1_run] at hl; simp at hl; omega
  · rename_i p
    exact .amp p (within_iff.mp h).1 (within_iff.mp h).2
  · rename_i m v
    rw [Bool.and_eq_true] at h
    exact .chance m v (within_iff.mp h.1).1 (within_iff.mp h.1).2 (within_iff.mp h.2).1 (within_iff.mp h.2).2
  · rename_i n
    exact .draw n (within_iff.mp h).1 (by have := (within_iff.mp h).2; omega)
  · cases h
/-- what's asked, read -/
theorem asked_read {ns : List Int} (hl : ns.length ≤ 16000) (h : PySg24.answers_asked ns = true) : ∃ (n p : Int) (l : List (List (List Int))), ns = put ([[0, n, p]] :: l) ∧ 0 ≤ p ∧ (Sg24.startOk n p.toNat = true → ∀ c ∈ l, Live c) ∧ (Sg24.startOk n p.toNat = false → l = []) ∧
    PySg24.answers ns = PyFlat.told (PyFlat.played Sg24Neutral.step Sg24Neutral.start ([[0, n, p]] :: l)) := by
  unfold PySg24.answers_asked at h
  unfold PySg24.answers
  cases e : PySg24.calls ns with
  | none => rw [e] at h; cases h
  | some cs =>
    rw [e] at h
    simp only [Bool.and_eq_true] at h
    obtain ⟨e1, _⟩ := Mq.calls_put_of e
    have h := h.2
    unfold Sg24Neutral.asked at h
    split at h
    · rename_i n p l _ _
      rw [Bool.and_eq_true, Bool.and_eq_true] at h
      obtain ⟨h1, h2, h3⟩ := h
      have len : ∀ (cs : List (List (List Int))) c, c ∈ cs → (put1 c).length ≤ (put cs).length := by
        intro cs c hc
        induction cs with
        | nil => simp at hc
        | cons d r ih =>
          rw [put_cons, List.length_append]
          rcases List.mem_cons.mp hc with rfl | hc
          · omega
          · have := ih hc; omega
      refine ⟨n, p, l, e1, (within_iff.mp h2).1, fun hs c hc => ?_, fun hs => ?_, rfl⟩
      · rw [if_pos hs] at h3
        refine live_of (List.all_eq_true.mp h3 c hc) (Nat.le_trans (len _ c (List.mem_cons_of_mem _ hc)) (by rw [← e1]; exact hl))
      · rw [if_neg (by rw [hs]; decide)] at h3
        exact List.isEmpty_iff.mp h3
    · cases h
theorem played_cons (s : Sg24.State) (c : List (List Int)) (r : List (List (List Int))) : PyFlat.told (PyFlat.played Sg24Neutral.step s (c :: r)) = (((Sg24Neutral.step s c).2.length : Nat) : Int) :: ((Sg24Neutral.step s c).2 ++ PyFlat.told (PyFlat.played Sg24Neutral.step (Sg24Neutral.step s c).1 r)) := by
  show PyFlat.told ((Sg24Neutral.step s c).2 :: _) = _
  unfold PyFlat.told
  rw [List.flatMap_cons]; rfl
theorem cut_put {ns t : List Int} {c : List (List Int)} {i : Nat} {z e : Int} (h : ns.drop i = put1 c ++ t) (hi : i ≤ ns.length) (hz : z = (i : Int)) (he : e = (i : Int) + ((put1 c).length : Nat)) : cutV (ns.map V.int) (some z) (some e) = (put1 c).map V.int := by
  subst hz
  have he : e = ((i + (put1 c).length : Nat) : Int) := by omega
  subst he
  have hl : i + (put1 c).length ≤ ns.length := by
    have := congrArg List.length h
    rw [List.length_drop, List.length_append] at this
    omega
  unfold cutV
  rw [List.length_map, HT.sIx_nat, HT.sIx_nat, Nat.min_eq_left hi, Nat.min_eq_left hl, ← List.map_drop, h, show i + (put1 c).length - i = (put1 c).length by omega, ← List.map_take, List.take_left]
section
variable {P : Program} {w : World} {K : PySem.W.Frag} {mg : Str → Option Value} {base : Heap} {C tA kA : Addr}
/-! call_length -/
def spLen (K : PySem.W.Frag) : Sp := fun vs H Q _ => ∃ (a : Addr) (ns t : List Int) (c : List (List Int)) (i : Nat), vs = [.ref a, .int (i : Nat)] ∧ SqL K H a (ns.map V.int) ∧ ns.drop i = put1 c ++ t ∧ Mq.Shp c ∧ Q (.int ((put1 c).length : Nat)) H
theorem scLen : FnScope ["calls", "at", "length"] ["calls", "at"] (defScope sLen) := ⟨rfl, rfl, rfl, by decide +kernel, rfl, by decide +kernel, by decide +kernel⟩
theorem ok_len {f : Addr} {fd : FuncData} (F : Fun K "call_length" "call_length" sLen f fd) (Tn : Ta K mg) : FnOk P w K mg base CX0 1 f fd ["calls", "at"] (spLen K) := by
  refine F.ok scLen (fun vs H Q E h => ?_) (fun cdv A outer s H vs Q E hr h => ?_)
  · obtain ⟨a, ns, t, c, i, rfl, _⟩ := h
    rfl
  · obtain ⟨a, ns, t, c, i, rfl, ha, hd, sc, k⟩ := h
    obtain ⟨zA, hzA, hT⟩ := Tn.ls
    refine ⟨_, pss_cons (ps_set (i := 2) scLen.nd rfl (Or.inl rfl) (pe_ix ix_tup (pe_go hzA) (pe_ix ix_list (pv 0) (pv 1) (fun _ _ => rfl)) (fun _ _ => rfl)))
      (pss_cons (ps_if (pt_cmpR op_eq (pe_ix ix_list (pv 0) (pv 1) (fun _ _ => rfl)) (pe_gi Tn.rn) (nomark _)) (pss_one (ps_set (i := 2) scLen.nd rfl (Or.inl rfl) (pe_op op_add (pv 2) (pe_ix ix_list (pv 0) (pe_op op_add (pv 1) pe_int) (fun _ _ => rfl))))) pss_nil)
      (pss_one (ps_ret (pv 2)))), ?_⟩
    cases sc with
    | begin x y =>
      rw [p1_begin] at hd k
      obtain ⟨a0, _⟩ := drop_at hd
      refine ⟨_, rfl, _, rfl, a, _, _, _, rfl, rfl, ha, at_int a0 rfl, zA, _, _, _, rfl, rfl, hT _, rfl, ?_⟩
      exact ⟨_, rfl, _, rfl, a, _, _, _, rfl, rfl, ha, at_int a0 rfl, rfl, _, rfl, iteFD (by simp) ⟨_, rfl, k⟩⟩
    | gate x y z u =>
      rw [p1_gate] at hd k
      obtain ⟨a0, _⟩ := drop_at hd
      refine ⟨_, rfl, _, rfl, a, _, _, _, rfl, rfl, ha, at_int a0 rfl, zA, _, _, _, rfl, rfl, hT _, rfl, ?_⟩
      exact ⟨_, rfl, _, rfl, a, _, _, _, rfl, rfl, ha, at_int a0 rfl, rfl, _, rfl, iteFD (by simp) ⟨_, rfl, k⟩⟩
    | run r =>
      rw [p1_run] at hd k
      obtain ⟨a0, d0⟩ := drop_at hd
      obtain ⟨a1, _⟩ := drop_at d0
      refine ⟨_, rfl, _, rfl, a, _, _, _, rfl, rfl, ha, at_int a0 rfl, zA, _, _, _, rfl, rfl, hT _, rfl, ?_⟩
      refine ⟨_, rfl, _, rfl, a, _, _, _, rfl, rfl, ha, at_int a0 rfl, rfl, _, rfl, iteTD rfl ?_⟩
      refine ⟨_, rfl, _, rfl, _, rfl, _, _, rfl, rfl, a, _, _, _, rfl, rfl, ha, at_int a1 (by omega), _, _, rfl, rfl, _, rfl, ?_⟩
      have e : (2 : Int) + (r.length : Nat) = (((2 :: (r.length : Int) :: r).length : Nat) : Int) := by simp; omega
      show Q (.int ((2 : Int) + (r.length : Nat))) H
      rw [e]; exact k
    | amp x =>
      rw [p1_amp] at hd k
      obtain ⟨a0, _⟩ := drop_at hd
      refine ⟨_, rfl, _, rfl, a, _, _, _, rfl, rfl, ha, at_int a0 rfl, zA, _, _, _, rfl, rfl, hT _, rfl, ?_⟩
      exact ⟨_, rfl, _, rfl, a, _, _, _, rfl, rfl, ha, at_int a0 rfl, rfl, _, rfl, iteFD (by simp) ⟨_, rfl, k⟩⟩
    | chance x y =>
      rw [p1_chance] at hd k
      obtain ⟨a0, _⟩ := drop_at hd
      refine ⟨_, rfl, _, rfl, a, _, _, _, rfl, rfl, ha, at_int a0 rfl, zA, _, _, _, rfl, rfl, hT _, rfl, ?_⟩
      exact ⟨_, rfl, _, rfl, a, _, _, _, rfl, rfl, ha, at_int a0 rfl, rfl, _, rfl, iteFD (by simp) ⟨_, rfl, k⟩⟩
    | draw x =>
      rw [p1_draw] at hd k
      obtain ⟨a0, _⟩ := drop_at hd
      refine ⟨_, rfl, _, rfl, a, _, _, _, rfl, rfl, ha, at_int a0 rfl, zA, _, _, _, rfl, rfl, hT _, rfl, ?_⟩
      exact ⟨_, rfl, _, rfl, a, _, _, _, rfl, rfl, ha, at_int a0 rfl, rfl, _, rfl, iteFD (by simp) ⟨_, rfl, k⟩⟩
/-! answer -/
def spAnswer (K : PySem.W.Frag) (C : Addr) : Sp := fun vs H Q _ => ∃ (a cl : Addr) (c : List (List Int)), vs = [.ref a, .ref cl] ∧ H cl = some (.lst ((put1 c).map V.int)) ∧
  ((∃ (n p : Int) (dx l0 : Addr) (n0 k0 : Int), c = [[0, n, p]] ∧ H a = some (.ins C dx (sf n0 k0 l0)) ∧ 0 ≤ p ∧
      (Sg24.startOk n p.toNat = false → ∀ (H' : Hp) (q : Addr), Same H H' → H q = none → H' q = some (.lst [.int (-1)]) → Q (.ref q) H') ∧
      (Sg24.startOk n p.toNat = true → ∀ (H' : Hp) (l q : Addr), StAt K C H' a l (Sg24.fresh n.toNat p.toNat) → H l = none → H q = none → q ≠ l → H' q = some (.lst [.int 0]) → Kp [a] H H' → Q (.ref q) H')) ∨
   (∃ (l : Addr) (s : Sg24.State), StAt K C H a l s ∧ Mq.Good s ∧ Live c ∧ cl ≠ l ∧
      ∀ (H' : Hp) (l' q : Addr), StAt K C H' a l' (Sg24Neutral.step s c).1 → (l' = l ∨ H l' = none) → H q = none → q ≠ l' → H' q = some (.lst ((Sg24Neutral.step s c).2.map V.int)) → Kp [a, l] H H' → Q (.ref q) H'))
theorem scAnswer : FnScope ["state", "call"] ["state", "call"] (defScope sAnswer) := ⟨rfl, rfl, rfl, by decide +kernel, rfl, by decide +kernel, by decide +kernel⟩
theorem StAt.upd {H : Hp} {a l q : Addr} {s : Sg24.State} {o : HO} (st : StAt K C H a l s) (hq : H q = none) : StAt K C (L2.upd H q o) a l s ∧ q ≠ l ∧ q ≠ a := by
  refine ⟨st.same (same_none hq), ?_, ?_⟩
  · rintro rfl; obtain ⟨_, _, _, h, _⟩ := st; rw [hq] at h; cases h
  · rintro rfl; obtain ⟨_, _, h, _⟩ := st; rw [hq] at h; cases h
theorem ok_answer {f fA fP fL fM f1 f2 f3 f4 f5 f6 fW fD fT fB fG fR gS gB gU gC gD : Addr} {fd dA dP dL dM d1 d2 d3 d4 d5 d6 dW dD dT dB dG dR eS eB eU eC eD : FuncData} (F : Fun K "answer" "answer" sAnswer f fd) (T : Ts K mg C tA) (Tq : Tc K mg kA) (Tn : Ta K mg) (X : Fe K mg f1 f2 f3 f4 f5 f6 d1 d2 d3 d4 d5 d6) (Y : Fg K C fA fP fL fM dA dP dL dM)
    (Z : Fc K mg fW fD fT dW dD dT) (FB : Fun K "begin" "State.begin" sBegin fB dB) (bB : Binds K dB ["self", "n", "place"] []) (mB : Meth K C "begin" fB)
    (FG : Fun K "gate" "State.gate" sGate fG dG) (bG : Binds K dG ["self", "kind", "target", "on", "off"] []) (mG : Meth K C "gate" fG) (FR : Fun K "run" "State.run" sRun fR dR) (bR : Binds K dR ["self", "text"] []) (mR : Meth K C "run" fR) (Tz : Tx mg) (U : Fx K mg C gS gB gU gC gD eS eB eU eC eD) :
    FnOk P w K mg base CX0 6 f fd ["state", "call"] (spAnswer K C) := by
  have GB : FnOk P w K mg base CX0 1 fB dB ["self", "n", "place"] (spBegin K C) := ok_begin FB T
  have GG : FnOk P w K mg base CX0 4 fG dG ["self", "kind", "target", "on", "off"] (spGate K C) := ok_gate FG T X Y
  have GR : FnOk P w K mg base CX0 5 fR dR ["self", "text"] (spRun K C) := ok_run FR T Tq X Y Z FG bG mG
  have GU : FnOk P w K mg base CX0 1 gU eU ["self", "place"] (spAmp K C) := ok_amp U.FU T Tz
  have GC : FnOk P w K mg base CX0 2 gC eC ["self", "mask", "value"] (spCh K C) := ok_chance U.FC T Tz U.FS U.bS U.mS
  have GD : FnOk P w K mg base CX0 2 gD eD ["self", "number"] (spDraw K C) := ok_draw U.FD T Tz U.FS U.bS U.mS U.FB U.bB U.mB
  refine F.ok scAnswer (fun vs H Q E h => ?_) (fun cdv A outer s H vs Q E hr h => ?_)
  · obtain ⟨a, cl, c, rfl, _⟩ := h
    rfl
  · obtain ⟨a, cl, c, rfl, hc, h⟩ := h
    have hr1 : Room 1 _ := hr.mono (by decide)
    have hr4 : Room 4 _ := hr.mono (by decide)
    have hr2 : Room 2 _ := hr.mono (by decide)
    refine ⟨_, pss_cons (ps_if (pt_cmpR op_eq (pe_ix ix_list (pv 1) pe_int (fun _ _ => rfl)) (pe_gi Tn.bg) (nomark _))
        (pss_one (ps_ret (pe_lst (pa_cons (pe_meth (pv 0) T.cl mB GB hr1 bB .nil pass0 (pa_cons (pe_ix ix_list (pv 1) pe_int (fun _ _ => rfl)) (pa_cons (pe_ix ix_list (pv 1) pe_int (fun _ _ => rfl)) pa_nil))) pa_nil)))) pss_nil)
      (pss_cons (ps_if (pt_cmpR op_eq (pe_ix ix_list (pv 1) pe_int (fun _ _ => rfl)) (pe_gi Tn.gt) (nomark _))
        (pss_one (ps_ret (pe_lst (pa_cons (pe_meth (pv 0) T.cl mG GG hr4 bG .nil pass0 (pa_cons (pe_ix ix_list (pv 1) pe_int (fun _ _ => rfl)) (pa_cons (pe_ix ix_list (pv 1) pe_int (fun _ _ => rfl)) (pa_cons (pe_ix ix_list (pv 1) pe_int (fun _ _ => rfl)) (pa_cons (pe_ix ix_list (pv 1) pe_int (fun _ _ => rfl)) pa_nil))))) pa_nil)))) pss_nil)
      (pss_cons (ps_if (pt_cmpR op_eq (pe_ix ix_list (pv 1) pe_int (fun _ _ => rfl)) (pe_gi Tn.rn) (nomark _))
        (pss_one (ps_ret (pe_lst (pa_cons (pe_meth (pv 0) T.cl mR GR hr bR .nil pass0 (pa_cons (pe_slice sl_list (pv 1) (po_some pe_int) po_none) pa_nil)) pa_nil)))) pss_nil)
      (pss_cons (ps_if (pt_cmpR op_eq (pe_ix ix_list (pv 1) pe_int (fun _ _ => rfl)) (pe_gi Tn.am) (nomark _))
        (pss_one (ps_ret (pe_meth (pv 0) T.cl U.mU GU hr1 U.bU .nil pass0 (pa_cons (pe_ix ix_list (pv 1) pe_int (fun _ _ => rfl)) pa_nil)))) pss_nil)
      (pss_cons (ps_if (pt_cmpR op_eq (pe_ix ix_list (pv 1) pe_int (fun _ _ => rfl)) (pe_gi Tn.ch) (nomark _))
        (pss_one (ps_ret (pe_meth (pv 0) T.cl U.mC GC hr2 U.bC .nil pass0 (pa_cons (pe_ix ix_list (pv 1) pe_int (fun _ _ => rfl)) (pa_cons (pe_ix ix_list (pv 1) pe_int (fun _ _ => rfl)) pa_nil))))) pss_nil)
      (pss_one (ps_ret (pe_lst (pa_cons (pe_meth (pv 0) T.cl U.mD GD hr2 U.bD .nil pass0 (pa_cons (pe_ix ix_list (pv 1) pe_int (fun _ _ => rfl)) pa_nil)) pa_nil)))))))), ?_⟩
    have s1 : (1 : Nat) ≤ sizeLine := by decide
    rcases h with ⟨n, p, dx, l0, n0, k0, rfl, ha, hp, kno, kyes⟩ | ⟨l, st0, st, G, lv, cn, k⟩
    · rw [p1_begin] at hc
      have hS : SqL K H cl (([0, n, p] : List Int).map V.int) := SqL.of hc
      refine ⟨_, rfl, cl, _, 0, _, rfl, rfl, hS, rfl, rfl, _, rfl, iteTD rfl ?_⟩
      refine ⟨_, rfl, a, dx, _, rfl, ha, fs_no.2.2.2.2.2.2, _, rfl, cl, _, 1, _, rfl, rfl, hS, rfl, _, rfl, cl, _, 2, _, rfl, rfl, hS, rfl, ?_⟩
      refine ⟨a, dx, l0, n, p, n0, k0, rfl, ha, hp, fun z => ⟨s1, fun q hq => ?_⟩, fun z H1 l1 st1 nl kp1 => ⟨s1, fun q hq => ?_⟩⟩
      · exact kno z _ q (same_none hq) hq upd_same
      · obtain ⟨u1, u2, u3⟩ := StAt.upd (o := .lst [.int 0]) st1 hq
        exact kyes z _ l1 q u1 nl (kp1.fr q hq) u2 upd_same (kp1.upd (.inr (kp1.fr q hq)))
    · obtain ⟨dx, rs, ha, hl, ht⟩ := id st
      cases lv with
      | gate kd t on off h1 h2 =>
        rw [p1_gate] at hc
        obtain ⟨on, rfl⟩ : ∃ m : Nat, on = (m : Int) := ⟨on.toNat, by omega⟩
        obtain ⟨off, rfl⟩ : ∃ m : Nat, off = (m : Int) := ⟨off.toNat, by omega⟩
        have hS : SqL K H cl (([1, kd, t, on, off] : List Int).map V.int) := SqL.of hc
        rw [step_gate, Int.toNat_natCast, Int.toNat_natCast] at k
        refine ⟨_, rfl, cl, _, 0, _, rfl, rfl, hS, rfl, rfl, _, rfl, iteFD (by simp) ?_⟩
        refine ⟨_, rfl, cl, _, 0, _, rfl, rfl, hS, rfl, rfl, _, rfl, iteTD rfl ?_⟩
        refine ⟨_, rfl, a, dx, _, rfl, ha, fs_no.2.2.2.2.1, _, rfl, cl, _, 1, _, rfl, rfl, hS, rfl, _, rfl, cl, _, 2, _, rfl, rfl, hS, rfl, _, rfl, cl, _, 3, _, rfl, rfl, hS, rfl, _, rfl, cl, _, 4, _, rfl, rfl, hS, rfl, ?_⟩
        refine ⟨a, l, st0, kd, t, on, off, rfl, st, G, fun H1 l1 st1 fr1 kp1 => ⟨s1, fun q hq => ?_⟩⟩
        obtain ⟨u1, u2, u3⟩ := StAt.upd (o := .lst [.int (Sg24.told st0 kd t on off).1]) st1 hq
        exact k _ l1 q u1 fr1 (kp1.fr q hq) u2 upd_same (kp1.upd (.inr (kp1.fr q hq)))
      | run b hb hlen =>
        rw [p1_run] at hc
        rw [step_run hb hlen] at k
        have hS : SqL K H cl ((2 :: (b.length : Int) :: b).map V.int) := SqL.of hc
        refine ⟨_, rfl, cl, _, 0, _, rfl, rfl, hS, at_of (j := 0) rfl rfl, rfl, _, rfl, iteFD (by simp) ?_⟩
        refine ⟨_, rfl, cl, _, 0, _, rfl, rfl, hS, at_of (j := 0) rfl rfl, rfl, _, rfl, iteFD (by simp) ?_⟩
        refine ⟨_, rfl, cl, _, 0, _, rfl, rfl, hS, at_of (j := 0) rfl rfl, rfl, _, rfl, iteTD rfl ?_⟩
        refine ⟨_, rfl, a, dx, _, rfl, ha, fs_no.2.2.2.2.2.1, _, rfl, 2, rfl, cl, _, rfl, hS, fun tx htx => ?_⟩
        have cut : cutV ((2 :: (b.length : Int) :: b).map V.int) (some 2) none = b.map V.int := by
          unfold cutV
          rw [show (some (2 : Int)) = some ((2 : Nat) : Int) from rfl, HT.sIx_nat, HT.sIx_none, List.length_map, List.length_cons, List.length_cons, Nat.min_eq_left (by omega)]
          show ((b.map V.int)).take (b.length + 1 + 1 - 2) = _
          rw [show b.length + 1 + 1 - 2 = (b.map V.int).length by rw [List.length_map]; omega, List.take_length]
        rw [cut]
        obtain ⟨u1, u2, u3⟩ := StAt.upd (o := .lst (b.map V.int)) st htx
        refine ⟨a, l, tx, st0, b, rfl, u1, G, SqL.of upd_same, hb, hlen, fun H1 l1 st1 fr1 kp1 => ⟨s1, fun q hq => ?_⟩⟩
        obtain ⟨v1, v2, v3⟩ := StAt.upd (o := .lst [.int (runR st0 b).1]) st1 hq
        have q0 := upd_none (kp1.fr q hq)
        refine k _ l1 q v1 ?_ q0 v2 upd_same ?_
        · rcases fr1 with e | e
          · exact .inl e
          · exact .inr (upd_none e)
        · exact ((Kp.of_same (same_none htx)).trans kp1).upd (.inr q0)
      | amp p h1 h2 =>
        rw [p1_amp] at hc
        obtain ⟨p, rfl⟩ : ∃ m : Nat, p = (m : Int) := ⟨p.toNat, by omega⟩
        have hS : SqL K H cl (([3, p] : List Int).map V.int) := SqL.of hc
        rw [step_ampR] at k
        refine ⟨_, rfl, cl, _, 0, _, rfl, rfl, hS, rfl, rfl, _, rfl, iteFD (by simp) ?_⟩
        refine ⟨_, rfl, cl, _, 0, _, rfl, rfl, hS, rfl, rfl, _, rfl, iteFD (by simp) ?_⟩
        refine ⟨_, rfl, cl, _, 0, _, rfl, rfl, hS, rfl, rfl, _, rfl, iteFD (by simp) ?_⟩
        refine ⟨_, rfl, cl, _, 0, _, rfl, rfl, hS, rfl, rfl, _, rfl, iteTD rfl ?_⟩
        refine ⟨_, rfl, a, dx, _, rfl, ha, fs_no2.1, _, rfl, cl, _, 1, _, rfl, rfl, hS, rfl, ?_⟩
        refine ⟨a, l, st0, p, rfl, st, G, fun H1 q sm nq hq => ?_⟩
        exact k _ l q (st.same sm) (.inl rfl) nq (fun e => by subst e; rw [hl] at nq; cases nq) hq (Kp.of_same sm)
      | chance m v h1 h2 h3 h4 =>
        rw [p1_chance] at hc
        obtain ⟨m, rfl⟩ : ∃ z : Nat, m = (z : Int) := ⟨m.toNat, by omega⟩
        obtain ⟨v, rfl⟩ : ∃ z : Nat, v = (z : Int) := ⟨v.toNat, by omega⟩
        have hS : SqL K H cl (([4, m, v] : List Int).map V.int) := SqL.of hc
        rw [step_chR] at k
        refine ⟨_, rfl, cl, _, 0, _, rfl, rfl, hS, rfl, rfl, _, rfl, iteFD (by simp) ?_⟩
        refine ⟨_, rfl, cl, _, 0, _, rfl, rfl, hS, rfl, rfl, _, rfl, iteFD (by simp) ?_⟩
        refine ⟨_, rfl, cl, _, 0, _, rfl, rfl, hS, rfl, rfl, _, rfl, iteFD (by simp) ?_⟩
        refine ⟨_, rfl, cl, _, 0, _, rfl, rfl, hS, rfl, rfl, _, rfl, iteFD (by simp) ?_⟩
        refine ⟨_, rfl, cl, _, 0, _, rfl, rfl, hS, rfl, rfl, _, rfl, iteTD rfl ?_⟩
        refine ⟨_, rfl, a, dx, _, rfl, ha, fs_no2.2.1, _, rfl, cl, _, 1, _, rfl, rfl, hS, rfl, _, rfl, cl, _, 2, _, rfl, rfl, hS, rfl, ?_⟩
        refine ⟨a, l, st0, m, v, rfl, st, G, fun H1 q sm nq hq => ?_⟩
        exact k _ l q (st.same sm) (.inl rfl) nq (fun e => by subst e; rw [hl] at nq; cases nq) hq (Kp.of_same sm)
      | draw n h1 h2 =>
        rw [p1_draw] at hc
        obtain ⟨n, rfl⟩ : ∃ z : Nat, n = (z : Int) := ⟨n.toNat, by omega⟩
        have hS : SqL K H cl (([5, n] : List Int).map V.int) := SqL.of hc
        rw [step_draw, Int.toNat_natCast] at k
        refine ⟨_, rfl, cl, _, 0, _, rfl, rfl, hS, rfl, rfl, _, rfl, iteFD (by simp) ?_⟩
        refine ⟨_, rfl, cl, _, 0, _, rfl, rfl, hS, rfl, rfl, _, rfl, iteFD (by simp) ?_⟩
        refine ⟨_, rfl, cl, _, 0, _, rfl, rfl, hS, rfl, rfl, _, rfl, iteFD (by simp) ?_⟩
        refine ⟨_, rfl, cl, _, 0, _, rfl, rfl, hS, rfl, rfl, _, rfl, iteFD (by simp) ?_⟩
        refine ⟨_, rfl, cl, _, 0, _, rfl, rfl, hS, rfl, rfl, _, rfl, iteFD (by simp) ?_⟩
        refine ⟨_, rfl, a, dx, _, rfl, ha, fs_no2.2.2, _, rfl, cl, _, 1, _, rfl, rfl, hS, rfl, ?_⟩
        refine ⟨a, l, st0, n, rfl, st, G, by omega, fun H1 sm => ⟨s1, fun q hq => ?_⟩⟩
        obtain ⟨u1, u2, u3⟩ := StAt.upd (o := .lst [.int (Sg24.drawn st0 n : Nat)]) (st.same sm) hq
        exact k _ l q u1 (.inl rfl) (sm.free hq) u2 upd_same ((Kp.of_same sm).upd (.inr (sm.free hq)))
/-! answers -/
def spAns (K : PySem.W.Frag) : Sp := fun vs H Q _ => ∃ (a : Addr) (ns : List Int), vs = [.ref a] ∧ SqL K H a (ns.map V.int) ∧ ns.length ≤ 16000 ∧ PySg24.answers_asked ns = true ∧ ∀ (H' : Hp) (p : Addr), H' p = some (.lst ((PySg24.answers ns).map V.int)) → Q (.ref p) H'
/-- how far the calls are through -/
inductive Mode (K : PySem.W.Frag) (C : Addr) (H H' : Hp) (a gl : Addr) (tot gs : List Int) : List (List (List Int)) → Prop
  | raw (n p : Int) (l : List (List (List Int))) (dx l0 : Addr) : H' a = some (.ins C dx (sf 0 0 l0)) → 0 ≤ p → (Sg24.startOk n p.toNat = true → ∀ c ∈ l, Live c) → (Sg24.startOk n p.toNat = false → l = []) →
      gs ++ PyFlat.told (PyFlat.played Sg24Neutral.step Sg24Neutral.start ([[0, n, p]] :: l)) = tot → Mode K C H H' a gl tot gs ([[0, n, p]] :: l)
  | live (r : List (List (List Int))) (l : Addr) (s : Sg24.State) : StAt K C H' a l s → Mq.Good s → H l = none → gl ≠ l → (∀ c ∈ r, Live c) → gs ++ PyFlat.told (PyFlat.played Sg24Neutral.step s r) = tot → Mode K C H H' a gl tot gs r
  | dead : gs = tot → Mode K C H H' a gl tot gs []
theorem Mode.shp {H H' : Hp} {a gl : Addr} {tot gs : List Int} {c : List (List Int)} {r : List (List (List Int))} (m : Mode K C H H' a gl tot gs (c :: r)) : Mq.Shp c := by
  cases m with
  | raw n p l dx l0 => exact .begin _ _
  | live _ l s _ _ _ _ h => exact (h c List.mem_cons_self).shp
theorem scAns : FnScope ["calls", "state", "given", "at", "end", "numbers"] ["calls"] (defScope sAns) := ⟨rfl, rfl, rfl, by decide +kernel, rfl, by decide +kernel, by decide +kernel⟩
theorem ok_ans {f fA fP fL fM f1 f2 f3 f4 f5 f6 fW fD fT fI fB fG fR fl fa gS gB gU gC gD : Addr} {fd dA dP dL dM d1 d2 d3 d4 d5 d6 dW dD dT dI dB dG dR dl da eS eB eU eC eD : FuncData} (F : Fun K "answers" "answers" sAns f fd) (T : Ts K mg C tA) (Tq : Tc K mg kA) (Tn : Ta K mg) (X : Fe K mg f1 f2 f3 f4 f5 f6 d1 d2 d3 d4 d5 d6) (Y : Fg K C fA fP fL fM dA dP dL dM)
    (Z : Fc K mg fW fD fT dW dD dT) (M : Mk K C fI) (FI : Fun K "__init__" "State.__init__" sInit fI dI) (bI : Binds K dI ["self"] []) (FB : Fun K "begin" "State.begin" sBegin fB dB) (bB : Binds K dB ["self", "n", "place"] []) (mB : Meth K C "begin" fB)
    (FG : Fun K "gate" "State.gate" sGate fG dG) (bG : Binds K dG ["self", "kind", "target", "on", "off"] []) (mG : Meth K C "gate" fG) (FR : Fun K "run" "State.run" sRun fR dR) (bR : Binds K dR ["self", "text"] []) (mR : Meth K C "run" fR)
    (Fl : Fun K "call_length" "call_length" sLen fl dl) (bl : Binds K dl ["calls", "at"] []) (ml : mg "call_length" = some (.ref fl)) (Fa : Fun K "answer" "answer" sAnswer fa da) (ba : Binds K da ["state", "call"] []) (ma : mg "answer" = some (.ref fa)) (Tz : Tx mg) (U : Fx K mg C gS gB gU gC gD eS eB eU eC eD) :
    FnOk P w K mg base CX0 7 f fd ["calls"] (spAns K) := by
  have GI : FnOk P w K mg base CX0 1 fI dI ["self"] (spInit C) := ok_init FI T
  have Gl : FnOk P w K mg base CX0 1 fl dl ["calls", "at"] (spLen K) := ok_len Fl Tn
  have Ga : FnOk P w K mg base CX0 6 fa da ["state", "call"] (spAnswer K C) := ok_answer Fa T Tq Tn X Y Z FB bB mB FG bG mG FR bR mR Tz U
  refine F.ok scAns (fun vs H Q E h => ?_) (fun cdv A outer s H vs Q E hr h => ?_)
  · obtain ⟨a, ns, rfl, _⟩ := h
    rfl
  · obtain ⟨ca, ns, rfl, hca, hlen, hask, k⟩ := h
    have hr1 : Room 1 _ := hr.mono (by decide)
    have hr2 : Room 2 _ := hr.mono (by decide)
    refine ⟨_, pss_cons (ps_set (i := 1) scAns.nd rfl (Or.inl rfl) (pe_make0 M GI hr2 rfl T.mgC bI .nil pass0))
      (pss_cons (ps_set (i := 2) scAns.nd rfl (Or.inl rfl) (pe_lst pa_nil))
      (pss_cons (ps_set (i := 3) scAns.nd rfl (Or.inl rfl) pe_int)
      (pss_cons (ps_while PassesOwn.never (pt_cmpR op_lt (pv 3) (pe_callB call_len_seq (by rfl) T.ln PySem.boot_len (pa_cons (pv 0) pa_nil)) (nomark _))
        (pss_cons (ps_set (i := 4) scAns.nd rfl (Or.inl rfl) (pe_op op_add (pv 3) (pe_call Gl hr1 rfl ml Fl.kp bl .nil pass0 (pa_cons (pv 0) (pa_cons (pv 3) pa_nil)))))
        (pss_cons (ps_set (i := 5) scAns.nd rfl (Or.inl rfl) (pe_call Ga hr rfl ma Fa.kp ba .nil pass0 (pa_cons (pv 1) (pa_cons (pe_slice sl_list (pv 0) (po_some (pv 3)) (po_some (pv 4))) pa_nil))))
        (pss_cons (ps_expr (pe_bm PySem.F.plainAttrs_list PySem.F.slot_list_append PySem.F.type_list_append mt_append (pv 2) (pa_cons (pe_callB call_len_seq (by rfl) T.ln PySem.boot_len (pa_cons (pv 5) pa_nil)) pa_nil)))
        (pss_cons (ps_expr (pe_bm PySem.F.plainAttrs_list PySem.F.slot_list_extend PySem.F.type_list_extend mt_extend (pv 2) (pa_cons (pv 5) pa_nil)))
        (pss_one (ps_set (i := 3) scAns.nd rfl (Or.inl rfl) (pv 4))))))))
      (pss_one (ps_ret (pv 2)))))), ?_⟩
    obtain ⟨n, p, l, ens, hp, hl1, hl2, etot⟩ := asked_read hlen hask
    generalize PySg24.answers ns = tot at etot k
    -- State(), [], 0
    intro a dx na nd ne
    refine ⟨a, dx, rfl, upd_same, fun H1 l0 h1 nl0 hl0 kp1 => ⟨rfl, ?_⟩⟩
    have sm1 : Same H H1 := fun b o e => kp1.at_ b o (by rw [upd_ne (ne_of_none e na), upd_ne (ne_of_none e nd)]; exact e) (by simp [ne_of_none e na])
    refine ⟨Nat.zero_le _, fun gl hgl => ?_⟩
    have sm2 : Same H (upd H1 gl (.lst [])) := sm1.trans (same_none hgl)
    have ga : gl ≠ a := fun e => by subst e; rw [h1] at hgl; cases hgl
    have ngl : H gl = none := sm1.free hgl
    have sl : (200000 : Nat) < sizeLine := by decide
    refine ⟨fun m σ H' => ∃ (i : Nat) (r : List (List (List Int))) (gs : List Int) (x4 x5 : Option V), m = ns.length - i ∧ σ = [some (.ref ca), some (.ref a), some (.ref gl), some (.int (i : Nat)), x4, x5] ∧ i ≤ ns.length ∧ ns.drop i = put r ∧ Same H H' ∧
        H' gl = some (.lst (gs.map V.int)) ∧ gs.length ≤ 7 * i ∧ Mode K C H H' a gl tot gs r,
      ⟨_, 0, [[0, n, p]] :: l, [], none, none, rfl, rfl, Nat.zero_le _, ens, sm2, upd_same, Nat.zero_le _, .raw n p l dx l0 (by rw [upd_ne (Ne.symm ga)]; exact h1) hp hl1 hl2 etot.symm⟩, ?_⟩
    rintro m σ H' ⟨i, r, gs, x4, x5, rfl, rfl, hi, hd, sm, hg, hgs, md⟩
    refine ⟨_, rfl, _, rfl, ca, _, rfl, .inl (sm.seq hca), _, _, rfl, rfl, _, rfl, ?_⟩
    refine ite2 (fun c => ?_) (fun c => ?_)
    · have c : ((i : Nat) : Int) < (((ns.map V.int).length : Nat) : Int) := of_decide_eq_true c
      rw [List.length_map] at c
      have hi' : i < ns.length := by omega
      obtain ⟨c, r', rfl⟩ : ∃ c r', r = c :: r' := by
        cases r with
        | nil =>
          rw [put_nil] at hd
          have := congrArg List.length hd
          rw [List.length_drop] at this; simp at this; omega
        | cons c r' => exact ⟨c, r', rfl⟩
      have sc := md.shp
      rw [put_cons] at hd
      have pos := p1_pos sc
      have le : i + (put1 c).length ≤ ns.length := by
        have := congrArg List.length hd
        rw [List.length_drop, List.length_append] at this; omega
      have hd' : ns.drop (i + (put1 c).length) = put r' := by
        rw [← List.drop_drop, hd, List.drop_left]
      -- what a turn is to reach
      refine ⟨fun σ H2 => ∃ (gs2 : List Int) (x4 x5 : Option V), σ = [some (.ref ca), some (.ref a), some (.ref gl), some (.int ((i + (put1 c).length : Nat) : Int)), x4, x5] ∧ Same H H2 ∧ H2 gl = some (.lst (gs2.map V.int)) ∧ gs2.length ≤ gs.length + 6 ∧ Mode K C H H2 a gl tot gs2 r', ?_, ?_⟩
      · rintro σ H2 ⟨gs2, y4, y5, rfl, smn, hg2, hl2, md2⟩
        exact ⟨ns.length - (i + (put1 c).length), by omega, _, r', gs2, y4, y5, rfl, rfl, le, hd', smn, hg2, by omega, md2⟩
      have ei : ((i : Nat) : Int) + (((put1 c).length : Nat) : Int) = ((i + (put1 c).length : Nat) : Int) := by omega
      refine ⟨_, rfl, _, rfl, _, rfl, ca, ns, put r', c, i, rfl, sm.seq hca, hd, sc, _, _, rfl, rfl, ?_⟩
      refine ⟨_, rfl, _, rfl, _, rfl, _, rfl, _, rfl, _, rfl, ca, _, rfl, sm.seq hca, fun cl hcl => ?_⟩
      rw [cut_put hd hi rfl rfl]
      have scl : Same H' (upd H' cl (.lst ((put1 c).map V.int))) := same_none hcl
      have ncl : H cl = none := sm.free hcl
      have clg : gl ≠ cl := fun e => by subst e; rw [hg] at hcl; cases hcl
      refine ⟨a, cl, c, rfl, upd_same, ?_⟩
      cases md with
      | raw n p l dx l0 ha hp hl1 hl2 etot =>
        refine .inl ⟨n, p, dx, l0, 0, 0, rfl, scl _ _ ha, hp, fun z H3 q s3 nq hq => ?_, fun z H3 lx q st3 nlx nq qlx hq kp3 => ?_⟩
        · have hg3 : H3 gl = some (.lst (gs.map V.int)) := s3 _ _ (scl _ _ hg)
          have gq : gl ≠ q := fun e => by subst e; rw [scl _ _ hg] at nq; cases nq
          have sm3 : Same H H3 := (sm.trans scl).trans s3
          refine ⟨_, rfl, .inl ⟨rfl, _, SqL.of hg3⟩, _, rfl, q, _, rfl, .inl (SqL.of hq), gl, _, _, rfl, rfl, hg3, by rw [List.length_map]; omega, ?_⟩
          refine ⟨_, rfl, .inl ⟨rfl, _, SqL.of upd_same⟩, _, rfl, gl, q, _, _, rfl, rfl, upd_same, by rw [upd_ne (Ne.symm gq)]; exact hq, by rw [List.length_append, List.length_map]; simp; omega, ?_⟩
          refine ⟨_, rfl, gs ++ [1, -1], _, _, by rw [← ei]; rfl, (sm3.store ngl).store ngl, ?_, by simp, ?_⟩
          · rw [upd_same]; simp
          · rw [hl2 z]
            refine .dead ?_
            rw [← etot, played_cons, step_begin, if_pos z, hl2 z]; rfl
        · have G := Mq.fresh_good (n := n.toNat) (p := p.toNat) (by have := (start_iff _ _).mp z; omega) (by have := (start_iff _ _).mp z; omega) ((start_iff _ _).mp z).2.2
          have hg3 : H3 gl = some (.lst (gs.map V.int)) := kp3.at_ _ _ (scl _ _ hg) (by simp [ga])
          have gq : gl ≠ q := fun e => by subst e; rw [scl _ _ hg] at nq; cases nq
          have glx : gl ≠ lx := fun e => by subst e; rw [scl _ _ hg] at nlx; cases nlx
          have sm3 : Same H H3 := fun b o e => kp3.at_ b o (scl _ _ (sm _ _ e)) (by simp [ne_of_none e na])
          refine ⟨_, rfl, .inl ⟨rfl, _, SqL.of hg3⟩, _, rfl, q, _, rfl, .inl (SqL.of hq), gl, _, _, rfl, rfl, hg3, by rw [List.length_map]; omega, ?_⟩
          refine ⟨_, rfl, .inl ⟨rfl, _, SqL.of upd_same⟩, _, rfl, gl, q, _, _, rfl, rfl, upd_same, by rw [upd_ne (Ne.symm gq)]; exact hq, by rw [List.length_append, List.length_map]; simp; omega, ?_⟩
          rw [upd_upd]
          refine ⟨_, rfl, gs ++ [1, 0], _, _, by rw [← ei]; rfl, sm3.store ngl, ?_, by simp, ?_⟩
          · rw [upd_same]; simp
          · obtain ⟨dx3, rs3, e1, e2, e3⟩ := st3
            refine .live _ lx _ ⟨dx3, rs3, by rw [upd_ne (Ne.symm ga)]; exact e1, by rw [upd_ne (Ne.symm glx)]; exact e2, Tups.tk e3 (tk_lst hg3)⟩ G (sm.free (upd_none nlx)) glx (hl1 z) ?_
            rw [← etot, played_cons, step_begin, if_neg (by rw [z]; decide)]
            simp
      | live _ l s st G nl gll lv etot =>
        have lc := lv c List.mem_cons_self
        obtain ⟨u1, u2, u3⟩ := StAt.upd (o := .lst ((put1 c).map V.int)) st hcl
        refine .inr ⟨l, s, u1, G, lc, u2, fun H3 l3 q st3 fr3 nq ql hq kp3 => ?_⟩
        have hg3 : H3 gl = some (.lst (gs.map V.int)) := kp3.at_ _ _ (scl _ _ hg) (by simp [ga, gll])
        have gq : gl ≠ q := fun e => by subst e; rw [scl _ _ hg] at nq; cases nq
        have gl3 : gl ≠ l3 := fun e => by
          rcases fr3 with z | z
          · exact gll (e.trans z)
          · rw [← e, scl _ _ hg] at z; cases z
        have nl3 : H l3 = none := by
          rcases fr3 with z | z
          · rw [z]; exact nl
          · exact sm.free (upd_none z)
        have sm3 : Same H H3 := fun b o e => kp3.at_ b o (scl _ _ (sm _ _ e)) (by simp [ne_of_none e na, ne_of_none e nl])
        have sl5 := step_len (s := s) lc
        refine ⟨_, rfl, .inl ⟨rfl, _, SqL.of hg3⟩, _, rfl, q, _, rfl, .inl (SqL.of hq), gl, _, _, rfl, rfl, hg3, by rw [List.length_map]; omega, ?_⟩
        refine ⟨_, rfl, .inl ⟨rfl, _, SqL.of upd_same⟩, _, rfl, gl, q, _, _, rfl, rfl, upd_same, by rw [upd_ne (Ne.symm gq)]; exact hq, by rw [List.length_append, List.length_map, List.length_map]; simp; omega, ?_⟩
        rw [upd_upd]
        refine ⟨_, rfl, gs ++ ((((Sg24Neutral.step s c).2.length : Nat) : Int) :: (Sg24Neutral.step s c).2), _, _, by rw [← ei]; rfl, sm3.store ngl, ?_, by simp; omega, ?_⟩
        · rw [upd_same]; simp
        · obtain ⟨dx3, rs3, e1, e2, e3⟩ := st3
          refine .live _ l3 _ ⟨dx3, rs3, by rw [upd_ne (Ne.symm ga)]; exact e1, by rw [upd_ne (Ne.symm gl3)]; exact e2, Tups.tk e3 (tk_lst hg3)⟩ (step_good G lc) nl3 gl3 (fun d hd => lv d (List.mem_cons_of_mem _ hd)) ?_
          rw [← etot, played_cons]; simp
    · have c : ¬ ((i : Nat) : Int) < (((ns.map V.int).length : Nat) : Int) := fun z => c (decide_eq_true z)
      rw [List.length_map] at c
      have ei : i = ns.length := by omega
      refine ⟨_, rfl, k H' gl ?_⟩
      rw [ei, List.drop_length] at hd
      have e : gs = tot := by
        cases md with
        | raw n p l => rw [put_cons, p1_begin] at hd; simp at hd
        | live _ l s _ _ _ _ lv e =>
          cases r with
          | nil => rw [← e]; show gs = gs ++ []; simp
          | cons d r' =>
            exfalso
            rw [put_cons] at hd
            have := p1_pos (lv d List.mem_cons_self).shp
            have h2 := congrArg List.length hd
            rw [List.length_append] at h2; simp at h2; omega
        | dead e => exact e
      rw [← e]; exact hg
end
end Fq

end

section
set_option Elab.async false
set_option linter.all false
set_option maxRecDepth 100000
namespace Fq
open PySem PySem.Spec PyProof.Rows L2
open PySem.W (Codec)

theorem all_mk {P : Program} {w : World} {K : PySem.W.Frag} {h : Heap} {mg : Str → Option Value} {fa C : Addr} (X : K.In h) (G : h.Ns mainGlobals mg) (hfa : mg "answers" = some (.ref fa))
    {f1 f2 f3 f4 f5 f6 f7 f8 f9 f10 f11 f12 f13 f14 f15 f16 f17 f18 f19 f20 f21 f22 f23 f24 f25 tu0 tu1 tu2 tu3 da0 da1 : Addr} {od1 an1 od2 an2 od3 an3 od4 an4 od5 an5 od6 an6 od7 an7 od8 an8 od9 an9 od10 an10 od11 an11 od12 an12 od13 an13 od14 an14 od15 an15 od16 an16 od17 an17 od18 an18 od19 an19 od20 an20 od21 an21 od22 an22 od23 an23 od24 an24 od25 an25 tod0 tod1 tod2 tod3 : Option Addr} {sl1 sl2 sl3 sl4 sl5 sl6 sl7 sl8 sl9 sl10 sl11 sl12 sl13 sl14 sl15 sl16 sl17 sl18 sl19 sl20 sl21 sl22 sl23 sl24 sl25 tsl0 tsl1 tsl2 tsl3 : Array (Option Value)} {oc1 kV1 dc1 pm1 cd1 ct1 oc2 kV2 dc2 pm2 cd2 ct2 oc3 kV3 dc3 pm3 cd3 ct3 oc4 kV4 dc4 pm4 cd4 ct4 oc5 kV5 dc5 pm5 cd5 ct5 oc6 kV6 dc6 pm6 cd6 ct6 oc7 kV7 dc7 pm7 cd7 ct7 oc8 kV8 dc8 pm8 cd8 ct8 oc9 kV9 dc9 pm9 cd9 ct9 oc10 kV10 dc10 pm10 cd10 ct10 oc11 kV11 dc11 pm11 cd11 ct11 oc12 kV12 dc12 pm12 cd12 ct12 oc13 kV13 dc13 pm13 cd13 ct13 oc14 kV14 dc14 pm14 cd14 ct14 oc15 kV15 dc15 pm15 cd15 ct15 oc16 kV16 dc16 pm16 cd16 ct16 oc17 kV17 dc17 pm17 cd17 ct17 oc18 kV18 dc18 pm18 cd18 ct18 oc19 kV19 dc19 pm19 cd19 ct19 oc20 kV20 dc20 pm20 cd20 ct20 oc21 kV21 dc21 pm21 cd21 ct21 oc22 kV22 dc22 pm22 cd22 ct22 oc23 kV23 dc23 pm23 cd23 ct23 oc24 kV24 dc24 pm24 cd24 ct24 oc25 kV25 dc25 pm25 cd25 ct25 : Value}
    {ti0 ti1 ti2 ti3 ti4 ti5 ti6 ti7 ti8 ti9 ti10 ti11 ti12 ti13 ti14 ti15 ti16 ti17 ti18 ti19 ti20 tt0_0 tt0_1 tt1_0 tt1_1 tt1_2 tt1_3 tt2_0 tt2_1 tt2_2 tt2_3 tt3_0 tt3_1 tt3_2 tt3_3 tt3_4 tt3_5 : Tok} {tn0 tn1 tn2 tn3 : Nat} {es0 es1 : Array DictEntry} {ep0 ep1 : Nat}
    (hC : PySem.W.nsIn K mainGlobals "State" = some (some (.ref C)))
    (a1 : PySem.W.nsIn K mainGlobals "words" = some (some (.ref f1)))
    (l1 : K.lookup f1 = some ⟨oc1, od1, .func (PySem.W.fnOf "words" "words" (defArgs sWords) (defBody sWords) (defScope sWords) .none kV1 dc1 pm1 an1 cd1 ct1), sl1⟩)
    (c1 : PySem.W.codeIn K cd1 "words" = true)
    (k1 : PySem.W.keepIn K (.ref f1) = true)
    (a2 : PySem.W.nsIn K mainGlobals "digit" = some (some (.ref f2)))
    (l2 : K.lookup f2 = some ⟨oc2, od2, .func (PySem.W.fnOf "digit" "digit" (defArgs sDigit) (defBody sDigit) (defScope sDigit) .none kV2 dc2 pm2 an2 cd2 ct2), sl2⟩)
    (c2 : PySem.W.codeIn K cd2 "digit" = true)
    (k2 : PySem.W.keepIn K (.ref f2) = true)
    (a3 : PySem.W.nsIn K mainGlobals "told_gate" = some (some (.ref f3)))
    (l3 : K.lookup f3 = some ⟨oc3, od3, .func (PySem.W.fnOf "told_gate" "told_gate" (defArgs sTold) (defBody sTold) (defScope sTold) .none kV3 dc3 pm3 an3 cd3 ct3), sl3⟩)
    (c3 : PySem.W.codeIn K cd3 "told_gate" = true)
    (k3 : PySem.W.keepIn K (.ref f3) = true)
    (a4 : PySem.W.nsIn K mainGlobals "added" = some (some (.ref f4)))
    (l4 : K.lookup f4 = some ⟨oc4, od4, .func (PySem.W.fnOf "added" "added" (defArgs sAdded) (defBody sAdded) (defScope sAdded) .none kV4 dc4 pm4 an4 cd4 ct4), sl4⟩)
    (c4 : PySem.W.codeIn K cd4 "added" = true)
    (k4 : PySem.W.keepIn K (.ref f4) = true)
    (a5 : PySem.W.nsIn K mainGlobals "subtracted" = some (some (.ref f5)))
    (l5 : K.lookup f5 = some ⟨oc5, od5, .func (PySem.W.fnOf "subtracted" "subtracted" (defArgs sSubbed) (defBody sSubbed) (defScope sSubbed) .none kV5 dc5 pm5 an5 cd5 ct5), sl5⟩)
    (c5 : PySem.W.codeIn K cd5 "subtracted" = true)
    (k5 : PySem.W.keepIn K (.ref f5) = true)
    (a6 : PySem.W.nsIn K mainGlobals "turned" = some (some (.ref f6)))
    (l6 : K.lookup f6 = some ⟨oc6, od6, .func (PySem.W.fnOf "turned" "turned" (defArgs sTurned) (defBody sTurned) (defScope sTurned) .none kV6 dc6 pm6 an6 cd6 ct6), sl6⟩)
    (c6 : PySem.W.codeIn K cd6 "turned" = true)
    (k6 : PySem.W.keepIn K (.ref f6) = true)
    (a7 : PySem.W.nsIn K mainGlobals "times_root" = some (some (.ref f7)))
    (l7 : K.lookup f7 = some ⟨oc7, od7, .func (PySem.W.fnOf "times_root" "times_root" (defArgs sTimes) (defBody sTimes) (defScope sTimes) .none kV7 dc7 pm7 an7 cd7 ct7), sl7⟩)
    (c7 : PySem.W.codeIn K cd7 "times_root" = true)
    (k7 : PySem.W.keepIn K (.ref f7) = true)
    (a8 : PySem.W.nsIn K mainGlobals "over_root" = some (some (.ref f8)))
    (l8 : K.lookup f8 = some ⟨oc8, od8, .func (PySem.W.fnOf "over_root" "over_root" (defArgs sOver) (defBody sOver) (defScope sOver) .none kV8 dc8 pm8 an8 cd8 ct8), sl8⟩)
    (c8 : PySem.W.codeIn K cd8 "over_root" = true)
    (k8 : PySem.W.keepIn K (.ref f8) = true)
    (a9 : PySem.W.nsIn K mainGlobals "all_hold_root" = some (some (.ref f9)))
    (l9 : K.lookup f9 = some ⟨oc9, od9, .func (PySem.W.fnOf "all_hold_root" "all_hold_root" (defArgs sHold) (defBody sHold) (defScope sHold) .none kV9 dc9 pm9 an9 cd9 ct9), sl9⟩)
    (c9 : PySem.W.codeIn K cd9 "all_hold_root" = true)
    (k9 : PySem.W.keepIn K (.ref f9) = true)
    (a10 : PySem.W.nsIn K mainGlobals "squared_sizes" = some (some (.ref f10)))
    (l10 : K.lookup f10 = some ⟨oc10, od10, .func (PySem.W.fnOf "squared_sizes" "squared_sizes" (defArgs sSizes) (defBody sSizes) (defScope sSizes) .none kV10 dc10 pm10 an10 cd10 ct10), sl10⟩)
    (c10 : PySem.W.codeIn K cd10 "squared_sizes" = true)
    (k10 : PySem.W.keepIn K (.ref f10) = true)
    (a11 : PySem.W.nsIn K mainGlobals "is_below" = some (some (.ref f11)))
    (l11 : K.lookup f11 = some ⟨oc11, od11, .func (PySem.W.fnOf "is_below" "is_below" (defArgs sBelow) (defBody sBelow) (defScope sBelow) .none kV11 dc11 pm11 an11 cd11 ct11), sl11⟩)
    (c11 : PySem.W.codeIn K cd11 "is_below" = true)
    (k11 : PySem.W.keepIn K (.ref f11) = true)
    (a12 : PySem.W.nsIn K mainGlobals "call_length" = some (some (.ref f12)))
    (l12 : K.lookup f12 = some ⟨oc12, od12, .func (PySem.W.fnOf "call_length" "call_length" (defArgs sLen) (defBody sLen) (defScope sLen) .none kV12 dc12 pm12 an12 cd12 ct12), sl12⟩)
    (c12 : PySem.W.codeIn K cd12 "call_length" = true)
    (k12 : PySem.W.keepIn K (.ref f12) = true)
    (a13 : PySem.W.nsIn K mainGlobals "answer" = some (some (.ref f13)))
    (l13 : K.lookup f13 = some ⟨oc13, od13, .func (PySem.W.fnOf "answer" "answer" (defArgs sAnswer) (defBody sAnswer) (defScope sAnswer) .none kV13 dc13 pm13 an13 cd13 ct13), sl13⟩)
    (c13 : PySem.W.codeIn K cd13 "answer" = true)
    (k13 : PySem.W.keepIn K (.ref f13) = true)
    (a14 : PySem.W.nsIn K mainGlobals "answers" = some (some (.ref f14)))
    (l14 : K.lookup f14 = some ⟨oc14, od14, .func (PySem.W.fnOf "answers" "answers" (defArgs sAns) (defBody sAns) (defScope sAns) .none kV14 dc14 pm14 an14 cd14 ct14), sl14⟩)
    (c14 : PySem.W.codeIn K cd14 "answers" = true)
    (k14 : PySem.W.keepIn K (.ref f14) = true)
    (a15 : PySem.W.findIn K (.ref C) "__init__" = some (some (.ref f15)))
    (i15 : PySem.W.isFn K (.ref f15) = true)
    (l15 : K.lookup f15 = some ⟨oc15, od15, .func (PySem.W.fnOf "__init__" "State.__init__" (defArgs sInit) (defBody sInit) (defScope sInit) .none kV15 dc15 pm15 an15 cd15 ct15), sl15⟩)
    (c15 : PySem.W.codeIn K cd15 "State.__init__" = true)
    (k15 : PySem.W.keepIn K (.ref f15) = true)
    (a16 : PySem.W.findIn K (.ref C) "begin" = some (some (.ref f16)))
    (i16 : PySem.W.isFn K (.ref f16) = true)
    (l16 : K.lookup f16 = some ⟨oc16, od16, .func (PySem.W.fnOf "begin" "State.begin" (defArgs sBegin) (defBody sBegin) (defScope sBegin) .none kV16 dc16 pm16 an16 cd16 ct16), sl16⟩)
    (c16 : PySem.W.codeIn K cd16 "State.begin" = true)
    (k16 : PySem.W.keepIn K (.ref f16) = true)
    (a17 : PySem.W.findIn K (.ref C) "gate" = some (some (.ref f17)))
    (i17 : PySem.W.isFn K (.ref f17) = true)
    (l17 : K.lookup f17 = some ⟨oc17, od17, .func (PySem.W.fnOf "gate" "State.gate" (defArgs sGate) (defBody sGate) (defScope sGate) .none kV17 dc17 pm17 an17 cd17 ct17), sl17⟩)
    (c17 : PySem.W.codeIn K cd17 "State.gate" = true)
    (k17 : PySem.W.keepIn K (.ref f17) = true)
    (a18 : PySem.W.findIn K (.ref C) "run" = some (some (.ref f18)))
    (i18 : PySem.W.isFn K (.ref f18) = true)
    (l18 : K.lookup f18 = some ⟨oc18, od18, .func (PySem.W.fnOf "run" "State.run" (defArgs sRun) (defBody sRun) (defScope sRun) .none kV18 dc18 pm18 an18 cd18 ct18), sl18⟩)
    (c18 : PySem.W.codeIn K cd18 "State.run" = true)
    (k18 : PySem.W.keepIn K (.ref f18) = true)
    (a19 : PySem.W.findIn K (.ref C) "allows" = some (some (.ref f19)))
    (i19 : PySem.W.isFn K (.ref f19) = true)
    (l19 : K.lookup f19 = some ⟨oc19, od19, .func (PySem.W.fnOf "allows" "State.allows" (defArgs sAllows) (defBody sAllows) (defScope sAllows) .none kV19 dc19 pm19 an19 cd19 ct19), sl19⟩)
    (c19 : PySem.W.codeIn K cd19 "State.allows" = true)
    (k19 : PySem.W.keepIn K (.ref f19) = true)
    (a20 : PySem.W.findIn K (.ref C) "put" = some (some (.ref f20)))
    (i20 : PySem.W.isFn K (.ref f20) = true)
    (l20 : K.lookup f20 = some ⟨oc20, od20, .func (PySem.W.fnOf "put" "State.put" (defArgs sPut) (defBody sPut) (defScope sPut) .none kV20 dc20 pm20 an20 cd20 ct20), sl20⟩)
    (c20 : PySem.W.codeIn K cd20 "State.put" = true)
    (k20 : PySem.W.keepIn K (.ref f20) = true)
    (a21 : PySem.W.findIn K (.ref C) "mix" = some (some (.ref f21)))
    (i21 : PySem.W.isFn K (.ref f21) = true)
    (l21 : K.lookup f21 = some ⟨oc21, od21, .func (PySem.W.fnOf "mix" "State.mix" (defArgs sMix) (defBody sMix) (defScope sMix) .none kV21 dc21 pm21 an21 cd21 ct21), sl21⟩)
    (c21 : PySem.W.codeIn K cd21 "State.mix" = true)
    (k21 : PySem.W.keepIn K (.ref f21) = true)
    (a22 : PySem.W.findIn K (.ref C) "lessen" = some (some (.ref f22)))
    (i22 : PySem.W.isFn K (.ref f22) = true)
    (l22 : K.lookup f22 = some ⟨oc22, od22, .func (PySem.W.fnOf "lessen" "State.lessen" (defArgs sLessen) (defBody sLessen) (defScope sLessen) .none kV22 dc22 pm22 an22 cd22 ct22), sl22⟩)
    (c22 : PySem.W.codeIn K cd22 "State.lessen" = true)
    (k22 : PySem.W.keepIn K (.ref f22) = true)
    (a23 : PySem.W.findIn K (.ref C) "amplitude" = some (some (.ref f23)))
    (i23 : PySem.W.isFn K (.ref f23) = true)
    (l23 : K.lookup f23 = some ⟨oc23, od23, .func (PySem.W.fnOf "amplitude" "State.amplitude" (defArgs sAmp) (defBody sAmp) (defScope sAmp) .none kV23 dc23 pm23 an23 cd23 ct23), sl23⟩)
    (c23 : PySem.W.codeIn K cd23 "State.amplitude" = true)
    (k23 : PySem.W.keepIn K (.ref f23) = true)
    (a24 : PySem.W.findIn K (.ref C) "chance" = some (some (.ref f24)))
    (i24 : PySem.W.isFn K (.ref f24) = true)
    (l24 : K.lookup f24 = some ⟨oc24, od24, .func (PySem.W.fnOf "chance" "State.chance" (defArgs sChance) (defBody sChance) (defScope sChance) .none kV24 dc24 pm24 an24 cd24 ct24), sl24⟩)
    (c24 : PySem.W.codeIn K cd24 "State.chance" = true)
    (k24 : PySem.W.keepIn K (.ref f24) = true)
    (a25 : PySem.W.findIn K (.ref C) "draw" = some (some (.ref f25)))
    (i25 : PySem.W.isFn K (.ref f25) = true)
    (l25 : K.lookup f25 = some ⟨oc25, od25, .func (PySem.W.fnOf "draw" "State.draw" (defArgs sDraw) (defBody sDraw) (defScope sDraw) .none kV25 dc25 pm25 an25 cd25 ct25), sl25⟩)
    (c25 : PySem.W.codeIn K cd25 "State.draw" = true)
    (k25 : PySem.W.keepIn K (.ref f25) = true)
    (pg : PySem.W.plainGet K C Str.empty = true)
    (hd : PySem.W.hasDictIn K C = true)
    (po : PySem.W.plainOver K C = true)
    (sa : PySem.W.findIn K (.ref C) "__setattr__" = some (some (.builtin "object.__setattr__")))
    (mkc : PySem.W.makesIn K C = true)
    (kc : PySem.W.keepIn K (.ref C) = true)
    (nf0 : PySem.W.findIn K (.ref C) "qubits" = some none)
    (nf1 : PySem.W.findIn K (.ref C) "k" = some none)
    (nf2 : PySem.W.findIn K (.ref C) "amplitudes" = some none)
    (v0 : PySem.W.nsIn K mainGlobals "PLUS" = some (some (.int (43) ti0)))
    (v1 : PySem.W.nsIn K mainGlobals "MINUS" = some (some (.int (45) ti1)))
    (v2 : PySem.W.nsIn K mainGlobals "ZERO_DIGIT" = some (some (.int (48) ti2)))
    (v3 : PySem.W.nsIn K mainGlobals "NINE_DIGIT" = some (some (.int (57) ti3)))
    (v4 : PySem.W.nsIn K mainGlobals "DONE" = some (some (.int (0) ti4)))
    (v5 : PySem.W.nsIn K mainGlobals "REFUSED" = some (some (.int (-1) ti5)))
    (v6 : PySem.W.nsIn K mainGlobals "TOO_FINE" = some (some (.int (-2) ti6)))
    (v7 : PySem.W.nsIn K mainGlobals "TOO_LONG" = some (some (.int (-65537) ti7)))
    (v8 : PySem.W.nsIn K mainGlobals "MOST_QUBITS" = some (some (.int (10) ti8)))
    (v9 : PySem.W.nsIn K mainGlobals "MOST_K" = some (some (.int (120) ti9)))
    (v10 : PySem.W.nsIn K mainGlobals "LONGEST_TEXT" = some (some (.int (65536) ti10)))
    (v11 : PySem.W.nsIn K mainGlobals "X" = some (some (.int (0) ti11)))
    (v12 : PySem.W.nsIn K mainGlobals "Y" = some (some (.int (1) ti12)))
    (v13 : PySem.W.nsIn K mainGlobals "H" = some (some (.int (7) ti13)))
    (v14 : PySem.W.nsIn K mainGlobals "LAST_KIND" = some (some (.int (7) ti14)))
    (v15 : PySem.W.nsIn K mainGlobals "BEGIN" = some (some (.int (0) ti15)))
    (v16 : PySem.W.nsIn K mainGlobals "GATE" = some (some (.int (1) ti16)))
    (v17 : PySem.W.nsIn K mainGlobals "RUN" = some (some (.int (2) ti17)))
    (v18 : PySem.W.nsIn K mainGlobals "AMPLITUDE" = some (some (.int (3) ti18)))
    (v19 : PySem.W.nsIn K mainGlobals "CHANCE" = some (some (.int (4) ti19)))
    (v20 : PySem.W.nsIn K mainGlobals "DRAWN_BITS" = some (some (.int (64) ti20)))
    (z0 : PySem.W.nsIn K mainGlobals "len" = some none)
    (z1 : PySem.W.nsIn K mainGlobals "range" = some none)
    (z2 : PySem.W.nsIn K mainGlobals "zip" = some none)
    (z3 : PySem.W.nsIn K mainGlobals "sum" = some none)
    (z4 : PySem.W.nsIn K mainGlobals "abs" = some none)
    (z5 : PySem.W.nsIn K mainGlobals "list" = some none)
    (t0 : PySem.W.nsIn K mainGlobals "BLANKS" = some (some (.ref tu0)))
    (u0 : K.lookup tu0 = some ⟨.type "tuple", tod0, .seq #[.int 32 tt0_0, .int 10 tt0_1] tn0, tsl0⟩)
    (t1 : PySem.W.nsIn K mainGlobals "ZERO" = some (some (.ref tu1)))
    (u1 : K.lookup tu1 = some ⟨.type "tuple", tod1, .seq #[.int 0 tt1_0, .int 0 tt1_1, .int 0 tt1_2, .int 0 tt1_3] tn1, tsl1⟩)
    (t2 : PySem.W.nsIn K mainGlobals "ONE" = some (some (.ref tu2)))
    (u2 : K.lookup tu2 = some ⟨.type "tuple", tod2, .seq #[.int 1 tt2_0, .int 0 tt2_1, .int 0 tt2_2, .int 0 tt2_3] tn2, tsl2⟩)
    (t3 : PySem.W.nsIn K mainGlobals "LENGTHS" = some (some (.ref tu3)))
    (u3 : K.lookup tu3 = some ⟨.type "tuple", tod3, .seq #[.int 3 tt3_0, .int 5 tt3_1, .int 2 tt3_2, .int 2 tt3_3, .int 3 tt3_4, .int 2 tt3_5] tn3, tsl3⟩)
    (d0 : PySem.W.nsIn K mainGlobals "KINDS" = some (some (.ref da0)))
    (e0 : K.lookup da0 = some ⟨.type "dict", none, .dict es0 ep0, #[]⟩)
    (kdg0 : kdB es0.toList [(88, 0), (89, 1), (90, 2), (83, 3), (115, 4), (84, 5), (116, 6), (72, 7)] = true)
    (kdy0 : (da0 == sysModules) = false)
    (d1 : PySem.W.nsIn K mainGlobals "TURNS" = some (some (.ref da1)))
    (e1 : K.lookup da1 = some ⟨.type "dict", none, .dict es1 ep1, #[]⟩)
    (kdg1 : kdB es1.toList [(2, 4), (3, 2), (4, 6), (5, 1), (6, 7)] = true)
    (kdy1 : (da1 == sysModules) = false) :
    ∃ fd : FuncData, (∀ (s : Shared) (us : List Value), us.length = (["calls"] : List Str).length → BindsTo s fd ⟨us, []⟩ ((["calls"] : List Str).zip us)) ∧ ∀ base : Heap, K.In base → base.Ns mainGlobals mg → FnOk P w K mg base CX0 7 fa fd ["calls"] (spAns K) := by
  have e := hfa.symm.trans (PySem.W.mg_of X G a14)
  cases e
  have F1 := fun_mk (st := sWords) l1 c1 k1
  have b1 := F1.binds (ps := ["text"]) fun _ _ _ _ _ _ us hl => match us, hl with | [_], _ => rfl
  have m1 := PySem.W.mg_of X G a1
  have F2 := fun_mk (st := sDigit) l2 c2 k2
  have b2 := F2.binds (ps := ["byte"]) fun _ _ _ _ _ _ us hl => match us, hl with | [_], _ => rfl
  have m2 := PySem.W.mg_of X G a2
  have F3 := fun_mk (st := sTold) l3 c3 k3
  have b3 := F3.binds (ps := ["word"]) fun _ _ _ _ _ _ us hl => match us, hl with | [_], _ => rfl
  have m3 := PySem.W.mg_of X G a3
  have F4 := fun_mk (st := sAdded) l4 c4 k4
  have b4 := F4.binds (ps := ["xs", "ys"]) fun _ _ _ _ _ _ us hl => match us, hl with | [_, _], _ => rfl
  have m4 := PySem.W.mg_of X G a4
  have F5 := fun_mk (st := sSubbed) l5 c5 k5
  have b5 := F5.binds (ps := ["xs", "ys"]) fun _ _ _ _ _ _ us hl => match us, hl with | [_, _], _ => rfl
  have m5 := PySem.W.mg_of X G a5
  have F6 := fun_mk (st := sTurned) l6 c6 k6
  have b6 := F6.binds (ps := ["numbers", "eighths"]) fun _ _ _ _ _ _ us hl => match us, hl with | [_, _], _ => rfl
  have m6 := PySem.W.mg_of X G a6
  have F7 := fun_mk (st := sTimes) l7 c7 k7
  have b7 := F7.binds (ps := ["numbers"]) fun _ _ _ _ _ _ us hl => match us, hl with | [_], _ => rfl
  have m7 := PySem.W.mg_of X G a7
  have F8 := fun_mk (st := sOver) l8 c8 k8
  have b8 := F8.binds (ps := ["numbers"]) fun _ _ _ _ _ _ us hl => match us, hl with | [_], _ => rfl
  have m8 := PySem.W.mg_of X G a8
  have F9 := fun_mk (st := sHold) l9 c9 k9
  have b9 := F9.binds (ps := ["numbers"]) fun _ _ _ _ _ _ us hl => match us, hl with | [_], _ => rfl
  have m9 := PySem.W.mg_of X G a9
  have F10 := fun_mk (st := sSizes) l10 c10 k10
  have b10 := F10.binds (ps := ["numbers"]) fun _ _ _ _ _ _ us hl => match us, hl with | [_], _ => rfl
  have m10 := PySem.W.mg_of X G a10
  have F11 := fun_mk (st := sBelow) l11 c11 k11
  have b11 := F11.binds (ps := ["whole", "x", "y"]) fun _ _ _ _ _ _ us hl => match us, hl with | [_, _, _], _ => rfl
  have m11 := PySem.W.mg_of X G a11
  have F12 := fun_mk (st := sLen) l12 c12 k12
  have b12 := F12.binds (ps := ["calls", "at"]) fun _ _ _ _ _ _ us hl => match us, hl with | [_, _], _ => rfl
  have m12 := PySem.W.mg_of X G a12
  have F13 := fun_mk (st := sAnswer) l13 c13 k13
  have b13 := F13.binds (ps := ["state", "call"]) fun _ _ _ _ _ _ us hl => match us, hl with | [_, _], _ => rfl
  have m13 := PySem.W.mg_of X G a13
  have F14 := fun_mk (st := sAns) l14 c14 k14
  have b14 := F14.binds (ps := ["calls"]) fun _ _ _ _ _ _ us hl => match us, hl with | [_], _ => rfl
  have m14 := PySem.W.mg_of X G a14
  have F15 := fun_mk (st := sInit) l15 c15 k15
  have b15 := F15.binds (ps := ["self"]) fun _ _ _ _ _ _ us hl => match us, hl with | [_], _ => rfl
  have m15 : Meth K C "__init__" f15 := ⟨a15, i15, k15⟩
  have F16 := fun_mk (st := sBegin) l16 c16 k16
  have b16 := F16.binds (ps := ["self", "n", "place"]) fun _ _ _ _ _ _ us hl => match us, hl with | [_, _, _], _ => rfl
  have m16 : Meth K C "begin" f16 := ⟨a16, i16, k16⟩
  have F17 := fun_mk (st := sGate) l17 c17 k17
  have b17 := F17.binds (ps := ["self", "kind", "target", "on", "off"]) fun _ _ _ _ _ _ us hl => match us, hl with | [_, _, _, _, _], _ => rfl
  have m17 : Meth K C "gate" f17 := ⟨a17, i17, k17⟩
  have F18 := fun_mk (st := sRun) l18 c18 k18
  have b18 := F18.binds (ps := ["self", "text"]) fun _ _ _ _ _ _ us hl => match us, hl with | [_, _], _ => rfl
  have m18 : Meth K C "run" f18 := ⟨a18, i18, k18⟩
  have F19 := fun_mk (st := sAllows) l19 c19 k19
  have b19 := F19.binds (ps := ["self", "kind", "target", "on", "off"]) fun _ _ _ _ _ _ us hl => match us, hl with | [_, _, _, _, _], _ => rfl
  have m19 : Meth K C "allows" f19 := ⟨a19, i19, k19⟩
  have F20 := fun_mk (st := sPut) l20 c20 k20
  have b20 := F20.binds (ps := ["self", "places", "bit", "xs", "ys"]) fun _ _ _ _ _ _ us hl => match us, hl with | [_, _, _, _, _], _ => rfl
  have m20 : Meth K C "put" f20 := ⟨a20, i20, k20⟩
  have F21 := fun_mk (st := sMix) l21 c21 k21
  have b21 := F21.binds (ps := ["self", "places", "bit", "xs", "ys"]) fun _ _ _ _ _ _ us hl => match us, hl with | [_, _, _, _, _], _ => rfl
  have m21 : Meth K C "mix" f21 := ⟨a21, i21, k21⟩
  have F22 := fun_mk (st := sLessen) l22 c22 k22
  have b22 := F22.binds (ps := ["self"]) fun _ _ _ _ _ _ us hl => match us, hl with | [_], _ => rfl
  have m22 : Meth K C "lessen" f22 := ⟨a22, i22, k22⟩
  have F23 := fun_mk (st := sAmp) l23 c23 k23
  have b23 := F23.binds (ps := ["self", "place"]) fun _ _ _ _ _ _ us hl => match us, hl with | [_, _], _ => rfl
  have m23 : Meth K C "amplitude" f23 := ⟨a23, i23, k23⟩
  have F24 := fun_mk (st := sChance) l24 c24 k24
  have b24 := F24.binds (ps := ["self", "mask", "value"]) fun _ _ _ _ _ _ us hl => match us, hl with | [_, _, _], _ => rfl
  have m24 : Meth K C "chance" f24 := ⟨a24, i24, k24⟩
  have F25 := fun_mk (st := sDraw) l25 c25 k25
  have b25 := F25.binds (ps := ["self", "number"]) fun _ _ _ _ _ _ us hl => match us, hl with | [_, _], _ => rfl
  have m25 : Meth K C "draw" f25 := ⟨a25, i25, k25⟩
  have Tq : Tc K mg da0 := ⟨⟨_, PySem.W.mg_of X G t0, fun _ => .inr ⟨_, _, _, u0, rfl, rfl, (by show 2 ≤ sizeLine; decide), by repeat' first | exact .nil | refine .cons ⟨_, rfl⟩ ?_⟩⟩, ⟨_, PySem.W.mg_of X G v0⟩, ⟨_, PySem.W.mg_of X G v1⟩, ⟨_, PySem.W.mg_of X G v2⟩, ⟨_, PySem.W.mg_of X G v3⟩, PySem.W.mg_of X G d0, kd_mk kdy0 (by decide) e0 kdg0, PySem.W.mg_none_of X G z0, PySem.W.mg_none_of X G z1⟩
  have T : Ts K mg C da1 := ⟨⟨pg, hd, po, sa⟩, nf0, nf1, nf2, PySem.W.mg_of X G hC, ⟨_, PySem.W.mg_of X G t1, fun _ => .inr ⟨_, _, _, u1, rfl, rfl, (by show 4 ≤ sizeLine; decide), by repeat' first | exact .nil | refine .cons ⟨_, rfl⟩ ?_⟩⟩, ⟨_, PySem.W.mg_of X G t2, fun _ => .inr ⟨_, _, _, u2, rfl, rfl, (by show 4 ≤ sizeLine; decide), by repeat' first | exact .nil | refine .cons ⟨_, rfl⟩ ?_⟩⟩, ⟨_, PySem.W.mg_of X G v4⟩, ⟨_, PySem.W.mg_of X G v5⟩, ⟨_, PySem.W.mg_of X G v6⟩, ⟨_, PySem.W.mg_of X G v7⟩, ⟨_, PySem.W.mg_of X G v8⟩, ⟨_, PySem.W.mg_of X G v9⟩, ⟨_, PySem.W.mg_of X G v10⟩, ⟨_, PySem.W.mg_of X G v11⟩, ⟨_, PySem.W.mg_of X G v12⟩, ⟨_, PySem.W.mg_of X G v13⟩, ⟨_, PySem.W.mg_of X G v14⟩, PySem.W.mg_of X G d1, kd_mk kdy1 (by decide) e1 kdg1, PySem.W.mg_none_of X G z0, PySem.W.mg_none_of X G z1, PySem.W.mg_none_of X G z2⟩
  have Fe1 := Fe.mk (K := K) (mg := mg) F4 b4 m4 F5 b5 m5 F6 b6 m6 F7 b7 m7 F8 b8 m8 F9 b9 m9
  have Fg1 := Fg.mk (K := K) (C := C) F19 b19 m19 F20 b20 m20 F22 b22 m22 F21 b21 m21
  have Fc1 := Fc.mk (K := K) (mg := mg) F1 b1 m1 F2 b2 m2 F3 b3 m3
  have Mk1 : Mk K C f15 := ⟨mkc, a15, i15, kc⟩
  have Ta1 : Ta K mg := ⟨⟨_, PySem.W.mg_of X G v15⟩, ⟨_, PySem.W.mg_of X G v16⟩, ⟨_, PySem.W.mg_of X G v17⟩, ⟨_, PySem.W.mg_of X G v18⟩, ⟨_, PySem.W.mg_of X G v19⟩, ⟨_, PySem.W.mg_of X G t3, fun _ => .inr ⟨_, _, _, u3, rfl, rfl, (by show 6 ≤ sizeLine; decide), by repeat' first | exact .nil | refine .cons ⟨_, rfl⟩ ?_⟩⟩⟩
  have Tx1 : Tx mg := ⟨⟨_, PySem.W.mg_of X G v20⟩, PySem.W.mg_none_of X G z3, PySem.W.mg_none_of X G z4, PySem.W.mg_none_of X G z5⟩
  have Fx1 := Fx.mk (K := K) (mg := mg) (C := C) F10 b10 m10 F11 b11 m11 F23 b23 m23 F24 b24 m24 F25 b25 m25
  refine ⟨_, ?_, fun base _ _ => ok_ans F14 T Tq Ta1 Fe1 Fg1 Fc1 Mk1 F15 b15 F16 b16 m16 F17 b17 m17 F18 b18 m18 F12 b12 m12 F13 b13 m13 Tx1 Fx1⟩
  exact fun s us hu => match us, hu with | [_], _ => .of_eq rfl
end Fq
open PySem PySem.W PyProof.Rows
set_option maxRecDepth 100000 in
set_option maxHeartbeats 0 in
theorem PySem.Challenge.cw_fewqubits_s01_answers_holds : PySem.Challenge.rw_fewqubits_s01_answers.Holds := by
  w_on; k_headS; (case hw => exact ⟨[.list [.int 0, .int 1, .int 0]], by decide +kernel, by decide +kernel⟩)
  k_fillS
  refine L2.walk_specK (r := PySem.Challenge.rw_fewqubits_s01_answers) (k := 7) (CX := L2.CX0) (ps := ["calls"]) (sp := Fq.spAns) (by decide +kernel) rfl rfl ⟨rfl, by decide, by decide⟩ (fun w h Y => PySem.W.kIn_of Y) ?F ?S (fun _ _ _ _ z => z)
  case F =>
    intro w mg fa h Y KX G hmg
    refine' Fq.all_mk KX G hmg ?hC ?a1 ?l1 ?c1 ?k1 ?a2 ?l2 ?c2 ?k2 ?a3 ?l3 ?c3 ?k3 ?a4 ?l4 ?c4 ?k4 ?a5 ?l5 ?c5 ?k5 ?a6 ?l6 ?c6 ?k6 ?a7 ?l7 ?c7 ?k7 ?a8 ?l8 ?c8 ?k8 ?a9 ?l9 ?c9 ?k9 ?a10 ?l10 ?c10 ?k10 ?a11 ?l11 ?c11 ?k11 ?a12 ?l12 ?c12 ?k12 ?a13 ?l13 ?c13 ?k13 ?a14 ?l14 ?c14 ?k14 ?a15 ?i15 ?l15 ?c15 ?k15 ?a16 ?i16 ?l16 ?c16 ?k16 ?a17 ?i17 ?l17 ?c17 ?k17 ?a18 ?i18 ?l18 ?c18 ?k18 ?a19 ?i19 ?l19 ?c19 ?k19 ?a20 ?i20 ?l20 ?c20 ?k20 ?a21 ?i21 ?l21 ?c21 ?k21 ?a22 ?i22 ?l22 ?c22 ?k22 ?a23 ?i23 ?l23 ?c23 ?k23 ?a24 ?i24 ?l24 ?c24 ?k24 ?a25 ?i25 ?l25 ?c25 ?k25 ?pg ?hd ?po ?sa ?mkc ?kc ?nf0 ?nf1 ?nf2 ?v0 ?v1 ?v2 ?v3 ?v4 ?v5 ?v6 ?v7 ?v8 ?v9 ?v10 ?v11 ?v12 ?v13 ?v14 ?v15 ?v16 ?v17 ?v18 ?v19 ?v20 ?z0 ?z1 ?z2 ?z3 ?z4 ?z5 ?t0 ?u0 ?t1 ?u1 ?t2 ?u2 ?t3 ?u3 ?d0 ?e0 ?kdg0 ?kdy0 ?d1 ?e1 ?kdg1 ?kdy1
    (case hC => k_is); (case a1 => k_is); (case l1 => k_is); (case c1 => k_is); (case k1 => k_is); (case a2 => k_is); (case l2 => k_is); (case c2 => k_is)
    (case k2 => k_is); (case a3 => k_is); (case l3 => k_is); (case c3 => k_is); (case k3 => k_is); (case a4 => k_is); (case l4 => k_is); (case c4 => k_is)
    (case k4 => k_is); (case a5 => k_is); (case l5 => k_is); (case c5 => k_is); (case k5 => k_is); (case a6 => k_is); (case l6 => k_is); (case c6 => k_is)
    (case k6 => k_is); (case a7 => k_is); (case l7 => k_is); (case c7 => k_is); (case k7 => k_is); (case a8 => k_is); (case l8 => k_is); (case c8 => k_is)
    (case k8 => k_is); (case a9 => k_is); (case l9 => k_is); (case c9 => k_is); (case k9 => k_is); (case a10 => k_is); (case l10 => k_is); (case c10 => k_is)
    (case k10 => k_is); (case a11 => k_is); (case l11 => k_is); (case c11 => k_is); (case k11 => k_is); (case a12 => k_is); (case l12 => k_is); (case c12 => k_is)
    (case k12 => k_is); (case a13 => k_is); (case l13 => k_is); (case c13 => k_is); (case k13 => k_is); (case a14 => k_is); (case l14 => k_is); (case c14 => k_is)
    (case k14 => k_is); (case a15 => k_is); (case i15 => k_is); (case l15 => k_is); (case c15 => k_is); (case k15 => k_is); (case a16 => k_is); (case i16 => k_is)
    (case l16 => k_is); (case c16 => k_is); (case k16 => k_is); (case a17 => k_is); (case i17 => k_is); (case l17 => k_is); (case c17 => k_is); (case k17 => k_is)
    (case a18 => k_is); (case i18 => k_is); (case l18 => k_is); (case c18 => k_is); (case k18 => k_is); (case a19 => k_is); (case i19 => k_is); (case l19 => k_is)
    (case c19 => k_is); (case k19 => k_is); (case a20 => k_is); (case i20 => k_is); (case l20 => k_is); (case c20 => k_is); (case k20 => k_is); (case a21 => k_is)
    (case i21 => k_is); (case l21 => k_is); (case c21 => k_is); (case k21 => k_is); (case a22 => k_is); (case i22 => k_is); (case l22 => k_is); (case c22 => k_is)
    (case k22 => k_is); (case a23 => k_is); (case i23 => k_is); (case l23 => k_is); (case c23 => k_is); (case k23 => k_is); (case a24 => k_is); (case i24 => k_is)
    (case l24 => k_is); (case c24 => k_is); (case k24 => k_is); (case a25 => k_is); (case i25 => k_is); (case l25 => k_is); (case c25 => k_is); (case k25 => k_is)
    (case pg => k_is); (case hd => k_is); (case po => k_is); (case sa => k_is); (case mkc => k_is); (case kc => k_is); (case nf0 => k_is); (case nf1 => k_is)
    (case nf2 => k_is); (case v0 => k_is); (case v1 => k_is); (case v2 => k_is); (case v3 => k_is); (case v4 => k_is); (case v5 => k_is); (case v6 => k_is)
    (case v7 => k_is); (case v8 => k_is); (case v9 => k_is); (case v10 => k_is); (case v11 => k_is); (case v12 => k_is); (case v13 => k_is); (case v14 => k_is)
    (case v15 => k_is); (case v16 => k_is); (case v17 => k_is); (case v18 => k_is); (case v19 => k_is); (case v20 => k_is); (case z0 => k_is); (case z1 => k_is)
    (case z2 => k_is); (case z3 => k_is); (case z4 => k_is); (case z5 => k_is); (case t0 => k_is); (case u0 => k_is); (case t1 => k_is); (case u1 => k_is)
    (case t2 => k_is); (case u2 => k_is); (case t3 => k_is); (case u3 => k_is); (case d0 => k_is); (case e0 => k_is); (case kdg0 => decide +kernel); (case kdy0 => decide +kernel)
    (case d1 => k_is); (case e1 => k_is); (case kdg1 => decide +kernel); (case kdy1 => decide +kernel)
  case S =>
    intro K H xs a hO hwi hask hx
    cases hx with
    | cons h1 h2 =>
      cases h2
      cases h1 with
      | lst hs ha =>
        have e := L2.ints_dw a.1 _ ha
        subst e
        have q : ((Codec.inLen 0 16000 a.1 && a.1.all (Codec.inInt (-2147483648) 18446744073709551615)) && true) = true := hwi
        rw [Bool.and_eq_true, Bool.and_eq_true] at q
        exact ⟨_, a.1, rfl, hs, (Codec.inNat_iff.mp q.1.1).2, hask, fun H' p hp => .lst (L2.SqL.of hp) (L2.dw_ints _)⟩
#print axioms PySem.Challenge.cw_fewqubits_s01_answers_holds

end
