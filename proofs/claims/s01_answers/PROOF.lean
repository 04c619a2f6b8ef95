import PyProof.Rows.All
import Wide.All
import OpenK.AllK
import Wide.FinOn
import PyProof.EqAt
import PyProof.EqKinds
import PyProof.TupleCall
import KE.BitLaws
import KE.OsGo
import Open.SpecLaws
import PySem.Challenge.RW_fifteenbits_s01_answers
set_option Elab.async false
set_option linter.all false
set_option maxRecDepth 100000
set_option Elab.async false
set_option linter.all false
set_option maxRecDepth 100000
namespace L2
open PySem PySem.Spec PyProof.Rows
abbrev Key := Sum Int Str
def keyIs : Key → Value → Bool
  | .inl k, v => Value.isInt k v
  | .inr x, v => Value.isStrOf x v
def keyH (w : World) : Key → Int
  | .inl k => hashInt k
  | .inr x => hashStr w x
theorem keyIs_shape : ∀ {k : Key} {v : Value}, keyIs k v = true → (∃ i t, k = Sum.inl i ∧ v = Value.int i t) ∨ (∃ x t, k = Sum.inr x ∧ v = Value.str x t)
  | .inl i, v, h => by
    obtain ⟨t, e⟩ := Value.isInt_shape (k := i) (v := v) h
    exact .inl ⟨i, t, rfl, e⟩
  | .inr x, v, h => by
    obtain ⟨t, e⟩ := Value.isStrOf_shape (x := x) (v := v) h
    exact .inr ⟨x, t, rfl, e⟩
theorem keyIs_int (i : Int) (t : Tok) : keyIs (.inl i) (.int i t) = true := by simp [keyIs, Value.isInt]
theorem keyIs_str (x : Str) (t : Tok) : keyIs (.inr x) (.str x t) = true := by simp [keyIs, Value.isStrOf]
theorem key_ll (a b : Int) : decide ((Sum.inl a : Key) = Sum.inl b) = (a == b) := by
  by_cases e : a = b
  · subst e; simp
  · have h : ¬ (Sum.inl a : Key) = Sum.inl b := fun q => e (Sum.inl.inj q)
    rw [decide_eq_false h]
    exact (beq_eq_false_iff_ne.mpr e).symm
theorem key_rr (a b : Str) : decide ((Sum.inr a : Key) = Sum.inr b) = decide (a = b) := by
  by_cases e : a = b
  · subst e; simp
  · have h : ¬ (Sum.inr a : Key) = Sum.inr b := fun q => e (Sum.inr.inj q)
    rw [decide_eq_false h, decide_eq_false e]
theorem key_lr (a : Int) (b : Str) : decide ((Sum.inl a : Key) = Sum.inr b) = false := decide_eq_false (fun q => nomatch q)
theorem key_rl (a : Str) (b : Int) : decide ((Sum.inr a : Key) = Sum.inl b) = false := decide_eq_false (fun q => nomatch q)
def mixKind (prog : Program) (w : World) : PySem.KeyKind prog w Key where
  is := keyIs
  hash := keyH w
  inj := fun v a b ha hb => by
    rcases keyIs_shape ha with ⟨i, t, rfl, rfl⟩ | ⟨x, t, rfl, rfl⟩
    · rcases keyIs_shape hb with ⟨j, u, rfl, e⟩ | ⟨y, u, rfl, e⟩
      · injection e with e1 _; rw [e1]
      · exact nomatch e
    · rcases keyIs_shape hb with ⟨j, u, rfl, e⟩ | ⟨y, u, rfl, e⟩
      · exact nomatch e
      · injection e with e1 _; rw [e1]
  byValue := fun k v h => by
    rcases keyIs_shape h with ⟨i, t, rfl, rfl⟩ | ⟨x, t, rfl, rfl⟩ <;> rfl
  pyHash := fun hv h => by
    rcases keyIs_shape hv with ⟨i, t, rfl, rfl⟩ | ⟨x, t, rfl, rfl⟩
    · exact wpAny_pyHash_int h
    · exact wpAny_pyHash_str h
  eqBool := fun hu hv h => by
    rcases keyIs_shape hu with ⟨i, t, rfl, rfl⟩ | ⟨x, t, rfl, rfl⟩
    · rcases keyIs_shape hv with ⟨j, u, rfl, rfl⟩ | ⟨y, u, rfl, rfl⟩
      · rw [key_ll] at h; exact wpAny_eqBool_int h
      · rw [key_lr] at h; exact SeqAt.EqAt.int_str i t y u _ _ _ _ h
    · rcases keyIs_shape hv with ⟨j, u, rfl, rfl⟩ | ⟨y, u, rfl, rfl⟩
      · rw [key_rl] at h; exact SeqAt.EqAt.str_int x t j u _ _ _ _ h
      · rw [key_rr] at h; exact wpAny_eqBool_str h
  «strs» := fun k x t v h => by
    rcases keyIs_shape h with ⟨i, u, rfl, e⟩ | ⟨y, u, rfl, e⟩
    · exact nomatch e
    · injection e with e1 _
      subst e1
      cases v <;> rfl
theorem mixKind_int (prog : Program) (w : World) (i : Int) (t : Tok) : (mixKind prog w).is (.inl i) (.int i t) = true := keyIs_int i t
theorem mixKind_str (prog : Program) (w : World) (x : Str) (t : Tok) : (mixKind prog w).is (.inr x) (.str x t) = true := keyIs_str x t
end L2
namespace L2
open PySem PySem.Spec PyProof.Rows
inductive V where
  | non | bl (b : Bool) | int (i : Int) | str (x : Str) | byt (b : Array UInt8) | flt (b : UInt64) | ref (a : Addr) | ty (n : String)
  deriving DecidableEq
def RelV : V → Value → Prop
  | .non, u => u = Value.none
  | .bl b, u => u = Value.bool b
  | .int i, u => ∃ t, u = Value.int i t
  | .str x, u => ∃ t, u = Value.str x t
  | .byt b, u => ∃ t, u = Value.bytes b t
  | .flt b, u => ∃ t, u = Value.float b t
  | .ref a, u => u = Value.ref a
  | .ty n, u => u = Value.type n
abbrev Vals : List V → List Value → Prop := Paired RelV
theorem Vals.length {xs : List V} {us : List Value} (r : Vals xs us) : xs.length = us.length := Paired.length r
theorem Vals.get : ∀ {xs : List V} {us : List Value} {i : Nat} {x : V}, Vals xs us → xs[i]? = some x → ∃ u, us[i]? = some u ∧ RelV x u
  | _, _, _, _, .nil, e => by simp at e
  | _, _, 0, _, .cons r _, e => by simp at e; subst e; exact ⟨_, rfl, r⟩
  | _, _, i + 1, x, .cons _ t, e => by
    obtain ⟨u, h1, h2⟩ := Vals.get (i := i) (x := x) t (by simpa using e)
    exact ⟨u, by simpa using h1, h2⟩
theorem Vals.set {x : V} {u : Value} (r : RelV x u) : ∀ {xs : List V} {us : List Value} (i : Nat), Vals xs us → Vals (xs.set i x) (us.set i u)
  | _, _, _, .nil => .nil
  | _, _, 0, .cons _ t => .cons r t
  | _, _, i + 1, .cons q t => .cons q (Vals.set r i t)
theorem Vals.append : ∀ {xs ys : List V} {us ws : List Value}, Vals xs us → Vals ys ws → Vals (xs ++ ys) (us ++ ws)
  | _, _, _, _, .nil, s => s
  | _, _, _, _, .cons r t, s => .cons r (Vals.append t s)
theorem Vals.take : ∀ {xs : List V} {us : List Value} (n : Nat), Vals xs us → Vals (xs.take n) (us.take n)
  | _, _, 0, _ => .nil
  | _, _, _ + 1, .nil => .nil
  | _, _, n + 1, .cons r t => .cons r (Vals.take n t)
theorem Vals.drop : ∀ {xs : List V} {us : List Value} (n : Nat), Vals xs us → Vals (xs.drop n) (us.drop n)
  | _, _, 0, r => r
  | _, _, _ + 1, .nil => .nil
  | _, _, n + 1, .cons _ t => Vals.drop n t
theorem Vals.none_of : ∀ {xs : List V} {us : List Value} {i : Nat}, Vals xs us → xs[i]? = none → us[i]? = none := fun {xs us i} r e => by
  have h1 := r.length
  have h2 : xs.length ≤ i := List.getElem?_eq_none_iff.mp e
  exact List.getElem?_eq_none_iff.mpr (by omega)
def RelO : Option V → Option Value → Prop
  | some v, some u => RelV v u
  | none, none => True
  | _, _ => False
def KV {κ : Type} : List (κ × V) → List (κ × Value) → Prop := Paired fun (p : κ × V) (q : κ × Value) => p.1 = q.1 ∧ RelV p.2 q.2
def kV : Key → V
  | .inl i => .int i
  | .inr x => .str x
inductive HO where
  /-- a list -/
  | lst (xs : List V)
  /-- a tuple (never changes) -/
  | tup (xs : List V)
  /-- a dict whose keys are ints and texts; one whose keys are tuples of ints and texts (the empty one is both) -/
  | dK (kvs : List (Key × V)) | dT (kvs : List (List Key × V))
  /-- a set of ints: its members, its size -/
  | set (S : Int → Bool) (n : Nat)
  /-- an instance of the class at C, its dict at dx, its attributes -/
  | ins (C dx : Addr) (fs : List (Str × V))
  /-- the dict of the instance at x -/
  | own (x : Addr)
  /-- the dict of an exception -/
  | xd (fs : List (Str × V))
  /-- a bound method, f of x -/
  | met (f x : Addr)
  /-- a range object lo, lo + 1, .. below hi -/
  | rng (lo hi : Int)
  /-- a thing that is known to the object (the script; a dict while a loop walks it): read, never written while it is so -/
  | frz (o : Obj) (u : HO)
  /-- a code object's table -/
  | tbl (ps : Array Value)
  /-- any other thing, by what is true of its one object (a def of one's own: SetO a S n := HO.ext fun h => ..) -/
  | ext (φ : Heap → Prop)
abbrev Hp := Addr → Option HO
def upd (H : Hp) (a : Addr) (o : HO) : Hp := fun b => if b = a then some o else H b
theorem upd_same {H : Hp} {a : Addr} {o : HO} : upd H a o a = some o := by unfold upd; rw [if_pos rfl]
theorem upd_ne {H : Hp} {a b : Addr} {o : HO} (h : b ≠ a) : upd H a o b = H b := by unfold upd; rw [if_neg h]
theorem upd_upd {H : Hp} {a : Addr} {o u : HO} : upd (upd H a o) a u = upd H a u := by
  funext b; unfold upd; split <;> rfl
theorem ne_of {H : Hp} {a b : Addr} {o u : HO} (h : H a = some o) (h' : H b = some u) (d : o ≠ u) : a ≠ b := by
  intro e; subst e; rw [h] at h'; exact d (Option.some.inj h')
theorem ne_of_none {H : Hp} {a b : Addr} {o : HO} (h : H a = some o) (h' : H b = none) : a ≠ b := by
  intro e; subst e; rw [h] at h'; cases h'
section
variable (P : Program) (w : World)
def ObjOk (H : Hp) (h : Heap) (a : Addr) : HO → Prop
  | .lst xs => xs.length ≤ sizeLine ∧ ∃ (its : List Value) (n : Nat), Vals xs its ∧ h.get? a = some { cls := .type "list", data := .seq its.toArray n }
  | .tup xs => xs.length ≤ sizeLine ∧ ∃ its : List Value, Vals xs its ∧ IsTup h a its.toArray
  | .dK kvs => kvs.length ≤ sizeLine ∧ (a == sysModules) = false ∧ ∃ vs, KV kvs vs ∧ h.DictOf (mixKind P w) a vs
  | .dT kvs => kvs.length ≤ sizeLine ∧ (a == sysModules) = false ∧ ∃ xs : List (List Key × Addr × Value),
      Paired (fun (p : List Key × V) (q : List Key × Addr × Value) => p.1 = q.1 ∧ H q.2.1 = some (.tup (p.1.map kV)) ∧ RelV p.2 q.2.2) kvs xs ∧
      ∃ o es ep, h.get? a = some o ∧ o.ExactDict ∧ o.data = .dict es ep ∧ es.toList = xs.map (entryOfKey (tupleKind (mixKind P w))) ∧ (xs.map (·.1)).Nodup
  | .set S n => h.SetOf (intKind P w) a S n
  | .ins C dx fs => H dx = some (.own a) ∧ fs.length ≤ 1000 ∧ dx ≠ a ∧ h.get? a = some (PySem.W.instObj C dx) ∧
      ∃ mA, h.Ns1 dx mA ∧ (∀ f, RelO (fs.lookup f) (mA f)) ∧ PySem.Within mA (fs.map (·.1))
  | .own _ => ∃ o, h.get? a = some o
  | .xd fs => ∃ mA, h.Ns1 a mA ∧ ∀ f, RelO (fs.lookup f) (mA f)
  | .rng lo hi => ∃ t u v, h.get? a = some { cls := .type "range", data := .fields #[.int lo t, .int hi u, .int 1 v] }
  | .frz o u => h.get? a = some o ∧ ObjOk H h a u
  | .tbl ps => h.get? a = some { cls := .none, data := .fields ps }
  | .met f x => h.get? a = some (PySem.W.methodObj (.ref f) (.ref x))
  | .ext φ => φ h ∧ (∃ o, h.get? a = some o) ∧ ∀ h1 h2 : Heap, φ h1 → (∀ o, h1.get? a = some o → h2.get? a = some o) → φ h2
def HOk (H : Hp) (h : Heap) : Prop := ∀ a o, H a = some o → ObjOk P w H h a o
end
section
variable {P : Program} {w : World} {H H' : Hp} {h h' : Heap} {a : Addr} {o : HO}
theorem ObjOk.lt (x : ObjOk P w H h a o) : a < h.objs.size := by
  cases o with
  | lst xs => obtain ⟨_, _, _, _, e⟩ := x; exact Heap.lt_size e
  | tup xs => obtain ⟨_, _, _, p⟩ := x; exact p.lt
  | dK kvs => obtain ⟨_, _, _, _, o, _, _, e, _⟩ := x; exact Heap.lt_size e
  | dT kvs => obtain ⟨_, _, _, _, o, _, _, e, _⟩ := x; exact Heap.lt_size e
  | set S n => obtain ⟨o, _, _, _, e, _⟩ := x; exact Heap.lt_size e
  | ins C dx fs => obtain ⟨_, _, _, e, _⟩ := x; exact Heap.lt_size e
  | own y => obtain ⟨_, e⟩ := x; exact Heap.lt_size e
  | xd fs => obtain ⟨_, ⟨_, _, _, e, _⟩, _⟩ := x; exact Heap.lt_size e
  | rng lo hi => obtain ⟨_, _, _, e⟩ := x; exact Heap.lt_size e
  | frz ob u => obtain ⟨e, _⟩ := x; exact Heap.lt_size e
  | tbl ps => exact Heap.lt_size (show h.get? a = some _ from x)
  | met f y => exact Heap.lt_size (show h.get? a = some _ from x)
  | ext φ => obtain ⟨_, ⟨_, e⟩, _⟩ := x; exact Heap.lt_size e
theorem Paired.mapP {α β : Type} {F G : α → β → Prop} : ∀ {l₁ : List α} {l₂ : List β}, Paired F l₁ l₂ → (∀ a b, F a b → G a b) → Paired G l₁ l₂
  | _, _, .nil, _ => .nil
  | _, _, .cons r t, f => .cons (f _ _ r) (Paired.mapP t f)
theorem ObjOk.stay (x : ObjOk P w H h a o) (k : ∀ b u, (b = a ∨ H b = some (.own a)) → h.get? b = some u → h'.get? b = some u)
    (ho : ∀ b, H b = some (.own a) → H' b = some (.own a)) (ht : ∀ b xs, H b = some (.tup xs) → H' b = some (.tup xs)) : ObjOk P w H' h' a o := by
  induction o with
  | lst xs => obtain ⟨z, its, n, r, e⟩ := x; exact ⟨z, its, n, r, k _ _ (.inl rfl) e⟩
  | tup xs => obtain ⟨z, its, r, ob, e, c⟩ := x; exact ⟨z, its, r, ob, k _ _ (.inl rfl) e, c⟩
  | dK kvs => obtain ⟨z, y, vs, r, ob, es, ep, e, c⟩ := x; exact ⟨z, y, vs, r, ob, es, ep, k _ _ (.inl rfl) e, c⟩
  | dT kvs =>
    obtain ⟨z, y, xs, r, ob, es, ep, e, c⟩ := x
    exact ⟨z, y, xs, Paired.mapP r fun p q z => ⟨z.1, ht _ _ z.2.1, z.2.2⟩, ob, es, ep, k _ _ (.inl rfl) e, c⟩
  | set S n => obtain ⟨ob, es, ep, t, e, c⟩ := x; exact ⟨ob, es, ep, t, k _ _ (.inl rfl) e, c⟩
  | ins C dx fs =>
    obtain ⟨d, z, ne, e, mA, ⟨od, es, ep, e2, c⟩, r⟩ := x
    exact ⟨ho _ d, z, ne, k _ _ (.inl rfl) e, mA, ⟨od, es, ep, k _ _ (.inr d) e2, c⟩, r⟩
  | own y => obtain ⟨ob, e⟩ := x; exact ⟨ob, k _ _ (.inl rfl) e⟩
  | xd fs => obtain ⟨mA, ⟨od, es, ep, e, c⟩, r⟩ := x; exact ⟨mA, ⟨od, es, ep, k _ _ (.inl rfl) e, c⟩, r⟩
  | rng lo hi => obtain ⟨t, u, v, e⟩ := x; exact ⟨t, u, v, k _ _ (.inl rfl) e⟩
  | frz ob u ih => obtain ⟨e, q⟩ := x; exact ⟨k _ _ (.inl rfl) e, ih q⟩
  | tbl ps =>
    have e : h.get? a = some { cls := .none, data := .fields ps } := x
    show h'.get? a = some { cls := .none, data := .fields ps }
    exact k a _ (.inl rfl) e
  | met f y =>
    have e : h.get? a = some (PySem.W.methodObj (.ref f) (.ref y)) := x
    show h'.get? a = some (PySem.W.methodObj (.ref f) (.ref y))
    exact k a _ (.inl rfl) e
  | ext φ => obtain ⟨p, ⟨o, e⟩, st⟩ := x; exact ⟨st _ _ p fun o q => k _ _ (.inl rfl) q, ⟨o, k _ _ (.inl rfl) e⟩, st⟩
theorem HOk.lt (x : HOk P w H h) (e : H a = some o) : a < h.objs.size := (x a o e).lt
theorem HOk.fresh (x : HOk P w H h) (e : h.objs.size ≤ a) : H a = none := by
  cases q : H a with
  | none => rfl
  | some u => exact absurd (Nat.lt_of_lt_of_le (x.lt q) e) (Nat.lt_irrefl _)
theorem HOk.kept (x : HOk P w H h) (k : ∀ b u, h.get? b = some u → h'.get? b = some u) : HOk P w H h' := fun a o e =>
  (x a o e).stay (fun b u _ q => k b u q) (fun _ q => q) fun _ _ q => q
theorem HOk.laid (x : HOk P w H h) (k : ∀ b u, h.get? b = some u → h'.get? b = some u) (hp : h.objs.size ≤ a) (new : ObjOk P w (upd H a o) h' a o) : HOk P w (upd H a o) h' := fun b u e => by
  have hn := x.fresh hp
  by_cases hb : b = a
  · subst hb; rw [upd_same] at e; cases e; exact new
  · rw [upd_ne hb] at e
    exact (x b u e).stay (fun c v _ q => k c v q) (fun c q => by rw [upd_ne (ne_of_none q hn)]; exact q) fun c xs q => by rw [upd_ne (ne_of_none q hn)]; exact q
end
def Rd (H : Hp) (a : Addr) (u : HO) : Prop := H a = some u ∨ ∃ o, H a = some (.frz o u)
theorem Rd.of {H : Hp} {a : Addr} {u : HO} (h : H a = some u) : Rd H a u := .inl h
theorem Rd.ok {P : Program} {w : World} {H : Hp} {h : Heap} {a : Addr} {u : HO} (r : Rd H a u) (x : HOk P w H h) : ObjOk P w H h a u := by
  rcases r with r | ⟨o, r⟩
  · exact x a u r
  · obtain ⟨_, q⟩ := x a _ r
    exact q
def Mut : Option HO → Prop
  | some (.lst _) => True
  | some (.dK _) => True
  | some (.dT _) => True
  | some (.set _ _) => True
  | some (.ins _ _ _) => True
  | some (.ext _) => True
  | _ => False
section
variable {P : Program} {w : World} {H : Hp} {h h' : Heap} {x e : Addr} {o' : HO}
theorem HOk.write (ok : HOk P w H h) (mu : Mut (H x)) (he : e = x ∨ H e = some (.own x)) (k : ∀ b u, b ≠ e → h.get? b = some u → h'.get? b = some u) (heo : ∃ u, h'.get? e = some u)
    (new : ObjOk P w (upd H x o') h' x o') : HOk P w (upd H x o') h' := fun b u q => by
  have nown : ∀ c y, H c = some (.own y) → c ≠ x := fun c y r z => by subst z; rw [r] at mu; exact mu
  have ntup : ∀ c xs, H c = some (.tup xs) → c ≠ x := fun c xs r z => by subst z; rw [r] at mu; exact mu
  by_cases hb : b = x
  · subst hb; rw [upd_same] at q; cases q; exact new
  · rw [upd_ne hb] at q
    by_cases hbe : b = e
    · have q' : H b = some (.own x) := by
        rcases he with z | z
        · exact absurd (hbe.trans z) hb
        · rw [hbe]; exact z
      rw [q] at q'; cases q'
      obtain ⟨v, hv⟩ := heo
      exact ⟨v, by rw [hbe]; exact hv⟩
    · refine (ok b u q).stay (fun c v hc r => k c v ?_ r) (fun c r => by rw [upd_ne (nown c b r)]; exact r) fun c xs r => by rw [upd_ne (ntup c xs r)]; exact r
      rcases hc with rfl | hc
      · exact hbe
      · rintro rfl
        rcases he with z | z
        · exact nown c b hc z
        · rw [hc] at z; cases z; exact hb rfl
end
structure Un (fs ex : List Addr) (H H' : Hp) (h h' : Heap) : Prop where
  keep : ∀ b o, h.get? b = some o → H b = none → b ∉ fs → b ∉ ex → h'.get? b = some o
  slot : ∀ b o, h.get? b = some o → H b = none → b ∈ fs → b ∉ ex → ∃ sl, h'.get? b = some { o with slots := sl }
  free : ∀ b o, h.get? b = some o → H b = none → b ∉ ex → H' b = none
  there : ∀ b o, h.get? b = some o → b ∉ ex → ∃ o', h'.get? b = some o'
  tups : ∀ b xs, H b = some (.tup xs) → H' b = some (.tup xs)
  frzs : ∀ b o u, H b = some (.frz o u) → H' b = some (.frz o u)
  tbls : ∀ b ps, H b = some (.tbl ps) → ∃ more, H' b = some (.tbl (ps ++ more))
section
variable {fs fs' ex ex' : List Addr} {H H1 H2 : Hp} {h h1 h2 h' : Heap} {a x e : Addr} {o : HO}
theorem Un.any (u : Un fs ex H H1 h h1) {b : Addr} {ob : Obj} (q : h.get? b = some ob) (n : H b = none) (hx : b ∉ ex) : ∃ sl, h1.get? b = some { ob with slots := sl } := by
  by_cases hb : b ∈ fs
  · exact u.slot b ob q n hb hx
  · exact ⟨ob.slots, u.keep b ob q n hb hx⟩
theorem Un.trans (a : Un fs ex H H1 h h1) (b : Un fs ex H1 H2 h1 h2) : Un fs ex H H2 h h2 where
  keep := fun c ob q n hc hx => b.keep c ob (a.keep c ob q n hc hx) (a.free c ob q n hx) hc hx
  slot := fun c ob q n hc hx => by
    obtain ⟨sl, e1⟩ := a.slot c ob q n hc hx
    obtain ⟨sl', e2⟩ := b.slot c _ e1 (a.free c ob q n hx) hc hx
    exact ⟨sl', e2⟩
  free := fun c ob q n hx => by
    obtain ⟨o', e1⟩ := a.there c ob q hx
    exact b.free c o' e1 (a.free c ob q n hx) hx
  there := fun c ob q hx => by
    obtain ⟨o', e1⟩ := a.there c ob q hx
    exact b.there c o' e1 hx
  tups := fun c xs q => b.tups c xs (a.tups c xs q)
  frzs := fun c ob xs q => b.frzs c ob xs (a.frzs c ob xs q)
  tbls := fun c ps q => by
    obtain ⟨m1, e1⟩ := a.tbls c ps q
    obtain ⟨m2, e2⟩ := b.tbls c _ e1
    exact ⟨m1 ++ m2, by rw [e2, Array.append_assoc]⟩
theorem Un.kept (k : ∀ b u, h.get? b = some u → h'.get? b = some u) : Un fs ex H H h h' :=
  ⟨fun b ob q _ _ _ => k b ob q, fun b ob q _ _ _ => ⟨ob.slots, k b ob q⟩, fun _ _ _ n _ => n, fun b ob q _ => ⟨ob, k b ob q⟩, fun _ _ q => q, fun _ _ _ q => q, fun _ ps q => ⟨#[], by rw [q]; simp⟩⟩
theorem Un.refl : Un fs ex H H h h := Un.kept fun _ _ q => q
theorem Un.laid (k : ∀ b u, h.get? b = some u → h'.get? b = some u) (hp : h.objs.size ≤ a) (hn : H a = none) : Un fs ex H (upd H a o) h h' where
  keep := fun b u q _ _ _ => k b u q
  slot := fun b u q _ _ _ => ⟨u.slots, k b u q⟩
  free := fun b u q n _ => by rw [upd_ne (Nat.ne_of_lt (Nat.lt_of_lt_of_le (Heap.lt_size q) hp))]; exact n
  there := fun b u q _ => ⟨u, k b u q⟩
  tups := fun b xs q => by rw [upd_ne (ne_of_none q hn)]; exact q
  frzs := fun b u xs q => by rw [upd_ne (ne_of_none q hn)]; exact q
  tbls := fun b ps q => ⟨#[], by rw [upd_ne (ne_of_none q hn), q]; simp⟩
theorem Un.write (mu : Mut (H x)) (he : e = x ∨ H e = some (.own x)) (k : ∀ b u, b ≠ e → h.get? b = some u → h'.get? b = some u) (heo : ∃ u, h'.get? e = some u) : Un fs ex H (upd H x o) h h' := by
  have hx : ∀ b, H b = none → b ≠ x := fun b n z => by subst z; rw [n] at mu; exact mu
  have hb : ∀ b, H b = none → b ≠ e := fun b n z => by
    subst z
    rcases he with r | r
    · exact hx b n r
    · rw [n] at r; cases r
  have hm : ∀ b u, H b = some u → ¬ Mut (some u) → b ≠ x := fun b u q nm z => by subst z; rw [q] at mu; exact nm mu
  refine ⟨fun b u q n _ _ => k b u (hb b n) q, fun b u q n _ _ => ⟨u.slots, k b u (hb b n) q⟩, fun b u q n _ => by rw [upd_ne (hx b n)]; exact n, fun b u q _ => ?_,
    fun b xs q => by rw [upd_ne (hm b _ q fun z => z)]; exact q, fun b u xs q => by rw [upd_ne (hm b _ q fun z => z)]; exact q, fun b ps q => ⟨#[], by rw [upd_ne (hm b _ q fun z => z), q]; simp⟩⟩
  by_cases hbe : b = e
  · subst hbe; exact heo
  · exact ⟨u, k b u hbe q⟩
theorem Un.mono (u : Un fs ex H H1 h h1) (hs : ∀ b ∈ fs, b ∈ fs') (hx : ∀ b ∈ ex, b ∈ ex') : Un fs' ex' H H1 h h1 :=
  ⟨fun b ob q n hb he => u.keep b ob q n (fun z => hb (hs b z)) fun z => he (hx b z), fun _ _ q n _ he => u.any q n fun z => he (hx _ z), fun b ob q n he => u.free b ob q n fun z => he (hx b z), fun b ob q he => u.there b ob q fun z => he (hx b z), u.tups, u.frzs, u.tbls⟩
end
def trk (h : Heap) (H : Hp) : List Addr := (List.range h.objs.size).filter fun a => (H a).isSome
def hidT (h : Heap) (H : Hp) : Heap := PySem.W.hideAll h (trk h H)
theorem hidT_size (h : Heap) (H : Hp) : (hidT h H).objs.size = h.objs.size := PySem.W.hideAll_size _ _
theorem hidT_get {h : Heap} {H : Hp} {b : Addr} {o : Obj} (e : h.get? b = some o) (n : H b = none) : (hidT h H).get? b = some o :=
  PySem.W.hideAll_get _ e fun hm => by
    have q : (H b).isSome = true := (List.mem_filter.mp hm).2
    rw [n] at q; simp at q
theorem of_hidT {h : Heap} {H : Hp} {b : Addr} {o : Obj} (e : (hidT h H).get? b = some o) : h.get? b = some o ∧ H b = none := by
  have e' : h.get? b = some o := PySem.W.of_hideAll (trk h H) e
  refine ⟨e', ?_⟩
  cases q : H b with
  | none => rfl
  | some x =>
    have hm : b ∈ trk h H := List.mem_filter.mpr ⟨List.mem_range.mpr (Heap.lt_size e'), by simp [q]⟩
    have z : (hidT h H).get? b = none := PySem.W.hideAll_none (trk h H) hm
    rw [z] at e; cases e
def allNews (g h : Heap) (L : Addr) : List (Addr × Obj) := (List.range h.objs.size).filterMap fun a => if a = L ∨ (g.get? a).isSome = true then none else (h.get? a).map fun o => (a, o)
def rest (g h : Heap) (L d : Addr) : List (Addr × Obj) := (allNews g h L).filter fun p => decide (p.1 ≠ d)
end L2
namespace L2
open PySem PySem.Spec PyProof.Rows
structure Mod (K : PySem.W.Frag) (mg : Str → Option Value) (base : Heap) : Prop where
  kin : K.In base
  glob : base.Ns mainGlobals mg
  blt : ∃ mb, base.Ns builtinsNs mb ∧ ∀ x : Str, x ≠ "__name__" → mb x = bootBuiltins x
  nolimit : base.NoLimit
structure Cx where
  prog : Program
  w : World
  K : PySem.W.Frag
  mg : Str → Option Value
  base : Heap
  A : Around
  N : List Str
  s₀ : Shared
  H₀ : Hp
  env : Env
  outer : List Env
  stack : List Env
  ex : List Addr
  fn : Str → Bool
  calm : Bool
  pn : List (Addr × Obj)
  xe : Value → Shared → Prop
def frs (l : List Env) : List Addr := l.filterMap (·.frame)
abbrev Cx.fs (X : Cx) : List Addr := frs X.outer
def Vis (sc : Scope) (x : Str) : Prop := sc.names.lookup x = some .local ∨ sc.names.lookup x = some .cell ∨ sc.names.lookup x = some .free
def Loc (sc : Scope) (x : Str) : Prop := sc.names.lookup x = some .local ∨ sc.names.lookup x = some .cell
def Look (env : Env) (h : Heap) (m : Str → Option Value) (x : Str) (u : Value) : Prop :=
  (env.kindOf x = some .local ∧ m x = some u) ∨ ((env.kindOf x = some .cell ∨ env.kindOf x = some .free) ∧ ∃ c, env.cells.lookup x = some c ∧ h.IsCell c (some u))
structure Cx.Ok (X : Cx) : Prop where
  mod : Mod X.K X.mg X.base
  kind : X.env.scope.kind = .function
  glob : X.env.globals = mainGlobals
  blt : X.env.builtins = builtinsNs
  above : X.s₀.heap.objs.size ≤ X.env.locals
  inj : ∀ x y c, X.env.cells.lookup x = some c → X.env.cells.lookup y = some c → x = y
  has : ∀ x, (X.env.kindOf x = some .cell ∨ X.env.kindOf x = some .free) → ∃ c, X.env.cells.lookup x = some c
  cab : ∀ x c, X.fn x = true → X.env.cells.lookup x = some c → X.s₀.heap.objs.size ≤ c
  hd : X.calm = true → X.A.handled = none
  frames : X.A.frames = some X.stack
  stk : X.stack = X.outer ∨ (X.stack = X.env :: X.outer ∧ X.env.frame = some X.env.locals)
  exf : ∀ b ∈ X.ex, b ≠ X.env.locals ∧ ∀ x c, X.env.cells.lookup x = some c → c ≠ b
  bs : ∀ b o, X.base.get? b = some o → X.s₀.heap.get? b = some o ∧ X.H₀ b = none
  bsz : X.base.objs.size ≤ X.s₀.heap.objs.size
  noex : ∀ b o, X.base.get? b = some o → b ∉ X.ex
  exfs : ∀ b ∈ X.ex, b ∉ X.fs
  funs : X.s₀.heap.FunFrames X.base X.outer
  frf : ∀ b ∈ X.fs, X.H₀ b = none
structure Inv (X : Cx) (pins : List (Addr × Obj)) (σ : List (Option V)) (H : Hp) (s : Shared) : Prop where
  ok : X.Ok
  os : s.os = X.s₀.os
  bare : AllBare s.gens
  base : Un X.fs X.ex X.H₀ H X.s₀.heap s.heap
  loc : ∃ m, s.heap.Ns X.env.locals m ∧ ∀ (i : Nat) (x : Str) (v : V), X.N[i]? = some x → σ[i]? = some (some v) → Vis X.env.scope x → ∃ u, RelV v u ∧ Look X.env s.heap m x u
  cell : ∀ x c, X.env.cells.lookup x = some c → ∃ v, s.heap.IsCell c v
  free : H X.env.locals = none
  freeC : ∀ x c, X.env.cells.lookup x = some c → H c = none
  pin : ∀ p ∈ X.pn ++ pins, s.heap.get? p.1 = some p.2 ∧ H p.1 = none ∧ p.1 ≠ X.env.locals ∧ p.1 ∉ X.fs ∧ ∀ v, p.2.data ≠ .cell v
  hok : HOk X.prog X.w H s.heap
  len : σ.length = X.N.length
section
variable {X : Cx} {pins : List (Addr × Obj)} {σ : List (Option V)} {H H' : Hp} {s : Shared} {h' : Heap}
theorem Cx.Ok.nofr (ok : X.Ok) {b : Addr} {o : Obj} (e : X.base.get? b = some o) : b ∉ X.fs := fun hb => by
  have := (ok.funs.mem hb).1
  rw [e] at this; cases this
theorem Inv.bs (I : Inv X pins σ H s) : ∀ b o, X.base.get? b = some o → s.heap.get? b = some o ∧ H b = none := fun b o e =>
  ⟨I.base.keep b o (I.ok.bs b o e).1 (I.ok.bs b o e).2 (I.ok.nofr e) (I.ok.noex b o e), I.base.free b o (I.ok.bs b o e).1 (I.ok.bs b o e).2 (I.ok.noex b o e)⟩
theorem Inv.bk (I : Inv X pins σ H s) : ∀ b o, X.base.get? b = some o → s.heap.get? b = some o := fun b o e => (I.bs b o e).1
theorem Inv.mod (I : Inv X pins σ H s) : Mod X.K X.mg X.base := I.ok.mod
theorem Inv.kIn (I : Inv X pins σ H s) : X.K.In s.heap := I.ok.mod.kin.keeps I.bk
theorem Inv.nolimit (I : Inv X pins σ H s) : s.heap.NoLimit := I.ok.mod.nolimit.keeps I.bk
theorem Inv.fr (I : Inv X pins σ H s) : ∃ m, Fr X.base X.env.locals s.heap m :=
  let ⟨m, hn, _⟩ := I.loc
  ⟨m, hn, I.bk, Nat.le_trans I.ok.bsz I.ok.above⟩
theorem Inv.lt (I : Inv X pins σ H s) : X.env.locals < s.heap.objs.size := let ⟨_, hn, _⟩ := I.loc; hn.lt
theorem Inv.sz (I : Inv X pins σ H s) : X.s₀.heap.objs.size ≤ s.heap.objs.size := Nat.le_trans I.ok.above (Nat.le_of_lt I.lt)
theorem Inv.nofs (I : Inv X pins σ H s) {a : Addr} (h : s.heap.objs.size ≤ a) : a ∉ X.fs := fun hb => by
  obtain ⟨_, o, ho, _⟩ := I.ok.funs.mem hb
  exact absurd (Nat.lt_of_lt_of_le (Heap.lt_size ho) (Nat.le_trans I.sz h)) (Nat.lt_irrefl _)
theorem Inv.cne (I : Inv X pins σ H s) : ∀ x c, X.env.cells.lookup x = some c → c ≠ X.env.locals := fun x c e z => by
  obtain ⟨v, o, ho, hd⟩ := I.cell x c e
  obtain ⟨m, ⟨o', es, ep, ho', hd', _⟩, _⟩ := I.loc
  rw [z, ho'] at ho; cases ho; rw [hd'] at hd; cases hd
theorem Inv.funs (I : Inv X pins σ H s) : s.heap.FunFrames X.base X.outer := by
  have all : ∀ (l : List Env), (∀ b ∈ frs l, b ∈ X.fs) → X.s₀.heap.FunFrames X.base l → s.heap.FunFrames X.base l := by
    intro l
    induction l with
    | nil => intro _ _; trivial
    | cons env r ih =>
      intro hs hl
      obtain ⟨hk, ⟨L, o, hf, hn, ho, hd⟩, hr⟩ := hl
      have hL : L ∈ X.fs := hs L (by unfold frs; rw [List.filterMap_cons, hf]; exact List.mem_cons_self)
      obtain ⟨sl, e⟩ := I.base.slot L o ho (I.ok.frf L hL) hL fun z => I.ok.exfs L z hL
      exact ⟨hk, ⟨L, _, hf, hn, e, hd⟩, ih (fun b hb => hs b (by unfold frs; rw [List.filterMap_cons, hf]; exact List.mem_cons_of_mem _ hb)) hr⟩
  exact all X.outer (fun _ hb => hb) I.ok.funs
theorem Inv.stack (I : Inv X pins σ H s) : s.heap.FunFrames X.base X.stack := by
  rcases I.ok.stk with e | ⟨e, hf⟩
  · rw [e]; exact I.funs
  · rw [e]
    obtain ⟨m, hn, _⟩ := I.loc
    refine .cons (by rw [I.ok.kind]; decide) hf hn ?_ I.funs
    exact Heap.get?_none_of_le (Nat.le_trans I.ok.bsz I.ok.above)
theorem Inv.stkSub (I : Inv X pins σ H s) : ∀ b ∈ frs X.stack, b ∈ X.env.locals :: X.fs := fun b hb => by
  rcases I.ok.stk with e | ⟨e, hf⟩
  · rw [e] at hb; exact List.mem_cons_of_mem _ hb
  · rw [e] at hb
    unfold frs at hb
    rw [List.filterMap_cons, hf] at hb
    exact hb
theorem Inv.stkFree (I : Inv X pins σ H s) : ∀ b ∈ frs X.stack, H b = none := fun b hb => by
  rcases List.mem_cons.mp (I.stkSub b hb) with e | hb
  · rw [e]; exact I.free
  · obtain ⟨_, o, ho, _⟩ := I.ok.funs.mem hb
    exact I.base.free b o ho (I.ok.frf b hb) fun z => I.ok.exfs b z hb
theorem Inv.step {g' : Array GenState} {t' : Nat} {d' : Drawn} {ch : List Addr} (I : Inv X pins σ H s)
    (hch : ∀ b ∈ ch, (b ∈ X.ex ∨ X.s₀.heap.objs.size ≤ b) ∧ b ≠ X.env.locals ∧ (∀ x c, X.env.cells.lookup x = some c → c ≠ b) ∧ ∀ p ∈ X.pn ++ pins, p.1 ≠ b)
    (keep : ∀ b o, b ≠ X.env.locals → b ∉ X.fs → b ∉ ch → s.heap.get? b = some o → H b = none → h'.get? b = some o)
    (slot : ∀ b o, b ≠ X.env.locals → b ∈ X.fs → b ∉ ch → s.heap.get? b = some o → H b = none → ∃ sl, h'.get? b = some { o with slots := sl }) (free : ∀ b o, b ∉ ch → s.heap.get? b = some o → H b = none → H' b = none)
    (there : ∀ b o, b ∉ ch → s.heap.get? b = some o → ∃ o', h'.get? b = some o')
    (tups : ∀ b xs, H b = some (.tup xs) → H' b = some (.tup xs)) (frzs : ∀ b o u, H b = some (.frz o u) → H' b = some (.frz o u)) (tbls : ∀ b ps, H b = some (.tbl ps) → ∃ more, H' b = some (.tbl (ps ++ more)))
    (ns : ∀ m, s.heap.Ns X.env.locals m → h'.Ns X.env.locals m) (hok : HOk X.prog X.w H' h') (hg : AllBare g') :
    Inv X pins σ H' { s with heap := h', gens := g', drawn := d', toks := t' } := by
  have neL : ∀ b o, X.s₀.heap.get? b = some o → b ≠ X.env.locals := fun b o e => Nat.ne_of_lt (Nat.lt_of_lt_of_le (Heap.lt_size e) I.ok.above)
  have neC : ∀ b o, X.s₀.heap.get? b = some o → b ∉ X.ex → b ∉ ch := fun b o e hx hb => by
    rcases (hch b hb).1 with z | z
    · exact hx z
    · exact absurd (Nat.lt_of_lt_of_le (Heap.lt_size e) z) (Nat.lt_irrefl _)
  have cellK : ∀ x c, X.env.cells.lookup x = some c → ∀ v, s.heap.IsCell c v → h'.IsCell c v := fun x c e v ⟨o, ho, hd⟩ => by
    have nch : c ∉ ch := fun z => (hch c z).2.2.1 x c e rfl
    by_cases hc : c ∈ X.fs
    · obtain ⟨sl, q⟩ := slot c o (I.cne x c e) hc nch ho (I.freeC x c e)
      exact ⟨_, q, hd⟩
    · exact ⟨o, keep c o (I.cne x c e) hc nch ho (I.freeC x c e), hd⟩
  refine ⟨I.ok, I.os, hg, ⟨fun b o e n hb hx => ?_, fun b o e n hb hx => ?_, fun b o e n hx => ?_, fun b o e hx => ?_, fun b xs e => tups b xs (I.base.tups b xs e), fun b o xs e => frzs b o xs (I.base.frzs b o xs e), fun b ps e => ?_⟩, ?_, fun x c e => ?_, ?_, fun x c e => ?_, fun p hp => ?_, hok, I.len⟩
  · exact keep b o (neL b o e) hb (neC b o e hx) (I.base.keep b o e n hb hx) (I.base.free b o e n hx)
  · obtain ⟨sl, e1⟩ := I.base.slot b o e n hb hx
    obtain ⟨sl', e2⟩ := slot b _ (neL b o e) hb (neC b o e hx) e1 (I.base.free b o e n hx)
    exact ⟨sl', e2⟩
  · obtain ⟨o', e1⟩ := I.base.there b o e hx
    exact free b o' (neC b o e hx) e1 (I.base.free b o e n hx)
  · obtain ⟨o', e1⟩ := I.base.there b o e hx
    exact there b o' (neC b o e hx) e1
  · obtain ⟨m1, e1⟩ := I.base.tbls b ps e
    obtain ⟨m2, e2⟩ := tbls b _ e1
    exact ⟨m1 ++ m2, by rw [e2, Array.append_assoc]⟩
  · obtain ⟨m, hn, hl⟩ := I.loc
    refine ⟨m, ns m hn, fun i x v e1 e2 e3 => ?_⟩
    obtain ⟨u, r, l⟩ := hl i x v e1 e2 e3
    refine ⟨u, r, ?_⟩
    rcases l with l | ⟨k, c, e, z⟩
    · exact .inl l
    · exact .inr ⟨k, c, e, cellK x c e _ z⟩
  · obtain ⟨v, z⟩ := I.cell x c e
    exact ⟨v, cellK x c e v z⟩
  · obtain ⟨m, ⟨o, _, _, ho, _⟩, _⟩ := I.loc
    exact free _ o (fun z => (hch _ z).2.1 rfl) ho I.free
  · obtain ⟨v, o, ho, hd⟩ := I.cell x c e
    exact free c o (fun z => (hch c z).2.2.1 x c e rfl) ho (I.freeC x c e)
  · obtain ⟨e, n, ne, nf, d⟩ := I.pin p hp
    have nch : p.1 ∉ ch := fun z => (hch p.1 z).2.2.2 p hp rfl
    exact ⟨keep p.1 p.2 ne nf nch e n, free p.1 p.2 nch e n, ne, nf, d⟩
theorem Inv.un {t' : Nat} (I : Inv X pins σ H s) (u : Un X.fs [] H H' s.heap h') (hok : HOk X.prog X.w H' h') : Inv X pins σ H' { s with heap := h', toks := t' } := by
  obtain ⟨m, ⟨o, es, ep, ho, r⟩, _⟩ := id I.loc
  obtain ⟨sl, hL⟩ := u.any ho I.free (by simp)
  exact I.step (g' := s.gens) (d' := s.drawn) (ch := []) (fun _ z => nomatch z) (fun b o _ hb _ e n => u.keep b o e n hb (by simp)) (fun b o _ hb _ e n => u.slot b o e n hb (by simp)) (fun b o _ e n => u.free b o e n (by simp)) (fun b o _ e => u.there b o e (by simp)) u.tups u.frzs u.tbls (fun m' hm => by
    obtain ⟨o', es', ep', ho', r'⟩ := hm
    rw [ho] at ho'; cases ho'
    exact ⟨_, es', ep', hL, r'⟩) hok I.bare
theorem Inv.call {g' : Array GenState} {t' : Nat} {d' : Drawn} {ch : List Addr} (I : Inv X pins σ H s) (u : Un (frs X.stack) ch H H' s.heap h') (hok : HOk X.prog X.w H' h') (hg : AllBare g')
    (hch : ∀ b ∈ ch, (b ∈ X.ex ∨ X.s₀.heap.objs.size ≤ b) ∧ b ≠ X.env.locals ∧ (∀ x c, X.env.cells.lookup x = some c → c ≠ b) ∧ ∀ p ∈ X.pn ++ pins, p.1 ≠ b) :
    Inv X pins σ H' { s with heap := h', gens := g', drawn := d', toks := t' } := by
  obtain ⟨m, ⟨o, es, ep, ho, r⟩, _⟩ := id I.loc
  obtain ⟨sl, hL⟩ := u.any ho I.free fun z => (hch _ z).2.1 rfl
  exact I.step (ch := ch) hch (fun b o hL hb hc e n => u.keep b o e n (fun z => (List.mem_cons.mp (I.stkSub b z)).elim hL hb) hc) (fun b o _ _ hc e n => u.any e n hc) (fun b o hc e n => u.free b o e n hc) (fun b o hc e => u.there b o e hc) u.tups u.frzs u.tbls (fun m' hm => by
    obtain ⟨o', es', ep', ho', r'⟩ := hm
    rw [ho] at ho'; cases ho'
    exact ⟨_, es', ep', hL, r'⟩) hok hg
theorem Inv.turned {t' : Nat} {it : Addr} (I : Inv X pins σ H s) (k : ∀ b o, b ≠ it → s.heap.get? b = some o → h'.get? b = some o) (hn : H it = none) (hL : it ≠ X.env.locals)
    (h1 : it ∈ X.ex ∨ X.s₀.heap.objs.size ≤ it) (h2 : ∀ x c, X.env.cells.lookup x = some c → c ≠ it) (h3 : ∀ p ∈ X.pn ++ pins, p.1 ≠ it) : Inv X pins σ H { s with heap := h', toks := t' } := by
  have nit : ∀ b u, H b = some u → b ≠ it := fun b u e z => by rw [z, hn] at e; cases e
  refine I.step (g' := s.gens) (d' := s.drawn) (ch := [it]) (fun b hb => ?_) (fun b o _ _ hc e _ => k b o (fun z => hc (by simp [z])) e) (fun b o _ _ hc e _ => ⟨o.slots, k b o (fun z => hc (by simp [z])) e⟩) (fun _ _ _ _ n => n)
    (fun b o hc e => ⟨o, k b o (fun z => hc (by simp [z])) e⟩) (fun _ _ e => e) (fun _ _ _ e => e) (fun b ps e => ⟨#[], by rw [e]; simp⟩) (fun m hm => ?_) (fun b u e => ?_) I.bare
  · have e : b = it := by simpa using hb
    subst e
    exact ⟨h1, hL, h2, h3⟩
  · obtain ⟨o, es, ep, ho, r⟩ := hm
    exact ⟨o, es, ep, k _ o (Ne.symm hL) ho, r⟩
  · refine (I.hok b u e).stay (fun c v hc q => k c v ?_ q) (fun _ q => q) fun _ _ q => q
    rcases hc with z | z
    · rw [z]; exact nit b u e
    · exact nit c _ z
theorem Inv.tok (I : Inv X pins σ H s) (t : Nat) : Inv X pins σ H { s with toks := t } := I.un (h' := s.heap) (t' := t) Un.refl I.hok
theorem Inv.kept {t' : Nat} (I : Inv X pins σ H s) (k : ∀ b u, s.heap.get? b = some u → h'.get? b = some u) : Inv X pins σ H { s with heap := h', toks := t' } := I.un (Un.kept k) (I.hok.kept k)
theorem Inv.laid {a : Addr} {o : HO} {t' : Nat} (I : Inv X pins σ H s) (k : ∀ b u, s.heap.get? b = some u → h'.get? b = some u) (hp : s.heap.objs.size ≤ a) (new : ObjOk X.prog X.w (upd H a o) h' a o) :
    Inv X pins σ (upd H a o) { s with heap := h', toks := t' } := I.un (Un.laid k hp (I.hok.fresh hp)) (I.hok.laid k hp new)
theorem Inv.write {x e : Addr} {o : HO} {t' : Nat} (I : Inv X pins σ H s) (mu : Mut (H x)) (he : e = x ∨ H e = some (.own x)) (k : ∀ b u, b ≠ e → s.heap.get? b = some u → h'.get? b = some u) (heo : ∃ u, h'.get? e = some u)
    (new : ObjOk X.prog X.w (upd H x o) h' x o) : Inv X pins σ (upd H x o) { s with heap := h', toks := t' } := I.un (Un.write mu he k heo) (I.hok.write mu he k heo new)
theorem Inv.pins_of {pins' : List (Addr × Obj)} (I : Inv X pins σ H s) (h : ∀ p ∈ pins', s.heap.get? p.1 = some p.2 ∧ H p.1 = none ∧ p.1 ≠ X.env.locals ∧ p.1 ∉ X.fs ∧ ∀ v, p.2.data ≠ .cell v) : Inv X pins' σ H s :=
  ⟨I.ok, I.os, I.bare, I.base, I.loc, I.cell, I.free, I.freeC, fun p hp => (List.mem_append.mp hp).elim (fun z => I.pin p (List.mem_append_left _ z)) (h p), I.hok, I.len⟩
theorem nodup_ix {N : List Str} (hN : N.Nodup) {i j : Nat} {x : Str} (a : N[i]? = some x) (b : N[j]? = some x) : i = j := by
  obtain ⟨h1, e1⟩ := List.getElem?_eq_some_iff.mp a
  obtain ⟨h2, e2⟩ := List.getElem?_eq_some_iff.mp b
  exact (List.getElem_inj hN).mp (e1.trans e2.symm)
theorem store_ok2 {M : Model} {A : Around} {E : Value → Shared → Prop} {i : Nat} {x : Str} {v : V} {u : Value} {Q : Unit → Shared → Prop} (I : Inv X pins σ H s) (hN : X.N.Nodup) (hi : X.N[i]? = some x) (hx : Loc X.env.scope x) (r : RelV v u)
    (h : ∀ s', Inv X pins (σ.set i (some v)) H s' → (∃ a, Heap.SameBut a s.heap s'.heap ∧ (a = X.env.locals ∨ X.env.cells.lookup x = some a)) → Q () s') (hf : X.fn x = true ∨ X.env.scope.names.lookup x = some .local := by first | exact .inl rfl | exact .inr rfl | assumption) : wpAny M A (storeName X.env x u) Q E s := by
  obtain ⟨m, hn, hl⟩ := id I.loc
  have hcls : (X.env.scope.kind == .class || (X.env.scope.kind == .module && X.env.locals != X.env.globals)) = false := by rw [I.ok.kind]; rfl
  have hiσ : i < σ.length := by rw [I.len]; exact (List.getElem?_eq_some_iff.mp hi).1
  have cne := I.cne
  have tracked : ∀ {a : Addr} {h' : Heap}, (∃ o, s.heap.get? a = some o ∧ H a = none) → Heap.SameBut a s.heap h' → HOk X.prog X.w H h' := fun {a h'} ha hs b ob e => by
    obtain ⟨_, _, hfree⟩ := ha
    refine (I.hok b ob e).stay (fun c w' hc q => (hs.2 c ?_).trans q) (fun _ q => q) fun _ _ q => q
    rintro rfl
    rcases hc with rfl | hc
    · rw [hfree] at e; cases e
    · rw [hfree] at hc; cases hc
  rcases hx with hk | hk
  · refine wpAny_storeName_local hk hn (fun h' hn' hs => ?_) hcls
    obtain ⟨oL, _, _, hoL, _⟩ := id hn
    refine h _ ⟨I.ok, I.os, I.bare, ⟨fun b o e n hb hx => ?_, fun b o e n hb hx => ?_, I.base.free, fun b o e hx => ?_, I.base.tups, I.base.frzs, I.base.tbls⟩, ⟨_, hn', fun j y v' e1 e2 e3 => ?_⟩, fun y c e => ?_, I.free, I.freeC, fun p hp => ?_, tracked ⟨oL, hoL, I.free⟩ hs, by simpa using I.len⟩ ⟨_, hs, .inl rfl⟩
    · exact (hs.2 b (Nat.ne_of_lt (Nat.lt_of_lt_of_le (Heap.lt_size e) I.ok.above))).trans (I.base.keep b o e n hb hx)
    · obtain ⟨sl, e1⟩ := I.base.slot b o e n hb hx
      exact ⟨sl, (hs.2 b (Nat.ne_of_lt (Nat.lt_of_lt_of_le (Heap.lt_size e) I.ok.above))).trans e1⟩
    · obtain ⟨o', e1⟩ := I.base.there b o e hx
      exact ⟨o', (hs.2 b (Nat.ne_of_lt (Nat.lt_of_lt_of_le (Heap.lt_size e) I.ok.above))).trans e1⟩
    · by_cases hj : j = i
      · subst hj
        rw [hi] at e1; cases e1
        rw [List.getElem?_set_self hiσ] at e2
        cases e2
        exact ⟨u, r, .inl ⟨hk, by simp⟩⟩
      · rw [List.getElem?_set_ne (Ne.symm hj)] at e2
        obtain ⟨u', r', q⟩ := hl j y v' e1 e2 e3
        refine ⟨u', r', ?_⟩
        rcases q with ⟨k, e⟩ | ⟨k, c, e, z⟩
        · refine .inl ⟨k, ?_⟩
          have : y ≠ x := fun e => hj (nodup_ix hN e1 (e ▸ hi))
          simp [this, e]
        · exact .inr ⟨k, c, e, z.sameBut hs (cne y c e)⟩
    · obtain ⟨w', z⟩ := I.cell y c e
      exact ⟨w', z.sameBut hs (cne y c e)⟩
    · obtain ⟨e, n, ne, nf, d⟩ := I.pin p hp
      exact ⟨(hs.2 p.1 ne).trans e, n, ne, nf, d⟩
  · have hfn : X.fn x = true := by
      rcases hf with z | z
      · exact z
      · rw [z] at hk; cases hk
    obtain ⟨c, hc⟩ := I.ok.has x (.inl hk)
    obtain ⟨w', z⟩ := I.cell x c hc
    refine wpAny_storeName_cell I.ok.kind hk hc z (fun h' hc' hs => ?_)
    obtain ⟨oc, hoc, hocd⟩ := id z
    refine h { s with heap := h' } ⟨I.ok, I.os, I.bare, ⟨fun b o e n hb hx => ?_, fun b o e n hb hx => ?_, I.base.free, fun b o e hx => ?_, I.base.tups, I.base.frzs, I.base.tbls⟩, ⟨m, hn.sameBut hs (Ne.symm (cne x c hc)), fun j y v' e1 e2 e3 => ?_⟩, fun y c' e => ?_, I.free, I.freeC, fun p hp => ?_, tracked ⟨oc, hoc, I.freeC x c hc⟩ hs, by simpa using I.len⟩ ⟨c, hs, .inr hc⟩
    · exact (hs.2 b (Nat.ne_of_lt (Nat.lt_of_lt_of_le (Heap.lt_size e) (I.ok.cab x c hfn hc)))).trans (I.base.keep b o e n hb hx)
    · obtain ⟨sl, e1⟩ := I.base.slot b o e n hb hx
      exact ⟨sl, (hs.2 b (Nat.ne_of_lt (Nat.lt_of_lt_of_le (Heap.lt_size e) (I.ok.cab x c hfn hc)))).trans e1⟩
    · obtain ⟨o', e1⟩ := I.base.there b o e hx
      exact ⟨o', (hs.2 b (Nat.ne_of_lt (Nat.lt_of_lt_of_le (Heap.lt_size e) (I.ok.cab x c hfn hc)))).trans e1⟩
    · by_cases hj : j = i
      · subst hj
        rw [hi] at e1; cases e1
        rw [List.getElem?_set_self hiσ] at e2
        cases e2
        exact ⟨u, r, .inr ⟨.inl hk, c, hc, hc'⟩⟩
      · rw [List.getElem?_set_ne (Ne.symm hj)] at e2
        obtain ⟨u', r', q⟩ := hl j y v' e1 e2 e3
        refine ⟨u', r', ?_⟩
        rcases q with q | ⟨k, c', e, z'⟩
        · exact .inl q
        · refine .inr ⟨k, c', e, z'.sameBut hs ?_⟩
          rintro rfl
          exact hj (nodup_ix hN e1 (I.ok.inj _ _ _ e hc ▸ hi))
    · by_cases hcc : c' = c
      · subst hcc; exact ⟨_, hc'⟩
      · obtain ⟨w2, z2⟩ := I.cell y c' e
        exact ⟨w2, z2.sameBut hs hcc⟩
    · obtain ⟨e, n, ne, nf, d⟩ := I.pin p hp
      refine ⟨(hs.2 p.1 ?_).trans e, n, ne, nf, d⟩
      intro q
      rw [q, hoc] at e
      have q' : oc = p.2 := Option.some.inj e
      exact d w' (by rw [← q']; exact hocd)
theorem store_ok {M : Model} {A : Around} {E : Value → Shared → Prop} {i : Nat} {x : Str} {v : V} {u : Value} {Q : Unit → Shared → Prop} (I : Inv X pins σ H s) (hN : X.N.Nodup) (hi : X.N[i]? = some x) (hx : Loc X.env.scope x) (r : RelV v u)
    (h : ∀ s', Inv X pins (σ.set i (some v)) H s' → Q () s') (hf : X.fn x = true ∨ X.env.scope.names.lookup x = some .local := by first | exact .inl rfl | exact .inr rfl | assumption) : wpAny M A (storeName X.env x u) Q E s :=
  store_ok2 I hN hi hx r (fun s' I' _ => h s' I') hf
end
abbrev XK := Value → Option Addr → Hp → Prop
abbrev St := List (Option V)
abbrev VK := V → Hp → Prop
abbrev TE := St → Hp → VK → Prop
abbrev TT := St → Hp → (Bool → Hp → Prop) → Prop
abbrev TA := St → Hp → (List V → Hp → Prop) → Prop
structure Ends where
  nx : St → Hp → Prop
  rt : VK
  bk : St → Hp → Prop := fun _ _ => False
  ct : St → Hp → Prop := fun _ _ => False
abbrev TS := Ends → St → Hp → Prop
def EP (X : Cx) (pins : List (Addr × Obj)) (σ : St) (Q : VK) (u : Value) (s' : Shared) : Prop := ∃ v H', Inv X pins σ H' s' ∧ RelV v u ∧ Q v H'
def TP (X : Cx) (pins : List (Addr × Obj)) (σ : St) (Q : Bool → Hp → Prop) (b : Bool) (s' : Shared) : Prop := ∃ H', Inv X pins σ H' s' ∧ Q b H'
def AP (X : Cx) (pins : List (Addr × Obj)) (σ : St) (Q : List V → Hp → Prop) (us : List Value) (s' : Shared) : Prop := ∃ vs H', Inv X pins σ H' s' ∧ Vals vs us ∧ Q vs H'
def SP (X : Cx) (pins : List (Addr × Obj)) (D : Ends) (f : Flow) (s' : Shared) : Prop :=
  match f with
  | .next => ∃ σ' H', Inv X pins σ' H' s' ∧ D.nx σ' H'
  | .brk => ∃ σ' H', Inv X pins σ' H' s' ∧ D.bk σ' H'
  | .cont => ∃ σ' H', Inv X pins σ' H' s' ∧ D.ct σ' H'
  | .ret u => ∃ v σ' H', Inv X pins σ' H' s' ∧ RelV v u ∧ D.rt v H'
def PE (X : Cx) (e : Expr) (t : TE) : Prop :=
  ∀ (pins : List (Addr × Obj)) (s : Shared) (σ : St) (H : Hp) (Q : VK), Inv X pins σ H s → t σ H Q → wpAny (model X.prog X.w) X.A (eval e X.env) (EP X pins σ Q) X.xe s
def PT (X : Cx) (e : Expr) (t : TT) : Prop :=
  ∀ (pins : List (Addr × Obj)) (s : Shared) (σ : St) (H : Hp) (Q : Bool → Hp → Prop), Inv X pins σ H s → t σ H Q → wpAny (model X.prog X.w) X.A (isTrue e X.env (eval e X.env)) (TP X pins σ Q) X.xe s
def PW (X : Cx) (e : Expr) (t : TT) : Prop :=
  ∀ (whole : Sem Value) (pins : List (Addr × Obj)) (s : Shared) (σ : St) (H : Hp) (Q : Bool → Hp → Prop), Inv X pins σ H s → t σ H Q → wpAny (model X.prog X.w) X.A (isTrue e X.env whole) (TP X pins σ Q) X.xe s
theorem PW.pt {X : Cx} {e : Expr} {t : TT} (h : PW X e t) : PT X e t := h _
def PA (X : Cx) (es : List Expr) (t : TA) : Prop :=
  ∀ (pos : Pos) (pins : List (Addr × Obj)) (s : Shared) (σ : St) (H : Hp) (Q : List V → Hp → Prop), Inv X pins σ H s → t σ H Q → wpAny (model X.prog X.w) X.A (spliced (backTo pos (starEach es X.env))) (AP X pins σ Q) X.xe s
def PS (X : Cx) (st : Stmt) (t : TS) : Prop :=
  ∀ (pins : List (Addr × Obj)) (s : Shared) (σ : St) (H : Hp) (D : Ends), Inv X pins σ H s → t D σ H → wpAny (model X.prog X.w) X.A (exec st X.env) (SP X pins D) X.xe s
def PSs (X : Cx) (st : List Stmt) (t : TS) : Prop :=
  ∀ (pins : List (Addr × Obj)) (s : Shared) (σ : St) (H : Hp) (D : Ends), Inv X pins σ H s → t D σ H → wpAny (model X.prog X.w) X.A (execs st X.env) (SP X pins D) X.xe s
theorem thn {α : Type} {t : Sem α} {Q Q' : α → Shared → Prop} {M : Model} {A : Around} {E : Value → Shared → Prop} {s : Shared} (h : wpAny M A t Q E s) (hQ : ∀ a s, Q a s → Q' a s) : wpAny M A t Q' E s := wpAny_mono h hQ fun _ _ x => x
end L2
namespace L2
open PySem PySem.Spec PyProof.Rows
section
variable {X : Cx}
def tVar (i : Nat) : TE := fun σ H Q => ∃ v, σ[i]? = some (some v) ∧ Q v H
def tC (v : V) : TE := fun _ H Q => Q v H
theorem pe_var {i : Nat} {x : Str} {pos : Pos} (hN : X.N[i]? = some x) (hv : Vis X.env.scope x) (hd : (x == ("__debug__" : Str)) = false := by decide) (hcd : (x == ("__classdict__" : Str)) = false := by decide) : PE X (.Name x pos) (tVar i) := by
  intro pins s σ H Q I h
  obtain ⟨v, e, h⟩ := h
  obtain ⟨m, hn, hl⟩ := I.loc
  obtain ⟨u, r, l⟩ := hl i x v hN e hv
  have fin : EP X pins σ Q u s := ⟨v, H, I, r, h⟩
  rcases l with ⟨hk, hm⟩ | ⟨hk, c, hc, hcell⟩
  · exact wpAny_Name (wpAny_loadName_local I.ok.kind hk hn hm fin) hd
  · rcases hk with hk | hk
    · exact wpAny_Name (wpAny_loadName_cell I.ok.kind hk hc hcell fin) hd
    · exact wpAny_Name (wpAny_loadName_free I.ok.kind hk hc hcell fin hcd) hd
theorem pe_int {i j pos} : PE X (.Constant (.int i) j pos) (tC (.int i)) := fun _ _ _ H _ I h => wpAny_Constant_int ⟨.int i, H, I.tok _, ⟨_, rfl⟩, h⟩
theorem pe_bl {b j pos} : PE X (.Constant (.bool b) j pos) (tC (.bl b)) := fun _ _ _ H _ I h => Constant_bool ⟨.bl b, H, I, rfl, h⟩
theorem pe_non {j pos} : PE X (.Constant .none j pos) (tC .non) := fun _ _ _ H _ I h => Constant_none ⟨.non, H, I, rfl, h⟩
def Gl (X : Cx) (x : Str) : Prop := X.env.kindOf x = some .globalImplicit
theorem ld_glob {E : Value → Shared → Prop} {pins : List (Addr × Obj)} {s : Shared} {σ : St} {H : Hp} {x : Str} {u : Value} {pos : Pos} {Q : Value → Shared → Prop} (I : Inv X pins σ H s) (hg : Gl X x) (hm : X.mg x = some u) (h : Q u s)
    (hd : (x == ("__debug__" : Str)) = false := by decide) : wpAny (model X.prog X.w) X.A (eval (.Name x pos) X.env) Q E s :=
  Calls.Name_function_global I.ok.kind hg (Calls.loadGlobal_global (by rw [I.ok.glob]; exact I.mod.glob.keeps I.bk) hm h) hd
theorem ld_blt {E : Value → Shared → Prop} {pins : List (Addr × Obj)} {s : Shared} {σ : St} {H : Hp} {x : Str} {u : Value} {pos : Pos} {Q : Value → Shared → Prop} (I : Inv X pins σ H s) (hg : Gl X x) (hm : X.mg x = none) (hv : bootBuiltins x = some u) (h : Q u s)
    (hn : x ≠ "__name__" := by decide) (hd : (x == ("__debug__" : Str)) = false := by decide) : wpAny (model X.prog X.w) X.A (eval (.Name x pos) X.env) Q E s := by
  obtain ⟨mb, h1, h2⟩ := I.mod.blt
  exact Calls.Name_function_global I.ok.kind hg (Calls.loadGlobal_builtin (by rw [I.ok.glob]; exact I.mod.glob.keeps I.bk) hm (by rw [I.ok.blt]; exact h1.keeps I.bk) ((h2 x hn).trans hv) h) hd
theorem pe_glob {x : Str} {v : V} {u : Value} {pos : Pos} (hg : Gl X x) (hm : X.mg x = some u) (r : RelV v u) (hd : (x == ("__debug__" : Str)) = false := by decide) : PE X (.Name x pos) (tC v) :=
  fun _ _ _ H _ I h => ld_glob I hg hm ⟨v, H, I, r, h⟩ hd
variable {a b : Expr} {ta tb : TE} {pos : Pos}
def PC (X : Cx) (op : CmpOp) (a b : Expr) (t : TE) : Prop :=
  ∀ (pins : List (Addr × Obj)) (s : Shared) (σ : St) (H : Hp) (Q : VK), Inv X pins σ H s → t σ H Q →
    wpAny (model X.prog X.w) X.A (eval a X.env) (fun v s₁ => wpAny (model X.prog X.w) X.A (eval b X.env) (fun u s₂ => wpAny (model X.prog X.w) X.A (compareOp op v u) (EP X pins σ Q) X.xe s₂) X.xe s₁) X.xe s
theorem nobehind (b : Expr) {op : CmpOp} (h : op ≠ .In) (h2 : op ≠ .NotIn) : behindInMarks op b = false := by
  have e1 : (op == CmpOp.In) = false := by cases op <;> first | rfl | exact absurd rfl h
  have e2 : (op == CmpOp.NotIn) = false := by cases op <;> first | rfl | exact absurd rfl h2
  cases b <;> simp [behindInMarks, e1, e2]
def tB (t : TE) : TT := fun σ H Q => t σ H fun x H1 => ∃ c, x = .bl c ∧ Q c H1
theorem pt_cmp {op : CmpOp} {t : TE} (h : PC X op a b t) (h1 : behindInMarks op b = false := by first | exact nobehind _ (by decide) (by decide) | rfl) : PT X (.Compare a [op] [b] pos) (tB t) := by
  intro pins s σ H Q I hw
  refine wpAny_isTrue_Compare1 (thn (h pins s σ H _ I hw) fun v s1 h1 => thn h1 fun u s2 h2 => thn h2 fun c s3 ⟨x, H1, I1, r1, q1⟩ => ?_) h1
  obtain ⟨d, rfl, q⟩ := q1
  cases r1
  exact wpAny_truthy_bool ⟨H1, I1, q⟩
theorem pt_val {e : Expr} {t : TE} (h : PE X e t) (he : ∀ whole, isTrue e X.env whole = (do let v ← whole; standAt e.pos; holding [v] (truthy v)) := by intro _; rfl) : PT X e (tB t) := by
  intro pins s σ H Q I hw
  refine isTrue_plain (thn (h pins s σ H _ I hw) fun v s1 ⟨x, H1, I1, r1, q1⟩ => ?_) (he _)
  obtain ⟨d, rfl, q⟩ := q1
  cases r1
  exact wpAny_truthy_bool ⟨H1, I1, q⟩
variable {tA tB' : TT} {rest : List Expr}
def tAnd (t u : TT) : TT := fun σ H Q => t σ H fun c H1 => if c = true then u σ H1 Q else Q false H1
def tOr (t u : TT) : TT := fun σ H Q => t σ H fun c H1 => if c = true then Q true H1 else u σ H1 Q
def tNot (t : TT) : TT := fun σ H Q => t σ H fun c H1 => Q (!c) H1
theorem pw_and1 (ha : PT X a tA) : PW X (.BoolOp .And [a] pos) tA := by
  intro wh pins s σ H Q I h
  refine isTrue_and (thn (ha pins s σ H Q I h) fun c s1 e => ?_)
  cases c with
  | true => exact isTrue_and_nil e
  | false => exact e
theorem pw_or1 (ha : PT X a tA) : PW X (.BoolOp .Or [a] pos) tA := by
  intro wh pins s σ H Q I h
  refine isTrue_or (thn (ha pins s σ H Q I h) fun c s1 e => ?_)
  cases c with
  | false => exact isTrue_or_nil e
  | true => exact e
theorem pw_and (ha : PT X a tA) (hb : PW X (.BoolOp .And (b :: rest) pos) tB') : PW X (.BoolOp .And (a :: b :: rest) pos) (tAnd tA tB') := by
  intro wh pins s σ H Q I h
  refine isTrue_and (thn (ha pins s σ H _ I h) fun c s1 ⟨H1, I1, q1⟩ => ?_)
  cases c with
  | true => exact hb wh pins s1 σ H1 Q I1 q1
  | false => exact ⟨H1, I1, q1⟩
theorem pw_or (ha : PT X a tA) (hb : PW X (.BoolOp .Or (b :: rest) pos) tB') : PW X (.BoolOp .Or (a :: b :: rest) pos) (tOr tA tB') := by
  intro wh pins s σ H Q I h
  refine isTrue_or (thn (ha pins s σ H _ I h) fun c s1 ⟨H1, I1, q1⟩ => ?_)
  cases c with
  | true => exact ⟨H1, I1, q1⟩
  | false => exact hb wh pins s1 σ H1 Q I1 q1
theorem pt_not (ha : PT X a tA) : PT X (.UnaryOp .Not a pos) (tNot tA) := by
  intro pins s σ H Q I h
  exact isTrue_not (ha pins s σ H (fun c H1 => Q (!c) H1) I h)
def tAndV (ta tb : TE) : TE := fun σ H Q => ta σ H fun x H1 => ∃ c, x = .bl c ∧ if c = true then tb σ H1 Q else Q (.bl false) H1
def tOrV (ta tb : TE) : TE := fun σ H Q => ta σ H fun x H1 => ∃ c, x = .bl c ∧ if c = true then Q (.bl true) H1 else tb σ H1 Q
theorem pe_one {op} {t : TE} (h : PE X a t) : PE X (.BoolOp op [a] pos) t := fun pins s σ H Q I hw => BoolOp_one (h pins s σ H Q I hw)
theorem pe_and (ha : PE X a ta) (hb : PE X (.BoolOp .And (b :: rest) pos) tb) : PE X (.BoolOp .And (a :: b :: rest) pos) (tAndV ta tb) := by
  intro pins s σ H Q I h
  refine BoolOp_and (thn (ha pins s σ H _ I h) fun v s1 ⟨x, H1, I1, r1, q1⟩ => ?_)
  obtain ⟨c, rfl, q1⟩ := q1
  cases r1
  refine wpAny_truthy_bool ?_
  cases c with
  | true => exact hb pins s1 σ H1 Q I1 q1
  | false => exact ⟨.bl false, H1, I1, rfl, q1⟩
theorem pe_or (ha : PE X a ta) (hb : PE X (.BoolOp .Or (b :: rest) pos) tb) : PE X (.BoolOp .Or (a :: b :: rest) pos) (tOrV ta tb) := by
  intro pins s σ H Q I h
  refine BoolOp_or (thn (ha pins s σ H _ I h) fun v s1 ⟨x, H1, I1, r1, q1⟩ => ?_)
  obtain ⟨c, rfl, q1⟩ := q1
  cases r1
  refine wpAny_truthy_bool ?_
  cases c with
  | false => exact hb pins s1 σ H1 Q I1 q1
  | true => exact ⟨.bl true, H1, I1, rfl, q1⟩
end
end L2
namespace L2
open PySem PySem.Spec PyProof.Rows
def SqL (K : PySem.W.Frag) (H : Hp) (a : Addr) (xs : List V) : Prop :=
  Rd H a (.lst xs) ∨
    ∃ (o : Obj) (its : Array Value) (n : Nat), K.lookup a = some o ∧ o.cls = .type "list" ∧ o.dict = none ∧ o.data = .seq its n ∧ its.size ≤ sizeLine ∧ Vals xs its.toList
def SqT (K : PySem.W.Frag) (H : Hp) (a : Addr) (xs : List V) : Prop :=
  Rd H a (.tup xs) ∨
    ∃ (o : Obj) (its : Array Value) (n : Nat), K.lookup a = some o ∧ o.cls = .type "tuple" ∧ o.data = .seq its n ∧ its.size ≤ sizeLine ∧ Vals xs its.toList
def absV : Value → Option V
  | .none => some .non
  | .bool b => some (.bl b)
  | .int i _ => some (.int i)
  | .str x _ => some (.str x)
  | .bytes b _ => some (.byt b)
  | .float b _ => some (.flt b)
  | .ref a => some (.ref a)
  | .type n => some (.ty n)
  | _ => none
theorem RelV.abs {x : V} {u : Value} (r : RelV x u) : absV u = some x := by
  cases x with
  | non => cases r; rfl
  | bl _ => cases r; rfl
  | int _ => obtain ⟨t, rfl⟩ := r; rfl
  | str _ => obtain ⟨t, rfl⟩ := r; rfl
  | byt _ => obtain ⟨t, rfl⟩ := r; rfl
  | flt _ => obtain ⟨t, rfl⟩ := r; rfl
  | ref _ => cases r; rfl
  | ty _ => cases r; rfl
theorem RelV.inj {x y : V} {u : Value} (r : RelV x u) (q : RelV y u) : x = y := Option.some.inj (r.abs.symm.trans q.abs)
theorem Vals.inj : ∀ {xs ys : List V} {us : List Value}, Vals xs us → Vals ys us → xs = ys
  | _, _, _, .nil, .nil => rfl
  | _, _, _, .cons r t, .cons r' t' => by rw [r.inj r', Vals.inj t t']
section
variable {X : Cx} {pins : List (Addr × Obj)} {σ : St} {H : Hp} {s : Shared} {a : Addr} {xs ys : List V}
theorem SqL.of {K : PySem.W.Frag} (h : H a = some (.lst xs)) : SqL K H a xs := .inl (.inl h)
theorem SqT.of {K : PySem.W.Frag} (h : H a = some (.tup xs)) : SqT K H a xs := .inl (.inl h)
theorem Inv.list (I : Inv X pins σ H s) (h : SqL X.K H a xs) : ∃ its : List Value, Vals xs its ∧ PlainL s.heap a its.toArray ∧ xs.length ≤ sizeLine := by
  rcases h with h | ⟨o, its, n, hk, hc, hd, hs, hz, r⟩
  · obtain ⟨z, its, n, r, e⟩ := h.ok I.hok
    exact ⟨its, r, ⟨_, n, e, rfl, rfl, rfl⟩, z⟩
  · refine ⟨its.toList, r, ⟨o, n, I.kIn a o hk, hc, hd, by simpa using hs⟩, ?_⟩
    have e := r.length
    simp only [Array.length_toList] at e
    omega
theorem Inv.tuple (I : Inv X pins σ H s) (h : SqT X.K H a xs) : ∃ its : List Value, Vals xs its ∧ IsTup s.heap a its.toArray ∧ xs.length ≤ sizeLine := by
  rcases h with h | ⟨o, its, n, hk, hc, hs, hz, r⟩
  · obtain ⟨z, its, r, p⟩ := h.ok I.hok
    exact ⟨its, r, p, z⟩
  · refine ⟨its.toList, r, ⟨o, I.kIn a o hk, hc, n, by simpa using hs⟩, ?_⟩
    have e := r.length
    simp only [Array.length_toList] at e
    omega
theorem Inv.list_inj (I : Inv X pins σ H s) (h : SqL X.K H a xs) (h' : SqL X.K H a ys) : xs = ys := by
  obtain ⟨its, r, ⟨o, n, e, _, _, d⟩, _⟩ := I.list h
  obtain ⟨its', r', ⟨o', n', e', _, _, d'⟩, _⟩ := I.list h'
  rw [e] at e'; cases e'
  rw [d] at d'
  injection d' with d1 _
  have : its = its' := by simpa using congrArg Array.toList d1
  subst this
  exact r.inj r'
end
abbrev Cx.wish (X : Cx) (E : Value → Shared → Prop) : Cx := { X with xe := E }
abbrev Cx.nox (X : Cx) : Cx := X.wish fun _ _ => False
theorem Cx.Ok.wish {X : Cx} (ok : X.Ok) (E : Value → Shared → Prop) : (X.wish E).Ok :=
  ⟨ok.mod, ok.kind, ok.glob, ok.blt, ok.above, ok.inj, ok.has, ok.cab, ok.hd, ok.frames, ok.stk, ok.exf, ok.bs, ok.bsz, ok.noex, ok.exfs, ok.funs, ok.frf⟩
theorem Cx.Ok.unwish {X : Cx} {E : Value → Shared → Prop} (ok : (X.wish E).Ok) : X.Ok :=
  ⟨ok.mod, ok.kind, ok.glob, ok.blt, ok.above, ok.inj, ok.has, ok.cab, ok.hd, ok.frames, ok.stk, ok.exf, ok.bs, ok.bsz, ok.noex, ok.exfs, ok.funs, ok.frf⟩
section
variable {X : Cx} {pins : List (Addr × Obj)} {σ : St} {H : Hp} {s : Shared} {E : Value → Shared → Prop}
theorem Inv.wish (I : Inv X pins σ H s) (E : Value → Shared → Prop) : Inv (X.wish E) pins σ H s := ⟨I.ok.wish E, I.os, I.bare, I.base, I.loc, I.cell, I.free, I.freeC, I.pin, I.hok, I.len⟩
theorem Inv.unwish (I : Inv (X.wish E) pins σ H s) : Inv X pins σ H s := ⟨I.ok.unwish, I.os, I.bare, I.base, I.loc, I.cell, I.free, I.freeC, I.pin, I.hok, I.len⟩
theorem SP.unwish {D : Ends} {f : Flow} {s' : Shared} (h : SP (X.wish E) pins D f s') : SP X pins D f s' := by
  cases f with
  | next => obtain ⟨σ', H', I, q⟩ := h; exact ⟨σ', H', I.unwish, q⟩
  | brk => obtain ⟨σ', H', I, q⟩ := h; exact ⟨σ', H', I.unwish, q⟩
  | cont => obtain ⟨σ', H', I, q⟩ := h; exact ⟨σ', H', I.unwish, q⟩
  | ret u => obtain ⟨v, σ', H', I, r, q⟩ := h; exact ⟨v, σ', H', I.unwish, r, q⟩
theorem PE.nox {e : Expr} {t : TE} (h : PE X.nox e t) : PE X e t := fun pins s σ H Q I hw =>
  wpAny_mono (h pins s σ H Q (I.wish _) hw) (fun _ _ ⟨v, H', I', r, q⟩ => ⟨v, H', I'.unwish, r, q⟩) fun _ _ z => False.elim z
theorem PT.nox {e : Expr} {t : TT} (h : PT X.nox e t) : PT X e t := fun pins s σ H Q I hw =>
  wpAny_mono (h pins s σ H Q (I.wish _) hw) (fun _ _ ⟨H', I', q⟩ => ⟨H', I'.unwish, q⟩) fun _ _ z => False.elim z
theorem PSs.nox {st : List Stmt} {t : TS} (h : PSs X.nox st t) : PSs X st t := fun pins s σ H D I hw =>
  wpAny_mono (h pins s σ H D (I.wish _) hw) (fun _ _ q => q.unwish) fun _ _ z => False.elim z
end
section
variable {X : Cx} {st : Stmt} {rest : List Stmt} {t u : TS} {e : Expr} {te : TE} {pos : Pos}
def tNext : TS := fun D σ H => D.nx σ H
def tSeq (t u : TS) : TS := fun D σ H => t { D with nx := u D } σ H
theorem pss_nil : PSs X [] tNext := fun _ _ σ H _ I h => wpAny_execs_nil ⟨σ, H, I, h⟩
theorem pss_cons (h1 : PS X st t) (h2 : PSs X rest u) : PSs X (st :: rest) (tSeq t u) := by
  intro pins s σ H D I h
  refine wpAny_execs_cons (thn (h1 pins s σ H { D with nx := u D } I h) fun f s1 q => ?_)
  cases f with
  | next =>
    obtain ⟨σ', H', I', q⟩ := q
    exact h2 pins s1 σ' H' D I' q
  | ret v => exact q
  | brk => exact q
  | cont => exact q
theorem pss_one (h1 : PS X st t) : PSs X [st] t := by
  intro pins s σ H D I h
  refine wpAny_execs_cons (thn (h1 pins s σ H D I h) fun f s1 q => ?_)
  cases f with
  | next => exact wpAny_execs_nil q
  | ret v => exact q
  | brk => exact q
  | cont => exact q
theorem ps_pass : PS X (.Pass pos) tNext := fun _ _ σ H _ I h => wpAny_Pass ⟨σ, H, I, h⟩
theorem Inv.quiet {pins : List (Addr × Obj)} {σ : St} {H : Hp} {s : Shared} (I : Inv X pins σ H s) : interactive X.env = false := by simp [interactive, I.ok.kind]
def tDrop (te : TE) : TS := fun D σ H => te σ H fun _ H1 => D.nx σ H1
theorem ps_expr (he : PE X e te) (hs : swapsWith e none pos.line X.env = pure false := by rfl) : PS X (.Expr e pos) (tDrop te) := by
  intro pins s σ H D I h
  exact wpAny_Expr_any (thn (he pins s σ H _ I h) fun v s1 ⟨x, H1, I1, r1, q1⟩ => ⟨σ, H1, I1, q1⟩) I.quiet hs
def tRet (te : TE) : TS := fun D σ H => te σ H D.rt
theorem ps_ret (he : PE X e te) : PS X (.Return (some e) pos) (tRet te) := by
  intro pins s σ H D I h
  exact wpAny_Return_some (thn (he pins s σ H _ I h) fun v s1 ⟨x, H1, I1, r1, q1⟩ => ⟨x, σ, H1, I1, r1, q1⟩)
def tRetN : TS := fun D _ H => D.rt .non H
theorem ps_retN : PS X (.Return none pos) tRetN := fun _ _ σ H _ I h => wpAny_Return_none ⟨.non, σ, H, I, rfl, h⟩
def tIfS (c : TT) (t u : TS) : TS := fun D σ H => c σ H fun b H1 => if b = true then t D σ H1 else u D σ H1
theorem ps_if {c : Expr} {a b : List Stmt} {tc : TT} (hc : PT X c tc) (ha : PSs X a t) (hb : PSs X b u) : PS X (.If c a b pos) (tIfS tc t u) := by
  intro pins s σ H D I h
  refine wpAny_If (thn (hc pins s σ H _ I h) fun d s1 ⟨H1, I1, q1⟩ => ?_)
  cases d with
  | true => exact ha pins s1 σ H1 D I1 q1
  | false => exact hb pins s1 σ H1 D I1 q1
end
abbrev TG := V → St → Hp → (St → Hp → Prop) → Prop
abbrev TGs := List V → St → Hp → (St → Hp → Prop) → Prop
def PG (X : Cx) (target : Expr) (t : TG) : Prop :=
  ∀ (pins : List (Addr × Obj)) (s : Shared) (σ : St) (H : Hp) (v : V) (u : Value) (Q : St → Hp → Prop), Inv X pins σ H s → RelV v u → t v σ H Q →
    wpAny (model X.prog X.w) X.A (assign target X.env u) (fun _ s' => ∃ σ' H', Inv X pins σ' H' s' ∧ Q σ' H') X.xe s
def PGs (X : Cx) (ts : List Expr) (t : TGs) : Prop :=
  ∀ (pins : List (Addr × Obj)) (s : Shared) (σ : St) (H : Hp) (vs : List V) (us : List Value) (Q : St → Hp → Prop), Inv X pins σ H s → Vals vs us → t vs σ H Q →
    wpAny (model X.prog X.w) X.A (assignInOrder ((assignEach ts X.env).map (·.2)) us) (fun _ s' => ∃ σ' H', Inv X pins σ' H' s' ∧ Q σ' H') X.xe s
abbrev TSet := V → V → V → Hp → (Hp → Prop) → Prop
def PSet (X : Cx) (t : TSet) : Prop :=
  ∀ (pins : List (Addr × Obj)) (s : Shared) (σ : St) (H : Hp) (o i v : V) (ov iv u : Value) (Q : Hp → Prop), Inv X pins σ H s → RelV o ov → RelV i iv → RelV v u → t o i v H Q →
    wpAny (model X.prog X.w) X.A (setItem ov iv u) (fun _ s' => ∃ H', Inv X pins σ H' s' ∧ Q H') X.xe s
section
variable {X : Cx} {pos : Pos}
def gName (i : Nat) : TG := fun v σ H Q => Q (σ.set i (some v)) H
theorem pg_name {i : Nat} {x : Str} (hN : X.N.Nodup) (hi : X.N[i]? = some x) (hx : Loc X.env.scope x) (hf : X.fn x = true ∨ X.env.scope.names.lookup x = some .local := by first | exact .inl rfl | exact .inr rfl | assumption) : PG X (.Name x pos) (gName i) := by
  intro pins s σ H v u Q I r h
  exact wpAny_assign_Name (store_ok I hN hi hx r (fun s' I' => ⟨_, H, I', h⟩) hf)
def gNil : TGs := fun vs σ H Q => vs = [] ∧ Q σ H
def gCons (t : TG) (u : TGs) : TGs := fun vs σ H Q => ∃ v r, vs = v :: r ∧ t v σ H fun σ' H' => u r σ' H' Q
theorem pgs_nil : PGs X [] gNil := by
  intro pins s σ H vs us Q I r h
  obtain ⟨e, h⟩ := h
  subst e
  cases r
  exact assignInOrder_nil ⟨σ, H, I, h⟩
theorem pgs_cons {e : Expr} {es : List Expr} {t : TG} {u : TGs} (h1 : PG X e t) (h2 : PGs X es u)
    (hs : (assignEach (e :: es) X.env).map (·.2) = assign e X.env :: (assignEach es X.env).map (·.2) := by rfl) : PGs X (e :: es) (gCons t u) := by
  intro pins s σ H vs us Q I r h
  obtain ⟨v, vr, e1, h⟩ := h
  subst e1
  cases r with
  | cons r rr =>
    rw [hs]
    refine assignInOrder_cons (thn (h1 pins s σ H _ _ _ I r h) fun _ s1 ⟨σ1, H1, I1, q1⟩ => ?_)
    exact h2 pins s1 σ1 H1 _ _ Q I1 rr q1
def gTup (K : PySem.W.Frag) (n : Nat) (t : TGs) : TG := fun v σ H Q => ∃ a xs, v = .ref a ∧ SqT K H a xs ∧ xs.length = n ∧ t xs σ H Q
theorem pg_tup {es : List Expr} {k : Nat} {t : TGs} {n : Nat} (hc : X.calm = true) (h : PGs X es t)
    (hn : (assignEach es X.env).length = n := by rfl) (hst : (assignEach es X.env).findIdx? (·.1) = none := by rfl) : PG X (.Tuple es k pos) (gTup X.K n t) := by
  intro pins s σ H v u Q I r hw
  obtain ⟨a, xs, e1, hq, hl, hw⟩ := hw
  subst e1
  cases r
  obtain ⟨its, rv, ht, hz⟩ := I.tuple hq
  refine assign_Tuple_tuple (I.ok.hd hc) ht (by simp [hn, ← hl, rv.length]) hst fun h' hx => ?_
  have I1 : Inv X pins σ H { s with heap := h' } := I.kept (t' := s.toks) fun b o e => hx b o (Nat.ne_of_lt (Heap.lt_size e)) e
  exact h pins _ σ H xs _ Q I1 (by simpa using rv) hw
def gSub (to ti : TE) (t : TSet) : TG := fun v σ H Q => to σ H fun o H1 => ti σ H1 fun i H2 => t o i v H2 fun H3 => Q σ H3
theorem pg_sub {o i : Expr} {to ti : TE} {t : TSet} (ho : PE X o to) (hi : PE X i ti) (hs : PSet X t)
    (ha : ∀ v, assign (.Subscript o i pos) X.env v = (do
      let ov ← holding [v] (eval o X.env)
      let iv ← holding [v, ov] (eval i X.env)
      standAt pos
      holding [v, ov, iv] (setItem ov iv v)
      release [v, ov, iv] []) := by intro _; rfl) : PG X (.Subscript o i pos) (gSub to ti t) := by
  intro pins s σ H v u Q I r h
  rw [ha]
  refine wpAny_bind (wpAny_holding (thn (ho pins s σ H _ I h) fun ov s1 ⟨x, H1, I1, r1, q1⟩ => ?_))
  refine wpAny_bind (wpAny_holding (thn (hi pins s1 σ H1 _ I1 q1) fun iv s2 ⟨y, H2, I2, r2, q2⟩ => ?_))
  refine wpAny_bind (wpAny_standAt (wpAny_bind (wpAny_holding (thn (hs pins s2 σ H2 x y v ov iv u _ I2 r1 r2 r q2) fun _ s3 ⟨H3, I3, q3⟩ => ?_))))
  exact wpAny_release ⟨σ, H3, I3, q3⟩
def tAsg (te : TE) (g : TG) : TS := fun D σ H => te σ H fun x H1 => g x σ H1 D.nx
theorem ps_asg {tg e : Expr} {te : TE} {g : TG} (he : PE X e te) (hg : PG X tg g) (hs : swapsWithSole [tg] e pos.line X.env = pure false := by rfl) (hw : swappedStores [tg] e X.env = pure none := by rfl)
    (h1 : (assignEach [tg] X.env).map (·.2) = [assign tg X.env] := by rfl) : PS X (.Assign [tg] e pos) (tAsg te g) := by
  intro pins s σ H D I h
  refine wpAny_Assign_stores (thn (he pins s σ H _ I h) fun v s1 ⟨x, H1, I1, r1, q1⟩ => ?_) hs hw
  rw [h1]
  exact thn (hg pins s1 σ H1 x v _ I1 r1 q1) fun _ s2 q => q
theorem ps_set {i : Nat} {x : Str} {e : Expr} {te : TE} {pos' : Pos} (hN : X.N.Nodup) (hi : X.N[i]? = some x) (hx : Loc X.env.scope x) (he : PE X e te) (hs : swapsWith e (some (.Name x pos')) pos.line X.env = pure false := by rfl) (hf : X.fn x = true ∨ X.env.scope.names.lookup x = some .local := by first | exact .inl rfl | exact .inr rfl | assumption) :
    PS X (.Assign [.Name x pos'] e pos) (tAsg te (gName i)) := by
  intro pins s σ H D I h
  refine wpAny_Assign_Name (thn (he pins s σ H _ I h) fun v s1 ⟨y, H1, I1, r1, q1⟩ => ?_) hs
  exact store_ok I1 hN hi hx r1 (fun s2 I2 => ⟨_, H1, I2, q1⟩) hf
end
section
variable {X : Cx} {pos : Pos}
def tWhile (c : TT) (tb : TS) : TS := fun D σ H => ∃ W : Nat → St → Hp → Prop, (∃ m, W m σ H) ∧ ∀ m σ H, W m σ H →
  c σ H fun b H1 => if b = true then ∃ N : St → Hp → Prop, (∀ σ' H', N σ' H' → ∃ m', m' < m ∧ W m' σ' H') ∧ tb { D with nx := N, ct := N, bk := D.nx } σ H1 else D.nx σ H1
theorem ps_while {c : Expr} {body : List Stmt} {tc : TT} {tb : TS} (hp : PassesOwn (model X.prog X.w) X.A X.env X.xe) (hc : PT X c tc) (hb : PSs X body tb) : PS X (.While c body [] pos) (tWhile tc tb) := by
  intro pins s σ H D I h
  obtain ⟨W, ⟨m0, w0⟩, turn⟩ := h
  refine wpAny_While (codeAny_whileLoop (fun n s' => ∃ σ' H', Inv X pins σ' H' s' ∧ W n σ' H') ?_ m0 ⟨σ, H, I, w0⟩)
  rintro n s1 ⟨σ1, H1, I1, w1⟩
  refine wpAny_passesOwn hp (thn (hc pins s1 σ1 H1 _ I1 (turn n σ1 H1 w1)) fun b s2 ⟨H2, I2, q2⟩ => ?_)
  cases b with
  | true =>
    obtain ⟨N, hN, q2⟩ := q2
    rw [if_pos rfl]
    refine wpAny_passesOwn hp (thn (hb pins s2 σ1 H2 _ I2 q2) fun f s3 q3 => ?_)
    cases f with
    | next =>
      obtain ⟨σ3, H3, I3, n3⟩ := q3
      obtain ⟨m', hm, w3⟩ := hN σ3 H3 n3
      exact ⟨m', hm, σ3, H3, I3, w3⟩
    | cont =>
      obtain ⟨σ3, H3, I3, n3⟩ := q3
      obtain ⟨m', hm, w3⟩ := hN σ3 H3 n3
      exact ⟨m', hm, σ3, H3, I3, w3⟩
    | brk => exact q3
    | ret v => exact q3
  | false =>
    rw [if_neg Bool.false_ne_true]
    exact wpAny_execs_nil ⟨σ1, H2, I2, q2⟩
end
structure It where
  go : Nat → Hp → Prop
  yld : Nat → Hp → V → Hp → Prop
  stop : Nat → Hp → Prop
def FpOk (X : Cx) (pins : List (Addr × Obj)) (H : Hp) (b : Addr) : Prop :=
  H b = none ∧ b ≠ X.env.locals ∧ b ∉ X.fs ∧ (b ∈ X.ex ∨ X.s₀.heap.objs.size ≤ b) ∧ (∀ x c, X.env.cells.lookup x = some c → c ≠ b) ∧ ∀ p ∈ X.pn ++ pins, p.1 ≠ b
theorem Inv.fpOk {X : Cx} {pins : List (Addr × Obj)} {σ : St} {H H' : Hp} {s : Shared} {b : Addr} (I : Inv X pins σ H s) (hb : s.heap.objs.size ≤ b) (hn : H' b = none) : FpOk X pins H' b := by
  refine ⟨hn, Nat.ne_of_gt (Nat.lt_of_lt_of_le I.lt hb), I.nofs hb, .inr (Nat.le_trans I.sz hb), fun x c e z => ?_, fun p hp z => ?_⟩
  · obtain ⟨v, q⟩ := I.cell x c e
    exact absurd (Nat.lt_of_lt_of_le q.lt (by rw [z]; exact hb)) (Nat.lt_irrefl _)
  · exact absurd (Nat.lt_of_lt_of_le (Heap.lt_size (I.pin p hp).1) (by rw [z]; exact hb)) (Nat.lt_irrefl _)
structure Turn (P : Program) (w : World) (K : PySem.W.Frag) (tg : Expr) (J : It) (fp : List Addr) (it : Addr) (tn : Nat → Heap → Prop) : Prop where
  mem : it ∈ fp
  obj : ∀ i h, tn i h → ∀ b ∈ fp, ∃ o, h.get? b = some o ∧ ∀ v, o.data ≠ .cell v
  keep : ∀ i h h', tn i h → (∀ b ∈ fp, ∀ o, h.get? b = some o → h'.get? b = some o) → tn i h'
  item : ∀ (X : Cx), X.prog = P → X.w = w → X.K = K → X.calm = true → ∀ (i : Nat) (pins : List (Addr × Obj)) (s : Shared) (σ : St) (H : Hp) (E : Value → Shared → Prop), Inv X pins σ H s → (∀ b ∈ fp, FpOk X pins H b) → tn i s.heap → J.go i H →
    wpAny (model P w) X.A (pyNext (.ref it)) (fun r s1 => ∃ u, r = some u ∧
      wpAny (model P w) X.A (letOwnedTupleGo tg (.ref it) u) (fun _ s2 => ∃ x H', Inv X pins σ H' s2 ∧ RelV x u ∧ J.yld i H x H' ∧ tn (i + 1) s2.heap ∧ ∀ b ∈ fp, H' b = none) E s1) E s
  done : ∀ (X : Cx), X.prog = P → X.w = w → X.K = K → X.calm = true → ∀ (i : Nat) (pins : List (Addr × Obj)) (s : Shared) (σ : St) (H : Hp) (E : Value → Shared → Prop), Inv X pins σ H s → (∀ b ∈ fp, FpOk X pins H b) → tn i s.heap → J.stop i H →
    wpAny (model P w) X.A (pyNext (.ref it)) (fun r s1 => r = none ∧ Inv X pins σ H s1) E s
  self : ∀ (A : Around) (i : Nat) (s : Shared) (Q : Value → Shared → Prop) (E : Value → Shared → Prop), tn i s.heap → Q (.ref it) s → wpAny (model P w) A (pyIter (.ref it)) Q E s
abbrev TI := St → Hp → (It → Hp → Prop) → Prop
def PIE (X : Cx) (pins : List (Addr × Obj)) (σ : St) (tg : Expr) (R : It → Hp → Prop) (itv : Value) (s2 : Shared) : Prop :=
  ∃ (it : Addr) (fp : List Addr) (tn : Nat → Heap → Prop) (J : It) (H' : Hp), itv = .ref it ∧ Inv X pins σ H' s2 ∧ Turn X.prog X.w X.K tg J fp it tn ∧ tn 0 s2.heap ∧ (∀ b ∈ fp, FpOk X pins H' b) ∧ R J H'
def PI (X : Cx) (tg iter : Expr) (wi : TI) : Prop :=
  ∀ (pins : List (Addr × Obj)) (s : Shared) (σ : St) (H : Hp) (R : It → Hp → Prop), Inv X pins σ H s → wi σ H R →
    wpAny (model X.prog X.w) X.A (eval iter X.env) (fun v s1 => wpAny (model X.prog X.w) X.A (pyIter v) (PIE X pins σ tg R) X.xe s1) X.xe s
theorem go_of {M : Model} {A : Around} {E : Value → Shared → Prop} {s : Shared} {tg : Expr} {it : Addr} {u : Value} {o : Obj} {n : String} {vs : Array Value} {Q : Unit → Shared → Prop} (ho : s.heap.get? it = some o) (hc : o.cls = .type n) (hd : o.data = .fields vs)
    (hn : ["enumerate", "zip", "dict_itemiterator", "dict_reverseitemiterator", "odict_iterator", "itertools.zip_longest", "itertools.pairwise"].contains n = false) (hQ : Q () s) : wpAny M A (letOwnedTupleGo tg (.ref it) u) Q E s := by
  unfold letOwnedTupleGo
  cases tg <;> first
    | exact wpAny_pure hQ
    | (cases u <;> first
        | exact wpAny_pure hQ
        | (refine wpAny_bind (wpAny_load ho ?_)
           rw [hc, hd]
           show wpAny M A (if (["enumerate", "zip", "dict_itemiterator", "dict_reverseitemiterator", "odict_iterator", "itertools.zip_longest", "itertools.pairwise"].contains n && vs[0]? == some (rawInt _)) = true then _ else _) Q E s
           rw [if_neg (by intro h; rw [hn, Bool.false_and] at h; cases h)]
           exact wpAny_pure hQ))
def Itr (lo : Int) (n : Nat) : It := ⟨fun i _ => i < n, fun i H x H' => H' = H ∧ x = .int (lo + i), fun i _ => n ≤ i⟩
theorem turn_range {P : Program} {w : World} {K : PySem.W.Frag} {tg : Expr} (it : Addr) (lo : Int) (n : Nat) : Turn P w K tg (Itr lo n) [it] it (fun i h => IsRangeIter h it (lo + (i : Nat) * 1) ((n : Int) - (i : Nat)) 1) where
  mem := by simp
  obj := fun i h st b hb => by
    have e : b = it := by simpa using hb
    subst e
    exact ⟨_, st, fun v z => by
      have z' : Data.fields _ = Data.cell v := z
      cases z'⟩
  keep := fun i h h' st k => k it (by simp) _ st
  item := by
    intro X hP hw hK hc i pins s σ H E I hf st hg
    subst hP hw hK
    obtain ⟨f0, f1, f2, f3, f4, f5⟩ := hf it (by simp)
    have W := Walks.range (prog := X.prog) (w := X.w) (I.ok.hd hc) it lo 1 n
    refine W.item i s _ _ hg st fun v h' tk hv st' kk => ?_
    obtain ⟨t, rfl⟩ := hv
    have I1 : Inv X pins σ H { s with heap := h', toks := tk } := I.turned (fun b o hb e => kk b o (by simpa using hb) e) f0 f1 f3 f4 f5
    refine ⟨_, rfl, go_of (s := { s with heap := h', toks := tk }) (n := "range_iterator") st' rfl rfl (by decide) ⟨.int (lo + i), H, I1, ⟨t, ?_⟩, ⟨rfl, rfl⟩, st', fun b hb => (hf b hb).1⟩⟩
    rw [Int.mul_one]
  done := by
    intro X hP hw hK hc i pins s σ H E I hf st hg
    subst hP hw hK
    obtain ⟨f0, f1, f2, f3, f4, f5⟩ := hf it (by simp)
    exact wpAny_pyNext_range_end (I.ok.hd hc) st (by have : n ≤ i := hg; omega) fun h' eb => ⟨rfl, I.turned (t' := s.toks) (fun b o hb e => eb b o hb e) f0 f1 f3 f4 f5⟩
  self := fun _ _ _ _ _ st h => wpAny_pyIter_rangeiter st h
end L2
namespace L2
open PySem PySem.Spec PyProof.Rows
section
variable {X : Cx} {tg : Expr}
theorem range_it {pins : List (Addr × Obj)} {σ : St} {H : Hp} {s : Shared} {R : It → Hp → Prop} {E : Value → Shared → Prop} {lo hi : Int} {t u v : Tok} {tk : Nat} (I : Inv X pins σ H s) (h1 : -(2 ^ 62) ≤ lo) (h2 : lo < 2 ^ 62) (h3 : -(2 ^ 62) ≤ hi) (h4 : hi < 2 ^ 62)
    (q : R (Itr lo (hi - lo).toNat) H) : wpAny (model X.prog X.w) X.A (pyIter (.ref s.heap.objs.size)) (PIE X pins σ tg R) E { s with heap := s.heap.push { cls := .type "range", data := .fields #[.int lo t, .int hi u, .int 1 v] }, toks := tk } := by
  refine wpAny_pyIter_range (IsRange.new ..) (small_one h1 h2 h3 h4) ?_
  have I1 : Inv X pins σ H { s with heap := s.heap.push { cls := .type "range", data := .fields #[.int lo t, .int hi u, .int 1 v] }, toks := tk } := I.kept fun b o e => Heap.get?_push_of_some _ e
  refine ⟨(s.heap.push { cls := .type "range", data := .fields #[.int lo t, .int hi u, .int 1 v] }).objs.size, [(s.heap.push { cls := .type "range", data := .fields #[.int lo t, .int hi u, .int 1 v] }).objs.size], _, _, H, rfl,
    I1.kept (t' := tk) fun b o e => Heap.get?_push_of_some _ e, turn_range _ lo (hi - lo).toNat, ?_, fun b hb => ?_, q⟩
  · have e1 : lo + ((0 : Nat) : Int) * 1 = lo := by simp
    have e2 : (((hi - lo).toNat : Nat) : Int) - ((0 : Nat) : Int) = Builtin.Range.rangeSize lo hi 1 := by rw [rangeSize_one]; split <;> omega
    show IsRangeIter _ _ (lo + ((0 : Nat) : Int) * 1) ((((hi - lo).toNat : Nat) : Int) - ((0 : Nat) : Int)) 1
    rw [e1, e2]
    exact Heap.get?_push_size _ rfl
  · have e : b = (s.heap.push { cls := .type "range", data := .fields #[.int lo t, .int hi u, .int 1 v] }).objs.size := by simpa using hb
    subst e
    exact I1.fpOk (Nat.le_refl _) (I1.hok.fresh (Nat.le_refl _))
def iRng1 (ta : TA) : TI := fun σ H R => ta σ H fun vs H1 => ∃ j : Int, vs = [.int j] ∧ -(2 ^ 62) ≤ j ∧ j < 2 ^ 62 ∧ R (Itr 0 j.toNat) H1
theorem pi_range1 {a : Expr} {ta : TA} {p pos : Pos} (hg : Gl X "range") (hm : X.mg "range" = none) (ha : PA X [a] ta) (hs : starEach [a] X.env = [(false, eval a X.env)] := by rfl) : PI X tg (.Call (.Name "range" p) [a] [] pos) (iRng1 ta) := by
  intro pins s σ H R I h
  refine Call_ (ld_blt I hg hm boot_range (PyProof.Rows.callWith_type1 (thn (ha pos pins s σ H _ I h) fun us s1 ⟨vs, H1, I1, r1, q1⟩ => ?_) hs rfl))
  obtain ⟨j, e, q1, q2, q⟩ := q1
  subst e
  cases r1 with
  | cons r rr =>
    cases rr
    obtain ⟨t, rfl⟩ := r
    exact call_range_1 (range_it I1 (by omega) (by omega) q1 q2 (by simpa using q))
def tFor (wi : TI) (g : TG) (tb : TS) : TS := fun D σ H => wi σ H fun J H1 => ∃ W : Nat → Nat → St → Hp → Prop, (∃ m, W 0 m σ H1) ∧ ∀ i m σ H, W i m σ H →
  (J.stop i H ∧ D.nx σ H) ∨ (J.go i H ∧ ∃ N : St → Hp → Prop, (∀ σ' H', N σ' H' → ∃ m', m' < m ∧ W (i + 1) m' σ' H') ∧ ∀ x H', J.yld i H x H' → g x σ H' fun σ2 H2 => tb { D with nx := N, ct := N, bk := D.nx } σ2 H2)
def pinsAt (fp : List Addr) (h : Heap) : List (Addr × Obj) := fp.filterMap fun b => (h.get? b).map fun o => (b, o)
theorem mem_pinsAt {fp : List Addr} {h : Heap} {b : Addr} {o : Obj} (hb : b ∈ fp) (e : h.get? b = some o) : (b, o) ∈ pinsAt fp h := List.mem_filterMap.mpr ⟨b, hb, by rw [e]; rfl⟩
theorem of_pinsAt {fp : List Addr} {h : Heap} {p : Addr × Obj} (hp : p ∈ pinsAt fp h) : p.1 ∈ fp ∧ h.get? p.1 = some p.2 := by
  obtain ⟨b, hb, e⟩ := List.mem_filterMap.mp hp
  cases q : h.get? b with
  | none => rw [q] at e; cases e
  | some o =>
    rw [q] at e
    have e' : (b, o) = p := Option.some.inj e
    subst e'
    exact ⟨hb, q⟩
theorem Inv.pinned {pins : List (Addr × Obj)} {σ : St} {H : Hp} {s : Shared} {fp : List Addr} (I : Inv X pins σ H s) (hf : ∀ b ∈ fp, FpOk X pins H b) (ho : ∀ b ∈ fp, ∃ o, s.heap.get? b = some o ∧ ∀ v, o.data ≠ .cell v) : Inv X (pins ++ pinsAt fp s.heap) σ H s :=
  I.pins_of fun p hp => (List.mem_append.mp hp).elim (fun z => I.pin p (List.mem_append_right _ z)) fun z => by
    obtain ⟨hb, e⟩ := of_pinsAt z
    obtain ⟨f0, f1, f2, _⟩ := hf p.1 hb
    obtain ⟨o, e', d⟩ := ho p.1 hb
    rw [e] at e'; cases e'
    exact ⟨e, f0, f1, f2, d⟩
theorem Inv.unpinned {pins pl : List (Addr × Obj)} {σ : St} {H : Hp} {s : Shared} (I : Inv X (pins ++ pl) σ H s) : Inv X pins σ H s := I.pins_of fun p hp => I.pin p (List.mem_append_right _ (List.mem_append_left _ hp))
theorem ps_for {iter : Expr} {body : List Stmt} {wi : TI} {g : TG} {tb : TS} {pos : Pos} (hp : PassesOwn (model X.prog X.w) X.A X.env X.xe) (hc : X.calm = true) (hi : PI X tg iter wi) (hg : PG X tg g) (hb : PSs X body tb)
    (hs : ∀ x, foldedSetIterable iter X.env x = pure x := by intro _; rfl) : PS X (.For tg iter body [] pos) (tFor wi g tb) := by
  intro pins s σ H D I h
  refine wpAny_For (thn (hi pins s σ H _ I h) fun v s1 h1 => thn h1 fun itv s2 h2 => ?_) hs
  obtain ⟨it, fp, tn, J, H2, e, I2, T, st2, f2, W, ⟨m0, w0⟩, turn⟩ := h2
  subst e
  -- what stays true of the iterator's objects through the loop
  have stat : ∀ {H' : Hp}, (∀ b ∈ fp, H' b = none) → ∀ b ∈ fp, FpOk X pins H' b := fun hn b hb => ⟨hn b hb, (f2 b hb).2⟩
  refine codeAny_forLoop_any (fun n s' => ∃ i σ' H', Inv X pins σ' H' s' ∧ tn i s'.heap ∧ (∀ b ∈ fp, H' b = none) ∧ W i n σ' H') ?_ m0 ⟨0, σ, H2, I2, st2, fun b hb => (f2 b hb).1, w0⟩
  rintro n s3 ⟨i, σ3, H3, I3, st3, fr3, w3⟩
  rcases turn i n σ3 H3 w3 with ⟨stop, qn⟩ | ⟨go, N, hN, step⟩
  · refine wpAny_passesOwn hp (thn (T.done X rfl rfl rfl hc i pins s3 σ3 H3 X.xe I3 (stat fr3) st3 stop) fun r s4 ⟨hr, I4⟩ => ?_)
    subst hr
    exact wpAny_execs_nil ⟨σ3, H3, I4, qn⟩
  · refine wpAny_passesOwn hp (thn (T.item X rfl rfl rfl hc i pins s3 σ3 H3 X.xe I3 (stat fr3) st3 go) fun r s4 ⟨u, hr, h4⟩ => ?_)
    subst hr
    refine wpAny_passesOwn hp (thn h4 fun _ s5 ⟨x, H5, I5, r5, y5, st5, fr5⟩ => ?_)
    have I5' := I5.pinned (stat fr5) (T.obj _ _ st5)
    refine wpAny_passesOwn hp (thn (hg _ s5 σ3 H5 x u _ I5' r5 (step x H5 y5)) fun _ s6 ⟨σ6, H6, I6, q6⟩ => ?_)
    refine wpAny_passesOwn hp (thn (hb _ s6 σ6 H6 _ I6 q6) fun f s7 q7 => ?_)
    have again : ∀ {σ7 : St} {H7 : Hp}, Inv X (pins ++ pinsAt fp s5.heap) σ7 H7 s7 → N σ7 H7 → ∃ m, m < n ∧ ∃ i σ' H', Inv X pins σ' H' s7 ∧ tn i s7.heap ∧ (∀ b ∈ fp, H' b = none) ∧ W i m σ' H' := fun {σ7 H7} I7 n7 => by
      obtain ⟨m', hm, w7⟩ := hN σ7 H7 n7
      refine ⟨m', hm, i + 1, σ7, H7, I7.unpinned, T.keep _ _ _ st5 fun b hb o e => (I7.pin (b, o) (List.mem_append_right _ (List.mem_append_right _ (mem_pinsAt hb e)))).1, fun b hb => ?_, w7⟩
      obtain ⟨o, e, d⟩ := T.obj _ _ st5 b hb
      exact (I7.pin (b, o) (List.mem_append_right _ (List.mem_append_right _ (mem_pinsAt hb e)))).2.1
    cases f with
    | next => obtain ⟨σ7, H7, I7, n7⟩ := q7; exact again I7 n7
    | cont => obtain ⟨σ7, H7, I7, n7⟩ := q7; exact again I7 n7
    | brk => obtain ⟨σ7, H7, I7, q7⟩ := q7; exact ⟨σ7, H7, I7.unpinned, q7⟩
    | ret v => obtain ⟨x7, σ7, H7, I7, r7, q7⟩ := q7; exact ⟨x7, σ7, H7, I7.unpinned, r7, q7⟩
end
theorem for_range {lo : Int} {n : Nat} {g : TG} {tb : TS} {D : Ends} {σ : St} {H : Hp} (Pv : Nat → St → Hp → Prop) (h0 : Pv 0 σ H)
    (hs : ∀ i σ H, i < n → Pv i σ H → g (.int (lo + i)) σ H fun σ2 H2 => tb { D with nx := Pv (i + 1), ct := Pv (i + 1), bk := D.nx } σ2 H2) (hd : ∀ σ H, Pv n σ H → D.nx σ H) :
    ∃ W : Nat → Nat → St → Hp → Prop, (∃ m, W 0 m σ H) ∧ ∀ i m σ H, W i m σ H →
      ((Itr lo n).stop i H ∧ D.nx σ H) ∨ ((Itr lo n).go i H ∧ ∃ N : St → Hp → Prop, (∀ σ' H', N σ' H' → ∃ m', m' < m ∧ W (i + 1) m' σ' H') ∧ ∀ x H', (Itr lo n).yld i H x H' → g x σ H' fun σ2 H2 => tb { D with nx := N, ct := N, bk := D.nx } σ2 H2) := by
  refine ⟨fun i m σ H => m = n - i ∧ i ≤ n ∧ Pv i σ H, ⟨n, by simp, Nat.zero_le _, h0⟩, ?_⟩
  rintro i m σ H ⟨rfl, hi, p⟩
  by_cases hlt : i < n
  · refine .inr ⟨hlt, Pv (i + 1), fun σ' H' p' => ⟨n - (i + 1), by omega, rfl, hlt, p'⟩, fun x H' y => ?_⟩
    obtain ⟨e, y⟩ := y
    subst e y
    exact hs i σ _ hlt p
  · have e : i = n := by omega
    subst e
    exact .inl ⟨Nat.le_refl _, hd σ H p⟩
end L2
namespace L2
open PySem PySem.Spec PyProof.Rows
abbrev R2 := V → V → Hp → VK → Prop
def OpR (X : Cx) (f : Value → Value → Sem Value) (r : R2) : Prop :=
  ∀ (pins : List (Addr × Obj)) (s : Shared) (σ : St) (H : Hp) (x y : V) (v u : Value) (Q : VK), Inv X pins σ H s → RelV x v → RelV y u → r x y H Q →
    wpAny (model X.prog X.w) X.A (f v u) (EP X pins σ Q) X.xe s
def UnR (X : Cx) (f : Value → Sem Value) (r : V → Hp → VK → Prop) : Prop :=
  ∀ (pins : List (Addr × Obj)) (s : Shared) (σ : St) (H : Hp) (x : V) (v : Value) (Q : VK), Inv X pins σ H s → RelV x v → r x H Q →
    wpAny (model X.prog X.w) X.A (f v) (EP X pins σ Q) X.xe s
def CallR (X : Cx) (f : Value) (r : List V → Hp → VK → Prop) : Prop :=
  ∀ (pins : List (Addr × Obj)) (s : Shared) (σ : St) (H : Hp) (xs : List V) (us : List Value) (Q : VK), Inv X pins σ H s → Vals xs us → r xs H Q →
    wpAny (model X.prog X.w) X.A (call f us) (EP X pins σ Q) X.xe s
def TruR (X : Cx) (r : V → Hp → (Bool → Hp → Prop) → Prop) : Prop :=
  ∀ (pins : List (Addr × Obj)) (s : Shared) (σ : St) (H : Hp) (x : V) (v : Value) (Q : Bool → Hp → Prop), Inv X pins σ H s → RelV x v → r x H Q →
    wpAny (model X.prog X.w) X.A (truthy v) (TP X pins σ Q) X.xe s
def tOp (r : R2) (ta tb : TE) : TE := fun σ H Q => ta σ H fun x H1 => tb σ H1 fun y H2 => r x y H2 Q
def tUn (r : V → Hp → VK → Prop) (ta : TE) : TE := fun σ H Q => ta σ H fun x H1 => r x H1 Q
def rI (C : Int → Int → Prop) (g : Int → Int → V) : R2 := fun x y H Q => ∃ i j, x = .int i ∧ y = .int j ∧ C i j ∧ Q (g i j) H
def rI0 (g : Int → Int → V) : R2 := fun x y H Q => ∃ i j, x = .int i ∧ y = .int j ∧ Q (g i j) H
def rU (g : Int → V) : V → Hp → VK → Prop := fun x H Q => ∃ i, x = .int i ∧ Q (g i) H
section
variable {X : Cx} {a b c : Expr} {ta tb tc : TE} {pos : Pos}
theorem binT (ha : PE X a ta) (hb : PE X b tb) {pins : List (Addr × Obj)} {s : Shared} {σ : St} {H : Hp} {R : V → V → Hp → Prop} (I : Inv X pins σ H s)
    (h : ta σ H fun x H1 => tb σ H1 fun y H2 => R x y H2) {Q : Value → Shared → Prop} {f : Value → Value → Sem Value}
    (hf : ∀ v u s2 x y H2, Inv X pins σ H2 s2 → RelV x v → RelV y u → R x y H2 → wpAny (model X.prog X.w) X.A (f v u) Q X.xe s2) :
    wpAny (model X.prog X.w) X.A (eval a X.env) (fun v s₁ => wpAny (model X.prog X.w) X.A (eval b X.env) (fun u s₂ => wpAny (model X.prog X.w) X.A (f v u) Q X.xe s₂) X.xe s₁) X.xe s := by
  refine thn (ha pins s σ H _ I h) fun v s1 ⟨x, H1, I1, r1, q1⟩ => ?_
  refine thn (hb pins s1 σ H1 _ I1 q1) fun u s2 ⟨y, H2, I2, r2, q2⟩ => ?_
  exact hf v u s2 x y H2 I2 r1 r2 q2
theorem pe_op {op : Operator} {r : R2} (ho : OpR X (binaryOp op) r) (ha : PE X a ta) (hb : PE X b tb) : PE X (.BinOp a op b pos) (tOp r ta tb) := by
  intro pins s σ H Q I h
  exact wpAny_BinOp (binT ha hb I h fun v u s2 x y H2 I2 rx ry q => ho pins s2 σ H2 x y v u Q I2 rx ry q)
theorem pe_un {op : UnaryOp} {r : V → Hp → VK → Prop} (ho : UnR X (unaryOp op) r) (ha : PE X a ta) : PE X (.UnaryOp op a pos) (tUn r ta) := by
  intro pins s σ H Q I h
  exact UnaryOp_ (thn (ha pins s σ H _ I h) fun v s1 ⟨x, H1, I1, r1, q1⟩ => ho pins s1 σ H1 x v Q I1 r1 q1)
theorem opI {f : Value → Value → Sem Value} {C : Int → Int → Prop} {g : Int → Int → Int}
    (rule : ∀ (i j : Int) (t u : Tok) (s : Shared) (Q : Value → Shared → Prop) (E : Value → Shared → Prop), C i j → Q (.int (g i j) s.toks) { s with toks := s.toks + 1 } → wpAny (model X.prog X.w) X.A (f (.int i t) (.int j u)) Q E s) :
    OpR X f (rI C fun i j => .int (g i j)) := by
  intro pins s σ H x y v u Q I rx ry h
  obtain ⟨i, j, rfl, rfl, hc, q⟩ := h
  obtain ⟨t, rfl⟩ := rx
  obtain ⟨t', rfl⟩ := ry
  exact rule i j t t' s _ _ hc ⟨.int (g i j), H, I.tok _, ⟨_, rfl⟩, q⟩
theorem opI0 {f : Value → Value → Sem Value} {g : Int → Int → Int}
    (rule : ∀ (i j : Int) (t u : Tok) (s : Shared) (Q : Value → Shared → Prop) (E : Value → Shared → Prop), Q (.int (g i j) s.toks) { s with toks := s.toks + 1 } → wpAny (model X.prog X.w) X.A (f (.int i t) (.int j u)) Q E s) :
    OpR X f (rI0 fun i j => .int (g i j)) := by
  intro pins s σ H x y v u Q I rx ry h
  obtain ⟨i, j, rfl, rfl, q⟩ := h
  obtain ⟨t, rfl⟩ := rx
  obtain ⟨t', rfl⟩ := ry
  exact rule i j t t' s _ _ ⟨.int (g i j), H, I.tok _, ⟨_, rfl⟩, q⟩
theorem opB0 {f : Value → Value → Sem Value} {g : Int → Int → Bool}
    (rule : ∀ (i j : Int) (t u : Tok) (s : Shared) (Q : Value → Shared → Prop) (E : Value → Shared → Prop), Q (.bool (g i j)) s → wpAny (model X.prog X.w) X.A (f (.int i t) (.int j u)) Q E s) :
    OpR X f (rI0 fun i j => .bl (g i j)) := by
  intro pins s σ H x y v u Q I rx ry h
  obtain ⟨i, j, rfl, rfl, q⟩ := h
  obtain ⟨t, rfl⟩ := rx
  obtain ⟨t', rfl⟩ := ry
  exact rule i j t t' s _ _ ⟨.bl (g i j), H, I, rfl, q⟩
def CDiv (i j : Int) : Prop := 0 < j ∧ j < 1073741824
def CPow (i j : Int) : Prop := 0 ≤ j ∧ j ≤ 1000000 ∧ i.natAbs < 2 ^ 64
def CMul (i j : Int) : Prop := (-(2 ^ 64) < i ∧ i < 2 ^ 64) ∨ (-(2 ^ 64) < j ∧ j < 2 ^ 64)
theorem CMul.ok {i j : Int} (h : CMul i j) : IntMulOk i j := by
  rcases h with ⟨h1, h2⟩ | ⟨h1, h2⟩
  · exact .of_left (intBits_le_64 h1 h2)
  · exact .of_right (intBits_le_64 h1 h2)
theorem two_pow_nn (k : Nat) : (0 : Int) ≤ 2 ^ k := by
  rw [two_pow_cast]
  exact Int.natCast_nonneg _
theorem op_add : OpR X (binaryOp .Add) (rI0 fun i j => .int (i + j)) := opI0 fun _ _ _ _ _ _ _ q => add_int q
theorem op_sub : OpR X (binaryOp .Sub) (rI0 fun i j => .int (i - j)) := opI0 fun _ _ _ _ _ _ _ q => sub_int q
theorem op_mul : OpR X (binaryOp .Mult) (rI CMul fun i j => .int (i * j)) := opI fun _ _ _ _ _ _ _ hc q => mul_int q hc.ok
theorem op_fdiv : OpR X (binaryOp .FloorDiv) (rI CDiv fun i j => .int (i / j)) := opI fun i j _ _ _ _ _ hc q => by
  have h1 : (0 : Int) < j := hc.1
  have h2 : j < 1073741824 := hc.2
  exact floordiv_int (by omega) (by rw [Int.fdiv_eq_ediv_of_nonneg i (by omega)]; exact q) (.inl (PyProof.noPylong_small (by omega)))
theorem op_mod : OpR X (binaryOp .Mod) (rI (fun _ j => 0 < j) fun i j => .int (i % j)) := opI fun i j _ _ _ _ _ hc q => by
  have h1 : (0 : Int) < j := hc
  exact mod_int' (by omega) (by rw [Int.fmod_eq_emod_of_nonneg i (by omega)]; exact q)
theorem op_shl : OpR X (binaryOp .LShift) (rI CPow fun i j => .int (i * 2 ^ j.toNat)) := opI fun _ _ _ _ _ _ _ hc q => lshift_int_small hc.1 hc.2.1 hc.2.2 q
theorem op_shr : OpR X (binaryOp .RShift) (rI (fun _ j => 0 ≤ j) fun i j => .int (i / 2 ^ j.toNat)) := opI fun i j _ _ _ _ _ hc q =>
  rshift_int hc (by rw [Int.fdiv_eq_ediv_of_nonneg i (two_pow_nn _)]; exact q)
theorem op_and : OpR X (binaryOp .BitAnd) (rI0 fun i j => .int (Builtin.bitAnd i j)) := opI0 fun _ _ _ _ _ _ _ q => and_int q
theorem op_or : OpR X (binaryOp .BitOr) (rI0 fun i j => .int (Builtin.bitOr i j)) := opI0 fun _ _ _ _ _ _ _ q => or_int q
theorem op_xor : OpR X (binaryOp .BitXor) (rI0 fun i j => .int (Builtin.bitXor i j)) := opI0 fun _ _ _ _ _ _ _ q => xor_int q
theorem unI {f : Value → Sem Value} {g : Int → Int}
    (rule : ∀ (i : Int) (t : Tok) (s : Shared) (Q : Value → Shared → Prop) (E : Value → Shared → Prop), Q (.int (g i) s.toks) { s with toks := s.toks + 1 } → wpAny (model X.prog X.w) X.A (f (.int i t)) Q E s) :
    UnR X f (rU fun i => .int (g i)) := by
  intro pins s σ H x v Q I rx h
  obtain ⟨i, rfl, q⟩ := h
  obtain ⟨t, rfl⟩ := rx
  exact rule i t s _ _ ⟨.int (g i), H, I.tok _, ⟨_, rfl⟩, q⟩
theorem un_neg : UnR X (unaryOp .USub) (rU fun i => .int (-i)) := unI fun _ _ _ _ _ q => neg_int q
end
def scal : V → V → Bool
  | .non, .non => true | .non, .int _ => true | .int _, .non => true | .non, .bl _ => true | .bl _, .non => true | .non, .str _ => true | .str _, .non => true
  | .int _, .int _ => true | .bl _, .bl _ => true | .str _, .str _ => true | .byt _, .byt _ => true
  | .int _, .str _ => true | .str _, .int _ => true | .bl _, .str _ => true | .str _, .bl _ => true
  | _, _ => false
def rEq : R2 := fun x y H Q => scal x y = true ∧ Q (.bl (decide (x = y))) H
def rNe : R2 := fun x y H Q => scal x y = true ∧ Q (.bl (!decide (x = y))) H
theorem dec_int {i j : Int} : decide (V.int i = V.int j) = (i == j) := by
  rw [Bool.eq_iff_iff]
  simp
theorem dec_bl {i j : Bool} : decide (V.bl i = V.bl j) = (i == j) := by
  rw [Bool.eq_iff_iff]
  simp
theorem dec_str {i j : Str} : decide (V.str i = V.str j) = (i == j) := by
  rw [Bool.eq_iff_iff]
  simp
theorem dec_byt {i j : Array UInt8} : decide (V.byt i = V.byt j) = (i.toList == j.toList) := by
  rw [Bool.eq_iff_iff]
  cases i
  cases j
  simp
section
variable {X : Cx} {a b c : Expr} {ta tb tc : TE} {pos : Pos}
theorem fin_bl {pins : List (Addr × Obj)} {σ : St} {H : Hp} {s : Shared} {Q : VK} {k k' : Bool} (I : Inv X pins σ H s) (q : Q (.bl k) H) (e : k = k') : EP X pins σ Q (.bool k') s := by
  subst e
  exact ⟨.bl k, H, I, rfl, q⟩
theorem op_eq : OpR X (compareOp .Eq) rEq := by
  intro pins s σ H x y v u Q I rx ry h
  obtain ⟨hs, q⟩ := h
  cases x with
  | non =>
    cases rx
    cases y with
    | non => cases ry; exact PySem.EqNone.eq_none_none (fin_bl I q (by simp))
    | bl j => cases ry; exact PySem.EqNone.eq_none_bool (fin_bl I q (by simp))
    | int j => obtain ⟨t', rfl⟩ := ry; exact PySem.EqNone.eq_none_int (fin_bl I q (by simp))
    | str j => obtain ⟨t', rfl⟩ := ry; exact PySem.EqNone.eq_none_str (fin_bl I q (by simp))
    | _ => exact absurd (show false = true from hs) Bool.false_ne_true
  | bl i =>
    cases rx
    cases y with
    | non => cases ry; exact PySem.EqNone.eq_bool_none (fin_bl I q (by simp))
    | bl j => cases ry; exact eq_bool (fin_bl I q dec_bl)
    | str j => obtain ⟨t', rfl⟩ := ry; exact PySem.EqMixed.eq_bool_str (fin_bl I q (by simp))
    | _ => exact absurd (show false = true from hs) Bool.false_ne_true
  | int i =>
    obtain ⟨t, rfl⟩ := rx
    cases y with
    | non => cases ry; exact PySem.EqNone.eq_int_none (fin_bl I q (by simp))
    | int j => obtain ⟨t', rfl⟩ := ry; exact eq_int (fin_bl I q dec_int)
    | str j => obtain ⟨t', rfl⟩ := ry; exact PySem.EqMixed.eq_int_str (fin_bl I q (by simp))
    | _ => exact absurd (show false = true from hs) Bool.false_ne_true
  | str i =>
    obtain ⟨t, rfl⟩ := rx
    cases y with
    | non => cases ry; exact PySem.EqNone.eq_str_none (fin_bl I q (by simp))
    | bl j => cases ry; exact PySem.EqMixed.eq_str_bool (fin_bl I q (by simp))
    | int j => obtain ⟨t', rfl⟩ := ry; exact PySem.EqMixed.eq_str_int (fin_bl I q (by simp))
    | str j => obtain ⟨t', rfl⟩ := ry; exact eq_str (fin_bl I q dec_str)
    | _ => exact absurd (show false = true from hs) Bool.false_ne_true
  | byt i =>
    obtain ⟨t, rfl⟩ := rx
    cases y with
    | byt j => obtain ⟨t', rfl⟩ := ry; exact PySem.W.eq_bytes (fin_bl I q dec_byt)
    | _ => exact absurd (show false = true from hs) Bool.false_ne_true
  | _ => cases y <;> exact absurd (show false = true from hs) Bool.false_ne_true
theorem op_ne : OpR X (compareOp .NotEq) rNe := by
  intro pins s σ H x y v u Q I rx ry h
  obtain ⟨hs, q⟩ := h
  cases x with
  | non =>
    cases rx
    cases y with
    | non => cases ry; exact PySem.EqNone.ne_none_none (fin_bl I q (by simp))
    | bl j => cases ry; exact PySem.EqNone.ne_none_bool (fin_bl I q (by simp))
    | int j => obtain ⟨t', rfl⟩ := ry; exact PySem.EqNone.ne_none_int (fin_bl I q (by simp))
    | str j => obtain ⟨t', rfl⟩ := ry; exact PySem.EqNone.ne_none_str (fin_bl I q (by simp))
    | _ => exact absurd (show false = true from hs) Bool.false_ne_true
  | bl i =>
    cases rx
    cases y with
    | non => cases ry; exact PySem.EqNone.ne_bool_none (fin_bl I q (by simp))
    | bl j => cases ry; exact ne_bool (fin_bl I q (congrArg not dec_bl))
    | str j => obtain ⟨t', rfl⟩ := ry; exact PySem.EqMixed.ne_bool_str (fin_bl I q (by simp))
    | _ => exact absurd (show false = true from hs) Bool.false_ne_true
  | int i =>
    obtain ⟨t, rfl⟩ := rx
    cases y with
    | non => cases ry; exact PySem.EqNone.ne_int_none (fin_bl I q (by simp))
    | int j => obtain ⟨t', rfl⟩ := ry; exact ne_int (fin_bl I q (congrArg not dec_int))
    | str j => obtain ⟨t', rfl⟩ := ry; exact PySem.EqMixed.ne_int_str (fin_bl I q (by simp))
    | _ => exact absurd (show false = true from hs) Bool.false_ne_true
  | str i =>
    obtain ⟨t, rfl⟩ := rx
    cases y with
    | non => cases ry; exact PySem.EqNone.ne_str_none (fin_bl I q (by simp))
    | bl j => cases ry; exact PySem.EqMixed.ne_str_bool (fin_bl I q (by simp))
    | int j => obtain ⟨t', rfl⟩ := ry; exact PySem.EqMixed.ne_str_int (fin_bl I q (by simp))
    | str j => obtain ⟨t', rfl⟩ := ry; exact ne_str (fin_bl I q (congrArg not dec_str))
    | _ => exact absurd (show false = true from hs) Bool.false_ne_true
  | byt i =>
    obtain ⟨t, rfl⟩ := rx
    cases y with
    | byt j => obtain ⟨t', rfl⟩ := ry; exact PySem.W.ne_bytes (fin_bl I q (congrArg not dec_byt))
    | _ => exact absurd (show false = true from hs) Bool.false_ne_true
  | _ => cases y <;> exact absurd (show false = true from hs) Bool.false_ne_true
theorem op_lt : OpR X (compareOp .Lt) (rI0 fun i j => .bl (decide (i < j))) := opB0 fun _ _ _ _ _ _ _ q => lt_int q
theorem op_le : OpR X (compareOp .LtE) (rI0 fun i j => .bl (decide (i ≤ j))) := opB0 fun _ _ _ _ _ _ _ q => le_int q
theorem op_gt : OpR X (compareOp .Gt) (rI0 fun i j => .bl (decide (j < i))) := opB0 fun _ _ _ _ _ _ _ q => gt_int q
theorem op_ge : OpR X (compareOp .GtE) (rI0 fun i j => .bl (decide (j ≤ i))) := opB0 fun _ _ _ _ _ _ _ q => ge_int q
theorem op_isN : OpR X (compareOp .Is) (fun x y H Q => y = .non ∧ Q (.bl (decide (x = .non))) H) := by
  intro pins s σ H x y v u Q I rx ry h
  obtain ⟨rfl, q⟩ := h
  cases ry
  refine is_none_gen (fin_bl I q ?_)
  cases x <;> first
    | (cases rx; rfl)
    | (obtain ⟨t, rfl⟩ := rx; rfl)
theorem op_notN : OpR X (compareOp .IsNot) (fun x y H Q => y = .non ∧ Q (.bl (!decide (x = .non))) H) := by
  intro pins s σ H x y v u Q I rx ry h
  obtain ⟨rfl, q⟩ := h
  cases ry
  refine isnot_none_gen (fin_bl I q ?_)
  cases x <;> first
    | (cases rx; rfl)
    | (obtain ⟨t, rfl⟩ := rx; rfl)
theorem OpR.or {f : Value → Value → Sem Value} {r r' : R2} (h : OpR X f r) (h' : OpR X f r') : OpR X f (fun x y H Q => r x y H Q ∨ r' x y H Q) := by
  intro pins s σ H x y v u Q I rx ry q
  rcases q with q | q
  · exact h pins s σ H x y v u Q I rx ry q
  · exact h' pins s σ H x y v u Q I rx ry q
theorem nomark (b : Expr) {op : CmpOp} (h : op ≠ .In := by decide) (h2 : op ≠ .NotIn := by decide) : behindInMarks op b = false := by
  have e1 : (op == CmpOp.In) = false := by cases op <;> first | rfl | exact absurd rfl h
  have e2 : (op == CmpOp.NotIn) = false := by cases op <;> first | rfl | exact absurd rfl h2
  cases b <;> simp [behindInMarks, e1, e2]
theorem pe_cmpR {op : CmpOp} {r : R2} (ho : OpR X (compareOp op) r) (ha : PE X a ta) (hb : PE X b tb) (hm : behindInMarks op b = false) : PE X (.Compare a [op] [b] pos) (tOp r ta tb) := by
  intro pins s σ H Q I h
  exact wpAny_Compare1 (binT ha hb I h fun v u s2 x y H2 I2 rx ry q => ho pins s2 σ H2 x y v u Q I2 rx ry q) hm
def tTest (t : TE) : TT := fun σ H Q => t σ H fun x H' => ∃ k, x = .bl k ∧ Q k H'
theorem pt_cmpR {op : CmpOp} {r : R2} (ho : OpR X (compareOp op) r) (ha : PE X a ta) (hb : PE X b tb) (hm : behindInMarks op b = false) : PT X (.Compare a [op] [b] pos) (tTest (tOp r ta tb)) := by
  intro pins s σ H Q I h
  refine wpAny_isTrue_Compare1 (thn (ha pins s σ H _ I h) fun v s1 ⟨x, H1, I1, r1, q1⟩ => thn (hb pins s1 σ H1 _ I1 q1) fun u s2 ⟨y, H2, I2, r2, q2⟩ =>
    thn (ho pins s2 σ H2 x y v u _ I2 r1 r2 q2) fun c s3 ⟨z, H3, I3, r3, k, e, q3⟩ => ?_) hm
  subst e
  cases r3
  exact wpAny_truthy_bool ⟨H3, I3, q3⟩
def tChain (r r' : R2) (ta tb tc : TE) : TE := fun σ H Q => ta σ H fun x H1 => tb σ H1 fun y H2 => r x y H2 fun z H3 => ∃ k, z = .bl k ∧
  (if k = true then tc σ H3 fun w' H4 => r' y w' H4 Q else Q (.bl false) H3)
theorem pe_chain {op op' : CmpOp} {r r' : R2} (ho : OpR X (compareOp op) r) (ho' : OpR X (compareOp op') r') (ha : PE X a ta) (hb : PE X b tb) (hc : PE X c tc)
    (hm : lastMarks [op, op'] [b, c] = false := by with_unfolding_all rfl) : PE X (.Compare a [op, op'] [b, c] pos) (tChain r r' ta tb tc) := by
  intro pins s σ H Q I h
  refine Compare_chain (thn (ha pins s σ H _ I h) fun v s1 ⟨x, H1, I1, r1, q1⟩ => chain_link (thn (hb pins s1 σ H1 _ I1 q1) fun u s2 ⟨y, H2, I2, r2, q2⟩ =>
    thn (ho pins s2 σ H2 x y v u _ I2 r1 r2 q2) fun d s3 ⟨z, H3, I3, r3, k, e, q3⟩ => ?_)) hm
  subst e
  cases r3
  refine wpAny_truthy_bool ?_
  cases k with
  | false => exact ite_ff ⟨.bl false, H3, I3, rfl, q3⟩
  | true => exact ite_tt (chain_last (thn (hc pins s3 σ H3 _ I3 q3) fun w' s4 ⟨z', H4, I4, r4, q4⟩ => ho' pins s4 σ H4 y z' u w' Q I4 r2 r4 q4))
theorem pt_chain {op op' : CmpOp} {r r' : R2} (ho : OpR X (compareOp op) r) (ho' : OpR X (compareOp op') r') (ha : PE X a ta) (hb : PE X b tb) (hc : PE X c tc)
    (hm : lastMarks [op, op'] [b, c] = false := by with_unfolding_all rfl) : PT X (.Compare a [op, op'] [b, c] pos) (tTest (tChain r r' ta tb tc)) := by
  intro pins s σ H Q I h
  refine isTrue_chain (thn (ha pins s σ H _ I h) fun v s1 ⟨x, H1, I1, r1, q1⟩ => test_link (thn (hb pins s1 σ H1 _ I1 q1) fun u s2 ⟨y, H2, I2, r2, q2⟩ =>
    thn (ho pins s2 σ H2 x y v u _ I2 r1 r2 q2) fun d s3 ⟨z, H3, I3, r3, k, e, q3⟩ => ?_)) hm
  subst e
  cases r3
  refine wpAny_truthy_bool ?_
  cases k with
  | false =>
    obtain ⟨k', e', q'⟩ := q3
    cases e'
    exact ite_ff ⟨H3, I3, q'⟩
  | true =>
    refine ite_tt (test_last (thn (hc pins s3 σ H3 _ I3 q3) fun w' s4 ⟨z', H4, I4, r4, q4⟩ => thn (ho' pins s4 σ H4 y z' u w' _ I4 r2 r4 q4) fun d' s5 ⟨z2, H5, I5, r5, k2, e2, q5⟩ => ?_))
    subst e2
    cases r5
    exact wpAny_truthy_bool ⟨H5, I5, q5⟩
def TruV (K : PySem.W.Frag) (x : V) (H : Hp) (k : Bool) : Prop :=
  match x with
  | .non => k = false
  | .bl b => k = b
  | .int i => k = (i != 0)
  | .str y => y.length ≤ sizeLine ∧ k = ((y.length : Int) != 0)
  | .byt y => y.size ≤ sizeLine ∧ k = ((y.size : Int) != 0)
  | .ref p => (∃ xs, SqL K H p xs ∧ k = !xs.isEmpty) ∨ (∃ xs, SqT K H p xs ∧ k = !xs.isEmpty) ∨ ∃ kvs, H p = some (.dK kvs) ∧ k = !kvs.isEmpty
  | _ => False
theorem isEmpty_kv {κ : Type} {kvs : List (κ × V)} {vs : List (κ × Value)} (r : KV kvs vs) : (!vs.isEmpty) = !kvs.isEmpty := by
  cases r <;> rfl
theorem isEmpty_of {xs : List V} {its : List Value} (r : Vals xs its) : (!its.toArray.isEmpty) = !xs.isEmpty := by
  cases r <;> simp
theorem line63 : (sizeLine : Nat) < 2 ^ 63 := by rw [sizeLine_eq]; decide
theorem tru_ok : TruR X (fun x H Q => ∃ k, TruV X.K x H k ∧ Q k H) := by
  intro pins s σ H x v Q I rx h
  obtain ⟨k, e, q⟩ := h
  have hl := line63
  have hs : sizeLine = 16777216 := sizeLine_eq
  cases x with
  | non =>
    cases rx
    have e' : k = false := e
    subst e'
    exact truthy_none ⟨H, I, q⟩
  | bl b =>
    cases rx
    have e' : k = b := e
    subst e'
    exact wpAny_truthy_bool ⟨H, I, q⟩
  | int i =>
    obtain ⟨t, rfl⟩ := rx
    have e' : k = (i != 0) := e
    subst e'
    exact PySem.P.truthy_int ⟨H, I, q⟩
  | str y =>
    obtain ⟨t, rfl⟩ := rx
    obtain ⟨hy, e'⟩ : y.length ≤ sizeLine ∧ k = ((y.length : Int) != 0) := e
    subst e'
    exact PySem.P.truthy_str (by omega) ⟨H, I.tok _, q⟩
  | byt y =>
    obtain ⟨t, rfl⟩ := rx
    obtain ⟨hy, e'⟩ : y.size ≤ sizeLine ∧ k = ((y.size : Int) != 0) := e
    subst e'
    exact PySem.W.truthy_bytes (by omega) ⟨H, I.tok _, q⟩
  | ref p =>
    cases rx
    have e' : (∃ xs, SqL X.K H p xs ∧ k = !xs.isEmpty) ∨ (∃ xs, SqT X.K H p xs ∧ k = !xs.isEmpty) ∨ ∃ kvs, H p = some (.dK kvs) ∧ k = !kvs.isEmpty := e
    rcases e' with ⟨xs, hx, e'⟩ | ⟨xs, hx, e'⟩ | ⟨kvs, hx, e'⟩
    · subst e'
      obtain ⟨its, r, pl, hz⟩ := I.list hx
      have hlen := r.length
      exact wpAny_truthy_list pl.isList (by simp only [List.size_toArray]; omega) ⟨H, I.tok _, by rw [isEmpty_of r]; exact q⟩
    · subst e'
      obtain ⟨its, r, pl, hz⟩ := I.tuple hx
      have hlen := r.length
      exact truthy_tuple pl (by simp only [List.size_toArray]; omega) ⟨H, I.tok _, by rw [isEmpty_of r]; exact q⟩
    · subst e'
      obtain ⟨hz, hS, vs, r, m⟩ : kvs.length ≤ sizeLine ∧ (p == sysModules) = false ∧ ∃ vs, KV kvs vs ∧ s.heap.DictOf (mixKind X.prog X.w) p vs := I.hok p _ hx
      have hlen : kvs.length = vs.length := Paired.length r
      exact wpAny_truthy_dict hS m (by omega) ⟨H, I.tok _, by rw [isEmpty_kv r]; exact q⟩
  | _ => exact (show False from e).elim
theorem pt_truth (ha : PE X a ta) (he : ∀ whole, isTrue a X.env whole = (do let v ← whole; standAt a.pos; holding [v] (truthy v))) :
    PT X a (fun σ H Q => ta σ H fun x H' => ∃ k, TruV X.K x H' k ∧ Q k H') := by
  intro pins s σ H Q I h
  exact isTrue_plain (thn (ha pins s σ H _ I h) fun v s1 ⟨x, H1, I1, r1, q1⟩ => tru_ok pins s1 σ H1 x v Q I1 r1 q1) (he _)
theorem vals1 {x : V} {us : List Value} (r : Vals [x] us) : ∃ u, us = [u] ∧ RelV x u := by
  cases r with
  | cons r1 r2 => cases r2; exact ⟨_, rfl, r1⟩
theorem call_abs : CallR X (.builtin "abs") (fun xs H Q => ∃ i, xs = [.int i] ∧ Q (.int (if i < 0 then -i else i)) H) := by
  intro pins s σ H xs us Q I r h
  obtain ⟨i, rfl, q⟩ := h
  obtain ⟨u, rfl, t, rfl⟩ := vals1 r
  exact call_abs_int fun u tk => ⟨.int (if i < 0 then -i else i), H, I.tok _, ⟨_, rfl⟩, q⟩
theorem call_int1 : CallR X (.type "int") (fun xs H Q => (∃ i, xs = [.int i] ∧ Q (.int i) H) ∨ ∃ k, xs = [.bl k] ∧ Q (.int (if k then 1 else 0)) H) := by
  intro pins s σ H xs us Q I r h
  rcases h with ⟨i, rfl, q⟩ | ⟨k, rfl, q⟩
  · obtain ⟨u, rfl, t, rfl⟩ := vals1 r
    exact call_int_int ⟨.int i, H, I, ⟨_, rfl⟩, q⟩
  · obtain ⟨u, rfl, r1⟩ := vals1 r
    cases r1
    exact call_int_bool ⟨.int (if k then 1 else 0), H, I.tok _, ⟨_, rfl⟩, q⟩
end
end L2
namespace L2
open PySem PySem.Spec PyProof.Rows
structure ObjM (h : Heap) (x dx C : Addr) (mA : Str → Option Value) : Prop where
  obj : h.get? x = some (PySem.W.instObj C dx)
  ns : h.Ns1 dx mA
  ne : dx ≠ x
theorem lookIn_ns {h : Heap} {dx : Addr} {mA : Str → Option Value} (n : h.Ns1 dx mA) : ∃ od, h.get? dx = some od ∧ ∀ name, PySem.W.lookIn name od = some (mA name) := by
  obtain ⟨o, es, ep, ho, hd, hk, _, hm⟩ := n
  refine ⟨o, ho, fun name => ?_⟩
  have e := hm name
  unfold nsFind findBy at e
  rw [← Array.find?_toList] at e
  unfold PySem.W.lookIn
  rw [hd]
  dsimp only
  split
  · rename_i y q
    rw [q] at e
    exact congrArg some e
  · rename_i q
    rw [q] at e
    have a : es.toList.any (·.refKey) = false := by
      rw [List.any_eq_false]
      intro y hy
      obtain ⟨z, t, hkey⟩ := hk y (Array.mem_toList_iff.mp hy)
      simp [DictEntry.refKey, hkey]
    have a' : ¬ es.toList.any (·.refKey) = true := by rw [a]; exact Bool.false_ne_true
    rw [if_neg a']
    exact congrArg some e
theorem ObjM.look {h : Heap} {x dx C : Addr} {mA : Str → Option Value} (I : ObjM h x dx C mA) : ∃ od, PySem.W.InstAt h x (PySem.W.instObj C dx) C (some od) ∧ ∀ name, PySem.W.lookIn name od = some (mA name) :=
  let ⟨od, ho, hl⟩ := lookIn_ns I.ns
  ⟨od, ⟨I.obj, rfl, rfl, ho⟩, hl⟩
section
variable {prog : Program} {w : World} {A : Around} {E : Value → Shared → Prop} {s : Shared} {K : PySem.W.Frag} {x dx C f : Addr} {mA : Str → Option Value} {name : Str} {v : Value}
theorem get_map {expr : Bool} {Q : Value → Shared → Prop} (X : K.In s.heap) (I : ObjM s.heap x dx C mA) (hg : PySem.W.plainGet K C name = true) (hh : PySem.W.hasDictIn K C = true)
    (ha : PySem.W.findIn K (.ref C) name = some none) (hv : mA name = some v) (hv' : PySem.W.handedIn v = true) (h : Q v { s with toks := s.toks + 1 }) :
    wpAny (model prog w) A (getAttr (.ref x) name expr) Q E s := by
  obtain ⟨od, J, hl⟩ := I.look
  exact PySem.W.get_value X J (PySem.W.plainGet_of hg).1 (PySem.W.findObj_own hh ha rfl (by rw [hl, hv])) hv' h
theorem get_meth {pl : Sem Bool} {Q : Value × List Value → Shared → Prop} (X : K.In s.heap) (I : ObjM s.heap x dx C mA) (hg : PySem.W.plainGet K C name = true)
    (hf : PySem.W.findIn K (.ref C) name = some (some (.ref f))) (ht : PySem.W.isFn K (.ref f) = true) (hv : mA name = none) (h : Q (.ref f, [.ref x]) s) :
    wpAny (model prog w) A (getMethod (.ref x) name pl) Q E s := by
  obtain ⟨od, J, hl⟩ := I.look
  exact PySem.W.method_fn X J (PySem.W.plainGet_of hg).1 (PySem.W.plainGet_of hg).2 hf (beq_iff_eq.mp ht) (by show (PySem.W.lookIn name od).map (·.isSome) = some false; rw [hl, hv]; rfl) h
theorem set_map {ns : List Str} {Q : Unit → Shared → Prop} (X : K.In s.heap) (I : ObjM s.heap x dx C mA)
    (hs : PySem.W.findIn K (.ref C) "__setattr__" = some (some (.builtin "object.__setattr__"))) (hp : PySem.W.plainOver K C = true) (ht : PySem.W.takerIn K C name = some none) (hh : PySem.W.hasDictIn K C = true)
    (hw : PySem.Within mA ns) (hsz : ns.length ≤ sizeLine)
    (h : ∀ h', ObjM h' x dx C (fun y => if y = name then some v else mA y) → Heap.SameBut dx s.heap h' → Q () { s with heap := h', toks := s.toks + 2 }) :
    wpAny (model prog w) A (setAttr (.ref x) name v) Q E s := by
  obtain ⟨od, J, hl⟩ := I.look
  refine PySem.W.set_plain X J hs (PySem.W.osa_open (s := { s with toks := s.toks + 1 }) (r := none) X J hp ht fun b => ?_)
  obtain ⟨cd, hc, hd'⟩ := PySem.W.any_some hh
  have hx : s.heap.get? x = some ⟨.ref C, some dx, .plain, #[]⟩ := I.obj
  refine wpAny_bind (wpAny_pure (wpAny_bind (wpAny_bind (wpAny_loadPart hx (wpAny_bind (PySem.W.Looks.here (s := { s with toks := s.toks + 1 }) (PySem.W.looks_clsIn X hc) ?_))))))
  rw [hd']
  refine wpAny_pure (a := some dx) (wpAny_bind (wpAny_pure (wpAny_bind ?_)))
  refine wpAny_nsSet1 (s := { s with toks := s.toks + 1 }) I.ns fun h' hn2 hs2 => ?_
  obtain ⟨oD, esD, epD, hoD, hdD, hcD⟩ := hn2.count (PySem.Within.cons name v hw)
  refine wpAny_bind (wpAny_lookBehind hoD (by rw [hdD]; exact pastItsLine_dict (Nat.le_trans hcD (by rw [List.length_cons]; omega))) ?_)
  exact wpAny_pure (h _ ⟨(hs2.2 _ (Ne.symm I.ne)).trans I.obj, hn2, I.ne⟩ hs2)
theorem make_map {R : Result → Shared → Prop} {vs : List Value} {kw : List (Str × Value)} (X : K.In s.heap) (hm : PySem.W.makesIn K C = true)
    (hi : PySem.W.findIn K (.ref C) "__init__" = some (some (.ref f))) (hf : PySem.W.typeIn K (.ref f) = some (.type "function"))
    (h : codeAny (model prog w) (A.under (.builtin "type.__call__" ⟨.ref C :: vs, kw⟩)) (.call (.ref f) ⟨.ref (s.heap.objs.size + 1) :: vs, kw⟩) (PySem.W.InitBack (s.heap.objs.size + 1) R)
      { s with heap := (s.heap.push PySem.W.emptyDict).push (PySem.W.instObj C s.heap.objs.size) }) :
    codeAny (model prog w) A (.call (.ref C) ⟨vs, kw⟩) R s := by
  obtain ⟨hh, g, d, t, os⟩ := s
  exact PySem.W.make_core (PySem.W.makes_of X hm) (PySem.W.looks_findIn X hi) (fun self => PySem.W.bind_fn X self hf) (.inl rfl) h
end
def putF (f : Str) (v : V) : List (Str × V) → List (Str × V)
  | [] => [(f, v)]
  | (g, x) :: r => if g = f then (g, v) :: r else (g, x) :: putF f v r
theorem lookup_putF (f g : Str) (v : V) : ∀ fs : List (Str × V), (putF f v fs).lookup g = if g = f then some v else fs.lookup g
  | [] => by
    show List.lookup g [(f, v)] = _
    by_cases h : g = f
    · have hb : (g == f) = true := beq_iff_eq.mpr h
      simp only [List.lookup, hb, if_pos h]
    · have hb : (g == f) = false := beq_eq_false_iff_ne.mpr h
      simp only [List.lookup, hb, if_neg h]
  | (k, x) :: r => by
    have ih := lookup_putF f g v r
    rw [show putF f v ((k, x) :: r) = (if k = f then (k, v) :: r else (k, x) :: putF f v r) from rfl]
    by_cases hk : k = f
    · rw [if_pos hk]
      by_cases h : g = k
      · have hb : (g == k) = true := beq_iff_eq.mpr h
        simp only [List.lookup, hb, if_pos (h.trans hk)]
      · have hb : (g == k) = false := beq_eq_false_iff_ne.mpr h
        simp only [List.lookup, hb, if_neg (fun e : g = f => h (e.trans hk.symm))]
    · rw [if_neg hk]
      by_cases h : g = k
      · have hb : (g == k) = true := beq_iff_eq.mpr h
        simp only [List.lookup, hb, if_neg (fun e : g = f => hk (h.symm.trans e))]
      · have hb : (g == k) = false := beq_eq_false_iff_ne.mpr h
        simp only [List.lookup, hb]
        exact ih
theorem keys_putF (f : Str) (v : V) : ∀ fs : List (Str × V), f ∈ (putF f v fs).map (·.1) ∧ ∀ g, g ∈ fs.map (·.1) → g ∈ (putF f v fs).map (·.1)
  | [] => ⟨by simp [putF], fun g h => by simp at h⟩
  | (k, x) :: r => by
    obtain ⟨i1, i2⟩ := keys_putF f v r
    rw [show putF f v ((k, x) :: r) = (if k = f then (k, v) :: r else (k, x) :: putF f v r) from rfl]
    by_cases hk : k = f
    · rw [if_pos hk]
      subst hk
      exact ⟨by simp, fun g h => by simpa using h⟩
    · rw [if_neg hk]
      refine ⟨?_, fun g h => ?_⟩
      · rw [List.map_cons]
        exact List.mem_cons_of_mem _ i1
      · rw [List.map_cons] at h ⊢
        rcases List.mem_cons.mp h with e | e
        · exact List.mem_cons.mpr (.inl e)
        · exact List.mem_cons_of_mem _ (i2 g e)
theorem length_putF (f : Str) (v : V) : ∀ fs : List (Str × V), (putF f v fs).length ≤ fs.length + 1
  | [] => by simp [putF]
  | (k, x) :: r => by
    have ih := length_putF f v r
    rw [show putF f v ((k, x) :: r) = (if k = f then (k, v) :: r else (k, x) :: putF f v r) from rfl]
    by_cases hk : k = f
    · rw [if_pos hk, List.length_cons, List.length_cons]; omega
    · rw [if_neg hk, List.length_cons, List.length_cons]; omega
theorem RelO.some_of {v : V} {o : Option Value} (r : RelO (some v) o) : ∃ u, o = some u ∧ RelV v u := by
  cases o with
  | none => exact (show False from r).elim
  | some u => exact ⟨u, rfl, r⟩
theorem RelO.none_of {o : Option Value} (r : RelO none o) : o = none := by
  cases o with
  | none => rfl
  | some u => exact (show False from r).elim
theorem handed_of {v : V} {u : Value} (r : RelV v u) : PySem.W.handedIn u = true := by
  cases v with
  | non => cases (show u = Value.none from r); rfl
  | bl b => cases (show u = Value.bool b from r); rfl
  | int i => obtain ⟨t, e⟩ := (show ∃ t, u = Value.int i t from r); cases e; rfl
  | str x => obtain ⟨t, e⟩ := (show ∃ t, u = Value.str x t from r); cases e; rfl
  | byt b => obtain ⟨t, e⟩ := (show ∃ t, u = Value.bytes b t from r); cases e; rfl
  | flt b => obtain ⟨t, e⟩ := (show ∃ t, u = Value.float b t from r); cases e; rfl
  | ref a => cases (show u = Value.ref a from r); rfl
  | ty n => cases (show u = Value.type n from r); rfl
section
variable {P : Program} {w : World} {H H' : Hp} {h h' : Heap} {a C dx : Addr} {fs fs' : List (Str × V)}
theorem ins_get (hok : HOk P w H h) (e : H a = some (.ins C dx fs)) : ∃ mA, ObjM h a dx C mA ∧ (∀ f, RelO (fs.lookup f) (mA f)) ∧ PySem.Within mA (fs.map (·.1)) ∧ fs.length ≤ 1000 ∧ H dx = some (.own a) := by
  obtain ⟨d, z, ne, ob, mA, n, r, q⟩ := (show ObjOk P w H h a (.ins C dx fs) from hok a _ e)
  exact ⟨mA, ⟨ob, n, ne⟩, r, q, z, d⟩
end
structure Cls (K : PySem.W.Frag) (C : Addr) : Prop where
  pg : PySem.W.plainGet K C Str.empty = true
  hd : PySem.W.hasDictIn K C = true
  po : PySem.W.plainOver K C = true
  sa : PySem.W.findIn K (.ref C) "__setattr__" = some (some (.builtin "object.__setattr__"))
theorem Cls.get {K : PySem.W.Frag} {C : Addr} (c : Cls K C) (f : Str) : PySem.W.plainGet K C f = true := c.pg
def NoAttr (K : PySem.W.Frag) (C : Addr) (f : Str) : Prop := PySem.W.findIn K (.ref C) f = some none
theorem NoAttr.taker {K : PySem.W.Frag} {C : Addr} {f : Str} (n : NoAttr K C f) : PySem.W.takerIn K C f = some none := by
  unfold PySem.W.takerIn
  rw [show PySem.W.findIn K (.ref C) f = some none from n]
  rfl
structure Meth (K : PySem.W.Frag) (C : Addr) (m : Str) (f : Addr) : Prop where
  at_ : PySem.W.findIn K (.ref C) m = some (some (.ref f))
  fn : PySem.W.isFn K (.ref f) = true
  kp : PySem.W.keepIn K (.ref f) = true
section
variable {X : Cx} {pins : List (Addr × Obj)} {σ : St} {H : Hp} {s : Shared} {a C dx : Addr} {fs : List (Str × V)} {f : Str} {v : V} {A : Around} {E : Value → Shared → Prop}
theorem getattr_ok {b : Bool} {Q : Value → Shared → Prop} (I : Inv X pins σ H s) (e : H a = some (.ins C dx fs)) (c : Cls X.K C) (n : NoAttr X.K C f) (l : fs.lookup f = some v)
    (h : ∀ u s', Inv X pins σ H s' → RelV v u → Q u s') : wpAny (model X.prog X.w) A (getAttr (.ref a) f b) Q E s := by
  obtain ⟨mA, O, r, _, _, _⟩ := ins_get I.hok e
  obtain ⟨u, hu, ru⟩ := RelO.some_of (v := v) (o := mA f) (by rw [← l]; exact r f)
  exact get_map I.kIn O (c.get f) c.hd n hu (handed_of ru) (h u _ (I.tok _) ru)
theorem getmeth_ok {m : Str} {g : Addr} {pl : Sem Bool} {Q : Value × List Value → Shared → Prop} (I : Inv X pins σ H s) (e : H a = some (.ins C dx fs)) (c : Cls X.K C) (k : Meth X.K C m g) (l : fs.lookup m = none)
    (h : Q (.ref g, [.ref a]) s) : wpAny (model X.prog X.w) A (getMethod (.ref a) m pl) Q E s := by
  obtain ⟨mA, O, r, _, _, _⟩ := ins_get I.hok e
  have hn : mA m = none := RelO.none_of (by rw [← l]; exact r m)
  exact get_meth I.kIn O (c.get m) k.at_ k.fn hn h
theorem setattr_ok {y : V} {u : Value} {Q : Unit → Shared → Prop} (I : Inv X pins σ H s) (e : H a = some (.ins C dx fs)) (c : Cls X.K C) (n : NoAttr X.K C f) (hl : fs.length < 1000) (ry : RelV y u)
    (h : ∀ s', Inv X pins σ (upd H a (.ins C dx (putF f y fs))) s' → Q () s') : wpAny (model X.prog X.w) A (setAttr (.ref a) f u) Q E s := by
  obtain ⟨mA, O, r, wi, _, ho⟩ := ins_get I.hok e
  have hz : (fs.map (·.1)).length ≤ sizeLine := by rw [List.length_map, sizeLine_eq]; omega
  refine set_map I.kIn O c.sa c.po n.taker c.hd wi hz fun h' O' sb => h _ ?_
  have hd : ∃ o, h'.get? dx = some o := let ⟨o, _, _, e', _⟩ := O'.ns; ⟨o, e'⟩
  refine I.write (x := a) (e := dx) (by rw [e]; exact True.intro) (.inr ho) (fun b q hb z => (sb.2 b hb).trans z) hd ?_
  refine ⟨by rw [upd_ne O.ne]; exact ho, ?_, O.ne, O'.obj, _, O'.ns, fun g => ?_, fun g hg => ?_⟩
  · have := length_putF f y fs; omega
  · show RelO ((putF f y fs).lookup g) (if g = f then some u else mA g)
    rw [lookup_putF]
    by_cases q : g = f
    · rw [if_pos q, if_pos q]; exact ry
    · rw [if_neg q, if_neg q]; exact r g
  · by_cases q : g = f
    · rw [q]; exact (keys_putF f y fs).1
    · refine (keys_putF f y fs).2 g (wi g fun z => hg ?_)
      show (if g = f then some u else mA g) = none
      rw [if_neg q]; exact z
theorem Inv.made (I : Inv X pins σ H s) : Inv X pins σ (upd (upd H s.heap.objs.size (.own (s.heap.objs.size + 1))) (s.heap.objs.size + 1) (.ins C s.heap.objs.size []))
    { s with heap := (s.heap.push PySem.W.emptyDict).push (PySem.W.instObj C s.heap.objs.size) } := by
  have e1 : (s.heap.push PySem.W.emptyDict).get? s.heap.objs.size = some PySem.W.emptyDict := Heap.get?_push_size s.heap rfl
  have e2 : ((s.heap.push PySem.W.emptyDict).push (PySem.W.instObj C s.heap.objs.size)).get? (s.heap.objs.size + 1) = some (PySem.W.instObj C s.heap.objs.size) := by
    have := Heap.get?_push_size (s.heap.push PySem.W.emptyDict) (o := PySem.W.instObj C s.heap.objs.size) rfl
    rwa [Heap.size_push] at this
  have e3 : (s.heap.push PySem.W.emptyDict).Ns s.heap.objs.size (fun _ => none) := ⟨PySem.W.emptyDict, #[], _, e1, rfl, (fun e he => absurd he (by simp)), fun _ => rfl⟩
  have I1 := I.laid (a := s.heap.objs.size) (o := .own (s.heap.objs.size + 1)) (h' := s.heap.push PySem.W.emptyDict) (t' := s.toks) (fun b u q => Heap.get?_push_of_some _ q) (Nat.le_refl _) ⟨_, e1⟩
  refine I1.laid (a := s.heap.objs.size + 1) (o := .ins C s.heap.objs.size []) (t' := s.toks) (fun b u q => Heap.get?_push_of_some _ q) (Nat.le_of_eq (Heap.size_push _ _)) ?_
  have ne : s.heap.objs.size ≠ s.heap.objs.size + 1 := Nat.ne_of_lt (Nat.lt_succ_self _)
  refine ⟨by rw [upd_ne ne, upd_same], Nat.zero_le _, ne, e2, fun _ => none, (Heap.Ns1.of_empty e3).at fun o q => Heap.get?_push_of_some _ q, fun _ => True.intro, fun y hy => absurd rfl hy⟩
theorem attr_of {prog : Program} {w : World} {env : Env} {e : Expr} {f : Str} {pos : Pos} {s : Shared} {Q : Value → Shared → Prop} (hb : attributeBase e f env (eval e env) = eval e env)
    (h : wpAny (model prog w) A (eval e env) (fun o s₁ => wpAny (model prog w) A (getAttr o f true) Q E s₁) E s) : wpAny (model prog w) A (eval (.Attribute e f pos) env) Q E s :=
  Attribute_any_ h (by rw [arm_eval_Attribute, hb])
end
def tFld (K : PySem.W.Frag) (ta : TE) (f : Str) : TE := fun σ H Q => ta σ H fun x H1 => ∃ a C dx fs v, x = .ref a ∧ H1 a = some (.ins C dx fs) ∧ Cls K C ∧ NoAttr K C f ∧ fs.lookup f = some v ∧ Q v H1
def sFld (K : PySem.W.Frag) (ta tv : TE) (f : Str) : TS := fun D σ H => tv σ H fun y H1 => ta σ H1 fun x H2 => ∃ a C dx fs, x = .ref a ∧ H2 a = some (.ins C dx fs) ∧ Cls K C ∧ NoAttr K C f ∧ fs.length < 1000 ∧
  D.nx σ (upd H2 a (.ins C dx (putF f y fs)))
section
variable {X : Cx} {o e value : Expr} {f : Str} {pos pos' tpos : Pos} {ta tv : TE}
theorem pe_fld (he : PE X e ta) (hb : attributeBase e f X.env (eval e X.env) = eval e X.env) : PE X (.Attribute e f pos) (tFld X.K ta f) := by
  intro pins s σ H Q I h
  refine attr_of hb (thn (he pins s σ H _ I h) fun u s1 ⟨x, H1, I1, rx, a, C, dx, fs, v, ex, ea, c, n, l, q⟩ => ?_)
  subst ex
  obtain rfl : u = Value.ref a := rx
  exact getattr_ok I1 ea c n l fun u' s2 I2 ru => ⟨v, H1, I2, ru, q⟩
theorem ps_fld (ha : PE X o ta) (hv : PE X value tv) (hs : swapsWith value (some (.Attribute o f pos')) pos.line X.env = pure false) : PS X (.Assign [.Attribute o f pos'] value pos) (sFld X.K ta tv f) := by
  intro pins s σ H D I h
  refine plainObj_wpAny_Assign_Attribute (thn (hv pins s σ H _ I h) fun u s1 ⟨y, H1, I1, ry, q⟩ => thn (ha pins s1 σ H1 _ I1 q) fun ov s2 ⟨x, H2, I2, rx, a, C, dx, fs, ex, ea, c, n, l, q2⟩ => ?_) hs
  subst ex
  obtain rfl : ov = Value.ref a := rx
  exact setattr_ok I2 ea c n l ry fun s3 I3 => ⟨σ, _, I3, q2⟩
end
section
variable {X : Cx} {pins : List (Addr × Obj)} {σ : St} {H : Hp} {s : Shared} {A : Around} {E : Value → Shared → Prop} {Q : Value → Shared → Prop} {c : Value} {b : Bool}
end
end L2
namespace L2
open PySem PySem.Spec PyProof.Rows
structure Room (k : Nat) (A : Around) : Prop where
  hd : A.handled = none
  dp : A.depth + 3 * k + 5 < recursionLimit
  un : A.units + 16 * k + 200 < cLine
theorem Room.mono {j k : Nat} {A : Around} (r : Room k A) (h : j ≤ k) : Room j A := ⟨r.hd, by have := r.dp; omega, by have := r.un; omega⟩
theorem Room.deeper {k : Nat} {A : Around} (r : Room (k + 1) A) (env : Env) : Room k (A.deeper env) :=
  ⟨r.hd, by have := r.dp; show A.depth + 1 + 3 * k + 5 < _; omega, by have := r.un; show A.units + 3 + 16 * k + 200 < _; omega⟩
theorem make_depth {A : Around} {C : Addr} {us : List Value} {kw : List (Str × Value)} : (A.under (.builtin "type.__call__" ⟨.ref C :: us, kw⟩)).depth = A.depth + 1 := by
  first | rfl | simp [Around.under, Code.weight, Code.isCreation, Code.isGuard, Code.isCaller, Code.frames, Code.isFrame, guardIds]
theorem make_units {A : Around} {C : Addr} {us : List Value} {kw : List (Str × Value)} : (A.under (.builtin "type.__call__" ⟨.ref C :: us, kw⟩)).units = A.units + 1 := by
  first | rfl | simp [Around.under, Code.cUnits, Code.frames, Code.isFrame]
theorem Room.make {k : Nat} {A : Around} (r : Room (k + 1) A) (C : Addr) (us : List Value) (kw : List (Str × Value)) : Room k (A.under (.builtin "type.__call__" ⟨.ref C :: us, kw⟩)) :=
  ⟨r.hd, by have := r.dp; rw [make_depth]; omega, by have := r.un; rw [make_units]; omega⟩
theorem Room.depth {k : Nat} {A : Around} (r : Room k A) : A.depth < recursionLimit := by have := r.dp; omega
theorem Room.units {k : Nat} {A : Around} (r : Room k A) : A.units + 64 < cLine := by have := r.un; omega
def tNil : TA := fun _ H Q => Q [] H
def tCons (ta : TE) (tr : TA) : TA := fun σ H Q => ta σ H fun x H1 => tr σ H1 fun xs H2 => Q (x :: xs) H2
section
variable {X : Cx} {e : Expr} {es : List Expr} {te : TE} {t : TA} {pos : Pos}
theorem pa_nil : PA X [] tNil := fun _ _ _ _ H Q I h => Calls.spliced_nil ⟨[], H, I, .nil, h⟩
theorem pa_cons (ha : PE X e te) (hr : PA X es t) (hs : starEach (e :: es) X.env = (false, eval e X.env) :: starEach es X.env := by rfl) : PA X (e :: es) (tCons te t) := by
  intro pos pins s σ H Q I h
  rw [hs]
  show wpAny _ _ (spliced ((false, eval e X.env) :: backTo pos (starEach es X.env))) _ _ s
  refine Calls.spliced_cons (thn (ha pins s σ H _ I h) fun u s1 ⟨x, H1, I1, r1, q1⟩ => ?_)
  exact thn (hr pos pins s1 σ H1 _ I1 q1) fun us s2 ⟨xs, H2, I2, r2, q2⟩ => ⟨x :: xs, H2, I2, .cons r1 r2, q2⟩
def tTup (t : TA) : TE := fun σ H Q => t σ H fun xs H1 => xs.length ≤ sizeLine ∧ ∀ p, H1 p = none → Q (.ref p) (upd H1 p (.tup xs))
def tLst (t : TA) : TE := fun σ H Q => t σ H fun xs H1 => xs.length ≤ sizeLine ∧ ∀ p, H1 p = none → Q (.ref p) (upd H1 p (.lst xs))
theorem pe_tup {x1} (h : PA X es t) : PE X (.Tuple es x1 pos) (tTup t) := by
  intro pins s σ H Q I hq
  refine wpAny_Tuple_spliced (thn (h pos pins s σ H _ I hq) fun us s1 ⟨xs, H1, I1, r, z, q⟩ => ⟨by rw [← r.length]; exact z, ?_⟩)
  have hf : H1 s1.heap.objs.size = none := I1.hok.fresh (Nat.le_refl _)
  refine ⟨.ref s1.heap.objs.size, upd H1 s1.heap.objs.size (.tup xs), I1.laid (t' := s1.toks) (fun b u e => Heap.get?_push_of_some _ e) (Nat.le_refl _) ?_, rfl, q _ hf⟩
  exact ⟨z, us, r, ⟨_, Heap.get?_push_size _ rfl, rfl, _, rfl⟩⟩
theorem pe_lst (h : PA X es t) : PE X (.List es pos) (tLst t) := by
  intro pins s σ H Q I hq
  refine wpAny_List_spliced (thn (h pos pins s σ H _ I hq) fun us s1 ⟨xs, H1, I1, r, z, q⟩ => ⟨by rw [← r.length]; exact z, ?_⟩)
  have hf : H1 s1.heap.objs.size = none := I1.hok.fresh (Nat.le_refl _)
  refine ⟨.ref s1.heap.objs.size, upd H1 s1.heap.objs.size (.lst xs), I1.laid (t' := s1.toks) (fun b u e => Heap.get?_push_of_some _ e) (Nat.le_refl _) ?_, rfl, q _ hf⟩
  exact ⟨z, us, 0, r, Heap.get?_push_size _ rfl⟩
end
abbrev Sp := List V → Hp → VK → XK → Prop
abbrev CXT := List Env → Hp → Shared → XK → Value → Shared → Prop
structure Env0 (P : Program) (w : World) (K : PySem.W.Frag) (mg : Str → Option Value) (base : Heap) (A : Around) (outer : List Env) (s : Shared) (H : Hp) : Prop where
  frames : A.frames = some outer
  mod : Mod K mg base
  bs : ∀ b o, base.get? b = some o → s.heap.get? b = some o ∧ H b = none
  bsz : base.objs.size ≤ s.heap.objs.size
  funs : s.heap.FunFrames base outer
  frf : ∀ b ∈ frs outer, H b = none
  hok : HOk P w H s.heap
  bare : AllBare s.gens
def CE (outer : List Env) (P : Program) (w : World) (H : Hp) (s : Shared) (Q : VK) (u : Value) (s' : Shared) : Prop :=
  ∃ v H', s'.os = s.os ∧ AllBare s'.gens ∧ Un (frs outer) [] H H' s.heap s'.heap ∧ HOk P w H' s'.heap ∧ RelV v u ∧ Q v H'
def CR (CX : CXT) (outer : List Env) (P : Program) (w : World) (H : Hp) (s : Shared) (Q : VK) (E : XK) (r : Result) (s' : Shared) : Prop :=
  match r with
  | .ok (.ret u) => CE outer P w H s Q u s'
  | .ok _ => False
  | .error e => CX outer H s E e s'
structure FnOk (P : Program) (w : World) (K : PySem.W.Frag) (mg : Str → Option Value) (base : Heap) (CX : CXT) (k : Nat) (f : Addr) (fd : FuncData) (ps : List Str) (sp : Sp) : Prop where
  len : ∀ vs H Q E, sp vs H Q E → vs.length = ps.length
  run : ∀ (A : Around) (outer : List Env) (s : Shared) (H : Hp) (args : Args) (us : List Value) (vs : List V) (Q : VK) (E : XK), Room k A → Env0 P w K mg base A outer s H → BindsTo s fd args (ps.zip us) → Vals vs us → sp vs H Q E →
    codeAny (model P w) A (.call (.ref f) args) (CR CX outer P w H s Q E) s
theorem FnOk.mono {P : Program} {w : World} {K : PySem.W.Frag} {mg : Str → Option Value} {base : Heap} {CX : CXT} {j k : Nat} {f : Addr} {fd : FuncData} {ps : List Str} {sp : Sp} (F : FnOk P w K mg base CX j f fd ps sp) (h : j ≤ k) :
    FnOk P w K mg base CX k f fd ps sp := ⟨F.len, fun A outer s H args us vs Q E hr => F.run A outer s H args us vs Q E (hr.mono h)⟩
theorem FnOk.imp {P : Program} {w : World} {K : PySem.W.Frag} {mg : Str → Option Value} {base : Heap} {CX : CXT} {k : Nat} {f : Addr} {fd : FuncData} {ps : List Str} {sp sp' : Sp} (F : FnOk P w K mg base CX k f fd ps sp)
    (h : ∀ vs H Q E, sp' vs H Q E → sp vs H Q E) : FnOk P w K mg base CX k f fd ps sp' :=
  ⟨fun vs H Q E q => F.len vs H Q E (h _ _ _ _ q), fun A outer s H args us vs Q E hr he hb hv hs => F.run A outer s H args us vs Q E hr he hb hv (h _ _ _ _ hs)⟩
theorem Env0.make {P : Program} {w : World} {K : PySem.W.Frag} {mg : Str → Option Value} {base : Heap} {A : Around} {outer : List Env} {s : Shared} {H : Hp} (e : Env0 P w K mg base A outer s H) (C : Addr) (us : List Value) (kw : List (Str × Value)) :
    Env0 P w K mg base (A.under (.builtin "type.__call__" ⟨.ref C :: us, kw⟩)) outer s H := ⟨by first | exact e.frames | (simpa [Around.under, Code.envs, Code.isFrame, pushEnvs] using e.frames), e.mod, e.bs, e.bsz, e.funs, e.frf, e.hok, e.bare⟩
section
variable {X : Cx} {pins : List (Addr × Obj)} {σ : St} {H : Hp} {s s' : Shared}
theorem Inv.env0 (I : Inv X pins σ H s) : Env0 X.prog X.w X.K X.mg X.base X.A X.stack s H :=
  ⟨I.ok.frames, I.ok.mod, I.bs, Nat.le_trans I.ok.bsz I.sz, I.stack, I.stkFree, I.hok, I.bare⟩
theorem Inv.after {Q : VK} {u : Value} (I : Inv X pins σ H s) (h : CE X.stack X.prog X.w H s Q u s') : EP X pins σ Q u s' := by
  obtain ⟨v, H', os, bare, un, hok, r, q⟩ := h
  obtain ⟨hh, g, d, t, os'⟩ := s'
  obtain rfl : os' = s.os := os
  exact ⟨v, H', I.call (h' := hh) (g' := g) (d' := d) (t' := t) (ch := []) un hok bare (fun b z => absurd z (by simp)), r, q⟩
end
def tCall (sp : Sp) (dvs : List V) (E : XK) (t : TA) : TE := fun σ H Q => t σ H fun vs H1 => sp (vs ++ dvs) H1 Q E
def tMeth (C : Addr) (m : Str) (sp : Sp) (dvs : List V) (E : XK) (ta : TE) (t : TA) : TE := fun σ H Q => ta σ H fun x H1 => ∃ a dx fs, x = .ref a ∧ H1 a = some (.ins C dx fs) ∧ fs.lookup m = none ∧
  t σ H1 fun vs H2 => sp (x :: (vs ++ dvs)) H2 Q E
def tMake (C : Addr) (sp : Sp) (dvs : List V) (E : XK) (t : TA) : TE := fun σ H Q => t σ H fun vs H1 => ∀ x dx, H1 x = none → H1 dx = none → dx ≠ x →
  sp (.ref x :: (vs ++ dvs)) (upd (upd H1 dx (.own x)) x (.ins C dx [])) (fun v H2 => v = .non ∧ Q (.ref x) H2) E
def Binds (K : PySem.W.Frag) (fd : FuncData) (ps : List Str) (ds : List Value) : Prop :=
  ∀ (s : Shared) (us : List Value), K.In s.heap → (us ++ ds).length = ps.length → BindsTo s fd ⟨us, []⟩ (ps.zip (us ++ ds))
theorem Binds.all {K : PySem.W.Frag} {fd : FuncData} {ps : List Str} (h : ∀ us : List Value, us.length = ps.length → bindArgs fd ⟨us, []⟩ = pure (ps.zip us)) : Binds K fd ps [] := fun s us _ hl => by
  rw [List.append_nil] at hl ⊢
  exact .of_eq (h us hl)
def Passes (CX : CXT) (X : Cx) (E : XK) : Prop := ∀ (pins : List (Addr × Obj)) (σ : St) (H : Hp) (s : Shared) (e : Value) (s' : Shared), Inv X pins σ H s → CX X.stack H s E e s' → X.xe e s'
section
variable {X : Cx} {CX : CXT} {k : Nat} {f C : Addr} {fd : FuncData} {ps : List Str} {sp : Sp} {dvs : List V} {ds : List Value} {E : XK} {x m : Str} {p pos apos : Pos} {e o : Expr} {es : List Expr} {ta : TE} {t : TA}
theorem run_fn {pins : List (Addr × Obj)} {σ : St} {H : Hp} {s : Shared} {Q : VK} {us : List Value} {vs : List V} (F : FnOk X.prog X.w X.K X.mg X.base CX k f fd ps sp) (hr : Room k X.A) (hb : Binds X.K fd ps ds) (hd : Vals dvs ds) (hx : Passes CX X E)
    (I : Inv X pins σ H s) (r : Vals vs us) (h : sp (vs ++ dvs) H Q E) : wpAny (model X.prog X.w) X.A (call (.ref f) us) (EP X pins σ Q) X.xe s := by
  have r2 : Vals (vs ++ dvs) (us ++ ds) := r.append hd
  have hl : (us ++ ds).length = ps.length := by rw [← r2.length]; exact F.len _ _ _ _ h
  refine wpAny_call (codeAny_mono (F.run X.A X.stack s H ⟨us, []⟩ (us ++ ds) (vs ++ dvs) Q E hr I.env0 (hb s us I.kIn hl) r2 h) fun r s' hq => ?_)
  cases r with
  | error e => exact hx pins σ H s e s' I hq
  | ok fl =>
    cases fl with
    | ret u => exact I.after hq
    | next => exact False.elim hq
    | brk => exact False.elim hq
    | cont => exact False.elim hq
theorem pe_call (F : FnOk X.prog X.w X.K X.mg X.base CX k f fd ps sp) (hr : Room k X.A) (hg : Gl X x) (hm : X.mg x = some (.ref f)) (hk : PySem.W.keepIn X.K (.ref f) = true) (hb : Binds X.K fd ps ds) (hd : Vals dvs ds) (hx : Passes CX X E)
    (ha : PA X (e :: es) t) (hdb : (x == ("__debug__" : Str)) = false := by decide) (he : starEach (e :: es) X.env = (false, eval e X.env) :: starEach es X.env := by rfl) (hpl : (backTo pos (starEach es X.env)).any (·.1) = false := by rfl) :
    PE X (.Call (.Name x p) (e :: es) [] pos) (tCall sp dvs E t) := by
  intro pins s σ H Q I h
  refine wpAny_Call_Name_kw (ld_glob I hg hm ?_ hdb)
  refine PySem.W.callWith_K (h₀ := X.base) I.ok.mod.kin hk (thn (ha pos pins s σ H _ I h) fun us s1 ⟨vs, H1, I1, r, q⟩ => ⟨I1.kIn, ?_⟩) he hpl
  exact run_fn F hr hb hd hx I1 r q
theorem pe_meth0 {pl : Sem Bool} (he : PE X o ta) (c : Cls X.K C) (hm : Meth X.K C m f) (F : FnOk X.prog X.w X.K X.mg X.base CX k f fd ps sp) (hr : Room k X.A) (hb : Binds X.K fd ps ds) (hd : Vals dvs ds) (hx : Passes CX X E)
    (ht : eval (.Call (.Attribute o m apos) [] [] pos) X.env = (do
      let ov ← eval o X.env
      standAt apos.atName
      let (f, first) ← holding [ov] (getMethod ov m pl)
      callWith pos f first (backTo pos (starEach [] X.env)) (backToKw pos (keywordEach [] X.env))) := by rfl) :
    PE X (.Call (.Attribute o m apos) [] [] pos) (tMeth C m sp dvs E ta tNil) := by
  intro pins s σ H Q I h
  refine PySem.W.methodCall_KW (pl := pl) (thn (he pins s σ H _ I h) fun u s1 ⟨x, H1, I1, rx, a, dx, fs, ex, ea, l, q⟩ => ?_) ht
  subst ex
  obtain rfl : u = Value.ref a := rx
  refine getmeth_ok I1 ea c hm l ?_
  exact PySem.W.callWith_K0 (first := [.ref a]) I1.kIn hm.kp (run_fn (us := [.ref a]) (vs := [.ref a]) F hr hb hd hx I1 (.cons rfl .nil) q)
structure Mk (K : PySem.W.Frag) (C f : Addr) : Prop where
  makes : PySem.W.makesIn K C = true
  init : PySem.W.findIn K (.ref C) "__init__" = some (some (.ref f))
  fn : PySem.W.isFn K (.ref f) = true
  kp : PySem.W.keepIn K (.ref C) = true
theorem run_make {pins : List (Addr × Obj)} {σ : St} {H : Hp} {s : Shared} {Q : VK} {us : List Value} {vs : List V} (M : Mk X.K C f) (F : FnOk X.prog X.w X.K X.mg X.base CX k f fd ps sp) (hr : Room (k + 1) X.A) (hb : Binds X.K fd ps ds) (hd : Vals dvs ds)
    (hx : Passes CX X E) (I : Inv X pins σ H s) (r : Vals vs us)
    (h : ∀ x dx, H x = none → H dx = none → dx ≠ x → sp (.ref x :: (vs ++ dvs)) (upd (upd H dx (.own x)) x (.ins C dx [])) (fun v H2 => v = .non ∧ Q (.ref x) H2) E) :
    wpAny (model X.prog X.w) X.A (call (.ref C) us) (EP X pins σ Q) X.xe s := by
  have hq := h (s.heap.objs.size + 1) s.heap.objs.size (I.hok.fresh (Nat.le_succ _)) (I.hok.fresh (Nat.le_refl _)) (Nat.ne_of_lt (Nat.lt_succ_self _))
  have I2 := Inv.made (C := C) I
  have r2 : Vals (V.ref (s.heap.objs.size + 1) :: (vs ++ dvs)) (Value.ref (s.heap.objs.size + 1) :: (us ++ ds)) := .cons rfl (r.append hd)
  have hl : (Value.ref (s.heap.objs.size + 1) :: us ++ ds).length = ps.length := by
    have e := r2.length
    rw [F.len _ _ _ _ hq] at e
    exact e.symm
  refine wpAny_call (make_map (f := f) I.kIn M.makes M.init (beq_iff_eq.mp M.fn) (codeAny_mono (F.run _ X.stack _ _ ⟨Value.ref (s.heap.objs.size + 1) :: us, []⟩ (Value.ref (s.heap.objs.size + 1) :: (us ++ ds)) _ _ E (hr.make C us [])
    (I2.env0.make C us []) (hb _ (Value.ref (s.heap.objs.size + 1) :: us) I2.kIn hl) r2 hq) fun r s' hq' => ?_))
  cases r with
  | error e => exact hx pins σ _ _ e s' I2 hq'
  | ok fl =>
    cases fl with
    | ret u =>
      obtain ⟨v, H', I3, rv, ev, q3⟩ := I2.after hq'
      subst ev
      exact ⟨rv, ⟨V.ref (s.heap.objs.size + 1), H', I3, rfl, q3⟩⟩
    | next => exact False.elim hq'
    | brk => exact False.elim hq'
    | cont => exact False.elim hq'
theorem pe_make (M : Mk X.K C f) (F : FnOk X.prog X.w X.K X.mg X.base CX k f fd ps sp) (hr : Room (k + 1) X.A) (hg : Gl X x) (hm : X.mg x = some (.ref C)) (hb : Binds X.K fd ps ds) (hd : Vals dvs ds) (hx : Passes CX X E)
    (ha : PA X (e :: es) t) (hdb : (x == ("__debug__" : Str)) = false := by decide) (he : starEach (e :: es) X.env = (false, eval e X.env) :: starEach es X.env := by rfl) (hpl : (backTo pos (starEach es X.env)).any (·.1) = false := by rfl) :
    PE X (.Call (.Name x p) (e :: es) [] pos) (tMake C sp dvs E t) := by
  intro pins s σ H Q I h
  refine wpAny_Call_Name_kw (ld_glob I hg hm ?_ hdb)
  refine PySem.W.callWith_K (h₀ := X.base) I.ok.mod.kin M.kp (thn (ha pos pins s σ H _ I h) fun us s1 ⟨vs, H1, I1, r, q⟩ => ⟨I1.kIn, ?_⟩) he hpl
  exact run_make M F hr hb hd hx I1 r q
theorem pe_make0 (M : Mk X.K C f) (F : FnOk X.prog X.w X.K X.mg X.base CX k f fd ps sp) (hr : Room (k + 1) X.A) (hg : Gl X x) (hm : X.mg x = some (.ref C)) (hb : Binds X.K fd ps ds) (hd : Vals dvs ds) (hx : Passes CX X E)
    (hdb : (x == ("__debug__" : Str)) = false := by decide) : PE X (.Call (.Name x p) [] [] pos) (tMake C sp dvs E tNil) := by
  intro pins s σ H Q I h
  refine wpAny_Call_Name_kw (ld_glob I hg hm ?_ hdb)
  exact PySem.W.callWith_K0 I.kIn M.kp (run_make (us := []) M F hr hb hd hx I .nil h)
end
section
variable {X : Cx} {CX : CXT} {k : Nat} {f C : Addr} {fd : FuncData} {ps ks : List Str} {sp : Sp} {E : XK} {x m : Str} {p pos apos kpos : Pos} {e o : Expr} {es : List Expr} {kws : List Keyword} {te ta : TE} {t tk : TA} {nm : Option Str}
variable {g : List Value → List Value → List Value} {gV : List V → List V → List V}
end
structure FnScope (N P : List Str) (sc : Scope) : Prop where
  kind : sc.kind = .function
  co : sc.isCoroutine = false
  gen : sc.isGenerator = false
  nd : N.Nodup
  pre : N.take P.length = P
  par : ∀ x ∈ P, sc.names.lookup x = some .local ∨ sc.names.lookup x = some .cell
  nofree : ∀ y ∈ sc.names, y.2 ≠ .free
theorem bindL_out {kindOf : Str → Option NameKind} {x : Str} : ∀ {binds : List (Str × Value)} {m : Str → Option Value}, (∀ v, (x, v) ∉ binds) → bindL kindOf binds m x = m x
  | [], _, _ => rfl
  | (n, v) :: r, m, h => by
    unfold bindL
    rw [bindL_out fun w hw => h w (List.mem_cons_of_mem _ hw)]
    split
    · have : x ≠ n := by rintro rfl; exact h v List.mem_cons_self
      simp [this]
    · rfl
theorem bindC_out {kindOf : Str → Option NameKind} {x : Str} : ∀ {binds : List (Str × Value)} {m : Str → Option Value}, (∀ v, (x, v) ∉ binds) → bindC kindOf binds m x = m x
  | [], _, _ => rfl
  | (n, v) :: r, m, h => by
    unfold bindC
    rw [bindC_out fun w hw => h w (List.mem_cons_of_mem _ hw)]
    split
    · rfl
    · have : x ≠ n := by rintro rfl; exact h v List.mem_cons_self
      simp [this]
theorem bindL_get {kindOf : Str → Option NameKind} {x : Str} {v : Value} : ∀ {P : List Str} {vs : List Value} {i : Nat} {m : Str → Option Value}, P.Nodup → P[i]? = some x → vs[i]? = some v → kindOf x = some .local →
    bindL kindOf (P.zip vs) m x = some v
  | [], _, _, _, _, h, _, _ => by simp at h
  | _ :: _, [], _, _, _, _, h, _ => by simp at h
  | p :: P, w :: vs, 0, m, nd, h1, h2, hk => by
    simp at h1 h2; subst h1; subst h2
    show bindL kindOf ((p, w) :: P.zip vs) m p = _
    unfold bindL
    rw [bindL_out fun v hv => (List.nodup_cons.mp nd).1 (List.of_mem_zip hv).1, if_pos hk]
    simp
  | p :: P, w :: vs, i + 1, m, nd, h1, h2, hk => by
    show bindL kindOf ((p, w) :: P.zip vs) m x = _
    unfold bindL
    exact bindL_get (i := i) (List.nodup_cons.mp nd).2 (by simpa using h1) (by simpa using h2) hk
theorem bindC_get {kindOf : Str → Option NameKind} {x : Str} {v : Value} : ∀ {P : List Str} {vs : List Value} {i : Nat} {m : Str → Option Value}, P.Nodup → P[i]? = some x → vs[i]? = some v → kindOf x ≠ some .local →
    bindC kindOf (P.zip vs) m x = some v
  | [], _, _, _, _, h, _, _ => by simp at h
  | _ :: _, [], _, _, _, _, h, _ => by simp at h
  | p :: P, w :: vs, 0, m, nd, h1, h2, hk => by
    simp at h1 h2; subst h1; subst h2
    show bindC kindOf ((p, w) :: P.zip vs) m p = _
    unfold bindC
    rw [bindC_out fun v hv => (List.nodup_cons.mp nd).1 (List.of_mem_zip hv).1, if_neg hk]
    simp
  | p :: P, w :: vs, i + 1, m, nd, h1, h2, hk => by
    show bindC kindOf ((p, w) :: P.zip vs) m x = _
    unfold bindC
    exact bindC_get (i := i) (List.nodup_cons.mp nd).2 (by simpa using h1) (by simpa using h2) hk
def start (N : List Str) (vs : List V) : St := vs.map some ++ List.replicate (N.length - vs.length) none
def cxOf (CX : CXT) (P : Program) (w : World) (K : PySem.W.Frag) (mg : Str → Option Value) (base : Heap) (N : List Str) (qual : Str) (scope : Scope) (f : Addr) (cd : Value) (A : Around) (outer : List Env) (s : Shared) (H : Hp) (E : XK) : Cx where
  prog := P
  w := w
  K := K
  mg := mg
  base := base
  A := A.deeper (envOfC qual scope s.heap.objs.size f cd)
  N := N
  s₀ := s
  H₀ := H
  env := envOfC qual scope s.heap.objs.size f cd
  outer := outer
  stack := envOfC qual scope s.heap.objs.size f cd :: outer
  ex := []
  calm := true
  fn := fun _ => true
  pn := []
  xe := fun e s' => wpAny (model P w) (A.deeper (envOfC qual scope s.heap.objs.size f cd)) (leaving (envOfC qual scope s.heap.objs.size f cd) e) (fun _ s'' => CX outer H s E e s'') (fun e' s'' => CX outer H s E e' s'') s'
theorem cell_has {sc : Scope} {n : Nat} {x : Str} (h : sc.names.lookup x = some .cell) : ∃ c, (cellsFrom n sc.names []).lookup x = some c := by
  have q := PySem.W.cellsFrom_some sc.names n [] (.inl h)
  exact Option.isSome_iff_exists.mp q
theorem inv_start {CX : CXT} {P : Program} {w : World} {K : PySem.W.Frag} {mg : Str → Option Value} {base : Heap} {N ps : List Str} {qual : Str} {scope : Scope} {f : Addr} {cd : Value} {A : Around} {outer : List Env} {s s1 : Shared} {H : Hp} {E : XK} {us : List Value} {vs : List V}
    (S : FnScope N ps scope) (hd : A.handled = none) (e0 : Env0 P w K mg base A outer s H) (hl : vs.length = ps.length) (r : Vals vs us)
    (x : InCallC s s.heap.objs.size (bindL (envOfC qual scope s.heap.objs.size f cd).kindOf (ps.zip us) fun _ => none) (cellsFrom (s.heap.objs.size + 1) scope.names []) (bindC (envOfC qual scope s.heap.objs.size f cd).kindOf (ps.zip us) fun _ => none) s1) :
    Inv (cxOf CX P w K mg base N qual scope f cd A outer s H E) [] (start N vs) H s1 := by
  have hpl : ps.length ≤ N.length := by have := congrArg List.length S.pre; rw [List.length_take] at this; omega
  obtain ⟨h1, tk, rfl, hk⟩ := x.done
  have noA : ∀ b : Addr, b ∉ (cxOf CX P w K mg base N qual scope f cd A outer s H E).ex := fun b z => absurd (show b ∈ ([] : List Addr) from z) (by simp)
  refine ⟨⟨e0.mod, S.kind, rfl, rfl, Nat.le_refl _, fun y z c h1 h2 => ?_, fun y hy => ?_, fun y c _ h => ?_, fun _ => hd, Around.frames_deeper e0.frames, .inr ⟨rfl, rfl⟩, fun b z => absurd z (noA b), e0.bs, e0.bsz, fun b _ _ => noA b, fun b z => absurd z (noA b), e0.funs, e0.frf⟩,
    rfl, e0.bare, Un.kept hk, ⟨_, x.toInCall.ns, fun i y v h1 h2 h3 => ?_⟩, fun y c h => ⟨_, x.cell y c h⟩, e0.hok.fresh (Nat.le_refl _), fun y c h => ?_, fun p hp => absurd (show p ∈ ([] : List (Addr × Obj)) from hp) (by simp), e0.hok.kept hk, ?_⟩
  · exact name_of_addr x.apart (PySem.mem_of_lookup h1) (PySem.mem_of_lookup h2)
  · have hy : scope.names.lookup y = some .cell ∨ scope.names.lookup y = some .free := hy
    rcases hy with hy | hy
    · exact cell_has hy
    · exact absurd rfl (S.nofree _ (PySem.mem_of_lookup hy))
  · exact Nat.le_of_lt (x.above y c (PySem.mem_of_lookup h))
  · have hi : i < vs.length := by
      unfold start at h2
      by_cases hi : i < vs.length
      · exact hi
      · rw [List.getElem?_append_right (by simpa using hi)] at h2
        rw [List.getElem?_replicate] at h2
        split at h2 <;> cases h2
    have ha : vs[i]? = some v := by
      unfold start at h2
      rw [List.getElem?_append_left (by simpa using hi), List.getElem?_map] at h2
      cases e : vs[i]? with
      | none => rw [e] at h2; cases h2
      | some a => rw [e] at h2; cases h2; rfl
    obtain ⟨u, hu, rv⟩ := r.get ha
    have hp : ps[i]? = some y := by
      rw [← S.pre, List.getElem?_take_of_lt (by omega)]; exact h1
    have ndP : ps.Nodup := by rw [← S.pre]; exact S.nd.sublist (List.take_sublist _ _)
    refine ⟨u, rv, ?_⟩
    rcases S.par y (List.mem_of_getElem? hp) with k | k
    · exact .inl ⟨k, bindL_get ndP hp hu k⟩
    · obtain ⟨c, e⟩ := cell_has (n := s.heap.objs.size + 1) k
      refine .inr ⟨.inl k, c, e, ?_⟩
      have q := x.cell y c e
      rw [bindC_get ndP hp hu (by show scope.names.lookup y ≠ _; rw [k]; decide)] at q
      exact q
  · exact e0.hok.fresh (Nat.le_of_lt (x.above y c (PySem.mem_of_lookup h)))
  · unfold start
    show _ = N.length
    rw [List.length_append, List.length_map, List.length_replicate]
    omega
theorem fn_of {CX : CXT} {P : Program} {w : World} {K : PySem.W.Frag} {mg : Str → Option Value} {base : Heap} {k : Nat} {f : Addr} {name qual : Str} {params : Arguments} {body : List Stmt} {scope : Scope} {dV kV doc pm cdv ct oc : Value} {an od : Option Addr}
    {osl : Array (Option Value)} {N ps : List Str} {sp : Sp} (lk : K.lookup f = some ⟨oc, od, .func (PySem.W.fnOf name qual params body scope dV kV doc pm an cdv ct), osl⟩) (hcd : PySem.W.codeIn K cdv qual = true) (S : FnScope N ps scope)
    (len : ∀ vs H Q E, sp vs H Q E → vs.length = ps.length)
    (hbody : ∀ (A : Around) (outer : List Env) (s : Shared) (H : Hp) (vs : List V) (Q : VK) (E : XK), Room k (A.deeper (envOfC qual scope s.heap.objs.size f cdv)) → sp vs H Q E →
      ∃ t, PSs (cxOf CX P w K mg base N qual scope f cdv A outer s H E) body t ∧ t { nx := fun _ H' => Q .non H', rt := Q } (start N vs) H) :
    FnOk P w K mg base CX (k + 1) f (PySem.W.fnOf name qual params body scope dV kV doc pm an cdv ct) ps sp := by
  refine ⟨len, fun A outer s H args us vs Q E hr e0 hb r hsp => ?_⟩
  have hl := len _ _ _ _ hsp
  have KX : K.In s.heap := e0.mod.kin.keeps fun b o e => (e0.bs b o e).1
  have lim : s.heap.NoLimit := e0.mod.nolimit.keeps fun b o e => (e0.bs b o e).1
  have hkind : ∀ y ∈ ps.zip us, scope.names.lookup y.1 = some .local ∨ (scope.names.lookup y.1 = some .cell ∧ ((cellsFrom (s.heap.objs.size + 1) scope.names []).lookup y.1).isSome = true) := fun ⟨n, v⟩ hy => by
    rcases S.par n (List.of_mem_zip hy).1 with q | q
    · exact .inl q
    · exact .inr ⟨q, PySem.W.cellsFrom_some _ _ _ (.inl q)⟩
  refine codeAny_call_function hr.depth (KX _ _ lk) rfl S.co S.gen rfl (PySem.W.codeRec_of KX hcd) (hb _ _ _ _ ?_)
  refine wpAny_newFunctionEnv_cells S.kind hkind fun env he s1 x => ?_
  subst he
  refine ⟨lim.keeps x.toInCall.keep, codeAny_func ?_⟩
  obtain ⟨t, ht, hq⟩ := hbody A outer s H vs Q E (hr.deeper _) hsp
  have I : Inv (cxOf CX P w K mg base N qual scope f cdv A outer s H E) [] (start N vs) H s1 := inv_start S hr.hd e0 hl r x
  refine wpAny_mono (ht [] s1 (start N vs) H _ I hq) (fun fl s' hs => ?_) fun e s' hs => hs
  have fin : ∀ {σ' : St} {H' : Hp} {v : V} {u : Value}, Inv (cxOf CX P w K mg base N qual scope f cdv A outer s H E) [] σ' H' s' → RelV v u → Q v H' → CE outer P w H s Q u s' :=
    fun {σ' H' v u} J rv q => ⟨v, H', J.os, J.bare, J.base, J.hok, rv, q⟩
  cases fl with
  | ret u =>
    obtain ⟨v, σ', H', J, rv, q⟩ := hs
    exact fin J rv q
  | next =>
    obtain ⟨σ', H', J, q⟩ := hs
    exact fin (v := V.non) (u := Value.none) J rfl q
  | brk =>
    obtain ⟨_, _, _, q⟩ := hs
    exact False.elim q
  | cont =>
    obtain ⟨_, _, _, q⟩ := hs
    exact False.elim q
end L2
namespace L2
open PySem PySem.Spec PyProof.Rows
section
variable {X : Cx} {x : Str} {p pos : Pos} {e : Expr} {es : List Expr} {t : TA} {id T : String} {r : List V → Hp → VK → Prop}
def tCB (r : List V → Hp → VK → Prop) (t : TA) : TE := fun σ H Q => t σ H fun vs H1 => r vs H1 Q
theorem pe_callB (hc : CallR X (.builtin id) r) (hg : Gl X x) (hm : X.mg x = none) (hv : bootBuiltins x = some (.builtin id)) (ha : PA X (e :: es) t) (hn : x ≠ "__name__" := by decide) (hdb : (x == ("__debug__" : Str)) = false := by decide)
    (he : starEach (e :: es) X.env = (false, eval e X.env) :: starEach es X.env := by rfl) (hpl : (backTo pos (starEach es X.env)).any (·.1) = false := by rfl) : PE X (.Call (.Name x p) (e :: es) [] pos) (tCB r t) := by
  intro pins s σ H Q I h
  refine wpAny_Call_Name_kw (ld_blt I hg hm hv ?_ hn hdb)
  exact PyProof.Rows.callWith_builtin1 (thn (ha pos pins s σ H _ I h) fun us s1 ⟨vs, H1, I1, r1, q1⟩ => hc pins s1 σ H1 vs us Q I1 r1 q1) he hpl
theorem pe_callTy (hc : CallR X (.type T) r) (hg : Gl X x) (hm : X.mg x = none) (hv : bootBuiltins x = some (.type T)) (ha : PA X (e :: es) t) (hn : x ≠ "__name__" := by decide) (hdb : (x == ("__debug__" : Str)) = false := by decide)
    (he : starEach (e :: es) X.env = (false, eval e X.env) :: starEach es X.env := by rfl) (hpl : (backTo pos (starEach es X.env)).any (·.1) = false := by rfl) : PE X (.Call (.Name x p) (e :: es) [] pos) (tCB r t) := by
  intro pins s σ H Q I h
  refine wpAny_Call_Name_kw (ld_blt I hg hm hv ?_ hn hdb)
  exact PyProof.Rows.callWith_type1 (thn (ha pos pins s σ H _ I h) fun us s1 ⟨vs, H1, I1, r1, q1⟩ => hc pins s1 σ H1 vs us Q I1 r1 q1) he hpl
end
end L2
namespace HT
open PySem PyProof.Rows
section
open PySem.SeqAt
open PySem.AutoSeq1 (wpAny_loadPart')
open PySem.MeetsSeq PySem.MeetsSeq2 PySem.MeetsSeq3
end
section
variable {prog : Program} {w : World} {A : Around} {E : Value → Shared → Prop} {s : Shared}
def sIx (n d : Nat) : Option Int → Nat
  | none => d
  | some v => if v < 0 then (v + (n : Int)).toNat else min v.toNat n
theorem sIx_nat (n d k : Nat) : sIx n d (some (k : Int)) = min k n := by
  show (if (k : Int) < 0 then ((k : Int) + (n : Int)).toNat else min (k : Int).toNat n) = min k n
  rw [if_neg (by omega), Int.toNat_natCast]
end
end HT
namespace L2
open PySem PySem.Spec PyProof.Rows
abbrev TO := St → Hp → (Option Int → Hp → Prop) → Prop
def PO (X : Cx) (e : Option Expr) (t : TO) : Prop :=
  ∀ (pins : List (Addr × Obj)) (s : Shared) (σ : St) (H : Hp) (Q : Option Int → Hp → Prop), Inv X pins σ H s → t σ H Q →
    wpAny (model X.prog X.w) X.A (evalPart e X.env) (fun u s' => ∃ o H', Inv X pins σ H' s' ∧ IsPart u o ∧ Q o H') X.xe s
def tPart (t : TE) : TO := fun σ H Q => t σ H fun x H1 => ∃ i, x = .int i ∧ Q (some i) H1
section
variable {X : Cx} {e : Expr} {te : TE} {lo hi : Option Expr} {tl th : TO} {pos p2 : Pos}
theorem po_some (h : PE X e te) : PO X (some e) (tPart te) := by
  intro pins s σ H Q I hw
  rw [evalPart_some]
  refine thn (h pins s σ H _ I hw) fun u s1 ⟨x, H1, I1, r1, q1⟩ => ?_
  obtain ⟨i, rfl, q⟩ := q1
  obtain ⟨t, rfl⟩ := r1
  exact ⟨some i, H1, I1, .int i t, q⟩
def SlR (X : Cx) (r : V → Option Int → Option Int → Hp → VK → Prop) : Prop :=
  ∀ (pins : List (Addr × Obj)) (s : Shared) (σ : St) (H : Hp) (x : V) (v vl vu : Value) (lo hi : Option Int) (sl : Addr) (Q : VK), Inv X pins σ H s → RelV x v → s.heap.IsSliceOf sl vl vu .none → IsPart vl lo → IsPart vu hi → r x lo hi H Q →
    ∃ T id, typeLookup (.type T) "__getitem__" = pure (some (.builtin id)) ∧ s.TypeIs v T ∧ wpAny (model X.prog X.w) X.A (getItem v (.ref sl)) (EP X pins σ Q) X.xe s
theorem SlR.or {r r' : V → Option Int → Option Int → Hp → VK → Prop} (h : SlR X r) (h' : SlR X r') : SlR X (fun x lo hi H Q => r x lo hi H Q ∨ r' x lo hi H Q) := by
  intro pins s σ H x v vl vu lo hi sl Q I rx hs pl pu q
  rcases q with q | q
  · exact h pins s σ H x v vl vu lo hi sl Q I rx hs pl pu q
  · exact h' pins s σ H x v vl vu lo hi sl Q I rx hs pl pu q
def tSl (r : V → Option Int → Option Int → Hp → VK → Prop) (te : TE) (tl th : TO) : TE := fun σ H Q => te σ H fun x H1 => tl σ H1 fun l H2 => th σ H2 fun u H3 => r x l u H3 Q
theorem pe_slice {r : V → Option Int → Option Int → Hp → VK → Prop} (hr : SlR X r) (he : PE X e te) (hl : PO X lo tl) (hu : PO X hi th) : PE X (.Subscript e (.Slice lo hi none p2) pos) (tSl r te tl th) := by
  intro pins s σ H Q I h
  refine Subscript_ (thn (he pins s σ H _ I h) fun v s1 ⟨x, H1, I1, r1, q1⟩ => ?_)
  refine wpAny_Slice (thn (hl pins s1 σ H1 _ I1 q1) fun vl s2 ⟨l, H2, I2, pl, q2⟩ => thn (hu pins s2 σ H2 _ I2 q2) fun vu s3 ⟨u, H3, I3, pu, q3⟩ => ?_)
  rw [evalPart_none]
  refine wpAny_pure ?_
  have I4 : Inv X pins σ H3 { s3 with heap := s3.heap.push { cls := .type "slice", data := .fields #[vl, vu, .none] } } := I3.kept (t' := s3.toks) fun b ob q => Heap.get?_push_of_some _ q
  obtain ⟨T, id, hT, ht, hg⟩ := hr pins { s3 with heap := s3.heap.push { cls := .type "slice", data := .fields #[vl, vu, .none] } } σ H3 x v vl vu l u s3.heap.objs.size Q I4 r1 (Heap.IsSliceOf.new ..) pl pu q3
  show wpAny (model X.prog X.w) X.A (subscriptTail e (.Slice lo hi none p2) v (.ref s3.heap.objs.size)) (EP X pins σ Q) X.xe { s3 with heap := s3.heap.push { cls := .type "slice", data := .fields #[vl, vu, .none] } }
  exact tail_any (ops := [.ref s3.heap.objs.size, v]) ht hT hg (by with_unfolding_all rfl)
def cutV (xs : List V) (lo hi : Option Int) : List V := (xs.drop (HT.sIx xs.length 0 lo)).take (HT.sIx xs.length xs.length hi - HT.sIx xs.length 0 lo)
theorem cutV_length (xs : List V) (lo hi : Option Int) : (cutV xs lo hi).length ≤ xs.length := by
  unfold cutV
  rw [List.length_take, List.length_drop]
  omega
end
end L2
namespace L2
open PySem PySem.Spec PyProof.Rows
def ixN (n : Nat) (i : Int) : Option Nat := if 0 ≤ i then (if i < n then some i.toNat else none) else if -(n : Int) ≤ i then some (i + n).toNat else none
def atI {α : Type} (xs : List α) (i : Int) : Option α := (ixN xs.length i).bind fun j => xs[j]?
theorem ixN_seq {n : Nat} {i : Int} {j : Nat} (h : ixN n i = some j) : seqIndex? i n = some j ∧ j < n ∧ -(n : Int) ≤ i ∧ i < n := by
  unfold ixN at h
  by_cases h0 : 0 ≤ i
  · rw [if_pos h0] at h
    by_cases h1 : i < n
    · rw [if_pos h1] at h
      have e : i.toNat = j := Option.some.inj h
      exact ⟨by rw [seqIndex_of h0 h1, e], by omega, by omega, h1⟩
    · rw [if_neg h1] at h; cases h
  · rw [if_neg h0] at h
    by_cases h1 : -(n : Int) ≤ i
    · rw [if_pos h1] at h
      have e : (i + n).toNat = j := Option.some.inj h
      exact ⟨by rw [seqIndex_neg (by omega) h1, e], by omega, h1, by omega⟩
    · rw [if_neg h1] at h; cases h
theorem atI_get {α : Type} {xs : List α} {i : Int} {v : α} (h : atI xs i = some v) : ∃ j, seqIndex? i xs.length = some j ∧ xs[j]? = some v ∧ j < xs.length ∧ -(xs.length : Int) ≤ i ∧ i < xs.length := by
  unfold atI at h
  cases e : ixN xs.length i with
  | none => rw [e] at h; cases h
  | some j =>
    rw [e] at h
    obtain ⟨h1, h2, h3, h4⟩ := ixN_seq e
    exact ⟨j, h1, h, h2, h3, h4⟩
theorem atI_nat {α : Type} {xs : List α} {j : Nat} {v : α} (h : xs[j]? = some v) : atI xs (j : Int) = some v := by
  have hj : j < xs.length := (List.getElem?_eq_some_iff.mp h).1
  have e : ixN xs.length (j : Int) = some j := by
    unfold ixN
    rw [if_pos (by omega), if_pos (by omega)]; simp
  unfold atI; rw [e]; exact h
def PlainIx (b : Expr) : Prop := ∀ o i, subscripted b false o i = operate [o, i] (getItem o i)
def IxR (X : Cx) (r : R2) : Prop :=
  ∀ (value slice : Expr) (pins : List (Addr × Obj)) (s : Shared) (σ : St) (H : Hp) (x y : V) (v u : Value) (Q : VK), Inv X pins σ H s → RelV x v → RelV y u → r x y H Q →
    subscripted slice false v u = operate [v, u] (getItem v u) → wpAny (model X.prog X.w) X.A (subscriptTail value slice v u) (EP X pins σ Q) X.xe s
def MtR (X : Cx) (id : String) (r : V → List V → Hp → VK → Prop) : Prop :=
  ∀ (pins : List (Addr × Obj)) (s : Shared) (σ : St) (H : Hp) (x : V) (xs : List V) (v : Value) (us : List Value) (Q : VK), Inv X pins σ H s → RelV x v → Vals xs us → r x xs H Q →
    wpAny (model X.prog X.w) X.A (call (.builtin id) (v :: us)) (EP X pins σ Q) X.xe s
section
variable {X : Cx} {a b : Expr} {ta tb : TE} {pos : Pos}
theorem IxR.or {r r' : R2} (h : IxR X r) (h' : IxR X r') : IxR X (fun x y H Q => r x y H Q ∨ r' x y H Q) := by
  intro value slice pins s σ H x y v u Q I rx ry q hs
  rcases q with q | q
  · exact h value slice pins s σ H x y v u Q I rx ry q hs
  · exact h' value slice pins s σ H x y v u Q I rx ry q hs
theorem MtR.or {id : String} {r r' : V → List V → Hp → VK → Prop} (h : MtR X id r) (h' : MtR X id r') : MtR X id (fun x xs H Q => r x xs H Q ∨ r' x xs H Q) := by
  intro pins s σ H x xs v us Q I rx rs q
  rcases q with q | q
  · exact h pins s σ H x xs v us Q I rx rs q
  · exact h' pins s σ H x xs v us Q I rx rs q
theorem pe_ix {r : R2} (hr : IxR X r) (ha : PE X a ta) (hb : PE X b tb) (hs : PlainIx b) : PE X (.Subscript a b pos) (tOp r ta tb) := by
  intro pins s σ H Q I h
  exact Subscript_ (binT ha hb I h fun v u s2 x y H2 I2 rx ry q => hr a b pins s2 σ H2 x y v u Q I2 rx ry q (hs _ _))
def rIxL (K : PySem.W.Frag) : R2 := fun x y H Q => ∃ p xs i v, x = .ref p ∧ y = .int i ∧ SqL K H p xs ∧ atI xs i = some v ∧ Q v H
def rIxT (K : PySem.W.Frag) : R2 := fun x y H Q => ∃ p xs i v, x = .ref p ∧ y = .int i ∧ SqT K H p xs ∧ atI xs i = some v ∧ Q v H
theorem ix_list : IxR X (rIxL X.K) := by
  intro value slice pins s σ H x y v u Q I rx ry h hs
  obtain ⟨p, xs, i, z, rfl, rfl, hq, he, q⟩ := h
  cases rx
  obtain ⟨t, rfl⟩ := ry
  obtain ⟨its, r, pl, hz⟩ := I.list hq
  obtain ⟨j, h1, h2, h3, h4, h5⟩ := atI_get he
  obtain ⟨w, ew, rw'⟩ := r.get h2
  have hl := r.length
  have hn := line63
  have fin : EP X pins σ Q w s := ⟨z, H, I, rw', q⟩
  by_cases h0 : 0 ≤ i
  · have hj : i.toNat = j := by
      rw [seqIndex_of h0 h5] at h1
      exact Option.some.inj h1
    exact item_listR pl.isList h0 (by omega) (by rw [hj]; simpa using ew) fin hs
  · have hj : (i + (its.toArray.size : Int)).toNat = j := by
      rw [seqIndex_neg (by omega) h4] at h1
      rw [List.size_toArray, ← hl]
      exact Option.some.inj h1
    exact subscriptTail_builtinR (x := w) pl.isList.typeIs slot_list_getitem.lookup
      (wpAny_getItem_list_neg (Q := fun r s' => r = w ∧ EP X pins σ Q r s') pl.isList (by omega) (by rw [List.size_toArray] <;> omega) (by omega) (by rw [hj]; simpa using ew) ⟨rfl, fin⟩) hs
theorem ix_tup : IxR X (rIxT X.K) := by
  intro value slice pins s σ H x y v u Q I rx ry h hs
  obtain ⟨p, xs, i, z, rfl, rfl, hq, he, q⟩ := h
  cases rx
  obtain ⟨t, rfl⟩ := ry
  obtain ⟨its, r, pl, hz⟩ := I.tuple hq
  obtain ⟨j, h1, h2, h3, h4, h5⟩ := atI_get he
  obtain ⟨w, ew, rw'⟩ := r.get h2
  have hl := r.length
  have hn := line63
  have fin : EP X pins σ Q w s := ⟨z, H, I, rw', q⟩
  exact subscriptTail_builtinR (x := w) pl.typeIs slot_tuple_getitem.lookup
    (getItem_tuple (j := j) (Q := fun r s' => r = w ∧ EP X pins σ Q r s') pl (by omega) (by omega) (by rw [List.size_toArray, ← hl]; exact h1) (by simpa using ew) ⟨rfl, fin⟩) hs
theorem mapSeq_set (its : List Value) (n j : Nat) (u : Value) : Obj.mapSeq (·.setIfInBounds j u) { cls := .type "list", data := .seq its.toArray n } = { cls := .type "list", data := .seq (its.set j u).toArray n } := by
  simp [Obj.mapSeq]
theorem Inv.lst {pins : List (Addr × Obj)} {σ : St} {H : Hp} {s : Shared} {p : Addr} {xs : List V} (I : Inv X pins σ H s) (h : H p = some (.lst xs)) :
    ∃ (its : List Value) (n : Nat), Vals xs its ∧ s.heap.get? p = some { cls := .type "list", data := .seq its.toArray n } ∧ xs.length ≤ sizeLine := by
  obtain ⟨z, its, n, r, e⟩ := I.hok p _ h
  exact ⟨its, n, r, e, z⟩
theorem Inv.lstUpd {pins : List (Addr × Obj)} {σ : St} {H : Hp} {s : Shared} {p : Addr} {xs ys : List V} {its its' : List Value} {n n' : Nat} {f : Obj → Obj} (I : Inv X pins σ H s) (h : H p = some (.lst xs))
    (ho : s.heap.get? p = some { cls := .type "list", data := .seq its.toArray n }) (hf : f { cls := .type "list", data := .seq its.toArray n } = { cls := .type "list", data := .seq its'.toArray n' }) (r : Vals ys its') (hz : ys.length ≤ sizeLine) (t : Nat) :
    Inv X pins σ (upd H p (.lst ys)) { s with heap := s.heap.update p f, toks := t } := by
  have e : (s.heap.update p f).get? p = some { cls := .type "list", data := .seq its'.toArray n' } := by
    rw [Heap.get?_update_self f ho (by rw [hf] <;> rfl), hf]
  refine I.write (x := p) (e := p) (by rw [h]; trivial) (.inl rfl) (fun b u hb q => (Heap.get?_update_other _ _ (Ne.symm hb)).trans q) ⟨_, e⟩ ?_
  exact ⟨hz, its', n', r, e⟩
def rSetL : V → V → V → Hp → (Hp → Prop) → Prop := fun o i v H Q => ∃ p xs k j, o = .ref p ∧ i = .int k ∧ H p = some (.lst xs) ∧ ixN xs.length k = some j ∧ Q (upd H p (.lst (xs.set j v)))
theorem set_list : PSet X rSetL := by
  intro pins s σ H o i v ov iv u Q I ro ri rv h
  obtain ⟨p, xs, k, j, rfl, rfl, hp, hj, q⟩ := h
  cases ro
  obtain ⟨t, rfl⟩ := ri
  obtain ⟨its, n, r, ho, hz⟩ := I.lst hp
  obtain ⟨h1, h2, h3, h4⟩ := ixN_seq hj
  have hl := r.length
  have hn := line63
  have I' : Inv X pins σ (upd H p (.lst (xs.set j v))) { s with heap := s.heap.update p (Obj.mapSeq (·.setIfInBounds j u)) } :=
    I.lstUpd hp ho (mapSeq_set its n j u) (r.set rv j) (by rw [List.length_set]; exact hz) s.toks
  by_cases h0 : 0 ≤ k
  · have hk : k.toNat = j := by
      rw [seqIndex_of h0 h4] at h1
      exact Option.some.inj h1
    exact PySem.W.ki_setAt ho h0 (by omega) (by rw [List.size_toArray, ← hl]; exact h4) (by rw [hk]; exact ⟨_, I', q⟩)
  · have hk : (k + (its.toArray.size : Int)).toNat = j := by
      rw [seqIndex_neg (by omega) h3] at h1
      rw [List.size_toArray, ← hl]
      exact Option.some.inj h1
    exact PySem.W.ki_setBack ho (by omega) (by rw [List.size_toArray, ← hl]; exact h3) (by omega) (by rw [hk]; exact ⟨_, I', q⟩)
theorem slice_bounds (lo hi : Option Int) (n : Nat) : (sliceBounds lo hi none n).1 = ((HT.sIx n 0 lo : Nat) : Int) ∧ (sliceBounds lo hi none n).2.1 = ((HT.sIx n n hi : Nat) : Int) ∧ (sliceBounds lo hi none n).2.2 = 1 := by
  refine ⟨?_, ?_, rfl⟩
  · cases lo with
    | none => simp [sliceBounds, HT.sIx]
    | some i =>
      simp only [sliceBounds, HT.sIx, Option.getD_none, show (1 : Int) > 0 by decide, if_true]
      by_cases h : i < 0
      · simp only [h, if_true] <;> omega
      · simp only [h, if_false] <;> omega
  · cases hi with
    | none => simp [sliceBounds, HT.sIx]
    | some i =>
      simp only [sliceBounds, HT.sIx, Option.getD_none, show (1 : Int) > 0 by decide, if_true]
      by_cases h : i < 0
      · simp only [h, if_true] <;> omega
      · simp only [h, if_false] <;> omega
theorem slicePick_cut (its : List Value) (lo hi : Option Int) : slicePick its.toArray lo hi none = ((its.drop (HT.sIx its.length 0 lo)).take (HT.sIx its.length its.length hi - HT.sIx its.length 0 lo)).toArray := by
  obtain ⟨h1, h2, h3⟩ := slice_bounds lo hi its.toArray.size
  unfold slicePick
  rw [h1, h2, h3]
  simp only [sliceRange_one, pick_run, List.size_toArray] <;> rfl
def rSlL (K : PySem.W.Frag) : V → Option Int → Option Int → Hp → VK → Prop := fun x lo hi H Q => ∃ a xs, x = .ref a ∧ SqL K H a xs ∧ ∀ p, H p = none → Q (.ref p) (upd H p (.lst (cutV xs lo hi)))
theorem sl_list : SlR X (rSlL X.K) := by
  intro pins s σ H x v vl vu lo hi sl Q I rx hs pl pu h
  obtain ⟨a, xs, rfl, hx, q⟩ := h
  cases rx
  obtain ⟨its, r, ht, hz⟩ := I.list hx
  have hlen := r.length
  refine ⟨"list", _, slot_list_getitem.lookup, ht.isList.typeIs, ?_⟩
  refine wpAny_getItem_list_slice ht.isList hs pl pu .none (by simp) ?_ (by rw [List.size_toArray] <;> omega)
  rw [slicePick_cut, ← hlen]
  refine ⟨.ref s.heap.objs.size, _, I.laid (t' := s.toks) (o := .lst (cutV xs lo hi)) (fun b ob q => Heap.get?_push_of_some _ q) (Nat.le_refl _) ?_, rfl, q _ (I.hok.fresh (Nat.le_refl _))⟩
  exact ⟨Nat.le_trans (cutV_length xs lo hi) hz, _, 0, (r.drop (HT.sIx xs.length 0 lo)).take (HT.sIx xs.length xs.length hi - HT.sIx xs.length 0 lo), Heap.get?_push_size _ rfl⟩
def flatV : V → Bool
  | .non => true
  | .bl _ => true
  | .int _ => true
  | .str _ => true
  | _ => false
def eqV : V → V → Bool
  | .non, .non => true
  | .bl a, .bl b => a == b
  | .bl a, .int b => (if a then 1 else 0) == b
  | .int a, .bl b => a == (if b then 1 else 0)
  | .int a, .int b => a == b
  | .str a, .str b => a == b
  | _, _ => false
theorem eqAt_V {A : Around} {s : Shared} {y x : V} {u v : Value} (ry : RelV y u) (rx : RelV x v) (fy : flatV y = true) (fx : flatV x = true) : SeqAt.EqAt A s u v (eqV y x) := by
  cases y with
  | non =>
    cases ry
    cases x with
    | non => cases rx; exact SeqAt.EqAt.same _
    | bl b => cases rx; exact SeqAt.EqAt.none_bool b
    | int b => obtain ⟨t, rfl⟩ := rx; exact SeqAt.EqAt.none_int b t
    | str b => obtain ⟨t, rfl⟩ := rx; exact SeqAt.EqAt.none_str b t
    | _ => exact absurd (show false = true from fx) Bool.false_ne_true
  | bl a =>
    cases ry
    cases x with
    | non => cases rx; exact SeqAt.EqAt.bool_none a
    | bl b => cases rx; exact SeqAt.EqAt.bool_bool a b
    | int b => obtain ⟨t, rfl⟩ := rx; exact SeqAt.EqAt.bool_int a b t
    | str b => obtain ⟨t, rfl⟩ := rx; exact SeqAt.EqAt.bool_str a b t
    | _ => exact absurd (show false = true from fx) Bool.false_ne_true
  | int a =>
    obtain ⟨t', rfl⟩ := ry
    cases x with
    | non => cases rx; exact SeqAt.EqAt.int_none a t'
    | bl b => cases rx; exact SeqAt.EqAt.int_bool a t' b
    | int b => obtain ⟨t, rfl⟩ := rx; exact SeqAt.EqAt.int_int a t' b t
    | str b => obtain ⟨t, rfl⟩ := rx; exact SeqAt.EqAt.int_str a t' b t
    | _ => exact absurd (show false = true from fx) Bool.false_ne_true
  | str a =>
    obtain ⟨t', rfl⟩ := ry
    cases x with
    | non => cases rx; exact SeqAt.EqAt.str_none a t'
    | bl b => cases rx; exact SeqAt.EqAt.str_bool a t' b
    | int b => obtain ⟨t, rfl⟩ := rx; exact SeqAt.EqAt.str_int a t' b t
    | str b => obtain ⟨t, rfl⟩ := rx; exact SeqAt.EqAt.str_str a t' b t
    | _ => exact absurd (show false = true from fx) Bool.false_ne_true
  | _ => exact absurd (show false = true from fy) Bool.false_ne_true
def eqU (x : V) (u : Value) : Bool := match u with
  | .none => eqV .non x
  | .bool b => eqV (.bl b) x
  | .int i _ => eqV (.int i) x
  | .str z _ => eqV (.str z) x
  | _ => false
theorem eqU_of {x y : V} {u : Value} (r : RelV y u) (f : flatV y = true) : eqU x u = eqV y x := by
  cases y with
  | non => cases r; rfl
  | bl b => cases r; rfl
  | int i => obtain ⟨t, rfl⟩ := r; rfl
  | str z => obtain ⟨t, rfl⟩ := r; rfl
  | _ => exact absurd (show false = true from f) Bool.false_ne_true
theorem any_eqU {x : V} : ∀ {xs : List V} {us : List Value}, Vals xs us → xs.all flatV = true → us.any (eqU x) = xs.any fun y => eqV y x
  | _, _, .nil, _ => rfl
  | y :: xs, u :: us, .cons r t, f => by
    rw [List.all_cons, Bool.and_eq_true] at f
    rw [List.any_cons, List.any_cons, eqU_of r f.1, any_eqU t f.2]
theorem mem_eqAt {A : Around} {s : Shared} {x : V} {v : Value} (rx : RelV x v) (fx : flatV x = true) : ∀ {xs : List V} {us : List Value}, Vals xs us → xs.all flatV = true → ∀ u ∈ us, SeqAt.EqAt A s u v (eqU x u)
  | _, _, .nil, _ => fun u hu => by cases hu
  | y :: xs, u :: us, .cons r t, f => fun u' hu => by
    rw [List.all_cons, Bool.and_eq_true] at f
    rcases List.mem_cons.mp hu with rfl | hu
    · rw [eqU_of r f.1]; exact eqAt_V r rx f.1 fx
    · exact mem_eqAt rx fx t f.2 u' hu
def inV (x : V) (xs : List V) : Bool := xs.any fun y => eqV y x
def rIn (K : PySem.W.Frag) (neg : Bool) : R2 := fun x y H Q => ∃ p xs, y = .ref p ∧ (SqL K H p xs ∨ SqT K H p xs) ∧ flatV x = true ∧ xs.all flatV = true ∧ Q (.bl (if neg then !inV x xs else inV x xs)) H
theorem op_notIn_seq : OpR X (compareOp .NotIn) (rIn X.K true) := by
  intro pins s σ H x y v u Q I rx ry h
  obtain ⟨p, xs, rfl, hq, fx, fs, q⟩ := h
  cases ry
  rcases hq with hq | hq
  · obtain ⟨its, r, pl, hz⟩ := I.list hq
    refine SeqAt.notIn_listAt (eqU x) pl.isList (fun w hw => mem_eqAt rx fx r fs w (by simpa using hw)) ⟨.bl _, H, I, rfl, ?_⟩
    rw [show its.toArray.any (eqU x) = its.any (eqU x) by simp, any_eqU r fs]
    exact q
  · obtain ⟨its, r, pl, hz⟩ := I.tuple hq
    refine SeqAt.notIn_tupleAt (eqU x) pl (fun w hw => mem_eqAt rx fx r fs w (by simpa using hw)) ⟨.bl _, H, I, rfl, ?_⟩
    rw [show its.toArray.any (eqU x) = its.any (eqU x) by simp, any_eqU r fs]
    exact q
theorem call_len_seq : CallR X (.builtin "len") (fun xs H Q => ∃ p ys, xs = [.ref p] ∧ (SqL X.K H p ys ∨ SqT X.K H p ys) ∧ Q (.int ys.length) H) := by
  intro pins s σ H xs us Q I r h
  obtain ⟨p, ys, rfl, hq, q⟩ := h
  obtain ⟨u, rfl, rx⟩ := vals1 r
  cases rx
  have hn := line63
  rcases hq with hq | hq
  · obtain ⟨its, r', pl, hz⟩ := I.list hq
    have hlen := r'.length
    exact Calls.call_len_list pl.isList (by simp only [List.size_toArray] <;> omega) ⟨.int ys.length, H, I.tok _, ⟨s.toks + 1, by rw [List.size_toArray, hlen]⟩, q⟩
  · obtain ⟨its, r', pl, hz⟩ := I.tuple hq
    have hlen := r'.length
    exact len_tuple pl (by simp only [List.size_toArray] <;> omega) ⟨.int ys.length, H, I.tok _, ⟨s.toks + 1, by rw [List.size_toArray, hlen]⟩, q⟩
theorem CallR.or {f : Value} {r r' : List V → Hp → VK → Prop} (h : CallR X f r) (h' : CallR X f r') : CallR X f (fun xs H Q => r xs H Q ∨ r' xs H Q) := by
  intro pins s σ H xs us Q I rs q
  rcases q with q | q
  · exact h pins s σ H xs us Q I rs q
  · exact h' pins s σ H xs us Q I rs q
def tyV (K : PySem.W.Frag) (T : String) (x : V) (H : Hp) : Prop := match x with
  | .str _ => T = "str"
  | .int _ => T = "int"
  | .ref p => (T = "list" ∧ ∃ xs, SqL K H p xs) ∨ (T = "tuple" ∧ ∃ o, K.lookup p = some o ∧ o.cls = .type "tuple" ∧ o.dict = none) ∨
      (T = "dict" ∧ ((∃ kvs, H p = some (.dK kvs)) ∨ ∃ kvs, H p = some (.dT kvs))) ∨ (T = "set" ∧ ∃ S n, H p = some (.set S n))
  | _ => False
theorem tyV_is {pins : List (Addr × Obj)} {σ : St} {H : Hp} {s : Shared} {T : String} {x : V} {v : Value} (I : Inv X pins σ H s) (r : RelV x v) (ty : tyV X.K T x H) :
    s.TypeIs v T ∧ ∀ a, v = .ref a → ∃ ob, s.heap.get? a = some ob ∧ ob.dict = none := by
  cases x with
  | str z =>
    obtain ⟨t, rfl⟩ := r
    cases (show T = "str" from ty)
    exact ⟨typeIs_str s z t, fun _ e => nomatch e⟩
  | int i =>
    obtain ⟨t, rfl⟩ := r
    cases (show T = "int" from ty)
    exact ⟨typeIs_int s i t, fun _ e => nomatch e⟩
  | ref p =>
    cases r
    rcases ty with ⟨rfl, xs, hq⟩ | ⟨rfl, o, hk, hc, hd⟩ | ⟨rfl, hk⟩ | ⟨rfl, S, n, hk⟩
    · obtain ⟨its, _, pl, _⟩ := I.list hq
      refine ⟨pl.isList.typeIs, fun a e => ?_⟩
      cases e
      obtain ⟨o, n, e, c, hd, _⟩ := pl
      exact ⟨o, e, hd⟩
    · refine ⟨⟨o, I.kIn p o hk, hc⟩, fun a e => ?_⟩
      cases e
      exact ⟨o, I.kIn _ o hk, hd⟩
    · have z : ∃ o, s.heap.get? p = some o ∧ o.ExactDict := by
        rcases hk with ⟨kvs, hk⟩ | ⟨kvs, hk⟩
        · obtain ⟨_, _, _, _, o, _, _, e, ex, _⟩ := I.hok p _ hk
          exact ⟨o, e, ex⟩
        · obtain ⟨_, _, _, _, o, _, _, e, ex, _⟩ := I.hok p _ hk
          exact ⟨o, e, ex⟩
      obtain ⟨o, e, ex⟩ := z
      refine ⟨⟨o, e, ex.1⟩, fun a e2 => ?_⟩
      cases e2
      exact ⟨o, e, ex.2.1⟩
    · obtain ⟨o, _, _, _, e, ex, _⟩ := I.hok p _ hk
      refine ⟨⟨o, e, ex.1⟩, fun a e2 => ?_⟩
      cases e2
      exact ⟨o, e, ex.2.1⟩
  | _ => exact False.elim ty
def tBM (K : PySem.W.Frag) (T : String) (r : V → List V → Hp → VK → Prop) (to : TE) (t : TA) : TE := fun σ H Q => to σ H fun x H1 => tyV K T x H1 ∧ t σ H1 fun xs H2 => r x xs H2 Q
variable {o e : Expr} {es : List Expr} {to : TE} {t : TA} {name : Str} {apos cpos : Pos} {T id : String} {r : V → List V → Hp → VK → Prop}
theorem pe_bm (pa : PlainAttrs T) (slot : Slot T name id) (hty : typeOf (.builtin id) = pure (.type "method_descriptor")) (hm : MtR X id r) (ho : PE X o to) (ha : PA X (e :: es) t)
    (hbase : attributeBase o name X.env (eval o X.env) = eval o X.env := by rfl)
    (hfew : ((backTo cpos (starEach (e :: es) X.env)).all (fun x => !x.1) && (backToKw cpos (keywordEach [] X.env)).all (fun x => x.1.isSome)
      && decide ((e :: es).length + ([] : List Keyword).length + (if ([] : List Keyword).isEmpty then 0 else 1) < 30)) = true := by rfl)
    (hline : (apos.endLine == cpos.line) = true := by rfl) (hs : starEach (e :: es) X.env = (false, eval e X.env) :: starEach es X.env := by rfl) (hplain : (backTo cpos (starEach es X.env)).any (·.1) = false := by rfl) :
    PE X (.Call (.Attribute o name apos) (e :: es) [] cpos) (tBM X.K T r to t) := by
  intro pins s σ H Q I h
  refine wpAny_Call_method_late hbase hfew hline rfl (thn (ho pins s σ H _ I h) fun v s1 ⟨x, H1, I1, r1, ty, q1⟩ => ?_)
  obtain ⟨h1, h2⟩ := tyV_is I1 r1 ty
  refine ⟨T, id, pa, slot, hty, h1, h2, ?_⟩
  have hA := ha cpos pins s1 σ H1 _ I1 q1
  rw [hs] at hA ⊢
  refine Calls.callWith_builtin (by show (false || (backTo cpos (starEach es X.env)).any (·.1)) = false; rw [hplain] <;> rfl) (Calls.evalArgs_plain ?_)
  exact thn hA fun us s2 ⟨vs, H2, I2, r2, q2⟩ => hm pins s2 σ H2 x vs v us Q I2 r1 r2 q2
end
end L2
namespace L2
open PySem PySem.Spec PyProof.Rows
def MtM (X : Cx) (id : String) (r : V → List V → Hp → VK → Prop) : Prop :=
  ∀ (pins : List (Addr × Obj)) (s : Shared) (σ : St) (H : Hp) (x : V) (xs : List V) (v : Value) (us : List Value) (Q : VK), Inv X pins σ H s → RelV x v → Vals xs us → r x xs H Q →
    wpAny (model X.prog X.w) X.A (call (.builtin id) (v :: us)) (EP X pins σ Q) X.xe s
theorem Vals.one : ∀ {x : V} {us : List Value}, Vals [x] us → ∃ u, us = [u] ∧ RelV x u
  | _, _, .cons r .nil => ⟨_, rfl, r⟩
theorem Vals.zero : ∀ {us : List Value}, Vals [] us → us = []
  | _, .nil => rfl
theorem Vals.rep {xs : List V} {us : List Value} (h : Vals xs us) : ∀ k : Nat, Vals (List.replicate k xs).flatten (List.replicate k us).flatten
  | 0 => .nil
  | k + 1 => by
    rw [List.replicate_succ, List.replicate_succ, List.flatten_cons, List.flatten_cons]
    exact Vals.append h (Vals.rep h k)
theorem foldl_rep (its : List Value) : ∀ (k : Nat) (acc : List Value),
    List.foldl (fun x1 x2 => x1 ++ x2) acc.toArray (List.replicate k its.toArray) = (acc ++ (List.replicate k its).flatten).toArray
  | 0, acc => by simp
  | k + 1, acc => by
    have e : acc.toArray ++ its.toArray = (acc ++ its).toArray := by simp
    have e2 : (acc ++ its) ++ (List.replicate k its).flatten = acc ++ (List.replicate (k + 1) its).flatten := by
      rw [List.replicate_succ, List.flatten_cons, List.append_assoc]
    rw [← e2, ← foldl_rep its k (acc ++ its), ← e, List.replicate_succ, List.foldl_cons]
section
variable {X : Cx} {pins : List (Addr × Obj)} {σ : St} {H : Hp} {s : Shared} {l b : Addr} {xs ys zs : List V}
theorem Inv.lset {its its' : List Value} {n : Nat} {f : Array Value → Array Value} {t' : Nat} (I : Inv X pins σ H s) (hH : H l = some (.lst xs))
    (e : s.heap.get? l = some { cls := .type "list", data := .seq its.toArray n }) (hf : f its.toArray = its'.toArray) (hv : Vals ys its') (hz : ys.length ≤ sizeLine) :
    Inv X pins σ (upd H l (.lst ys)) { s with heap := s.heap.update l (Obj.mapSeq f), toks := t' } := by
  have q := PySem.IsL.update e f
  rw [hf] at q
  refine I.write (x := l) (e := l) (by rw [hH]; exact trivial) (.inl rfl) (fun b' u hb hu => (Heap.get?_update_other s.heap (Obj.mapSeq f) (Ne.symm hb)).trans hu) ⟨_, q⟩ ?_
  exact ⟨hz, its', _, hv, q⟩
theorem Inv.lnew {its : List Value} {t' : Nat} (I : Inv X pins σ H s) (hv : Vals ys its) (hz : ys.length ≤ sizeLine) :
    Inv X pins σ (upd H s.heap.objs.size (.lst ys)) { s with heap := s.heap.push { cls := .type "list", data := .seq its.toArray }, toks := t' } :=
  I.laid (fun _ _ q => Heap.get?_push_of_some _ q) (Nat.le_refl _) ⟨hz, its, 0, hv, Heap.get?_push_size _ rfl⟩
theorem Inv.fresh (I : Inv X pins σ H s) : H s.heap.objs.size = none := I.hok.fresh (Nat.le_refl _)
theorem Inv.lstM (I : Inv X pins σ H s) (hH : H l = some (.lst xs)) : xs.length ≤ sizeLine ∧ ∃ (its : List Value) (n : Nat), Vals xs its ∧ xs.length = its.length ∧ s.heap.get? l = some { cls := .type "list", data := .seq its.toArray n } := by
  obtain ⟨z, its, n, r, e⟩ := I.hok l _ hH
  exact ⟨z, its, n, r, r.length, e⟩
theorem notLongL {n : Nat} (h : n ≤ sizeLine) : Builtin.List.listTooLong n = false := by
  unfold Builtin.List.listTooLong
  exact decide_eq_false (by omega)
end
section
variable {X : Cx}
def rAppend : V → List V → Hp → VK → Prop := fun x vs H Q => ∃ l xs y, x = .ref l ∧ vs = [y] ∧ H l = some (.lst xs) ∧ xs.length < sizeLine ∧ Q .non (upd H l (.lst (xs ++ [y])))
theorem mt_append : MtM X "list.append" rAppend := by
  intro pins s σ H x vs v us Q I rx rv h
  obtain ⟨l, xs, y, rfl, rfl, hH, hz, q⟩ := h
  cases rx
  obtain ⟨u, rfl, ru⟩ := rv.one
  obtain ⟨z, its, n, r, hl, e⟩ := I.lstM hH
  refine call_meets F.slot_list_append ⟨_, e, rfl⟩ F.entry_list_append (F.args_list_append_2 _ _) (PySem.list_append l its.toArray n u (by rw [List.size_toArray]; omega)) ⟨e, ?_⟩
  refine ⟨.non, _, I.lset (its' := its ++ [u]) hH e (by simp) (r.append (.cons ru .nil)) ?_, rfl, q⟩
  rw [List.length_append, List.length_singleton]
  omega
def rRep : R2 := fun x y H Q => ∃ l k xs, x = .ref l ∧ y = .int k ∧ H l = some (.lst xs) ∧ -(2 ^ 63) ≤ k ∧ k < 2 ^ 63 ∧ xs.length * k.toNat ≤ sizeLine ∧
  ∀ p, H p = none → Q (.ref p) (upd H p (.lst (List.replicate k.toNat xs).flatten))
theorem len_rep {α : Type} (xs : List α) (k : Nat) : (List.replicate k xs).flatten.length = k * xs.length := by
  induction k with
  | zero => simp
  | succ k ih => rw [List.replicate_succ, List.flatten_cons, List.length_append, ih, Nat.succ_mul, Nat.add_comm]
theorem op_rep : OpR X (binaryOp .Mult) rRep := by
  intro pins s σ H x y v u Q I rx ry h
  obtain ⟨l, k, xs, rfl, rfl, hH, h1, h2, hz, q⟩ := h
  cases rx
  obtain ⟨t, rfl⟩ := ry
  obtain ⟨z, its, n, r, hl, e⟩ := I.lstM hH
  have hlen : its.toArray.size * k.toNat ≤ sizeLine := by rw [List.size_toArray, ← hl]; exact hz
  have hcap : ¬ its.toArray.size * k.toNat > (2 ^ 63 - 1) / 8 := by
    have : (sizeLine : Nat) ≤ (2 ^ 63 - 1) / 8 := by decide
    omega
  have hfit : ¬ (!Builtin.List.listFitsIndex k) = true := by
    rw [fitsIndex_both h1 h2]
    exact Bool.false_ne_true
  have hlong : ¬ Builtin.List.listTooLong (its.toArray.size * k.toNat) = true := by
    rw [notLongL hlen]
    exact Bool.false_ne_true
  have hnew : List.foldl (fun x1 x2 => x1 ++ x2) #[] (List.replicate (if its.toArray.isEmpty = true then 0 else k.toNat) its.toArray) = (List.replicate k.toNat its).flatten.toArray := by
    have f0 : ∀ m : Nat, List.foldl (fun x1 x2 => x1 ++ x2) #[] (List.replicate m its.toArray) = (List.replicate m its).flatten.toArray := fun m => by
      have := foldl_rep its m []
      rw [List.nil_append] at this
      exact this
    rw [f0]
    cases its with
    | nil => simp
    | cons a r' => rw [if_neg (by simp)]
  refine wpAny_binaryOp_repeat_ref (T := "list") (U := "int") (by decide) ⟨_, e, rfl⟩ (fun s' => typeIs_int s' k t) noFill_list_mul F.fills_int_mul F.slot_int_rmul repeat_list F.slot_int_index.lookup
    (call_meets F.slot_int_rmul (typeIs_int s k t) F.entry_int_rmul (F.args_int_rmul_2 _ _) (int___rmul___int_list k t l its.toArray n)
      ⟨e, rfl, ⟨_, e, rfl⟩, call_meets F.slot_list_mul ⟨_, e, rfl⟩ F.entry_list_mul (F.args_list_mul_2 _ _) (AutoListH.list___mul___list_int_3 l its.toArray n k t hfit hcap hlong) ⟨e, ?_⟩⟩)
  rw [hnew]
  exact ⟨.ref _, _, I.lnew (t' := s.toks) (r.rep k.toNat) (by rw [len_rep, Nat.mul_comm]; exact hz), rfl, q _ I.fresh⟩
end
section
variable {prog : Program} {w : World} {A : Around} {E : Value → Shared → Prop} {s : Shared}
set_option maxRecDepth 100000 in
end
section
variable {X : Cx}
end
end L2
namespace L2
open PySem PySem.Spec PyProof.Rows
theorem Vals.ints : ∀ {ns : List Int} {us : List Value}, Vals (ns.map V.int) us → IntsAre us ns
  | [], us, h => by
    rw [List.map_nil] at h
    cases h
    exact IntsAre.nil
  | n :: ns, us, h => by
    rw [List.map_cons] at h
    cases h with
    | cons r t =>
      obtain ⟨k, rfl⟩ := r
      exact IntsAre.cons n k (Vals.ints t)
section
variable {prog : Program} {w : World} {A : Around} {E : Value → Shared → Prop} {s : Shared} {l : Addr} {its : List Value} {ns : List Int} {Q : Value → Shared → Prop}
end
section
variable {X : Cx}
end
section
variable {X : Cx}
end
section
variable {X : Cx}
end
section
variable {X : Cx}
end
section
variable {X : Cx} {pins : List (Addr × Obj)} {σ : St} {H : Hp} {s : Shared}
end
section
variable {X : Cx}
end
end L2
namespace L2
open PySem PySem.Spec PyProof.Rows
section
variable {X : Cx} {pins : List (Addr × Obj)} {σ : St} {H : Hp} {s : Shared}
end
section
variable {X : Cx}
end
end L2
namespace L2
open PySem PySem.Spec PyProof.Rows
section
variable {prog : Program} {w : World} {A : Around} {R : Result → Shared → Prop} {s : Shared} {elt t0 i0 t1 i1 : Expr} {ifs0 ifs1 : List Expr} {scope : Scope} {pos : Pos} {it acc : Value} {env : Env}
end
section
variable {X : Cx}
end
end L2
namespace L2
open PySem PySem.Spec PyProof.Rows
section
variable {κ : Type} [DecidableEq κ]
def valV (kvs : List (κ × V)) (k : κ) : Option V := (kvs.find? fun kv => decide (kv.1 = k)).map (·.2)
def putK (kvs : List (κ × V)) (k : κ) (v : V) : List (κ × V) :=
  if (kvs.any fun kv => decide (kv.1 = k)) = true then kvs.map (fun kv => if kv.1 = k then (kv.1, v) else kv) else kvs ++ [(k, v)]
def dropK (kvs : List (κ × V)) (k : κ) : List (κ × V) := kvs.filter fun kv => decide (kv.1 ≠ k)
theorem valV_pos {p : κ × V} {r : List (κ × V)} {k : κ} (e : p.1 = k) : valV (p :: r) k = some p.2 := by simp [valV, List.find?_cons, e]
theorem valV_neg {p : κ × V} {r : List (κ × V)} {k : κ} (e : ¬ p.1 = k) : valV (p :: r) k = valV r k := by simp [valV, List.find?_cons, e]
theorem valV_any (k : κ) : ∀ kvs : List (κ × V), (kvs.any fun kv => decide (kv.1 = k)) = (valV kvs k).isSome
  | [] => rfl
  | p :: r => by
    rw [List.any_cons]
    by_cases e : p.1 = k
    · simp only [valV_pos e, decide_eq_true e, Bool.true_or, Option.isSome_some]
    · rw [valV_neg e, decide_eq_false e, Bool.false_or]; exact valV_any k r
theorem RelO.isSome_eq {o : Option V} {u : Option Value} (r : RelO o u) : o.isSome = u.isSome := by
  cases o with
  | none => cases u with
    | none => rfl
    | some _ => exact (show False from r).elim
  | some _ => cases u with
    | none => exact (show False from r).elim
    | some _ => rfl
theorem RelO.getD {o : Option V} {u : Option Value} {d : V} {d' : Value} (r : RelO o u) (rd : RelV d d') : RelV (o.getD d) (u.getD d') := by
  cases o with
  | none => cases u with
    | none => exact rd
    | some _ => exact (show False from r).elim
  | some _ => cases u with
    | none => exact (show False from r).elim
    | some _ => exact r
theorem KV.val {kvs : List (κ × V)} {vs : List (κ × Value)} (r : KV kvs vs) (k : κ) : RelO (valV kvs k) (valueAt vs k) := by
  unfold KV at r
  induction r with
  | nil => exact True.intro
  | @cons p q ps qs h t ih =>
    obtain ⟨h1, h2⟩ := h
    by_cases e : p.1 = k
    · have e' : q.1 = k := h1.symm.trans e
      have b : valueAt (q :: qs) k = some q.2 := by simp [valueAt, List.find?_cons, e']
      rw [valV_pos e, b]; exact h2
    · have e' : ¬ q.1 = k := fun z => e (h1.trans z)
      have b : valueAt (q :: qs) k = valueAt qs k := by simp [valueAt, List.find?_cons, e']
      rw [valV_neg e, b]; exact ih
theorem KV.any {kvs : List (κ × V)} {vs : List (κ × Value)} (r : KV kvs vs) (k : κ) : (kvs.any fun kv => decide (kv.1 = k)) = vs.any fun kv => decide (kv.1 = k) := by
  unfold KV at r
  induction r with
  | nil => rfl
  | cons h t ih => rw [List.any_cons, List.any_cons, ih, h.1]
theorem KV.repl {kvs : List (κ × V)} {vs : List (κ × Value)} (r : KV kvs vs) (k : κ) {y : V} {u : Value} (ry : RelV y u) :
    KV (kvs.map fun kv => if kv.1 = k then (kv.1, y) else kv) (vs.map fun kv => if kv.1 = k then (kv.1, u) else kv) := by
  unfold KV at r ⊢
  induction r with
  | nil => exact .nil
  | @cons p q ps qs h t ih =>
    rw [List.map_cons, List.map_cons]
    refine .cons ?_ ih
    obtain ⟨h1, h2⟩ := h
    by_cases e : p.1 = k
    · rw [if_pos e, if_pos (h1.symm.trans e)]; exact ⟨h1, ry⟩
    · rw [if_neg e, if_neg (fun z => e (h1.trans z))]; exact ⟨h1, h2⟩
theorem KV.put {kvs : List (κ × V)} {vs : List (κ × Value)} (r : KV kvs vs) (k : κ) {y : V} {u : Value} (ry : RelV y u) : KV (putK kvs k y) (stored vs k u) := by
  unfold putK stored
  rw [r.any k]
  by_cases e : (vs.any fun kv => decide (kv.1 = k)) = true
  · rw [if_pos e, if_pos e]; exact r.repl k ry
  · rw [if_neg e, if_neg e]; exact Paired.snoc r ⟨rfl, ry⟩
theorem KV.drop {kvs : List (κ × V)} {vs : List (κ × Value)} (r : KV kvs vs) (k : κ) : KV (dropK kvs k) (without vs k) := by
  unfold KV at r ⊢
  unfold dropK without
  induction r with
  | nil => exact .nil
  | @cons p q ps qs h t ih =>
    obtain ⟨h1, h2⟩ := h
    rw [List.filter_cons, List.filter_cons]
    by_cases e : p.1 = k
    · have a : ¬ decide (p.1 ≠ k) = true := by simp [e]
      have b : ¬ decide (q.1 ≠ k) = true := by simp [h1.symm.trans e]
      rw [if_neg a, if_neg b]; exact ih
    · have e' : ¬ q.1 = k := fun z => e (h1.trans z)
      have a : decide (p.1 ≠ k) = true := by simp [e]
      have b : decide (q.1 ≠ k) = true := by simp [e']
      rw [if_pos a, if_pos b]; exact .cons ⟨h1, h2⟩ ih
theorem KV.keys {kvs : List (κ × V)} {vs : List (κ × Value)} (r : KV kvs vs) : kvs.map (·.1) = vs.map (·.1) := by
  unfold KV at r
  induction r with
  | nil => rfl
  | cons h t ih => rw [List.map_cons, List.map_cons, ih, h.1]
theorem KV.length {kvs : List (κ × V)} {vs : List (κ × Value)} (r : KV kvs vs) : kvs.length = vs.length := Paired.length r
end
theorem kV_is {P : Program} {w : World} {k : Key} {u : Value} (r : RelV (kV k) u) : (mixKind P w).is k u = true := by
  cases k with
  | inl i => obtain ⟨t, e⟩ := (show ∃ t, u = Value.int i t from r); subst e; exact mixKind_int P w i t
  | inr x => obtain ⟨t, e⟩ := (show ∃ t, u = Value.str x t from r); subst e; exact mixKind_str P w x t
abbrev KT (H : Hp) : List (List Key × V) → List (List Key × Addr × Value) → Prop := Paired fun p q => p.1 = q.1 ∧ H q.2.1 = some (.tup (p.1.map kV)) ∧ RelV p.2 q.2.2
theorem KT.val {H : Hp} {kvs : List (List Key × V)} {xs : List (List Key × Addr × Value)} (r : KT H kvs xs) (k : List Key) : RelO (valV kvs k) ((atKey xs k).map (·.2)) := by
  induction r with
  | nil => exact True.intro
  | @cons p q ps qs h t ih =>
    obtain ⟨h1, _, h2⟩ := h
    by_cases e : p.1 = k
    · have e' : q.1 = k := h1.symm.trans e
      have b : atKey (q :: qs) k = some q.2 := by simp [atKey, List.find?_cons, e']
      rw [valV_pos e, b]; exact h2
    · have e' : ¬ q.1 = k := fun z => e (h1.trans z)
      have b : atKey (q :: qs) k = atKey qs k := by simp [atKey, List.find?_cons, e']
      rw [valV_neg e, b]; exact ih
theorem KT.repl {H : Hp} {kvs : List (List Key × V)} {xs : List (List Key × Addr × Value)} (r : KT H kvs xs) (k : List Key) {y : V} {u : Value} (ry : RelV y u) :
    KT H (kvs.map fun kv => if kv.1 = k then (kv.1, y) else kv) (xs.map (putAt k u)) := by
  induction r with
  | nil => exact .nil
  | @cons p q ps qs h t ih =>
    rw [List.map_cons, List.map_cons]
    refine .cons ?_ ih
    obtain ⟨h1, h2, h3⟩ := h
    unfold putAt
    by_cases e : p.1 = k
    · rw [if_pos e, if_pos (h1.symm.trans e)]; exact ⟨h1, h2, ry⟩
    · rw [if_neg e, if_neg (fun z => e (h1.trans z))]; exact ⟨h1, h2, h3⟩
theorem KT.put {H : Hp} {kvs : List (List Key × V)} {xs : List (List Key × Addr × Value)} (r : KT H kvs xs) (k : List Key) {b : Addr} {y : V} {u : Value} (hb : H b = some (.tup (k.map kV))) (ry : RelV y u) :
    KT H (putK kvs k y) (storedH xs k b u) := by
  have e : (kvs.any fun kv => decide (kv.1 = k)) = (atKey xs k).isSome := by
    rw [valV_any, (r.val k).isSome_eq, Option.isSome_map]
  unfold putK storedH
  rw [e]
  by_cases q : (atKey xs k).isSome = true
  · rw [if_pos q, if_pos q]; exact r.repl k ry
  · rw [if_neg q, if_neg q]; exact Paired.snoc r ⟨rfl, hb, ry⟩
theorem KT.keeps {H H' : Hp} {kvs : List (List Key × V)} {xs : List (List Key × Addr × Value)} (r : KT H kvs xs) (ht : ∀ b ys, H b = some (.tup ys) → H' b = some (.tup ys)) : KT H' kvs xs :=
  Paired.mapP r fun _ _ z => ⟨z.1, ht _ _ z.2.1, z.2.2⟩
section
variable {P : Program} {w : World} {H : Hp} {h : Heap} {a : Addr}
end
def DGet (H : Hp) (a : Addr) (y : V) (r : Option V) : Prop :=
  (∃ kvs k, Rd H a (.dK kvs) ∧ y = kV k ∧ r = valV kvs k) ∨ ∃ kvs k b, Rd H a (.dT kvs) ∧ y = .ref b ∧ H b = some (.tup (k.map kV)) ∧ r = valV kvs k
def DPut (H : Hp) (a : Addr) (y v : V) (H' : Hp) : Prop :=
  (∃ kvs k, H a = some (.dK kvs) ∧ y = kV k ∧ kvs.length < sizeLine ∧ H' = upd H a (.dK (putK kvs k v))) ∨
  ∃ kvs k b, H a = some (.dT kvs) ∧ y = .ref b ∧ H b = some (.tup (k.map kV)) ∧ kvs.length < sizeLine ∧ H' = upd H a (.dT (putK kvs k v))
theorem DGet.k {H : Hp} {a : Addr} {kvs : List (Key × V)} {k : Key} (e : H a = some (.dK kvs)) : DGet H a (kV k) (valV kvs k) := .inl ⟨kvs, k, .inl e, rfl, rfl⟩
theorem DGet.t {H : Hp} {a b : Addr} {kvs : List (List Key × V)} {k : List Key} (e : H a = some (.dT kvs)) (eb : H b = some (.tup (k.map kV))) : DGet H a (.ref b) (valV kvs k) := .inr ⟨kvs, k, b, .inl e, rfl, eb, rfl⟩
theorem DPut.k {H : Hp} {a : Addr} {kvs : List (Key × V)} {k : Key} {v : V} (e : H a = some (.dK kvs)) (hl : kvs.length < sizeLine) : DPut H a (kV k) v (upd H a (.dK (putK kvs k v))) := .inl ⟨kvs, k, e, rfl, hl, rfl⟩
theorem DPut.t {H : Hp} {a b : Addr} {kvs : List (List Key × V)} {k : List Key} {v : V} (e : H a = some (.dT kvs)) (eb : H b = some (.tup (k.map kV))) (hl : kvs.length < sizeLine) :
    DPut H a (.ref b) v (upd H a (.dT (putK kvs k v))) := .inr ⟨kvs, k, b, e, rfl, eb, hl, rfl⟩
section
variable {X : Cx} {pins : List (Addr × Obj)} {σ : St} {H : Hp} {s : Shared} {a : Addr} {y v : V} {u r : Value} {o : Option V} {A : Around} {E : Value → Shared → Prop}
theorem d_write {h' : Heap} {t' : Nat} {ob : HO} (I : Inv X pins σ H s) (mu : Mut (H a)) (hs : Heap.SameBut a s.heap h') (he : ∃ q, h'.get? a = some q) (new : ObjOk X.prog X.w (upd H a ob) h' a ob) :
    Inv X pins σ (upd H a ob) { s with heap := h', toks := t' } :=
  I.write (x := a) (e := a) mu (.inl rfl) (fun b q hb z => (hs.2 b hb).trans z) he new
end
section
variable {X : Cx} {pins : List (Addr × Obj)} {σ : St} {H : Hp} {s : Shared} {a : Addr} {kvs : List (Key × V)} {k : Key} {u : Value} {A : Around} {E : Value → Shared → Prop}
end
def NoSl (i : Expr) : Prop := ∀ ov iv, subscripted i false ov iv = operate [ov, iv] (getItem ov iv)
theorem subD_of {prog : Program} {w : World} {A : Around} {E : Value → Shared → Prop} {s : Shared} {env : Env} {value slice : Expr} {pos : Pos} {T id : String} {Q : Value → Shared → Prop}
    (hl : typeLookup (.type T) "__getitem__" = pure (some (.builtin id))) (hs : NoSl slice)
    (h : wpAny (model prog w) A (eval value env) (fun o s₁ => wpAny (model prog w) A (eval slice env) (fun i s₂ => s₂.TypeIs o T ∧ wpAny (model prog w) A (getItem o i) Q E s₂) E s₁) E s) :
    wpAny (model prog w) A (eval (.Subscript value slice pos) env) Q E s := by
  refine Subscript_ (wpAny_mono h (fun o s₁ h₁ => wpAny_mono h₁ (fun i s₂ h₂ => ?_) fun _ _ x => x) fun _ _ x => x)
  obtain ⟨hT, h₂⟩ := h₂
  unfold subscriptTail
  refine wpAny_bind ?_
  rw [getitemInPython_of_ne hT.not_modules]
  refine wpAny_bind (wpAny_specialOf hT hl ?_)
  have fin : wpAny (model prog w) A (subscripted slice false o i) (fun r s₃ => wpAny (model prog w) A (letTemporaryGo value o r >>= fun _ => pure r) Q E s₃) E s₂ := by
    rw [hs o i]
    exact wpAny_operating (wpAny_mono h₂ (fun r s₃ h₃ => wpAny_bind (wpAny_letTemporaryGo (wpAny_pure h₃))) fun _ _ x => x)
  first
    | exact wpAny_pure (wpAny_bind fin)
    | exact wpAny_bind (wpAny_pure (wpAny_bind fin))
    | exact wpAny_bind fin
section
variable {X : Cx} {o i e value : Expr} {pos pos' tpos : Pos} {td ty tv : TE}
end
section
variable {X : Cx} {pos : Pos}
end
section
variable {X : Cx} {pins : List (Addr × Obj)} {σ : St} {H : Hp} {s : Shared} {a : Addr} {y d : V} {u r : Value} {o : Option V} {A : Around} {E : Value → Shared → Prop}
end
section
variable {X : Cx} {o e f : Expr} {apos cpos : Pos} {td ty tx : TE}
end
section
variable {X : Cx} {pins : List (Addr × Obj)} {σ : St} {H : Hp} {s : Shared} {a : Addr} {kvs : List (Key × V)} {A : Around} {E : Value → Shared → Prop}
end
section
variable {X : Cx} {pins : List (Addr × Obj)} {σ : St} {H : Hp} {s : Shared} {a : Addr} {y : V} {u : Value} {A : Around} {E : Value → Shared → Prop}
end
end L2
namespace L2
open PySem PySem.Spec PyProof.Rows
section
variable {prog : Program} {w : World} {A : Around} {E : Value → Shared → Prop}
end
section
variable {X : Cx}
end
end L2
namespace L2
open PySem PySem.Spec PyProof.Rows
section
variable {X : Cx} {pins : List (Addr × Obj)} {σ : St} {H : Hp} {s : Shared} {h' : Heap}
theorem Inv.turnedNew {t' : Nat} {ch : List Addr} {T : Addr} {ob : HO} (I : Inv X pins σ H s) (k : ∀ b o, b ∉ ch → s.heap.get? b = some o → h'.get? b = some o) (hf : ∀ b ∈ ch, FpOk X pins H b) (hT : s.heap.objs.size ≤ T)
    (new : ObjOk X.prog X.w (upd H T ob) h' T ob) : Inv X pins σ (upd H T ob) { s with heap := h', toks := t' } := by
  have hn : H T = none := I.hok.fresh hT
  have nit : ∀ b u, H b = some u → b ∉ ch := fun b u e z => by
    have q := (hf b z).1
    rw [q] at e; cases e
  refine I.step (g' := s.gens) (d' := s.drawn) (ch := ch) (fun b hb => ⟨(hf b hb).2.2.2.1, (hf b hb).2.1, (hf b hb).2.2.2.2.1, (hf b hb).2.2.2.2.2⟩) (fun b o _ _ hc e _ => k b o hc e) (fun b o _ _ hc e _ => ⟨o.slots, k b o hc e⟩)
    (fun b o _ e n => ?_) (fun b o hc e => ⟨o, k b o hc e⟩) (fun b xs e => ?_) (fun b o u e => ?_) (fun b ps e => ⟨#[], ?_⟩) (fun m hm => ?_) (fun b u e => ?_) I.bare
  · rw [upd_ne (Nat.ne_of_lt (Nat.lt_of_lt_of_le (Heap.lt_size e) hT))]; exact n
  · rw [upd_ne (ne_of_none e hn)]; exact e
  · rw [upd_ne (ne_of_none e hn)]; exact e
  · rw [upd_ne (ne_of_none e hn), e]; simp
  · obtain ⟨o, es, ep, ho, r⟩ := hm
    exact ⟨o, es, ep, k _ o (fun z => (hf _ z).2.1 rfl) ho, r⟩
  · by_cases hb : b = T
    · subst hb
      rw [upd_same] at e
      cases e
      exact new
    · rw [upd_ne hb] at e
      refine (I.hok b u e).stay (fun c v hc q => k c v ?_ q) (fun c q => by rw [upd_ne (ne_of_none q hn)]; exact q) fun c xs q => by rw [upd_ne (ne_of_none q hn)]; exact q
      rcases hc with z | z
      · rw [z]; exact nit b u e
      · exact nit c _ z
end
section
variable {X : Cx}
end
def RgC (i j c : Int) (n : Nat) : Prop := c ≠ 0 ∧ c.natAbs < 1073741824 ∧ Builtin.Range.small i j c = true ∧ Builtin.Range.rangeSize i j c = n
theorem RgC.neg {i j : Int} (ha : -(2 ^ 62) ≤ i) (ha' : i < 2 ^ 62) (hb : -(2 ^ 62) ≤ j) (hb' : j < 2 ^ 62) : RgC i j (-1) (i - j).toNat :=
  ⟨by decide, by decide, PySem.W.small_down ha ha' hb hb', PySem.W.rangeSize_downNat i j⟩
section
variable {X : Cx} {tg : Expr}
end
section
variable {X : Cx} {tg : Expr}
end
section
variable {prog : Program} {w : World} {A : Around} {E : Value → Shared → Prop} {s : Shared}
end
theorem paired_get {α β : Type} {G : α → β → Prop} {l₁ : List α} {l₂ : List β} (h : Paired G l₁ l₂) : ∀ {i : Nat} {a : α}, l₁[i]? = some a → ∃ b, l₂[i]? = some b ∧ G a b := by
  induction h with
  | nil => intro i a e; simp at e
  | @cons a b l₁ l₂ r t ih =>
    intro i a' e
    cases i with
    | zero =>
      simp only [List.getElem?_cons_zero, Option.some.injEq] at e
      subst e
      exact ⟨b, rfl, r⟩
    | succ j =>
      simp only [List.getElem?_cons_succ] at e ⊢
      exact ih e
section
variable {X : Cx} {pins : List (Addr × Obj)} {σ : St} {H : Hp} {s : Shared} {d : Addr} {o : Obj}
end
section
variable {P : Program} {w : World} {K : PySem.W.Frag} {tg : Expr} {d : Addr} {o : Obj} {es : Array DictEntry} {ep : Nat}
end
section
variable {X : Cx} {tg e : Expr} {td : TE} {apos cpos : Pos}
end
def Ite (K : PySem.W.Frag) (a : Addr) : It :=
  ⟨fun i H => ∃ (xs : List V) (x : V), SqL K H a xs ∧ xs[i]? = some x, fun i H v H' => ∃ T x, v = .ref T ∧ H T = none ∧ H' = upd H T (.tup [.int (i : Nat), x]) ∧ ∀ xs, SqL K H a xs → xs[i]? = some x, fun i H => ∃ xs : List V, SqL K H a xs ∧ xs.length ≤ i⟩
theorem turn_enum {P : Program} {w : World} {K : PySem.W.Frag} {elts : List Expr} {kk : Nat} {tpos : Pos} (a e it : Addr) :
    Turn P w K (.Tuple elts kk tpos) (Ite K a) [e, it] e (fun i h => (∃ old, IsEnum h e it ((i : Nat) : Int) old) ∧ h.IsListIter it a i ∧ e ≠ it) where
  mem := by simp
  obj := fun i h st b hb => by
    obtain ⟨⟨old, he⟩, ⟨o, ho, hc, hd⟩, _⟩ := st
    have e' : b = e ∨ b = it := by simpa using hb
    rcases e' with z | z
    · rw [z]; exact ⟨_, he, fun v q => nomatch q⟩
    · rw [z]; exact ⟨o, ho, fun v q => by rw [hd] at q; cases q⟩
  keep := fun i h h' st k => let ⟨⟨old, he⟩, hi, hne⟩ := st; ⟨⟨old, k e (by simp) _ he⟩, hi.at fun o q => k it (by simp) o q, hne⟩
  item := by
    intro X hP hw hK hc i pins s σ H E I hf st hg
    subst hP hw hK
    obtain ⟨⟨old, he⟩, hit, hne⟩ := st
    obtain ⟨xs, x, hq, hx⟩ := hg
    obtain ⟨its, rv, p, hz⟩ := I.list hq
    obtain ⟨u, hu, ru⟩ := rv.get hx
    have hel : e < s.heap.objs.size := Heap.lt_size he
    have hil : it < s.heap.objs.size := by obtain ⟨_, q, _⟩ := hit; exact Heap.lt_size q
    refine wpAny_pyNext_enum_item he hit p.isList (x := u) (by simpa using hu) hne fun h' ho hit' hT hsz hk => ?_
    refine ⟨_, rfl, wpAny_letOwnedTupleGo_enum (s := { s with heap := h', toks := s.toks + 1 }) ho fun h'' he' sb => ?_⟩
    have hT2 : h''.get? s.heap.objs.size = some { cls := .type "tuple", data := .seq #[.int i s.toks, u] } := (sb.2 _ (Nat.ne_of_gt hel)).trans hT
    have new : ObjOk X.prog X.w (upd H s.heap.objs.size (.tup [.int (i : Nat), x])) h'' s.heap.objs.size (.tup [.int (i : Nat), x]) :=
      ⟨by show 2 ≤ sizeLine; decide, [.int i s.toks, u], .cons ⟨_, rfl⟩ (.cons ru .nil), ⟨_, hT2, rfl, _, rfl⟩⟩
    have I1 : Inv X pins σ (upd H s.heap.objs.size (.tup [.int (i : Nat), x])) { s with heap := h'', toks := s.toks + 1 } :=
      I.turnedNew (ch := [e, it]) (fun b ob hb q => (sb.2 b (fun z => hb (by simp [z]))).trans (hk b ob (fun z => hb (by simp [z])) (fun z => hb (by simp [z])) q)) hf (Nat.le_refl _) new
    refine ⟨.ref s.heap.objs.size, _, I1, rfl, ⟨_, x, rfl, I.hok.fresh (Nat.le_refl _), rfl, fun ys hy => by rw [I.list_inj hy hq]; exact hx⟩, ⟨⟨u, ?_⟩, hit'.at fun o q => (sb.2 it (Ne.symm hne)).trans q, hne⟩, fun b hb => ?_⟩
    · have e1 : ((i + 1 : Nat) : Int) = (i : Int) + 1 := by omega
      rw [e1]; exact he'
    · have hb' : b < s.heap.objs.size := by
        have e' : b = e ∨ b = it := by simpa using hb
        rcases e' with z | z
        · rw [z]; exact hel
        · rw [z]; exact hil
      rw [upd_ne (Nat.ne_of_lt hb')]
      exact (hf b hb).1
  done := by
    intro X hP hw hK hc i pins s σ H E I hf st hg
    subst hP hw hK
    obtain ⟨⟨old, he⟩, hit, hne⟩ := st
    obtain ⟨xs, hq, hx⟩ := hg
    obtain ⟨its, rv, p, hz⟩ := I.list hq
    obtain ⟨f0, f1, f2, f3, f4, f5⟩ := hf it (by simp)
    have hl := rv.length
    exact wpAny_pyNext_enum_end (I.ok.hd hc) he hit p.isList (by simp; omega) fun h' eb => ⟨rfl, I.turned (t' := s.toks) (fun b o hb q => eb b o hb q) f0 f1 f3 f4 f5⟩
  self := fun A i s Q E st h => let ⟨⟨_, he⟩, _⟩ := st; wpAny_pyIter_enum he h
def iEnum (K : PySem.W.Frag) (ta : TA) : TI := fun σ H R => ta σ H fun vs H1 => ∃ a xs, vs = [.ref a] ∧ SqL K H1 a xs ∧ R (Ite K a) H1
theorem pi_enum {X : Cx} {e : Expr} {ta : TA} {p pos tpos : Pos} {elts : List Expr} {kk : Nat} (hg : Gl X "enumerate") (hm : X.mg "enumerate" = none) (ha : PA X [e] ta) (hs : starEach [e] X.env = [(false, eval e X.env)] := by rfl) :
    PI X (.Tuple elts kk tpos) (.Call (.Name "enumerate" p) [e] [] pos) (iEnum X.K ta) := by
  intro pins s σ H R I h
  refine Call_ (ld_blt I hg hm boot_enumerate (PyProof.Rows.callWith_type1 (thn (ha pos pins s σ H _ I h) fun us s1 ⟨vs, H1, I1, r1, q1⟩ => ?_) hs rfl))
  obtain ⟨a, xs, ex, hq, q⟩ := q1
  subst ex
  cases r1 with
  | cons r rr =>
    cases rr
    cases r
    obtain ⟨its, rv, p', hz⟩ := I1.list hq
    refine call_enumerate_list p'.isList fun h' he hit hsz hk => wpAny_pyIter_enum he ?_
    have I2 : Inv X pins σ H1 { s1 with heap := h' } := I1.kept (t' := s1.toks) hk
    refine ⟨s1.heap.objs.size + 1, [s1.heap.objs.size + 1, s1.heap.objs.size], _, _, H1, rfl, I2, turn_enum a (s1.heap.objs.size + 1) s1.heap.objs.size, ⟨⟨.none, he⟩, hit, Nat.succ_ne_self _⟩, fun b hb => ?_, q⟩
    have e' : b = s1.heap.objs.size + 1 ∨ b = s1.heap.objs.size := by simpa using hb
    have hle : s1.heap.objs.size ≤ b := by
      rcases e' with z | z
      · rw [z]; exact Nat.le_add_right _ _
      · rw [z]; exact Nat.le_refl _
    exact I1.fpOk hle (I1.hok.fresh hle)
end L2
section 
namespace Bits
open PySem PyProof.Rows
end Bits
end 
section 
namespace TL
open PySem PySem.Builtin PySem.Builtin.Str PySem.StrLaws
abbrev tl (x : Str) : List Nat := x.cps.toList
def pre (S l : List Nat) : Bool := l.take S.length == S
def par (S : List Nat) : List Nat → List Nat → Option (List Nat × List Nat)
  | _, [] => none
  | acc, c :: r => if pre S (c :: r) = true then some (acc, (c :: r).drop S.length) else par S (acc ++ [c]) r
end TL
end 
namespace L2
open PySem PySem.Spec PyProof.Rows
section
variable {X : Cx} {pins : List (Addr × Obj)} {σ : St} {H : Hp} {s : Shared} {Q : VK}
end
section
variable {X : Cx}
end
section
variable {X : Cx} {o e : Expr} {to te : TE}
end
end L2
namespace L2
open PySem PySem.Spec PyProof.Rows
section
variable {X : Cx}
end
end L2
namespace Att
open PySem PySem.W PySem.Calls PyProof.Rows
theorem ints_of_wellAll {P : Params} {h : Heap} : ∀ (ns : List Int) (vs : List Value), WellAll P h vs (ns.map WData.int) → IntsAre vs ns := by
  intro ns
  induction ns with
  | nil =>
    intro vs w
    rw [List.map_nil] at w
    cases w
    exact .nil
  | cons n ns ih =>
    intro vs w
    rw [List.map_cons] at w
    cases w with
    | cons a b =>
      cases a
      exact .cons _ _ (ih _ b)
section
variable {prog : Program} {w : World} {A : Around} {E : Value → Shared → Prop} {s : Shared} {K : Frag}
end
end Att
namespace L2
open PySem PySem.Spec PyProof.Rows
theorem vals_ints : ∀ {vs : List Value} {ns : List Int}, IntsAre vs ns → Vals (ns.map V.int) vs
  | _, _, .nil => .nil
  | _, _, .cons n t h => .cons ⟨t, rfl⟩ (vals_ints h)
def Only (H : Hp) : Prop := ∀ b, H b = none ∨ ∃ o xs, H b = some (.frz o (.lst xs))
end L2
namespace L2
open PySem PySem.Spec PyProof.Rows
abbrev KOf {K : PySem.W.Frag} {h : Heap} (_ : K.In h) : PySem.W.Frag := K
end L2
namespace L2
open PySem PySem.Spec PyProof.Rows
def inClass (s : Stmt) (j : Nat) : Stmt := match s with
  | .ClassDef _ _ _ body _ _ _ _ _ _ _ => body.getD j (.Pass ⟨0, 0, 0, 0⟩)
  | _ => .Pass ⟨0, 0, 0, 0⟩
def defArgs (s : Stmt) : Arguments := match s with
  | .FunctionDef _ a _ _ _ _ _ _ _ _ => a
  | _ => { posonlyargs := [], args := [], vararg := none, kwonlyargs := [], kw_defaults := [], kwarg := none, defaults := [] }
def defBody (s : Stmt) : List Stmt := match s with
  | .FunctionDef _ _ b _ _ _ _ _ _ _ => b
  | _ => []
def defScope (s : Stmt) : Scope := match s with
  | .FunctionDef _ _ _ _ _ _ sc _ _ _ => sc
  | _ => { kind := .function, names := [], isGenerator := false, isCoroutine := false }
abbrev CX0 : CXT := fun _ _ _ _ _ _ => False
abbrev E0 : XK := fun _ _ _ => False
theorem pass0 {X : Cx} : Passes CX0 X E0 := fun _ _ _ _ _ _ _ h => h.elim
structure Fun (K : PySem.W.Frag) (x qual : Str) (st : Stmt) (f : Addr) (fd : FuncData) : Prop where
  ex : ∃ (oc : Value) (od : Option Addr) (kV doc pm : Value) (an : Option Addr) (cdv ct : Value) (osl : Array (Option Value)),
    fd = PySem.W.fnOf x qual (defArgs st) (defBody st) (defScope st) .none kV doc pm an cdv ct ∧ K.lookup f = some ⟨oc, od, .func fd, osl⟩ ∧ PySem.W.codeIn K cdv qual = true
  kp : PySem.W.keepIn K (.ref f) = true
section
variable {P : Program} {w : World} {K : PySem.W.Frag} {mg : Str → Option Value} {base : Heap}
theorem Fun.ok {x qual : Str} {st : Stmt} {f : Addr} {fd : FuncData} {N ps : List Str} {k : Nat} {sp : Sp} (F : Fun K x qual st f fd) (S : FnScope N ps (defScope st)) (len : ∀ vs H Q E, sp vs H Q E → vs.length = ps.length)
    (hbody : ∀ (cdv : Value) (A : Around) (outer : List Env) (s : Shared) (H : Hp) (vs : List V) (Q : VK) (E : XK), Room k (A.deeper (envOfC qual (defScope st) s.heap.objs.size f cdv)) → sp vs H Q E →
      ∃ t, PSs (cxOf CX0 P w K mg base N qual (defScope st) f cdv A outer s H E).nox (defBody st) t ∧ t { nx := fun _ H' => Q .non H', rt := Q } (start N vs) H) : FnOk P w K mg base CX0 (k + 1) f fd ps sp := by
  obtain ⟨oc, od, kV, doc, pm, an, cdv, ct, osl, rfl, lk, hcd⟩ := F.ex
  refine fn_of lk hcd S len fun A outer s H vs Q E hr hsp => ?_
  obtain ⟨t, h, q⟩ := hbody cdv A outer s H vs Q E hr hsp
  exact ⟨t, h.nox, q⟩
theorem Fun.binds {x qual : Str} {st : Stmt} {f : Addr} {fd : FuncData} {ps : List Str} (F : Fun K x qual st f fd)
    (h : ∀ (kV doc pm : Value) (an : Option Addr) (cdv ct : Value) (us : List Value), us.length = ps.length → bindArgs (PySem.W.fnOf x qual (defArgs st) (defBody st) (defScope st) .none kV doc pm an cdv ct) ⟨us, []⟩ = pure (ps.zip us)) : Binds K fd ps [] := by
  obtain ⟨oc, od, kV, doc, pm, an, cdv, ct, osl, rfl, lk, hcd⟩ := F.ex
  exact .all (h kV doc pm an cdv ct)
theorem fun_mk {x qual : Str} {st : Stmt} {f : Addr} {oc : Value} {od an : Option Addr} {osl : Array (Option Value)} {kV doc pm cdv ct : Value} (l : K.lookup f = some ⟨oc, od, .func (PySem.W.fnOf x qual (defArgs st) (defBody st) (defScope st) .none kV doc pm an cdv ct), osl⟩)
    (c : PySem.W.codeIn K cdv qual = true) (k : PySem.W.keepIn K (.ref f) = true) : Fun K x qual st f (PySem.W.fnOf x qual (defArgs st) (defBody st) (defScope st) .none kV doc pm an cdv ct) := ⟨⟨oc, od, kV, doc, pm, an, cdv, ct, osl, rfl, l, c⟩, k⟩
end
theorem small1000 {n : Nat} (h : n ≤ 1000) : n < sizeLine := Nat.lt_of_le_of_lt h (by decide)
section
variable {X : Cx}
theorem pv (i : Nat) {x : Str} {pos : Pos} (hN : X.N[i]? = some x := by rfl) (hv : Vis X.env.scope x := by first | exact Or.inl rfl | exact Or.inr (Or.inl rfl) | exact Or.inr (Or.inr rfl)) (hd : (x == ("__debug__" : Str)) = false := by decide)
    (hcd : (x == ("__classdict__" : Str)) = false := by decide) : PE X (.Name x pos) (tVar i) := pe_var hN hv hd hcd
end
theorem iteF {A B : Prop} (h : B) : if false = true then A else B := by
  rw [if_neg Bool.false_ne_true]
  exact h
theorem iteT {A B : Prop} (h : A) : if true = true then A else B := by
  rw [if_pos rfl]
  exact h
def Same (H H' : Hp) : Prop := ∀ b o, H b = some o → H' b = some o
theorem Same.refl (H : Hp) : Same H H := fun _ _ h => h
theorem Same.trans {H H1 H2 : Hp} (a : Same H H1) (b : Same H1 H2) : Same H H2 := fun c o h => b c o (a c o h)
theorem Same.free {H H' : Hp} (e : Same H H') {l : Addr} (h : H' l = Option.none) : H l = Option.none := by
  cases q : H l with
  | none => rfl
  | some o =>
    rw [e l o q] at h
    cases h
theorem Same.seq {K : PySem.W.Frag} {H H' : Hp} {a : Addr} {xs : List V} (e : Same H H') (h : SqL K H a xs) : SqL K H' a xs := by
  rcases h with (h | ⟨o, h⟩) | h
  · exact .inl (.inl (e _ _ h))
  · exact .inl (.inr ⟨o, e _ _ h⟩)
  · exact .inr h
section
variable {κ : Type} [DecidableEq κ]
end
theorem at_of {xs : List V} {z : Int} {j : Nat} {v : V} (e : z = (j : Int)) (h : xs[j]? = some v) : atI xs z = some v := by
  rw [e]
  exact atI_nat h
theorem Same.made {H H1 : Hp} {x dx C : Addr} (nx : H x = Option.none) (nd : H dx = Option.none) (k : ∀ b o, (upd (upd H dx (.own x)) x (.ins C dx [])) b = some o → b ≠ x → H1 b = some o) : Same H H1 := fun b o e =>
  k b o (by rw [upd_ne (ne_of_none e nx), upd_ne (ne_of_none e nd)]; exact e) (ne_of_none e nx)
end L2

set_option linter.all false
namespace Fb
open PySem PyProof.Rows

/-! ### Python's bit operations on whole numbers that are not below 0 -/
theorem mask (n : Nat) (x : Int) : Builtin.bitAnd x ((2 ^ n - 1 : Nat) : Int) = x % ((2 ^ n : Nat) : Int) := by
  by_cases hx : 0 ≤ x
  · rw [bitAnd_pp hx (Int.natCast_nonneg _), Int.toNat_natCast, Nat.and_two_pow_sub_one_eq_mod]
    rw [Int.natCast_emod, Int.toNat_of_nonneg hx]
  · rw [bitAnd_np hx (Int.natCast_nonneg _), Int.toNat_natCast, Nat.and_comm, Nat.and_two_pow_sub_one_eq_mod]
    have hp : 0 < 2 ^ n := Nat.two_pow_pos n
    have e : Builtin.bitNot x = -x - 1 := rfl
    have h0 : 0 ≤ Builtin.bitNot x := bitNot_nonneg.mpr hx
    rw [Int.natCast_emod, Int.toNat_of_nonneg h0, e]
    generalize 2 ^ n = m at hp ⊢
    have hm : ((m - 1 : Nat) : Int) = (m : Int) - 1 := by omega
    rw [hm]
    have h1 := Int.emod_nonneg (-x - 1) (show (m : Int) ≠ 0 by omega)
    have h2 := Int.emod_lt_of_pos (-x - 1) (show (0 : Int) < m by omega)
    have h3 := Int.mul_ediv_add_emod (-x - 1) m
    generalize (-x - 1) % (m : Int) = r at *
    generalize (-x - 1) / (m : Int) = q at *
    have h4 : x = ((m : Int) - 1 - r) + m * (-q - 1) := by
      have e2 : (m : Int) * (-q - 1) = -(m * q) - m := by rw [Int.mul_sub, Int.mul_neg, Int.mul_one]
      rw [e2]; omega
    have h5 : x % (m : Int) = (m : Int) - 1 - r := by
      rw [h4, Int.add_mul_emod_self_left, Int.emod_eq_of_lt (by omega) (by omega)]
    rw [h5]
theorem m9 (x : Int) : Builtin.bitAnd x 511 = x % 512 := mask 9 x
theorem m10 (x : Int) : Builtin.bitAnd x 1023 = x % 1024 := mask 10 x
theorem m11 (x : Int) : Builtin.bitAnd x 2047 = x % 2048 := mask 11 x
theorem m12 (x : Int) : Builtin.bitAnd x 4095 = x % 4096 := mask 12 x
theorem m14 (x : Int) : Builtin.bitAnd x 16383 = x % 16384 := mask 14 x
theorem m15 (x : Int) : Builtin.bitAnd x 32767 = x % 32768 := mask 15 x
theorem m16 (x : Int) : Builtin.bitAnd x 65535 = x % 65536 := mask 16 x
theorem m5 (x : Int) : Builtin.bitAnd x 31 = x % 32 := mask 5 x
theorem m7 (x : Int) : Builtin.bitAnd x 127 = x % 128 := mask 7 x
theorem m3 (x : Int) : Builtin.bitAnd x 7 = x % 8 := mask 3 x
theorem m1 (x : Int) : Builtin.bitAnd x 1 = x % 2 := mask 1 x

theorem nat_bit (x k : Nat) : x &&& 2 ^ k = x / 2 ^ k % 2 * 2 ^ k := by
  apply Nat.eq_of_testBit_eq
  intro i
  rw [Nat.testBit_and, Nat.testBit_two_pow, Nat.testBit_mul_two_pow]
  by_cases h : k = i
  · subst h
    have := Nat.testBit_eq_decide_div_mod_eq (x := x) (i := k)
    rw [this]
    simp
  · simp [h]
    intro hki
    have h2 : 0 < i - k := by omega
    have : x / 2 ^ k % 2 < 2 := Nat.mod_lt _ (by decide)
    exact Nat.testBit_lt_two_pow (Nat.lt_of_lt_of_le this (by
      calc 2 = 2 ^ 1 := rfl
        _ ≤ 2 ^ (i - k) := Nat.pow_le_pow_right (by decide) h2))
theorem bit1 (k x : Nat) : Builtin.bitAnd (x : Int) ((2 ^ k : Nat) : Int) = ((x / 2 ^ k % 2 * 2 ^ k : Nat) : Int) := by
  rw [bitAnd_pp (Int.natCast_nonneg _) (Int.natCast_nonneg _), Int.toNat_natCast, Int.toNat_natCast, nat_bit]
theorem b6 (x : Nat) : Builtin.bitAnd (x : Int) 64 = ((x / 64 % 2 * 64 : Nat) : Int) := bit1 6 x
theorem b14 (x : Nat) : Builtin.bitAnd (x : Int) 16384 = ((x / 16384 % 2 * 16384 : Nat) : Int) := bit1 14 x
theorem b15 (x : Nat) : Builtin.bitAnd (x : Int) 32768 = ((x / 32768 % 2 * 32768 : Nat) : Int) := bit1 15 x
theorem andN (x y : Nat) : Builtin.bitAnd (x : Int) (y : Int) = ((x &&& y : Nat) : Int) := by
  rw [bitAnd_pp (Int.natCast_nonneg _) (Int.natCast_nonneg _), Int.toNat_natCast, Int.toNat_natCast]
theorem orN (x y : Nat) : Builtin.bitOr (x : Int) (y : Int) = ((x ||| y : Nat) : Int) := by
  rw [bitOr_and, andN]
  have := nat_or_add_and x y
  omega
theorem xor_and (x y : Nat) : (x ^^^ y) + 2 * (x &&& y) = x + y := by
  induction x using Nat.strongRecOn generalizing y with
  | ind x ih =>
    by_cases h0 : x = 0
    · subst h0; simp
    · have h1 := ih (x / 2) (by omega) (y / 2)
      have e1 := Nat.xor_div_two (a := x) (b := y)
      have e2 := Nat.and_div_two (a := x) (b := y)
      have e3 : (x ^^^ y) % 2 = (x + y) % 2 := by
        have t1 := Nat.testBit_xor x y 0
        simp only [Nat.testBit_zero] at t1
        rcases Nat.mod_two_eq_zero_or_one x with h | h <;> rcases Nat.mod_two_eq_zero_or_one y with h' | h' <;> rcases Nat.mod_two_eq_zero_or_one (x ^^^ y) with h'' | h'' <;> simp [h, h', h''] at t1 <;> omega
      have e4 : (x &&& y) % 2 = x % 2 * (y % 2) := by
        rw [← Nat.and_one_is_mod, ← Nat.and_one_is_mod, ← Nat.and_one_is_mod]
        rcases Nat.mod_two_eq_zero_or_one x with h | h <;> rcases Nat.mod_two_eq_zero_or_one y with h' | h'
        all_goals
          have hx := Nat.and_one_is_mod x
          have hy := Nat.and_one_is_mod y
          rw [show x &&& y &&& 1 = (x &&& 1) &&& (y &&& 1) by
            rw [Nat.and_assoc, Nat.and_assoc]; congr 1; rw [← Nat.and_assoc, Nat.and_comm 1 y, Nat.and_assoc, Nat.and_self], hx, hy, h, h']
          decide
      rcases Nat.mod_two_eq_zero_or_one x with h | h <;> rcases Nat.mod_two_eq_zero_or_one y with h' | h' <;> rw [h, h'] at e4 <;> omega
theorem xorN (x y : Nat) : Builtin.bitXor (x : Int) (y : Int) = ((x ^^^ y : Nat) : Int) := by
  rw [bitXor_and, andN]
  have := xor_and x y
  omega
theorem or_add (i : Nat) {a b : Nat} (ha : a % 2 ^ i = 0) (hb : b < 2 ^ i) : a ||| b = a + b := by
  have e : a = 2 ^ i * (a / 2 ^ i) := by
    have := Nat.div_add_mod a (2 ^ i); omega
  rw [e, ← Nat.two_pow_add_eq_or_of_lt hb]
theorem or_add' (i : Nat) {a b : Nat} (ha : a % 2 ^ i = 0) (hb : b < 2 ^ i) : b ||| a = b + a := by
  rw [Nat.or_comm, or_add i ha hb, Nat.add_comm]
theorem xor_max (i : Nat) {x : Nat} (h : x < 2 ^ i) : x ^^^ (2 ^ i - 1) = 2 ^ i - 1 - x := by
  have h1 := xor_and x (2 ^ i - 1)
  rw [Nat.and_two_pow_sub_one_eq_mod, Nat.mod_eq_of_lt h] at h1
  omega
theorem shl (x : Nat) (k : Nat) : (x : Int) * 2 ^ k = ((x * 2 ^ k : Nat) : Int) := by
  rw [Int.natCast_mul, Int.natCast_pow]; rfl
theorem shr (x : Nat) (k : Nat) : (x : Int) / 2 ^ k = ((x / 2 ^ k : Nat) : Int) := by
  rw [Int.natCast_ediv, Int.natCast_pow]; rfl

theorem sr1 (x : Nat) : (x : Int) / 2 ^ (1 : Int).toNat = ((x / 2 : Nat) : Int) := shr x 1
theorem sr7 (x : Nat) : (x : Int) / 2 ^ (7 : Int).toNat = ((x / 128 : Nat) : Int) := shr x 7
theorem sr8 (x : Nat) : (x : Int) / 2 ^ (8 : Int).toNat = ((x / 256 : Nat) : Int) := shr x 8
theorem sr9 (x : Nat) : (x : Int) / 2 ^ (9 : Int).toNat = ((x / 512 : Nat) : Int) := shr x 9
theorem sr10 (x : Nat) : (x : Int) / 2 ^ (10 : Int).toNat = ((x / 1024 : Nat) : Int) := shr x 10
theorem sr14 (x : Nat) : (x : Int) / 2 ^ (14 : Int).toNat = ((x / 16384 : Nat) : Int) := shr x 14
theorem sr16 (x : Nat) : (x : Int) / 2 ^ (16 : Int).toNat = ((x / 65536 : Nat) : Int) := shr x 16
theorem sl1 (x : Nat) : (x : Int) * 2 ^ (1 : Int).toNat = ((x * 2 : Nat) : Int) := shl x 1
theorem sl8 (x : Nat) : (x : Int) * 2 ^ (8 : Int).toNat = ((x * 256 : Nat) : Int) := shl x 8
theorem sl10 (x : Nat) : (x : Int) * 2 ^ (10 : Int).toNat = ((x * 1024 : Nat) : Int) := shl x 10
theorem sl14 (x : Nat) : (x : Int) * 2 ^ (14 : Int).toNat = ((x * 16384 : Nat) : Int) := shl x 14
theorem over_up {x : Nat} (h : x / 16384 = 1) : Sf58.ofSign (Sf58.over x) = 1 := by
  unfold Sf58.over
  rw [if_pos (by omega)]
  rfl
theorem over_down {x : Nat} (h : x / 16384 = 2) : Sf58.ofSign (Sf58.over x) = 65534 := by
  unfold Sf58.over
  rw [if_neg (by omega), if_pos (by omega)]
  rfl
theorem over_not {x : Nat} (hx : x < 65536) (h1 : ¬ x / 16384 = 1) (h2 : ¬ x / 16384 = 2) : Sf58.ofSign (Sf58.over x) = 0 := by
  unfold Sf58.over
  rw [if_neg (by omega), if_neg (by omega)]
  rfl
theorem over_zero {x : Nat} : Sf58.over x = 0 ↔ Sf58.ofSign (Sf58.over x) = 0 := by
  unfold Sf58.over
  split
  · exact ⟨fun h => absurd h (by decide), fun h => absurd h (by decide)⟩
  · split
    · exact ⟨fun h => absurd h (by decide), fun h => absurd h (by decide)⟩
    · exact ⟨fun _ => rfl, fun _ => rfl⟩

/-! ### the words of the program, as the document's own -/
theorem py_wide {x : Nat} (h : x < 32768) : Builtin.bitOr (x : Int) (Builtin.bitAnd (x : Int) 16384 * 2 ^ (1 : Int).toNat) = ((Sf58.wide x : Nat) : Int) := by
  rw [b14, shl, orN]
  have e : (1 : Int).toNat = 1 := rfl
  rw [e, or_add' 15 (a := x / 16384 % 2 * 16384 * 2 ^ 1) (by omega) h]
  unfold Sf58.wide
  omega
theorem py_narrow {x : Nat} (h : x < 65536) : Builtin.bitOr (Builtin.bitAnd (x : Int) 32768 / 2 ^ (1 : Int).toNat) (Builtin.bitAnd (x : Int) 16383) = ((Sf58.narrow x : Nat) : Int) := by
  rw [b15, m14, shr, show (x : Int) % 16384 = ((x % 16384 : Nat) : Int) by omega, orN]
  have e : (1 : Int).toNat = 1 := rfl
  rw [e, or_add 14 (by omega) (by omega)]
  unfold Sf58.narrow
  omega
theorem py_plus {x y : Nat} (hx : x < 65536) (hy : y < 65536) : Builtin.bitAnd ((x : Int) + y) 65535 + ((x : Int) + y) / 2 ^ (16 : Int).toNat = ((Sf58.plus x y : Nat) : Int) := by
  rw [m16]
  have e : (2 : Int) ^ (16 : Int).toNat = 65536 := by decide
  rw [e]
  unfold Sf58.plus
  dsimp only
  split <;> omega
theorem py_minus {x : Nat} (h : x < 65536) : Builtin.bitXor (x : Int) 65535 = ((Sf58.minus x : Nat) : Int) := by
  have e : Builtin.bitXor (x : Int) 65535 = ((x ^^^ 65535 : Nat) : Int) := xorN x 65535
  have e2 : x ^^^ 65535 = 65535 - x := xor_max 16 h
  rw [e, e2]
  unfold Sf58.minus
  omega
theorem py_minusN {x : Nat} (h : x < 32768) : Builtin.bitXor (x : Int) 32767 = ((32767 - x : Nat) : Int) := by
  have e : Builtin.bitXor (x : Int) 32767 = ((x ^^^ 32767 : Nat) : Int) := xorN x 32767
  have e2 : x ^^^ 32767 = 32767 - x := xor_max 15 h
  rw [e, e2]
theorem wide_lt (x : Nat) : Sf58.wide x < 65536 := by unfold Sf58.wide; omega
theorem narrow_lt (x : Nat) : Sf58.narrow x < 32768 := by unfold Sf58.narrow; omega
theorem plus_lt (x y : Nat) : Sf58.plus x y < 65536 := by unfold Sf58.plus; dsimp only; split <;> omega
theorem minus_lt (x : Nat) : Sf58.minus x < 65536 := by unfold Sf58.minus; omega
theorem ofSign_lt (z : Int) : Sf58.ofSign z < 65536 := by unfold Sf58.ofSign; split; omega; split <;> omega
theorem narrow_wide {x : Nat} (h : x < 32768) : Sf58.narrow (Sf58.wide x) = x := by unfold Sf58.narrow Sf58.wide; omega
theorem plus_zero {x : Nat} (h : x < 65536) : Sf58.plus x 0 = x := by unfold Sf58.plus; dsimp only; split <;> omega
theorem wide_zero : Sf58.wide 0 = 0 := rfl
/-- with nothing to add the word stays -/
theorem indexed_zero {w : Nat} (h : w < 32768) : Sf58.narrow (Sf58.plus (Sf58.wide w) (Sf58.wide 0)) = w := by
  rw [wide_zero, plus_zero (wide_lt w), narrow_wide h]
theorem wide_small {x : Nat} (h : x < 16384) : Sf58.wide x = x := by unfold Sf58.wide; omega
end Fb

set_option linter.all false
namespace Fb
open Sf58

/-! ### what holds of a machine at all times -/
structure Good (s : Sf58.St) : Prop where
  a : s.a < 65536
  l : s.l < 32768
  q : s.q < 65536
  z : s.z < 4096
  eb : s.eb < 8
  fb : s.fb < 32
  fx : ∀ i, s.fixed i < 32768
  er : ∀ i, s.erase i < 32768
  ch : ∀ i, s.chans i < 32768
  ix : s.index < 32768
  ins : ∀ x, s.instead = some x → x < 32768
  wt : ∀ k ∈ s.waiting, k < 11
  wn : s.waiting.Nodup

theorem good_blank : Good Sf58.blank :=
  ⟨by decide, by decide, by decide, by decide, by decide, by decide, fun _ => (by decide : 0 < 32768), fun _ => (by decide : 0 < 32768), fun _ => (by decide : 0 < 32768), by decide, (fun _ h => by cases h), (fun _ h => by cases h), List.nodup_nil⟩

theorem edited_lt {j x : Nat} (h : x < 32768) : Sf58.edited j x < 32768 := by
  unfold Sf58.edited
  split; omega
  split; omega
  split; omega
  split <;> omega

theorem Good.bank {s : Sf58.St} (g : Good s) : s.bank < 40 := by
  unfold Sf58.St.bank
  have := g.fb
  split <;> omega

theorem Good.rd {s : Sf58.St} (g : Good s) (k : Nat) : s.rd k < 32768 := by
  unfold Sf58.St.rd
  have h1 := g.l; have h2 := g.eb; have h3 := g.fb; have h4 := g.z
  split
  · exact narrow_lt _
  · exact h1
  · exact narrow_lt _
  · omega
  · omega
  · omega
  · omega
  · omega
  · exact g.er _
  · exact g.fx _
theorem Good.rdWide {s : Sf58.St} (g : Good s) (k : Nat) : s.rdWide k < 65536 := by
  unfold Sf58.St.rdWide
  split
  · exact g.a
  · exact g.q
  · exact wide_lt _

theorem Good.wr {s : Sf58.St} (g : Good s) (k v : Nat) : Good (s.wr k v) := by
  have hx := narrow_lt v
  unfold Sf58.St.wr
  dsimp only
  split
  · exact { g with a := Nat.mod_lt _ (by decide) }
  · exact { g with l := hx }
  · exact { g with q := Nat.mod_lt _ (by decide) }
  · exact { g with eb := Nat.mod_lt _ (by decide) }
  · exact { g with fb := by show Sf58.narrow v / 1024 < 32; omega }
  · exact { g with z := Nat.mod_lt _ (by decide) }
  · exact { g with fb := by show Sf58.narrow v / 1024 < 32; omega, eb := Nat.mod_lt _ (by decide) }
  · exact g
  · exact { g with er := fun i => by dsimp only; split; exact edited_lt hx; exact g.er i }
  · exact g
theorem Good.back {s : Sf58.St} (g : Good s) (k : Nat) : Good (s.back k) := by
  unfold Sf58.St.back
  split
  · split
    · exact g.wr _ _
    · exact g
  · exact g
theorem Good.inp {s : Sf58.St} (g : Good s) (c : Nat) : s.inp c < 32768 := by
  unfold Sf58.St.inp
  split
  · exact g.l
  · split
    · exact narrow_lt _
    · exact g.ch _
theorem Good.out {s : Sf58.St} (g : Good s) (c : Nat) {x : Nat} (h : x < 32768) : Good (s.out c x) := by
  unfold Sf58.St.out
  split
  · exact { g with l := h }
  · split
    · exact { g with q := wide_lt _ }
    · exact { g with ch := fun i => by dsimp only; split; exact h; exact g.ch i }

/-! ### which interrupts wait, as bits -/
def bits (w : List Nat) : Nat := (w.map fun j => 2 ^ j).sum
theorem bits_nil : bits [] = 0 := rfl
theorem bits_cons (k : Nat) (w : List Nat) : bits (k :: w) = 2 ^ k + bits w := by
  unfold bits; rw [List.map_cons, List.sum_cons]
theorem pow_add_or {k n : Nat} (h : n.testBit k = false) : 2 ^ k + n = 2 ^ k ||| n := by
  have e := PyProof.Rows.nat_or_add_and (2 ^ k) n
  have z : 2 ^ k &&& n = 0 := by
    rw [Nat.and_comm, nat_bit]
    have := Nat.testBit_eq_decide_div_mod_eq (x := n) (i := k)
    rw [h] at this
    have h2 : ¬ (n / 2 ^ k % 2 = 1) := of_decide_eq_false this.symm
    have : n / 2 ^ k % 2 = 0 := by omega
    rw [this, Nat.zero_mul]
  omega
theorem bits_test : ∀ {w : List Nat}, w.Nodup → ∀ j, (bits w).testBit j = w.contains j
  | [], _, j => by rw [bits_nil]; simp
  | k :: w, hn, j => by
    obtain ⟨h1, h2⟩ := List.nodup_cons.mp hn
    have ih := bits_test h2
    have hk : (bits w).testBit k = false := by rw [ih k]; simpa using h1
    rw [bits_cons, pow_add_or hk, Nat.testBit_or, Nat.testBit_two_pow, ih j, List.contains_cons]
    by_cases e : k = j
    · subst e; simp
    · have e' : ¬ j = k := fun z => e z.symm
      simp [e, e']
theorem bits_ext {v w : List Nat} (hv : v.Nodup) (hw : w.Nodup) (h : ∀ j, v.contains j = w.contains j) : bits v = bits w :=
  Nat.eq_of_testBit_eq fun j => by rw [bits_test hv, bits_test hw, h]
theorem bits_lt {w : List Nat} (hn : w.Nodup) (hb : ∀ k ∈ w, k < 11) : bits w < 2048 := by
  apply Nat.lt_of_not_le
  intro h
  obtain ⟨i, hi, ht⟩ : ∃ i, 11 ≤ i ∧ (bits w).testBit i = true := by
    have := Nat.exists_ge_and_testBit_of_ge_two_pow (x := bits w) (n := 11) h
    obtain ⟨i, h1, h2⟩ := this
    exact ⟨i, h1, h2⟩
  rw [bits_test hn] at ht
  have := hb i (by simpa using ht)
  omega
theorem bits_zero {w : List Nat} (hn : w.Nodup) : bits w = 0 ↔ w = [] := by
  constructor
  · intro h
    cases w with
    | nil => rfl
    | cons k w =>
      rw [bits_cons] at h
      have := Nat.two_pow_pos k
      omega
  · intro h; rw [h]; rfl

theorem bits_ask {w : List Nat} (hn : w.Nodup) (k : Nat) : bits w ||| 2 ^ k = bits (if w.contains k = true then w else w ++ [k]) := by
  apply Nat.eq_of_testBit_eq
  intro j
  have hn2 : (if w.contains k = true then w else w ++ [k]).Nodup := by
    split
    · exact hn
    · rename_i h
      rw [List.nodup_append]
      refine ⟨hn, by simp, ?_⟩
      intro a ha b hb
      have : b = k := by simpa using hb
      subst this
      intro e
      subst e
      exact h (by simpa using ha)
  rw [Nat.testBit_or, bits_test hn, Nat.testBit_two_pow, bits_test hn2]
  split
  · rename_i h
    by_cases e : k = j
    · subst e; simpa using h
    · simp [e]
  · by_cases e : k = j
    · subst e; simp
    · have e' : ¬ j = k := fun z => e z.symm
      simp [e, e']
theorem bits_drop {w : List Nat} (hn : w.Nodup) {k : Nat} (hk : w.contains k = true) : bits w ^^^ 2 ^ k = bits (w.filter fun j => j != k) := by
  apply Nat.eq_of_testBit_eq
  intro j
  have hn2 : (w.filter fun j => j != k).Nodup := hn.filter _
  rw [Nat.testBit_xor, bits_test hn, Nat.testBit_two_pow, bits_test hn2]
  by_cases e : k = j
  · subst e
    simp at hk
    simp [hk]
  · have e' : ¬ j = k := fun z => e z.symm
    by_cases hj : j ∈ w <;> simp [e, e', hj]
theorem Good.ask {s : Sf58.St} (g : Good s) {k : Nat} (h : k < 11) : Good (s.ask k) := by
  unfold Sf58.St.ask
  split
  · exact g
  · rename_i hc
    refine { g with wt := ?_, wn := ?_ }
    · intro j hj
      rcases List.mem_append.mp hj with h1 | h1
      · exact g.wt j h1
      · have : j = k := by simpa using h1
        omega
    · show (s.waiting ++ [k]).Nodup
      rw [List.nodup_append]
      refine ⟨g.wn, by simp, ?_⟩
      intro a ha b hb
      have : b = k := by simpa using hb
      subst this
      intro e
      subst e
      exact hc (by simpa using ha)
theorem ask_bits {s : Sf58.St} (g : Good s) (k : Nat) : bits (s.ask k).waiting = bits s.waiting ||| 2 ^ k := by
  rw [bits_ask g.wn]
  unfold Sf58.St.ask
  split <;> rfl
theorem bits_set (v : Nat) : bits ((List.range 11).filter fun j => v.testBit j) = v % 2048 := by
  apply Nat.eq_of_testBit_eq
  intro j
  have e : v % 2048 = v % 2 ^ 11 := rfl
  rw [bits_test (List.nodup_range.filter _), e, Nat.testBit_mod_two_pow, Bool.eq_iff_iff]
  simp
theorem Good.put {s : Sf58.St} (g : Good s) (k v : Nat) : Good (s.put k v) := by
  unfold Sf58.St.put
  split
  · exact { g with a := Nat.mod_lt _ (by decide) }
  · exact { g with l := Nat.mod_lt _ (by decide) }
  · exact { g with q := Nat.mod_lt _ (by decide) }
  · exact { g with eb := Nat.mod_lt _ (by decide) }
  · exact { g with fb := Nat.mod_lt _ (by decide) }
  · exact { g with z := Nat.mod_lt _ (by decide) }
  · exact { g with }
  · exact { g with }
  · refine { g with wt := ?_, wn := List.nodup_range.filter _ }
    intro j hj
    have := (List.mem_filter.mp hj).1
    simpa using this
end Fb

set_option linter.all false
namespace Fb
open Sf58
/-! ### places below 02000 by their numbers -/
/-- the number of the register or changing word at a place below 02000 -/
def num (s : Sf58.St) (k : Nat) : Nat := if k < 768 then k else k - 768 + 256 * s.eb
theorem num_lt {s : Sf58.St} (g : Good s) {k : Nat} (h : k < 1024) : num s k < 2048 := by
  unfold num
  have := g.eb
  split <;> omega
theorem place_low {s : Sf58.St} {k : Nat} (h : k < 1024) : s.place k = if num s k < 8 then .reg (num s k) else .erase (num s k) := by
  unfold Sf58.St.place num
  by_cases h1 : k < 8
  · rw [if_pos h1, if_pos (by omega : k < 768), if_pos h1]
  · rw [if_neg h1]
    by_cases h2 : k < 768
    · rw [if_pos h2, if_pos h2, if_neg h1]
    · rw [if_neg h2, if_pos h, if_neg h2, Nat.add_comm (256 * s.eb)]
theorem place_high {s : Sf58.St} {k : Nat} (h : ¬ k < 1024) : s.place k = .fixed (if k < 2048 then 1024 * s.bank + (k - 1024) else k) := by
  unfold Sf58.St.place
  rw [if_neg (by omega : ¬ k < 8), if_neg (by omega : ¬ k < 768), if_neg h]
  by_cases h2 : k < 2048
  · rw [if_pos h2, if_pos h2]
  · rw [if_neg h2, if_neg h2]
    have e : 2048 + (k - 2048) = k := by omega
    rw [e]
/-- a register read as 15 bits -/
def regRd (s : Sf58.St) (n : Nat) : Nat := match n with
  | 0 => narrow s.a
  | 1 => s.l
  | 2 => narrow s.q
  | 3 => 256 * s.eb
  | 4 => 1024 * s.fb
  | 5 => s.z
  | 6 => 1024 * s.fb + s.eb
  | _ => 0
theorem regRd_lt {s : Sf58.St} (g : Good s) (n : Nat) : regRd s n < 32768 := by
  have h1 := g.l; have h2 := g.eb; have h3 := g.fb; have h4 := g.z
  unfold regRd
  split <;> first | exact narrow_lt _ | omega
theorem rd_reg {s : Sf58.St} {k n : Nat} (h : s.place k = .reg n) : s.rd k = regRd s n := by
  unfold Sf58.St.rd regRd
  rw [h]
  match n with
  | 0 => rfl
  | 1 => rfl
  | 2 => rfl
  | 3 => rfl
  | 4 => rfl
  | 5 => rfl
  | 6 => rfl
  | n + 7 => rfl
theorem rd_erase {s : Sf58.St} {k n : Nat} (h : s.place k = .erase n) : s.rd k = s.erase n := by
  unfold Sf58.St.rd
  rw [h]
theorem rd_fixed {s : Sf58.St} {k n : Nat} (h : s.place k = .fixed n) : s.rd k = s.fixed n := by
  unfold Sf58.St.rd
  rw [h]
theorem rd_low {s : Sf58.St} {k : Nat} (h : k < 1024) : s.rd k = if num s k < 8 then regRd s (num s k) else s.erase (num s k) := by
  have e := place_low (s := s) h
  split <;> rename_i h8
  · rw [if_pos h8] at e; exact rd_reg e
  · rw [if_neg h8] at e; exact rd_erase e
theorem rd_high {s : Sf58.St} {k : Nat} (h : ¬ k < 1024) : s.rd k = s.fixed (if k < 2048 then 1024 * s.bank + (k - 1024) else k) := rd_fixed (place_high h)
/-- read as 16 bits -/
def regRdW (s : Sf58.St) (n : Nat) : Nat := if n = 0 then s.a else if n = 2 then s.q else wide (regRd s n)
theorem rdWide_reg {s : Sf58.St} {k n : Nat} (h : s.place k = .reg n) : s.rdWide k = regRdW s n := by
  unfold Sf58.St.rdWide regRdW
  rw [rd_reg h, h]
  match n with
  | 0 => rfl
  | 1 => rfl
  | 2 => rfl
  | n + 3 =>
    rw [if_neg (by omega : ¬ n + 3 = 0), if_neg (by omega : ¬ n + 3 = 2)]
    rfl
theorem rdWide_erase {s : Sf58.St} {k n : Nat} (h : s.place k = .erase n) : s.rdWide k = wide (s.erase n) := by
  unfold Sf58.St.rdWide
  rw [rd_erase h, h]
theorem rdWide_fixed {s : Sf58.St} {k n : Nat} (h : s.place k = .fixed n) : s.rdWide k = wide (s.fixed n) := by
  unfold Sf58.St.rdWide
  rw [rd_fixed h, h]
theorem rdWide_low {s : Sf58.St} {k : Nat} (h : k < 1024) : s.rdWide k = if num s k < 8 then regRdW s (num s k) else wide (s.erase (num s k)) := by
  have e := place_low (s := s) h
  split <;> rename_i h8
  · rw [if_pos h8] at e; exact rdWide_reg e
  · rw [if_neg h8] at e; exact rdWide_erase e
theorem rdWide_high {s : Sf58.St} {k : Nat} (h : ¬ k < 1024) : s.rdWide k = wide (s.rd k) := by
  rw [rdWide_fixed (place_high h), rd_fixed (place_high h)]
/-- a register that is neither A nor Q is written -/
def regWr (s : Sf58.St) (n x : Nat) : Sf58.St := match n with
  | 1 => { s with l := x }
  | 3 => { s with eb := x / 256 % 8 }
  | 4 => { s with fb := x / 1024 }
  | 5 => { s with z := x % 4096 }
  | 6 => { s with fb := x / 1024, eb := x % 8 }
  | _ => s
def erWr (s : Sf58.St) (n x : Nat) : Sf58.St := { s with erase := fun i => if i = n then x else s.erase i }
theorem wr_low {s : Sf58.St} {k v : Nat} (h : k < 1024) (hv : v < 65536) : s.wr k v =
    if num s k < 8 then (if num s k = 0 then { s with a := v } else if num s k = 2 then { s with q := v } else regWr s (num s k) (narrow v)) else erWr s (num s k) (edited (num s k) (narrow v)) := by
  have e := place_low (s := s) h
  have hm : v % 65536 = v := Nat.mod_eq_of_lt hv
  unfold Sf58.St.wr
  dsimp only
  rw [e]
  generalize num s k = n
  by_cases h8 : n < 8
  · rw [if_pos h8, if_pos h8, hm]
    match n, h8 with
    | 0, _ => rfl
    | 1, _ => rfl
    | 2, _ => rfl
    | 3, _ => rfl
    | 4, _ => rfl
    | 5, _ => rfl
    | 6, _ => rfl
    | 7, _ => rfl
  · rw [if_neg h8, if_neg h8]; rfl
theorem wr_high {s : Sf58.St} {k v : Nat} (h : ¬ k < 1024) : s.wr k v = s := by
  unfold Sf58.St.wr
  dsimp only
  rw [place_high h]
/-- what was read at an editing place is written there again -/
def anew (s : Sf58.St) (k v : Nat) : Sf58.St := if k < 1024 ∧ 16 ≤ num s k ∧ num s k ≤ 19 then s.wr k v else s
theorem back_anew (s : Sf58.St) (k : Nat) : s.back k = anew s k (wide (s.rd k)) := by
  unfold Sf58.St.back anew
  by_cases h : k < 1024
  · rw [place_low h]
    by_cases h8 : num s k < 8
    · rw [if_pos h8, if_neg (by omega : ¬ (k < 1024 ∧ 16 ≤ num s k ∧ num s k ≤ 19))]
    · rw [if_neg h8]
      dsimp only
      by_cases h9 : 16 ≤ num s k ∧ num s k ≤ 19
      · rw [if_pos h9, if_pos ⟨h, h9⟩]
      · rw [if_neg h9, if_neg (fun q => h9 q.2)]
  · rw [place_high h, if_neg (fun q => h q.1 : ¬ (k < 1024 ∧ 16 ≤ num s k ∧ num s k ≤ 19))]
theorem back_wide (s : Sf58.St) (k : Nat) : s.back k = anew s k (s.rdWide k) := by
  rw [back_anew]
  unfold anew
  split
  · rename_i h
    rw [rdWide_low h.1, if_neg (by omega : ¬ num s k < 8), rd_low h.1, if_neg (by omega : ¬ num s k < 8)]
  · rfl
theorem Good.anew {s : Sf58.St} (g : Good s) (k v : Nat) : Good (anew s k v) := by
  unfold Fb.anew
  split
  · exact g.wr k v
  · exact g
/-- editing only changes changing words -/
theorem anew_er {s : Sf58.St} {k v : Nat} : ∃ e : Nat → Nat, anew s k v = { s with erase := e } := by
  unfold Fb.anew
  split
  · rename_i h
    have e := place_low (s := s) h.1
    rw [if_neg (by omega : ¬ num s k < 8)] at e
    refine ⟨fun i => if i = num s k then edited (num s k) (narrow v) else s.erase i, ?_⟩
    unfold Sf58.St.wr
    dsimp only
    rw [e]
  · exact ⟨s.erase, rfl⟩
/-- an editing does not see A, L, Q, Z, the flags -/
theorem anew_with {s t : Sf58.St} {k v : Nat} (h1 : t.eb = s.eb) (h2 : t.erase = s.erase) : (anew t k v).erase = (anew s k v).erase := by
  have en : num t k = num s k := by unfold num; rw [h1]
  unfold Fb.anew
  rw [en]
  split
  · rename_i h
    have e1 := place_low (s := s) h.1
    have e2 := place_low (s := t) h.1
    rw [if_neg (by omega : ¬ num s k < 8)] at e1
    rw [en, if_neg (by omega : ¬ num s k < 8)] at e2
    unfold Sf58.St.wr
    dsimp only
    rw [e1, e2]
    dsimp only
    rw [h2]
  · exact h2
end Fb

set_option linter.all false
set_option maxHeartbeats 1000000
set_option maxRecDepth 4000
namespace Fb
open Sf58
/-! ### the instructions, as the program does them -/
theorem anew_eq (s : Sf58.St) (k v : Nat) (hv : v < 65536) : anew s k v = if k < 1024 ∧ 16 ≤ num s k ∧ num s k ≤ 19 then erWr s (num s k) (edited (num s k) (narrow v)) else s := by
  unfold Fb.anew
  split
  · rename_i h
    rw [wr_low h.1 hv, if_neg (by omega)]
  · rfl
theorem anew_a {s : Sf58.St} {k v x : Nat} (hv : v < 65536) : anew { s with a := x } k v = { anew s k v with a := x } := by
  rw [anew_eq _ _ _ hv, anew_eq _ _ _ hv]
  show (if k < 1024 ∧ 16 ≤ num s k ∧ num s k ≤ 19 then erWr { s with a := x } (num s k) (edited (num s k) (narrow v)) else { s with a := x }) = _
  split <;> rfl
theorem anew_l {s : Sf58.St} {k v x : Nat} (hv : v < 65536) : anew { s with l := x } k v = { anew s k v with l := x } := by
  rw [anew_eq _ _ _ hv, anew_eq _ _ _ hv]
  show (if k < 1024 ∧ 16 ≤ num s k ∧ num s k ≤ 19 then erWr { s with l := x } (num s k) (edited (num s k) (narrow v)) else { s with l := x }) = _
  split <;> rfl
theorem anew_i {s : Sf58.St} {k v x : Nat} (hv : v < 65536) : anew { s with index := x } k v = { anew s k v with index := x } := by
  rw [anew_eq _ _ _ hv, anew_eq _ _ _ hv]
  show (if k < 1024 ∧ 16 ≤ num s k ∧ num s k ≤ 19 then erWr { s with index := x } (num s k) (edited (num s k) (narrow v)) else { s with index := x }) = _
  split <;> rfl
theorem anew_x {s : Sf58.St} {k v : Nat} {x : Bool} (hv : v < 65536) : anew { s with extend := x } k v = { anew s k v with extend := x } := by
  rw [anew_eq _ _ _ hv, anew_eq _ _ _ hv]
  show (if k < 1024 ∧ 16 ≤ num s k ∧ num s k ≤ 19 then erWr { s with extend := x } (num s k) (edited (num s k) (narrow v)) else { s with extend := x }) = _
  split <;> rfl
theorem skip0 {s : Sf58.St} (h : s.z < 4096) : s.skip 0 = s := by
  unfold Sf58.St.skip
  rw [Nat.add_zero, Nat.mod_eq_of_lt h]
theorem anew_z {s : Sf58.St} {k v : Nat} : (anew s k v).z = s.z := by
  obtain ⟨e, h⟩ := anew_er (s := s) (k := k) (v := v)
  rw [h]
theorem part_lt {k : Nat} (h : k < 1024) : k / 1024 = 0 := Nat.div_eq_of_lt h
theorem mod_lt {k : Nat} (h : k < 1024) : k % 1024 = k := Nat.mod_eq_of_lt h

theorem word_lt (b : Bool) (n : Nat) : word b n < 32768 := by unfold Sf58.word; split <;> omega
/-! the arms -/
theorem plain0 (s : Sf58.St) (k : Nat) : s.plain 0 k = (if k = 3 then { s with shut := false } else if k = 4 then { s with shut := true } else if k = 6 then { s with extend := true } else { s with q := if k = 2 then s.q else wide s.z, z := k }) := rfl
theorem plain1 (s : Sf58.St) (k : Nat) : s.plain 1 k = (if k / 1024 ≠ 0 then s.jump k else
    let x := s.rdWide (k % 1024)
    let t := s.back (k % 1024)
    let m := if negative x = true then minus x else x
    let u : St := { t with a := if m = 0 then 0 else m - 1 }
    if m = 0 then u.skip (if negative x = true then 3 else 1) else u.skip (if negative x = true then 2 else 0)) := rfl
theorem plain2 (s : Sf58.St) (k : Nat) : s.plain 2 k = (if k / 1024 = 0 then
      (let j := (k % 1024 + 1023) % 1024
       let lo := plus (wide s.l) (wide (s.rd ((j + 1) % 1024)))
       let hi := plus (plus s.a (s.rdWide j)) (ofSign (over lo))
       (({ s with a := ofSign (over hi), l := 0 } : St).wr ((j + 1) % 1024) lo).wr j hi)
    else if k / 1024 = 1 then ({ s with l := s.rd (k % 1024) } : St).wr (k % 1024) (wide s.l)
    else if k / 1024 = 2 then s.wr (k % 1024) (plus (s.rdWide (k % 1024)) 1)
    else (let x := plus s.a (s.rdWide (k % 1024)); ({ s with a := x } : St).wr (k % 1024) x)) := rfl
theorem plain5 (s : Sf58.St) (k : Nat) : s.plain 5 k = (if k / 1024 = 0 then
      (if k % 1024 = 15 then { s with z := s.rd 13 % 4096, instead := some (s.rd 15), serving := false } else { s.back (k % 1024) with index := s.rd (k % 1024) })
    else if k / 1024 = 1 then
      (let j := (k % 1024 + 1023) % 1024
       let x := s.rdWide j
       let y := s.rd ((j + 1) % 1024)
       (({ s with a := x, l := y } : St).wr j s.a).wr ((j + 1) % 1024) (wide s.l))
    else if k / 1024 = 2 then
      (let o := over s.a
       if k % 1024 = 0 then (if o ≠ 0 then s.skip 1 else s)
       else if o = 0 then s.wr (k % 1024) s.a
       else
         let t := s.wr (k % 1024) (wide (narrow s.a))
         { (if k % 1024 = 5 then t else t.skip 1) with a := ofSign o })
    else ({ s with a := s.rdWide (k % 1024) } : St).wr (k % 1024) s.a) := rfl
theorem more0 (s : Sf58.St) (k : Nat) : s.more 0 k = (match k / 512 with
      | 0 => { s with a := wide (s.inp (k % 512)) }
      | 1 => s.out (k % 512) (narrow s.a)
      | 2 => { s with a := wide (narrow s.a &&& s.inp (k % 512)) }
      | 3 => { s.out (k % 512) (narrow s.a &&& s.inp (k % 512)) with a := wide (narrow s.a &&& s.inp (k % 512)) }
      | 4 => { s with a := wide (narrow s.a ||| s.inp (k % 512)) }
      | 5 => { s.out (k % 512) (narrow s.a ||| s.inp (k % 512)) with a := wide (narrow s.a ||| s.inp (k % 512)) }
      | 6 => { s with a := wide (narrow s.a ^^^ s.inp (k % 512)) }
      | _ => s) := rfl
theorem more1 (s : Sf58.St) (k : Nat) : s.more 1 k = (if k / 1024 ≠ 0 then (if (s.a == 0 || s.a == 65535) = true then s.jump k else s) else
    let d := value (s.rd (k % 1024))
    let n := s.double
    let neg := (if n = 0 then negative s.a else decide (n < 0))
    let bad := s.rd (k % 1024) / 16384 % 2 == 1
    if d.natAbs * 16384 ≤ n.natAbs ∨ d = 0 then { s with a := wide (word (neg != bad) 16383) }
    else { s with a := wide (word (neg != bad) (n.natAbs / d.natAbs)), l := word neg (n.natAbs % d.natAbs) }) := rfl
theorem more2 (s : Sf58.St) (k : Nat) : s.more 2 k = (if k / 1024 = 0 then (let d := (narrow s.a + 32768 - s.rd (k % 1024)) % 32768; { s with a := wide (if 16384 ≤ d then d - 1 else d) })
    else if k / 1024 = 1 then ({ s with q := s.rdWide (k % 1024) } : St).wr (k % 1024) s.q
    else if k / 1024 = 2 then (let x := s.rdWide (k % 1024); s.wr (k % 1024) (plus x (if negative x = true then 65534 else 1)))
    else (let x := s.rdWide (k % 1024); if x = 0 ∨ x = 65535 then s else s.wr (k % 1024) (plus x (if negative x = true then 1 else 65534)))) := rfl
theorem more3 (s : Sf58.St) (k : Nat) : s.more 3 k = { (s.back (((k + 4095) % 4096 + 1) % 4096)).back ((k + 4095) % 4096) with l := s.rd (((k + 4095) % 4096 + 1) % 4096), a := s.rdWide ((k + 4095) % 4096) } := rfl
theorem more4 (s : Sf58.St) (k : Nat) : s.more 4 k = { (s.back (((k + 4095) % 4096 + 1) % 4096)).back ((k + 4095) % 4096) with l := 32767 - s.rd (((k + 4095) % 4096 + 1) % 4096), a := minus (s.rdWide ((k + 4095) % 4096)) } := rfl
theorem more6 (s : Sf58.St) (k : Nat) : s.more 6 k = (if k / 1024 ≠ 0 then (if ((s.a == 0 || s.a == 65535) || negative s.a) = true then s.jump k else s) else { s.back (k % 1024) with a := plus s.a (minus (s.rdWide (k % 1024))) }) := rfl
/-! first list -/
theorem i_tc3 {s : Sf58.St} : s.plain 0 3 = { s with shut := false } := rfl
theorem i_tc4 {s : Sf58.St} : s.plain 0 4 = { s with shut := true } := rfl
theorem i_tc6 {s : Sf58.St} : s.plain 0 6 = { s with extend := true } := rfl
theorem i_tc2 {s : Sf58.St} : s.plain 0 2 = { s with z := 2 } := rfl
theorem i_tc {s : Sf58.St} {k : Nat} (h2 : ¬ k = 2) (h3 : ¬ k = 3) (h4 : ¬ k = 4) (h6 : ¬ k = 6) (hz : s.z < 4096) : s.plain 0 k = { s with q := s.z, z := k } := by
  rw [plain0]
  skip
  rw [if_neg h3, if_neg h4, if_neg h6, if_neg h2, wide_small (by omega)]
theorem neg_bit {x : Nat} (h : x < 65536) : negative x = decide (32768 ≤ x) := by
  unfold Sf58.negative
  rw [Bool.eq_iff_iff]
  simp
  omega
theorem i_ccs {s : Sf58.St} (g : Good s) {k : Nat} (h : k < 1024) : s.plain 1 k =
    if s.rdWide k = 0 then ({ anew s k (s.rdWide k) with a := 0 } : Sf58.St).skip 1
    else if s.rdWide k = 65535 then ({ anew s k (s.rdWide k) with a := 0 } : Sf58.St).skip 3
    else if 32768 ≤ s.rdWide k then ({ anew s k (s.rdWide k) with a := minus (s.rdWide k) - 1 } : Sf58.St).skip 2
    else { anew s k (s.rdWide k) with a := s.rdWide k - 1 } := by
  have hx := g.rdWide k
  have hz : ({ anew s k (s.rdWide k) with a := s.rdWide k - 1 } : Sf58.St).z < 4096 := by show (anew s k (s.rdWide k)).z < 4096; rw [anew_z]; exact g.z
  rw [plain1]
  dsimp only
  rw [if_neg (by rw [part_lt h]; exact fun q => q rfl), mod_lt h, back_wide]
  generalize anew s k (s.rdWide k) = t at *
  generalize s.rdWide k = x at *
  rw [neg_bit hx]
  unfold Sf58.minus
  by_cases h0 : x = 0
  · subst h0
    rw [if_pos rfl]
    rfl
  · rw [if_neg h0]
    by_cases h1 : x = 65535
    · subst h1
      rw [if_pos rfl]
      rfl
    · rw [if_neg h1]
      by_cases h2 : 32768 ≤ x
      · rw [if_pos h2, decide_eq_true h2, if_pos rfl, if_neg (show ¬ 65535 - x % 65536 = 0 by omega), if_neg (show ¬ 65535 - x % 65536 = 0 by omega), if_pos rfl]
      · rw [if_neg h2, decide_eq_false h2]
        simp only [Bool.false_eq_true, if_false, if_neg h0]
        exact skip0 hz
theorem i_tcf {s : Sf58.St} {k : Nat} (h : 1024 ≤ k) : s.plain 1 k = { s with z := k } := by
  rw [plain1]
  dsimp only
  rw [if_pos (by omega)]
  rfl
theorem j1 {k : Nat} (h : k < 1024) : ((k + 1023) % 1024 + 1) % 1024 = k := by omega
theorem i_das {s : Sf58.St} {k : Nat} (h : k < 1024) : s.plain 2 k =
    (({ s with a := ofSign (over (plus (plus s.a (s.rdWide ((k + 1023) % 1024))) (ofSign (over (plus (wide s.l) (wide (s.rd k))))))), l := 0 } : Sf58.St).wr k (plus (wide s.l) (wide (s.rd k)))).wr ((k + 1023) % 1024)
      (plus (plus s.a (s.rdWide ((k + 1023) % 1024))) (ofSign (over (plus (wide s.l) (wide (s.rd k)))))) := by
  rw [plain2]
  dsimp only
  rw [if_pos (part_lt h), mod_lt h, j1 h]
theorem i_lxch {s : Sf58.St} {k : Nat} (h1 : 1024 ≤ k) (h2 : k < 2048) : s.plain 2 k = ({ s with l := s.rd (k % 1024) } : Sf58.St).wr (k % 1024) (wide s.l) := by
  rw [plain2]
  dsimp only
  rw [if_neg (by omega), if_pos (by omega)]
theorem i_incr {s : Sf58.St} {k : Nat} (h1 : 2048 ≤ k) (h2 : k < 3072) : s.plain 2 k = s.wr (k % 1024) (plus (s.rdWide (k % 1024)) 1) := by
  rw [plain2]
  dsimp only
  rw [if_neg (by omega), if_neg (by omega), if_pos (by omega)]
theorem i_ads {s : Sf58.St} {k : Nat} (h1 : 3072 ≤ k) (h2 : k < 4096) : s.plain 2 k = ({ s with a := plus s.a (s.rdWide (k % 1024)) } : Sf58.St).wr (k % 1024) (plus s.a (s.rdWide (k % 1024))) := by
  rw [plain2]
  dsimp only
  rw [if_neg (by omega), if_neg (by omega), if_neg (by omega)]
theorem i_ca {s : Sf58.St} (g : Good s) {k : Nat} : s.plain 3 k = anew { s with a := s.rdWide k } k (s.rdWide k) := by
  rw [anew_a (g.rdWide k), ← back_wide]
  rfl
theorem i_cs {s : Sf58.St} (g : Good s) {k : Nat} : s.plain 4 k = anew { s with a := minus (s.rdWide k) } k (s.rdWide k) := by
  rw [anew_a (g.rdWide k), ← back_wide]
  rfl
theorem rd13 {s : Sf58.St} : s.rd 13 = s.erase 13 := rfl
theorem rd15 {s : Sf58.St} : s.rd 15 = s.erase 15 := rfl
theorem i_resume {s : Sf58.St} : s.plain 5 15 = { s with z := s.erase 13 % 4096, instead := some (s.erase 15), serving := false } := rfl
theorem i_index {s : Sf58.St} {k : Nat} (h : k < 1024) (h15 : ¬ k = 15) : s.plain 5 k = anew { s with index := s.rd k } k (wide (s.rd k)) := by
  rw [plain5]
  dsimp only
  rw [if_pos (part_lt h), mod_lt h, if_neg h15, anew_i (wide_lt _), ← back_anew]
theorem i_dxch {s : Sf58.St} {k : Nat} (h1 : 1024 ≤ k) (h2 : k < 2048) : s.plain 5 k =
    (({ s with a := s.rdWide ((k % 1024 + 1023) % 1024), l := s.rd (k % 1024) } : Sf58.St).wr ((k % 1024 + 1023) % 1024) s.a).wr (k % 1024) (wide s.l) := by
  rw [plain5]
  dsimp only
  rw [if_neg (by omega), if_pos (by omega), j1 (by omega)]
theorem ofSign_over {x : Nat} : (over x ≠ 0) ↔ ofSign (over x) ≠ 0 := not_congr over_zero
theorem i_ts0 {s : Sf58.St} {k : Nat} (h1 : 2048 ≤ k) (h2 : k < 3072) (he : k % 1024 = 0) : s.plain 5 k = if ofSign (over s.a) ≠ 0 then s.skip 1 else s := by
  rw [plain5]
  dsimp only
  rw [if_neg (by omega), if_neg (by omega), if_pos (by omega), if_pos he]
  by_cases h : over s.a ≠ 0
  · rw [if_pos h, if_pos (ofSign_over.mp h)]
  · rw [if_neg h, if_neg fun q => h (ofSign_over.mpr q)]
theorem i_ts1 {s : Sf58.St} {k : Nat} (h1 : 2048 ≤ k) (h2 : k < 3072) (he : ¬ k % 1024 = 0) (ho : ofSign (over s.a) = 0) : s.plain 5 k = s.wr (k % 1024) s.a := by
  rw [plain5]
  dsimp only
  rw [if_neg (by omega), if_neg (by omega), if_pos (by omega), if_neg he, if_pos (over_zero.mpr ho)]
theorem i_ts2 {s : Sf58.St} {k : Nat} (h1 : 2048 ≤ k) (h2 : k < 3072) (he : ¬ k % 1024 = 0) (ho : ¬ ofSign (over s.a) = 0) (h5 : k % 1024 = 5) : s.plain 5 k = { s.wr (k % 1024) (wide (narrow s.a)) with a := ofSign (over s.a) } := by
  rw [plain5]
  dsimp only
  rw [if_neg (by omega), if_neg (by omega), if_pos (by omega), if_neg he, if_neg fun q => ho (over_zero.mp q), if_pos h5]
theorem i_ts3 {s : Sf58.St} {k : Nat} (h1 : 2048 ≤ k) (h2 : k < 3072) (he : ¬ k % 1024 = 0) (ho : ¬ ofSign (over s.a) = 0) (h5 : ¬ k % 1024 = 5) : s.plain 5 k = { (s.wr (k % 1024) (wide (narrow s.a))).skip 1 with a := ofSign (over s.a) } := by
  rw [plain5]
  dsimp only
  rw [if_neg (by omega), if_neg (by omega), if_pos (by omega), if_neg he, if_neg fun q => ho (over_zero.mp q), if_neg h5]
theorem i_xch {s : Sf58.St} {k : Nat} (h1 : 3072 ≤ k) (h2 : k < 4096) : s.plain 5 k = ({ s with a := s.rdWide (k % 1024) } : Sf58.St).wr (k % 1024) s.a := by
  rw [plain5]
  dsimp only
  rw [if_neg (by omega), if_neg (by omega), if_neg (by omega)]
theorem i_ad {s : Sf58.St} (g : Good s) {k : Nat} : s.plain 6 k = anew { s with a := plus s.a (s.rdWide k) } k (s.rdWide k) := by
  rw [anew_a (g.rdWide k), ← back_wide]
  rfl
theorem i_mask {s : Sf58.St} {k : Nat} : s.plain 7 k = { s with a := wide (narrow s.a &&& s.rd k) } := rfl

/-! second list -/
def chan (s : Sf58.St) (n c : Nat) : Sf58.St := match n with
  | 0 => { s with a := wide (s.inp c) }
  | 1 => s.out c (narrow s.a)
  | 2 => { s with a := wide (narrow s.a &&& s.inp c) }
  | 3 => { s.out c (narrow s.a &&& s.inp c) with a := wide (narrow s.a &&& s.inp c) }
  | 4 => { s with a := wide (narrow s.a ||| s.inp c) }
  | 5 => { s.out c (narrow s.a ||| s.inp c) with a := wide (narrow s.a ||| s.inp c) }
  | 6 => { s with a := wide (narrow s.a ^^^ s.inp c) }
  | _ => s
theorem i_chan {s : Sf58.St} {k : Nat} : s.more 0 k = chan s (k / 512) (k % 512) := by
  rw [more0]; rfl
theorem and_lt {x y : Nat} (h : y < 32768) : x &&& y < 32768 := Nat.lt_of_le_of_lt Nat.and_le_right h
theorem or_lt {x y : Nat} (h1 : x < 32768) (h2 : y < 32768) : x ||| y < 32768 := Nat.or_lt_two_pow (n := 15) h1 h2
theorem xor_lt {x y : Nat} (h1 : x < 32768) (h2 : y < 32768) : x ^^^ y < 32768 := Nat.xor_lt_two_pow (n := 15) h1 h2
theorem out_a {s : Sf58.St} {c x y : Nat} : ({ s with a := y } : Sf58.St).out c x = { s.out c x with a := y } := by
  unfold Sf58.St.out
  split
  · rfl
  · split <;> rfl
theorem i_bzf {s : Sf58.St} {k : Nat} (h : 1024 ≤ k) : s.more 1 k = if s.a = 0 ∨ s.a = 65535 then { s with z := k } else s := by
  rw [more1]
  dsimp only
  rw [if_pos (by omega)]
  by_cases h0 : s.a = 0 ∨ s.a = 65535
  · rw [if_pos h0, if_pos (by simpa using h0)]; rfl
  · rw [if_neg h0, if_neg (by simpa using h0)]
def dvNeg (s : Sf58.St) : Bool := if s.double = 0 then negative s.a else decide (s.double < 0)
theorem i_dv {s : Sf58.St} {k : Nat} (h : k < 1024) : s.more 1 k =
    if (value (s.rd k)).natAbs * 16384 ≤ s.double.natAbs ∨ value (s.rd k) = 0 then { s with a := wide (word (dvNeg s != (s.rd k / 16384 % 2 == 1)) 16383) }
    else { s with a := wide (word (dvNeg s != (s.rd k / 16384 % 2 == 1)) (s.double.natAbs / (value (s.rd k)).natAbs)), l := word (dvNeg s) (s.double.natAbs % (value (s.rd k)).natAbs) } := by
  rw [more1]
  dsimp only
  rw [if_neg (by rw [part_lt h]; exact fun q => q rfl), mod_lt h]
  rfl
theorem i_msu {s : Sf58.St} {k : Nat} (h : k < 1024) : s.more 2 k = { s with a := wide (if 16384 ≤ (narrow s.a + 32768 - s.rd k) % 32768 then (narrow s.a + 32768 - s.rd k) % 32768 - 1 else (narrow s.a + 32768 - s.rd k) % 32768) } := by
  rw [more2]
  dsimp only
  rw [if_pos (part_lt h), mod_lt h]
theorem i_qxch {s : Sf58.St} {k : Nat} (h1 : 1024 ≤ k) (h2 : k < 2048) : s.more 2 k = ({ s with q := s.rdWide (k % 1024) } : Sf58.St).wr (k % 1024) s.q := by
  rw [more2]
  dsimp only
  rw [if_neg (by omega), if_pos (by omega)]
theorem i_aug {s : Sf58.St} (g : Good s) {k : Nat} (h1 : 2048 ≤ k) (h2 : k < 3072) : s.more 2 k = if 32768 ≤ s.rdWide (k % 1024) then s.wr (k % 1024) (plus (s.rdWide (k % 1024)) 65534) else s.wr (k % 1024) (plus (s.rdWide (k % 1024)) 1) := by
  rw [more2]
  dsimp only
  rw [if_neg (by omega), if_neg (by omega), if_pos (by omega), neg_bit (g.rdWide _)]
  by_cases h : 32768 ≤ s.rdWide (k % 1024)
  · rw [if_pos h, decide_eq_true h, if_pos rfl]
  · rw [if_neg h, decide_eq_false h, if_neg (by decide)]
theorem i_dim {s : Sf58.St} (g : Good s) {k : Nat} (h1 : 3072 ≤ k) (h2 : k < 4096) : s.more 2 k = if s.rdWide (k % 1024) = 0 ∨ s.rdWide (k % 1024) = 65535 then s else if 32768 ≤ s.rdWide (k % 1024) then s.wr (k % 1024) (plus (s.rdWide (k % 1024)) 1) else s.wr (k % 1024) (plus (s.rdWide (k % 1024)) 65534) := by
  rw [more2]
  dsimp only
  rw [if_neg (by omega), if_neg (by omega), if_neg (by omega), neg_bit (g.rdWide _)]
  by_cases h0 : s.rdWide (k % 1024) = 0 ∨ s.rdWide (k % 1024) = 65535
  · rw [if_pos h0, if_pos h0]
  · rw [if_neg h0, if_neg h0]
    by_cases h : 32768 ≤ s.rdWide (k % 1024)
    · rw [if_pos h, decide_eq_true h, if_pos rfl]
    · rw [if_neg h, decide_eq_false h, if_neg (by decide)]
theorem j2 {k : Nat} (h : k < 4096) : ((k + 4095) % 4096 + 1) % 4096 = k := by omega
/-- the second place is read as it stood -/
theorem back2' {s : Sf58.St} {k j : Nat} (hk : k = j + 1 ∨ 1024 ≤ j) : (s.back k).back j = anew (anew s k (wide (s.rd k))) j (s.rdWide j) := by
  rw [back_wide (s.back k), back_anew s k]
  have hw := wide_lt (s.rd k)
  rw [anew_eq s k _ hw]
  split
  · rename_i hc
    generalize edited (num s k) (narrow (wide (s.rd k))) = y
    have hn : num (erWr s (num s k) y) j = num s j := rfl
    by_cases hj : j < 1024 ∧ 16 ≤ num s j ∧ num s j ≤ 19
    · have hne : ¬ num s j = num s k := by
        have e : k = j + 1 := by omega
        subst e
        have := hj.2.1
        unfold num at this ⊢
        split <;> split <;> omega
      have e : (erWr s (num s k) y).rdWide j = s.rdWide j := by
        rw [rdWide_low hj.1, rdWide_low hj.1, hn, if_neg (by omega), if_neg (by omega)]
        unfold erWr
        dsimp only
        rw [if_neg hne]
      rw [e]
    · unfold Fb.anew
      rw [hn, if_neg hj, if_neg hj]
  · rfl
theorem back2 {s : Sf58.St} (g : Good s) {k : Nat} (h : k < 4096) : (s.back k).back ((k + 4095) % 4096) = anew (anew s k (wide (s.rd k))) ((k + 4095) % 4096) (s.rdWide ((k + 4095) % 4096)) := back2' (by omega)
def la (s : Sf58.St) (l a : Nat) : Sf58.St := { s with l := l, a := a }
theorem anew_la {s : Sf58.St} {k v x y : Nat} (hv : v < 65536) : anew (la s x y) k v = la (anew s k v) x y := by
  rw [anew_eq _ _ _ hv, anew_eq _ _ _ hv]
  show (if k < 1024 ∧ 16 ≤ num s k ∧ num s k ≤ 19 then erWr (la s x y) (num s k) (edited (num s k) (narrow v)) else la s x y) = _
  split <;> rfl
theorem i_dca {s : Sf58.St} (g : Good s) {k : Nat} (h : k < 4096) : s.more 3 k = anew (anew { s with l := s.rd k, a := s.rdWide ((k + 4095) % 4096) } k (wide (s.rd k))) ((k + 4095) % 4096) (s.rdWide ((k + 4095) % 4096)) := by
  rw [more3, j2 h]
  show la ((s.back k).back ((k + 4095) % 4096)) (s.rd k) (s.rdWide ((k + 4095) % 4096)) = anew (anew (la s (s.rd k) (s.rdWide ((k + 4095) % 4096))) k (wide (s.rd k))) ((k + 4095) % 4096) (s.rdWide ((k + 4095) % 4096))
  rw [back2 g h, anew_la (wide_lt _), anew_la (g.rdWide _)]
theorem i_dcs {s : Sf58.St} (g : Good s) {k : Nat} (h : k < 4096) : s.more 4 k = anew (anew { s with l := 32767 - s.rd k, a := minus (s.rdWide ((k + 4095) % 4096)) } k (wide (s.rd k))) ((k + 4095) % 4096) (s.rdWide ((k + 4095) % 4096)) := by
  rw [more4, j2 h]
  show la ((s.back k).back ((k + 4095) % 4096)) (32767 - s.rd k) (minus (s.rdWide ((k + 4095) % 4096))) = anew (anew (la s (32767 - s.rd k) (minus (s.rdWide ((k + 4095) % 4096)))) k (wide (s.rd k))) ((k + 4095) % 4096) (s.rdWide ((k + 4095) % 4096))
  rw [back2 g h, anew_la (wide_lt _), anew_la (g.rdWide _)]
theorem i_indexX {s : Sf58.St} {k : Nat} : s.more 5 k = anew { s with index := s.rd k, extend := true } k (wide (s.rd k)) := by
  have hw := wide_lt (s.rd k)
  rw [anew_x (s := { s with index := s.rd k }) hw, anew_i hw, ← back_anew]
  rfl
theorem i_su {s : Sf58.St} (g : Good s) {k : Nat} (h : k < 1024) : s.more 6 k = anew { s with a := plus s.a (minus (s.rdWide k)) } k (s.rdWide k) := by
  rw [anew_a (g.rdWide k), ← back_wide]
  rw [more6]
  dsimp only
  rw [if_neg (by rw [part_lt h]; exact fun q => q rfl), mod_lt h]
theorem i_bzmf {s : Sf58.St} (g : Good s) {k : Nat} (h : 1024 ≤ k) : s.more 6 k = if s.a = 0 ∨ 32768 ≤ s.a then { s with z := k } else s := by
  have ha := g.a
  rw [more6]
  dsimp only
  rw [if_pos (by omega), neg_bit ha]
  by_cases h0 : s.a = 0 ∨ 32768 ≤ s.a
  · rw [if_pos h0, if_pos (by simp; omega)]; rfl
  · rw [if_neg h0, if_neg (by simp; omega)]
theorem i_mp {s : Sf58.St} {k : Nat} : s.more 7 k = { s with a := wide (word (narrow s.a / 16384 != s.rd k / 16384) ((value (narrow s.a)).natAbs * (value (s.rd k)).natAbs / 16384)), l := word (narrow s.a / 16384 != s.rd k / 16384) ((value (narrow s.a)).natAbs * (value (s.rd k)).natAbs % 16384) } := rfl
end Fb

set_option linter.all false
set_option maxHeartbeats 1000000
set_option maxRecDepth 4000
namespace Fb
open Sf58
/-! ### pulses -/
theorem ask_eq {s : Sf58.St} {k : Nat} : ({ s with waiting := (s.ask k).waiting } : Sf58.St) = s.ask k := by
  unfold Sf58.St.ask
  split <;> rfl
theorem ask_or {s : Sf58.St} (g : Good s) (k : Nat) : PySem.Builtin.bitOr (bits s.waiting : Int) (1 * 2 ^ (k : Int).toNat) = ((bits (s.ask k).waiting : Nat) : Int) := by
  have e : (1 : Int) * 2 ^ (k : Int).toNat = ((2 ^ k : Nat) : Int) := by rw [Int.one_mul, Int.toNat_natCast, Int.natCast_pow]; rfl
  rw [e, orN, ask_bits g]
theorem over_one {v : Nat} : ofSign (over v) = 1 ↔ over v = 1 := by
  unfold Sf58.over
  split
  · exact ⟨fun _ => rfl, fun _ => rfl⟩
  · split
    · exact ⟨fun h => absurd h (by decide), fun h => absurd h (by decide)⟩
    · exact ⟨fun h => absurd h (by decide), fun h => absurd h (by decide)⟩
theorem i_down {s : Sf58.St} (g : Good s) {k : Nat} : s.pulse k true = erWr s k (narrow (plus (wide (s.erase k)) 65534)) := by
  have h := g.er k
  have h1 : ¬ over (plus (wide (s.erase k)) 65534) = 1 := by
    generalize s.erase k = x at *
    unfold Sf58.over
    split
    · rename_i q
      exfalso
      rcases (show x / 16384 = 0 ∨ x / 16384 = 1 by omega) with e | e
      · have e2 : wide x = x := by unfold Sf58.wide; omega
        rw [e2] at q
        unfold Sf58.plus at q
        dsimp only at q
        split at q <;> omega
      · have e2 : wide x = x + 32768 := by unfold Sf58.wide; omega
        rw [e2] at q
        unfold Sf58.plus at q
        dsimp only at q
        split at q <;> omega
    · split <;> decide
  unfold Sf58.St.pulse
  dsimp only
  rw [if_pos rfl, if_neg h1]
  rfl
theorem i_up0 {s : Sf58.St} {k : Nat} (h : ¬ ofSign (over (plus (wide (s.erase k)) 1)) = 1) : s.pulse k false = erWr s k (narrow (plus (wide (s.erase k)) 1)) := by
  unfold Sf58.St.pulse
  dsimp only
  rw [if_neg (show ¬ (false = true) by decide), if_neg fun q => h (over_one.mpr q)]
  rfl
theorem i_up {s : Sf58.St} {k : Nat} (h : ofSign (over (plus (wide (s.erase k)) 1)) = 1) : s.pulse k false =
    (let t := erWr s k (narrow (plus (wide (s.erase k)) 1))
     if k = 21 then erWr t 20 (narrow (plus (wide (t.erase 20)) 1)) else if k = 22 then t.ask 3 else if k = 23 then t.ask 4 else if k = 24 then t.ask 2 else t) := by
  unfold Sf58.St.pulse
  dsimp only
  rw [if_neg (show ¬ (false = true) by decide), if_pos (over_one.mp h)]
  rfl

/-! ### turns -/
theorem find_first {w : List Nat} (hb : ∀ k ∈ w, k < 11) (hw : w ≠ []) : ∃ k, (List.range 11).find? (fun k => w.contains k) = some k ∧ w.contains k = true ∧ k < 11 ∧ ∀ i, i < k → w.contains i = false := by
  cases h : (List.range 11).find? (fun k => w.contains k) with
  | none =>
    exfalso
    rw [List.find?_eq_none] at h
    cases w with
    | nil => exact hw rfl
    | cons k r =>
      have := h k (by rw [List.mem_range]; exact hb k List.mem_cons_self)
      simp at this
  | some k =>
    obtain ⟨h1, as, bs, e, h2⟩ := List.find?_eq_some_iff_append.mp h
    have hk : k < 11 := by
      have : k ∈ List.range 11 := by rw [e]; simp
      simpa using this
    refine ⟨k, rfl, h1, hk, fun i hi => ?_⟩
    have hlen : as.length = k := by
      have e1 : (List.range 11)[as.length]? = some k := by rw [e]; simp
      have hl : as.length < 11 := by
        have := congrArg List.length e
        simp at this
        omega
      rw [List.getElem?_range hl] at e1
      exact Option.some.inj e1
    have hi2 : i ∈ as := by
      have e2 : as[i]? = some i := by
        have e3 : (List.range 11)[i]? = some i := List.getElem?_range (by omega)
        rw [e, List.getElem?_append_left (by omega)] at e3
        exact e3
      exact List.mem_of_getElem? e2
    simpa using h2 i hi2
def comesIn (s : Sf58.St) : Bool := !s.waiting.isEmpty && s.open_
def came (s : Sf58.St) : Sf58.St := match (List.range 11).find? fun k => s.waiting.contains k with
  | some k => { (s.wr 13 s.z).wr 15 (wide (s.rd s.z)) with z := 2048 + 4 * k, serving := true, waiting := s.waiting.filter fun j => j != k }
  | none => s
theorem turn_in {s : Sf58.St} (g : Good s) (h : comesIn s = true) : s.turn = came s := by
  unfold comesIn at h
  rw [Bool.and_eq_true] at h
  obtain ⟨k, hk, _⟩ := find_first g.wt (w := s.waiting) (by intro e; rw [e] at h; simp at h)
  unfold Sf58.St.turn came
  dsimp only
  rw [if_pos h.2, hk]
theorem turn_no {s : Sf58.St} (h : comesIn s = false) : s.turn = s.step := by
  unfold comesIn at h
  rw [Bool.and_eq_false_iff] at h
  unfold Sf58.St.turn
  dsimp only
  rcases h with h | h
  · have e : s.waiting = [] := by
      cases q : s.waiting with
      | nil => rfl
      | cons a r => rw [q] at h; simp at h
    have e2 : (List.range 11).find? (fun k => s.waiting.contains k) = none := by rw [e, List.find?_eq_none]; intro x _; simp
    rw [e2, ite_self]
  · rw [if_neg (by rw [h]; decide)]
theorem comesIn_eq {s : Sf58.St} : comesIn s = (!s.waiting.isEmpty && (!s.shut && (!s.serving && (!s.extend && (s.index == 0 && (s.instead.isNone && over s.a == 0)))))) := rfl
theorem narrow_small {x : Nat} (h : x < 16384) : narrow x = x := by unfold Sf58.narrow; omega
theorem wr13 {s : Sf58.St} (v : Nat) : s.wr 13 v = erWr s 13 (narrow v) := rfl
theorem wr15 {s : Sf58.St} (v : Nat) : s.wr 15 v = erWr s 15 (narrow v) := rfl
theorem came_eq {s : Sf58.St} (g : Good s) {k : Nat} (hk : (List.range 11).find? (fun k => s.waiting.contains k) = some k) :
    came s = { erWr (erWr s 13 s.z) 15 (s.rd s.z) with z := 2048 + 4 * k, waiting := s.waiting.filter (fun j => j != k), serving := true } := by
  unfold came
  rw [hk]
  dsimp only
  have hz := g.z
  rw [wr13, wr15, narrow_small (by omega), narrow_wide (g.rd _)]
def fetchW (s : Sf58.St) : Nat := narrow (plus (wide (match s.instead with | some x => x | none => s.rd s.z)) (wide s.index))
theorem fetchW_lt (s : Sf58.St) : fetchW s < 32768 := narrow_lt _
def fetched (s : Sf58.St) : Sf58.St := { s with z := (s.z + 1) % 4096, index := 0, instead := none }
theorem step_more {s : Sf58.St} (h : s.extend = true) : s.step = ({ fetched s with extend := false } : Sf58.St).more (fetchW s / 4096) (fetchW s % 4096) := by
  unfold Sf58.St.step
  dsimp only
  rw [if_pos h]
  rfl
theorem ext_same {s : Sf58.St} (h : s.extend = false) : ({ s with extend := false } : Sf58.St) = s := by
  cases s
  cases h
  rfl
theorem step_plain {s : Sf58.St} (h : s.extend = false) : s.step = (fetched s).plain (fetchW s / 4096) (fetchW s % 4096) := by
  have e : ({ fetched s with extend := false } : Sf58.St) = fetched s := ext_same h
  unfold Sf58.St.step
  dsimp only
  rw [if_neg (by rw [h]; decide)]
  show ({ fetched s with extend := false } : Sf58.St).plain (fetchW s / 4096) (fetchW s % 4096) = _
  rw [e]
theorem noIndex {s : Sf58.St} (h : s.index = 0) : ({ s with index := 0 } : Sf58.St) = s := by
  cases s
  cases h
  rfl
theorem noInstead {s : Sf58.St} (h : s.instead = none) : ({ s with instead := none } : Sf58.St) = s := by
  cases s
  cases h
  rfl
/-- a jump in place -/
theorem still_core {s : Sf58.St} (hx : s.extend = false) (hi : s.index = 0) (hn : s.instead = none) (hc : comesIn s = false) (h : (fetched s).plain (fetchW s / 4096) (fetchW s % 4096) = s) : s.turn = s := by
  rw [turn_no hc, step_plain hx, h]
theorem fetch_plain {s : Sf58.St} (g : Good s) (hi : s.index = 0) (hn : s.instead = none) : fetchW s = s.rd s.z := by
  unfold fetchW
  rw [hn, hi]
  exact indexed_zero (g.rd _)
theorem fetched_z {s : Sf58.St} (hi : s.index = 0) (hn : s.instead = none) : fetched s = { s with z := (s.z + 1) % 4096 } := by
  unfold fetched
  cases s
  cases hi
  cases hn
  rfl
theorem still_tc {s : Sf58.St} (g : Good s) (hx : s.extend = false) (hi : s.index = 0) (hn : s.instead = none) (hc : comesIn s = false) (hw : s.rd s.z = s.z) (h2 : ¬ s.z = 2) (h3 : ¬ s.z = 3) (h4 : ¬ s.z = 4) (h6 : ¬ s.z = 6) (hq : s.q = (s.z + 1) % 4096) : s.turn = s := by
  refine still_core hx hi hn hc ?_
  have hz := g.z
  rw [fetch_plain g hi hn, hw, fetched_z hi hn, show s.z / 4096 = 0 by omega, show s.z % 4096 = s.z by omega, i_tc h2 h3 h4 h6 (show (s.z + 1) % 4096 < 4096 by omega)]
  show ({ s with q := (s.z + 1) % 4096, z := s.z } : Sf58.St) = s
  rw [← hq]
theorem still_tcf {s : Sf58.St} (g : Good s) (hx : s.extend = false) (hi : s.index = 0) (hn : s.instead = none) (hc : comesIn s = false) (hw : s.rd s.z = 4096 + s.z) (hz1 : 1024 ≤ s.z) : s.turn = s := by
  refine still_core hx hi hn hc ?_
  have hz := g.z
  rw [fetch_plain g hi hn, hw, fetched_z hi hn, show (4096 + s.z) / 4096 = 1 by omega, show (4096 + s.z) % 4096 = s.z by omega, i_tcf hz1]
theorem turns_still {s : Sf58.St} (h : s.turn = s) : ∀ n, turns n s = s
  | 0 => rfl
  | n + 1 => by
    show turns n s.turn = s
    rw [h, turns_still h n]
theorem turns_step {s : Sf58.St} {n i : Nat} (h : i < n) : turns (n - i) s = turns (n - (i + 1)) s.turn := by
  have e : n - i = (n - (i + 1)) + 1 := by omega
  rw [e]
  rfl
end Fb

set_option linter.all false
set_option maxHeartbeats 1000000
set_option maxRecDepth 4000
namespace Fb
/-! ### a line of calls, by positions -/
/-- from position p on stand the arguments of the call c, whose number is j; they end ahead of p' -/
inductive Args (ns : List Int) (p : Nat) : Int → Sf58.Call → Nat → Prop where
  | begin_ : Args ns p 1 .begin_ p
  | load {b a n : Nat} {l : List Int} : ns[p]? = some (b : Int) → ns[p + 1]? = some (a : Int) → ns[p + 2]? = some (n : Int) → ns[p + 3]? = some (l.length : Int) → (ns.drop (p + 4)).take l.length = l →
      p + 4 + l.length ≤ ns.length → (∀ x ∈ l, 0 ≤ x ∧ x ≤ 65535) → (l.length = n ∨ (l = [] ∧ (39 < b ∨ 1024 < a + n))) → Args ns p 2 (.load b a (Sf58Neutral.natsOf l) n) (p + 4 + l.length)
  | run {k : Int} : ns[p]? = some k → Args ns p 3 (.run k) (p + 1)
  | ask {k : Int} : ns[p]? = some k → Args ns p 4 (.ask k) (p + 1)
  | pulse {k d : Int} : ns[p]? = some k → ns[p + 1]? = some d → Args ns p 5 (.pulse k d) (p + 2)
  | get {k : Int} : ns[p]? = some k → Args ns p 6 (.get k) (p + 1)
  | set {k : Int} {v : Nat} : ns[p]? = some k → ns[p + 1]? = some (v : Int) → Args ns p 7 (.set k v) (p + 2)
  | look {c k : Int} : ns[p]? = some c → ns[p + 1]? = some k → Args ns p 8 (.look c k) (p + 2)
  | poke {c k : Int} {v : Nat} : ns[p]? = some c → ns[p + 1]? = some k → ns[p + 2]? = some (v : Int) → Args ns p 9 (.poke c k v) (p + 3)

theorem at_drop {ns : List Int} {p i : Nat} : (ns.drop p)[i]? = ns[p + i]? := List.getElem?_drop
theorem take1 {r : List Int} (h : ¬ r.length < 1) : ∃ a, r.take 1 = [a] ∧ r[0]? = some a := by
  match r, h with
  | a :: r, _ => exact ⟨a, rfl, rfl⟩
  | [], h => exact absurd (by decide) h
theorem take2 {r : List Int} (h : ¬ r.length < 2) : ∃ a b, r.take 2 = [a, b] ∧ r[0]? = some a ∧ r[1]? = some b := by
  match r, h with
  | a :: b :: r, _ => exact ⟨a, b, rfl, rfl, rfl⟩
  | [a], h => exact absurd (by simp) h
  | [], h => exact absurd (by decide) h
theorem take3 {r : List Int} (h : ¬ r.length < 3) : ∃ a b c, r.take 3 = [a, b, c] ∧ r[0]? = some a ∧ r[1]? = some b ∧ r[2]? = some c := by
  match r, h with
  | a :: b :: c :: r, _ => exact ⟨a, b, c, rfl, rfl, rfl, rfl⟩
  | [a, b], h => exact absurd (by simp) h
  | [a], h => exact absurd (by simp) h
  | [], h => exact absurd (by decide) h
theorem natural_nat {z : Int} {n : Nat} (h : Sf58Neutral.natural z n = true) : ∃ k : Nat, z = k := by
  unfold Sf58Neutral.natural at h
  rw [Bool.and_eq_true] at h
  exact ⟨z.toNat, by have := of_decide_eq_true h.1; omega⟩
/-- one call off the front -/
def Off (ns : List Int) (p : Nat) (j : Int) (q : List (List Int)) (t : List Int) : Prop :=
  Sf58Neutral.asked1 (PySf58.whole q) = true → ∃ c p', Sf58Neutral.callOf (PySf58.whole q) = some c ∧ Args ns (p + 1) j c p' ∧ p' ≤ ns.length ∧ p < p' ∧ t = ns.drop p'
theorem off0 {ns : List Int} {p : Nat} {j : Int} {r : List Int} (hr : r = ns.drop (p + 1)) (hl : p < ns.length) {n : Nat} {q : List (List Int)} {t : List Int} (hj : PySf58.shape j = some (n, 0))
    (h : PyFlat.call PySf58.shape (j :: r) = some (q, t)) : ¬ r.length < n ∧ q = [j :: r.take n] ∧ t = r.drop n ∧ p + 1 + n ≤ ns.length ∧ t = ns.drop (p + 1 + n) := by
  unfold PyFlat.call at h
  dsimp only at h
  rw [hj] at h
  dsimp only at h
  by_cases hn : r.length < n
  · rw [if_pos hn] at h; cases h
  · rw [if_neg hn] at h
    unfold PyFlat.rows at h
    dsimp only at h
    have h := Option.some.inj h
    obtain ⟨h1, h2⟩ := Prod.mk.inj h
    have hlen : r.length = ns.length - (p + 1) := by rw [hr, List.length_drop]
    refine ⟨hn, h1.symm, h2.symm, by omega, ?_⟩
    rw [← h2, hr, List.drop_drop]
theorem off {ns : List Int} {p : Nat} {j : Int} {r : List Int} (hr : r = ns.drop (p + 1)) (hl : p < ns.length) {q : List (List Int)} {t : List Int} (h : PyFlat.call PySf58.shape (j :: r) = some (q, t)) : Off ns p j q t := by
  have e : ∀ i, r[i]? = ns[p + 1 + i]? := fun i => by rw [hr]; exact at_drop
  intro ha
  by_cases h1 : j = 1
  · subst h1
    obtain ⟨hn, rfl, ht, hb, hd⟩ := off0 hr hl (n := 0) rfl h
    exact ⟨_, _, rfl, .begin_, by omega, by omega, hd⟩
  by_cases h3 : j = 3
  · subst h3
    obtain ⟨hn, rfl, ht, hb, hd⟩ := off0 hr hl (n := 1) rfl h
    obtain ⟨a, ea, e0⟩ := take1 hn
    rw [ea] at ha ⊢
    exact ⟨_, _, rfl, .run (by rw [← e0, e]), by omega, by omega, hd⟩
  by_cases h4 : j = 4
  · subst h4
    obtain ⟨hn, rfl, ht, hb, hd⟩ := off0 hr hl (n := 1) rfl h
    obtain ⟨a, ea, e0⟩ := take1 hn
    rw [ea] at ha ⊢
    exact ⟨_, _, rfl, .ask (by rw [← e0, e]), by omega, by omega, hd⟩
  by_cases h5 : j = 5
  · subst h5
    obtain ⟨hn, rfl, ht, hb, hd⟩ := off0 hr hl (n := 2) rfl h
    obtain ⟨a, b, ea, e0, e1⟩ := take2 hn
    rw [ea] at ha ⊢
    exact ⟨_, _, rfl, .pulse (by rw [← e0, e]) (by rw [← e1, e]), by omega, by omega, hd⟩
  by_cases h6 : j = 6
  · subst h6
    obtain ⟨hn, rfl, ht, hb, hd⟩ := off0 hr hl (n := 1) rfl h
    obtain ⟨a, ea, e0⟩ := take1 hn
    rw [ea] at ha ⊢
    exact ⟨_, _, rfl, .get (by rw [← e0, e]), by omega, by omega, hd⟩
  by_cases h7 : j = 7
  · subst h7
    obtain ⟨hn, rfl, ht, hb, hd⟩ := off0 hr hl (n := 2) rfl h
    obtain ⟨a, b, ea, e0, e1⟩ := take2 hn
    rw [ea] at ha ⊢
    have ha : (Sf58Neutral.whole32 a && Sf58Neutral.natural b 32) = true := ha
    rw [Bool.and_eq_true] at ha
    obtain ⟨v, rfl⟩ := natural_nat ha.2
    exact ⟨_, _, rfl, .set (by rw [← e0, e]) (by rw [← e, e1]; rfl), by omega, by omega, hd⟩
  by_cases h8 : j = 8
  · subst h8
    obtain ⟨hn, rfl, ht, hb, hd⟩ := off0 hr hl (n := 2) rfl h
    obtain ⟨a, b, ea, e0, e1⟩ := take2 hn
    rw [ea] at ha ⊢
    exact ⟨_, _, rfl, .look (by rw [← e0, e]) (by rw [← e1, e]), by omega, by omega, hd⟩
  by_cases h9 : j = 9
  · subst h9
    obtain ⟨hn, rfl, ht, hb, hd⟩ := off0 hr hl (n := 3) rfl h
    obtain ⟨a, b, c, ea, e0, e1, e2⟩ := take3 hn
    rw [ea] at ha ⊢
    have ha : (Sf58Neutral.whole32 a && Sf58Neutral.whole32 b && Sf58Neutral.natural c 32) = true := ha
    rw [Bool.and_eq_true] at ha
    obtain ⟨v, rfl⟩ := natural_nat ha.2
    exact ⟨_, _, rfl, .poke (by rw [← e0, e]) (by rw [← e1, e]) (by rw [← e, e2]; rfl), by omega, by omega, hd⟩
  by_cases h2 : j = 2
  · subst h2
    unfold PyFlat.call at h
    dsimp only at h
    rw [show PySf58.shape 2 = some (3, 1) from rfl] at h
    dsimp only at h
    by_cases hn : r.length < 3
    · rw [if_pos hn] at h; cases h
    · rw [if_neg hn] at h
      obtain ⟨a, b, c, ea, e0, e1, e2⟩ := take3 hn
      have hlen : r.length = ns.length - (p + 1) := by rw [hr, List.length_drop]
      unfold PyFlat.rows at h
      cases hd : r.drop 3 with
      | nil => rw [hd] at h; simp [PyFlat.row] at h
      | cons m r4 =>
        rw [hd] at h
        unfold PyFlat.row at h
        dsimp only at h
        by_cases hm : 0 ≤ m ∧ m.toNat ≤ r4.length
        · rw [if_pos hm] at h
          unfold PyFlat.rows at h
          dsimp only at h
          have h := Option.some.inj h
          obtain ⟨q1, q2⟩ := Prod.mk.inj h
          subst q1
          rw [ea] at ha ⊢
          have hr4 : r4 = ns.drop (p + 5) := by
            have : r4 = (r.drop 3).drop 1 := by rw [hd]; rfl
            rw [this, hr, List.drop_drop, List.drop_drop]
          have e3 : ns[p + 4]? = some m := by
            have : (r.drop 3)[0]? = some m := by rw [hd]; rfl
            rw [List.getElem?_drop, e] at this
            exact this
          have hl4 : r4.length = ns.length - (p + 5) := by rw [hr4, List.length_drop]
          have hlt : p + 4 < ns.length := (List.getElem?_eq_some_iff.mp e3).1
          have ha : (Sf58Neutral.natural a 32 && Sf58Neutral.natural b 32 && Sf58Neutral.natural c 32 && Sf58Neutral.rowOk (Sf58Neutral.within 0 65535) ((r4.take m.toNat).length : Int) (r4.take m.toNat) && (((r4.take m.toNat).length : Int) == c || ((r4.take m.toNat).isEmpty && (decide (39 < a) || decide (1024 < b + c))))) = true := ha
          simp only [Bool.and_eq_true] at ha
          obtain ⟨⟨⟨⟨a1, a2⟩, a3⟩, a4⟩, a5⟩ := ha
          obtain ⟨a, rfl⟩ := natural_nat a1
          obtain ⟨b, rfl⟩ := natural_nat a2
          obtain ⟨c, rfl⟩ := natural_nat a3
          have hll : (r4.take m.toNat).length = m.toNat := by rw [List.length_take]; omega
          refine ⟨_, p + 1 + 4 + (r4.take m.toNat).length, rfl, .load (b := a) (a := b) (n := c) (l := r4.take m.toNat) (by rw [← e0, e]) (by rw [← e1, e]) (by rw [← e2, e]) ?_ ?_ ?_ ?_ ?_, ?_, ?_, ?_⟩
          · rw [show p + 1 + 3 = p + 4 by omega, e3, hll, Int.toNat_of_nonneg hm.1]
          · rw [show p + 1 + 4 = p + 5 by omega, hll, hr4]
          · omega
          · intro x hx
            unfold Sf58Neutral.rowOk at a4
            rw [Bool.and_eq_true, List.all_eq_true] at a4
            have := a4.2 x hx
            unfold Sf58Neutral.within at this
            rw [Bool.and_eq_true] at this
            exact ⟨of_decide_eq_true this.1, of_decide_eq_true this.2⟩
          · rw [Bool.or_eq_true] at a5
            rcases a5 with a5 | a5
            · left
              have := beq_iff_eq.mp a5
              omega
            · right
              rw [Bool.and_eq_true, Bool.or_eq_true] at a5
              refine ⟨List.isEmpty_iff.mp a5.1, ?_⟩
              rcases a5.2 with z | z
              · left; have := of_decide_eq_true z; omega
              · right; have := of_decide_eq_true z; omega
          · omega
          · omega
          · rw [hll, ← q2, hr4, List.drop_drop, show p + 1 + 4 + m.toNat = p + 5 + m.toNat by omega]
        · rw [if_neg hm] at h; cases h
  · exfalso
    have hs : PySf58.shape j = none := by
      unfold PySf58.shape
      rw [if_neg h1, if_neg h2, if_neg h3, if_neg h4, if_neg h5, if_neg h6, if_neg h7, if_neg h8, if_neg h9]
    unfold PyFlat.call at h
    dsimp only at h
    rw [hs] at h
    cases h
/-- the line's next call -/
theorem next_call {ns : List Int} {p f : Nat} {cs : List (List (List Int))} (hp : p < ns.length) (h : PyFlat.calls PySf58.shape f (ns.drop p) = some cs) (ha : ∀ c ∈ cs.map PySf58.whole, Sf58Neutral.asked1 c = true) :
    ∃ (j : Int) (q : List (List Int)) (cs' : List (List (List Int))) (c : Sf58.Call) (p' f' : Nat), ns[p]? = some j ∧ cs = q :: cs' ∧ Sf58Neutral.callOf (PySf58.whole q) = some c ∧ Args ns (p + 1) j c p' ∧ p' ≤ ns.length ∧ p < p' ∧ PyFlat.calls PySf58.shape f' (ns.drop p') = some cs' := by
  obtain ⟨j, hj⟩ : ∃ j, ns[p]? = some j := ⟨ns[p], List.getElem?_eq_getElem hp⟩
  have hd : ns.drop p = j :: ns.drop (p + 1) := by
    rw [List.drop_eq_getElem_cons hp]
    rw [List.getElem?_eq_getElem hp] at hj
    rw [Option.some.inj hj]
  rw [hd] at h
  cases f with
  | zero => simp [PyFlat.calls] at h
  | succ f =>
    unfold PyFlat.calls at h
    cases hc : PyFlat.call PySf58.shape (j :: ns.drop (p + 1)) with
    | none => rw [hc] at h; cases h
    | some x =>
      obtain ⟨q, t⟩ := x
      rw [hc] at h
      dsimp only at h
      cases ht : PyFlat.calls PySf58.shape f t with
      | none => rw [ht] at h; cases h
      | some cs' =>
        rw [ht] at h
        have h := Option.some.inj h
        subst h
        obtain ⟨c, p', h1, h2, h3, h4, h5⟩ := off rfl hp hc (ha _ List.mem_cons_self)
        exact ⟨j, q, cs', c, p', f, hj, rfl, h1, h2, h3, h4, by rw [← h5]; exact ht⟩
theorem no_call {ns : List Int} {p f : Nat} {cs : List (List (List Int))} (hp : ns.length ≤ p) (h : PyFlat.calls PySf58.shape f (ns.drop p) = some cs) : cs = [] := by
  rw [List.drop_eq_nil_of_le hp] at h
  cases f <;> · simp [PyFlat.calls] at h; exact h
/-- what a line's rest is answered -/
def tell (s : Sf58.St) (cs : List (List (List Int))) : List Int := PyFlat.told (PyFlat.played Sf58Neutral.step s (cs.map PySf58.whole))
theorem tell_nil (s : Sf58.St) : tell s [] = [] := rfl
theorem tell_cons {s : Sf58.St} {q : List (List Int)} {cs : List (List (List Int))} {c : Sf58.Call} (h : Sf58Neutral.callOf (PySf58.whole q) = some c) : tell s (q :: cs) = [1, (Sf58.spec s c).2.value] ++ tell (Sf58.spec s c).1 cs := by
  have e : Sf58Neutral.step s (PySf58.whole q) = ((Sf58.spec s c).1, [(Sf58.spec s c).2.value]) := by
    unfold Sf58Neutral.step
    rw [h]
    rfl
  unfold tell
  rw [List.map_cons]
  show PyFlat.told ((Sf58Neutral.step s (PySf58.whole q)).2 :: PyFlat.played Sf58Neutral.step (Sf58Neutral.step s (PySf58.whole q)).1 (cs.map PySf58.whole)) = _
  rw [e]
  rfl
theorem asked_line {ns : List Int} (h : PySf58.answers_asked ns = true) : ∃ cs, PyFlat.calls PySf58.shape ns.length ns = some cs ∧ (∀ c ∈ cs.map PySf58.whole, Sf58Neutral.asked1 c = true) ∧ cs.length ≤ 300 ∧ PySf58.answers ns = tell Sf58.blank cs := by
  unfold PySf58.answers_asked PySf58.calls at h
  unfold PySf58.answers PySf58.calls
  cases hc : PyFlat.calls PySf58.shape ns.length ns with
  | none => rw [hc] at h; cases h
  | some cs =>
    rw [hc] at h
    dsimp only at h
    rw [Bool.and_eq_true] at h
    obtain ⟨h1, h2⟩ := h
    unfold PyFlat.atMost at h1
    have h1 := of_decide_eq_true h1
    rw [List.length_map] at h1
    unfold Sf58Neutral.asked at h2
    simp only [Bool.and_eq_true, List.all_eq_true] at h2
    exact ⟨cs, rfl, h2.1.2.1, h1, rfl⟩
end Fb

set_option Elab.async false
set_option linter.all false
set_option maxRecDepth 100000
set_option maxHeartbeats 4000000
namespace Fb
open PySem L2

/-! ### tests -/
theorem iteD {c A B : Prop} [Decidable c] (h1 : c → A) (h2 : ¬ c → B) : if decide c = true then A else B := by
  by_cases h : c
  · rw [decide_eq_true h]; exact iteT (h1 h)
  · rw [decide_eq_false h]; exact iteF (h2 h)
theorem iteDN {c A B : Prop} [Decidable c] (h1 : ¬ c → A) (h2 : c → B) : if (!decide c) = true then A else B := by
  by_cases h : c
  · rw [decide_eq_true h]; exact iteF (h2 h)
  · rw [decide_eq_false h]; exact iteT (h1 h)
theorem iteI {x y : Int} {A B : Prop} (h1 : x = y → A) (h2 : ¬ x = y → B) : if decide (V.int x = V.int y) = true then A else B :=
  iteD (fun h => h1 (V.int.inj h)) fun h => h2 fun e => h (by rw [e])
theorem iteN {x y : Int} {A B : Prop} (h1 : ¬ x = y → A) (h2 : x = y → B) : if (!decide (V.int x = V.int y)) = true then A else B :=
  iteDN (fun h => h1 fun e => h (by rw [e])) fun h => h2 (V.int.inj h)
theorem iteB {b : Bool} {A B : Prop} (h1 : b = true → A) (h2 : b = false → B) : if b = true then A else B := by
  cases b with
  | true => exact iteT (h1 rfl)
  | false => exact iteF (h2 rfl)
theorem iteBN {b : Bool} {A B : Prop} (h1 : b = false → A) (h2 : b = true → B) : if (!b) = true then A else B := by
  cases b with
  | true => exact iteF (h2 rfl)
  | false => exact iteT (h1 rfl)
/-- the truth of an int -/
theorem iteZ {i : Int} {A B : Prop} (h1 : ¬ i = 0 → A) (h2 : i = 0 → B) : if (i != 0) = true then A else B :=
  iteB (fun h => h1 (by simpa using h)) fun h => h2 (by simpa using h)

/-! ### defs of the text -/
/-- the global x is the int n -/
def GI (mg : Str → Option Value) (x : Str) (n : Int) : Prop := ∃ t, mg x = some (.int n t)
/-- the global x is the def that stands at st -/
structure Def (K : PySem.W.Frag) (mg : Str → Option Value) (x : Str) (st : Stmt) : Prop where
  ex : ∃ f fd, mg x = some (.ref f) ∧ Fun K x x st f fd
/-- what a call of f wants and promises -/
structure Cal (P : Program) (w : World) (K : PySem.W.Frag) (mg : Str → Option Value) (base : Heap) (k : Nat) (f : Addr) (ps : List Str) (sp : Sp) : Prop where
  ex : ∃ fd, PySem.W.keepIn K (.ref f) = true ∧ Binds K fd ps [] ∧ FnOk P w K mg base CX0 k f fd ps sp
structure Has (P : Program) (w : World) (K : PySem.W.Frag) (mg : Str → Option Value) (base : Heap) (k : Nat) (x : Str) (ps : List Str) (sp : Sp) : Prop where
  ex : ∃ f, mg x = some (.ref f) ∧ Cal P w K mg base k f ps sp
section
variable {P : Program} {w : World} {K : PySem.W.Frag} {mg : Str → Option Value} {base : Heap} {k : Nat} {x : Str} {ps : List Str} {sp sp' : Sp}
theorem Has.imp (h : Has P w K mg base k x ps sp) (i : ∀ vs H Q E, sp' vs H Q E → sp vs H Q E) : Has P w K mg base k x ps sp' := by
  obtain ⟨f, hm, fd, hk, hb, F⟩ := h
  exact ⟨f, hm, fd, hk, hb, F.imp i⟩
theorem Has.mono {j : Nat} (h : Has P w K mg base j x ps sp) (hj : j ≤ k) : Has P w K mg base k x ps sp := by
  obtain ⟨f, hm, fd, hk, hb, F⟩ := h
  exact ⟨f, hm, fd, hk, hb, F.mono hj⟩
theorem Has.cal (h : Has P w K mg base k x ps sp) {f : Addr} (e : mg x = some (.ref f)) : Cal P w K mg base k f ps sp := by
  obtain ⟨g, hm, c⟩ := h
  rw [hm] at e
  cases e
  exact c
theorem mkHas {st : Stmt} {N : List Str} (D : Def K mg x st) (S : FnScope N ps (defScope st))
    (b : ∀ (kV doc pm : Value) (an : Option Addr) (cdv ct : Value) (us : List Value), us.length = ps.length → bindArgs (PySem.W.fnOf x x (defArgs st) (defBody st) (defScope st) .none kV doc pm an cdv ct) ⟨us, []⟩ = pure (ps.zip us))
    (len : ∀ vs H Q E, sp vs H Q E → vs.length = ps.length)
    (hbody : ∀ (f : Addr) (cdv : Value) (A : Around) (outer : List Env) (s : Shared) (H : Hp) (vs : List V) (Q : VK) (E : XK), Room k (A.deeper (PyProof.Rows.envOfC x (defScope st) s.heap.objs.size f cdv)) → sp vs H Q E →
      ∃ t, PSs (cxOf CX0 P w K mg base N x (defScope st) f cdv A outer s H E).nox (defBody st) t ∧ t { nx := fun _ H' => Q .non H', rt := Q } (start N vs) H) : Has P w K mg base (k + 1) x ps sp := by
  obtain ⟨f, fd, hm, F⟩ := D
  exact ⟨f, hm, fd, F.kp, F.binds b, F.ok S len (hbody f)⟩
end
section
variable {X : Cx}
theorem pgi {x : Str} {n : Int} {pos : Pos} (g : GI X.mg x n) (hg : Gl X x := by rfl) (hd : (x == ("__debug__" : Str)) = false := by decide) : PE X (.Name x pos) (tC (.int n)) := by
  obtain ⟨t, e⟩ := g
  exact pe_glob hg e ⟨t, rfl⟩ hd
/-- f(e, ..), f a def of the text -/
theorem pc {j k : Nat} {x : Str} {ps : List Str} {sp : Sp} {p pos : Pos} {e : Expr} {es : List Expr} {t : TA} (h : Has X.prog X.w X.K X.mg X.base j x ps sp) (hr : Room k X.A) (ha : PA X (e :: es) t) (hj : j ≤ k := by decide)
    (hg : Gl X x := by rfl) (hx : Passes CX0 X E0 := by exact pass0) (hdb : (x == ("__debug__" : Str)) = false := by decide) (he : starEach (e :: es) X.env = (false, eval e X.env) :: starEach es X.env := by rfl) (hpl : (backTo pos (starEach es X.env)).any (·.1) = false := by rfl) :
    PE X (.Call (.Name x p) (e :: es) [] pos) (tCall sp [] E0 t) := by
  obtain ⟨f, hm, fd, hk, hb, F⟩ := h
  exact pe_call F (hr.mono hj) hg hm hk hb .nil hx ha hdb he hpl
/-- the callee a value -/
def tCV (X : Cx) (k : Nat) (tf : TE) (t : TA) : TE := fun σ H Q => tf σ H fun v H1 => ∃ f ps sp, v = .ref f ∧ Cal X.prog X.w X.K X.mg X.base k f ps sp ∧ t σ H1 fun vs H2 => sp (vs ++ []) H2 Q E0
theorem pcV {k : Nat} {fe e : Expr} {es : List Expr} {tf : TE} {t : TA} {pos : Pos} (hf : PE X fe tf) (hr : Room k X.A) (ha : PA X (e :: es) t) (hx : Passes CX0 X E0 := by exact pass0)
    (hev : eval (.Call fe (e :: es) [] pos) X.env = (do callWith pos (← eval fe X.env) [] (backTo pos (starEach (e :: es) X.env)) (backToKw pos (keywordEach [] X.env))) := by rfl)
    (he : starEach (e :: es) X.env = (false, eval e X.env) :: starEach es X.env := by rfl) (hpl : (backTo pos (starEach es X.env)).any (·.1) = false := by rfl) : PE X (.Call fe (e :: es) [] pos) (tCV X k tf t) := by
  intro pins s σ H Q I h
  refine PyProof.Rows.Call_ (thn (hf pins s σ H _ I h) fun v s1 ⟨x, H1, I1, r1, f, ps, sp, ex, c, q⟩ => ?_) hev
  subst ex
  obtain rfl : v = Value.ref f := r1
  obtain ⟨fd, hk, hb, F⟩ := c
  refine PySem.W.callWith_K (h₀ := X.base) I1.ok.mod.kin hk (thn (ha pos pins s1 σ H1 _ I1 q) fun us s2 ⟨vs, H2, I2, r, q2⟩ => ⟨I2.kIn, ?_⟩) he hpl
  exact run_fn F hr hb .nil hx I2 r q2
end

/-! ### tuples and dicts of the text's top -/
/-- the global x is a tuple of the defs named -/
def Tup (K : PySem.W.Frag) (mg : Str → Option Value) (x : Str) (ns : List Str) : Prop :=
  ∃ (a : Addr) (fs : List Addr), mg x = some (.ref a) ∧ (∃ (o : Obj) (its : Array Value) (n : Nat), K.lookup a = some o ∧ o.cls = .type "tuple" ∧ o.data = .seq its n ∧ its.toList = fs.map Value.ref) ∧ Paired (fun n f => mg n = some (.ref f)) ns fs
theorem paired_get {α β : Type} {R : α → β → Prop} : ∀ {xs : List α} {ys : List β} {i : Nat} {x : α}, Paired R xs ys → xs[i]? = some x → ∃ y, ys[i]? = some y ∧ R x y
  | _, _, _, _, .nil, e => by simp at e
  | _, _, 0, _, .cons r _, e => by simp at e; subst e; exact ⟨_, rfl, r⟩
  | _, _, i + 1, x, .cons _ t, e => by
    obtain ⟨u, h1, h2⟩ := paired_get (i := i) (x := x) t (by simpa using e)
    exact ⟨u, by simpa using h1, h2⟩
theorem vals_refs : ∀ fs : List Addr, Vals (fs.map V.ref) (fs.map Value.ref)
  | [] => .nil
  | f :: r => .cons rfl (vals_refs r)
theorem paired_len {α β : Type} {R : α → β → Prop} : ∀ {xs : List α} {ys : List β}, Paired R xs ys → xs.length = ys.length
  | _, _, .nil => rfl
  | _, _, .cons _ t => by simp [paired_len t]
def tTix (mg : Str → Option Value) (ns : List Str) (ti : TE) : TE := fun σ H Q => ti σ H fun y H1 => ∃ (j : Int) (n : Nat) (nm : Str), y = .int j ∧ j = n ∧ ns[n]? = some nm ∧ ∀ f, mg nm = some (.ref f) → Q (.ref f) H1
theorem pe_tix {X : Cx} {x : Str} {ns : List Str} {p pos : Pos} {i : Expr} {ti : TE} (T : Tup X.K X.mg x ns) (hl : ns.length ≤ 100) (hi : PE X i ti) (hs : PlainIx i) (hg : Gl X x := by rfl) (hd : (x == ("__debug__" : Str)) = false := by decide) :
    PE X (.Subscript (.Name x p) i pos) (tTix X.mg ns ti) := by
  obtain ⟨a, fs, hm, ⟨o, its, n, hk, hc, hdt, hit⟩, pr⟩ := T
  intro pins s σ H Q I h
  have hlen := paired_len pr
  refine PyProof.Rows.Subscript_ (thn ((pe_glob (X := X) (pos := p) (v := .ref a) hg hm rfl hd) pins s σ H (fun v H1 => v = .ref a ∧ tTix X.mg ns ti σ H1 Q) I ⟨rfl, h⟩) fun v s1 ⟨x1, H1, I1, r1, ex, q1⟩ =>
    thn (hi pins s1 σ H1 _ I1 q1) fun u s2 ⟨y, H2, I2, r2, j, k, nm, ey, ej, en, q⟩ => ?_)
  subst ex ey
  obtain ⟨f, ef, hf⟩ := paired_get pr en
  refine ix_tup (.Name x p) i pins s2 σ H2 (.ref a) (.int j) v u Q I2 r1 r2 ⟨a, fs.map V.ref, j, .ref f, rfl, rfl, .inr ⟨o, its, n, hk, hc, hdt, ?_, ?_⟩, at_of ej ?_, q f hf⟩ (hs _ _)
  · rw [← Array.length_toList, hit, List.length_map, ← hlen, sizeLine_eq]; omega
  · rw [hit]; exact vals_refs fs
  · rw [List.getElem?_map, ef]; rfl

/-- an entry of a dict of the top -/
def KE (p : Key × V) (e : DictEntry) : Prop := (∃ i : Int, p.1 = .inl i ∧ e.hash = hashInt i ∧ ∃ t, e.key = .int i t) ∧ RelV p.2 e.val
/-- the global x is a dict of these pairs -/
def KD (K : PySem.W.Frag) (mg : Str → Option Value) (x : Str) (kvs : List (Key × V)) : Prop :=
  ∃ a, mg x = some (.ref a) ∧ (a == sysModules) = false ∧ (∃ (o : Obj) (es : Array DictEntry) (ep : Nat), K.lookup a = some o ∧ o.ExactDict ∧ o.data = .dict es ep ∧ Paired KE kvs es.toList) ∧ (kvs.map (·.1)).Nodup
theorem kd_pairs {P : Program} {w : World} : ∀ {kvs : List (Key × V)} {es : List DictEntry}, Paired KE kvs es → ∃ vs : List (Key × Value), KV kvs vs ∧ Pairs (mixKind P w) es vs ∧ vs.map (·.1) = kvs.map (·.1) ∧ ∀ e ∈ es, ∃ k, (mixKind P w).is k e.key = true ∧ e.hash = (mixKind P w).hash k
  | _, _, .nil => ⟨[], Paired.nil, .nil, rfl, fun _ h => nomatch h⟩
  | p :: _, e :: _, .cons ⟨⟨i, hp, hh, t, hk⟩, hv⟩ r => by
    obtain ⟨vs, h1, h2, h3, h4⟩ := kd_pairs r
    refine ⟨(p.1, e.val) :: vs, Paired.cons ⟨rfl, hv⟩ h1, .cons (by rw [hp, hk]; exact mixKind_int P w i t) rfl h2, by rw [List.map_cons, List.map_cons, h3], fun e' he => ?_⟩
    rcases List.mem_cons.mp he with q | q
    · subst q; exact ⟨.inl i, by rw [hk]; exact mixKind_int P w i t, hh⟩
    · exact h4 e' q
theorem kd_at {X : Cx} {pins : List (Addr × Obj)} {σ : L2.St} {H : Hp} {s : Shared} {a : Addr} {kvs : List (Key × V)} (I : Inv X pins σ H s) (h : ∃ (o : Obj) (es : Array DictEntry) (ep : Nat), X.K.lookup a = some o ∧ o.ExactDict ∧ o.data = .dict es ep ∧ Paired KE kvs es.toList)
    (nd : (kvs.map (·.1)).Nodup) : ∃ vs, KV kvs vs ∧ s.heap.DictOf (mixKind X.prog X.w) a vs := by
  obtain ⟨o, es, ep, hk, he, hd, pr⟩ := h
  obtain ⟨vs, h1, h2, h3, h4⟩ := kd_pairs (P := X.prog) (w := X.w) pr
  exact ⟨vs, h1, o, es, ep, I.kIn _ _ hk, he, hd, fun e hm => h4 e (by simpa using hm), h2, by rw [h3]; exact nd⟩
def tKg (kvs : List (Key × V)) (ti : TE) : TE := fun σ H Q => ti σ H fun y H1 => ∃ (n : Int) (v : V), y = .int n ∧ valV kvs (Sum.inl n : Key) = some v ∧ Q v H1
theorem pe_kget {X : Cx} {x : Str} {kvs : List (Key × V)} {p pos : Pos} {i : Expr} {ti : TE} (T : KD X.K X.mg x kvs) (hi : PE X i ti) (hs : NoSl i) (hg : Gl X x := by rfl) (hd : (x == ("__debug__" : Str)) = false := by decide) :
    PE X (.Subscript (.Name x p) i pos) (tKg kvs ti) := by
  obtain ⟨a, hm, hS, hK, nd⟩ := T
  intro pins s σ H Q I h
  refine subD_of PySem.F.slot_dict_getitem.lookup hs (thn ((pe_glob (X := X) (pos := p) (v := .ref a) hg hm rfl hd) pins s σ H (fun v H1 => v = .ref a ∧ tKg kvs ti σ H1 Q) I ⟨rfl, h⟩) fun u s1 ⟨x1, H1, I1, r1, ex, q1⟩ =>
    thn (hi pins s1 σ H1 _ I1 q1) fun iv s2 ⟨y, H2, I2, r2, n, v, ey, ev, q⟩ => ?_)
  subst ex ey
  obtain rfl : u = Value.ref a := r1
  obtain ⟨vs, rel, dd⟩ := kd_at I2 hK nd
  obtain ⟨w', hw, rw'⟩ := RelO.some_of (v := v) (o := valueAt vs (Sum.inl n : Key)) (by rw [← ev]; exact rel.val _)
  exact ⟨dd.typeIs, wpAny_getItem_of (kV_is (k := Sum.inl n) r2) dd.mapOf hw ⟨v, H2, I2.tok _, rw', q⟩⟩
def tKin (kvs : List (Key × V)) (ti : TE) : TE := fun σ H Q => ti σ H fun y H1 => ∃ n : Int, y = .int n ∧ Q (.bl (valV kvs (Sum.inl n : Key)).isSome) H1
theorem pc_kin {X : Cx} {x : Str} {kvs : List (Key × V)} {p : Pos} {i : Expr} {ti : TE} (T : KD X.K X.mg x kvs) (hi : PE X i ti) (hg : Gl X x := by rfl) (hd : (x == ("__debug__" : Str)) = false := by decide) :
    PC X .In i (.Name x p) (tKin kvs ti) := by
  obtain ⟨a, hm, hS, hK, nd⟩ := T
  intro pins s σ H Q I h
  refine thn (hi pins s σ H _ I h) fun iv s1 ⟨y, H1, I1, ry, n, ey, q1⟩ => thn ((pe_glob (X := X) (pos := p) (v := .ref a) hg hm rfl hd) pins s1 σ H1 (fun v H2 => v = .ref a ∧ Q (.bl (valV kvs (Sum.inl n : Key)).isSome) H2) I1 ⟨rfl, q1⟩) fun u s2 ⟨x2, H2, I2, r2, ex, q⟩ => ?_
  subst ex ey
  obtain rfl : u = Value.ref a := r2
  obtain ⟨vs, rel, dd⟩ := kd_at I2 hK nd
  refine wpAny_in_of (kV_is (k := Sum.inl n) ry) hS dd.mapOf ?_
  rw [← (rel.val (Sum.inl n : Key)).isSome_eq]
  exact ⟨.bl (valV kvs (Sum.inl n : Key)).isSome, H2, I2.tok _, rfl, q⟩

/-! ### attributes by place -/
theorem lookup_zip : ∀ {ns : List Str} {vs : List V} {i : Nat} {n : Str} {v : V}, ns.Nodup → ns[i]? = some n → vs[i]? = some v → (ns.zip vs).lookup n = some v
  | [], _, _, _, _, _, h, _ => by simp at h
  | _ :: _, [], _, _, _, _, _, h => by simp at h
  | m :: ns, u :: vs, 0, n, v, nd, h1, h2 => by
    simp at h1 h2; subst h1; subst h2
    show List.lookup m ((m, u) :: ns.zip vs) = _
    have hb : (m == m) = true := beq_iff_eq.mpr rfl
    simp only [List.lookup, hb]
  | m :: ns, u :: vs, i + 1, n, v, nd, h1, h2 => by
    obtain ⟨nm, nd'⟩ := List.nodup_cons.mp nd
    have h1' : ns[i]? = some n := by simpa using h1
    have hn : n ≠ m := fun e => nm (by rw [← e]; exact List.mem_of_getElem? h1')
    have hb : (n == m) = false := beq_eq_false_iff_ne.mpr hn
    show List.lookup n ((m, u) :: ns.zip vs) = _
    simp only [List.lookup, hb]
    exact lookup_zip nd' h1' (by simpa using h2)
theorem lookup_zip_no : ∀ {ns : List Str} {vs : List V} {n : Str}, n ∉ ns → (ns.zip vs).lookup n = none
  | [], _, _, _ => by simp
  | _ :: _, [], _, _ => by simp
  | m :: ns, u :: vs, n, h => by
    have hn : n ≠ m := fun e => h (by rw [e]; exact List.mem_cons_self)
    have hb : (n == m) = false := beq_eq_false_iff_ne.mpr hn
    show List.lookup n ((m, u) :: ns.zip vs) = _
    simp only [List.lookup, hb]
    exact lookup_zip_no fun q => h (List.mem_cons_of_mem _ q)
theorem putF_zip {v : V} : ∀ {ns : List Str} {vs : List V} {i : Nat} {n : Str}, ns.Nodup → ns[i]? = some n → i < vs.length → putF n v (ns.zip vs) = ns.zip (vs.set i v)
  | [], _, _, _, _, h, _ => by simp at h
  | _ :: _, [], _, _, _, _, h => by simp at h
  | m :: ns, u :: vs, 0, n, nd, h1, h2 => by
    simp at h1; subst h1
    show (if m = m then (m, v) :: ns.zip vs else _) = _
    rw [if_pos rfl]; rfl
  | m :: ns, u :: vs, i + 1, n, nd, h1, h2 => by
    obtain ⟨nm, nd'⟩ := List.nodup_cons.mp nd
    have h1' : ns[i]? = some n := by simpa using h1
    have hn : ¬ m = n := fun e => nm (by rw [e]; exact List.mem_of_getElem? h1')
    show (if m = n then _ else (m, u) :: putF n v (ns.zip vs)) = _
    rw [if_neg hn, putF_zip nd' h1' (by simpa using h2)]; rfl
theorem putF_new {n : Str} {v : V} : ∀ {fs : List (Str × V)}, n ∉ fs.map (·.1) → putF n v fs = fs ++ [(n, v)]
  | [], _ => rfl
  | (m, u) :: r, h => by
    have hn : ¬ m = n := fun e => h (by rw [← e]; exact List.mem_cons_self)
    show (if m = n then _ else (m, u) :: putF n v r) = _
    rw [if_neg hn, putF_new fun q => h (List.mem_cons_of_mem _ q)]; rfl
/-- the attributes stored one behind another, in order -/
def puts (fs : List (Str × V)) (l : List (Str × V)) : List (Str × V) := l.foldl (fun acc p => putF p.1 p.2 acc) fs
theorem puts_new : ∀ {l fs : List (Str × V)}, (l.map (·.1)).Nodup → (∀ n ∈ l.map (·.1), n ∉ fs.map (·.1)) → puts fs l = fs ++ l
  | [], fs, _, _ => by simp [puts]
  | p :: l, fs, nd, h => by
    have nd : (p.1 :: l.map (·.1)).Nodup := nd
    obtain ⟨n1, n2⟩ := List.nodup_cons.mp nd
    show puts (putF p.1 p.2 fs) l = _
    rw [putF_new (h p.1 (List.mem_cons_self)), puts_new n2 ?_, List.append_assoc]; rfl
    intro n hn
    rw [List.map_append, List.mem_append]
    rintro (q | q)
    · exact h n (List.mem_cons_of_mem _ hn) q
    · have e : n = p.1 := by simpa using q
      exact n1 (by rw [← e]; exact hn)
theorem puts_old : ∀ {ns done : List Str} {us vs dv : List V}, (done ++ ns).Nodup → dv.length = done.length → us.length = ns.length → vs.length = ns.length → puts ((done ++ ns).zip (dv ++ us)) (ns.zip vs) = (done ++ ns).zip (dv ++ vs)
  | [], done, us, vs, dv, nd, h0, h1, h2 => by
    have e1 : us = [] := List.eq_nil_of_length_eq_zero h1
    have e2 : vs = [] := List.eq_nil_of_length_eq_zero h2
    subst e1 e2; rfl
  | n :: ns, done, [], vs, dv, nd, h0, h1, h2 => by simp at h1
  | n :: ns, done, _ :: _, [], dv, nd, h0, h1, h2 => by simp at h2
  | n :: ns, done, u :: us, v :: vs, dv, nd, h0, h1, h2 => by
    show puts (putF n v ((done ++ n :: ns).zip (dv ++ u :: us))) (ns.zip vs) = _
    rw [putF_zip (i := done.length) nd (by simp) (by simp [h0])]
    have e : (dv ++ u :: us).set done.length v = (dv ++ [v]) ++ us := by rw [← h0]; simp
    have e1 : done ++ n :: ns = (done ++ [n]) ++ ns := by simp
    have e2 : dv ++ v :: vs = (dv ++ [v]) ++ vs := by simp
    rw [e, e1, e2]
    exact puts_old (by rw [← e1]; exact nd) (by simp [h0]) (by simpa using h1) (by simpa using h2)

/-! ### the machine -/
def names : List Str := ["a", "l", "q", "eb", "fb", "z", "changing", "staying", "channels", "barred", "serving", "asked", "extended", "index_word", "instead"]
theorem names_nd : names.Nodup := by decide +kernel
def instV : Option Nat → V
  | none => .non
  | some x => .int (x : Nat)
def memV (f : Nat → Nat) (n : Nat) : List V := (List.range n).map fun i => V.int (f i : Nat)
theorem memV_len (f : Nat → Nat) (n : Nat) : (memV f n).length = n := by unfold memV; rw [List.length_map, List.length_range]
theorem memV_get {f : Nat → Nat} {n j : Nat} (h : j < n) : (memV f n)[j]? = some (.int (f j : Nat)) := by
  unfold memV
  rw [List.getElem?_map, List.getElem?_range h]; rfl
theorem memV_set {f : Nat → Nat} {n j x : Nat} : (memV f n).set j (.int (x : Nat)) = memV (fun i => if i = j then x else f i) n := by
  apply List.ext_getElem?
  intro i
  by_cases hi : i < n
  · rw [memV_get hi]
    by_cases e : j = i
    · subst e
      rw [List.getElem?_set_self (by rw [memV_len]; exact hi), if_pos rfl]
    · rw [List.getElem?_set_ne e, memV_get hi, if_neg fun q => e q.symm]
  · rw [List.getElem?_eq_none (by rw [List.length_set, memV_len]; omega), List.getElem?_eq_none (by rw [memV_len]; omega)]
theorem memV_zero (n : Nat) : List.replicate n (V.int 0) = memV (fun _ => 0) n := by
  apply List.ext_getElem?
  intro i
  by_cases hi : i < n
  · rw [memV_get hi, List.getElem?_replicate, if_pos hi]; rfl
  · rw [List.getElem?_eq_none (by rw [List.length_replicate]; omega), List.getElem?_eq_none (by rw [memV_len]; omega)]
def vals (s : Sf58.St) (pc ps ph : Addr) : List V :=
  [.int (s.a : Nat), .int (s.l : Nat), .int (s.q : Nat), .int (s.eb : Nat), .int (s.fb : Nat), .int (s.z : Nat), .ref pc, .ref ps, .ref ph, .bl s.shut, .bl s.serving, .int (bits s.waiting : Nat), .bl s.extend, .int (s.index : Nat), instV s.instead]
structure Parts (C : Addr) (H : Hp) (m dx pc ps ph : Addr) (s : Sf58.St) : Prop where
  ob : H m = some (.ins C dx (names.zip (vals s pc ps ph)))
  c : H pc = some (.lst (memV s.erase 2048))
  f : H ps = some (.lst (memV s.fixed 40960))
  h : H ph = some (.lst (memV s.chans 512))
/-- a machine stands at m, in the state s -/
structure MachAt (C : Addr) (H : Hp) (m : Addr) (s : Sf58.St) : Prop where
  ex : ∃ dx pc ps ph, Parts C H m dx pc ps ph s
  good : Good s
def fldV (H : Hp) (m : Addr) (i : Nat) : V := match H m with
  | some (.ins _ _ fs) => (fs[i]?.map (·.2)).getD .non
  | _ => .non
inductive MF where
  | a | l | q | eb | fb | z | changing | staying | channels | barred | serving | asked | extended | index_word | instead
def MF.ix : MF → Nat
  | .a => 0 | .l => 1 | .q => 2 | .eb => 3 | .fb => 4 | .z => 5 | .changing => 6 | .staying => 7 | .channels => 8 | .barred => 9 | .serving => 10 | .asked => 11 | .extended => 12 | .index_word => 13 | .instead => 14
def MF.nm : MF → Str
  | .a => "a" | .l => "l" | .q => "q" | .eb => "eb" | .fb => "fb" | .z => "z" | .changing => "changing" | .staying => "staying" | .channels => "channels" | .barred => "barred" | .serving => "serving" | .asked => "asked" | .extended => "extended" | .index_word => "index_word" | .instead => "instead"
def MF.val (H : Hp) (m : Addr) (s : Sf58.St) : MF → V
  | .a => .int (s.a : Nat) | .l => .int (s.l : Nat) | .q => .int (s.q : Nat) | .eb => .int (s.eb : Nat) | .fb => .int (s.fb : Nat) | .z => .int (s.z : Nat)
  | .changing => fldV H m 6 | .staying => fldV H m 7 | .channels => fldV H m 8
  | .barred => .bl s.shut | .serving => .bl s.serving | .asked => .int (bits s.waiting : Nat) | .extended => .bl s.extend | .index_word => .int (s.index : Nat) | .instead => instV s.instead
theorem MF.at (F : MF) : names[F.ix]? = some F.nm := by cases F <;> rfl
theorem MF.lt (F : MF) {s : Sf58.St} {pc ps ph : Addr} : F.ix < (vals s pc ps ph).length := by
  show F.ix < 15
  cases F <;> decide
theorem fldV_zip {H : Hp} {m C dx : Addr} {vs : List V} {i : Nat} (h : H m = some (.ins C dx (names.zip vs))) (hl : vs.length = 15) : fldV H m i = vs.getD i .non := by
  unfold fldV
  rw [h]
  show (((names.zip vs)[i]?).map (·.2)).getD .non = vs.getD i .non
  by_cases hi : i < 15
  · have e1 : i < names.length := hi
    have e2 : i < vs.length := by omega
    have e3 : (names.zip vs)[i]? = some (names[i], vs[i]) := by
      rw [List.getElem?_eq_getElem (by rw [List.length_zip]; omega), List.getElem_zip]
    rw [e3, List.getD_eq_getElem?_getD, List.getElem?_eq_getElem e2]; rfl
  · have e3 : (names.zip vs)[i]? = none := List.getElem?_eq_none (by rw [List.length_zip]; omega)
    rw [e3, List.getD_eq_getElem?_getD, List.getElem?_eq_none (by omega)]; rfl
section
variable {C : Addr} {H H1 : Hp} {m dx pc ps ph : Addr} {s : Sf58.St}
theorem Parts.v6 (p : Parts C H m dx pc ps ph s) : fldV H m 6 = .ref pc := fldV_zip p.ob rfl
theorem Parts.v7 (p : Parts C H m dx pc ps ph s) : fldV H m 7 = .ref ps := fldV_zip p.ob rfl
theorem Parts.v8 (p : Parts C H m dx pc ps ph s) : fldV H m 8 = .ref ph := fldV_zip p.ob rfl
theorem Parts.val (p : Parts C H m dx pc ps ph s) (F : MF) : (vals s pc ps ph)[F.ix]? = some (F.val H m s) := by
  cases F with
  | changing => show _ = some (fldV H m 6); rw [p.v6]; rfl
  | staying => show _ = some (fldV H m 7); rw [p.v7]; rfl
  | channels => show _ = some (fldV H m 8); rw [p.v8]; rfl
  | _ => rfl
theorem lst_ne {a b : Addr} {xs ys : List V} (h1 : H a = some (.lst xs)) (h2 : H b = some (.lst ys)) (hl : ¬ xs.length = ys.length) : a ≠ b :=
  ne_of h1 h2 fun z => hl (by injection z with z; rw [z])
theorem Parts.cf (p : Parts C H m dx pc ps ph s) : pc ≠ ps := lst_ne p.c p.f (by rw [memV_len, memV_len]; decide)
theorem Parts.ch (p : Parts C H m dx pc ps ph s) : pc ≠ ph := lst_ne p.c p.h (by rw [memV_len, memV_len]; decide)
theorem Parts.fh (p : Parts C H m dx pc ps ph s) : ps ≠ ph := lst_ne p.f p.h (by rw [memV_len, memV_len]; decide)
theorem Parts.mc (p : Parts C H m dx pc ps ph s) : m ≠ pc := ne_of p.ob p.c (fun z => nomatch z)
theorem Parts.mf (p : Parts C H m dx pc ps ph s) : m ≠ ps := ne_of p.ob p.f (fun z => nomatch z)
theorem Parts.mh (p : Parts C H m dx pc ps ph s) : m ≠ ph := ne_of p.ob p.h (fun z => nomatch z)
end
/-- what is the machine's own -/
def Own (H : Hp) (m b : Addr) : Prop := b = m ∨ ∃ i, fldV H m i = .ref b
/-- what is not the machine's own stays -/
structure Fr (m : Addr) (H H1 : Hp) : Prop where
  keep : ∀ b o, H b = some o → ¬ Own H m b → H1 b = some o
  own : ∀ b, Own H1 m b → Own H m b ∨ H b = none
theorem Fr.refl (m : Addr) (H : Hp) : Fr m H H := ⟨fun _ _ h _ => h, fun _ h => .inl h⟩
theorem Fr.trans {m : Addr} {H H1 H2 : Hp} (a : Fr m H H1) (b : Fr m H1 H2) : Fr m H H2 := by
  refine ⟨fun c o h n => b.keep c o (a.keep c o h n) fun q => ?_, fun c h => ?_⟩
  · rcases a.own c q with z | z
    · exact n z
    · rw [h] at z; cases z
  · rcases b.own c h with z | z
    · exact a.own c z
    · by_cases q : Own H m c
      · exact .inl q
      · cases e : H c with
        | none => exact .inr rfl
        | some o => rw [a.keep c o e q] at z; cases z
section
variable {C : Addr} {H H1 : Hp} {m dx pc ps ph : Addr} {s s' : Sf58.St}
theorem Parts.own (p : Parts C H m dx pc ps ph s) {b : Addr} : Own H m b ↔ b = m ∨ b = pc ∨ b = ps ∨ b = ph := by
  constructor
  · rintro (e | ⟨i, e⟩)
    · exact .inl e
    · rw [fldV_zip p.ob rfl] at e
      match i, e with
      | 6, e => exact .inr (.inl (V.ref.inj e).symm)
      | 7, e => exact .inr (.inr (.inl (V.ref.inj e).symm))
      | 8, e => exact .inr (.inr (.inr (V.ref.inj e).symm))
      | 0, e => exact nomatch e
      | 1, e => exact nomatch e
      | 2, e => exact nomatch e
      | 3, e => exact nomatch e
      | 4, e => exact nomatch e
      | 5, e => exact nomatch e
      | 9, e => exact nomatch e
      | 10, e => exact nomatch e
      | 11, e => exact nomatch e
      | 12, e => exact nomatch e
      | 13, e => exact nomatch e
      | 14, e =>
        have e : instV s.instead = .ref b := e
        cases q : s.instead with
        | none => rw [q] at e; exact nomatch e
        | some x => rw [q] at e; exact nomatch e
      | _ + 15, e => exact nomatch e
  · rintro (e | e | e | e)
    · exact .inl e
    · exact .inr ⟨6, by rw [e, p.v6]⟩
    · exact .inr ⟨7, by rw [e, p.v7]⟩
    · exact .inr ⟨8, by rw [e, p.v8]⟩
/-- a machine with the same parts elsewhere -/
theorem Parts.fr {dx' : Addr} (p : Parts C H m dx pc ps ph s) (p' : Parts C H1 m dx' pc ps ph s') (k : ∀ b o, H b = some o → b ≠ m → b ≠ pc → b ≠ ps → b ≠ ph → H1 b = some o) : Fr m H H1 := by
  refine ⟨fun b o h n => ?_, fun b h => .inl ?_⟩
  · rw [p.own] at n
    exact k b o h (fun e => n (.inl e)) (fun e => n (.inr (.inl e))) (fun e => n (.inr (.inr (.inl e)))) fun e => n (.inr (.inr (.inr e)))
  · rw [p.own]; rw [p'.own] at h; exact h
theorem MachAt.same (hM : MachAt C H m s) (k : Same H H1) : MachAt C H1 m s := by
  obtain ⟨⟨dx, pc, ps, ph, p⟩, g⟩ := hM
  exact ⟨⟨dx, pc, ps, ph, k _ _ p.ob, k _ _ p.c, k _ _ p.f, k _ _ p.h⟩, g⟩
theorem Fr.same (hM : MachAt C H m s) (k : Same H H1) : Fr m H H1 := by
  obtain ⟨⟨dx, pc, ps, ph, p⟩, g⟩ := hM
  have p' : Parts C H1 m dx pc ps ph s := ⟨k _ _ p.ob, k _ _ p.c, k _ _ p.f, k _ _ p.h⟩
  exact p.fr p' fun b o h _ _ _ _ => k b o h
/-- all that is not the machine's own stays, and so does it -/
theorem MachAt.stays (hM : MachAt C H m s) (k : ∀ b o, H b = some o → Own H m b → H1 b = some o) : MachAt C H1 m s := by
  obtain ⟨⟨dx, pc, ps, ph, p⟩, g⟩ := hM
  exact ⟨⟨dx, pc, ps, ph, k _ _ p.ob (.inl rfl), k _ _ p.c (p.own.mpr (.inr (.inl rfl))), k _ _ p.f (p.own.mpr (.inr (.inr (.inl rfl)))), k _ _ p.h (p.own.mpr (.inr (.inr (.inr rfl))))⟩, g⟩
theorem same_new {p : Addr} {o : HO} (h : H p = none) : Same H (upd H p o) := fun b u e => by rw [upd_ne (ne_of_none e h)]; exact e
end

/-! ### what a store of an attribute makes of the state -/
def SetTo (F : MF) (y : V) (s s' : Sf58.St) : Prop := match F with
  | .a => ∃ n : Nat, y = .int (n : Nat) ∧ n < 65536 ∧ s' = { s with a := n }
  | .l => ∃ n : Nat, y = .int (n : Nat) ∧ n < 32768 ∧ s' = { s with l := n }
  | .q => ∃ n : Nat, y = .int (n : Nat) ∧ n < 65536 ∧ s' = { s with q := n }
  | .eb => ∃ n : Nat, y = .int (n : Nat) ∧ n < 8 ∧ s' = { s with eb := n }
  | .fb => ∃ n : Nat, y = .int (n : Nat) ∧ n < 32 ∧ s' = { s with fb := n }
  | .z => ∃ n : Nat, y = .int (n : Nat) ∧ n < 4096 ∧ s' = { s with z := n }
  | .barred => ∃ b, y = .bl b ∧ s' = { s with shut := b }
  | .serving => ∃ b, y = .bl b ∧ s' = { s with serving := b }
  | .extended => ∃ b, y = .bl b ∧ s' = { s with extend := b }
  | .asked => ∃ w, y = .int (bits w : Nat) ∧ (∀ k ∈ w, k < 11) ∧ w.Nodup ∧ s' = { s with waiting := w }
  | .index_word => ∃ n : Nat, y = .int (n : Nat) ∧ n < 32768 ∧ s' = { s with index := n }
  | .instead => (y = .non ∧ s' = { s with instead := none }) ∨ ∃ n : Nat, y = .int (n : Nat) ∧ n < 32768 ∧ s' = { s with instead := some n }
  | _ => False
section
variable {s : Sf58.St} {i : Int} {n : Nat}
theorem set_a (e : i = n) (h : n < 65536) : SetTo .a (.int i) s { s with a := n } := ⟨n, by rw [e], h, rfl⟩
theorem set_l (e : i = n) (h : n < 32768) : SetTo .l (.int i) s { s with l := n } := ⟨n, by rw [e], h, rfl⟩
theorem set_q (e : i = n) (h : n < 65536) : SetTo .q (.int i) s { s with q := n } := ⟨n, by rw [e], h, rfl⟩
theorem set_eb (e : i = n) (h : n < 8) : SetTo .eb (.int i) s { s with eb := n } := ⟨n, by rw [e], h, rfl⟩
theorem set_fb (e : i = n) (h : n < 32) : SetTo .fb (.int i) s { s with fb := n } := ⟨n, by rw [e], h, rfl⟩
theorem set_z (e : i = n) (h : n < 4096) : SetTo .z (.int i) s { s with z := n } := ⟨n, by rw [e], h, rfl⟩
theorem set_index (e : i = n) (h : n < 32768) : SetTo .index_word (.int i) s { s with index := n } := ⟨n, by rw [e], h, rfl⟩
theorem set_instead (e : i = n) (h : n < 32768) : SetTo .instead (.int i) s { s with instead := some n } := .inr ⟨n, by rw [e], h, rfl⟩
theorem set_noInstead : SetTo .instead .non s { s with instead := none } := .inl ⟨rfl, rfl⟩
theorem set_barred {b : Bool} : SetTo .barred (.bl b) s { s with shut := b } := ⟨b, rfl, rfl⟩
theorem set_serving {b : Bool} : SetTo .serving (.bl b) s { s with serving := b } := ⟨b, rfl, rfl⟩
theorem set_extended {b : Bool} : SetTo .extended (.bl b) s { s with extend := b } := ⟨b, rfl, rfl⟩
theorem set_asked {w : List Nat} (e : i = (bits w : Nat)) (h : ∀ k ∈ w, k < 11) (hn : w.Nodup) : SetTo .asked (.int i) s { s with waiting := w } := ⟨w, by rw [e], h, hn, rfl⟩
end
theorem SetTo.all {F : MF} {y : V} {s s' : Sf58.St} (h : SetTo F y s s') (pc ps ph : Addr) (g : Good s) :
    (vals s pc ps ph).set F.ix y = vals s' pc ps ph ∧ s'.erase = s.erase ∧ s'.fixed = s.fixed ∧ s'.chans = s.chans ∧ Good s' := by
  cases F with
  | a => obtain ⟨n, rfl, hn, rfl⟩ := h; exact ⟨rfl, rfl, rfl, rfl, { g with a := hn }⟩
  | l => obtain ⟨n, rfl, hn, rfl⟩ := h; exact ⟨rfl, rfl, rfl, rfl, { g with l := hn }⟩
  | q => obtain ⟨n, rfl, hn, rfl⟩ := h; exact ⟨rfl, rfl, rfl, rfl, { g with q := hn }⟩
  | eb => obtain ⟨n, rfl, hn, rfl⟩ := h; exact ⟨rfl, rfl, rfl, rfl, { g with eb := hn }⟩
  | fb => obtain ⟨n, rfl, hn, rfl⟩ := h; exact ⟨rfl, rfl, rfl, rfl, { g with fb := hn }⟩
  | z => obtain ⟨n, rfl, hn, rfl⟩ := h; exact ⟨rfl, rfl, rfl, rfl, { g with z := hn }⟩
  | barred => obtain ⟨b, rfl, rfl⟩ := h; exact ⟨rfl, rfl, rfl, rfl, { g with }⟩
  | serving => obtain ⟨b, rfl, rfl⟩ := h; exact ⟨rfl, rfl, rfl, rfl, { g with }⟩
  | extended => obtain ⟨b, rfl, rfl⟩ := h; exact ⟨rfl, rfl, rfl, rfl, { g with }⟩
  | asked => obtain ⟨w, rfl, h1, h2, rfl⟩ := h; exact ⟨rfl, rfl, rfl, rfl, { g with wt := h1, wn := h2 }⟩
  | index_word => obtain ⟨n, rfl, hn, rfl⟩ := h; exact ⟨rfl, rfl, rfl, rfl, { g with ix := hn }⟩
  | instead =>
    rcases h with ⟨rfl, rfl⟩ | ⟨n, rfl, hn, rfl⟩
    · exact ⟨rfl, rfl, rfl, rfl, { g with ins := fun x q => by cases q }⟩
    · exact ⟨rfl, rfl, rfl, rfl, { g with ins := fun x q => by cases q; exact hn }⟩
  | changing => exact h.elim
  | staying => exact h.elim
  | channels => exact h.elim

/-! ### the machine's attributes read and stored -/
structure McOk (K : PySem.W.Frag) (C : Addr) : Prop where
  cl : Cls K C
  no : ∀ F : MF, NoAttr K C F.nm
def tM (C : Addr) (F : MF) (to : TE) : TE := fun σ H Q => to σ H fun x H1 => ∃ m s, x = .ref m ∧ MachAt C H1 m s ∧ Q (F.val H1 m s) H1
def sM (C : Addr) (F : MF) (to tv : TE) : TS := fun D σ H => tv σ H fun y H1 => to σ H1 fun x H2 => ∃ m s s', x = .ref m ∧ MachAt C H2 m s ∧ SetTo F y s s' ∧ ∀ H3, MachAt C H3 m s' → Fr m H2 H3 → D.nx σ H3
section
variable {X : Cx} {C : Addr} {o e value : Expr} {f : Str} {pos pos' : Pos} {to tv te : TE}
theorem pm (F : MF) (M : McOk X.K C) (he : PE X e te) (hn : f = F.nm := by rfl) (hb : attributeBase e f X.env (eval e X.env) = eval e X.env := by rfl) : PE X (.Attribute e f pos) (tM C F te) := by
  intro pins s σ H Q I h
  refine attr_of hb (thn (he pins s σ H _ I h) fun u s1 ⟨x, H1, I1, rx, m, st, ex, hM, q⟩ => ?_)
  subst ex hn
  obtain rfl : u = Value.ref m := rx
  obtain ⟨⟨dx, pc, ps, ph, p⟩, g⟩ := hM
  exact getattr_ok I1 p.ob M.cl (M.no F) (lookup_zip names_nd F.at (p.val F)) fun u' s2 I2 ru => ⟨_, H1, I2, ru, q⟩
theorem psm (F : MF) (M : McOk X.K C) (ho : PE X o to) (hv : PE X value tv) (hn : f = F.nm := by rfl) (hs : swapsWith value (some (.Attribute o f pos')) pos.line X.env = pure false := by rfl) :
    PS X (.Assign [.Attribute o f pos'] value pos) (sM C F to tv) := by
  intro pins s σ H D I h
  refine plainObj_wpAny_Assign_Attribute (thn (hv pins s σ H _ I h) fun u s1 ⟨y, H1, I1, ry, q⟩ => thn (ho pins s1 σ H1 _ I1 q) fun ov s2 ⟨x, H2, I2, rx, m, st, st', ex, hM, hS, q2⟩ => ?_) hs
  subst ex hn
  obtain rfl : ov = Value.ref m := rx
  obtain ⟨⟨dx, pc, ps, ph, p⟩, g⟩ := hM
  obtain ⟨e1, e2, e3, e4, g'⟩ := hS.all pc ps ph g
  refine setattr_ok I2 p.ob M.cl (M.no F) (by rw [List.length_zip]; show min 15 15 < 1000; decide) ry fun s3 I3 => ⟨σ, _, I3, ?_⟩
  have eo : putF F.nm y (names.zip (vals st pc ps ph)) = names.zip (vals st' pc ps ph) := by rw [putF_zip names_nd F.at F.lt, e1]
  have p' : Parts C (upd H2 m (.ins C dx (putF F.nm y (names.zip (vals st pc ps ph))))) m dx pc ps ph st' :=
    ⟨by rw [upd_same, eo], by rw [upd_ne p.mc.symm, e2]; exact p.c, by rw [upd_ne p.mf.symm, e3]; exact p.f, by rw [upd_ne p.mh.symm, e4]; exact p.h⟩
  exact q2 _ ⟨⟨dx, pc, ps, ph, p'⟩, g'⟩ (p.fr p' fun b o hb n _ _ _ => by rw [upd_ne n]; exact hb)
end
/-! ### its lists -/
def fxWr (s : Sf58.St) (n x : Nat) : Sf58.St := { s with fixed := fun i => if i = n then x else s.fixed i }
def chWr (s : Sf58.St) (n x : Nat) : Sf58.St := { s with chans := fun i => if i = n then x else s.chans i }
section
variable {K : PySem.W.Frag} {C : Addr} {H : Hp} {m : Addr} {s : Sf58.St} {Q : VK} {i v : Int} {j x : Nat}
theorem ixC (hM : MachAt C H m s) (e : i = j) (hj : j < 2048) (k : Q (.int (s.erase j : Nat)) H) : rIxL K (fldV H m 6) (.int i) H Q := by
  obtain ⟨⟨dx, pc, ps, ph, p⟩, g⟩ := hM
  exact ⟨pc, _, i, _, p.v6, rfl, SqL.of p.c, at_of e (memV_get hj), k⟩
theorem ixS (hM : MachAt C H m s) (e : i = j) (hj : j < 40960) (k : Q (.int (s.fixed j : Nat)) H) : rIxL K (fldV H m 7) (.int i) H Q := by
  obtain ⟨⟨dx, pc, ps, ph, p⟩, g⟩ := hM
  exact ⟨ps, _, i, _, p.v7, rfl, SqL.of p.f, at_of e (memV_get hj), k⟩
theorem ixH (hM : MachAt C H m s) (e : i = j) (hj : j < 512) (k : Q (.int (s.chans j : Nat)) H) : rIxL K (fldV H m 8) (.int i) H Q := by
  obtain ⟨⟨dx, pc, ps, ph, p⟩, g⟩ := hM
  exact ⟨ph, _, i, _, p.v8, rfl, SqL.of p.h, at_of e (memV_get hj), k⟩
theorem ixN_nat {n k : Nat} (h : k < n) : ixN n (k : Int) = some k := by
  unfold ixN
  rw [if_pos (by omega), if_pos (by omega)]; simp
variable {R : Hp → Prop}
theorem setC (hM : MachAt C H m s) (e : i = j) (hj : j < 2048) (ev : v = x) (hx : x < 32768) (k : ∀ H1, MachAt C H1 m (erWr s j x) → Fr m H H1 → R H1) : rSetL (fldV H m 6) (.int i) (.int v) H R := by
  obtain ⟨⟨dx, pc, ps, ph, p⟩, g⟩ := hM
  subst e ev
  refine ⟨pc, _, _, j, p.v6, rfl, p.c, ixN_nat (by rw [memV_len]; exact hj), ?_⟩
  rw [memV_set]
  have p' : Parts C (upd H pc (.lst (memV (erWr s j x).erase 2048))) m dx pc ps ph (erWr s j x) :=
    ⟨by rw [upd_ne p.mc]; exact p.ob, upd_same, by rw [upd_ne p.cf.symm]; exact p.f, by rw [upd_ne p.ch.symm]; exact p.h⟩
  refine k _ ⟨⟨dx, pc, ps, ph, p'⟩, { g with er := fun i => ?_ }⟩ (p.fr p' fun b o hb _ n _ _ => by rw [upd_ne n]; exact hb)
  show (if i = j then x else s.erase i) < 32768
  split
  · exact hx
  · exact g.er i
theorem setS (hM : MachAt C H m s) (e : i = j) (hj : j < 40960) (ev : v = x) (hx : x < 32768) (k : ∀ H1, MachAt C H1 m (fxWr s j x) → Fr m H H1 → R H1) : rSetL (fldV H m 7) (.int i) (.int v) H R := by
  obtain ⟨⟨dx, pc, ps, ph, p⟩, g⟩ := hM
  subst e ev
  refine ⟨ps, _, _, j, p.v7, rfl, p.f, ixN_nat (by rw [memV_len]; exact hj), ?_⟩
  rw [memV_set]
  have p' : Parts C (upd H ps (.lst (memV (fxWr s j x).fixed 40960))) m dx pc ps ph (fxWr s j x) :=
    ⟨by rw [upd_ne p.mf]; exact p.ob, by rw [upd_ne p.cf]; exact p.c, upd_same, by rw [upd_ne p.fh.symm]; exact p.h⟩
  refine k _ ⟨⟨dx, pc, ps, ph, p'⟩, { g with fx := fun i => ?_ }⟩ (p.fr p' fun b o hb _ _ n _ => by rw [upd_ne n]; exact hb)
  show (if i = j then x else s.fixed i) < 32768
  split
  · exact hx
  · exact g.fx i
theorem setH (hM : MachAt C H m s) (e : i = j) (hj : j < 512) (ev : v = x) (hx : x < 32768) (k : ∀ H1, MachAt C H1 m (chWr s j x) → Fr m H H1 → R H1) : rSetL (fldV H m 8) (.int i) (.int v) H R := by
  obtain ⟨⟨dx, pc, ps, ph, p⟩, g⟩ := hM
  subst e ev
  refine ⟨ph, _, _, j, p.v8, rfl, p.h, ixN_nat (by rw [memV_len]; exact hj), ?_⟩
  rw [memV_set]
  have p' : Parts C (upd H ph (.lst (memV (chWr s j x).chans 512))) m dx pc ps ph (chWr s j x) :=
    ⟨by rw [upd_ne p.mh]; exact p.ob, by rw [upd_ne p.ch]; exact p.c, by rw [upd_ne p.fh]; exact p.f, upd_same⟩
  refine k _ ⟨⟨dx, pc, ps, ph, p'⟩, { g with ch := fun i => ?_ }⟩ (p.fr p' fun b o hb _ _ _ n => by rw [upd_ne n]; exact hb)
  show (if i = j then x else s.chans i) < 32768
  split
  · exact hx
  · exact g.ch i
end

/-! ### forms of promises -/
def spN1 (p : Nat → Prop) (f : Nat → Nat) : Sp := fun vs H Q _ => ∃ (i : Int) (x : Nat), vs = [.int i] ∧ i = x ∧ p x ∧ Q (.int (f x : Nat)) H
def spZ1 (p : Nat → Prop) (f : Nat → Int) : Sp := fun vs H Q _ => ∃ (i : Int) (x : Nat), vs = [.int i] ∧ i = x ∧ p x ∧ Q (.int (f x)) H
def spB1 (p : Nat → Prop) (f : Nat → Bool) : Sp := fun vs H Q _ => ∃ (i : Int) (x : Nat), vs = [.int i] ∧ i = x ∧ p x ∧ Q (.bl (f x)) H
def spN2 (p : Nat → Nat → Prop) (f : Nat → Nat → Nat) : Sp := fun vs H Q _ => ∃ (i j : Int) (x y : Nat), vs = [.int i, .int j] ∧ i = x ∧ j = y ∧ p x y ∧ Q (.int (f x y : Nat)) H
/-- read by a place -/
def spR (C : Addr) (p : Sf58.St → Nat → Prop) (f : Sf58.St → Nat → Nat) : Sp := fun vs H Q _ => ∃ (m : Addr) (s : Sf58.St) (i : Int) (k : Nat), vs = [.ref m, .int i] ∧ MachAt C H m s ∧ i = k ∧ p s k ∧ Q (.int (f s k : Nat)) H
/-- a question about the machine -/
def spQ (C : Addr) (p : Sf58.St → Prop) (f : Sf58.St → Bool) : Sp := fun vs H Q _ => ∃ (m : Addr) (s : Sf58.St), vs = [.ref m] ∧ MachAt C H m s ∧ p s ∧ ∀ H1, Same H H1 → Q (.bl (f s)) H1
/-- the machine is changed -/
def spW0 (C : Addr) (p : Sf58.St → Prop) (f : Sf58.St → Sf58.St) : Sp := fun vs H Q _ => ∃ (m : Addr) (s : Sf58.St), vs = [.ref m] ∧ MachAt C H m s ∧ p s ∧ ∀ H1, MachAt C H1 m (f s) → Fr m H H1 → Q .non H1
def spW1 (C : Addr) (p : Sf58.St → Nat → Prop) (f : Sf58.St → Nat → Sf58.St) : Sp := fun vs H Q _ => ∃ (m : Addr) (s : Sf58.St) (i : Int) (k : Nat), vs = [.ref m, .int i] ∧ MachAt C H m s ∧ i = k ∧ p s k ∧ ∀ H1, MachAt C H1 m (f s k) → Fr m H H1 → Q .non H1
def spW2 (C : Addr) (p : Sf58.St → Nat → Nat → Prop) (f : Sf58.St → Nat → Nat → Sf58.St) : Sp := fun vs H Q _ => ∃ (m : Addr) (s : Sf58.St) (i j : Int) (n x : Nat), vs = [.ref m, .int i, .int j] ∧ MachAt C H m s ∧ i = n ∧ j = x ∧ p s n x ∧
  ∀ H1, MachAt C H1 m (f s n x) → Fr m H H1 → Q .non H1
theorem lenN1 {p f} : ∀ vs H Q E, spN1 p f vs H Q E → vs.length = 1 := by rintro vs H Q E ⟨i, x, rfl, _⟩; rfl
theorem lenZ1 {p f} : ∀ vs H Q E, spZ1 p f vs H Q E → vs.length = 1 := by rintro vs H Q E ⟨i, x, rfl, _⟩; rfl
theorem lenB1 {p f} : ∀ vs H Q E, spB1 p f vs H Q E → vs.length = 1 := by rintro vs H Q E ⟨i, x, rfl, _⟩; rfl
theorem lenN2 {p f} : ∀ vs H Q E, spN2 p f vs H Q E → vs.length = 2 := by rintro vs H Q E ⟨i, j, x, y, rfl, _⟩; rfl
theorem lenR {C p f} : ∀ vs H Q E, spR C p f vs H Q E → vs.length = 2 := by rintro vs H Q E ⟨m, s, i, k, rfl, _⟩; rfl
theorem lenQ {C p f} : ∀ vs H Q E, spQ C p f vs H Q E → vs.length = 1 := by rintro vs H Q E ⟨m, s, rfl, _⟩; rfl
theorem lenW0 {C p f} : ∀ vs H Q E, spW0 C p f vs H Q E → vs.length = 1 := by rintro vs H Q E ⟨m, s, rfl, _⟩; rfl
theorem lenW1 {C p f} : ∀ vs H Q E, spW1 C p f vs H Q E → vs.length = 2 := by rintro vs H Q E ⟨m, s, i, k, rfl, _⟩; rfl
theorem lenW2 {C p f} : ∀ vs H Q E, spW2 C p f vs H Q E → vs.length = 3 := by rintro vs H Q E ⟨m, s, i, j, n, x, rfl, _⟩; rfl
theorem spW1.of {C : Addr} {p p' : Sf58.St → Nat → Prop} {f f' : Sf58.St → Nat → Sf58.St} (h : ∀ s k, p' s k → p s k) (e : ∀ s k, p' s k → f s k = f' s k) : ∀ vs H Q E, spW1 C p' f' vs H Q E → spW1 C p f vs H Q E := by
  rintro vs H Q E ⟨m, s, i, k, rfl, hM, ei, hp, q⟩
  exact ⟨m, s, i, k, rfl, hM, ei, h s k hp, by rw [e s k hp]; exact q⟩
theorem boot_abs_ : bootBuiltins "abs" = some (.builtin "abs") := by decide +kernel
theorem boot_len_ : bootBuiltins "len" = some (.builtin "len") := by decide +kernel
theorem boot_int_ : bootBuiltins "int" = some (.type "int") := by decide +kernel
/-! ### methods and new instances -/
structure MDef (K : PySem.W.Frag) (C : Addr) (m qual : Str) (st : Stmt) : Prop where
  ex : ∃ f fd, Meth K C m f ∧ Fun K m qual st f fd
structure MHas (P : Program) (w : World) (K : PySem.W.Frag) (mg : Str → Option Value) (base : Heap) (k : Nat) (C : Addr) (m : Str) (ps : List Str) (sp : Sp) : Prop where
  ex : ∃ f fd, Cls K C ∧ Meth K C m f ∧ Binds K fd ps [] ∧ FnOk P w K mg base CX0 k f fd ps sp
structure NHas (P : Program) (w : World) (K : PySem.W.Frag) (mg : Str → Option Value) (base : Heap) (k : Nat) (x : Str) (C : Addr) (ps : List Str) (sp : Sp) : Prop where
  ex : ∃ f fd, mg x = some (.ref C) ∧ Mk K C f ∧ Binds K fd ps [] ∧ FnOk P w K mg base CX0 k f fd ps sp
section
variable {P : Program} {w : World} {K : PySem.W.Frag} {mg : Str → Option Value} {base : Heap} {k : Nat} {m qual : Str} {ps : List Str} {sp : Sp} {C : Addr}
theorem mkMHas {st : Stmt} {N : List Str} (c : Cls K C) (D : MDef K C m qual st) (S : FnScope N ps (defScope st))
    (b : ∀ (kV doc pm : Value) (an : Option Addr) (cdv ct : Value) (us : List Value), us.length = ps.length → bindArgs (PySem.W.fnOf m qual (defArgs st) (defBody st) (defScope st) .none kV doc pm an cdv ct) ⟨us, []⟩ = pure (ps.zip us))
    (len : ∀ vs H Q E, sp vs H Q E → vs.length = ps.length)
    (hbody : ∀ (f : Addr) (cdv : Value) (A : Around) (outer : List Env) (s : Shared) (H : Hp) (vs : List V) (Q : VK) (E : XK), Room k (A.deeper (PyProof.Rows.envOfC qual (defScope st) s.heap.objs.size f cdv)) → sp vs H Q E →
      ∃ t, PSs (cxOf CX0 P w K mg base N qual (defScope st) f cdv A outer s H E).nox (defBody st) t ∧ t { nx := fun _ H' => Q .non H', rt := Q } (start N vs) H) : MHas P w K mg base (k + 1) C m ps sp := by
  obtain ⟨f, fd, hm, F⟩ := D
  exact ⟨f, fd, c, hm, F.binds b, F.ok S len (hbody f)⟩
theorem mkNHas {x : Str} (h : MHas P w K mg base k C "__init__" ps sp) (hx : mg x = some (.ref C)) (mk : PySem.W.makesIn K C = true) (kp : PySem.W.keepIn K (.ref C) = true) : NHas P w K mg base k x C ps sp := by
  obtain ⟨f, fd, c, hm, hb, F⟩ := h
  exact ⟨f, fd, hx, ⟨mk, hm.at_, hm.fn, kp⟩, hb, F⟩
end
section
variable {X : Cx} {j k : Nat} {C : Addr} {m x : Str} {ps : List Str} {sp : Sp} {o e : Expr} {es : List Expr} {p apos pos : Pos} {to : TE} {t : TA}
theorem pcm0 {pl : Sem Bool} (h : MHas X.prog X.w X.K X.mg X.base j C m ps sp) (hr : Room k X.A) (ho : PE X o to) (hj : j ≤ k := by decide) (hx : Passes CX0 X E0 := by exact pass0)
    (ht : eval (.Call (.Attribute o m apos) [] [] pos) X.env = (do
      let ov ← eval o X.env
      standAt apos.atName
      let (f, first) ← holding [ov] (getMethod ov m pl)
      callWith pos f first (backTo pos (starEach [] X.env)) (backToKw pos (keywordEach [] X.env))) := by rfl) :
    PE X (.Call (.Attribute o m apos) [] [] pos) (tMeth C m sp [] E0 to tNil) := by
  obtain ⟨f, fd, c, hm, hb, F⟩ := h
  exact pe_meth0 (pl := pl) ho c hm F (hr.mono hj) hb .nil hx ht
theorem pcmk0 (h : NHas X.prog X.w X.K X.mg X.base j x C ps sp) (hr : Room k X.A) (hj : j + 1 ≤ k := by decide) (hg : Gl X x := by rfl) (hx : Passes CX0 X E0 := by exact pass0) (hdb : (x == ("__debug__" : Str)) = false := by decide) :
    PE X (.Call (.Name x p) [] [] pos) (tMake C sp [] E0 tNil) := by
  obtain ⟨f, fd, hm, M, hb, F⟩ := h
  exact pe_make0 M F (hr.mono hj) hg hm hb .nil hx hdb
theorem pcmk (h : NHas X.prog X.w X.K X.mg X.base j x C ps sp) (hr : Room k X.A) (ha : PA X (e :: es) t) (hj : j + 1 ≤ k := by decide) (hg : Gl X x := by rfl) (hx : Passes CX0 X E0 := by exact pass0) (hdb : (x == ("__debug__" : Str)) = false := by decide)
    (he : starEach (e :: es) X.env = (false, eval e X.env) :: starEach es X.env := by rfl) (hpl : (backTo pos (starEach es X.env)).any (·.1) = false := by rfl) :
    PE X (.Call (.Name x p) (e :: es) [] pos) (tMake C sp [] E0 t) := by
  obtain ⟨f, fd, hm, M, hb, F⟩ := h
  exact pe_make M F (hr.mono hj) hg hm hb .nil hx ha hdb he hpl
end
end Fb

set_option Elab.async false
set_option linter.all false
set_option maxRecDepth 100000
set_option maxHeartbeats 4000000
namespace Fb
open PySem L2
/-! ### the text by places -/
def top (i : Nat) : Stmt := PySem.Challenge.pw_fifteenbits_s01_answers.main.body.getD i (.Pass ⟨0, 0, 0, 0⟩)
abbrev st_wide : Stmt := top 2
theorem sc_wide : FnScope ["word"] ["word"] (defScope st_wide) := ⟨rfl, rfl, rfl, by decide +kernel, rfl, by decide +kernel, by decide +kernel⟩
abbrev st_narrow : Stmt := top 3
theorem sc_narrow : FnScope ["word"] ["word"] (defScope st_narrow) := ⟨rfl, rfl, rfl, by decide +kernel, rfl, by decide +kernel, by decide +kernel⟩
abbrev st_plus : Stmt := top 4
theorem sc_plus : FnScope ["one", "other", "total"] ["one", "other"] (defScope st_plus) := ⟨rfl, rfl, rfl, by decide +kernel, rfl, by decide +kernel, by decide +kernel⟩
abbrev st_minus_wide : Stmt := top 5
theorem sc_minus_wide : FnScope ["word"] ["word"] (defScope st_minus_wide) := ⟨rfl, rfl, rfl, by decide +kernel, rfl, by decide +kernel, by decide +kernel⟩
abbrev st_minus_narrow : Stmt := top 6
theorem sc_minus_narrow : FnScope ["word"] ["word"] (defScope st_minus_narrow) := ⟨rfl, rfl, rfl, by decide +kernel, rfl, by decide +kernel, by decide +kernel⟩
abbrev st_overflow : Stmt := top 7
theorem sc_overflow : FnScope ["word", "signs"] ["word"] (defScope st_overflow) := ⟨rfl, rfl, rfl, by decide +kernel, rfl, by decide +kernel, by decide +kernel⟩
abbrev st_is_below : Stmt := top 8
theorem sc_is_below : FnScope ["word"] ["word"] (defScope st_is_below) := ⟨rfl, rfl, rfl, by decide +kernel, rfl, by decide +kernel, by decide +kernel⟩
abbrev st_amount : Stmt := top 9
theorem sc_amount : FnScope ["word"] ["word"] (defScope st_amount) := ⟨rfl, rfl, rfl, by decide +kernel, rfl, by decide +kernel, by decide +kernel⟩
abbrev st_number_of : Stmt := top 10
theorem sc_number_of : FnScope ["word"] ["word"] (defScope st_number_of) := ⟨rfl, rfl, rfl, by decide +kernel, rfl, by decide +kernel, by decide +kernel⟩
abbrev st_with_sign : Stmt := top 11
theorem sc_with_sign : FnScope ["size", "below"] ["size", "below"] (defScope st_with_sign) := ⟨rfl, rfl, rfl, by decide +kernel, rfl, by decide +kernel, by decide +kernel⟩
abbrev st_count_by : Stmt := top 14
theorem sc_count_by : FnScope ["machine", "number", "step", "total"] ["machine", "number", "step"] (defScope st_count_by) := ⟨rfl, rfl, rfl, by decide +kernel, rfl, by decide +kernel, by decide +kernel⟩
abbrev st_ask_for : Stmt := top 15
theorem sc_ask_for : FnScope ["machine", "which"] ["machine", "which"] (defScope st_ask_for) := ⟨rfl, rfl, rfl, by decide +kernel, rfl, by decide +kernel, by decide +kernel⟩
abbrev st_pulse_down : Stmt := top 16
theorem sc_pulse_down : FnScope ["machine", "number"] ["machine", "number"] (defScope st_pulse_down) := ⟨rfl, rfl, rfl, by decide +kernel, rfl, by decide +kernel, by decide +kernel⟩
abbrev st_pulse_up : Stmt := top 17
theorem sc_pulse_up : FnScope ["machine", "number"] ["machine", "number"] (defScope st_pulse_up) := ⟨rfl, rfl, rfl, by decide +kernel, rfl, by decide +kernel, by decide +kernel⟩
abbrev st_Machine___init__ : Stmt := inClass (top 23) 0
theorem sc_Machine___init__ : FnScope ["self"] ["self"] (defScope st_Machine___init__) := ⟨rfl, rfl, rfl, by decide +kernel, rfl, by decide +kernel, by decide +kernel⟩
abbrev st_Machine_begin : Stmt := inClass (top 23) 1
theorem sc_Machine_begin : FnScope ["self"] ["self"] (defScope st_Machine_begin) := ⟨rfl, rfl, rfl, by decide +kernel, rfl, by decide +kernel, by decide +kernel⟩
abbrev st_Machine_begin_turns : Stmt := inClass (top 23) 2
theorem sc_Machine_begin_turns : FnScope ["self"] ["self"] (defScope st_Machine_begin_turns) := ⟨rfl, rfl, rfl, by decide +kernel, rfl, by decide +kernel, by decide +kernel⟩
abbrev st_changing_number : Stmt := top 27
theorem sc_changing_number : FnScope ["machine", "place"] ["machine", "place"] (defScope st_changing_number) := ⟨rfl, rfl, rfl, by decide +kernel, rfl, by decide +kernel, by decide +kernel⟩
abbrev st_read_staying : Stmt := top 28
theorem sc_read_staying : FnScope ["machine", "place", "bank"] ["machine", "place"] (defScope st_read_staying) := ⟨rfl, rfl, rfl, by decide +kernel, rfl, by decide +kernel, by decide +kernel⟩
abbrev st_read_small_register : Stmt := top 29
theorem sc_read_small_register : FnScope ["machine", "number"] ["machine", "number"] (defScope st_read_small_register) := ⟨rfl, rfl, rfl, by decide +kernel, rfl, by decide +kernel, by decide +kernel⟩
abbrev st_read_narrow : Stmt := top 30
theorem sc_read_narrow : FnScope ["machine", "place", "number"] ["machine", "place"] (defScope st_read_narrow) := ⟨rfl, rfl, rfl, by decide +kernel, rfl, by decide +kernel, by decide +kernel⟩
abbrev st_read_wide : Stmt := top 31
theorem sc_read_wide : FnScope ["machine", "place", "number"] ["machine", "place"] (defScope st_read_wide) := ⟨rfl, rfl, rfl, by decide +kernel, rfl, by decide +kernel, by decide +kernel⟩
abbrev st_write_small_register : Stmt := top 32
theorem sc_write_small_register : FnScope ["machine", "number", "word"] ["machine", "number", "word"] (defScope st_write_small_register) := ⟨rfl, rfl, rfl, by decide +kernel, rfl, by decide +kernel, by decide +kernel⟩
abbrev st_edited : Stmt := top 33
theorem sc_edited : FnScope ["number", "word"] ["number", "word"] (defScope st_edited) := ⟨rfl, rfl, rfl, by decide +kernel, rfl, by decide +kernel, by decide +kernel⟩
abbrev st_write : Stmt := top 34
theorem sc_write : FnScope ["machine", "place", "word", "number"] ["machine", "place", "word"] (defScope st_write) := ⟨rfl, rfl, rfl, by decide +kernel, rfl, by decide +kernel, by decide +kernel⟩
abbrev st_edit_anew : Stmt := top 35
theorem sc_edit_anew : FnScope ["machine", "place", "word"] ["machine", "place", "word"] (defScope st_edit_anew) := ⟨rfl, rfl, rfl, by decide +kernel, rfl, by decide +kernel, by decide +kernel⟩
abbrev st_read_channel : Stmt := top 36
theorem sc_read_channel : FnScope ["machine", "channel"] ["machine", "channel"] (defScope st_read_channel) := ⟨rfl, rfl, rfl, by decide +kernel, rfl, by decide +kernel, by decide +kernel⟩
abbrev st_write_channel : Stmt := top 37
theorem sc_write_channel : FnScope ["machine", "channel", "word"] ["machine", "channel", "word"] (defScope st_write_channel) := ⟨rfl, rfl, rfl, by decide +kernel, rfl, by decide +kernel, by decide +kernel⟩
abbrev st_shown_values : Stmt := top 42
theorem sc_shown_values : FnScope ["machine"] ["machine"] (defScope st_shown_values) := ⟨rfl, rfl, rfl, by decide +kernel, rfl, by decide +kernel, by decide +kernel⟩
abbrev st_set_value : Stmt := top 43
theorem sc_set_value : FnScope ["machine", "k", "v"] ["machine", "k", "v"] (defScope st_set_value) := ⟨rfl, rfl, rfl, by decide +kernel, rfl, by decide +kernel, by decide +kernel⟩
abbrev st_is_word : Stmt := top 44
theorem sc_is_word : FnScope ["kind", "k"] ["kind", "k"] (defScope st_is_word) := ⟨rfl, rfl, rfl, by decide +kernel, rfl, by decide +kernel, by decide +kernel⟩
abbrev st_look_at : Stmt := top 45
theorem sc_look_at : FnScope ["machine", "kind", "k"] ["machine", "kind", "k"] (defScope st_look_at) := ⟨rfl, rfl, rfl, by decide +kernel, rfl, by decide +kernel, by decide +kernel⟩
abbrev st_poke_in : Stmt := top 46
theorem sc_poke_in : FnScope ["machine", "kind", "k", "word"] ["machine", "kind", "k", "word"] (defScope st_poke_in) := ⟨rfl, rfl, rfl, by decide +kernel, rfl, by decide +kernel, by decide +kernel⟩
abbrev st_leave_out : Stmt := top 49
theorem sc_leave_out : FnScope ["machine", "how_many"] ["machine", "how_many"] (defScope st_leave_out) := ⟨rfl, rfl, rfl, by decide +kernel, rfl, by decide +kernel, by decide +kernel⟩
abbrev st_tc : Stmt := top 50
theorem sc_tc : FnScope ["machine", "k"] ["machine", "k"] (defScope st_tc) := ⟨rfl, rfl, rfl, by decide +kernel, rfl, by decide +kernel, by decide +kernel⟩
abbrev st_ccs : Stmt := top 51
theorem sc_ccs : FnScope ["machine", "k", "word"] ["machine", "k"] (defScope st_ccs) := ⟨rfl, rfl, rfl, by decide +kernel, rfl, by decide +kernel, by decide +kernel⟩
abbrev st_tcf : Stmt := top 52
theorem sc_tcf : FnScope ["machine", "k"] ["machine", "k"] (defScope st_tcf) := ⟨rfl, rfl, rfl, by decide +kernel, rfl, by decide +kernel, by decide +kernel⟩
abbrev st_das : Stmt := top 53
theorem sc_das : FnScope ["machine", "k", "upper", "low", "high"] ["machine", "k"] (defScope st_das) := ⟨rfl, rfl, rfl, by decide +kernel, rfl, by decide +kernel, by decide +kernel⟩
abbrev st_lxch : Stmt := top 54
theorem sc_lxch : FnScope ["machine", "k", "e", "old"] ["machine", "k"] (defScope st_lxch) := ⟨rfl, rfl, rfl, by decide +kernel, rfl, by decide +kernel, by decide +kernel⟩
abbrev st_incr : Stmt := top 55
theorem sc_incr : FnScope ["machine", "k", "e"] ["machine", "k"] (defScope st_incr) := ⟨rfl, rfl, rfl, by decide +kernel, rfl, by decide +kernel, by decide +kernel⟩
abbrev st_ads : Stmt := top 56
theorem sc_ads : FnScope ["machine", "k", "e", "total"] ["machine", "k"] (defScope st_ads) := ⟨rfl, rfl, rfl, by decide +kernel, rfl, by decide +kernel, by decide +kernel⟩
abbrev st_ca : Stmt := top 57
theorem sc_ca : FnScope ["machine", "k", "word"] ["machine", "k"] (defScope st_ca) := ⟨rfl, rfl, rfl, by decide +kernel, rfl, by decide +kernel, by decide +kernel⟩
abbrev st_cs : Stmt := top 58
theorem sc_cs : FnScope ["machine", "k", "word"] ["machine", "k"] (defScope st_cs) := ⟨rfl, rfl, rfl, by decide +kernel, rfl, by decide +kernel, by decide +kernel⟩
abbrev st_resume : Stmt := top 59
theorem sc_resume : FnScope ["machine"] ["machine"] (defScope st_resume) := ⟨rfl, rfl, rfl, by decide +kernel, rfl, by decide +kernel, by decide +kernel⟩
abbrev st_index_next : Stmt := top 60
theorem sc_index_next : FnScope ["machine", "k", "word"] ["machine", "k"] (defScope st_index_next) := ⟨rfl, rfl, rfl, by decide +kernel, rfl, by decide +kernel, by decide +kernel⟩
abbrev st_dxch : Stmt := top 61
theorem sc_dxch : FnScope ["machine", "k", "e", "upper", "old_a", "old_l", "new_l"] ["machine", "k"] (defScope st_dxch) := ⟨rfl, rfl, rfl, by decide +kernel, rfl, by decide +kernel, by decide +kernel⟩
abbrev st_ts : Stmt := top 62
theorem sc_ts : FnScope ["machine", "k", "e", "over"] ["machine", "k"] (defScope st_ts) := ⟨rfl, rfl, rfl, by decide +kernel, rfl, by decide +kernel, by decide +kernel⟩
abbrev st_xch : Stmt := top 63
theorem sc_xch : FnScope ["machine", "k", "e", "old"] ["machine", "k"] (defScope st_xch) := ⟨rfl, rfl, rfl, by decide +kernel, rfl, by decide +kernel, by decide +kernel⟩
abbrev st_ad : Stmt := top 64
theorem sc_ad : FnScope ["machine", "k", "word"] ["machine", "k"] (defScope st_ad) := ⟨rfl, rfl, rfl, by decide +kernel, rfl, by decide +kernel, by decide +kernel⟩
abbrev st_mask : Stmt := top 65
theorem sc_mask : FnScope ["machine", "k"] ["machine", "k"] (defScope st_mask) := ⟨rfl, rfl, rfl, by decide +kernel, rfl, by decide +kernel, by decide +kernel⟩
abbrev st_read_in : Stmt := top 70
theorem sc_read_in : FnScope ["machine", "channel"] ["machine", "channel"] (defScope st_read_in) := ⟨rfl, rfl, rfl, by decide +kernel, rfl, by decide +kernel, by decide +kernel⟩
abbrev st_write_out : Stmt := top 71
theorem sc_write_out : FnScope ["machine", "channel"] ["machine", "channel"] (defScope st_write_out) := ⟨rfl, rfl, rfl, by decide +kernel, rfl, by decide +kernel, by decide +kernel⟩
abbrev st_rand : Stmt := top 72
theorem sc_rand : FnScope ["machine", "channel"] ["machine", "channel"] (defScope st_rand) := ⟨rfl, rfl, rfl, by decide +kernel, rfl, by decide +kernel, by decide +kernel⟩
abbrev st_wand : Stmt := top 73
theorem sc_wand : FnScope ["machine", "channel"] ["machine", "channel"] (defScope st_wand) := ⟨rfl, rfl, rfl, by decide +kernel, rfl, by decide +kernel, by decide +kernel⟩
abbrev st_ror : Stmt := top 74
theorem sc_ror : FnScope ["machine", "channel"] ["machine", "channel"] (defScope st_ror) := ⟨rfl, rfl, rfl, by decide +kernel, rfl, by decide +kernel, by decide +kernel⟩
abbrev st_wor : Stmt := top 75
theorem sc_wor : FnScope ["machine", "channel"] ["machine", "channel"] (defScope st_wor) := ⟨rfl, rfl, rfl, by decide +kernel, rfl, by decide +kernel, by decide +kernel⟩
abbrev st_rxor : Stmt := top 76
theorem sc_rxor : FnScope ["machine", "channel"] ["machine", "channel"] (defScope st_rxor) := ⟨rfl, rfl, rfl, by decide +kernel, rfl, by decide +kernel, by decide +kernel⟩
abbrev st_edrupt : Stmt := top 77
theorem sc_edrupt : FnScope ["machine", "channel"] ["machine", "channel"] (defScope st_edrupt) := ⟨rfl, rfl, rfl, by decide +kernel, rfl, by decide +kernel, by decide +kernel⟩
abbrev st_by_channel : Stmt := top 79
theorem sc_by_channel : FnScope ["machine", "k"] ["machine", "k"] (defScope st_by_channel) := ⟨rfl, rfl, rfl, by decide +kernel, rfl, by decide +kernel, by decide +kernel⟩
abbrev st_dv : Stmt := top 80
theorem sc_dv : FnScope ["machine", "k", "upper", "divisor", "dividend", "below", "differ", "size"] ["machine", "k"] (defScope st_dv) := ⟨rfl, rfl, rfl, by decide +kernel, rfl, by decide +kernel, by decide +kernel⟩
abbrev st_bzf : Stmt := top 81
theorem sc_bzf : FnScope ["machine", "k"] ["machine", "k"] (defScope st_bzf) := ⟨rfl, rfl, rfl, by decide +kernel, rfl, by decide +kernel, by decide +kernel⟩
abbrev st_msu : Stmt := top 82
theorem sc_msu : FnScope ["machine", "k", "difference"] ["machine", "k"] (defScope st_msu) := ⟨rfl, rfl, rfl, by decide +kernel, rfl, by decide +kernel, by decide +kernel⟩
abbrev st_qxch : Stmt := top 83
theorem sc_qxch : FnScope ["machine", "k", "e", "old"] ["machine", "k"] (defScope st_qxch) := ⟨rfl, rfl, rfl, by decide +kernel, rfl, by decide +kernel, by decide +kernel⟩
abbrev st_aug : Stmt := top 84
theorem sc_aug : FnScope ["machine", "k", "e", "word"] ["machine", "k"] (defScope st_aug) := ⟨rfl, rfl, rfl, by decide +kernel, rfl, by decide +kernel, by decide +kernel⟩
abbrev st_dim : Stmt := top 85
theorem sc_dim : FnScope ["machine", "k", "e", "word"] ["machine", "k"] (defScope st_dim) := ⟨rfl, rfl, rfl, by decide +kernel, rfl, by decide +kernel, by decide +kernel⟩
abbrev st_edit_pair_anew : Stmt := top 86
theorem sc_edit_pair_anew : FnScope ["machine", "k", "lower_word", "upper_word"] ["machine", "k", "lower_word", "upper_word"] (defScope st_edit_pair_anew) := ⟨rfl, rfl, rfl, by decide +kernel, rfl, by decide +kernel, by decide +kernel⟩
abbrev st_dca : Stmt := top 87
theorem sc_dca : FnScope ["machine", "k", "lower_word", "upper_word"] ["machine", "k"] (defScope st_dca) := ⟨rfl, rfl, rfl, by decide +kernel, rfl, by decide +kernel, by decide +kernel⟩
abbrev st_dcs : Stmt := top 88
theorem sc_dcs : FnScope ["machine", "k", "lower_word", "upper_word"] ["machine", "k"] (defScope st_dcs) := ⟨rfl, rfl, rfl, by decide +kernel, rfl, by decide +kernel, by decide +kernel⟩
abbrev st_index_extended : Stmt := top 89
theorem sc_index_extended : FnScope ["machine", "k", "word"] ["machine", "k"] (defScope st_index_extended) := ⟨rfl, rfl, rfl, by decide +kernel, rfl, by decide +kernel, by decide +kernel⟩
abbrev st_su : Stmt := top 90
theorem sc_su : FnScope ["machine", "k", "word"] ["machine", "k"] (defScope st_su) := ⟨rfl, rfl, rfl, by decide +kernel, rfl, by decide +kernel, by decide +kernel⟩
abbrev st_bzmf : Stmt := top 91
theorem sc_bzmf : FnScope ["machine", "k"] ["machine", "k"] (defScope st_bzmf) := ⟨rfl, rfl, rfl, by decide +kernel, rfl, by decide +kernel, by decide +kernel⟩
abbrev st_mp : Stmt := top 92
theorem sc_mp : FnScope ["machine", "k", "one", "other", "product", "differ"] ["machine", "k"] (defScope st_mp) := ⟨rfl, rfl, rfl, by decide +kernel, rfl, by decide +kernel, by decide +kernel⟩
abbrev st_interrupt_comes_in : Stmt := top 95
theorem sc_interrupt_comes_in : FnScope ["machine"] ["machine"] (defScope st_interrupt_comes_in) := ⟨rfl, rfl, rfl, by decide +kernel, rfl, by decide +kernel, by decide +kernel⟩
abbrev st_first_asked : Stmt := top 96
theorem sc_first_asked : FnScope ["machine", "which"] ["machine"] (defScope st_first_asked) := ⟨rfl, rfl, rfl, by decide +kernel, rfl, by decide +kernel, by decide +kernel⟩
abbrev st_come_in : Stmt := top 97
theorem sc_come_in : FnScope ["machine", "which", "word"] ["machine"] (defScope st_come_in) := ⟨rfl, rfl, rfl, by decide +kernel, rfl, by decide +kernel, by decide +kernel⟩
abbrev st_take_instruction : Stmt := top 98
theorem sc_take_instruction : FnScope ["machine", "word"] ["machine"] (defScope st_take_instruction) := ⟨rfl, rfl, rfl, by decide +kernel, rfl, by decide +kernel, by decide +kernel⟩
abbrev st_take_turn : Stmt := top 99
theorem sc_take_turn : FnScope ["machine", "word"] ["machine"] (defScope st_take_turn) := ⟨rfl, rfl, rfl, by decide +kernel, rfl, by decide +kernel, by decide +kernel⟩
abbrev st_stands_still : Stmt := top 100
theorem sc_stands_still : FnScope ["machine", "word"] ["machine"] (defScope st_stands_still) := ⟨rfl, rfl, rfl, by decide +kernel, rfl, by decide +kernel, by decide +kernel⟩
abbrev st_run : Stmt := top 101
theorem sc_run : FnScope ["machine", "turns", "turn", "place"] ["machine", "turns"] (defScope st_run) := ⟨rfl, rfl, rfl, by decide +kernel, rfl, by decide +kernel, by decide +kernel⟩
abbrev st_Reader___init__ : Stmt := inClass (top 106) 0
theorem sc_Reader___init__ : FnScope ["self", "numbers"] ["self", "numbers"] (defScope st_Reader___init__) := ⟨rfl, rfl, rfl, by decide +kernel, rfl, by decide +kernel, by decide +kernel⟩
abbrev st_Reader_has_more : Stmt := inClass (top 106) 1
theorem sc_Reader_has_more : FnScope ["self"] ["self"] (defScope st_Reader_has_more) := ⟨rfl, rfl, rfl, by decide +kernel, rfl, by decide +kernel, by decide +kernel⟩
abbrev st_Reader_take_number : Stmt := inClass (top 106) 2
theorem sc_Reader_take_number : FnScope ["self", "number"] ["self"] (defScope st_Reader_take_number) := ⟨rfl, rfl, rfl, by decide +kernel, rfl, by decide +kernel, by decide +kernel⟩
abbrev st_Reader_take_row : Stmt := inClass (top 106) 3
theorem sc_Reader_take_row : FnScope ["self", "how_many", "start"] ["self"] (defScope st_Reader_take_row) := ⟨rfl, rfl, rfl, by decide +kernel, rfl, by decide +kernel, by decide +kernel⟩
abbrev st_answer_begin : Stmt := top 107
theorem sc_answer_begin : FnScope ["machine", "reader"] ["machine", "reader"] (defScope st_answer_begin) := ⟨rfl, rfl, rfl, by decide +kernel, rfl, by decide +kernel, by decide +kernel⟩
abbrev st_answer_load : Stmt := top 108
theorem sc_answer_load : FnScope ["machine", "reader", "bank", "at", "n", "words", "start", "offset", "word"] ["machine", "reader"] (defScope st_answer_load) := ⟨rfl, rfl, rfl, by decide +kernel, rfl, by decide +kernel, by decide +kernel⟩
abbrev st_answer_run : Stmt := top 109
theorem sc_answer_run : FnScope ["machine", "reader", "n"] ["machine", "reader"] (defScope st_answer_run) := ⟨rfl, rfl, rfl, by decide +kernel, rfl, by decide +kernel, by decide +kernel⟩
abbrev st_answer_ask : Stmt := top 110
theorem sc_answer_ask : FnScope ["machine", "reader", "k"] ["machine", "reader"] (defScope st_answer_ask) := ⟨rfl, rfl, rfl, by decide +kernel, rfl, by decide +kernel, by decide +kernel⟩
abbrev st_answer_pulse : Stmt := top 111
theorem sc_answer_pulse : FnScope ["machine", "reader", "k", "down"] ["machine", "reader"] (defScope st_answer_pulse) := ⟨rfl, rfl, rfl, by decide +kernel, rfl, by decide +kernel, by decide +kernel⟩
abbrev st_answer_get : Stmt := top 112
theorem sc_answer_get : FnScope ["machine", "reader", "k"] ["machine", "reader"] (defScope st_answer_get) := ⟨rfl, rfl, rfl, by decide +kernel, rfl, by decide +kernel, by decide +kernel⟩
abbrev st_answer_set : Stmt := top 113
theorem sc_answer_set : FnScope ["machine", "reader", "k", "v"] ["machine", "reader"] (defScope st_answer_set) := ⟨rfl, rfl, rfl, by decide +kernel, rfl, by decide +kernel, by decide +kernel⟩
abbrev st_answer_look : Stmt := top 114
theorem sc_answer_look : FnScope ["machine", "reader", "kind", "k"] ["machine", "reader"] (defScope st_answer_look) := ⟨rfl, rfl, rfl, by decide +kernel, rfl, by decide +kernel, by decide +kernel⟩
abbrev st_answer_poke : Stmt := top 115
theorem sc_answer_poke : FnScope ["machine", "reader", "kind", "k", "v"] ["machine", "reader"] (defScope st_answer_poke) := ⟨rfl, rfl, rfl, by decide +kernel, rfl, by decide +kernel, by decide +kernel⟩
abbrev st_follow : Stmt := top 117
theorem sc_follow : FnScope ["machine", "calls", "reader", "given", "answer_call"] ["machine", "calls"] (defScope st_follow) := ⟨rfl, rfl, rfl, by decide +kernel, rfl, by decide +kernel, by decide +kernel⟩
abbrev st_answers : Stmt := top 118
theorem sc_answers : FnScope ["calls"] ["calls"] (defScope st_answers) := ⟨rfl, rfl, rfl, by decide +kernel, rfl, by decide +kernel, by decide +kernel⟩
/-- what the walk asks of the text as its top has made it -/
def firstNames : List Str := ["tc", "tc", "tc", "tc", "ccs", "tcf", "tcf", "tcf", "das", "lxch", "incr", "ads", "ca", "ca", "ca", "ca", "cs", "cs", "cs", "cs", "index_next", "dxch", "ts", "xch", "ad", "ad", "ad", "ad", "mask", "mask", "mask", "mask"]
def secondNames : List Str := ["by_channel", "by_channel", "by_channel", "by_channel", "dv", "bzf", "bzf", "bzf", "msu", "qxch", "aug", "dim", "dca", "dca", "dca", "dca", "dcs", "dcs", "dcs", "dcs", "index_extended", "index_extended", "index_extended", "index_extended", "su", "bzmf", "bzmf", "bzmf", "mp", "mp", "mp", "mp"]
def channelNames : List Str := ["read_in", "write_out", "rand", "wand", "ror", "wor", "rxor", "edrupt"]
def callNames : List Str := ["answer_begin", "answer_load", "answer_run", "answer_ask", "answer_pulse", "answer_get", "answer_set", "answer_look", "answer_poke"]
def callsOf (fs : List Addr) : List (Key × V) := (([1, 2, 3, 4, 5, 6, 7, 8, 9] : List Int).zip fs).map fun p => (Sum.inl p.1, V.ref p.2)
structure Txt (K : PySem.W.Frag) (mg : Str → Option Value) (C R : Addr) : Prop where
  d_wide : Def K mg "wide" st_wide
  d_narrow : Def K mg "narrow" st_narrow
  d_plus : Def K mg "plus" st_plus
  d_minus_wide : Def K mg "minus_wide" st_minus_wide
  d_minus_narrow : Def K mg "minus_narrow" st_minus_narrow
  d_overflow : Def K mg "overflow" st_overflow
  d_is_below : Def K mg "is_below" st_is_below
  d_amount : Def K mg "amount" st_amount
  d_number_of : Def K mg "number_of" st_number_of
  d_with_sign : Def K mg "with_sign" st_with_sign
  d_count_by : Def K mg "count_by" st_count_by
  d_ask_for : Def K mg "ask_for" st_ask_for
  d_pulse_down : Def K mg "pulse_down" st_pulse_down
  d_pulse_up : Def K mg "pulse_up" st_pulse_up
  m_Machine___init__ : MDef K C "__init__" "Machine.__init__" st_Machine___init__
  m_Machine_begin : MDef K C "begin" "Machine.begin" st_Machine_begin
  m_Machine_begin_turns : MDef K C "begin_turns" "Machine.begin_turns" st_Machine_begin_turns
  d_changing_number : Def K mg "changing_number" st_changing_number
  d_read_staying : Def K mg "read_staying" st_read_staying
  d_read_small_register : Def K mg "read_small_register" st_read_small_register
  d_read_narrow : Def K mg "read_narrow" st_read_narrow
  d_read_wide : Def K mg "read_wide" st_read_wide
  d_write_small_register : Def K mg "write_small_register" st_write_small_register
  d_edited : Def K mg "edited" st_edited
  d_write : Def K mg "write" st_write
  d_edit_anew : Def K mg "edit_anew" st_edit_anew
  d_read_channel : Def K mg "read_channel" st_read_channel
  d_write_channel : Def K mg "write_channel" st_write_channel
  d_shown_values : Def K mg "shown_values" st_shown_values
  d_set_value : Def K mg "set_value" st_set_value
  d_is_word : Def K mg "is_word" st_is_word
  d_look_at : Def K mg "look_at" st_look_at
  d_poke_in : Def K mg "poke_in" st_poke_in
  d_leave_out : Def K mg "leave_out" st_leave_out
  d_tc : Def K mg "tc" st_tc
  d_ccs : Def K mg "ccs" st_ccs
  d_tcf : Def K mg "tcf" st_tcf
  d_das : Def K mg "das" st_das
  d_lxch : Def K mg "lxch" st_lxch
  d_incr : Def K mg "incr" st_incr
  d_ads : Def K mg "ads" st_ads
  d_ca : Def K mg "ca" st_ca
  d_cs : Def K mg "cs" st_cs
  d_resume : Def K mg "resume" st_resume
  d_index_next : Def K mg "index_next" st_index_next
  d_dxch : Def K mg "dxch" st_dxch
  d_ts : Def K mg "ts" st_ts
  d_xch : Def K mg "xch" st_xch
  d_ad : Def K mg "ad" st_ad
  d_mask : Def K mg "mask" st_mask
  d_read_in : Def K mg "read_in" st_read_in
  d_write_out : Def K mg "write_out" st_write_out
  d_rand : Def K mg "rand" st_rand
  d_wand : Def K mg "wand" st_wand
  d_ror : Def K mg "ror" st_ror
  d_wor : Def K mg "wor" st_wor
  d_rxor : Def K mg "rxor" st_rxor
  d_edrupt : Def K mg "edrupt" st_edrupt
  d_by_channel : Def K mg "by_channel" st_by_channel
  d_dv : Def K mg "dv" st_dv
  d_bzf : Def K mg "bzf" st_bzf
  d_msu : Def K mg "msu" st_msu
  d_qxch : Def K mg "qxch" st_qxch
  d_aug : Def K mg "aug" st_aug
  d_dim : Def K mg "dim" st_dim
  d_edit_pair_anew : Def K mg "edit_pair_anew" st_edit_pair_anew
  d_dca : Def K mg "dca" st_dca
  d_dcs : Def K mg "dcs" st_dcs
  d_index_extended : Def K mg "index_extended" st_index_extended
  d_su : Def K mg "su" st_su
  d_bzmf : Def K mg "bzmf" st_bzmf
  d_mp : Def K mg "mp" st_mp
  d_interrupt_comes_in : Def K mg "interrupt_comes_in" st_interrupt_comes_in
  d_first_asked : Def K mg "first_asked" st_first_asked
  d_come_in : Def K mg "come_in" st_come_in
  d_take_instruction : Def K mg "take_instruction" st_take_instruction
  d_take_turn : Def K mg "take_turn" st_take_turn
  d_stands_still : Def K mg "stands_still" st_stands_still
  d_run : Def K mg "run" st_run
  m_Reader___init__ : MDef K R "__init__" "Reader.__init__" st_Reader___init__
  m_Reader_has_more : MDef K R "has_more" "Reader.has_more" st_Reader_has_more
  m_Reader_take_number : MDef K R "take_number" "Reader.take_number" st_Reader_take_number
  m_Reader_take_row : MDef K R "take_row" "Reader.take_row" st_Reader_take_row
  d_answer_begin : Def K mg "answer_begin" st_answer_begin
  d_answer_load : Def K mg "answer_load" st_answer_load
  d_answer_run : Def K mg "answer_run" st_answer_run
  d_answer_ask : Def K mg "answer_ask" st_answer_ask
  d_answer_pulse : Def K mg "answer_pulse" st_answer_pulse
  d_answer_get : Def K mg "answer_get" st_answer_get
  d_answer_set : Def K mg "answer_set" st_answer_set
  d_answer_look : Def K mg "answer_look" st_answer_look
  d_answer_poke : Def K mg "answer_poke" st_answer_poke
  d_follow : Def K mg "follow" st_follow
  d_answers : Def K mg "answers" st_answers
  g_MINUS_ONE : GI mg "MINUS_ONE" 65534
  g_CHANGING_WORDS : GI mg "CHANGING_WORDS" 2048
  g_BANKS : GI mg "BANKS" 40
  g_BANK_WORDS : GI mg "BANK_WORDS" 1024
  g_CHANNELS : GI mg "CHANNELS" 512
  g_WINDOW : GI mg "WINDOW" 768
  g_FIRST_STAYING : GI mg "FIRST_STAYING" 1024
  g_STAYING : GI mg "STAYING" 0
  g_CHANGING : GI mg "CHANGING" 1
  g_CHANNEL : GI mg "CHANNEL" 2
  g_LOWER_TEN_first : GI mg "LOWER_TEN_first" 1023
  g_LOWER_TEN_second : GI mg "LOWER_TEN_second" 1023
  g_LOWER_TWELVE : GI mg "LOWER_TWELVE" 4095
  g_DONE : GI mg "DONE" 0
  g_REFUSED : GI mg "REFUSED" (-1)
  g_LAST_VALUE : GI mg "LAST_VALUE" 8
  mc : McOk K C
  rc : Cls K R
  r_numbers : NoAttr K R "numbers"
  r_position : NoAttr K R "position"
  n_Machine : mg "Machine" = some (.ref C)
  mk_Machine : PySem.W.makesIn K C = true
  kp_Machine : PySem.W.keepIn K (.ref C) = true
  n_Reader : mg "Reader" = some (.ref R)
  mk_Reader : PySem.W.makesIn K R = true
  kp_Reader : PySem.W.keepIn K (.ref R) = true
  t_FIRST_LIST : Tup K mg "FIRST_LIST" firstNames
  t_SECOND_LIST : Tup K mg "SECOND_LIST" secondNames
  t_CHANNEL_LIST : Tup K mg "CHANNEL_LIST" channelNames
  k_ASKED_BY : KD K mg "ASKED_BY" [(Sum.inl 22, .int 3), (Sum.inl 23, .int 4), (Sum.inl 24, .int 2)]
  k_CALLS : ∃ fs : List Addr, Paired (fun n f => mg n = some (.ref f)) callNames fs ∧ KD K mg "CALLS" (callsOf fs)
  b_int : mg "int" = none
  b_abs : mg "abs" = none
  b_len : mg "len" = none
  b_range : mg "range" = none
  b_enumerate : mg "enumerate" = none
end Fb

set_option Elab.async false
set_option linter.all false
set_option maxRecDepth 100000
set_option maxHeartbeats 4000000
namespace Fb
open PySem L2
section
variable {P : Program} {w : World} {K : PySem.W.Frag} {mg : Str → Option Value} {base : Heap} {C R : Addr}
theorem absN (x : Nat) : (x : Int).natAbs = x := Int.natAbs_natCast x

abbrev sp_wide : Sp := spN1 (· < 32768) Sf58.wide
theorem has_wide (T : Txt K mg C R) : Has P w K mg base 1 "wide" ["word"] sp_wide := by
  refine mkHas T.d_wide sc_wide (fun _ _ _ _ _ _ us hl => match us, hl with | [_], _ => rfl) lenN1 fun f cdv A outer s H vs Q E hr h => ?_
  obtain ⟨i, x, rfl, rfl, hx, k⟩ := h
  refine ⟨_, (pss_one (ps_ret (pe_op op_or (pv 0) (pe_op op_shl (pe_op op_and (pv 0) pe_int) pe_int)))), ?_⟩
  refine ⟨_, rfl, _, rfl, _, _, rfl, rfl, _, _, rfl, rfl, ⟨by decide, by decide, ?_⟩, _, _, rfl, rfl, ?_⟩
  · try dsimp only
    rw [b14, absN]; omega
  · try dsimp only
    rw [py_wide hx]; exact k

abbrev sp_narrow : Sp := spN1 (· < 65536) Sf58.narrow
theorem has_narrow (T : Txt K mg C R) : Has P w K mg base 1 "narrow" ["word"] sp_narrow := by
  refine mkHas T.d_narrow sc_narrow (fun _ _ _ _ _ _ us hl => match us, hl with | [_], _ => rfl) lenN1 fun f cdv A outer s H vs Q E hr h => ?_
  obtain ⟨i, x, rfl, rfl, hx, k⟩ := h
  refine ⟨_, (pss_one (ps_ret (pe_op op_or (pe_op op_shr (pe_op op_and (pv 0) pe_int) pe_int) (pe_op op_and (pv 0) pe_int)))), ?_⟩
  refine ⟨_, rfl, _, _, rfl, rfl, _, _, rfl, rfl, (by show (0 : Int) ≤ _; decide), _, rfl, _, _, rfl, rfl, _, _, rfl, rfl, ?_⟩
  try dsimp only
  rw [py_narrow hx]; exact k

abbrev sp_plus : Sp := spN2 (fun x y => x < 65536 ∧ y < 65536) Sf58.plus
theorem has_plus (T : Txt K mg C R) : Has P w K mg base 1 "plus" ["one", "other"] sp_plus := by
  refine mkHas T.d_plus sc_plus (fun _ _ _ _ _ _ us hl => match us, hl with | [_, _], _ => rfl) lenN2 fun f cdv A outer s H vs Q E hr h => ?_
  obtain ⟨i, j, x, y, rfl, rfl, rfl, ⟨hx, hy⟩, k⟩ := h
  refine ⟨_, (pss_cons (ps_set (i := 2) sc_plus.nd rfl (Or.inl rfl) (pe_op op_add (pv 0) (pv 1))) (pss_one (ps_ret (pe_op op_add (pe_op op_and (pv 2) pe_int) (pe_op op_shr (pv 2) pe_int))))), ?_⟩
  refine ⟨_, rfl, _, rfl, _, _, rfl, rfl, _, rfl, _, _, rfl, rfl, _, rfl, _, _, rfl, rfl, (by show (0 : Int) ≤ _; decide), _, _, rfl, rfl, ?_⟩
  try dsimp only
  rw [py_plus hx hy]; exact k

abbrev sp_minus_wide : Sp := spN1 (· < 65536) Sf58.minus
theorem has_minus_wide (T : Txt K mg C R) : Has P w K mg base 1 "minus_wide" ["word"] sp_minus_wide := by
  refine mkHas T.d_minus_wide sc_minus_wide (fun _ _ _ _ _ _ us hl => match us, hl with | [_], _ => rfl) lenN1 fun f cdv A outer s H vs Q E hr h => ?_
  obtain ⟨i, x, rfl, rfl, hx, k⟩ := h
  refine ⟨_, (pss_one (ps_ret (pe_op op_xor (pv 0) pe_int))), ?_⟩
  refine ⟨_, rfl, _, _, rfl, rfl, ?_⟩
  try dsimp only
  rw [py_minus hx]; exact k

abbrev mnar (x : Nat) : Nat := 32767 - x
abbrev sp_minus_narrow : Sp := spN1 (· < 32768) mnar
theorem has_minus_narrow (T : Txt K mg C R) : Has P w K mg base 1 "minus_narrow" ["word"] sp_minus_narrow := by
  refine mkHas T.d_minus_narrow sc_minus_narrow (fun _ _ _ _ _ _ us hl => match us, hl with | [_], _ => rfl) lenN1 fun f cdv A outer s H vs Q E hr h => ?_
  obtain ⟨i, x, rfl, rfl, hx, k⟩ := h
  refine ⟨_, (pss_one (ps_ret (pe_op op_xor (pv 0) pe_int))), ?_⟩
  refine ⟨_, rfl, _, _, rfl, rfl, ?_⟩
  try dsimp only
  rw [py_minusN hx]; exact k

abbrev ovf (x : Nat) : Nat := Sf58.ofSign (Sf58.over x)
abbrev sp_overflow : Sp := spN1 (· < 65536) ovf
theorem has_overflow (T : Txt K mg C R) : Has P w K mg base 1 "overflow" ["word"] sp_overflow := by
  refine mkHas T.d_overflow sc_overflow (fun _ _ _ _ _ _ us hl => match us, hl with | [_], _ => rfl) lenN1 fun f cdv A outer s H vs Q E hr h => ?_
  obtain ⟨i, x, rfl, rfl, hx, k⟩ := h
  refine ⟨_, (pss_cons (ps_set (i := 1) sc_overflow.nd rfl (Or.inl rfl) (pe_op op_shr (pv 0) pe_int)) (pss_cons (ps_if (pt_cmpR op_eq (pv 1) pe_int (nomark _)) (pss_one (ps_ret pe_int)) pss_nil) (pss_cons (ps_if (pt_cmpR op_eq (pv 1) pe_int (nomark _)) (pss_one (ps_ret (pgi T.g_MINUS_ONE))) pss_nil) (pss_one (ps_ret pe_int))))), ?_⟩
  refine ⟨_, rfl, _, _, rfl, rfl, (by show (0 : Int) ≤ _; decide), _, rfl, rfl, _, rfl, iteI (fun h => ?_) (fun h1 => ⟨_, rfl, rfl, _, rfl, iteI (fun h => ?_) (fun h2 => ?_)⟩)⟩
  · rw [sr14] at h
    have e := over_up (x := x) (by omega)
    dsimp only [ovf] at k
    rw [e] at k
    exact k
  · rw [sr14] at h
    have e := over_down (x := x) (by omega)
    dsimp only [ovf] at k
    rw [e] at k
    exact k
  · rw [sr14] at h1 h2
    have e := over_not (x := x) hx (by omega) (by omega)
    dsimp only [ovf] at k
    rw [e] at k
    exact k

theorem py_below (x : Nat) : (!decide (V.int (Builtin.bitAnd (x : Int) 16384) = V.int 0)) = decide (x / 16384 % 2 = 1) := by
  rw [b14, Bool.eq_iff_iff]
  simp
  omega
abbrev isb (x : Nat) : Bool := decide (x / 16384 % 2 = 1)
abbrev sp_is_below : Sp := spB1 (· < 32768) isb
theorem has_is_below (T : Txt K mg C R) : Has P w K mg base 1 "is_below" ["word"] sp_is_below := by
  refine mkHas T.d_is_below sc_is_below (fun _ _ _ _ _ _ us hl => match us, hl with | [_], _ => rfl) lenB1 fun f cdv A outer s H vs Q E hr h => ?_
  obtain ⟨i, x, rfl, rfl, hx, k⟩ := h
  refine ⟨_, (pss_one (ps_ret (pe_cmpR op_ne (pe_op op_and (pv 0) pe_int) pe_int (nomark _)))), ?_⟩
  refine ⟨_, rfl, _, _, rfl, rfl, rfl, ?_⟩
  try dsimp only
  rw [py_below]; exact k

theorem value_neg {x : Nat} (hx : x < 32768) (h : x / 16384 % 2 = 1) : Sf58.value x = -((32767 - x : Nat) : Int) := by
  unfold Sf58.value
  rw [if_neg (by omega)]
  omega
theorem value_pos {x : Nat} (hx : x < 32768) (h : ¬ x / 16384 % 2 = 1) : Sf58.value x = (x : Int) := by
  unfold Sf58.value
  rw [if_pos (by omega)]
  omega
abbrev amt (x : Nat) : Nat := (Sf58.value x).natAbs
abbrev sp_amount : Sp := spN1 (· < 32768) amt
theorem has_amount (T : Txt K mg C R) : Has P w K mg base 2 "amount" ["word"] sp_amount := by
  refine mkHas T.d_amount sc_amount (fun _ _ _ _ _ _ us hl => match us, hl with | [_], _ => rfl) lenN1 fun f cdv A outer s H vs Q E hr h => ?_
  obtain ⟨i, x, rfl, rfl, hx, k⟩ := h
  refine ⟨_, (pss_cons (ps_if (pt_val (pc (has_is_below T) hr (pa_cons (pv 0) pa_nil))) (pss_one (ps_ret (pc (has_minus_narrow T) hr (pa_cons (pv 0) pa_nil)))) pss_nil) (pss_one (ps_ret (pv 0)))), ?_⟩
  try dsimp only [amt] at k hx
  refine ⟨_, rfl, _, _, rfl, rfl, hx, _, rfl, iteD (fun h => ?_) (fun h => ?_)⟩
  · rw [value_neg hx h, Int.natAbs_neg, absN] at k
    exact ⟨_, rfl, _, _, rfl, rfl, hx, k⟩
  · rw [value_pos hx h, absN] at k
    exact ⟨_, rfl, k⟩
abbrev sp_number_of : Sp := spZ1 (· < 32768) Sf58.value
theorem has_number_of (T : Txt K mg C R) : Has P w K mg base 2 "number_of" ["word"] sp_number_of := by
  refine mkHas T.d_number_of sc_number_of (fun _ _ _ _ _ _ us hl => match us, hl with | [_], _ => rfl) lenZ1 fun f cdv A outer s H vs Q E hr h => ?_
  obtain ⟨i, x, rfl, rfl, hx, k⟩ := h
  refine ⟨_, (pss_cons (ps_if (pt_val (pc (has_is_below T) hr (pa_cons (pv 0) pa_nil))) (pss_one (ps_ret (pe_un un_neg (pc (has_minus_narrow T) hr (pa_cons (pv 0) pa_nil))))) pss_nil) (pss_one (ps_ret (pv 0)))), ?_⟩
  try dsimp only [amt] at k hx
  refine ⟨_, rfl, _, _, rfl, rfl, hx, _, rfl, iteD (fun h => ?_) (fun h => ?_)⟩
  · rw [value_neg hx h] at k
    exact ⟨_, rfl, _, _, rfl, rfl, hx, _, rfl, k⟩
  · rw [value_pos hx h] at k
    exact ⟨_, rfl, k⟩
def sp_with_sign : Sp := fun vs H Q _ => ∃ (i : Int) (n : Nat) (b : Bool), vs = [.int i, .bl b] ∧ i = n ∧ n < 16384 ∧ Q (.int (Sf58.word b n)) H
theorem has_with_sign (T : Txt K mg C R) : Has P w K mg base 2 "with_sign" ["size", "below"] sp_with_sign := by
  refine mkHas T.d_with_sign sc_with_sign (fun _ _ _ _ _ _ us hl => match us, hl with | [_, _], _ => rfl) (by rintro vs H Q E ⟨i, n, b, rfl, _⟩; rfl) fun f cdv A outer s H vs Q E hr h => ?_
  obtain ⟨i, n, b, rfl, rfl, hn, k⟩ := h
  refine ⟨_, (pss_cons (ps_if (pt_val (pv 1)) (pss_one (ps_ret (pc (has_minus_narrow T) hr (pa_cons (pv 0) pa_nil)))) pss_nil) (pss_one (ps_ret (pv 0)))), ?_⟩
  refine ⟨_, rfl, _, rfl, iteB (fun h => ?_) (fun h => ?_)⟩
  · subst h
    refine ⟨_, rfl, _, _, rfl, rfl, by omega, ?_⟩
    have e : Sf58.word true n = 32767 - n := by unfold Sf58.word; rw [if_pos rfl, Nat.mod_eq_of_lt hn]
    rw [e] at k
    exact k
  · subst h
    refine ⟨_, rfl, ?_⟩
    have e : Sf58.word false n = n := by unfold Sf58.word; rw [if_neg (by decide), Nat.mod_eq_of_lt hn]
    rw [e] at k
    exact k
end
end Fb

set_option Elab.async false
set_option linter.all false
set_option maxRecDepth 100000
set_option maxHeartbeats 4000000
namespace Fb
open PySem L2
section
variable {P : Program} {w : World} {K : PySem.W.Frag} {mg : Str → Option Value} {base : Heap} {C R : Addr}

abbrev sp_changing_number (C : Addr) : Sp := spR C (fun _ k => k < 1024) num
theorem has_changing_number (T : Txt K mg C R) : Has P w K mg base 1 "changing_number" ["machine", "place"] (sp_changing_number C) := by
  refine mkHas T.d_changing_number sc_changing_number (fun _ _ _ _ _ _ us hl => match us, hl with | [_, _], _ => rfl) lenR fun f cdv A outer s0 H vs Q E hr h => ?_
  obtain ⟨m, s, i, k, rfl, hM, rfl, hk, kk⟩ := h
  refine ⟨_, (pss_cons (ps_if (pt_cmpR op_lt (pv 1) (pgi T.g_WINDOW) (nomark _)) (pss_one (ps_ret (pv 1))) pss_nil) (pss_one (ps_ret (pe_op op_add (pe_op op_sub (pv 1) (pgi T.g_WINDOW)) (pe_op op_mul pe_int (pm .eb T.mc (pv 0))))))), ?_⟩
  refine ⟨_, rfl, _, _, rfl, rfl, _, rfl, iteD (fun h => ?_) (fun h => ?_)⟩
  · have e : num s k = k := by unfold num; rw [if_pos (by omega)]
    rw [e] at kk
    exact ⟨_, rfl, kk⟩
  · have e : ((num s k : Nat) : Int) = (k : Int) - 768 + 256 * (s.eb : Int) := by unfold num; rw [if_neg (by omega)]; omega
    rw [e] at kk
    exact ⟨_, rfl, _, _, rfl, rfl, _, rfl, m, s, rfl, hM, _, _, rfl, rfl, .inl ⟨by decide, by decide⟩, _, _, rfl, rfl, kk⟩

abbrev sp_read_staying (C : Addr) : Sp := spR C (fun _ k => 1024 ≤ k ∧ k < 4096) Sf58.St.rd
theorem has_read_staying (T : Txt K mg C R) : Has P w K mg base 1 "read_staying" ["machine", "place"] (sp_read_staying C) := by
  refine mkHas T.d_read_staying sc_read_staying (fun _ _ _ _ _ _ us hl => match us, hl with | [_, _], _ => rfl) lenR fun f cdv A outer s0 H vs Q E hr h => ?_
  obtain ⟨m, s, i, k, rfl, hM, rfl, ⟨hk, hk2⟩, kk⟩ := h
  refine ⟨_, (pss_cons (ps_if (pt_cmpR op_ge (pv 1) pe_int (nomark _)) (pss_one (ps_ret (pe_ix ix_list (pm .staying T.mc (pv 0)) (pv 1) (fun _ _ => rfl)))) pss_nil) (pss_cons (ps_set (i := 2) sc_read_staying.nd rfl (Or.inl rfl) (pm .fb T.mc (pv 0))) (pss_cons (ps_if (PW.pt (pw_and (pt_cmpR op_ge (pv 2) pe_int (nomark _)) (pw_and1 (pt_truth (pe_op op_and (pe_ix ix_list (pm .channels T.mc (pv 0)) pe_int (fun _ _ => rfl)) pe_int) (fun _ => rfl))))) (pss_one (ps_set (i := 2) sc_read_staying.nd rfl (Or.inl rfl) (pe_op op_add (pv 2) pe_int))) pss_nil) (pss_one (ps_ret (pe_ix ix_list (pm .staying T.mc (pv 0)) (pe_op op_sub (pe_op op_add (pe_op op_mul (pv 2) pe_int) (pv 1)) (pgi T.g_FIRST_STAYING)) (fun _ _ => rfl))))))), ?_⟩
  have hb := hM.good.bank
  have hfb := hM.good.fb
  rw [rd_high (by omega)] at kk
  refine ⟨_, rfl, _, _, rfl, rfl, _, rfl, iteD (fun h => ?_) (fun h => ?_)⟩
  · rw [if_neg (by omega)] at kk
    exact ⟨_, rfl, m, s, rfl, hM, _, rfl, ixS (j := k) hM rfl (by omega) kk⟩
  · rw [if_pos (by omega)] at kk
    refine ⟨_, rfl, m, s, rfl, hM, _, rfl, _, _, rfl, rfl, _, rfl, iteD (fun h24 => ?_) (fun h24 => ?_)⟩
    · refine ⟨_, rfl, m, s, rfl, hM, ?_⟩
      dsimp only [tC]
      refine ixH (j := 7) hM rfl (by decide) ?_
      refine ⟨_, _, rfl, rfl, _, rfl, iteB (fun h7 => ?_) (fun h7 => ?_)⟩
      · rw [b6] at h7
        have e : s.bank = s.fb + 8 := by
          unfold Sf58.St.bank
          rw [if_pos ⟨by omega, by simp at h7; omega⟩]
        rw [e] at kk
        exact ⟨_, rfl, _, _, rfl, rfl, _, rfl, m, s, rfl, hM, _, rfl, _, _, rfl, rfl, .inl ⟨by omega, by omega⟩, _, rfl, _, _, rfl, rfl, _, _, rfl, rfl, ixS (j := 1024 * (s.fb + 8) + (k - 1024)) hM (by omega) (by omega) kk⟩
      · rw [b6] at h7
        have e : s.bank = s.fb := by
          unfold Sf58.St.bank
          rw [if_neg (by simp at h7; omega)]
        rw [e] at kk
        exact ⟨_, rfl, m, s, rfl, hM, _, rfl, _, _, rfl, rfl, .inl ⟨by omega, by omega⟩, _, rfl, _, _, rfl, rfl, _, _, rfl, rfl, ixS (j := 1024 * s.fb + (k - 1024)) hM (by omega) (by omega) kk⟩
    · have e : s.bank = s.fb := by
        unfold Sf58.St.bank
        rw [if_neg (by omega)]
      rw [e] at kk
      refine iteF ?_
      exact ⟨_, rfl, m, s, rfl, hM, _, rfl, _, _, rfl, rfl, .inl ⟨by omega, by omega⟩, _, rfl, _, _, rfl, rfl, _, _, rfl, rfl, ixS (j := 1024 * s.fb + (k - 1024)) hM (by omega) (by omega) kk⟩

abbrev sp_read_small_register (C : Addr) : Sp := spR C (fun _ n => n < 8 ∧ n ≠ 0 ∧ n ≠ 2) regRd
theorem has_read_small_register (T : Txt K mg C R) : Has P w K mg base 1 "read_small_register" ["machine", "number"] (sp_read_small_register C) := by
  refine mkHas T.d_read_small_register sc_read_small_register (fun _ _ _ _ _ _ us hl => match us, hl with | [_, _], _ => rfl) lenR fun f cdv A outer s0 H vs Q E hr h => ?_
  obtain ⟨m, s, i, n, rfl, hM, rfl, ⟨hn, hn0, hn2⟩, kk⟩ := h
  refine ⟨_, (pss_cons (ps_if (pt_cmpR op_eq (pv 1) pe_int (nomark _)) (pss_one (ps_ret (pm .l T.mc (pv 0)))) pss_nil) (pss_cons (ps_if (pt_cmpR op_eq (pv 1) pe_int (nomark _)) (pss_one (ps_ret (pe_op op_shl (pm .eb T.mc (pv 0)) pe_int))) pss_nil) (pss_cons (ps_if (pt_cmpR op_eq (pv 1) pe_int (nomark _)) (pss_one (ps_ret (pe_op op_shl (pm .fb T.mc (pv 0)) pe_int))) pss_nil) (pss_cons (ps_if (pt_cmpR op_eq (pv 1) pe_int (nomark _)) (pss_one (ps_ret (pm .z T.mc (pv 0)))) pss_nil) (pss_cons (ps_if (pt_cmpR op_eq (pv 1) pe_int (nomark _)) (pss_one (ps_ret (pe_op op_or (pe_op op_shl (pm .fb T.mc (pv 0)) pe_int) (pm .eb T.mc (pv 0))))) pss_nil) (pss_one (ps_ret pe_int))))))), ?_⟩
  have heb := hM.good.eb
  have hfb := hM.good.fb
  refine ⟨_, rfl, rfl, _, rfl, iteI (fun h => ?_) (fun h1 => ⟨_, rfl, rfl, _, rfl, iteI (fun h => ?_) (fun h3 => ⟨_, rfl, rfl, _, rfl, iteI (fun h => ?_) (fun h4 => ⟨_, rfl, rfl, _, rfl, iteI (fun h => ?_) (fun h5 => ⟨_, rfl, rfl, _, rfl, iteI (fun h => ?_) (fun h6 => ?_)⟩)⟩)⟩)⟩)⟩
  · obtain rfl : n = 1 := by omega
    exact ⟨_, rfl, m, s, rfl, hM, kk⟩
  · obtain rfl : n = 3 := by omega
    have e : ((regRd s 3 : Nat) : Int) = (s.eb : Int) * 2 ^ (8 : Int).toNat := by rw [sl8]; show ((256 * s.eb : Nat) : Int) = _; omega
    rw [e] at kk
    exact ⟨_, rfl, m, s, rfl, hM, _, _, rfl, rfl, ⟨by decide, by decide, by omega⟩, kk⟩
  · obtain rfl : n = 4 := by omega
    have e : ((regRd s 4 : Nat) : Int) = (s.fb : Int) * 2 ^ (10 : Int).toNat := by rw [sl10]; show ((1024 * s.fb : Nat) : Int) = _; omega
    rw [e] at kk
    exact ⟨_, rfl, m, s, rfl, hM, _, _, rfl, rfl, ⟨by decide, by decide, by omega⟩, kk⟩
  · obtain rfl : n = 5 := by omega
    exact ⟨_, rfl, m, s, rfl, hM, kk⟩
  · obtain rfl : n = 6 := by omega
    have e : ((regRd s 6 : Nat) : Int) = Builtin.bitOr ((s.fb : Int) * 2 ^ (10 : Int).toNat) (s.eb : Int) := by
      rw [sl10, orN, or_add 10 (by omega) (by omega)]; show ((1024 * s.fb + s.eb : Nat) : Int) = _; omega
    rw [e] at kk
    exact ⟨_, rfl, m, s, rfl, hM, _, _, rfl, rfl, ⟨by decide, by decide, by omega⟩, _, rfl, m, s, rfl, hM, _, _, rfl, rfl, kk⟩
  · obtain rfl : n = 7 := by omega
    exact kk

abbrev sp_read_narrow (C : Addr) : Sp := spR C (fun _ k => k < 4096) Sf58.St.rd
theorem has_read_narrow (T : Txt K mg C R) : Has P w K mg base 2 "read_narrow" ["machine", "place"] (sp_read_narrow C) := by
  refine mkHas T.d_read_narrow sc_read_narrow (fun _ _ _ _ _ _ us hl => match us, hl with | [_, _], _ => rfl) lenR fun f cdv A outer s0 H vs Q E hr h => ?_
  obtain ⟨m, s, i, k, rfl, hM, rfl, hk, kk⟩ := h
  refine ⟨_, (pss_cons (ps_if (pt_cmpR op_ge (pv 1) (pgi T.g_FIRST_STAYING) (nomark _)) (pss_one (ps_ret (pc (has_read_staying T) hr (pa_cons (pv 0) (pa_cons (pv 1) pa_nil))))) pss_nil) (pss_cons (ps_set (i := 2) sc_read_narrow.nd rfl (Or.inl rfl) (pc (has_changing_number T) hr (pa_cons (pv 0) (pa_cons (pv 1) pa_nil)))) (pss_cons (ps_if (pt_cmpR op_gt (pv 2) pe_int (nomark _)) (pss_one (ps_ret (pe_ix ix_list (pm .changing T.mc (pv 0)) (pv 2) (fun _ _ => rfl)))) pss_nil) (pss_cons (ps_if (pt_cmpR op_eq (pv 2) pe_int (nomark _)) (pss_one (ps_ret (pc (has_narrow T) hr (pa_cons (pm .a T.mc (pv 0)) pa_nil)))) pss_nil) (pss_cons (ps_if (pt_cmpR op_eq (pv 2) pe_int (nomark _)) (pss_one (ps_ret (pc (has_narrow T) hr (pa_cons (pm .q T.mc (pv 0)) pa_nil)))) pss_nil) (pss_one (ps_ret (pc (has_read_small_register T) hr (pa_cons (pv 0) (pa_cons (pv 2) pa_nil)))))))))), ?_⟩
  refine ⟨_, rfl, _, _, rfl, rfl, _, rfl, iteD (fun h => ?_) (fun h => ?_)⟩
  · exact ⟨_, rfl, _, rfl, m, s, _, k, rfl, hM, rfl, ⟨by omega, hk⟩, kk⟩
  · have hk1 : k < 1024 := by omega
    have hn := num_lt hM.good hk1
    rw [rd_low hk1] at kk
    refine ⟨_, rfl, _, rfl, m, s, _, k, rfl, hM, rfl, hk1, _, rfl, _, _, rfl, rfl, _, rfl, iteD (fun h7 => ?_) (fun h7 => ?_)⟩
    · rw [if_neg (by omega)] at kk
      exact ⟨_, rfl, m, s, rfl, hM, _, rfl, ixC (j := num s k) hM rfl hn kk⟩
    · rw [if_pos (by omega)] at kk
      refine ⟨_, rfl, rfl, _, rfl, iteI (fun h0 => ?_) (fun h0 => ⟨_, rfl, rfl, _, rfl, iteI (fun h2 => ?_) (fun h2 => ?_)⟩)⟩
      · have e : num s k = 0 := by omega
        rw [e] at kk
        exact ⟨_, rfl, m, s, rfl, hM, _, s.a, rfl, rfl, hM.good.a, kk⟩
      · have e : num s k = 2 := by omega
        rw [e] at kk
        exact ⟨_, rfl, m, s, rfl, hM, _, s.q, rfl, rfl, hM.good.q, kk⟩
      · exact ⟨_, rfl, _, rfl, m, s, _, num s k, rfl, hM, rfl, ⟨by omega, by omega, by omega⟩, kk⟩

abbrev sp_read_wide (C : Addr) : Sp := spR C (fun _ k => k < 4096) Sf58.St.rdWide
theorem has_read_wide (T : Txt K mg C R) : Has P w K mg base 2 "read_wide" ["machine", "place"] (sp_read_wide C) := by
  refine mkHas T.d_read_wide sc_read_wide (fun _ _ _ _ _ _ us hl => match us, hl with | [_, _], _ => rfl) lenR fun f cdv A outer s0 H vs Q E hr h => ?_
  obtain ⟨m, s, i, k, rfl, hM, rfl, hk, kk⟩ := h
  refine ⟨_, (pss_cons (ps_if (pt_cmpR op_ge (pv 1) (pgi T.g_FIRST_STAYING) (nomark _)) (pss_one (ps_ret (pc (has_wide T) hr (pa_cons (pc (has_read_staying T) hr (pa_cons (pv 0) (pa_cons (pv 1) pa_nil))) pa_nil)))) pss_nil) (pss_cons (ps_set (i := 2) sc_read_wide.nd rfl (Or.inl rfl) (pc (has_changing_number T) hr (pa_cons (pv 0) (pa_cons (pv 1) pa_nil)))) (pss_cons (ps_if (pt_cmpR op_gt (pv 2) pe_int (nomark _)) (pss_one (ps_ret (pc (has_wide T) hr (pa_cons (pe_ix ix_list (pm .changing T.mc (pv 0)) (pv 2) (fun _ _ => rfl)) pa_nil)))) pss_nil) (pss_cons (ps_if (pt_cmpR op_eq (pv 2) pe_int (nomark _)) (pss_one (ps_ret (pm .a T.mc (pv 0)))) pss_nil) (pss_cons (ps_if (pt_cmpR op_eq (pv 2) pe_int (nomark _)) (pss_one (ps_ret (pm .q T.mc (pv 0)))) pss_nil) (pss_one (ps_ret (pc (has_wide T) hr (pa_cons (pc (has_read_small_register T) hr (pa_cons (pv 0) (pa_cons (pv 2) pa_nil))) pa_nil))))))))), ?_⟩
  refine ⟨_, rfl, _, _, rfl, rfl, _, rfl, iteD (fun h => ?_) (fun h => ?_)⟩
  · rw [rdWide_high (by omega)] at kk
    exact ⟨_, rfl, _, rfl, m, s, _, k, rfl, hM, rfl, ⟨by omega, hk⟩, _, _, rfl, rfl, hM.good.rd k, kk⟩
  · have hk1 : k < 1024 := by omega
    have hn := num_lt hM.good hk1
    rw [rdWide_low hk1] at kk
    refine ⟨_, rfl, _, rfl, m, s, _, k, rfl, hM, rfl, hk1, _, rfl, _, _, rfl, rfl, _, rfl, iteD (fun h7 => ?_) (fun h7 => ?_)⟩
    · rw [if_neg (by omega)] at kk
      exact ⟨_, rfl, m, s, rfl, hM, _, rfl, ixC (j := num s k) hM rfl hn ⟨_, _, rfl, rfl, hM.good.er _, kk⟩⟩
    · rw [if_pos (by omega)] at kk
      unfold regRdW at kk
      refine ⟨_, rfl, rfl, _, rfl, iteI (fun h0 => ?_) (fun h0 => ⟨_, rfl, rfl, _, rfl, iteI (fun h2 => ?_) (fun h2 => ?_)⟩)⟩
      · rw [if_pos (by omega)] at kk
        exact ⟨_, rfl, m, s, rfl, hM, kk⟩
      · rw [if_neg (by omega), if_pos (by omega)] at kk
        exact ⟨_, rfl, m, s, rfl, hM, kk⟩
      · rw [if_neg (by omega), if_neg (by omega)] at kk
        exact ⟨_, rfl, _, rfl, m, s, _, num s k, rfl, hM, rfl, ⟨by omega, by omega, by omega⟩, _, _, rfl, rfl, regRd_lt hM.good _, kk⟩
end
end Fb

set_option Elab.async false
set_option linter.all false
set_option maxRecDepth 100000
set_option maxHeartbeats 4000000
namespace Fb
open PySem L2
section
variable {P : Program} {w : World} {K : PySem.W.Frag} {mg : Str → Option Value} {base : Heap} {C R : Addr}

abbrev sp_write_small_register (C : Addr) : Sp := spW2 C (fun _ n x => n < 8 ∧ n ≠ 0 ∧ n ≠ 2 ∧ x < 32768) regWr
theorem has_write_small_register (T : Txt K mg C R) : Has P w K mg base 1 "write_small_register" ["machine", "number", "word"] (sp_write_small_register C) := by
  refine mkHas T.d_write_small_register sc_write_small_register (fun _ _ _ _ _ _ us hl => match us, hl with | [_, _, _], _ => rfl) lenW2 fun f cdv A outer s0 H vs Q E hr h => ?_
  obtain ⟨m, s, i, j, n, x, rfl, hM, rfl, rfl, ⟨hn, hn0, hn2, hx⟩, kk⟩ := h
  refine ⟨_, (pss_one (ps_if (pt_cmpR op_eq (pv 1) pe_int (nomark _)) (pss_one (psm .l T.mc (pv 0) (pv 2))) (pss_one (ps_if (pt_cmpR op_eq (pv 1) pe_int (nomark _)) (pss_one (psm .eb T.mc (pv 0) (pe_op op_and (pe_op op_shr (pv 2) pe_int) pe_int))) (pss_one (ps_if (pt_cmpR op_eq (pv 1) pe_int (nomark _)) (pss_one (psm .fb T.mc (pv 0) (pe_op op_shr (pv 2) pe_int))) (pss_one (ps_if (pt_cmpR op_eq (pv 1) pe_int (nomark _)) (pss_one (psm .z T.mc (pv 0) (pe_op op_and (pv 2) pe_int))) (pss_one (ps_if (pt_cmpR op_eq (pv 1) pe_int (nomark _)) (pss_cons (psm .fb T.mc (pv 0) (pe_op op_shr (pv 2) pe_int)) (pss_one (psm .eb T.mc (pv 0) (pe_op op_and (pv 2) pe_int)))) pss_nil)))))))))), ?_⟩
  refine ⟨_, rfl, rfl, _, rfl, iteI (fun h => ?_) (fun h1 => ⟨_, rfl, rfl, _, rfl, iteI (fun h => ?_) (fun h3 => ⟨_, rfl, rfl, _, rfl, iteI (fun h => ?_) (fun h4 => ⟨_, rfl, rfl, _, rfl, iteI (fun h => ?_) (fun h5 => ⟨_, rfl, rfl, _, rfl, iteI (fun h => ?_) (fun h6 => ?_)⟩)⟩)⟩)⟩)⟩
  · obtain rfl : n = 1 := by omega
    exact ⟨_, rfl, _, rfl, m, s, _, rfl, hM, set_l rfl hx, fun H1 h1 f1 => kk H1 h1 f1⟩
  · obtain rfl : n = 3 := by omega
    exact ⟨_, rfl, _, _, rfl, rfl, (by show (0 : Int) ≤ _; decide), _, _, rfl, rfl, _, rfl, m, s, _, rfl, hM, set_eb (n := x / 256 % 8) (by rw [sr8, m3]; omega) (by omega), fun H1 h1 f1 => kk H1 h1 f1⟩
  · obtain rfl : n = 4 := by omega
    exact ⟨_, rfl, _, _, rfl, rfl, (by show (0 : Int) ≤ _; decide), _, rfl, m, s, _, rfl, hM, set_fb (n := x / 1024) (by rw [sr10]) (by omega), fun H1 h1 f1 => kk H1 h1 f1⟩
  · obtain rfl : n = 5 := by omega
    exact ⟨_, rfl, _, _, rfl, rfl, _, rfl, m, s, _, rfl, hM, set_z (n := x % 4096) (by rw [m12]; omega) (by omega), fun H1 h1 f1 => kk H1 h1 f1⟩
  · obtain rfl : n = 6 := by omega
    refine ⟨_, rfl, _, _, rfl, rfl, (by show (0 : Int) ≤ _; decide), _, rfl, m, s, _, rfl, hM, set_fb (n := x / 1024) (by rw [sr10]) (by omega), fun H1 hM1 f1 => ?_⟩
    exact ⟨_, rfl, _, _, rfl, rfl, _, rfl, m, _, _, rfl, hM1, set_eb (n := x % 8) (by rw [m3]; omega) (by omega), fun H2 hM2 f2 => kk H2 hM2 (f1.trans f2)⟩
  · obtain rfl : n = 7 := by omega
    exact kk H hM (Fr.refl m H)

abbrev sp_edited : Sp := spN2 (fun n x => x < 32768) Sf58.edited
theorem has_edited (T : Txt K mg C R) : Has P w K mg base 1 "edited" ["number", "word"] sp_edited := by
  refine mkHas T.d_edited sc_edited (fun _ _ _ _ _ _ us hl => match us, hl with | [_, _], _ => rfl) lenN2 fun f cdv A outer s0 H vs Q E hr h => ?_
  obtain ⟨i, j, n, x, rfl, rfl, rfl, hx, kk⟩ := h
  refine ⟨_, (pss_cons (ps_if (pt_cmpR op_gt (pv 0) pe_int (nomark _)) (pss_one (ps_ret (pv 1))) pss_nil) (pss_cons (ps_if (pt_cmpR op_eq (pv 0) pe_int (nomark _)) (pss_one (ps_ret (pe_op op_or (pe_op op_shr (pv 1) pe_int) (pe_op op_shl (pe_op op_and (pv 1) pe_int) pe_int)))) pss_nil) (pss_cons (ps_if (pt_cmpR op_eq (pv 0) pe_int (nomark _)) (pss_one (ps_ret (pe_op op_or (pe_op op_shr (pv 1) pe_int) (pe_op op_and (pv 1) pe_int)))) pss_nil) (pss_cons (ps_if (pt_cmpR op_eq (pv 0) pe_int (nomark _)) (pss_one (ps_ret (pe_op op_or (pe_op op_and (pe_op op_shl (pv 1) pe_int) pe_int) (pe_op op_shr (pv 1) pe_int)))) pss_nil) (pss_cons (ps_if (pt_cmpR op_eq (pv 0) pe_int (nomark _)) (pss_one (ps_ret (pe_op op_and (pe_op op_shr (pv 1) pe_int) pe_int))) pss_nil) (pss_one (ps_ret (pv 1)))))))), ?_⟩
  unfold Sf58.edited at kk
  refine ⟨_, rfl, _, _, rfl, rfl, _, rfl, iteD (fun h => ?_) (fun h19 => ⟨_, rfl, rfl, _, rfl, iteI (fun h => ?_) (fun h16 => ⟨_, rfl, rfl, _, rfl, iteI (fun h => ?_) (fun h17 => ⟨_, rfl, rfl, _, rfl, iteI (fun h => ?_) (fun h18 => ⟨_, rfl, rfl, _, rfl, iteI (fun h => ?_) (fun h20 => ?_)⟩)⟩)⟩)⟩)⟩
  · rw [if_neg (by omega), if_neg (by omega), if_neg (by omega), if_neg (by omega)] at kk
    exact ⟨_, rfl, kk⟩
  · rw [if_pos (by omega)] at kk
    have e : ((x % 2 * 16384 + x / 2 : Nat) : Int) = Builtin.bitOr ((x : Int) / 2 ^ (1 : Int).toNat) (Builtin.bitAnd (x : Int) 1 * 2 ^ (14 : Int).toNat) := by
      rw [sr1, m1, show (x : Int) % 2 = ((x % 2 : Nat) : Int) by omega, sl14, orN, or_add' 14 (by omega) (by omega)]; omega
    rw [e] at kk
    exact ⟨_, rfl, _, _, rfl, rfl, (by show (0 : Int) ≤ _; decide), _, rfl, _, _, rfl, rfl, _, _, rfl, rfl, ⟨by decide, by decide, by rw [m1]; omega⟩, _, _, rfl, rfl, kk⟩
  · rw [if_neg (by omega), if_pos (by omega)] at kk
    have e : ((x / 16384 * 16384 + x / 2 : Nat) : Int) = Builtin.bitOr ((x : Int) / 2 ^ (1 : Int).toNat) (Builtin.bitAnd (x : Int) 16384) := by
      rw [sr1, b14, orN, or_add' 14 (by omega) (by omega)]; omega
    rw [e] at kk
    exact ⟨_, rfl, _, _, rfl, rfl, (by show (0 : Int) ≤ _; decide), _, rfl, _, _, rfl, rfl, _, _, rfl, rfl, kk⟩
  · rw [if_neg (by omega), if_neg (by omega), if_pos (by omega)] at kk
    have e : ((x % 16384 * 2 + x / 16384 : Nat) : Int) = Builtin.bitOr (Builtin.bitAnd ((x : Int) * 2 ^ (1 : Int).toNat) 32767) ((x : Int) / 2 ^ (14 : Int).toNat) := by
      rw [sr14, sl1, m15, show ((x * 2 : Nat) : Int) % 32768 = ((x * 2 % 32768 : Nat) : Int) by omega, orN, or_add 1 (by omega) (by omega)]; omega
    rw [e] at kk
    exact ⟨_, rfl, _, _, rfl, rfl, ⟨by decide, by decide, by omega⟩, _, _, rfl, rfl, _, rfl, _, _, rfl, rfl, (by show (0 : Int) ≤ _; decide), _, _, rfl, rfl, kk⟩
  · rw [if_neg (by omega), if_neg (by omega), if_neg (by omega), if_pos (by omega)] at kk
    have e : ((x / 128 % 128 : Nat) : Int) = Builtin.bitAnd ((x : Int) / 2 ^ (7 : Int).toNat) 127 := by
      rw [sr7, m7]; omega
    rw [e] at kk
    exact ⟨_, rfl, _, _, rfl, rfl, (by show (0 : Int) ≤ _; decide), _, _, rfl, rfl, kk⟩
  · rw [if_neg (by omega), if_neg (by omega), if_neg (by omega), if_neg (by omega)] at kk
    exact ⟨_, rfl, kk⟩

abbrev sp_write (C : Addr) : Sp := spW2 C (fun _ k v => k < 4096 ∧ v < 65536) Sf58.St.wr
theorem has_write (T : Txt K mg C R) : Has P w K mg base 2 "write" ["machine", "place", "word"] (sp_write C) := by
  refine mkHas T.d_write sc_write (fun _ _ _ _ _ _ us hl => match us, hl with | [_, _, _], _ => rfl) lenW2 fun f cdv A outer s0 H vs Q E hr h => ?_
  obtain ⟨m, s, i, j, k, v, rfl, hM, rfl, rfl, ⟨hk, hv⟩, kk⟩ := h
  refine ⟨_, (pss_cons (ps_if (pt_cmpR op_ge (pv 1) (pgi T.g_FIRST_STAYING) (nomark _)) (pss_one ps_retN) pss_nil) (pss_cons (ps_set (i := 3) sc_write.nd rfl (Or.inl rfl) (pc (has_changing_number T) hr (pa_cons (pv 0) (pa_cons (pv 1) pa_nil)))) (pss_one (ps_if (pt_cmpR op_gt (pv 3) pe_int (nomark _)) (pss_one (ps_asg (pc (has_edited T) hr (pa_cons (pv 3) (pa_cons (pc (has_narrow T) hr (pa_cons (pv 2) pa_nil)) pa_nil))) (pg_sub (pm .changing T.mc (pv 0)) (pv 3) set_list))) (pss_one (ps_if (pt_cmpR op_eq (pv 3) pe_int (nomark _)) (pss_one (psm .a T.mc (pv 0) (pv 2))) (pss_one (ps_if (pt_cmpR op_eq (pv 3) pe_int (nomark _)) (pss_one (psm .q T.mc (pv 0) (pv 2))) (pss_one (ps_expr (pc (has_write_small_register T) hr (pa_cons (pv 0) (pa_cons (pv 3) (pa_cons (pc (has_narrow T) hr (pa_cons (pv 2) pa_nil)) pa_nil)))))))))))))), ?_⟩
  refine ⟨_, rfl, _, _, rfl, rfl, _, rfl, iteD (fun h => ?_) (fun h => ?_)⟩
  · rw [wr_high (by omega)] at kk
    exact kk H hM (Fr.refl m H)
  · have hk1 : k < 1024 := by omega
    have hn := num_lt hM.good hk1
    rw [wr_low hk1 hv] at kk
    refine ⟨_, rfl, _, rfl, m, s, _, k, rfl, hM, rfl, hk1, _, rfl, _, _, rfl, rfl, _, rfl, iteD (fun h7 => ?_) (fun h7 => ?_)⟩
    · rw [if_neg (by omega)] at kk
      exact ⟨_, rfl, _, rfl, _, _, rfl, rfl, hv, _, _, num s k, _, rfl, rfl, rfl, narrow_lt v, _, rfl, m, s, rfl, hM, _, rfl, setC hM rfl hn rfl (edited_lt (narrow_lt v)) kk⟩
    · rw [if_pos (by omega)] at kk
      refine ⟨_, rfl, rfl, _, rfl, iteI (fun h0 => ?_) (fun h0 => ⟨_, rfl, rfl, _, rfl, iteI (fun h2 => ?_) (fun h2 => ?_)⟩)⟩
      · rw [if_pos (by omega)] at kk
        exact ⟨_, rfl, _, rfl, m, s, _, rfl, hM, set_a rfl hv, kk⟩
      · rw [if_neg (by omega), if_pos (by omega)] at kk
        exact ⟨_, rfl, _, rfl, m, s, _, rfl, hM, set_q rfl hv, kk⟩
      · rw [if_neg (by omega), if_neg (by omega)] at kk
        exact ⟨_, rfl, _, rfl, _, rfl, _, _, rfl, rfl, hv, m, s, _, _, num s k, _, rfl, hM, rfl, rfl, ⟨by omega, by omega, by omega, narrow_lt v⟩, kk⟩

abbrev sp_edit_anew (C : Addr) : Sp := spW2 C (fun _ k v => k < 4096 ∧ v < 65536) anew
theorem has_edit_anew (T : Txt K mg C R) : Has P w K mg base 3 "edit_anew" ["machine", "place", "word"] (sp_edit_anew C) := by
  refine mkHas T.d_edit_anew sc_edit_anew (fun _ _ _ _ _ _ us hl => match us, hl with | [_, _, _], _ => rfl) lenW2 fun f cdv A outer s0 H vs Q E hr h => ?_
  obtain ⟨m, s, i, j, k, v, rfl, hM, rfl, rfl, ⟨hk, hv⟩, kk⟩ := h
  refine ⟨_, (pss_one (ps_if (PW.pt (pw_and (pt_cmpR op_lt (pv 1) (pgi T.g_FIRST_STAYING) (nomark _)) (pw_and1 (pt_chain op_le op_le pe_int (pc (has_changing_number T) hr (pa_cons (pv 0) (pa_cons (pv 1) pa_nil))) pe_int)))) (pss_one (ps_expr (pc (has_write T) hr (pa_cons (pv 0) (pa_cons (pv 1) (pa_cons (pv 2) pa_nil)))))) pss_nil)), ?_⟩
  unfold anew at kk
  refine ⟨_, rfl, _, _, rfl, rfl, _, rfl, iteD (fun h => ?_) (fun h => ?_)⟩
  · have hk1 : k < 1024 := by omega
    refine ⟨_, rfl, _, rfl, m, s, _, k, rfl, hM, rfl, hk1, _, _, rfl, rfl, _, rfl, iteD (fun h16 => ?_) (fun h16 => ?_)⟩
    · refine ⟨_, _, rfl, rfl, _, rfl, iteD (fun h19 => ?_) (fun h19 => ?_)⟩
      · rw [if_pos ⟨hk1, by omega, by omega⟩] at kk
        exact ⟨_, rfl, _, rfl, _, rfl, m, s, _, _, k, v, rfl, hM, rfl, rfl, ⟨hk, hv⟩, kk⟩
      · rw [if_neg (by omega)] at kk
        exact kk H hM (Fr.refl m H)
    · rw [if_neg (by omega)] at kk
      exact ⟨_, rfl, iteF (kk H hM (Fr.refl m H))⟩
  · rw [if_neg (by omega)] at kk
    exact iteF (kk H hM (Fr.refl m H))

abbrev sp_read_channel (C : Addr) : Sp := spR C (fun _ c => c < 512) Sf58.St.inp
theorem has_read_channel (T : Txt K mg C R) : Has P w K mg base 2 "read_channel" ["machine", "channel"] (sp_read_channel C) := by
  refine mkHas T.d_read_channel sc_read_channel (fun _ _ _ _ _ _ us hl => match us, hl with | [_, _], _ => rfl) lenR fun f cdv A outer s0 H vs Q E hr h => ?_
  obtain ⟨m, s, i, c, rfl, hM, rfl, hc, kk⟩ := h
  refine ⟨_, (pss_cons (ps_if (pt_cmpR op_eq (pv 1) pe_int (nomark _)) (pss_one (ps_ret (pm .l T.mc (pv 0)))) pss_nil) (pss_cons (ps_if (pt_cmpR op_eq (pv 1) pe_int (nomark _)) (pss_one (ps_ret (pc (has_narrow T) hr (pa_cons (pm .q T.mc (pv 0)) pa_nil)))) pss_nil) (pss_one (ps_ret (pe_ix ix_list (pm .channels T.mc (pv 0)) (pv 1) (fun _ _ => rfl)))))), ?_⟩
  unfold Sf58.St.inp at kk
  refine ⟨_, rfl, rfl, _, rfl, iteI (fun h => ?_) (fun h1 => ⟨_, rfl, rfl, _, rfl, iteI (fun h => ?_) (fun h2 => ?_)⟩)⟩
  · rw [if_pos (by omega)] at kk
    exact ⟨_, rfl, m, s, rfl, hM, kk⟩
  · rw [if_neg (by omega), if_pos (by omega)] at kk
    exact ⟨_, rfl, m, s, rfl, hM, _, s.q, rfl, rfl, hM.good.q, kk⟩
  · rw [if_neg (by omega), if_neg (by omega)] at kk
    exact ⟨_, rfl, m, s, rfl, hM, _, rfl, ixH (j := c) hM rfl hc kk⟩

abbrev sp_write_channel (C : Addr) : Sp := spW2 C (fun _ c x => c < 512 ∧ x < 32768) Sf58.St.out
theorem has_write_channel (T : Txt K mg C R) : Has P w K mg base 2 "write_channel" ["machine", "channel", "word"] (sp_write_channel C) := by
  refine mkHas T.d_write_channel sc_write_channel (fun _ _ _ _ _ _ us hl => match us, hl with | [_, _, _], _ => rfl) lenW2 fun f cdv A outer s0 H vs Q E hr h => ?_
  obtain ⟨m, s, i, j, c, x, rfl, hM, rfl, rfl, ⟨hc, hx⟩, kk⟩ := h
  refine ⟨_, (pss_one (ps_if (pt_cmpR op_eq (pv 1) pe_int (nomark _)) (pss_one (psm .l T.mc (pv 0) (pv 2))) (pss_one (ps_if (pt_cmpR op_eq (pv 1) pe_int (nomark _)) (pss_one (psm .q T.mc (pv 0) (pc (has_wide T) hr (pa_cons (pv 2) pa_nil)))) (pss_one (ps_asg (pv 2) (pg_sub (pm .channels T.mc (pv 0)) (pv 1) set_list))))))), ?_⟩
  unfold Sf58.St.out at kk
  refine ⟨_, rfl, rfl, _, rfl, iteI (fun h => ?_) (fun h1 => ⟨_, rfl, rfl, _, rfl, iteI (fun h => ?_) (fun h2 => ?_)⟩)⟩
  · rw [if_pos (by omega)] at kk
    exact ⟨_, rfl, _, rfl, m, s, _, rfl, hM, set_l rfl hx, kk⟩
  · rw [if_neg (by omega), if_pos (by omega)] at kk
    exact ⟨_, rfl, _, _, rfl, rfl, hx, _, rfl, m, s, _, rfl, hM, set_q rfl (wide_lt x), kk⟩
  · rw [if_neg (by omega), if_neg (by omega)] at kk
    exact ⟨_, rfl, _, rfl, m, s, rfl, hM, _, rfl, setH hM rfl hc rfl hx kk⟩

abbrev sp_leave_out (C : Addr) : Sp := spW1 C (fun _ n => n < 4096) Sf58.St.skip
theorem has_leave_out (T : Txt K mg C R) : Has P w K mg base 1 "leave_out" ["machine", "how_many"] (sp_leave_out C) := by
  refine mkHas T.d_leave_out sc_leave_out (fun _ _ _ _ _ _ us hl => match us, hl with | [_, _], _ => rfl) lenW1 fun f cdv A outer s0 H vs Q E hr h => ?_
  obtain ⟨m, s, i, n, rfl, hM, rfl, hn, kk⟩ := h
  refine ⟨_, (pss_one (psm .z T.mc (pv 0) (pe_op op_and (pe_op op_add (pm .z T.mc (pv 0)) (pv 1)) pe_int))), ?_⟩
  exact ⟨_, rfl, m, s, rfl, hM, _, rfl, _, _, rfl, rfl, _, _, rfl, rfl, _, rfl, m, s, _, rfl, hM, set_z (n := (s.z + n) % 4096) (by rw [m12]; omega) (by omega), kk⟩
end
end Fb

set_option Elab.async false
set_option linter.all false
set_option maxRecDepth 100000
set_option maxHeartbeats 4000000
namespace Fb
open PySem L2
section
variable {P : Program} {w : World} {K : PySem.W.Frag} {mg : Str → Option Value} {base : Heap} {C R : Addr}

theorem k1 : (1 : Nat) < 4096 := by decide
theorem k2 : (2 : Nat) < 4096 := by decide
theorem k3 : (3 : Nat) < 4096 := by decide
theorem has_tc (T : Txt K mg C R) : Has P w K mg base 4 "tc" ["machine", "k"] (spW1 C (fun _ k => k < 4096) fun s k => s.plain 0 k) := by
  refine mkHas T.d_tc sc_tc (fun _ _ _ _ _ _ us hl => match us, hl with | [_, _], _ => rfl) lenW1 fun f cdv A outer s0 H vs Q E hr h => ?_
  obtain ⟨m, s, i, k, rfl, hM, rfl, hk, kk⟩ := h
  refine ⟨_, (pss_one (ps_if (pt_cmpR op_eq (pv 1) pe_int (nomark _)) (pss_one (psm .barred T.mc (pv 0) pe_bl)) (pss_one (ps_if (pt_cmpR op_eq (pv 1) pe_int (nomark _)) (pss_one (psm .barred T.mc (pv 0) pe_bl)) (pss_one (ps_if (pt_cmpR op_eq (pv 1) pe_int (nomark _)) (pss_one (psm .extended T.mc (pv 0) pe_bl)) (pss_cons (ps_if (pt_cmpR op_ne (pv 1) pe_int (nomark _)) (pss_one (psm .q T.mc (pv 0) (pm .z T.mc (pv 0)))) pss_nil) (pss_one (psm .z T.mc (pv 0) (pv 1)))))))))), ?_⟩
  dsimp only at kk hk
  refine ⟨_, rfl, rfl, _, rfl, iteI (fun h => ?_) (fun h3 => ⟨_, rfl, rfl, _, rfl, iteI (fun h => ?_) (fun h4 => ⟨_, rfl, rfl, _, rfl, iteI (fun h => ?_) (fun h6 => ?_)⟩)⟩)⟩
  · obtain rfl : k = 3 := by omega
    exact ⟨_, rfl, m, s, _, rfl, hM, set_barred, fun H1 h1 f1 => kk H1 h1 f1⟩
  · obtain rfl : k = 4 := by omega
    exact ⟨_, rfl, m, s, _, rfl, hM, set_barred, fun H1 h1 f1 => kk H1 h1 f1⟩
  · obtain rfl : k = 6 := by omega
    exact ⟨_, rfl, m, s, _, rfl, hM, set_extended, fun H1 h1 f1 => kk H1 h1 f1⟩
  · refine ⟨_, rfl, rfl, _, rfl, iteN (fun h2 => ?_) (fun h2 => ?_)⟩
    · rw [i_tc (by omega) (by omega) (by omega) (by omega) hM.good.z] at kk
      exact ⟨_, rfl, m, s, rfl, hM, _, rfl, m, s, _, rfl, hM, set_q (n := s.z) rfl (by have := hM.good.z; omega), fun H1 hM1 f1 =>
        ⟨_, rfl, _, rfl, m, _, _, rfl, hM1, set_z (n := k) rfl hk, fun H2 hM2 f2 => kk H2 hM2 (f1.trans f2)⟩⟩
    · obtain rfl : k = 2 := by omega
      exact ⟨_, rfl, _, rfl, m, s, _, rfl, hM, set_z (n := 2) rfl (by decide), fun H1 h1 f1 => kk H1 h1 f1⟩

theorem has_ccs (T : Txt K mg C R) : Has P w K mg base 4 "ccs" ["machine", "k"] (spW1 C (fun _ k => k < 1024) fun s k => s.plain 1 k) := by
  refine mkHas T.d_ccs sc_ccs (fun _ _ _ _ _ _ us hl => match us, hl with | [_, _], _ => rfl) lenW1 fun f cdv A outer s0 H vs Q E hr h => ?_
  obtain ⟨m, s, i, k, rfl, hM, rfl, hk, kk⟩ := h
  refine ⟨_, (pss_cons (ps_set (i := 2) sc_ccs.nd rfl (Or.inl rfl) (pc (has_read_wide T) hr (pa_cons (pv 0) (pa_cons (pv 1) pa_nil)))) (pss_cons (ps_expr (pc (has_edit_anew T) hr (pa_cons (pv 0) (pa_cons (pv 1) (pa_cons (pv 2) pa_nil))))) (pss_one (ps_if (pt_cmpR op_eq (pv 2) pe_int (nomark _)) (pss_cons (psm .a T.mc (pv 0) pe_int) (pss_one (ps_expr (pc (has_leave_out T) hr (pa_cons (pv 0) (pa_cons pe_int pa_nil)))))) (pss_one (ps_if (pt_cmpR op_eq (pv 2) pe_int (nomark _)) (pss_cons (psm .a T.mc (pv 0) pe_int) (pss_one (ps_expr (pc (has_leave_out T) hr (pa_cons (pv 0) (pa_cons pe_int pa_nil)))))) (pss_one (ps_if (pt_truth (pe_op op_and (pv 2) pe_int) (fun _ => rfl)) (pss_cons (psm .a T.mc (pv 0) (pe_op op_sub (pc (has_minus_wide T) hr (pa_cons (pv 2) pa_nil)) pe_int)) (pss_one (ps_expr (pc (has_leave_out T) hr (pa_cons (pv 0) (pa_cons pe_int pa_nil)))))) (pss_one (psm .a T.mc (pv 0) (pe_op op_sub (pv 2) pe_int))))))))))), ?_⟩
  dsimp only at kk hk
  rw [i_ccs hM.good hk] at kk
  have hx := hM.good.rdWide k
  refine ⟨_, rfl, _, rfl, m, s, _, k, rfl, hM, rfl, (by omega : k < 4096), _, rfl, _, rfl, _, rfl, m, s, _, _, k, s.rdWide k, rfl, hM, rfl, rfl, ⟨by omega, hx⟩, fun H1 hM1 f1 => ?_⟩
  generalize s.rdWide k = x at *
  refine ⟨_, rfl, rfl, _, rfl, iteI (fun h => ?_) (fun h0 => ⟨_, rfl, rfl, _, rfl, iteI (fun h => ?_) (fun h1 => ⟨_, rfl, _, _, rfl, rfl, _, rfl, iteZ (fun h => ?_) (fun h => ?_)⟩)⟩)⟩
  · rw [if_pos (by omega)] at kk
    exact ⟨_, rfl, m, _, _, rfl, hM1, set_a (n := 0) rfl (by decide), fun H2 hM2 f2 => ⟨_, rfl, m, _, _, 1, rfl, hM2, rfl, k1, fun H3 hM3 f3 => kk H3 hM3 (f1.trans (f2.trans f3))⟩⟩
  · rw [if_neg (by omega), if_pos (by omega)] at kk
    exact ⟨_, rfl, m, _, _, rfl, hM1, set_a (n := 0) rfl (by decide), fun H2 hM2 f2 => ⟨_, rfl, m, _, _, 3, rfl, hM2, rfl, k3, fun H3 hM3 f3 => kk H3 hM3 (f1.trans (f2.trans f3))⟩⟩
  · rw [b15] at h
    rw [if_neg (by omega), if_neg (by omega), if_pos (by omega)] at kk
    exact ⟨_, rfl, _, _, rfl, rfl, hx, _, _, rfl, rfl, _, rfl, m, _, _, rfl, hM1, set_a (n := Sf58.minus x - 1) (by unfold Sf58.minus; omega) (by unfold Sf58.minus; omega), fun H2 hM2 f2 =>
      ⟨_, rfl, m, _, _, 2, rfl, hM2, rfl, k2, fun H3 hM3 f3 => kk H3 hM3 (f1.trans (f2.trans f3))⟩⟩
  · rw [b15] at h
    rw [if_neg (by omega), if_neg (by omega), if_neg (by omega)] at kk
    exact ⟨_, rfl, _, _, rfl, rfl, _, rfl, m, _, _, rfl, hM1, set_a (n := x - 1) (by omega) (by omega), fun H2 hM2 f2 => kk H2 hM2 (f1.trans f2)⟩

theorem has_tcf (T : Txt K mg C R) : Has P w K mg base 4 "tcf" ["machine", "k"] (spW1 C (fun _ k => 1024 ≤ k ∧ k < 4096) fun s k => s.plain 1 k) := by
  refine mkHas T.d_tcf sc_tcf (fun _ _ _ _ _ _ us hl => match us, hl with | [_, _], _ => rfl) lenW1 fun f cdv A outer s0 H vs Q E hr h => ?_
  obtain ⟨m, s, i, k, rfl, hM, rfl, ⟨hk1, hk2⟩, kk⟩ := h
  refine ⟨_, (pss_one (psm .z T.mc (pv 0) (pv 1))), ?_⟩
  dsimp only at kk
  rw [i_tcf hk1] at kk
  exact ⟨_, rfl, _, rfl, m, s, _, rfl, hM, set_z (n := k) rfl hk2, kk⟩

theorem has_das (T : Txt K mg C R) : Has P w K mg base 4 "das" ["machine", "k"] (spW1 C (fun _ k => k < 1024) fun s k => s.plain 2 k) := by
  refine mkHas T.d_das sc_das (fun _ _ _ _ _ _ us hl => match us, hl with | [_, _], _ => rfl) lenW1 fun f cdv A outer s0 H vs Q E hr h => ?_
  obtain ⟨m, s, i, k, rfl, hM, rfl, hk, kk⟩ := h
  refine ⟨_, (pss_cons (ps_set (i := 2) sc_das.nd rfl (Or.inl rfl) (pe_op op_and (pe_op op_sub (pv 1) pe_int) (pgi T.g_LOWER_TEN_first))) (pss_cons (ps_set (i := 3) sc_das.nd rfl (Or.inl rfl) (pc (has_plus T) hr (pa_cons (pc (has_wide T) hr (pa_cons (pm .l T.mc (pv 0)) pa_nil)) (pa_cons (pc (has_wide T) hr (pa_cons (pc (has_read_narrow T) hr (pa_cons (pv 0) (pa_cons (pv 1) pa_nil))) pa_nil)) pa_nil)))) (pss_cons (ps_set (i := 4) sc_das.nd rfl (Or.inl rfl) (pc (has_plus T) hr (pa_cons (pc (has_plus T) hr (pa_cons (pm .a T.mc (pv 0)) (pa_cons (pc (has_read_wide T) hr (pa_cons (pv 0) (pa_cons (pv 2) pa_nil))) pa_nil))) (pa_cons (pc (has_overflow T) hr (pa_cons (pv 3) pa_nil)) pa_nil)))) (pss_cons (psm .a T.mc (pv 0) (pc (has_overflow T) hr (pa_cons (pv 4) pa_nil))) (pss_cons (psm .l T.mc (pv 0) pe_int) (pss_cons (ps_expr (pc (has_write T) hr (pa_cons (pv 0) (pa_cons (pv 1) (pa_cons (pv 3) pa_nil))))) (pss_one (ps_expr (pc (has_write T) hr (pa_cons (pv 0) (pa_cons (pv 2) (pa_cons (pv 4) pa_nil)))))))))))), ?_⟩
  dsimp only at kk hk
  rw [i_das hk] at kk
  have hu : Builtin.bitAnd ((k : Int) - 1) 1023 = (((k + 1023) % 1024 : Nat) : Int) := by rw [m10]; omega
  have hj : (k + 1023) % 1024 < 1024 := Nat.mod_lt _ (by decide)
  have hl := hM.good.l
  have ha := hM.good.a
  refine ⟨_, rfl, _, _, rfl, rfl, _, _, rfl, rfl, ?_⟩
  try dsimp only
  rw [hu]
  generalize (k + 1023) % 1024 = j at *
  refine ⟨_, rfl, m, s, rfl, hM, _, s.l, rfl, rfl, hl, _, rfl, _, rfl, m, s, _, k, rfl, hM, rfl, (by omega : k < 4096), _, s.rd k, rfl, rfl, hM.good.rd k, _, _, _, _, rfl, rfl, rfl, ⟨wide_lt _, wide_lt _⟩, ?_⟩
  refine ⟨_, rfl, m, s, rfl, hM, _, rfl, _, rfl, m, s, _, j, rfl, hM, rfl, (by omega : j < 4096), _, _, s.a, s.rdWide j, rfl, rfl, rfl, ⟨ha, hM.good.rdWide j⟩, _, rfl, _, _, rfl, rfl, plus_lt _ _, _, _, _, _, rfl, rfl, rfl, ⟨plus_lt _ _, ofSign_lt _⟩, ?_⟩
  refine ⟨_, rfl, _, _, rfl, rfl, plus_lt _ _, _, rfl, m, s, _, rfl, hM, set_a rfl (ofSign_lt _), fun H1 hM1 f1 => ?_⟩
  refine ⟨_, rfl, m, _, _, rfl, hM1, set_l (n := 0) rfl (by decide), fun H2 hM2 f2 => ?_⟩
  refine ⟨_, rfl, _, rfl, _, rfl, m, _, _, _, k, _, rfl, hM2, rfl, rfl, ⟨by omega, plus_lt _ _⟩, fun H3 hM3 f3 => ?_⟩
  exact ⟨_, rfl, _, rfl, _, rfl, m, _, _, _, j, _, rfl, hM3, rfl, rfl, ⟨by omega, plus_lt _ _⟩, fun H4 hM4 f4 => kk H4 hM4 (f1.trans (f2.trans (f3.trans f4)))⟩

theorem has_lxch (T : Txt K mg C R) : Has P w K mg base 4 "lxch" ["machine", "k"] (spW1 C (fun _ k => 1024 ≤ k ∧ k < 2048) fun s k => s.plain 2 k) := by
  refine mkHas T.d_lxch sc_lxch (fun _ _ _ _ _ _ us hl => match us, hl with | [_, _], _ => rfl) lenW1 fun f cdv A outer s0 H vs Q E hr h => ?_
  obtain ⟨m, s, i, k, rfl, hM, rfl, ⟨hk1, hk2⟩, kk⟩ := h
  refine ⟨_, (pss_cons (ps_set (i := 2) sc_lxch.nd rfl (Or.inl rfl) (pe_op op_and (pv 1) (pgi T.g_LOWER_TEN_first))) (pss_cons (ps_set (i := 3) sc_lxch.nd rfl (Or.inl rfl) (pm .l T.mc (pv 0))) (pss_cons (psm .l T.mc (pv 0) (pc (has_read_narrow T) hr (pa_cons (pv 0) (pa_cons (pv 2) pa_nil)))) (pss_one (ps_expr (pc (has_write T) hr (pa_cons (pv 0) (pa_cons (pv 2) (pa_cons (pc (has_wide T) hr (pa_cons (pv 3) pa_nil)) pa_nil))))))))), ?_⟩
  dsimp only at kk
  rw [i_lxch hk1 hk2] at kk
  have he : Builtin.bitAnd (k : Int) 1023 = ((k % 1024 : Nat) : Int) := by rw [m10]; omega
  have hj : k % 1024 < 1024 := Nat.mod_lt _ (by decide)
  refine ⟨_, rfl, _, _, rfl, rfl, ?_⟩
  try dsimp only
  rw [he]
  generalize k % 1024 = e at *
  exact ⟨_, rfl, m, s, rfl, hM, _, rfl, _, rfl, m, s, _, e, rfl, hM, rfl, (by omega : e < 4096), _, rfl, m, s, _, rfl, hM, set_l rfl (hM.good.rd e), fun H1 hM1 f1 =>
    ⟨_, rfl, _, rfl, _, rfl, _, s.l, rfl, rfl, hM.good.l, m, _, _, _, e, _, rfl, hM1, rfl, rfl, ⟨by omega, wide_lt _⟩, fun H2 hM2 f2 => kk H2 hM2 (f1.trans f2)⟩⟩

theorem has_incr (T : Txt K mg C R) : Has P w K mg base 4 "incr" ["machine", "k"] (spW1 C (fun _ k => 2048 ≤ k ∧ k < 3072) fun s k => s.plain 2 k) := by
  refine mkHas T.d_incr sc_incr (fun _ _ _ _ _ _ us hl => match us, hl with | [_, _], _ => rfl) lenW1 fun f cdv A outer s0 H vs Q E hr h => ?_
  obtain ⟨m, s, i, k, rfl, hM, rfl, ⟨hk1, hk2⟩, kk⟩ := h
  refine ⟨_, (pss_cons (ps_set (i := 2) sc_incr.nd rfl (Or.inl rfl) (pe_op op_and (pv 1) (pgi T.g_LOWER_TEN_first))) (pss_one (ps_expr (pc (has_write T) hr (pa_cons (pv 0) (pa_cons (pv 2) (pa_cons (pc (has_plus T) hr (pa_cons (pc (has_read_wide T) hr (pa_cons (pv 0) (pa_cons (pv 2) pa_nil))) (pa_cons pe_int pa_nil))) pa_nil))))))), ?_⟩
  dsimp only at kk
  rw [i_incr hk1 hk2] at kk
  have he : Builtin.bitAnd (k : Int) 1023 = ((k % 1024 : Nat) : Int) := by rw [m10]; omega
  have hj : k % 1024 < 1024 := Nat.mod_lt _ (by decide)
  refine ⟨_, rfl, _, _, rfl, rfl, ?_⟩
  try dsimp only
  rw [he]
  generalize k % 1024 = e at *
  exact ⟨_, rfl, _, rfl, _, rfl, _, rfl, m, s, _, e, rfl, hM, rfl, (by omega : e < 4096), _, _, s.rdWide e, 1, rfl, rfl, rfl, ⟨hM.good.rdWide e, by decide⟩, m, s, _, _, e, _, rfl, hM, rfl, rfl, ⟨by omega, plus_lt _ _⟩, kk⟩

theorem has_ads (T : Txt K mg C R) : Has P w K mg base 4 "ads" ["machine", "k"] (spW1 C (fun _ k => 3072 ≤ k ∧ k < 4096) fun s k => s.plain 2 k) := by
  refine mkHas T.d_ads sc_ads (fun _ _ _ _ _ _ us hl => match us, hl with | [_, _], _ => rfl) lenW1 fun f cdv A outer s0 H vs Q E hr h => ?_
  obtain ⟨m, s, i, k, rfl, hM, rfl, ⟨hk1, hk2⟩, kk⟩ := h
  refine ⟨_, (pss_cons (ps_set (i := 2) sc_ads.nd rfl (Or.inl rfl) (pe_op op_and (pv 1) (pgi T.g_LOWER_TEN_first))) (pss_cons (ps_set (i := 3) sc_ads.nd rfl (Or.inl rfl) (pc (has_plus T) hr (pa_cons (pm .a T.mc (pv 0)) (pa_cons (pc (has_read_wide T) hr (pa_cons (pv 0) (pa_cons (pv 2) pa_nil))) pa_nil)))) (pss_cons (psm .a T.mc (pv 0) (pv 3)) (pss_one (ps_expr (pc (has_write T) hr (pa_cons (pv 0) (pa_cons (pv 2) (pa_cons (pv 3) pa_nil))))))))), ?_⟩
  dsimp only at kk
  rw [i_ads hk1 hk2] at kk
  have he : Builtin.bitAnd (k : Int) 1023 = ((k % 1024 : Nat) : Int) := by rw [m10]; omega
  have hj : k % 1024 < 1024 := Nat.mod_lt _ (by decide)
  refine ⟨_, rfl, _, _, rfl, rfl, ?_⟩
  try dsimp only
  rw [he]
  generalize k % 1024 = e at *
  refine ⟨_, rfl, m, s, rfl, hM, _, rfl, _, rfl, m, s, _, e, rfl, hM, rfl, (by omega : e < 4096), _, _, s.a, s.rdWide e, rfl, rfl, rfl, ⟨hM.good.a, hM.good.rdWide e⟩, ?_⟩
  exact ⟨_, rfl, _, rfl, m, s, _, rfl, hM, set_a rfl (plus_lt _ _), fun H1 hM1 f1 => ⟨_, rfl, _, rfl, _, rfl, m, _, _, _, e, _, rfl, hM1, rfl, rfl, ⟨by omega, plus_lt _ _⟩, fun H2 hM2 f2 => kk H2 hM2 (f1.trans f2)⟩⟩

theorem has_ca (T : Txt K mg C R) : Has P w K mg base 4 "ca" ["machine", "k"] (spW1 C (fun _ k => k < 4096) fun s k => s.plain 3 k) := by
  refine mkHas T.d_ca sc_ca (fun _ _ _ _ _ _ us hl => match us, hl with | [_, _], _ => rfl) lenW1 fun f cdv A outer s0 H vs Q E hr h => ?_
  obtain ⟨m, s, i, k, rfl, hM, rfl, hk, kk⟩ := h
  refine ⟨_, (pss_cons (ps_set (i := 2) sc_ca.nd rfl (Or.inl rfl) (pc (has_read_wide T) hr (pa_cons (pv 0) (pa_cons (pv 1) pa_nil)))) (pss_cons (psm .a T.mc (pv 0) (pv 2)) (pss_one (ps_expr (pc (has_edit_anew T) hr (pa_cons (pv 0) (pa_cons (pv 1) (pa_cons (pv 2) pa_nil)))))))), ?_⟩
  dsimp only at kk hk
  rw [i_ca hM.good] at kk
  have hx := hM.good.rdWide k
  exact ⟨_, rfl, _, rfl, m, s, _, k, rfl, hM, rfl, hk, _, rfl, _, rfl, m, s, _, rfl, hM, set_a rfl hx, fun H1 hM1 f1 =>
    ⟨_, rfl, _, rfl, _, rfl, m, _, _, _, k, _, rfl, hM1, rfl, rfl, ⟨hk, hx⟩, fun H2 hM2 f2 => kk H2 hM2 (f1.trans f2)⟩⟩

theorem has_cs (T : Txt K mg C R) : Has P w K mg base 4 "cs" ["machine", "k"] (spW1 C (fun _ k => k < 4096) fun s k => s.plain 4 k) := by
  refine mkHas T.d_cs sc_cs (fun _ _ _ _ _ _ us hl => match us, hl with | [_, _], _ => rfl) lenW1 fun f cdv A outer s0 H vs Q E hr h => ?_
  obtain ⟨m, s, i, k, rfl, hM, rfl, hk, kk⟩ := h
  refine ⟨_, (pss_cons (ps_set (i := 2) sc_cs.nd rfl (Or.inl rfl) (pc (has_read_wide T) hr (pa_cons (pv 0) (pa_cons (pv 1) pa_nil)))) (pss_cons (psm .a T.mc (pv 0) (pc (has_minus_wide T) hr (pa_cons (pv 2) pa_nil))) (pss_one (ps_expr (pc (has_edit_anew T) hr (pa_cons (pv 0) (pa_cons (pv 1) (pa_cons (pv 2) pa_nil)))))))), ?_⟩
  dsimp only at kk hk
  rw [i_cs hM.good] at kk
  have hx := hM.good.rdWide k
  exact ⟨_, rfl, _, rfl, m, s, _, k, rfl, hM, rfl, hk, _, rfl, _, _, rfl, rfl, hx, _, rfl, m, s, _, rfl, hM, set_a rfl (minus_lt _), fun H1 hM1 f1 =>
    ⟨_, rfl, _, rfl, _, rfl, m, _, _, _, k, _, rfl, hM1, rfl, rfl, ⟨hk, hx⟩, fun H2 hM2 f2 => kk H2 hM2 (f1.trans f2)⟩⟩

abbrev resumed (s : Sf58.St) : Sf58.St := { s with z := s.erase 13 % 4096, instead := some (s.erase 15), serving := false }
theorem has_resume (T : Txt K mg C R) : Has P w K mg base 1 "resume" ["machine"] (spW0 C (fun _ => True) resumed) := by
  refine mkHas T.d_resume sc_resume (fun _ _ _ _ _ _ us hl => match us, hl with | [_], _ => rfl) lenW0 fun f cdv A outer s0 H vs Q E hr h => ?_
  obtain ⟨m, s, rfl, hM, _, kk⟩ := h
  refine ⟨_, (pss_cons (psm .z T.mc (pv 0) (pe_op op_and (pe_ix ix_list (pm .changing T.mc (pv 0)) pe_int (fun _ _ => rfl)) pe_int)) (pss_cons (psm .instead T.mc (pv 0) (pe_ix ix_list (pm .changing T.mc (pv 0)) pe_int (fun _ _ => rfl))) (pss_one (psm .serving T.mc (pv 0) pe_bl)))), ?_⟩
  refine ⟨_, rfl, m, s, rfl, hM, ?_⟩
  dsimp only [tC]
  refine ixC (j := 13) hM rfl (by decide) ?_
  refine ⟨_, _, rfl, rfl, _, rfl, m, s, _, rfl, hM, set_z (n := s.erase 13 % 4096) (by rw [m12]; omega) (by omega), fun H1 hM1 f1 => ?_⟩
  refine ⟨_, rfl, m, _, rfl, hM1, ?_⟩
  dsimp only [tC]
  refine ixC (j := 15) hM1 rfl (by decide) ?_
  refine ⟨_, rfl, m, _, _, rfl, hM1, set_instead (n := s.erase 15) rfl (hM.good.er 15), fun H2 hM2 f2 => ?_⟩
  exact ⟨_, rfl, m, _, _, rfl, hM2, set_serving, fun H3 hM3 f3 => kk H3 hM3 (f1.trans (f2.trans f3))⟩

theorem has_index_next (T : Txt K mg C R) : Has P w K mg base 4 "index_next" ["machine", "k"] (spW1 C (fun _ k => k < 1024) fun s k => s.plain 5 k) := by
  refine mkHas T.d_index_next sc_index_next (fun _ _ _ _ _ _ us hl => match us, hl with | [_, _], _ => rfl) lenW1 fun f cdv A outer s0 H vs Q E hr h => ?_
  obtain ⟨m, s, i, k, rfl, hM, rfl, hk, kk⟩ := h
  refine ⟨_, (pss_cons (ps_if (pt_cmpR op_eq (pv 1) pe_int (nomark _)) (pss_cons (ps_expr (pc (has_resume T) hr (pa_cons (pv 0) pa_nil))) (pss_one ps_retN)) pss_nil) (pss_cons (ps_set (i := 2) sc_index_next.nd rfl (Or.inl rfl) (pc (has_read_narrow T) hr (pa_cons (pv 0) (pa_cons (pv 1) pa_nil)))) (pss_cons (psm .index_word T.mc (pv 0) (pv 2)) (pss_one (ps_expr (pc (has_edit_anew T) hr (pa_cons (pv 0) (pa_cons (pv 1) (pa_cons (pc (has_wide T) hr (pa_cons (pv 2) pa_nil)) pa_nil))))))))), ?_⟩
  dsimp only at kk hk
  refine ⟨_, rfl, rfl, _, rfl, iteI (fun h => ?_) (fun h => ?_)⟩
  · obtain rfl : k = 15 := by omega
    rw [i_resume] at kk
    exact ⟨_, rfl, m, s, rfl, hM, trivial, kk⟩
  · rw [i_index hk (by omega)] at kk
    have hx := hM.good.rd k
    exact ⟨_, rfl, _, rfl, m, s, _, k, rfl, hM, rfl, (by omega : k < 4096), _, rfl, _, rfl, m, s, _, rfl, hM, set_index rfl hx, fun H1 hM1 f1 =>
      ⟨_, rfl, _, rfl, _, rfl, _, _, rfl, rfl, hx, m, _, _, _, k, _, rfl, hM1, rfl, rfl, ⟨by omega, wide_lt _⟩, fun H2 hM2 f2 => kk H2 hM2 (f1.trans f2)⟩⟩

theorem has_dxch (T : Txt K mg C R) : Has P w K mg base 4 "dxch" ["machine", "k"] (spW1 C (fun _ k => 1024 ≤ k ∧ k < 2048) fun s k => s.plain 5 k) := by
  refine mkHas T.d_dxch sc_dxch (fun _ _ _ _ _ _ us hl => match us, hl with | [_, _], _ => rfl) lenW1 fun f cdv A outer s0 H vs Q E hr h => ?_
  obtain ⟨m, s, i, k, rfl, hM, rfl, ⟨hk1, hk2⟩, kk⟩ := h
  refine ⟨_, (pss_cons (ps_set (i := 2) sc_dxch.nd rfl (Or.inl rfl) (pe_op op_and (pv 1) (pgi T.g_LOWER_TEN_first))) (pss_cons (ps_set (i := 3) sc_dxch.nd rfl (Or.inl rfl) (pe_op op_and (pe_op op_sub (pv 2) pe_int) (pgi T.g_LOWER_TEN_first))) (pss_cons (ps_set (i := 4) sc_dxch.nd rfl (Or.inl rfl) (pm .a T.mc (pv 0))) (pss_cons (ps_set (i := 5) sc_dxch.nd rfl (Or.inl rfl) (pm .l T.mc (pv 0))) (pss_cons (ps_set (i := 6) sc_dxch.nd rfl (Or.inl rfl) (pc (has_read_narrow T) hr (pa_cons (pv 0) (pa_cons (pv 2) pa_nil)))) (pss_cons (psm .a T.mc (pv 0) (pc (has_read_wide T) hr (pa_cons (pv 0) (pa_cons (pv 3) pa_nil)))) (pss_cons (psm .l T.mc (pv 0) (pv 6)) (pss_cons (ps_expr (pc (has_write T) hr (pa_cons (pv 0) (pa_cons (pv 3) (pa_cons (pv 4) pa_nil))))) (pss_one (ps_expr (pc (has_write T) hr (pa_cons (pv 0) (pa_cons (pv 2) (pa_cons (pc (has_wide T) hr (pa_cons (pv 5) pa_nil)) pa_nil)))))))))))))), ?_⟩
  dsimp only at kk
  rw [i_dxch hk1 hk2] at kk
  have he : Builtin.bitAnd (k : Int) 1023 = ((k % 1024 : Nat) : Int) := by rw [m10]; omega
  have hj : k % 1024 < 1024 := Nat.mod_lt _ (by decide)
  refine ⟨_, rfl, _, _, rfl, rfl, ?_⟩
  try dsimp only
  rw [he]
  generalize k % 1024 = e at *
  have hu : Builtin.bitAnd ((e : Int) - 1) 1023 = (((e + 1023) % 1024 : Nat) : Int) := by rw [m10]; omega
  have hj2 : (e + 1023) % 1024 < 1024 := Nat.mod_lt _ (by decide)
  refine ⟨_, rfl, _, _, rfl, rfl, _, _, rfl, rfl, ?_⟩
  try dsimp only
  rw [hu]
  generalize (e + 1023) % 1024 = j at *
  refine ⟨_, rfl, m, s, rfl, hM, _, rfl, m, s, rfl, hM, _, rfl, _, rfl, m, s, _, e, rfl, hM, rfl, (by omega : e < 4096), ?_⟩
  refine ⟨_, rfl, _, rfl, m, s, _, j, rfl, hM, rfl, (by omega : j < 4096), _, rfl, m, s, _, rfl, hM, set_a rfl (hM.good.rdWide j), fun H1 hM1 f1 => ?_⟩
  refine ⟨_, rfl, _, rfl, m, _, _, rfl, hM1, set_l rfl (hM.good.rd e), fun H2 hM2 f2 => ?_⟩
  refine ⟨_, rfl, _, rfl, _, rfl, m, _, _, _, j, _, rfl, hM2, rfl, rfl, ⟨by omega, hM.good.a⟩, fun H3 hM3 f3 => ?_⟩
  exact ⟨_, rfl, _, rfl, _, rfl, _, s.l, rfl, rfl, hM.good.l, m, _, _, _, e, _, rfl, hM3, rfl, rfl, ⟨by omega, wide_lt _⟩, fun H4 hM4 f4 => kk H4 hM4 (f1.trans (f2.trans (f3.trans f4)))⟩

theorem has_ts (T : Txt K mg C R) : Has P w K mg base 4 "ts" ["machine", "k"] (spW1 C (fun _ k => 2048 ≤ k ∧ k < 3072) fun s k => s.plain 5 k) := by
  refine mkHas T.d_ts sc_ts (fun _ _ _ _ _ _ us hl => match us, hl with | [_, _], _ => rfl) lenW1 fun f cdv A outer s0 H vs Q E hr h => ?_
  obtain ⟨m, s, i, k, rfl, hM, rfl, ⟨hk1, hk2⟩, kk⟩ := h
  refine ⟨_, (pss_cons (ps_set (i := 2) sc_ts.nd rfl (Or.inl rfl) (pe_op op_and (pv 1) (pgi T.g_LOWER_TEN_first))) (pss_cons (ps_set (i := 3) sc_ts.nd rfl (Or.inl rfl) (pc (has_overflow T) hr (pa_cons (pm .a T.mc (pv 0)) pa_nil))) (pss_cons (ps_if (pt_cmpR op_eq (pv 2) pe_int (nomark _)) (pss_cons (ps_if (pt_cmpR op_ne (pv 3) pe_int (nomark _)) (pss_one (ps_expr (pc (has_leave_out T) hr (pa_cons (pv 0) (pa_cons pe_int pa_nil))))) pss_nil) (pss_one ps_retN)) pss_nil) (pss_cons (ps_if (pt_cmpR op_eq (pv 3) pe_int (nomark _)) (pss_cons (ps_expr (pc (has_write T) hr (pa_cons (pv 0) (pa_cons (pv 2) (pa_cons (pm .a T.mc (pv 0)) pa_nil))))) (pss_one ps_retN)) pss_nil) (pss_cons (ps_expr (pc (has_write T) hr (pa_cons (pv 0) (pa_cons (pv 2) (pa_cons (pc (has_wide T) hr (pa_cons (pc (has_narrow T) hr (pa_cons (pm .a T.mc (pv 0)) pa_nil)) pa_nil)) pa_nil))))) (pss_cons (ps_if (pt_cmpR op_ne (pv 2) pe_int (nomark _)) (pss_one (ps_expr (pc (has_leave_out T) hr (pa_cons (pv 0) (pa_cons pe_int pa_nil))))) pss_nil) (pss_one (psm .a T.mc (pv 0) (pv 3))))))))), ?_⟩
  dsimp only at kk
  have he : Builtin.bitAnd (k : Int) 1023 = ((k % 1024 : Nat) : Int) := by rw [m10]; omega
  have hj : k % 1024 < 1024 := Nat.mod_lt _ (by decide)
  have ha := hM.good.a
  refine ⟨_, rfl, _, _, rfl, rfl, ?_⟩
  try dsimp only
  rw [he]
  refine ⟨_, rfl, m, s, rfl, hM, _, s.a, rfl, rfl, ha, ?_⟩
  refine ⟨_, rfl, rfl, _, rfl, iteI (fun h0 => ?_) (fun h0 => ?_)⟩
  · rw [i_ts0 hk1 hk2 (by omega)] at kk
    refine ⟨_, rfl, rfl, _, rfl, iteN (fun h => ?_) (fun h => ?_)⟩
    · have h : ¬ ((Sf58.ofSign (Sf58.over s.a) : Nat) : Int) = 0 := h
      rw [if_pos (by omega)] at kk
      exact ⟨_, rfl, m, s, _, 1, rfl, hM, rfl, k1, kk⟩
    · have h : ((Sf58.ofSign (Sf58.over s.a) : Nat) : Int) = 0 := h
      rw [if_neg (by omega)] at kk
      exact kk H hM (Fr.refl m H)
  · refine ⟨_, rfl, rfl, _, rfl, iteI (fun h => ?_) (fun h => ?_)⟩
    · have h : ((Sf58.ofSign (Sf58.over s.a) : Nat) : Int) = 0 := h
      rw [i_ts1 hk1 hk2 (by omega) (by omega)] at kk
      exact ⟨_, rfl, _, rfl, _, rfl, m, s, rfl, hM, m, s, _, _, _, _, rfl, hM, rfl, rfl, ⟨by omega, ha⟩, kk⟩
    · have h : ¬ ((Sf58.ofSign (Sf58.over s.a) : Nat) : Int) = 0 := h
      refine ⟨_, rfl, _, rfl, _, rfl, m, s, rfl, hM, _, s.a, rfl, rfl, ha, _, _, rfl, rfl, narrow_lt _, m, s, _, _, _, _, rfl, hM, rfl, rfl, ⟨by omega, wide_lt _⟩, fun H1 hM1 f1 => ?_⟩
      refine ⟨_, rfl, rfl, _, rfl, iteN (fun h5 => ?_) (fun h5 => ?_)⟩
      · rw [i_ts3 hk1 hk2 (by omega) (by omega) (by omega)] at kk
        exact ⟨_, rfl, m, _, _, 1, rfl, hM1, rfl, k1, fun H2 hM2 f2 => ⟨_, rfl, _, rfl, m, _, _, rfl, hM2, set_a rfl (ofSign_lt _), fun H3 hM3 f3 => kk H3 hM3 (f1.trans (f2.trans f3))⟩⟩
      · rw [i_ts2 hk1 hk2 (by omega) (by omega) (by omega)] at kk
        exact ⟨_, rfl, _, rfl, m, _, _, rfl, hM1, set_a rfl (ofSign_lt _), fun H3 hM3 f3 => kk H3 hM3 (f1.trans f3)⟩

theorem has_xch (T : Txt K mg C R) : Has P w K mg base 4 "xch" ["machine", "k"] (spW1 C (fun _ k => 3072 ≤ k ∧ k < 4096) fun s k => s.plain 5 k) := by
  refine mkHas T.d_xch sc_xch (fun _ _ _ _ _ _ us hl => match us, hl with | [_, _], _ => rfl) lenW1 fun f cdv A outer s0 H vs Q E hr h => ?_
  obtain ⟨m, s, i, k, rfl, hM, rfl, ⟨hk1, hk2⟩, kk⟩ := h
  refine ⟨_, (pss_cons (ps_set (i := 2) sc_xch.nd rfl (Or.inl rfl) (pe_op op_and (pv 1) (pgi T.g_LOWER_TEN_first))) (pss_cons (ps_set (i := 3) sc_xch.nd rfl (Or.inl rfl) (pm .a T.mc (pv 0))) (pss_cons (psm .a T.mc (pv 0) (pc (has_read_wide T) hr (pa_cons (pv 0) (pa_cons (pv 2) pa_nil)))) (pss_one (ps_expr (pc (has_write T) hr (pa_cons (pv 0) (pa_cons (pv 2) (pa_cons (pv 3) pa_nil))))))))), ?_⟩
  dsimp only at kk
  rw [i_xch hk1 hk2] at kk
  have he : Builtin.bitAnd (k : Int) 1023 = ((k % 1024 : Nat) : Int) := by rw [m10]; omega
  have hj : k % 1024 < 1024 := Nat.mod_lt _ (by decide)
  refine ⟨_, rfl, _, _, rfl, rfl, ?_⟩
  try dsimp only
  rw [he]
  generalize k % 1024 = e at *
  exact ⟨_, rfl, m, s, rfl, hM, _, rfl, _, rfl, m, s, _, e, rfl, hM, rfl, (by omega : e < 4096), _, rfl, m, s, _, rfl, hM, set_a rfl (hM.good.rdWide e), fun H1 hM1 f1 =>
    ⟨_, rfl, _, rfl, _, rfl, m, _, _, _, e, _, rfl, hM1, rfl, rfl, ⟨by omega, hM.good.a⟩, fun H2 hM2 f2 => kk H2 hM2 (f1.trans f2)⟩⟩

theorem has_ad (T : Txt K mg C R) : Has P w K mg base 4 "ad" ["machine", "k"] (spW1 C (fun _ k => k < 4096) fun s k => s.plain 6 k) := by
  refine mkHas T.d_ad sc_ad (fun _ _ _ _ _ _ us hl => match us, hl with | [_, _], _ => rfl) lenW1 fun f cdv A outer s0 H vs Q E hr h => ?_
  obtain ⟨m, s, i, k, rfl, hM, rfl, hk, kk⟩ := h
  refine ⟨_, (pss_cons (ps_set (i := 2) sc_ad.nd rfl (Or.inl rfl) (pc (has_read_wide T) hr (pa_cons (pv 0) (pa_cons (pv 1) pa_nil)))) (pss_cons (psm .a T.mc (pv 0) (pc (has_plus T) hr (pa_cons (pm .a T.mc (pv 0)) (pa_cons (pv 2) pa_nil)))) (pss_one (ps_expr (pc (has_edit_anew T) hr (pa_cons (pv 0) (pa_cons (pv 1) (pa_cons (pv 2) pa_nil)))))))), ?_⟩
  dsimp only at kk hk
  rw [i_ad hM.good] at kk
  have hx := hM.good.rdWide k
  exact ⟨_, rfl, _, rfl, m, s, _, k, rfl, hM, rfl, hk, _, rfl, m, s, rfl, hM, _, rfl, _, _, s.a, _, rfl, rfl, rfl, ⟨hM.good.a, hx⟩, _, rfl, m, s, _, rfl, hM, set_a rfl (plus_lt _ _), fun H1 hM1 f1 =>
    ⟨_, rfl, _, rfl, _, rfl, m, _, _, _, k, _, rfl, hM1, rfl, rfl, ⟨hk, hx⟩, fun H2 hM2 f2 => kk H2 hM2 (f1.trans f2)⟩⟩

theorem has_mask (T : Txt K mg C R) : Has P w K mg base 4 "mask" ["machine", "k"] (spW1 C (fun _ k => k < 4096) fun s k => s.plain 7 k) := by
  refine mkHas T.d_mask sc_mask (fun _ _ _ _ _ _ us hl => match us, hl with | [_, _], _ => rfl) lenW1 fun f cdv A outer s0 H vs Q E hr h => ?_
  obtain ⟨m, s, i, k, rfl, hM, rfl, hk, kk⟩ := h
  refine ⟨_, (pss_one (psm .a T.mc (pv 0) (pc (has_wide T) hr (pa_cons (pe_op op_and (pc (has_narrow T) hr (pa_cons (pm .a T.mc (pv 0)) pa_nil)) (pc (has_read_narrow T) hr (pa_cons (pv 0) (pa_cons (pv 1) pa_nil)))) pa_nil)))), ?_⟩
  dsimp only at kk hk
  rw [i_mask] at kk
  exact ⟨_, rfl, m, s, rfl, hM, _, s.a, rfl, rfl, hM.good.a, _, rfl, _, rfl, m, s, _, k, rfl, hM, rfl, hk, _, _, rfl, rfl, _, Sf58.narrow s.a &&& s.rd k, rfl, andN _ _, and_lt (hM.good.rd k), _, rfl, m, s, _, rfl, hM, set_a rfl (wide_lt _), kk⟩

/-- the first list by the word's upper five bits -/
theorem first_call (T : Txt K mg C R) (n : Nat) (hn : n < 32) : ∃ nm, firstNames[n]? = some nm ∧ Has P w K mg base 4 nm ["machine", "k"] (spW1 C (fun _ k => k < 4096 ∧ k / 1024 = n % 4) fun s k => s.plain (n / 4) k) := by
  match n, hn with
  | 0, _ => exact ⟨_, rfl, (has_tc T).imp (spW1.of (fun s k h => h.1) fun s k h => rfl)⟩
  | 1, _ => exact ⟨_, rfl, (has_tc T).imp (spW1.of (fun s k h => h.1) fun s k h => rfl)⟩
  | 2, _ => exact ⟨_, rfl, (has_tc T).imp (spW1.of (fun s k h => h.1) fun s k h => rfl)⟩
  | 3, _ => exact ⟨_, rfl, (has_tc T).imp (spW1.of (fun s k h => h.1) fun s k h => rfl)⟩
  | 4, _ => exact ⟨_, rfl, (has_ccs T).imp (spW1.of (fun s k h => by omega) fun s k h => rfl)⟩
  | 5, _ => exact ⟨_, rfl, (has_tcf T).imp (spW1.of (fun s k h => by omega) fun s k h => rfl)⟩
  | 6, _ => exact ⟨_, rfl, (has_tcf T).imp (spW1.of (fun s k h => by omega) fun s k h => rfl)⟩
  | 7, _ => exact ⟨_, rfl, (has_tcf T).imp (spW1.of (fun s k h => by omega) fun s k h => rfl)⟩
  | 8, _ => exact ⟨_, rfl, (has_das T).imp (spW1.of (fun s k h => by omega) fun s k h => rfl)⟩
  | 9, _ => exact ⟨_, rfl, (has_lxch T).imp (spW1.of (fun s k h => by omega) fun s k h => rfl)⟩
  | 10, _ => exact ⟨_, rfl, (has_incr T).imp (spW1.of (fun s k h => by omega) fun s k h => rfl)⟩
  | 11, _ => exact ⟨_, rfl, (has_ads T).imp (spW1.of (fun s k h => by omega) fun s k h => rfl)⟩
  | 12, _ => exact ⟨_, rfl, (has_ca T).imp (spW1.of (fun s k h => h.1) fun s k h => rfl)⟩
  | 13, _ => exact ⟨_, rfl, (has_ca T).imp (spW1.of (fun s k h => h.1) fun s k h => rfl)⟩
  | 14, _ => exact ⟨_, rfl, (has_ca T).imp (spW1.of (fun s k h => h.1) fun s k h => rfl)⟩
  | 15, _ => exact ⟨_, rfl, (has_ca T).imp (spW1.of (fun s k h => h.1) fun s k h => rfl)⟩
  | 16, _ => exact ⟨_, rfl, (has_cs T).imp (spW1.of (fun s k h => h.1) fun s k h => rfl)⟩
  | 17, _ => exact ⟨_, rfl, (has_cs T).imp (spW1.of (fun s k h => h.1) fun s k h => rfl)⟩
  | 18, _ => exact ⟨_, rfl, (has_cs T).imp (spW1.of (fun s k h => h.1) fun s k h => rfl)⟩
  | 19, _ => exact ⟨_, rfl, (has_cs T).imp (spW1.of (fun s k h => h.1) fun s k h => rfl)⟩
  | 20, _ => exact ⟨_, rfl, (has_index_next T).imp (spW1.of (fun s k h => by omega) fun s k h => rfl)⟩
  | 21, _ => exact ⟨_, rfl, (has_dxch T).imp (spW1.of (fun s k h => by omega) fun s k h => rfl)⟩
  | 22, _ => exact ⟨_, rfl, (has_ts T).imp (spW1.of (fun s k h => by omega) fun s k h => rfl)⟩
  | 23, _ => exact ⟨_, rfl, (has_xch T).imp (spW1.of (fun s k h => by omega) fun s k h => rfl)⟩
  | 24, _ => exact ⟨_, rfl, (has_ad T).imp (spW1.of (fun s k h => h.1) fun s k h => rfl)⟩
  | 25, _ => exact ⟨_, rfl, (has_ad T).imp (spW1.of (fun s k h => h.1) fun s k h => rfl)⟩
  | 26, _ => exact ⟨_, rfl, (has_ad T).imp (spW1.of (fun s k h => h.1) fun s k h => rfl)⟩
  | 27, _ => exact ⟨_, rfl, (has_ad T).imp (spW1.of (fun s k h => h.1) fun s k h => rfl)⟩
  | 28, _ => exact ⟨_, rfl, (has_mask T).imp (spW1.of (fun s k h => h.1) fun s k h => rfl)⟩
  | 29, _ => exact ⟨_, rfl, (has_mask T).imp (spW1.of (fun s k h => h.1) fun s k h => rfl)⟩
  | 30, _ => exact ⟨_, rfl, (has_mask T).imp (spW1.of (fun s k h => h.1) fun s k h => rfl)⟩
  | 31, _ => exact ⟨_, rfl, (has_mask T).imp (spW1.of (fun s k h => h.1) fun s k h => rfl)⟩
  | n + 32, h => omega
end
end Fb

set_option Elab.async false
set_option linter.all false
set_option maxRecDepth 100000
set_option maxHeartbeats 4000000
namespace Fb
open PySem L2
section
variable {P : Program} {w : World} {K : PySem.W.Frag} {mg : Str → Option Value} {base : Heap} {C R : Addr}

theorem has_read_in (T : Txt K mg C R) : Has P w K mg base 3 "read_in" ["machine", "channel"] (spW1 C (fun _ c => c < 512) fun s c => chan s 0 c) := by
  refine mkHas T.d_read_in sc_read_in (fun _ _ _ _ _ _ us hl => match us, hl with | [_, _], _ => rfl) lenW1 fun f cdv A outer s0 H vs Q E hr h => ?_
  obtain ⟨m, s, i, c, rfl, hM, rfl, hc, kk⟩ := h
  refine ⟨_, (pss_one (psm .a T.mc (pv 0) (pc (has_wide T) hr (pa_cons (pc (has_read_channel T) hr (pa_cons (pv 0) (pa_cons (pv 1) pa_nil))) pa_nil)))), ?_⟩
  exact ⟨_, rfl, _, rfl, m, s, _, c, rfl, hM, rfl, hc, _, _, rfl, rfl, hM.good.inp c, _, rfl, m, s, _, rfl, hM, set_a rfl (wide_lt _), kk⟩

theorem has_write_out (T : Txt K mg C R) : Has P w K mg base 3 "write_out" ["machine", "channel"] (spW1 C (fun _ c => c < 512) fun s c => chan s 1 c) := by
  refine mkHas T.d_write_out sc_write_out (fun _ _ _ _ _ _ us hl => match us, hl with | [_, _], _ => rfl) lenW1 fun f cdv A outer s0 H vs Q E hr h => ?_
  obtain ⟨m, s, i, c, rfl, hM, rfl, hc, kk⟩ := h
  refine ⟨_, (pss_one (ps_expr (pc (has_write_channel T) hr (pa_cons (pv 0) (pa_cons (pv 1) (pa_cons (pc (has_narrow T) hr (pa_cons (pm .a T.mc (pv 0)) pa_nil)) pa_nil)))))), ?_⟩
  exact ⟨_, rfl, _, rfl, _, rfl, m, s, rfl, hM, _, s.a, rfl, rfl, hM.good.a, m, s, _, _, c, _, rfl, hM, rfl, rfl, ⟨hc, narrow_lt _⟩, kk⟩

theorem has_rand (T : Txt K mg C R) : Has P w K mg base 3 "rand" ["machine", "channel"] (spW1 C (fun _ c => c < 512) fun s c => chan s 2 c) := by
  refine mkHas T.d_rand sc_rand (fun _ _ _ _ _ _ us hl => match us, hl with | [_, _], _ => rfl) lenW1 fun f cdv A outer s0 H vs Q E hr h => ?_
  obtain ⟨m, s, i, c, rfl, hM, rfl, hc, kk⟩ := h
  refine ⟨_, (pss_one (psm .a T.mc (pv 0) (pc (has_wide T) hr (pa_cons (pe_op op_and (pc (has_narrow T) hr (pa_cons (pm .a T.mc (pv 0)) pa_nil)) (pc (has_read_channel T) hr (pa_cons (pv 0) (pa_cons (pv 1) pa_nil)))) pa_nil)))), ?_⟩
  exact ⟨_, rfl, m, s, rfl, hM, _, s.a, rfl, rfl, hM.good.a, _, rfl, _, rfl, m, s, _, c, rfl, hM, rfl, hc, _, _, rfl, rfl, _, Sf58.narrow s.a &&& s.inp c, rfl, andN _ _, and_lt (hM.good.inp c), _, rfl, m, s, _, rfl, hM, set_a rfl (wide_lt _), kk⟩

theorem has_ror (T : Txt K mg C R) : Has P w K mg base 3 "ror" ["machine", "channel"] (spW1 C (fun _ c => c < 512) fun s c => chan s 4 c) := by
  refine mkHas T.d_ror sc_ror (fun _ _ _ _ _ _ us hl => match us, hl with | [_, _], _ => rfl) lenW1 fun f cdv A outer s0 H vs Q E hr h => ?_
  obtain ⟨m, s, i, c, rfl, hM, rfl, hc, kk⟩ := h
  refine ⟨_, (pss_one (psm .a T.mc (pv 0) (pc (has_wide T) hr (pa_cons (pe_op op_or (pc (has_narrow T) hr (pa_cons (pm .a T.mc (pv 0)) pa_nil)) (pc (has_read_channel T) hr (pa_cons (pv 0) (pa_cons (pv 1) pa_nil)))) pa_nil)))), ?_⟩
  exact ⟨_, rfl, m, s, rfl, hM, _, s.a, rfl, rfl, hM.good.a, _, rfl, _, rfl, m, s, _, c, rfl, hM, rfl, hc, _, _, rfl, rfl, _, Sf58.narrow s.a ||| s.inp c, rfl, orN _ _, or_lt (narrow_lt _) (hM.good.inp c), _, rfl, m, s, _, rfl, hM, set_a rfl (wide_lt _), kk⟩

theorem has_rxor (T : Txt K mg C R) : Has P w K mg base 3 "rxor" ["machine", "channel"] (spW1 C (fun _ c => c < 512) fun s c => chan s 6 c) := by
  refine mkHas T.d_rxor sc_rxor (fun _ _ _ _ _ _ us hl => match us, hl with | [_, _], _ => rfl) lenW1 fun f cdv A outer s0 H vs Q E hr h => ?_
  obtain ⟨m, s, i, c, rfl, hM, rfl, hc, kk⟩ := h
  refine ⟨_, (pss_one (psm .a T.mc (pv 0) (pc (has_wide T) hr (pa_cons (pe_op op_xor (pc (has_narrow T) hr (pa_cons (pm .a T.mc (pv 0)) pa_nil)) (pc (has_read_channel T) hr (pa_cons (pv 0) (pa_cons (pv 1) pa_nil)))) pa_nil)))), ?_⟩
  exact ⟨_, rfl, m, s, rfl, hM, _, s.a, rfl, rfl, hM.good.a, _, rfl, _, rfl, m, s, _, c, rfl, hM, rfl, hc, _, _, rfl, rfl, _, Sf58.narrow s.a ^^^ s.inp c, rfl, xorN _ _, xor_lt (narrow_lt _) (hM.good.inp c), _, rfl, m, s, _, rfl, hM, set_a rfl (wide_lt _), kk⟩

theorem has_edrupt (T : Txt K mg C R) : Has P w K mg base 3 "edrupt" ["machine", "channel"] (spW1 C (fun _ c => c < 512) fun s c => chan s 7 c) := by
  refine mkHas T.d_edrupt sc_edrupt (fun _ _ _ _ _ _ us hl => match us, hl with | [_, _], _ => rfl) lenW1 fun f cdv A outer s0 H vs Q E hr h => ?_
  obtain ⟨m, s, i, c, rfl, hM, rfl, hc, kk⟩ := h
  refine ⟨_, (pss_one ps_pass), ?_⟩
  exact kk H hM (Fr.refl m H)

theorem chan3 {s : Sf58.St} (g : Good s) {c : Nat} : chan (chan s 2 c) 1 c = chan s 3 c := by
  show ({ s with a := Sf58.wide (Sf58.narrow s.a &&& s.inp c) } : Sf58.St).out c (Sf58.narrow (Sf58.wide (Sf58.narrow s.a &&& s.inp c))) = _
  rw [narrow_wide (and_lt (g.inp c)), out_a]
  rfl
theorem chan5 {s : Sf58.St} (g : Good s) {c : Nat} : chan (chan s 4 c) 1 c = chan s 5 c := by
  show ({ s with a := Sf58.wide (Sf58.narrow s.a ||| s.inp c) } : Sf58.St).out c (Sf58.narrow (Sf58.wide (Sf58.narrow s.a ||| s.inp c))) = _
  rw [narrow_wide (or_lt (narrow_lt _) (g.inp c)), out_a]
  rfl
theorem has_wand (T : Txt K mg C R) : Has P w K mg base 4 "wand" ["machine", "channel"] (spW1 C (fun _ c => c < 512) fun s c => chan s 3 c) := by
  refine mkHas T.d_wand sc_wand (fun _ _ _ _ _ _ us hl => match us, hl with | [_, _], _ => rfl) lenW1 fun f cdv A outer s0 H vs Q E hr h => ?_
  obtain ⟨m, s, i, c, rfl, hM, rfl, hc, kk⟩ := h
  refine ⟨_, (pss_cons (ps_expr (pc (has_rand T) hr (pa_cons (pv 0) (pa_cons (pv 1) pa_nil)))) (pss_one (ps_expr (pc (has_write_out T) hr (pa_cons (pv 0) (pa_cons (pv 1) pa_nil)))))), ?_⟩
  dsimp only at kk
  rw [← chan3 hM.good] at kk
  exact ⟨_, rfl, _, rfl, m, s, _, c, rfl, hM, rfl, hc, fun H1 hM1 f1 => ⟨_, rfl, _, rfl, m, _, _, c, rfl, hM1, rfl, hc, fun H2 hM2 f2 => kk H2 hM2 (f1.trans f2)⟩⟩
theorem has_wor (T : Txt K mg C R) : Has P w K mg base 4 "wor" ["machine", "channel"] (spW1 C (fun _ c => c < 512) fun s c => chan s 5 c) := by
  refine mkHas T.d_wor sc_wor (fun _ _ _ _ _ _ us hl => match us, hl with | [_, _], _ => rfl) lenW1 fun f cdv A outer s0 H vs Q E hr h => ?_
  obtain ⟨m, s, i, c, rfl, hM, rfl, hc, kk⟩ := h
  refine ⟨_, (pss_cons (ps_expr (pc (has_ror T) hr (pa_cons (pv 0) (pa_cons (pv 1) pa_nil)))) (pss_one (ps_expr (pc (has_write_out T) hr (pa_cons (pv 0) (pa_cons (pv 1) pa_nil)))))), ?_⟩
  dsimp only at kk
  rw [← chan5 hM.good] at kk
  exact ⟨_, rfl, _, rfl, m, s, _, c, rfl, hM, rfl, hc, fun H1 hM1 f1 => ⟨_, rfl, _, rfl, m, _, _, c, rfl, hM1, rfl, hc, fun H2 hM2 f2 => kk H2 hM2 (f1.trans f2)⟩⟩

theorem channel_call (T : Txt K mg C R) (n : Nat) (hn : n < 8) : ∃ nm, channelNames[n]? = some nm ∧ Has P w K mg base 4 nm ["machine", "channel"] (spW1 C (fun _ c => c < 512) fun s c => chan s n c) := by
  match n, hn with
  | 0, _ => exact ⟨_, rfl, (has_read_in T).mono (by decide)⟩
  | 1, _ => exact ⟨_, rfl, (has_write_out T).mono (by decide)⟩
  | 2, _ => exact ⟨_, rfl, (has_rand T).mono (by decide)⟩
  | 3, _ => exact ⟨_, rfl, has_wand T⟩
  | 4, _ => exact ⟨_, rfl, (has_ror T).mono (by decide)⟩
  | 5, _ => exact ⟨_, rfl, has_wor T⟩
  | 6, _ => exact ⟨_, rfl, (has_rxor T).mono (by decide)⟩
  | 7, _ => exact ⟨_, rfl, (has_edrupt T).mono (by decide)⟩
  | n + 8, h => omega
theorem has_by_channel (T : Txt K mg C R) : Has P w K mg base 5 "by_channel" ["machine", "k"] (spW1 C (fun _ k => k < 4096) fun s k => s.more 0 k) := by
  refine mkHas T.d_by_channel sc_by_channel (fun _ _ _ _ _ _ us hl => match us, hl with | [_, _], _ => rfl) lenW1 fun f cdv A outer s0 H vs Q E hr h => ?_
  obtain ⟨m, s, i, k, rfl, hM, rfl, hk, kk⟩ := h
  refine ⟨_, (pss_one (ps_expr (pcV (pe_tix T.t_CHANNEL_LIST (by decide) (pe_op op_shr (pv 1) pe_int) (fun _ _ => rfl)) hr (pa_cons (pv 0) (pa_cons (pe_op op_and (pv 1) pe_int) pa_nil))))), ?_⟩
  dsimp only at kk hk
  rw [i_chan] at kk
  obtain ⟨nm, hnm, hc⟩ := channel_call (P := P) (w := w) (base := base) T (k / 512) (by omega)
  exact ⟨_, rfl, _, _, rfl, rfl, (by show (0 : Int) ≤ _; decide), _, k / 512, nm, rfl, by rw [sr9], hnm, fun f hf => ⟨f, _, _, rfl, hc.cal hf, _, rfl, _, rfl, _, _, rfl, rfl, m, s, _, k % 512, rfl, hM, by rw [m9]; omega, Nat.mod_lt _ (by decide), kk⟩⟩

theorem has_bzf (T : Txt K mg C R) : Has P w K mg base 5 "bzf" ["machine", "k"] (spW1 C (fun _ k => 1024 ≤ k ∧ k < 4096) fun s k => s.more 1 k) := by
  refine mkHas T.d_bzf sc_bzf (fun _ _ _ _ _ _ us hl => match us, hl with | [_, _], _ => rfl) lenW1 fun f cdv A outer s0 H vs Q E hr h => ?_
  obtain ⟨m, s, i, k, rfl, hM, rfl, ⟨hk1, hk2⟩, kk⟩ := h
  refine ⟨_, (pss_one (ps_if (PW.pt (pw_or (pt_cmpR op_eq (pm .a T.mc (pv 0)) pe_int (nomark _)) (pw_or1 (pt_cmpR op_eq (pm .a T.mc (pv 0)) pe_int (nomark _))))) (pss_one (psm .z T.mc (pv 0) (pv 1))) pss_nil)), ?_⟩
  dsimp only at kk
  rw [i_bzf hk1] at kk
  refine ⟨_, rfl, m, s, rfl, hM, rfl, _, rfl, iteI (fun h => iteT ?_) (fun h => ⟨_, rfl, m, s, rfl, hM, rfl, _, rfl, iteI (fun h => ?_) (fun h => ?_)⟩)⟩
  · rw [if_pos (by omega)] at kk
    exact ⟨_, rfl, _, rfl, m, s, _, rfl, hM, set_z (n := k) rfl hk2, kk⟩
  · rw [if_pos (by omega)] at kk
    exact ⟨_, rfl, _, rfl, m, s, _, rfl, hM, set_z (n := k) rfl hk2, kk⟩
  · rw [if_neg (by omega)] at kk
    exact kk H hM (Fr.refl m H)

theorem has_msu (T : Txt K mg C R) : Has P w K mg base 5 "msu" ["machine", "k"] (spW1 C (fun _ k => k < 1024) fun s k => s.more 2 k) := by
  refine mkHas T.d_msu sc_msu (fun _ _ _ _ _ _ us hl => match us, hl with | [_, _], _ => rfl) lenW1 fun f cdv A outer s0 H vs Q E hr h => ?_
  obtain ⟨m, s, i, k, rfl, hM, rfl, hk, kk⟩ := h
  refine ⟨_, (pss_cons (ps_set (i := 2) sc_msu.nd rfl (Or.inl rfl) (pe_op op_and (pe_op op_sub (pc (has_narrow T) hr (pa_cons (pm .a T.mc (pv 0)) pa_nil)) (pc (has_read_narrow T) hr (pa_cons (pv 0) (pa_cons (pv 1) pa_nil)))) pe_int)) (pss_cons (ps_if (pt_cmpR op_ge (pv 2) pe_int (nomark _)) (pss_one (ps_set (i := 2) sc_msu.nd rfl (Or.inl rfl) (pe_op op_sub (pv 2) pe_int))) pss_nil) (pss_one (psm .a T.mc (pv 0) (pc (has_wide T) hr (pa_cons (pv 2) pa_nil)))))), ?_⟩
  dsimp only at kk hk
  rw [i_msu hk] at kk
  have hr1 := hM.good.rd k
  have hn := narrow_lt s.a
  refine ⟨_, rfl, m, s, rfl, hM, _, s.a, rfl, rfl, hM.good.a, _, rfl, _, rfl, m, s, _, k, rfl, hM, rfl, (by omega : k < 4096), _, _, rfl, rfl, _, _, rfl, rfl, ?_⟩
  dsimp only
  have hd : Builtin.bitAnd ((Sf58.narrow s.a : Int) - (s.rd k : Int)) 32767 = (((Sf58.narrow s.a + 32768 - s.rd k) % 32768 : Nat) : Int) := by rw [m15]; omega
  rw [hd]
  have hlt : (Sf58.narrow s.a + 32768 - s.rd k) % 32768 < 32768 := Nat.mod_lt _ (by decide)
  generalize (Sf58.narrow s.a + 32768 - s.rd k) % 32768 = d at *
  refine ⟨_, rfl, _, _, rfl, rfl, _, rfl, iteD (fun h => ?_) (fun h => ?_)⟩
  · rw [if_pos (by omega)] at kk
    exact ⟨_, rfl, _, _, rfl, rfl, _, rfl, _, d - 1, rfl, by omega, (by omega : d - 1 < 32768), _, rfl, m, s, _, rfl, hM, set_a rfl (wide_lt _), kk⟩
  · rw [if_neg (by omega)] at kk
    exact ⟨_, rfl, _, d, rfl, rfl, hlt, _, rfl, m, s, _, rfl, hM, set_a rfl (wide_lt _), kk⟩

theorem has_qxch (T : Txt K mg C R) : Has P w K mg base 5 "qxch" ["machine", "k"] (spW1 C (fun _ k => 1024 ≤ k ∧ k < 2048) fun s k => s.more 2 k) := by
  refine mkHas T.d_qxch sc_qxch (fun _ _ _ _ _ _ us hl => match us, hl with | [_, _], _ => rfl) lenW1 fun f cdv A outer s0 H vs Q E hr h => ?_
  obtain ⟨m, s, i, k, rfl, hM, rfl, ⟨hk1, hk2⟩, kk⟩ := h
  refine ⟨_, (pss_cons (ps_set (i := 2) sc_qxch.nd rfl (Or.inl rfl) (pe_op op_and (pv 1) (pgi T.g_LOWER_TEN_second))) (pss_cons (ps_set (i := 3) sc_qxch.nd rfl (Or.inl rfl) (pm .q T.mc (pv 0))) (pss_cons (psm .q T.mc (pv 0) (pc (has_read_wide T) hr (pa_cons (pv 0) (pa_cons (pv 2) pa_nil)))) (pss_one (ps_expr (pc (has_write T) hr (pa_cons (pv 0) (pa_cons (pv 2) (pa_cons (pv 3) pa_nil))))))))), ?_⟩
  dsimp only at kk
  rw [i_qxch hk1 hk2] at kk
  have he : Builtin.bitAnd (k : Int) 1023 = ((k % 1024 : Nat) : Int) := by rw [m10]; omega
  have hj : k % 1024 < 1024 := Nat.mod_lt _ (by decide)
  refine ⟨_, rfl, _, _, rfl, rfl, ?_⟩
  try dsimp only
  rw [he]
  generalize k % 1024 = e at *
  exact ⟨_, rfl, m, s, rfl, hM, _, rfl, _, rfl, m, s, _, e, rfl, hM, rfl, (by omega : e < 4096), _, rfl, m, s, _, rfl, hM, set_q rfl (hM.good.rdWide e), fun H1 hM1 f1 =>
    ⟨_, rfl, _, rfl, _, rfl, m, _, _, _, e, _, rfl, hM1, rfl, rfl, ⟨by omega, hM.good.q⟩, fun H2 hM2 f2 => kk H2 hM2 (f1.trans f2)⟩⟩

theorem has_aug (T : Txt K mg C R) : Has P w K mg base 5 "aug" ["machine", "k"] (spW1 C (fun _ k => 2048 ≤ k ∧ k < 3072) fun s k => s.more 2 k) := by
  refine mkHas T.d_aug sc_aug (fun _ _ _ _ _ _ us hl => match us, hl with | [_, _], _ => rfl) lenW1 fun f cdv A outer s0 H vs Q E hr h => ?_
  obtain ⟨m, s, i, k, rfl, hM, rfl, ⟨hk1, hk2⟩, kk⟩ := h
  refine ⟨_, (pss_cons (ps_set (i := 2) sc_aug.nd rfl (Or.inl rfl) (pe_op op_and (pv 1) (pgi T.g_LOWER_TEN_second))) (pss_cons (ps_set (i := 3) sc_aug.nd rfl (Or.inl rfl) (pc (has_read_wide T) hr (pa_cons (pv 0) (pa_cons (pv 2) pa_nil)))) (pss_one (ps_if (pt_truth (pe_op op_and (pv 3) pe_int) (fun _ => rfl)) (pss_one (ps_expr (pc (has_write T) hr (pa_cons (pv 0) (pa_cons (pv 2) (pa_cons (pc (has_plus T) hr (pa_cons (pv 3) (pa_cons (pgi T.g_MINUS_ONE) pa_nil))) pa_nil)))))) (pss_one (ps_expr (pc (has_write T) hr (pa_cons (pv 0) (pa_cons (pv 2) (pa_cons (pc (has_plus T) hr (pa_cons (pv 3) (pa_cons pe_int pa_nil))) pa_nil)))))))))), ?_⟩
  dsimp only at kk
  rw [i_aug hM.good hk1 hk2] at kk
  have he : Builtin.bitAnd (k : Int) 1023 = ((k % 1024 : Nat) : Int) := by rw [m10]; omega
  have hj : k % 1024 < 1024 := Nat.mod_lt _ (by decide)
  refine ⟨_, rfl, _, _, rfl, rfl, ?_⟩
  try dsimp only
  rw [he]
  generalize k % 1024 = e at *
  have hx := hM.good.rdWide e
  refine ⟨_, rfl, _, rfl, m, s, _, e, rfl, hM, rfl, (by omega : e < 4096), ?_⟩
  generalize s.rdWide e = x at *
  refine ⟨_, rfl, _, _, rfl, rfl, _, rfl, iteZ (fun h => ?_) (fun h => ?_)⟩
  · rw [b15] at h
    rw [if_pos (by omega)] at kk
    exact ⟨_, rfl, _, rfl, _, rfl, _, _, x, 65534, rfl, rfl, rfl, ⟨hx, by decide⟩, m, s, _, _, e, _, rfl, hM, rfl, rfl, ⟨by omega, plus_lt _ _⟩, kk⟩
  · rw [b15] at h
    rw [if_neg (by omega)] at kk
    exact ⟨_, rfl, _, rfl, _, rfl, _, _, x, 1, rfl, rfl, rfl, ⟨hx, by decide⟩, m, s, _, _, e, _, rfl, hM, rfl, rfl, ⟨by omega, plus_lt _ _⟩, kk⟩

theorem has_dim (T : Txt K mg C R) : Has P w K mg base 5 "dim" ["machine", "k"] (spW1 C (fun _ k => 3072 ≤ k ∧ k < 4096) fun s k => s.more 2 k) := by
  refine mkHas T.d_dim sc_dim (fun _ _ _ _ _ _ us hl => match us, hl with | [_, _], _ => rfl) lenW1 fun f cdv A outer s0 H vs Q E hr h => ?_
  obtain ⟨m, s, i, k, rfl, hM, rfl, ⟨hk1, hk2⟩, kk⟩ := h
  refine ⟨_, (pss_cons (ps_set (i := 2) sc_dim.nd rfl (Or.inl rfl) (pe_op op_and (pv 1) (pgi T.g_LOWER_TEN_second))) (pss_cons (ps_set (i := 3) sc_dim.nd rfl (Or.inl rfl) (pc (has_read_wide T) hr (pa_cons (pv 0) (pa_cons (pv 2) pa_nil)))) (pss_cons (ps_if (PW.pt (pw_or (pt_cmpR op_eq (pv 3) pe_int (nomark _)) (pw_or1 (pt_cmpR op_eq (pv 3) pe_int (nomark _))))) (pss_one ps_retN) pss_nil) (pss_one (ps_if (pt_truth (pe_op op_and (pv 3) pe_int) (fun _ => rfl)) (pss_one (ps_expr (pc (has_write T) hr (pa_cons (pv 0) (pa_cons (pv 2) (pa_cons (pc (has_plus T) hr (pa_cons (pv 3) (pa_cons pe_int pa_nil))) pa_nil)))))) (pss_one (ps_expr (pc (has_write T) hr (pa_cons (pv 0) (pa_cons (pv 2) (pa_cons (pc (has_plus T) hr (pa_cons (pv 3) (pa_cons (pgi T.g_MINUS_ONE) pa_nil))) pa_nil))))))))))), ?_⟩
  dsimp only at kk
  rw [i_dim hM.good hk1 hk2] at kk
  have he : Builtin.bitAnd (k : Int) 1023 = ((k % 1024 : Nat) : Int) := by rw [m10]; omega
  have hj : k % 1024 < 1024 := Nat.mod_lt _ (by decide)
  refine ⟨_, rfl, _, _, rfl, rfl, ?_⟩
  try dsimp only
  rw [he]
  generalize k % 1024 = e at *
  have hx := hM.good.rdWide e
  refine ⟨_, rfl, _, rfl, m, s, _, e, rfl, hM, rfl, (by omega : e < 4096), ?_⟩
  generalize s.rdWide e = x at *
  refine ⟨_, rfl, rfl, _, rfl, iteI (fun h => iteT ?_) (fun h0 => ⟨_, rfl, rfl, _, rfl, iteI (fun h => ?_) (fun h1 => ⟨_, rfl, _, _, rfl, rfl, _, rfl, iteZ (fun h => ?_) (fun h => ?_)⟩)⟩)⟩
  · rw [if_pos (by omega)] at kk
    exact kk H hM (Fr.refl m H)
  · rw [if_pos (by omega)] at kk
    exact kk H hM (Fr.refl m H)
  · rw [b15] at h
    rw [if_neg (by omega), if_pos (by omega)] at kk
    exact ⟨_, rfl, _, rfl, _, rfl, _, _, x, 1, rfl, rfl, rfl, ⟨hx, by decide⟩, m, s, _, _, e, _, rfl, hM, rfl, rfl, ⟨by omega, plus_lt _ _⟩, kk⟩
  · rw [b15] at h
    rw [if_neg (by omega), if_neg (by omega)] at kk
    exact ⟨_, rfl, _, rfl, _, rfl, _, _, x, 65534, rfl, rfl, rfl, ⟨hx, by decide⟩, m, s, _, _, e, _, rfl, hM, rfl, rfl, ⟨by omega, plus_lt _ _⟩, kk⟩

def sp_pair (C : Addr) : Sp := fun vs H Q _ => ∃ (m : Addr) (s : Sf58.St) (i : Int) (k x y : Nat), vs = [.ref m, .int i, .int (x : Nat), .int (y : Nat)] ∧ MachAt C H m s ∧ i = k ∧ k < 4096 ∧ x < 32768 ∧ y < 65536 ∧
  ∀ H1, MachAt C H1 m (anew (anew s k (Sf58.wide x)) ((k + 4095) % 4096) y) → Fr m H H1 → Q .non H1
theorem has_edit_pair_anew (T : Txt K mg C R) : Has P w K mg base 4 "edit_pair_anew" ["machine", "k", "lower_word", "upper_word"] (sp_pair C) := by
  refine mkHas T.d_edit_pair_anew sc_edit_pair_anew (fun _ _ _ _ _ _ us hl => match us, hl with | [_, _, _, _], _ => rfl) (by rintro vs H Q E ⟨m, s, i, k, x, y, rfl, _⟩; rfl) fun f cdv A outer s0 H vs Q E hr h => ?_
  obtain ⟨m, s, i, k, x, y, rfl, hM, rfl, hk, hx, hy, kk⟩ := h
  refine ⟨_, (pss_cons (ps_expr (pc (has_edit_anew T) hr (pa_cons (pv 0) (pa_cons (pv 1) (pa_cons (pc (has_wide T) hr (pa_cons (pv 2) pa_nil)) pa_nil))))) (pss_one (ps_expr (pc (has_edit_anew T) hr (pa_cons (pv 0) (pa_cons (pe_op op_and (pe_op op_sub (pv 1) pe_int) (pgi T.g_LOWER_TWELVE)) (pa_cons (pv 3) pa_nil))))))), ?_⟩
  have hu : Builtin.bitAnd ((k : Int) - 1) 4095 = (((k + 4095) % 4096 : Nat) : Int) := by rw [m12]; omega
  have hj : (k + 4095) % 4096 < 4096 := Nat.mod_lt _ (by decide)
  refine ⟨_, rfl, _, rfl, _, rfl, _, x, rfl, rfl, hx, m, s, _, _, k, _, rfl, hM, rfl, rfl, ⟨hk, wide_lt _⟩, fun H1 hM1 f1 => ?_⟩
  exact ⟨_, rfl, _, rfl, _, _, rfl, rfl, _, _, rfl, rfl, _, rfl, m, _, _, _, (k + 4095) % 4096, y, rfl, hM1, hu, rfl, ⟨hj, hy⟩, fun H2 hM2 f2 => kk H2 hM2 (f1.trans f2)⟩

theorem has_dca (T : Txt K mg C R) : Has P w K mg base 5 "dca" ["machine", "k"] (spW1 C (fun _ k => k < 4096) fun s k => s.more 3 k) := by
  refine mkHas T.d_dca sc_dca (fun _ _ _ _ _ _ us hl => match us, hl with | [_, _], _ => rfl) lenW1 fun f cdv A outer s0 H vs Q E hr h => ?_
  obtain ⟨m, s, i, k, rfl, hM, rfl, hk, kk⟩ := h
  refine ⟨_, (pss_cons (ps_set (i := 2) sc_dca.nd rfl (Or.inl rfl) (pc (has_read_narrow T) hr (pa_cons (pv 0) (pa_cons (pv 1) pa_nil)))) (pss_cons (ps_set (i := 3) sc_dca.nd rfl (Or.inl rfl) (pc (has_read_wide T) hr (pa_cons (pv 0) (pa_cons (pe_op op_and (pe_op op_sub (pv 1) pe_int) (pgi T.g_LOWER_TWELVE)) pa_nil)))) (pss_cons (psm .l T.mc (pv 0) (pv 2)) (pss_cons (psm .a T.mc (pv 0) (pv 3)) (pss_one (ps_expr (pc (has_edit_pair_anew T) hr (pa_cons (pv 0) (pa_cons (pv 1) (pa_cons (pv 2) (pa_cons (pv 3) pa_nil))))))))))), ?_⟩
  dsimp only at kk hk
  rw [i_dca hM.good hk] at kk
  have hu : Builtin.bitAnd ((k : Int) - 1) 4095 = (((k + 4095) % 4096 : Nat) : Int) := by rw [m12]; omega
  have hj : (k + 4095) % 4096 < 4096 := Nat.mod_lt _ (by decide)
  have hx := hM.good.rd k
  have hy := hM.good.rdWide ((k + 4095) % 4096)
  refine ⟨_, rfl, _, rfl, m, s, _, k, rfl, hM, rfl, hk, ?_⟩
  refine ⟨_, rfl, _, rfl, _, _, rfl, rfl, _, _, rfl, rfl, m, s, _, (k + 4095) % 4096, rfl, hM, hu, hj, ?_⟩
  refine ⟨_, rfl, _, rfl, m, s, _, rfl, hM, set_l rfl hx, fun H1 hM1 f1 => ?_⟩
  refine ⟨_, rfl, _, rfl, m, _, _, rfl, hM1, set_a rfl hy, fun H2 hM2 f2 => ?_⟩
  exact ⟨_, rfl, _, rfl, _, rfl, _, rfl, m, _, _, k, s.rd k, _, rfl, hM2, rfl, hk, hx, hy, fun H3 hM3 f3 => kk H3 hM3 (f1.trans (f2.trans f3))⟩

theorem has_dcs (T : Txt K mg C R) : Has P w K mg base 5 "dcs" ["machine", "k"] (spW1 C (fun _ k => k < 4096) fun s k => s.more 4 k) := by
  refine mkHas T.d_dcs sc_dcs (fun _ _ _ _ _ _ us hl => match us, hl with | [_, _], _ => rfl) lenW1 fun f cdv A outer s0 H vs Q E hr h => ?_
  obtain ⟨m, s, i, k, rfl, hM, rfl, hk, kk⟩ := h
  refine ⟨_, (pss_cons (ps_set (i := 2) sc_dcs.nd rfl (Or.inl rfl) (pc (has_read_narrow T) hr (pa_cons (pv 0) (pa_cons (pv 1) pa_nil)))) (pss_cons (ps_set (i := 3) sc_dcs.nd rfl (Or.inl rfl) (pc (has_read_wide T) hr (pa_cons (pv 0) (pa_cons (pe_op op_and (pe_op op_sub (pv 1) pe_int) (pgi T.g_LOWER_TWELVE)) pa_nil)))) (pss_cons (psm .l T.mc (pv 0) (pc (has_minus_narrow T) hr (pa_cons (pv 2) pa_nil))) (pss_cons (psm .a T.mc (pv 0) (pc (has_minus_wide T) hr (pa_cons (pv 3) pa_nil))) (pss_one (ps_expr (pc (has_edit_pair_anew T) hr (pa_cons (pv 0) (pa_cons (pv 1) (pa_cons (pv 2) (pa_cons (pv 3) pa_nil))))))))))), ?_⟩
  dsimp only at kk hk
  rw [i_dcs hM.good hk] at kk
  have hu : Builtin.bitAnd ((k : Int) - 1) 4095 = (((k + 4095) % 4096 : Nat) : Int) := by rw [m12]; omega
  have hj : (k + 4095) % 4096 < 4096 := Nat.mod_lt _ (by decide)
  have hx := hM.good.rd k
  have hy := hM.good.rdWide ((k + 4095) % 4096)
  refine ⟨_, rfl, _, rfl, m, s, _, k, rfl, hM, rfl, hk, ?_⟩
  refine ⟨_, rfl, _, rfl, _, _, rfl, rfl, _, _, rfl, rfl, m, s, _, (k + 4095) % 4096, rfl, hM, hu, hj, ?_⟩
  refine ⟨_, rfl, _, _, rfl, rfl, hx, _, rfl, m, s, _, rfl, hM, set_l rfl (by show 32767 - s.rd k < 32768; omega), fun H1 hM1 f1 => ?_⟩
  refine ⟨_, rfl, _, _, rfl, rfl, hy, _, rfl, m, _, _, rfl, hM1, set_a rfl (minus_lt _), fun H2 hM2 f2 => ?_⟩
  exact ⟨_, rfl, _, rfl, _, rfl, _, rfl, m, _, _, k, s.rd k, _, rfl, hM2, rfl, hk, hx, hy, fun H3 hM3 f3 => kk H3 hM3 (f1.trans (f2.trans f3))⟩

theorem has_index_extended (T : Txt K mg C R) : Has P w K mg base 5 "index_extended" ["machine", "k"] (spW1 C (fun _ k => k < 4096) fun s k => s.more 5 k) := by
  refine mkHas T.d_index_extended sc_index_extended (fun _ _ _ _ _ _ us hl => match us, hl with | [_, _], _ => rfl) lenW1 fun f cdv A outer s0 H vs Q E hr h => ?_
  obtain ⟨m, s, i, k, rfl, hM, rfl, hk, kk⟩ := h
  refine ⟨_, (pss_cons (ps_set (i := 2) sc_index_extended.nd rfl (Or.inl rfl) (pc (has_read_narrow T) hr (pa_cons (pv 0) (pa_cons (pv 1) pa_nil)))) (pss_cons (psm .index_word T.mc (pv 0) (pv 2)) (pss_cons (psm .extended T.mc (pv 0) pe_bl) (pss_one (ps_expr (pc (has_edit_anew T) hr (pa_cons (pv 0) (pa_cons (pv 1) (pa_cons (pc (has_wide T) hr (pa_cons (pv 2) pa_nil)) pa_nil))))))))), ?_⟩
  dsimp only at kk hk
  rw [i_indexX] at kk
  have hx := hM.good.rd k
  exact ⟨_, rfl, _, rfl, m, s, _, k, rfl, hM, rfl, hk, _, rfl, _, rfl, m, s, _, rfl, hM, set_index rfl hx, fun H1 hM1 f1 => ⟨_, rfl, m, _, _, rfl, hM1, set_extended, fun H2 hM2 f2 =>
    ⟨_, rfl, _, rfl, _, rfl, _, _, rfl, rfl, hx, m, _, _, _, k, _, rfl, hM2, rfl, rfl, ⟨hk, wide_lt _⟩, fun H3 hM3 f3 => kk H3 hM3 (f1.trans (f2.trans f3))⟩⟩⟩

theorem has_su (T : Txt K mg C R) : Has P w K mg base 5 "su" ["machine", "k"] (spW1 C (fun _ k => k < 1024) fun s k => s.more 6 k) := by
  refine mkHas T.d_su sc_su (fun _ _ _ _ _ _ us hl => match us, hl with | [_, _], _ => rfl) lenW1 fun f cdv A outer s0 H vs Q E hr h => ?_
  obtain ⟨m, s, i, k, rfl, hM, rfl, hk, kk⟩ := h
  refine ⟨_, (pss_cons (ps_set (i := 2) sc_su.nd rfl (Or.inl rfl) (pc (has_read_wide T) hr (pa_cons (pv 0) (pa_cons (pv 1) pa_nil)))) (pss_cons (psm .a T.mc (pv 0) (pc (has_plus T) hr (pa_cons (pm .a T.mc (pv 0)) (pa_cons (pc (has_minus_wide T) hr (pa_cons (pv 2) pa_nil)) pa_nil)))) (pss_one (ps_expr (pc (has_edit_anew T) hr (pa_cons (pv 0) (pa_cons (pv 1) (pa_cons (pv 2) pa_nil)))))))), ?_⟩
  dsimp only at kk hk
  rw [i_su hM.good hk] at kk
  have hx := hM.good.rdWide k
  exact ⟨_, rfl, _, rfl, m, s, _, k, rfl, hM, rfl, (by omega : k < 4096), _, rfl, m, s, rfl, hM, _, rfl, _, _, rfl, rfl, hx, _, _, s.a, _, rfl, rfl, rfl, ⟨hM.good.a, minus_lt _⟩, _, rfl, m, s, _, rfl, hM, set_a rfl (plus_lt _ _), fun H1 hM1 f1 =>
    ⟨_, rfl, _, rfl, _, rfl, m, _, _, _, k, _, rfl, hM1, rfl, rfl, ⟨by omega, hx⟩, fun H2 hM2 f2 => kk H2 hM2 (f1.trans f2)⟩⟩

theorem has_bzmf (T : Txt K mg C R) : Has P w K mg base 5 "bzmf" ["machine", "k"] (spW1 C (fun _ k => 1024 ≤ k ∧ k < 4096) fun s k => s.more 6 k) := by
  refine mkHas T.d_bzmf sc_bzmf (fun _ _ _ _ _ _ us hl => match us, hl with | [_, _], _ => rfl) lenW1 fun f cdv A outer s0 H vs Q E hr h => ?_
  obtain ⟨m, s, i, k, rfl, hM, rfl, ⟨hk1, hk2⟩, kk⟩ := h
  refine ⟨_, (pss_one (ps_if (PW.pt (pw_or (pt_cmpR op_eq (pm .a T.mc (pv 0)) pe_int (nomark _)) (pw_or1 (pt_truth (pe_op op_and (pm .a T.mc (pv 0)) pe_int) (fun _ => rfl))))) (pss_one (psm .z T.mc (pv 0) (pv 1))) pss_nil)), ?_⟩
  dsimp only at kk
  rw [i_bzmf hM.good hk1] at kk
  have ha := hM.good.a
  refine ⟨_, rfl, m, s, rfl, hM, rfl, _, rfl, iteI (fun h => iteT ?_) (fun h0 => ⟨_, rfl, m, s, rfl, hM, _, _, rfl, rfl, _, rfl, iteZ (fun h => ?_) (fun h => ?_)⟩)⟩
  · rw [if_pos (by omega)] at kk
    exact ⟨_, rfl, _, rfl, m, s, _, rfl, hM, set_z (n := k) rfl hk2, kk⟩
  · rw [b15] at h
    rw [if_pos (by omega)] at kk
    exact ⟨_, rfl, _, rfl, m, s, _, rfl, hM, set_z (n := k) rfl hk2, kk⟩
  · rw [b15] at h
    rw [if_neg (by omega)] at kk
    exact kk H hM (Fr.refl m H)

theorem value_lt (x : Nat) : (Sf58.value x).natAbs < 16384 := by
  unfold Sf58.value
  split <;> omega
theorem differ {x y : Nat} (hx : x < 32768) (hy : y < 32768) : (!decide (V.bl (decide (x / 16384 % 2 = 1)) = V.bl (decide (y / 16384 % 2 = 1)))) = (x / 16384 != y / 16384) := by
  rcases (show x / 16384 = 0 ∨ x / 16384 = 1 by omega) with h | h <;> rcases (show y / 16384 = 0 ∨ y / 16384 = 1 by omega) with h' | h' <;> rw [h, h'] <;> decide
theorem has_mp (T : Txt K mg C R) : Has P w K mg base 5 "mp" ["machine", "k"] (spW1 C (fun _ k => k < 4096) fun s k => s.more 7 k) := by
  refine mkHas T.d_mp sc_mp (fun _ _ _ _ _ _ us hl => match us, hl with | [_, _], _ => rfl) lenW1 fun f cdv A outer s0 H vs Q E hr h => ?_
  obtain ⟨m, s, i, k, rfl, hM, rfl, hk, kk⟩ := h
  refine ⟨_, (pss_cons (ps_set (i := 2) sc_mp.nd rfl (Or.inl rfl) (pc (has_narrow T) hr (pa_cons (pm .a T.mc (pv 0)) pa_nil))) (pss_cons (ps_set (i := 3) sc_mp.nd rfl (Or.inl rfl) (pc (has_read_narrow T) hr (pa_cons (pv 0) (pa_cons (pv 1) pa_nil)))) (pss_cons (ps_set (i := 4) sc_mp.nd rfl (Or.inl rfl) (pe_op op_mul (pc (has_amount T) hr (pa_cons (pv 2) pa_nil)) (pc (has_amount T) hr (pa_cons (pv 3) pa_nil)))) (pss_cons (ps_set (i := 5) sc_mp.nd rfl (Or.inl rfl) (pe_cmpR op_ne (pc (has_is_below T) hr (pa_cons (pv 2) pa_nil)) (pc (has_is_below T) hr (pa_cons (pv 3) pa_nil)) (nomark _))) (pss_cons (psm .a T.mc (pv 0) (pc (has_wide T) hr (pa_cons (pc (has_with_sign T) hr (pa_cons (pe_op op_shr (pv 4) pe_int) (pa_cons (pv 5) pa_nil))) pa_nil))) (pss_one (psm .l T.mc (pv 0) (pc (has_with_sign T) hr (pa_cons (pe_op op_and (pv 4) pe_int) (pa_cons (pv 5) pa_nil)))))))))), ?_⟩
  dsimp only at kk hk
  rw [i_mp] at kk
  have hx := narrow_lt s.a
  have hy := hM.good.rd k
  refine ⟨_, rfl, m, s, rfl, hM, _, s.a, rfl, rfl, hM.good.a, _, rfl, _, rfl, m, s, _, k, rfl, hM, rfl, hk, ?_⟩
  generalize Sf58.narrow s.a = x at *
  generalize s.rd k = y at *
  have h1 : amt x < 16384 := value_lt x
  have h2 : amt y < 16384 := value_lt y
  refine ⟨_, rfl, _, x, rfl, rfl, hx, _, rfl, _, y, rfl, rfl, hy, _, _, rfl, rfl, .inl ⟨by omega, by omega⟩, ?_⟩
  dsimp only [amt] at h1 h2 ⊢
  have hp : (Sf58.value x).natAbs * (Sf58.value y).natAbs < 268435456 := by
    have := Nat.mul_le_mul (Nat.le_of_lt_succ (Nat.lt_succ_of_lt h1)) (Nat.le_of_lt_succ (Nat.lt_succ_of_lt h2))
    have h3 := Nat.mul_le_mul (show (Sf58.value x).natAbs ≤ 16383 by omega) (show (Sf58.value y).natAbs ≤ 16383 by omega)
    omega
  rw [show ((Sf58.value x).natAbs : Int) * ((Sf58.value y).natAbs : Int) = (((Sf58.value x).natAbs * (Sf58.value y).natAbs : Nat) : Int) from (Int.natCast_mul _ _).symm]
  generalize (Sf58.value x).natAbs * (Sf58.value y).natAbs = p at *
  refine ⟨_, rfl, _, x, rfl, rfl, hx, _, rfl, _, y, rfl, rfl, hy, rfl, ?_⟩
  try dsimp only
  rw [differ hx hy]
  generalize (x / 16384 != y / 16384) = b at *
  refine ⟨_, rfl, _, _, rfl, rfl, (by show (0 : Int) ≤ _; decide), _, rfl, _, p / 16384, b, rfl, by rw [sr14], by omega, _, _, rfl, rfl, word_lt _ _, _, rfl, m, s, _, rfl, hM, set_a rfl (wide_lt _), fun H1 hM1 f1 => ?_⟩
  exact ⟨_, rfl, _, _, rfl, rfl, _, rfl, _, p % 16384, b, rfl, by rw [m14]; omega, by omega, _, rfl, m, _, _, rfl, hM1, set_l rfl (word_lt _ _), fun H2 hM2 f2 => kk H2 hM2 (f1.trans f2)⟩

theorem natAbs_if (n : Int) : (if n < 0 then -n else n) = (n.natAbs : Int) := by
  split <;> omega
theorem dv_big {n d : Nat} (hd : ¬ d = 0) : d * 16384 ≤ n ↔ 16383 < n / d := by
  rw [show (16383 < n / d) = (16384 ≤ n / d) from rfl, Nat.le_div_iff_mul_le (by omega), Nat.mul_comm]
theorem differ2 {b : Bool} {y : Nat} : (!decide (V.bl b = V.bl (decide (y / 16384 % 2 = 1)))) = (b != (y / 16384 % 2 == 1)) := by
  by_cases h : y / 16384 % 2 = 1
  · rw [decide_eq_true h, h]; cases b <;> decide
  · rw [decide_eq_false h, show (y / 16384 % 2 == 1) = false by simpa using h]; cases b <;> decide
theorem dvNeg_eq {s : Sf58.St} (ha : s.a < 65536) : dvNeg s = (decide (s.double < 0) || (decide (s.double = 0) && decide (Sf58.narrow s.a / 16384 % 2 = 1))) := by
  unfold dvNeg
  by_cases h0 : s.double = 0
  · rw [if_pos h0, h0, neg_bit ha]
    have : (Sf58.narrow s.a / 16384 % 2 = 1) ↔ 32768 ≤ s.a := by unfold Sf58.narrow; omega
    by_cases h : 32768 ≤ s.a
    · rw [decide_eq_true h, decide_eq_true (this.mpr h)]; decide
    · rw [decide_eq_false h, decide_eq_false fun q => h (this.mp q)]; decide
  · rw [if_neg h0, decide_eq_false h0]; simp
theorem has_dv (T : Txt K mg C R) : Has P w K mg base 5 "dv" ["machine", "k"] (spW1 C (fun _ k => k < 1024) fun s k => s.more 1 k) := by
  refine mkHas T.d_dv sc_dv (fun _ _ _ _ _ _ us hl => match us, hl with | [_, _], _ => rfl) lenW1 fun f cdv A outer s0 H vs Q E hr h => ?_
  obtain ⟨m, s, i, k, rfl, hM, rfl, hk, kk⟩ := h
  refine ⟨_, (pss_cons (ps_set (i := 2) sc_dv.nd rfl (Or.inl rfl) (pc (has_narrow T) hr (pa_cons (pm .a T.mc (pv 0)) pa_nil))) (pss_cons (ps_set (i := 3) sc_dv.nd rfl (Or.inl rfl) (pc (has_read_narrow T) hr (pa_cons (pv 0) (pa_cons (pv 1) pa_nil)))) (pss_cons (ps_set (i := 4) sc_dv.nd rfl (Or.inl rfl) (pe_op op_add (pe_op op_mul (pc (has_number_of T) hr (pa_cons (pv 2) pa_nil)) pe_int) (pc (has_number_of T) hr (pa_cons (pm .l T.mc (pv 0)) pa_nil)))) (pss_cons (ps_set (i := 5) sc_dv.nd rfl (Or.inl rfl) (pe_or (pe_cmpR op_lt (pv 4) pe_int (nomark _)) (pe_one (pe_and (pe_cmpR op_eq (pv 4) pe_int (nomark _)) (pe_one (pc (has_is_below T) hr (pa_cons (pv 2) pa_nil))))))) (pss_cons (ps_set (i := 6) sc_dv.nd rfl (Or.inl rfl) (pe_cmpR op_ne (pv 5) (pc (has_is_below T) hr (pa_cons (pv 3) pa_nil)) (nomark _))) (pss_cons (ps_set (i := 7) sc_dv.nd rfl (Or.inl rfl) (pc (has_amount T) hr (pa_cons (pv 3) pa_nil))) (pss_cons (ps_if (PW.pt (pw_or (pt_cmpR op_eq (pv 7) pe_int (nomark _)) (pw_or1 (pt_cmpR op_gt (pe_op op_fdiv (pe_callB call_abs (by rfl) T.b_abs boot_abs_ (pa_cons (pv 4) pa_nil)) (pv 7)) pe_int (nomark _))))) (pss_cons (psm .a T.mc (pv 0) (pc (has_wide T) hr (pa_cons (pc (has_with_sign T) hr (pa_cons pe_int (pa_cons (pv 6) pa_nil))) pa_nil))) (pss_one ps_retN)) pss_nil) (pss_cons (psm .a T.mc (pv 0) (pc (has_wide T) hr (pa_cons (pc (has_with_sign T) hr (pa_cons (pe_op op_fdiv (pe_callB call_abs (by rfl) T.b_abs boot_abs_ (pa_cons (pv 4) pa_nil)) (pv 7)) (pa_cons (pv 6) pa_nil))) pa_nil))) (pss_one (psm .l T.mc (pv 0) (pc (has_with_sign T) hr (pa_cons (pe_op op_mod (pe_callB call_abs (by rfl) T.b_abs boot_abs_ (pa_cons (pv 4) pa_nil)) (pv 7)) (pa_cons (pv 5) pa_nil))))))))))))), ?_⟩
  dsimp only at kk hk
  rw [i_dv hk] at kk
  have hx := narrow_lt s.a
  have hy := hM.good.rd k
  have hl := hM.good.l
  have eN := dvNeg_eq hM.good.a
  refine ⟨_, rfl, m, s, rfl, hM, _, s.a, rfl, rfl, hM.good.a, _, rfl, _, rfl, m, s, _, k, rfl, hM, rfl, (by omega : k < 4096), ?_⟩
  refine ⟨_, rfl, _, Sf58.narrow s.a, rfl, rfl, hx, _, _, rfl, rfl, .inr ⟨by decide, by decide⟩, _, rfl, m, s, rfl, hM, _, s.l, rfl, rfl, hl, _, _, rfl, rfl, ?_⟩
  try dsimp only
  rw [show Sf58.value (Sf58.narrow s.a) * 16384 + Sf58.value s.l = s.double from rfl]
  generalize hX : Sf58.narrow s.a = x at *
  generalize hY : s.rd k = y at *
  have h2 := value_lt y
  refine ⟨_, rfl, _, _, rfl, rfl, _, rfl, iteD (fun hneg => ?_) (fun hneg => ⟨_, rfl, rfl, _, rfl, iteI (fun h0 => ⟨_, rfl, _, x, rfl, rfl, hx, ?_⟩) (fun h0 => ?_)⟩)⟩
  · rw [show V.bl true = V.bl (dvNeg s) by rw [eN, decide_eq_true hneg]; rfl]
    generalize dvNeg s = b at *
    refine ⟨_, rfl, _, rfl, _, y, rfl, rfl, hy, rfl, ?_⟩
    try dsimp only
    rw [differ2]
    generalize (b != (y / 16384 % 2 == 1)) = e at *
    refine ⟨_, rfl, _, y, rfl, rfl, hy, ?_⟩
    dsimp only [amt]
    generalize hd : (Sf58.value y).natAbs = d at *
    have hv : Sf58.value y = 0 ↔ d = 0 := by omega
    refine ⟨_, rfl, rfl, _, rfl, iteI (fun hz => iteT ?_) (fun hz => ⟨_, rfl, _, rfl, _, rfl, _, _, rfl, rfl, ⟨by omega, by omega⟩, _, _, rfl, rfl, _, rfl, iteD (fun hq => ?_) (fun hq => ?_)⟩)⟩
    · rw [if_pos (.inr (hv.mpr (by omega)))] at kk
      exact ⟨_, rfl, _, 16383, e, rfl, rfl, by decide, _, _, rfl, rfl, word_lt _ _, _, rfl, m, s, _, rfl, hM, set_a rfl (wide_lt _), kk⟩
    · rw [natAbs_if, ← Int.natCast_ediv] at hq
      rw [if_pos (.inl ((dv_big (by omega)).mpr (by omega)))] at kk
      exact ⟨_, rfl, _, 16383, e, rfl, rfl, by decide, _, _, rfl, rfl, word_lt _ _, _, rfl, m, s, _, rfl, hM, set_a rfl (wide_lt _), kk⟩
    · rw [natAbs_if, ← Int.natCast_ediv] at hq
      have hb : ¬ d * 16384 ≤ s.double.natAbs := fun q => absurd ((dv_big (n := s.double.natAbs) (d := d) (by omega)).mp q) (by omega)
      rw [if_neg (by rintro (q | q); exact hb q; exact hz (by rw [hv.mp q]; rfl))] at kk
      have hm : s.double.natAbs % d < d := Nat.mod_lt _ (by omega)
      refine ⟨_, rfl, _, rfl, _, rfl, _, _, rfl, rfl, ⟨by omega, by omega⟩, _, rfl, _, s.double.natAbs / d, e, rfl, by rw [natAbs_if, Int.natCast_ediv], by omega, _, _, rfl, rfl, word_lt _ _, _, rfl, m, s, _, rfl, hM, set_a rfl (wide_lt _), fun H1 hM1 f1 => ?_⟩
      exact ⟨_, rfl, _, rfl, _, rfl, _, _, rfl, rfl, (by show (0 : Int) < (d : Int); omega), _, rfl, _, s.double.natAbs % d, b, rfl, by rw [natAbs_if, Int.natCast_emod], by omega, _, rfl, m, _, _, rfl, hM1, set_l rfl (word_lt _ _), fun H2 hM2 f2 => kk H2 hM2 (f1.trans f2)⟩
  · rw [show V.bl (decide (x / 16384 % 2 = 1)) = V.bl (dvNeg s) by rw [eN, decide_eq_false hneg, decide_eq_true h0]; rfl]
    generalize dvNeg s = b at *
    refine ⟨_, rfl, _, rfl, _, y, rfl, rfl, hy, rfl, ?_⟩
    try dsimp only
    rw [differ2]
    generalize (b != (y / 16384 % 2 == 1)) = e at *
    refine ⟨_, rfl, _, y, rfl, rfl, hy, ?_⟩
    dsimp only [amt]
    generalize hd : (Sf58.value y).natAbs = d at *
    have hv : Sf58.value y = 0 ↔ d = 0 := by omega
    refine ⟨_, rfl, rfl, _, rfl, iteI (fun hz => iteT ?_) (fun hz => ⟨_, rfl, _, rfl, _, rfl, _, _, rfl, rfl, ⟨by omega, by omega⟩, _, _, rfl, rfl, _, rfl, iteD (fun hq => ?_) (fun hq => ?_)⟩)⟩
    · rw [if_pos (.inr (hv.mpr (by omega)))] at kk
      exact ⟨_, rfl, _, 16383, e, rfl, rfl, by decide, _, _, rfl, rfl, word_lt _ _, _, rfl, m, s, _, rfl, hM, set_a rfl (wide_lt _), kk⟩
    · rw [natAbs_if, ← Int.natCast_ediv] at hq
      rw [if_pos (.inl ((dv_big (by omega)).mpr (by omega)))] at kk
      exact ⟨_, rfl, _, 16383, e, rfl, rfl, by decide, _, _, rfl, rfl, word_lt _ _, _, rfl, m, s, _, rfl, hM, set_a rfl (wide_lt _), kk⟩
    · rw [natAbs_if, ← Int.natCast_ediv] at hq
      have hb : ¬ d * 16384 ≤ s.double.natAbs := fun q => absurd ((dv_big (n := s.double.natAbs) (d := d) (by omega)).mp q) (by omega)
      rw [if_neg (by rintro (q | q); exact hb q; exact hz (by rw [hv.mp q]; rfl))] at kk
      have hm : s.double.natAbs % d < d := Nat.mod_lt _ (by omega)
      refine ⟨_, rfl, _, rfl, _, rfl, _, _, rfl, rfl, ⟨by omega, by omega⟩, _, rfl, _, s.double.natAbs / d, e, rfl, by rw [natAbs_if, Int.natCast_ediv], by omega, _, _, rfl, rfl, word_lt _ _, _, rfl, m, s, _, rfl, hM, set_a rfl (wide_lt _), fun H1 hM1 f1 => ?_⟩
      exact ⟨_, rfl, _, rfl, _, rfl, _, _, rfl, rfl, (by show (0 : Int) < (d : Int); omega), _, rfl, _, s.double.natAbs % d, b, rfl, by rw [natAbs_if, Int.natCast_emod], by omega, _, rfl, m, _, _, rfl, hM1, set_l rfl (word_lt _ _), fun H2 hM2 f2 => kk H2 hM2 (f1.trans f2)⟩
  · rw [show V.bl false = V.bl (dvNeg s) by rw [eN, decide_eq_false hneg, decide_eq_false h0]; rfl]
    generalize dvNeg s = b at *
    refine ⟨_, rfl, _, rfl, _, y, rfl, rfl, hy, rfl, ?_⟩
    try dsimp only
    rw [differ2]
    generalize (b != (y / 16384 % 2 == 1)) = e at *
    refine ⟨_, rfl, _, y, rfl, rfl, hy, ?_⟩
    dsimp only [amt]
    generalize hd : (Sf58.value y).natAbs = d at *
    have hv : Sf58.value y = 0 ↔ d = 0 := by omega
    refine ⟨_, rfl, rfl, _, rfl, iteI (fun hz => iteT ?_) (fun hz => ⟨_, rfl, _, rfl, _, rfl, _, _, rfl, rfl, ⟨by omega, by omega⟩, _, _, rfl, rfl, _, rfl, iteD (fun hq => ?_) (fun hq => ?_)⟩)⟩
    · rw [if_pos (.inr (hv.mpr (by omega)))] at kk
      exact ⟨_, rfl, _, 16383, e, rfl, rfl, by decide, _, _, rfl, rfl, word_lt _ _, _, rfl, m, s, _, rfl, hM, set_a rfl (wide_lt _), kk⟩
    · rw [natAbs_if, ← Int.natCast_ediv] at hq
      rw [if_pos (.inl ((dv_big (by omega)).mpr (by omega)))] at kk
      exact ⟨_, rfl, _, 16383, e, rfl, rfl, by decide, _, _, rfl, rfl, word_lt _ _, _, rfl, m, s, _, rfl, hM, set_a rfl (wide_lt _), kk⟩
    · rw [natAbs_if, ← Int.natCast_ediv] at hq
      have hb : ¬ d * 16384 ≤ s.double.natAbs := fun q => absurd ((dv_big (n := s.double.natAbs) (d := d) (by omega)).mp q) (by omega)
      rw [if_neg (by rintro (q | q); exact hb q; exact hz (by rw [hv.mp q]; rfl))] at kk
      have hm : s.double.natAbs % d < d := Nat.mod_lt _ (by omega)
      refine ⟨_, rfl, _, rfl, _, rfl, _, _, rfl, rfl, ⟨by omega, by omega⟩, _, rfl, _, s.double.natAbs / d, e, rfl, by rw [natAbs_if, Int.natCast_ediv], by omega, _, _, rfl, rfl, word_lt _ _, _, rfl, m, s, _, rfl, hM, set_a rfl (wide_lt _), fun H1 hM1 f1 => ?_⟩
      exact ⟨_, rfl, _, rfl, _, rfl, _, _, rfl, rfl, (by show (0 : Int) < (d : Int); omega), _, rfl, _, s.double.natAbs % d, b, rfl, by rw [natAbs_if, Int.natCast_emod], by omega, _, rfl, m, _, _, rfl, hM1, set_l rfl (word_lt _ _), fun H2 hM2 f2 => kk H2 hM2 (f1.trans f2)⟩

/-- the second list by the word's upper five bits -/
theorem second_call (T : Txt K mg C R) (n : Nat) (hn : n < 32) : ∃ nm, secondNames[n]? = some nm ∧ Has P w K mg base 5 nm ["machine", "k"] (spW1 C (fun _ k => k < 4096 ∧ k / 1024 = n % 4) fun s k => s.more (n / 4) k) := by
  match n, hn with
  | 0, _ => exact ⟨_, rfl, (has_by_channel T).imp (spW1.of (fun s k h => h.1) fun s k h => rfl)⟩
  | 1, _ => exact ⟨_, rfl, (has_by_channel T).imp (spW1.of (fun s k h => h.1) fun s k h => rfl)⟩
  | 2, _ => exact ⟨_, rfl, (has_by_channel T).imp (spW1.of (fun s k h => h.1) fun s k h => rfl)⟩
  | 3, _ => exact ⟨_, rfl, (has_by_channel T).imp (spW1.of (fun s k h => h.1) fun s k h => rfl)⟩
  | 4, _ => exact ⟨_, rfl, (has_dv T).imp (spW1.of (fun s k h => by omega) fun s k h => rfl)⟩
  | 5, _ => exact ⟨_, rfl, (has_bzf T).imp (spW1.of (fun s k h => by omega) fun s k h => rfl)⟩
  | 6, _ => exact ⟨_, rfl, (has_bzf T).imp (spW1.of (fun s k h => by omega) fun s k h => rfl)⟩
  | 7, _ => exact ⟨_, rfl, (has_bzf T).imp (spW1.of (fun s k h => by omega) fun s k h => rfl)⟩
  | 8, _ => exact ⟨_, rfl, (has_msu T).imp (spW1.of (fun s k h => by omega) fun s k h => rfl)⟩
  | 9, _ => exact ⟨_, rfl, (has_qxch T).imp (spW1.of (fun s k h => by omega) fun s k h => rfl)⟩
  | 10, _ => exact ⟨_, rfl, (has_aug T).imp (spW1.of (fun s k h => by omega) fun s k h => rfl)⟩
  | 11, _ => exact ⟨_, rfl, (has_dim T).imp (spW1.of (fun s k h => by omega) fun s k h => rfl)⟩
  | 12, _ => exact ⟨_, rfl, (has_dca T).imp (spW1.of (fun s k h => h.1) fun s k h => rfl)⟩
  | 13, _ => exact ⟨_, rfl, (has_dca T).imp (spW1.of (fun s k h => h.1) fun s k h => rfl)⟩
  | 14, _ => exact ⟨_, rfl, (has_dca T).imp (spW1.of (fun s k h => h.1) fun s k h => rfl)⟩
  | 15, _ => exact ⟨_, rfl, (has_dca T).imp (spW1.of (fun s k h => h.1) fun s k h => rfl)⟩
  | 16, _ => exact ⟨_, rfl, (has_dcs T).imp (spW1.of (fun s k h => h.1) fun s k h => rfl)⟩
  | 17, _ => exact ⟨_, rfl, (has_dcs T).imp (spW1.of (fun s k h => h.1) fun s k h => rfl)⟩
  | 18, _ => exact ⟨_, rfl, (has_dcs T).imp (spW1.of (fun s k h => h.1) fun s k h => rfl)⟩
  | 19, _ => exact ⟨_, rfl, (has_dcs T).imp (spW1.of (fun s k h => h.1) fun s k h => rfl)⟩
  | 20, _ => exact ⟨_, rfl, (has_index_extended T).imp (spW1.of (fun s k h => h.1) fun s k h => rfl)⟩
  | 21, _ => exact ⟨_, rfl, (has_index_extended T).imp (spW1.of (fun s k h => h.1) fun s k h => rfl)⟩
  | 22, _ => exact ⟨_, rfl, (has_index_extended T).imp (spW1.of (fun s k h => h.1) fun s k h => rfl)⟩
  | 23, _ => exact ⟨_, rfl, (has_index_extended T).imp (spW1.of (fun s k h => h.1) fun s k h => rfl)⟩
  | 24, _ => exact ⟨_, rfl, (has_su T).imp (spW1.of (fun s k h => by omega) fun s k h => rfl)⟩
  | 25, _ => exact ⟨_, rfl, (has_bzmf T).imp (spW1.of (fun s k h => by omega) fun s k h => rfl)⟩
  | 26, _ => exact ⟨_, rfl, (has_bzmf T).imp (spW1.of (fun s k h => by omega) fun s k h => rfl)⟩
  | 27, _ => exact ⟨_, rfl, (has_bzmf T).imp (spW1.of (fun s k h => by omega) fun s k h => rfl)⟩
  | 28, _ => exact ⟨_, rfl, (has_mp T).imp (spW1.of (fun s k h => h.1) fun s k h => rfl)⟩
  | 29, _ => exact ⟨_, rfl, (has_mp T).imp (spW1.of (fun s k h => h.1) fun s k h => rfl)⟩
  | 30, _ => exact ⟨_, rfl, (has_mp T).imp (spW1.of (fun s k h => h.1) fun s k h => rfl)⟩
  | 31, _ => exact ⟨_, rfl, (has_mp T).imp (spW1.of (fun s k h => h.1) fun s k h => rfl)⟩
  | n + 32, h => omega
end
end Fb

set_option Elab.async false
set_option linter.all false
set_option maxRecDepth 100000
set_option maxHeartbeats 4000000
namespace Fb
open PySem L2
section
variable {P : Program} {w : World} {K : PySem.W.Frag} {mg : Str → Option Value} {base : Heap} {C R : Addr}

/-! ### pulses -/
def counted (s : Sf58.St) (n x : Nat) : Sf58.St := erWr s n (Sf58.narrow (Sf58.plus (Sf58.wide (s.erase n)) x))
def sp_count_by (C : Addr) : Sp := fun vs H Q _ => ∃ (m : Addr) (s : Sf58.St) (i j : Int) (n x : Nat), vs = [.ref m, .int i, .int j] ∧ MachAt C H m s ∧ i = n ∧ j = x ∧ n < 2048 ∧ x < 65536 ∧
  ∀ H1, MachAt C H1 m (counted s n x) → Fr m H H1 → Q (.int ((Sf58.ofSign (Sf58.over (Sf58.plus (Sf58.wide (s.erase n)) x)) : Nat) : Int)) H1
theorem has_count_by (T : Txt K mg C R) : Has P w K mg base 2 "count_by" ["machine", "number", "step"] (sp_count_by C) := by
  refine mkHas T.d_count_by sc_count_by (fun _ _ _ _ _ _ us hl => match us, hl with | [_, _, _], _ => rfl) (by rintro vs H Q E ⟨m, s, i, j, n, x, rfl, _⟩; rfl) fun f cdv A outer s0 H vs Q E hr h => ?_
  obtain ⟨m, s, i, j, n, x, rfl, hM, rfl, rfl, hn, hx, kk⟩ := h
  refine ⟨_, (pss_cons (ps_set (i := 3) sc_count_by.nd rfl (Or.inl rfl) (pc (has_plus T) hr (pa_cons (pc (has_wide T) hr (pa_cons (pe_ix ix_list (pm .changing T.mc (pv 0)) (pv 1) (fun _ _ => rfl)) pa_nil)) (pa_cons (pv 2) pa_nil)))) (pss_cons (ps_asg (pc (has_narrow T) hr (pa_cons (pv 3) pa_nil)) (pg_sub (pm .changing T.mc (pv 0)) (pv 1) set_list)) (pss_one (ps_ret (pc (has_overflow T) hr (pa_cons (pv 3) pa_nil)))))), ?_⟩
  refine ⟨_, rfl, m, s, rfl, hM, _, rfl, ixC (j := n) hM rfl hn ⟨_, _, rfl, rfl, hM.good.er n, _, rfl, _, _, _, x, rfl, rfl, rfl, ⟨wide_lt _, hx⟩, ?_⟩⟩
  refine ⟨_, rfl, _, _, rfl, rfl, plus_lt _ _, _, rfl, m, s, rfl, hM, _, rfl, setC hM rfl hn rfl (narrow_lt _) fun H1 hM1 f1 => ?_⟩
  exact ⟨_, rfl, _, _, rfl, rfl, plus_lt _ _, kk H1 hM1 f1⟩

theorem Good.askw {s : Sf58.St} (g : Good s) {k : Nat} (h : k < 11) : (∀ j ∈ (s.ask k).waiting, j < 11) ∧ (s.ask k).waiting.Nodup := ⟨(g.ask h).wt, (g.ask h).wn⟩
theorem has_ask_for (T : Txt K mg C R) : Has P w K mg base 2 "ask_for" ["machine", "which"] (spW1 C (fun _ k => k < 11) fun s k => s.ask k) := by
  refine mkHas T.d_ask_for sc_ask_for (fun _ _ _ _ _ _ us hl => match us, hl with | [_, _], _ => rfl) lenW1 fun f cdv A outer s0 H vs Q E hr h => ?_
  obtain ⟨m, s, i, k, rfl, hM, rfl, hk, kk⟩ := h
  refine ⟨_, (pss_one (psm .asked T.mc (pv 0) (pe_op op_or (pm .asked T.mc (pv 0)) (pe_op op_shl pe_int (pv 1))))), ?_⟩
  dsimp only at kk hk
  rw [← ask_eq] at kk
  exact ⟨_, rfl, m, s, rfl, hM, _, rfl, _, _, rfl, rfl, ⟨by omega, by omega, by decide⟩, _, _, rfl, rfl, _, rfl, m, s, _, rfl, hM, set_asked (ask_or hM.good k) (hM.good.askw hk).1 (hM.good.askw hk).2, kk⟩

theorem has_pulse_down (T : Txt K mg C R) : Has P w K mg base 3 "pulse_down" ["machine", "number"] (spW1 C (fun _ k => k < 2048) fun s k => s.pulse k true) := by
  refine mkHas T.d_pulse_down sc_pulse_down (fun _ _ _ _ _ _ us hl => match us, hl with | [_, _], _ => rfl) lenW1 fun f cdv A outer s0 H vs Q E hr h => ?_
  obtain ⟨m, s, i, k, rfl, hM, rfl, hk, kk⟩ := h
  refine ⟨_, (pss_one (ps_expr (pc (has_count_by T) hr (pa_cons (pv 0) (pa_cons (pv 1) (pa_cons (pgi T.g_MINUS_ONE) pa_nil)))))), ?_⟩
  dsimp only at kk hk
  rw [i_down hM.good] at kk
  exact ⟨_, rfl, _, rfl, m, s, _, _, k, 65534, rfl, hM, rfl, rfl, hk, by decide, kk⟩

def askedBy : List (Key × V) := [(Sum.inl 22, .int 3), (Sum.inl 23, .int 4), (Sum.inl 24, .int 2)]
theorem askedBy_val (k : Int) : valV askedBy (Sum.inl k : Key) = if k = 22 then some (.int 3) else if k = 23 then some (.int 4) else if k = 24 then some (.int 2) else none := by
  unfold valV askedBy
  by_cases h2 : k = 22
  · subst h2; rfl
  · by_cases h3 : k = 23
    · subst h3; rfl
    · by_cases h4 : k = 24
      · subst h4; rfl
      · rw [if_neg h2, if_neg h3, if_neg h4]
        have e : ∀ n : Int, k ≠ n → decide ((Sum.inl n : Key) = Sum.inl k) = false := fun n h => decide_eq_false fun q => h (Sum.inl.inj q).symm
        simp only [List.find?_cons, e 22 h2, e 23 h3, e 24 h4, List.find?_nil, Option.map_none]
theorem l3 : (3 : Nat) < 11 := by decide
theorem l4 : (4 : Nat) < 11 := by decide
theorem l2 : (2 : Nat) < 11 := by decide
theorem has_pulse_up (T : Txt K mg C R) : Has P w K mg base 3 "pulse_up" ["machine", "number"] (spW1 C (fun _ k => k < 2048) fun s k => s.pulse k false) := by
  refine mkHas T.d_pulse_up sc_pulse_up (fun _ _ _ _ _ _ us hl => match us, hl with | [_, _], _ => rfl) lenW1 fun f cdv A outer s0 H vs Q E hr h => ?_
  obtain ⟨m, s, i, k, rfl, hM, rfl, hk, kk⟩ := h
  refine ⟨_, (pss_cons (ps_if (pt_cmpR op_ne (pc (has_count_by T) hr (pa_cons (pv 0) (pa_cons (pv 1) (pa_cons pe_int pa_nil)))) pe_int (nomark _)) (pss_one ps_retN) pss_nil) (pss_one (ps_if (pt_cmpR op_eq (pv 1) pe_int (nomark _)) (pss_one (ps_expr (pc (has_count_by T) hr (pa_cons (pv 0) (pa_cons pe_int (pa_cons pe_int pa_nil)))))) (pss_one (ps_if (pt_cmp (pc_kin T.k_ASKED_BY (pv 1))) (pss_one (ps_expr (pc (has_ask_for T) hr (pa_cons (pv 0) (pa_cons (pe_kget T.k_ASKED_BY (pv 1) (fun _ _ => rfl)) pa_nil))))) pss_nil))))), ?_⟩
  dsimp only at kk hk
  refine ⟨_, rfl, _, rfl, m, s, _, _, k, 1, rfl, hM, rfl, rfl, hk, by decide, fun H1 hM1 f1 => ⟨rfl, _, rfl, iteN (fun h => ?_) (fun h => ?_)⟩⟩
  · rw [i_up0 (by omega)] at kk
    exact kk H1 hM1 f1
  · rw [i_up (by omega)] at kk
    dsimp only at kk
    refine ⟨_, rfl, rfl, _, rfl, iteI (fun h21 => ?_) (fun h21 => ?_)⟩
    · rw [if_pos (by omega)] at kk
      exact ⟨_, rfl, m, _, _, _, 20, 1, rfl, hM1, rfl, rfl, by decide, by decide, fun H2 hM2 f2 => kk H2 hM2 (f1.trans f2)⟩
    · rw [if_neg (by omega)] at kk
      refine ⟨_, rfl, _, rfl, _, rfl, ?_⟩
      have ev := askedBy_val (k : Int)
      change valV [((Sum.inl 22 : Key), V.int 3), (Sum.inl 23, V.int 4), (Sum.inl 24, V.int 2)] (Sum.inl (k : Int) : Key) = _ at ev
      rw [ev]
      by_cases h2 : k = 22
      · rw [if_pos h2] at kk
        rw [if_pos (by omega)] at ev ⊢
        exact iteT ⟨_, rfl, _, rfl, _, _, rfl, ev, m, _, _, 3, rfl, hM1, rfl, l3, fun H2 hM2 f2 => kk H2 hM2 (f1.trans f2)⟩
      · rw [if_neg h2] at kk
        rw [if_neg (by omega)] at ev ⊢
        by_cases h3 : k = 23
        · rw [if_pos h3] at kk
          rw [if_pos (by omega)] at ev ⊢
          exact iteT ⟨_, rfl, _, rfl, _, _, rfl, ev, m, _, _, 4, rfl, hM1, rfl, l4, fun H2 hM2 f2 => kk H2 hM2 (f1.trans f2)⟩
        · rw [if_neg h3] at kk
          rw [if_neg (by omega)] at ev ⊢
          by_cases h4 : k = 24
          · rw [if_pos h4] at kk
            rw [if_pos (by omega)] at ev ⊢
            exact iteT ⟨_, rfl, _, rfl, _, _, rfl, ev, m, _, _, 2, rfl, hM1, rfl, l2, fun H2 hM2 f2 => kk H2 hM2 (f1.trans f2)⟩
          · rw [if_neg h4] at kk
            rw [if_neg (by omega)]
            exact iteF (kk H1 hM1 f1)

/-! ### turns -/
theorem bits_none {s : Sf58.St} (g : Good s) : bits s.waiting = 0 ↔ s.waiting.isEmpty = true := by
  rw [bits_zero g.wn]
  cases s.waiting <;> simp
theorem instV_none {o : Option Nat} : decide (instV o = V.non) = o.isNone := by
  cases o <;> rfl
theorem has_interrupt_comes_in (T : Txt K mg C R) : Has P w K mg base 2 "interrupt_comes_in" ["machine"] (spQ C (fun _ => True) comesIn) := by
  refine mkHas T.d_interrupt_comes_in sc_interrupt_comes_in (fun _ _ _ _ _ _ us hl => match us, hl with | [_], _ => rfl) lenQ fun f cdv A outer s0 H vs Q E hr h => ?_
  obtain ⟨m, s, rfl, hM, _, kk⟩ := h
  refine ⟨_, (pss_cons (ps_if (PW.pt (pw_or (pt_cmpR op_eq (pm .asked T.mc (pv 0)) pe_int (nomark _)) (pw_or (pt_val (pm .barred T.mc (pv 0))) (pw_or1 (pt_val (pm .serving T.mc (pv 0))))))) (pss_one (ps_ret pe_bl)) pss_nil) (pss_cons (ps_if (PW.pt (pw_or (pt_val (pm .extended T.mc (pv 0))) (pw_or (pt_cmpR op_ne (pm .index_word T.mc (pv 0)) pe_int (nomark _)) (pw_or1 (pt_cmpR op_notN (pm .instead T.mc (pv 0)) pe_non (nomark _)))))) (pss_one (ps_ret pe_bl)) pss_nil) (pss_one (ps_ret (pe_cmpR op_eq (pc (has_overflow T) hr (pa_cons (pm .a T.mc (pv 0)) pa_nil)) pe_int (nomark _)))))), ?_⟩
  have k0 := kk H (Same.refl H)
  rw [comesIn_eq] at k0
  have hb := bits_none hM.good
  refine ⟨_, rfl, m, s, rfl, hM, rfl, _, rfl, iteI (fun h => iteT ?_) (fun h1 => ⟨_, rfl, m, s, rfl, hM, _, rfl, iteB (fun h => iteT ?_) (fun h2 => ⟨_, rfl, m, s, rfl, hM, _, rfl, iteB (fun h => ?_) (fun h3 => ?_)⟩)⟩)⟩
  · rw [hb.mp (by omega)] at k0
    exact k0
  · rw [h, Bool.not_true, Bool.false_and, Bool.and_false] at k0
    exact k0
  · rw [h, Bool.not_true, Bool.false_and, Bool.and_false, Bool.and_false] at k0
    exact k0
  · have he : s.waiting.isEmpty = false := by
      cases q : s.waiting.isEmpty with
      | false => rfl
      | true => exact absurd (hb.mpr q) (by omega)
    rw [he, h2, h3, Bool.not_false, Bool.true_and, Bool.true_and, Bool.true_and] at k0
    refine ⟨_, rfl, m, s, rfl, hM, _, rfl, iteB (fun h => iteT ?_) (fun h4 => ⟨_, rfl, m, s, rfl, hM, rfl, _, rfl, iteN (fun h => iteT ?_) (fun h5 => ⟨_, rfl, m, s, rfl, hM, rfl, _, rfl, iteBN (fun h => ?_) (fun h6 => ?_)⟩)⟩)⟩
    · rw [h, Bool.not_true, Bool.false_and] at k0
      exact k0
    · rw [show (s.index == 0) = false by simp; omega, Bool.false_and, Bool.and_false] at k0
      exact k0
    · have h : decide (instV s.instead = V.non) = false := h
      rw [instV_none] at h
      rw [h, Bool.false_and, Bool.and_false, Bool.and_false] at k0
      exact k0
    · have h6 : decide (instV s.instead = V.non) = true := h6
      rw [instV_none] at h6
      rw [h4, h6, show (s.index == 0) = true by simp; omega, Bool.not_false, Bool.true_and, Bool.true_and, Bool.true_and] at k0
      refine ⟨_, rfl, m, s, rfl, hM, _, s.a, rfl, rfl, hM.good.a, rfl, ?_⟩
      have e : decide (V.int ((Sf58.ofSign (Sf58.over s.a) : Nat) : Int) = V.int 0) = (Sf58.over s.a == 0) := by
        rw [Bool.eq_iff_iff]
        simp
        exact over_zero.symm
      show Q (V.bl (decide (V.int ((Sf58.ofSign (Sf58.over s.a) : Nat) : Int) = V.int 0))) H
      rw [e]
      exact k0

def sp_first (C : Addr) : Sp := fun vs H Q _ => ∃ (m : Addr) (s : Sf58.St) (k : Nat), vs = [.ref m] ∧ MachAt C H m s ∧ (List.range 11).find? (fun k => s.waiting.contains k) = some k ∧ s.waiting.contains k = true ∧ (∀ i, i < k → s.waiting.contains i = false) ∧ Q (.int (k : Nat)) H
theorem shift_bit (n j : Nat) : Builtin.bitAnd ((n : Int) / 2 ^ (j : Int).toNat) 1 = ((n / 2 ^ j % 2 : Nat) : Int) := by
  rw [Int.toNat_natCast, shr, m1]
  omega
theorem has_first_asked (T : Txt K mg C R) : Has P w K mg base 1 "first_asked" ["machine"] (sp_first C) := by
  refine mkHas T.d_first_asked sc_first_asked (fun _ _ _ _ _ _ us hl => match us, hl with | [_], _ => rfl) (by rintro vs H Q E ⟨m, s, k, rfl, _⟩; rfl) fun f cdv A outer s0 H vs Q E hr h => ?_
  obtain ⟨m, s, k, rfl, hM, hf, hc, hl, kk⟩ := h
  refine ⟨_, (pss_cons (ps_set (i := 1) sc_first_asked.nd rfl (Or.inl rfl) pe_int) (pss_cons (ps_while PassesOwn.never (pt_cmpR op_eq (pe_op op_and (pe_op op_shr (pm .asked T.mc (pv 0)) (pv 1)) pe_int) pe_int (nomark _)) (pss_one (ps_set (i := 1) sc_first_asked.nd rfl (Or.inl rfl) (pe_op op_add (pv 1) pe_int)))) (pss_one (ps_ret (pv 1))))), ?_⟩
  refine ⟨fun n σ H' => ∃ j : Nat, σ = [some (.ref m), some (.int (j : Nat))] ∧ H' = H ∧ j ≤ k ∧ n = k - j, ⟨k, 0, rfl, rfl, Nat.zero_le _, rfl⟩, ?_⟩
  rintro n σ H' ⟨j, rfl, rfl, hj, rfl⟩
  refine ⟨_, rfl, m, s, rfl, hM, _, rfl, _, _, rfl, rfl, by omega, _, _, rfl, rfl, rfl, _, rfl, ?_⟩
  have ht : (bits s.waiting).testBit j = s.waiting.contains j := bits_test hM.good.wn j
  rw [Nat.testBit_eq_decide_div_mod_eq] at ht
  refine iteI (fun h => ?_) (fun h => ?_) <;> rw [shift_bit] at h
  · have hn : s.waiting.contains j = false := by rw [← ht]; exact decide_eq_false (by omega)
    have hlt : j < k := by
      rcases Nat.lt_or_ge j k with q | q
      · exact q
      · have e : j = k := by omega
        rw [e, hc] at hn; cases hn
    refine ⟨fun σ' H'' => σ' = [some (.ref m), some (.int ((j + 1 : Nat) : Int))] ∧ H'' = H', fun σ' H'' ⟨e1, e2⟩ => ⟨k - (j + 1), by omega, j + 1, e1, e2, hlt, rfl⟩, ?_⟩
    exact ⟨_, rfl, _, _, rfl, rfl, rfl, rfl⟩
  · have hn : s.waiting.contains j = true := by rw [← ht]; exact decide_eq_true (by omega)
    have e : j = k := by
      rcases Nat.lt_or_ge j k with q | q
      · rw [hl j q] at hn; cases hn
      · omega
    subst e
    exact ⟨_, rfl, kk⟩

theorem xor_drop {s : Sf58.St} (g : Good s) {k : Nat} (hk : s.waiting.contains k = true) : Builtin.bitXor (bits s.waiting : Int) (1 * 2 ^ (k : Int).toNat) = ((bits (s.waiting.filter fun j => j != k) : Nat) : Int) := by
  have e : (1 : Int) * 2 ^ (k : Int).toNat = ((2 ^ k : Nat) : Int) := by rw [Int.one_mul, Int.toNat_natCast, Int.natCast_pow]; rfl
  rw [e, xorN, bits_drop g.wn hk]
theorem has_come_in (T : Txt K mg C R) : Has P w K mg base 3 "come_in" ["machine"] (spW0 C (fun s => s.waiting ≠ []) came) := by
  refine mkHas T.d_come_in sc_come_in (fun _ _ _ _ _ _ us hl => match us, hl with | [_], _ => rfl) lenW0 fun f cdv A outer s0 H vs Q E hr h => ?_
  obtain ⟨m, s, rfl, hM, hw, kk⟩ := h
  refine ⟨_, (pss_cons (ps_set (i := 1) sc_come_in.nd rfl (Or.inl rfl) (pc (has_first_asked T) hr (pa_cons (pv 0) pa_nil))) (pss_cons (ps_set (i := 2) sc_come_in.nd rfl (Or.inl rfl) (pc (has_read_narrow T) hr (pa_cons (pv 0) (pa_cons (pm .z T.mc (pv 0)) pa_nil)))) (pss_cons (ps_asg (pm .z T.mc (pv 0)) (pg_sub (pm .changing T.mc (pv 0)) pe_int set_list)) (pss_cons (ps_asg (pv 2) (pg_sub (pm .changing T.mc (pv 0)) pe_int set_list)) (pss_cons (psm .z T.mc (pv 0) (pe_op op_add pe_int (pe_op op_mul pe_int (pv 1)))) (pss_cons (psm .asked T.mc (pv 0) (pe_op op_xor (pm .asked T.mc (pv 0)) (pe_op op_shl pe_int (pv 1)))) (pss_one (psm .serving T.mc (pv 0) pe_bl)))))))), ?_⟩
  obtain ⟨k, hf, hc, hk, hl⟩ := find_first hM.good.wt hw
  rw [came_eq hM.good hf] at kk
  have hz := hM.good.z
  have hx := hM.good.rd s.z
  refine ⟨_, rfl, m, s, k, rfl, hM, hf, hc, hl, ?_⟩
  refine ⟨_, rfl, _, rfl, m, s, rfl, hM, m, s, _, s.z, rfl, hM, rfl, hz, ?_⟩
  refine ⟨_, rfl, m, s, rfl, hM, _, rfl, m, s, rfl, hM, ?_⟩
  dsimp only [tC]
  refine setC (j := 13) hM rfl (by decide) rfl (by omega) fun H1 hM1 f1 => ?_
  refine ⟨_, rfl, _, rfl, m, _, rfl, hM1, ?_⟩
  dsimp only [tC]
  refine setC (j := 15) hM1 rfl (by decide) rfl hx fun H2 hM2 f2 => ?_
  refine ⟨_, rfl, _, _, rfl, rfl, .inl ⟨by decide, by decide⟩, _, _, rfl, rfl, _, rfl, m, _, _, rfl, hM2, set_z (n := 2048 + 4 * k) (by omega) (by omega), fun H3 hM3 f3 => ?_⟩
  refine ⟨_, rfl, m, _, rfl, hM3, _, rfl, _, _, rfl, rfl, ⟨by omega, by omega, by decide⟩, _, _, rfl, rfl, _, rfl, m, _, _, rfl, hM3, set_asked (w := s.waiting.filter fun j => j != k) (xor_drop hM.good hc) (fun j hj => hM.good.wt j (List.mem_filter.mp hj).1) (hM.good.wn.filter _), fun H4 hM4 f4 => ?_⟩
  exact ⟨_, rfl, m, _, _, rfl, hM4, set_serving, fun H5 hM5 f5 => kk H5 hM5 (f1.trans (f2.trans (f3.trans (f4.trans f5))))⟩

def sp_take (C : Addr) : Sp := fun vs H Q _ => ∃ (m : Addr) (s : Sf58.St), vs = [.ref m] ∧ MachAt C H m s ∧ ∀ H1, MachAt C H1 m (fetched s) → Fr m H H1 → Q (.int (fetchW s : Nat)) H1
theorem has_take_instruction (T : Txt K mg C R) : Has P w K mg base 3 "take_instruction" ["machine"] (sp_take C) := by
  refine mkHas T.d_take_instruction sc_take_instruction (fun _ _ _ _ _ _ us hl => match us, hl with | [_], _ => rfl) (by rintro vs H Q E ⟨m, s, rfl, _⟩; rfl) fun f cdv A outer s0 H vs Q E hr h => ?_
  obtain ⟨m, s, rfl, hM, kk⟩ := h
  refine ⟨_, (pss_cons (ps_if (pt_cmpR op_isN (pm .instead T.mc (pv 0)) pe_non (nomark _)) (pss_one (ps_set (i := 1) sc_take_instruction.nd rfl (Or.inl rfl) (pc (has_read_narrow T) hr (pa_cons (pv 0) (pa_cons (pm .z T.mc (pv 0)) pa_nil))))) (pss_cons (ps_set (i := 1) sc_take_instruction.nd rfl (Or.inl rfl) (pm .instead T.mc (pv 0))) (pss_one (psm .instead T.mc (pv 0) pe_non)))) (pss_cons (ps_if (pt_cmpR op_ne (pm .index_word T.mc (pv 0)) pe_int (nomark _)) (pss_cons (ps_set (i := 1) sc_take_instruction.nd rfl (Or.inl rfl) (pc (has_narrow T) hr (pa_cons (pc (has_plus T) hr (pa_cons (pc (has_wide T) hr (pa_cons (pv 1) pa_nil)) (pa_cons (pc (has_wide T) hr (pa_cons (pm .index_word T.mc (pv 0)) pa_nil)) pa_nil))) pa_nil))) (pss_one (psm .index_word T.mc (pv 0) pe_int))) pss_nil) (pss_cons (psm .z T.mc (pv 0) (pe_op op_and (pe_op op_add (pm .z T.mc (pv 0)) pe_int) pe_int)) (pss_one (ps_ret (pv 1)))))), ?_⟩
  have hz := hM.good.z
  have hix := hM.good.ix
  unfold fetchW at kk
  refine ⟨_, rfl, m, s, rfl, hM, rfl, _, rfl, ?_⟩
  show if decide (instV s.instead = V.non) = true then _ else _
  rw [instV_none]
  refine iteB (fun hn => ?_) (fun hn => ?_)
  · have hn : s.instead = none := Option.isNone_iff_eq_none.mp hn
    rw [hn] at kk
    dsimp only at kk
    have hx := hM.good.rd s.z
    refine ⟨_, rfl, _, rfl, m, s, rfl, hM, m, s, _, s.z, rfl, hM, rfl, hz, ?_⟩
    refine ⟨_, rfl, m, s, rfl, hM, rfl, _, rfl, iteN (fun h => ?_) (fun h => ?_)⟩
    · refine ⟨_, rfl, _, s.rd s.z, rfl, rfl, hx, _, rfl, m, s, rfl, hM, _, s.index, rfl, rfl, hix, _, _, _, _, rfl, rfl, rfl, ⟨wide_lt _, wide_lt _⟩, _, _, rfl, rfl, plus_lt _ _, ?_⟩
      refine ⟨_, rfl, m, s, _, rfl, hM, set_index (n := 0) rfl (by decide), fun H1 hM1 f1 => ?_⟩
      refine ⟨_, rfl, m, _, rfl, hM1, _, _, rfl, rfl, _, _, rfl, rfl, _, rfl, m, _, _, rfl, hM1, set_z (n := (s.z + 1) % 4096) (by rw [m12]; show ((s.z : Int) + 1) % 4096 = _; omega) (by omega), fun H2 hM2 f2 => ?_⟩
      refine ⟨_, rfl, kk H2 ?_ (f1.trans f2)⟩
      have e : fetched s = { s with index := 0, z := (s.z + 1) % 4096 } := by
        unfold fetched
        cases s
        cases hn
        rfl
      rw [e]
      exact hM2
    · have h0 : s.index = 0 := by omega
      rw [h0, indexed_zero hx] at kk
      refine ⟨_, rfl, m, _, rfl, hM, _, _, rfl, rfl, _, _, rfl, rfl, _, rfl, m, _, _, rfl, hM, set_z (n := (s.z + 1) % 4096) (by rw [m12]; omega) (by omega), fun H2 hM2 f2 => ?_⟩
      refine ⟨_, rfl, kk H2 ?_ f2⟩
      rw [fetched_z h0 hn]
      exact hM2
  · obtain ⟨x, hs⟩ : ∃ x, s.instead = some x := by
      cases q : s.instead with
      | none => rw [q] at hn; cases hn
      | some x => exact ⟨x, rfl⟩
    have hx := hM.good.ins x hs
    rw [hs] at kk
    dsimp only at kk
    refine ⟨_, rfl, m, s, rfl, hM, ?_⟩
    have ev : MF.val H m s .instead = V.int (x : Nat) := by show instV s.instead = _; rw [hs]; rfl
    rw [ev]
    refine ⟨_, rfl, m, s, _, rfl, hM, set_noInstead, fun H1 hM1 f1 => ?_⟩
    refine ⟨_, rfl, m, _, rfl, hM1, rfl, _, rfl, iteN (fun h => ?_) (fun h => ?_)⟩
    · refine ⟨_, rfl, _, x, rfl, rfl, hx, _, rfl, m, _, rfl, hM1, _, s.index, rfl, rfl, hix, _, _, _, _, rfl, rfl, rfl, ⟨wide_lt _, wide_lt _⟩, _, _, rfl, rfl, plus_lt _ _, ?_⟩
      refine ⟨_, rfl, m, _, _, rfl, hM1, set_index (n := 0) rfl (by decide), fun H2 hM2 f2 => ?_⟩
      refine ⟨_, rfl, m, _, rfl, hM2, _, _, rfl, rfl, _, _, rfl, rfl, _, rfl, m, _, _, rfl, hM2, set_z (n := (s.z + 1) % 4096) (by rw [m12]; show ((s.z : Int) + 1) % 4096 = _; omega) (by omega), fun H3 hM3 f3 => ?_⟩
      exact ⟨_, rfl, kk H3 hM3 (f1.trans (f2.trans f3))⟩
    · have h0 : s.index = 0 := by have h : (s.index : Int) = 0 := h; omega
      rw [h0, indexed_zero hx] at kk
      refine ⟨_, rfl, m, _, rfl, hM1, _, _, rfl, rfl, _, _, rfl, rfl, _, rfl, m, _, _, rfl, hM1, set_z (n := (s.z + 1) % 4096) (by rw [m12]; show ((s.z : Int) + 1) % 4096 = _; omega) (by omega), fun H2 hM2 f2 => ?_⟩
      refine ⟨_, rfl, kk H2 ?_ (f1.trans f2)⟩
      have e : fetched s = { s with instead := none, z := (s.z + 1) % 4096 } := by
        unfold fetched
        cases s
        cases h0
        rfl
      rw [e]
      exact hM2

theorem has_take_turn (T : Txt K mg C R) : Has P w K mg base 6 "take_turn" ["machine"] (spW0 C (fun _ => True) Sf58.St.turn) := by
  refine mkHas T.d_take_turn sc_take_turn (fun _ _ _ _ _ _ us hl => match us, hl with | [_], _ => rfl) lenW0 fun f cdv A outer s0 H vs Q E hr h => ?_
  obtain ⟨m, s, rfl, hM, _, kk⟩ := h
  refine ⟨_, (pss_cons (ps_if (PW.pt (pw_and (pt_cmpR op_ne (pm .asked T.mc (pv 0)) pe_int (nomark _)) (pw_and1 (pt_val (pc (has_interrupt_comes_in T) hr (pa_cons (pv 0) pa_nil)))))) (pss_cons (ps_expr (pc (has_come_in T) hr (pa_cons (pv 0) pa_nil))) (pss_one ps_retN)) pss_nil) (pss_cons (ps_set (i := 1) sc_take_turn.nd rfl (Or.inl rfl) (pc (has_take_instruction T) hr (pa_cons (pv 0) pa_nil))) (pss_one (ps_if (pt_val (pm .extended T.mc (pv 0))) (pss_cons (psm .extended T.mc (pv 0) pe_bl) (pss_one (ps_expr (pcV (pe_tix T.t_SECOND_LIST (by decide) (pe_op op_shr (pv 1) pe_int) (fun _ _ => rfl)) hr (pa_cons (pv 0) (pa_cons (pe_op op_and (pv 1) pe_int) pa_nil)))))) (pss_one (ps_expr (pcV (pe_tix T.t_FIRST_LIST (by decide) (pe_op op_shr (pv 1) pe_int) (fun _ _ => rfl)) hr (pa_cons (pv 0) (pa_cons (pe_op op_and (pv 1) pe_int) pa_nil))))))))), ?_⟩
  have hb := bits_none hM.good
  have hi := fetchW_lt s
  have go : ∀ H0, Same H H0 → comesIn s = false → MachAt C H0 m s ∧ Fr m H H0 := fun H0 k _ => ⟨hM.same k, Fr.same hM k⟩
  refine ⟨_, rfl, m, s, rfl, hM, rfl, _, rfl, iteN (fun h0 => ⟨_, rfl, m, s, rfl, hM, trivial, fun H0 sm => ⟨_, rfl, iteB (fun hc => ?_) (fun hc => ?_)⟩⟩) (fun h0 => iteF ?_)⟩
  · rw [turn_in hM.good hc] at kk
    exact ⟨_, rfl, m, s, rfl, hM.same sm, (by
      intro e
      have : s.waiting.isEmpty = true := by rw [e]; rfl
      exact h0 (by rw [hb.mpr this]; rfl)), fun H1 hM1 f1 => kk H1 hM1 ((Fr.same hM sm).trans f1)⟩
  · have hM0 := hM.same sm
    have f0 := Fr.same hM sm
    rw [turn_no hc] at kk
    refine ⟨_, rfl, m, s, rfl, hM0, fun H1 hM1 f1 => ?_⟩
    have f1 := f0.trans f1
    refine ⟨_, rfl, m, _, rfl, hM1, _, rfl, iteB (fun hx => ?_) (fun hx => ?_)⟩
    · have hx : s.extend = true := hx
      rw [step_more hx] at kk
      refine ⟨_, rfl, m, _, _, rfl, hM1, set_extended, fun H2 hM2 f2 => ?_⟩
      obtain ⟨nm, hnm, hcal⟩ := second_call (P := P) (w := w) (base := base) T (fetchW s / 1024) (by omega)
      exact ⟨_, rfl, _, _, rfl, rfl, (by show (0 : Int) ≤ _; decide), _, fetchW s / 1024, nm, rfl, by rw [sr10], hnm, fun f hf => ⟨f, _, _, rfl, hcal.cal hf, _, rfl, _, rfl, _, _, rfl, rfl, m, _, _, fetchW s % 4096, rfl, hM2, by rw [m12]; omega, ⟨by omega, by omega⟩, fun H3 hM3 f3 =>
        kk H3 (by rw [show fetchW s / 1024 / 4 = fetchW s / 4096 by omega] at hM3; exact hM3) (f1.trans (f2.trans f3))⟩⟩
    · have hx : s.extend = false := hx
      rw [step_plain hx] at kk
      obtain ⟨nm, hnm, hcal⟩ := first_call (P := P) (w := w) (base := base) T (fetchW s / 1024) (by omega)
      exact ⟨_, rfl, _, _, rfl, rfl, (by show (0 : Int) ≤ _; decide), _, fetchW s / 1024, nm, rfl, by rw [sr10], hnm, fun f hf => ⟨f, _, _, rfl, (hcal.mono (by decide)).cal hf, _, rfl, _, rfl, _, _, rfl, rfl, m, _, _, fetchW s % 4096, rfl, hM1, by rw [m12]; omega, ⟨by omega, by omega⟩, fun H3 hM3 f3 =>
        kk H3 (by rw [show fetchW s / 1024 / 4 = fetchW s / 4096 by omega] at hM3; exact hM3) (f1.trans f3)⟩⟩
  · have hc : comesIn s = false := by
      have : s.waiting.isEmpty = true := hb.mp (by omega)
      rw [comesIn_eq, this]; rfl
    have hM0 := hM
    have f0 := Fr.refl m H
    rw [turn_no hc] at kk
    refine ⟨_, rfl, m, s, rfl, hM0, fun H1 hM1 f1 => ?_⟩
    have f1 := f0.trans f1
    refine ⟨_, rfl, m, _, rfl, hM1, _, rfl, iteB (fun hx => ?_) (fun hx => ?_)⟩
    · have hx : s.extend = true := hx
      rw [step_more hx] at kk
      refine ⟨_, rfl, m, _, _, rfl, hM1, set_extended, fun H2 hM2 f2 => ?_⟩
      obtain ⟨nm, hnm, hcal⟩ := second_call (P := P) (w := w) (base := base) T (fetchW s / 1024) (by omega)
      exact ⟨_, rfl, _, _, rfl, rfl, (by show (0 : Int) ≤ _; decide), _, fetchW s / 1024, nm, rfl, by rw [sr10], hnm, fun f hf => ⟨f, _, _, rfl, hcal.cal hf, _, rfl, _, rfl, _, _, rfl, rfl, m, _, _, fetchW s % 4096, rfl, hM2, by rw [m12]; omega, ⟨by omega, by omega⟩, fun H3 hM3 f3 =>
        kk H3 (by rw [show fetchW s / 1024 / 4 = fetchW s / 4096 by omega] at hM3; exact hM3) (f1.trans (f2.trans f3))⟩⟩
    · have hx : s.extend = false := hx
      rw [step_plain hx] at kk
      obtain ⟨nm, hnm, hcal⟩ := first_call (P := P) (w := w) (base := base) T (fetchW s / 1024) (by omega)
      exact ⟨_, rfl, _, _, rfl, rfl, (by show (0 : Int) ≤ _; decide), _, fetchW s / 1024, nm, rfl, by rw [sr10], hnm, fun f hf => ⟨f, _, _, rfl, (hcal.mono (by decide)).cal hf, _, rfl, _, rfl, _, _, rfl, rfl, m, _, _, fetchW s % 4096, rfl, hM1, by rw [m12]; omega, ⟨by omega, by omega⟩, fun H3 hM3 f3 =>
        kk H3 (by rw [show fetchW s / 1024 / 4 = fetchW s / 4096 by omega] at hM3; exact hM3) (f1.trans f3)⟩⟩

/-- whether the machine stands still: True is only told where it does -/
def sp_still (C : Addr) : Sp := fun vs H Q _ => ∃ (m : Addr) (s : Sf58.St), vs = [.ref m] ∧ MachAt C H m s ∧ ∀ (b : Bool) H1, (b = true → s.turn = s) → Same H H1 → Q (.bl b) H1
theorem in4 (z : Nat) : (if true = true then !inV (V.int (z : Nat)) [V.int 2, V.int 3, V.int 4, V.int 6] else inV (V.int (z : Nat)) [V.int 2, V.int 3, V.int 4, V.int 6]) = true → ¬ z = 2 ∧ ¬ z = 3 ∧ ¬ z = 4 ∧ ¬ z = 6 := by
  intro h
  refine ⟨?_, ?_, ?_, ?_⟩ <;> (rintro rfl; revert h; decide)
theorem has_stands_still (T : Txt K mg C R) : Has P w K mg base 3 "stands_still" ["machine"] (sp_still C) := by
  refine mkHas T.d_stands_still sc_stands_still (fun _ _ _ _ _ _ us hl => match us, hl with | [_], _ => rfl) (by rintro vs H Q E ⟨m, s, rfl, _⟩; rfl) fun f cdv A outer s0 H vs Q E hr h => ?_
  obtain ⟨m, s, rfl, hM, kk⟩ := h
  refine ⟨_, (pss_cons (ps_if (PW.pt (pw_or (pt_val (pm .extended T.mc (pv 0))) (pw_or (pt_cmpR op_ne (pm .index_word T.mc (pv 0)) pe_int (nomark _)) (pw_or1 (pt_cmpR op_notN (pm .instead T.mc (pv 0)) pe_non (nomark _)))))) (pss_one (ps_ret pe_bl)) pss_nil) (pss_cons (ps_if (pt_val (pc (has_interrupt_comes_in T) hr (pa_cons (pv 0) pa_nil))) (pss_one (ps_ret pe_bl)) pss_nil) (pss_cons (ps_set (i := 1) sc_stands_still.nd rfl (Or.inl rfl) (pc (has_read_narrow T) hr (pa_cons (pv 0) (pa_cons (pm .z T.mc (pv 0)) pa_nil)))) (pss_cons (ps_if (pt_cmpR op_eq (pv 1) (pm .z T.mc (pv 0)) (nomark _)) (pss_one (ps_ret (pe_and (pe_cmpR op_notIn_seq (pv 1) (pe_tup (pa_cons pe_int (pa_cons pe_int (pa_cons pe_int (pa_cons pe_int pa_nil))))) (by with_unfolding_all rfl)) (pe_one (pe_cmpR op_eq (pm .q T.mc (pv 0)) (pe_op op_and (pe_op op_add (pv 1) pe_int) pe_int) (nomark _)))))) pss_nil) (pss_one (ps_ret (pe_and (pe_cmpR op_eq (pv 1) (pe_op op_add pe_int (pm .z T.mc (pv 0))) (nomark _)) (pe_one (pe_cmpR op_ge (pm .z T.mc (pv 0)) pe_int (nomark _)))))))))), ?_⟩
  have g := hM.good
  have hz := g.z
  have no : Q (.bl false) H := kk false H (fun q => by cases q) (Same.refl H)
  refine ⟨_, rfl, m, s, rfl, hM, _, rfl, iteB (fun h => iteT no) (fun h4 => ⟨_, rfl, m, s, rfl, hM, rfl, _, rfl, iteN (fun h => iteT no) (fun h5 => ⟨_, rfl, m, s, rfl, hM, rfl, _, rfl, iteBN (fun h => no) (fun h6 => ?_)⟩)⟩)⟩
  have h6 : decide (instV s.instead = V.non) = true := h6
  rw [instV_none] at h6
  have h5 : (s.index : Int) = 0 := h5
  have hi : s.index = 0 := by omega
  have hn : s.instead = none := Option.isNone_iff_eq_none.mp h6
  refine ⟨_, rfl, m, s, rfl, hM, trivial, fun H0 sm => ⟨_, rfl, iteB (fun hc => kk false H0 (fun q => by cases q) sm) (fun hc => ?_)⟩⟩
  have hM0 := hM.same sm
  refine ⟨_, rfl, _, rfl, m, s, rfl, hM0, m, s, _, s.z, rfl, hM0, rfl, hz, ?_⟩
  refine ⟨_, rfl, _, rfl, m, s, rfl, hM0, rfl, _, rfl, iteI (fun hw => ?_) (fun hw => ?_)⟩
  · refine ⟨_, rfl, by show 4 ≤ sizeLine; decide, fun t ht => ⟨t, _, rfl, .inr (SqT.of upd_same), rfl, rfl, _, rfl, iteB (fun h => ?_) (fun h => ?_)⟩⟩
    · have hM1 := hM0.same (same_new (o := .tup [.int 2, .int 3, .int 4, .int 6]) ht)
      refine ⟨_, rfl, m, s, rfl, hM1, _, rfl, _, _, rfl, rfl, _, _, rfl, rfl, rfl, ?_⟩
      refine kk _ _ (fun q => ?_) (sm.trans (same_new ht))
      have hw' : s.rd s.z = s.z := by omega
      rw [hw'] at h q
      obtain ⟨h2, h3, h4', h6'⟩ := in4 s.z h
      have q' := V.int.inj (of_decide_eq_true q)
      rw [m12] at q'
      exact still_tc g h4 hi hn hc hw' h2 h3 h4' h6' (by omega)
    · exact kk _ _ (fun q => by cases q) (sm.trans (same_new ht))
  · refine ⟨_, rfl, _, rfl, m, s, rfl, hM0, _, _, rfl, rfl, rfl, _, rfl, iteI (fun h => ?_) (fun h => ?_)⟩
    · refine ⟨_, rfl, m, s, rfl, hM0, _, _, rfl, rfl, ?_⟩
      refine kk _ _ (fun q => ?_) sm
      have q' := of_decide_eq_true q
      exact still_tcf g h4 hi hn hc (by omega) (by omega)
    · exact kk _ _ (fun q => by cases q) sm

theorem has_run (T : Txt K mg C R) : Has P w K mg base 7 "run" ["machine", "turns"] (spW1 C (fun _ n => n ≤ 10000000) fun s n => Sf58.turns n s) := by
  refine mkHas T.d_run sc_run (fun _ _ _ _ _ _ us hl => match us, hl with | [_, _], _ => rfl) lenW1 fun f cdv A outer s0 H vs Q E hr h => ?_
  obtain ⟨m, s, i, n, rfl, hM, rfl, hn, kk⟩ := h
  refine ⟨_, (pss_one (ps_for PassesOwn.never rfl (pi_range1 rfl T.b_range (pa_cons (pv 1) pa_nil)) (pg_name (i := 2) sc_run.nd rfl (Or.inl rfl)) (pss_cons (ps_set (i := 3) sc_run.nd rfl (Or.inl rfl) (pm .z T.mc (pv 0))) (pss_cons (ps_expr (pc (has_take_turn T) hr (pa_cons (pv 0) pa_nil))) (pss_one (ps_if (PW.pt (pw_and (pt_cmpR op_eq (pm .z T.mc (pv 0)) (pv 3) (nomark _)) (pw_and1 (pt_val (pc (has_stands_still T) hr (pa_cons (pv 0) pa_nil)))))) (pss_one ps_retN) pss_nil)))))), ?_⟩
  dsimp only at kk hn
  refine ⟨_, rfl, _, rfl, by omega, by omega, for_range (n := n) (fun i σ H1 => ∃ (s1 : Sf58.St) (v2 v3 : Option V), σ = [some (.ref m), some (.int (n : Nat)), v2, v3] ∧ MachAt C H1 m s1 ∧ Fr m H H1 ∧ Sf58.turns (n - i) s1 = Sf58.turns n s)
    ⟨s, none, none, rfl, hM, Fr.refl m H, rfl⟩ ?_ ?_⟩
  · rintro i σ H1 hi ⟨s1, v2, v3, rfl, hM1, f1, e1⟩
    rw [turns_step hi] at e1
    refine ⟨_, rfl, m, s1, rfl, hM1, ?_⟩
    refine ⟨_, rfl, m, s1, rfl, hM1, trivial, fun H2 hM2 f2 => ?_⟩
    refine ⟨_, rfl, m, _, rfl, hM2, _, rfl, rfl, _, rfl, iteI (fun hz => ⟨_, rfl, m, _, rfl, hM2, fun b H3 hb sm => ⟨_, rfl, iteB (fun h => ?_) (fun h => ?_)⟩⟩) (fun hz => iteF ?_)⟩
    · rw [turns_still (hb h)] at e1
      exact kk H3 (by rw [← e1]; exact hM2.same sm) ((f1.trans f2).trans (Fr.same hM2 sm))
    · exact ⟨_, _, _, rfl, hM2.same sm, (f1.trans f2).trans (Fr.same hM2 sm), e1⟩
    · exact ⟨_, _, _, rfl, hM2, f1.trans f2, e1⟩
  · rintro σ H1 ⟨s1, v2, v3, rfl, hM1, f1, e1⟩
    rw [Nat.sub_self] at e1
    exact kk H1 (by rw [← e1]; exact hM1) f1
end
end Fb

set_option Elab.async false
set_option linter.all false
set_option maxRecDepth 100000
set_option maxHeartbeats 4000000
namespace Fb
open PySem L2
section
variable {P : Program} {w : World} {K : PySem.W.Frag} {mg : Str → Option Value} {base : Heap} {C R : Addr}

/-! ### the panel -/
def shown (s : Sf58.St) : List V := [.int (s.a : Nat), .int (s.l : Nat), .int (s.q : Nat), .int (s.eb : Nat), .int (s.fb : Nat), .int (s.z : Nat), .int (if s.shut = true then 1 else 0), .int (if s.serving = true then 1 else 0), .int (bits s.waiting : Nat)]
def sp_shown (C : Addr) : Sp := fun vs H Q _ => ∃ (m : Addr) (s : Sf58.St), vs = [.ref m] ∧ MachAt C H m s ∧ ∀ t, H t = none → Q (.ref t) (upd H t (.tup (shown s)))
theorem has_shown_values (T : Txt K mg C R) : Has P w K mg base 1 "shown_values" ["machine"] (sp_shown C) := by
  refine mkHas T.d_shown_values sc_shown_values (fun _ _ _ _ _ _ us hl => match us, hl with | [_], _ => rfl) (by rintro vs H Q E ⟨m, s, rfl, _⟩; rfl) fun f cdv A outer s0 H vs Q E hr h => ?_
  obtain ⟨m, s, rfl, hM, kk⟩ := h
  refine ⟨_, (pss_one (ps_ret (pe_tup (pa_cons (pm .a T.mc (pv 0)) (pa_cons (pm .l T.mc (pv 0)) (pa_cons (pm .q T.mc (pv 0)) (pa_cons (pm .eb T.mc (pv 0)) (pa_cons (pm .fb T.mc (pv 0)) (pa_cons (pm .z T.mc (pv 0)) (pa_cons (pe_callTy call_int1 (by rfl) T.b_int boot_int_ (pa_cons (pm .barred T.mc (pv 0)) pa_nil)) (pa_cons (pe_callTy call_int1 (by rfl) T.b_int boot_int_ (pa_cons (pm .serving T.mc (pv 0)) pa_nil)) (pa_cons (pm .asked T.mc (pv 0)) pa_nil)))))))))))), ?_⟩
  exact ⟨_, rfl, m, s, rfl, hM, _, rfl, m, s, rfl, hM, _, rfl, m, s, rfl, hM, _, rfl, m, s, rfl, hM, _, rfl, m, s, rfl, hM, _, rfl, m, s, rfl, hM, _, rfl, m, s, rfl, hM, .inr ⟨_, rfl, _, rfl, m, s, rfl, hM, .inr ⟨_, rfl, _, rfl, m, s, rfl, hM, by show 9 ≤ sizeLine; decide, kk⟩⟩⟩

theorem dec_one (v : Nat) : decide (V.int (Builtin.bitAnd (v : Int) 1) = V.int 1) = (v % 2 == 1) := by
  rw [m1, Bool.eq_iff_iff]
  simp
  omega
theorem has_set_value (T : Txt K mg C R) : Has P w K mg base 1 "set_value" ["machine", "k", "v"] (spW2 C (fun _ k _ => k ≤ 8) Sf58.St.put) := by
  refine mkHas T.d_set_value sc_set_value (fun _ _ _ _ _ _ us hl => match us, hl with | [_, _, _], _ => rfl) lenW2 fun f cdv A outer s0 H vs Q E hr h => ?_
  obtain ⟨m, s, i, j, k, v, rfl, hM, rfl, rfl, hk, kk⟩ := h
  refine ⟨_, (pss_one (ps_if (pt_cmpR op_eq (pv 1) pe_int (nomark _)) (pss_one (psm .a T.mc (pv 0) (pe_op op_and (pv 2) pe_int))) (pss_one (ps_if (pt_cmpR op_eq (pv 1) pe_int (nomark _)) (pss_one (psm .l T.mc (pv 0) (pe_op op_and (pv 2) pe_int))) (pss_one (ps_if (pt_cmpR op_eq (pv 1) pe_int (nomark _)) (pss_one (psm .q T.mc (pv 0) (pe_op op_and (pv 2) pe_int))) (pss_one (ps_if (pt_cmpR op_eq (pv 1) pe_int (nomark _)) (pss_one (psm .eb T.mc (pv 0) (pe_op op_and (pv 2) pe_int))) (pss_one (ps_if (pt_cmpR op_eq (pv 1) pe_int (nomark _)) (pss_one (psm .fb T.mc (pv 0) (pe_op op_and (pv 2) pe_int))) (pss_one (ps_if (pt_cmpR op_eq (pv 1) pe_int (nomark _)) (pss_one (psm .z T.mc (pv 0) (pe_op op_and (pv 2) pe_int))) (pss_one (ps_if (pt_cmpR op_eq (pv 1) pe_int (nomark _)) (pss_one (psm .barred T.mc (pv 0) (pe_cmpR op_eq (pe_op op_and (pv 2) pe_int) pe_int (nomark _)))) (pss_one (ps_if (pt_cmpR op_eq (pv 1) pe_int (nomark _)) (pss_one (psm .serving T.mc (pv 0) (pe_cmpR op_eq (pe_op op_and (pv 2) pe_int) pe_int (nomark _)))) (pss_one (ps_if (pt_cmpR op_eq (pv 1) pe_int (nomark _)) (pss_one (psm .asked T.mc (pv 0) (pe_op op_and (pv 2) pe_int))) pss_nil)))))))))))))))))), ?_⟩
  try dsimp only at hk
  refine ⟨_, rfl, rfl, _, rfl, iteI (fun h => ?_) (fun h0 => ⟨_, rfl, rfl, _, rfl, iteI (fun h => ?_) (fun h1 => ⟨_, rfl, rfl, _, rfl, iteI (fun h => ?_) (fun h2 => ⟨_, rfl, rfl, _, rfl, iteI (fun h => ?_) (fun h3 => ⟨_, rfl, rfl, _, rfl, iteI (fun h => ?_) (fun h4 => ?_)⟩)⟩)⟩)⟩)⟩
  · obtain rfl : k = 0 := by omega
    exact ⟨_, rfl, _, _, rfl, rfl, _, rfl, m, s, _, rfl, hM, set_a (n := v % 65536) (by rw [m16]; omega) (by omega), kk⟩
  · obtain rfl : k = 1 := by omega
    exact ⟨_, rfl, _, _, rfl, rfl, _, rfl, m, s, _, rfl, hM, set_l (n := v % 32768) (by rw [m15]; omega) (by omega), kk⟩
  · obtain rfl : k = 2 := by omega
    exact ⟨_, rfl, _, _, rfl, rfl, _, rfl, m, s, _, rfl, hM, set_q (n := v % 65536) (by rw [m16]; omega) (by omega), kk⟩
  · obtain rfl : k = 3 := by omega
    exact ⟨_, rfl, _, _, rfl, rfl, _, rfl, m, s, _, rfl, hM, set_eb (n := v % 8) (by rw [m3]; omega) (by omega), kk⟩
  · obtain rfl : k = 4 := by omega
    exact ⟨_, rfl, _, _, rfl, rfl, _, rfl, m, s, _, rfl, hM, set_fb (n := v % 32) (by rw [m5]; omega) (by omega), kk⟩
  · refine ⟨_, rfl, rfl, _, rfl, iteI (fun h => ?_) (fun h5 => ⟨_, rfl, rfl, _, rfl, iteI (fun h => ?_) (fun h6 => ⟨_, rfl, rfl, _, rfl, iteI (fun h => ?_) (fun h7 => ⟨_, rfl, rfl, _, rfl, iteI (fun h => ?_) (fun h8 => ?_)⟩)⟩)⟩)⟩
    · obtain rfl : k = 5 := by omega
      exact ⟨_, rfl, _, _, rfl, rfl, _, rfl, m, s, _, rfl, hM, set_z (n := v % 4096) (by rw [m12]; omega) (by omega), kk⟩
    · obtain rfl : k = 6 := by omega
      have kk : ∀ H1, MachAt C H1 m { s with shut := v % 2 == 1 } → Fr m H H1 → Q .non H1 := kk
      rw [← dec_one] at kk
      exact ⟨_, rfl, _, _, rfl, rfl, rfl, _, rfl, m, s, _, rfl, hM, set_barred, kk⟩
    · obtain rfl : k = 7 := by omega
      have kk : ∀ H1, MachAt C H1 m { s with serving := v % 2 == 1 } → Fr m H H1 → Q .non H1 := kk
      rw [← dec_one] at kk
      exact ⟨_, rfl, _, _, rfl, rfl, rfl, _, rfl, m, s, _, rfl, hM, set_serving, kk⟩
    · obtain rfl : k = 8 := by omega
      have g := hM.good.put 8 v
      exact ⟨_, rfl, _, _, rfl, rfl, _, rfl, m, s, _, rfl, hM, set_asked (w := (List.range 11).filter fun j => v.testBit j) (by rw [m11, bits_set]; omega) g.wt g.wn, kk⟩
    · exact absurd hk (by omega)

theorem has0 (k : Int) : Sf58.has 0 k = (decide (0 ≤ k) && decide (k < 40960)) := by
  show ((decide (0 ≤ k) && decide (k ≤ 40959)) && true) = _
  rw [Bool.and_true, Bool.eq_iff_iff]
  simp
  omega
theorem has1 (k : Int) : Sf58.has 1 k = (decide (8 ≤ k) && decide (k < 2048)) := by
  show ((decide (0 ≤ k) && decide (k ≤ 2047)) && (false || decide (8 ≤ k))) = _
  rw [Bool.false_or, Bool.eq_iff_iff]
  simp
  omega
theorem has2 (k : Int) : Sf58.has 2 k = (decide (0 ≤ k) && decide (k < 512)) := by
  show ((decide (0 ≤ k) && decide (k ≤ 511)) && true) = _
  rw [Bool.and_true, Bool.eq_iff_iff]
  simp
  omega
theorem has_not {c k : Int} (h0 : ¬ c = 0) (h1 : ¬ c = 1) (h2 : ¬ c = 2) : Sf58.has c k = false := by
  unfold Sf58.has Sf58.many
  rw [if_neg h0, if_neg h1, if_neg h2]
  rfl
def sp_is_word : Sp := fun vs H Q _ => ∃ c k : Int, vs = [.int c, .int k] ∧ Q (.bl (Sf58.has c k)) H
theorem has_is_word (T : Txt K mg C R) : Has P w K mg base 1 "is_word" ["kind", "k"] sp_is_word := by
  refine mkHas T.d_is_word sc_is_word (fun _ _ _ _ _ _ us hl => match us, hl with | [_, _], _ => rfl) (by rintro vs H Q E ⟨c, k, rfl, _⟩; rfl) fun f cdv A outer s0 H vs Q E hr h => ?_
  obtain ⟨c, k, rfl, kk⟩ := h
  refine ⟨_, (pss_cons (ps_if (pt_cmpR op_eq (pv 0) (pgi T.g_STAYING) (nomark _)) (pss_one (ps_ret (pe_chain op_le op_lt pe_int (pv 1) (pe_op op_mul (pgi T.g_BANKS) (pgi T.g_BANK_WORDS))))) pss_nil) (pss_cons (ps_if (pt_cmpR op_eq (pv 0) (pgi T.g_CHANGING) (nomark _)) (pss_one (ps_ret (pe_chain op_le op_lt pe_int (pv 1) (pgi T.g_CHANGING_WORDS)))) pss_nil) (pss_cons (ps_if (pt_cmpR op_eq (pv 0) (pgi T.g_CHANNEL) (nomark _)) (pss_one (ps_ret (pe_chain op_le op_lt pe_int (pv 1) (pgi T.g_CHANNELS)))) pss_nil) (pss_one (ps_ret pe_bl))))), ?_⟩
  refine ⟨_, rfl, rfl, _, rfl, iteI (fun h => ?_) (fun h0 => ⟨_, rfl, rfl, _, rfl, iteI (fun h => ?_) (fun h1 => ⟨_, rfl, rfl, _, rfl, iteI (fun h => ?_) (fun h2 => ?_)⟩)⟩)⟩
  · subst h
    rw [has0] at kk
    refine ⟨_, rfl, _, _, rfl, rfl, _, rfl, iteD (fun h => ?_) (fun h => ?_)⟩
    · rw [decide_eq_true h, Bool.true_and] at kk
      exact ⟨_, _, rfl, rfl, .inl ⟨by decide, by decide⟩, _, _, rfl, rfl, kk⟩
    · rw [decide_eq_false h, Bool.false_and] at kk
      exact kk
  · subst h
    rw [has1] at kk
    refine ⟨_, rfl, _, _, rfl, rfl, _, rfl, iteD (fun h => ?_) (fun h => ?_)⟩
    · rw [decide_eq_true h, Bool.true_and] at kk
      exact ⟨_, _, rfl, rfl, kk⟩
    · rw [decide_eq_false h, Bool.false_and] at kk
      exact kk
  · subst h
    rw [has2] at kk
    refine ⟨_, rfl, _, _, rfl, rfl, _, rfl, iteD (fun h => ?_) (fun h => ?_)⟩
    · rw [decide_eq_true h, Bool.true_and] at kk
      exact ⟨_, _, rfl, rfl, kk⟩
    · rw [decide_eq_false h, Bool.false_and] at kk
      exact kk
  · rw [has_not h0 h1 h2] at kk
    exact kk

theorem has_some {c k : Int} (h : Sf58.has c k = true) : (c = 0 ∧ 0 ≤ k ∧ k < 40960) ∨ (c = 1 ∧ 8 ≤ k ∧ k < 2048) ∨ (c = 2 ∧ 0 ≤ k ∧ k < 512) := by
  by_cases h0 : c = 0
  · subst h0
    rw [has0, Bool.and_eq_true] at h
    exact .inl ⟨rfl, of_decide_eq_true h.1, of_decide_eq_true h.2⟩
  · by_cases h1 : c = 1
    · subst h1
      rw [has1, Bool.and_eq_true] at h
      exact .inr (.inl ⟨rfl, of_decide_eq_true h.1, of_decide_eq_true h.2⟩)
    · by_cases h2 : c = 2
      · subst h2
        rw [has2, Bool.and_eq_true] at h
        exact .inr (.inr ⟨rfl, of_decide_eq_true h.1, of_decide_eq_true h.2⟩)
      · rw [has_not h0 h1 h2] at h; cases h
def lookW (s : Sf58.St) (c k : Int) : Nat := if c = 0 then s.fixed k.toNat else if c = 1 then s.erase k.toNat else s.inp k.toNat
def sp_look_at (C : Addr) : Sp := fun vs H Q _ => ∃ (m : Addr) (s : Sf58.St) (c k : Int), vs = [.ref m, .int c, .int k] ∧ MachAt C H m s ∧ Sf58.has c k = true ∧ Q (.int (lookW s c k : Nat)) H
theorem has_look_at (T : Txt K mg C R) : Has P w K mg base 3 "look_at" ["machine", "kind", "k"] (sp_look_at C) := by
  refine mkHas T.d_look_at sc_look_at (fun _ _ _ _ _ _ us hl => match us, hl with | [_, _, _], _ => rfl) (by rintro vs H Q E ⟨m, s, c, k, rfl, _⟩; rfl) fun f cdv A outer s0 H vs Q E hr h => ?_
  obtain ⟨m, s, c, k, rfl, hM, hh, kk⟩ := h
  refine ⟨_, (pss_cons (ps_if (pt_cmpR op_eq (pv 1) (pgi T.g_STAYING) (nomark _)) (pss_one (ps_ret (pe_ix ix_list (pm .staying T.mc (pv 0)) (pv 2) (fun _ _ => rfl)))) pss_nil) (pss_cons (ps_if (pt_cmpR op_eq (pv 1) (pgi T.g_CHANGING) (nomark _)) (pss_one (ps_ret (pe_ix ix_list (pm .changing T.mc (pv 0)) (pv 2) (fun _ _ => rfl)))) pss_nil) (pss_one (ps_ret (pc (has_read_channel T) hr (pa_cons (pv 0) (pa_cons (pv 2) pa_nil))))))), ?_⟩
  unfold lookW at kk
  refine ⟨_, rfl, rfl, _, rfl, iteI (fun h => ?_) (fun h0 => ⟨_, rfl, rfl, _, rfl, iteI (fun h => ?_) (fun h1 => ?_)⟩)⟩
  · rcases has_some hh with q | q | q
    · rw [if_pos h] at kk
      exact ⟨_, rfl, m, s, rfl, hM, _, rfl, ixS (j := k.toNat) hM (by omega) (by omega) kk⟩
    · omega
    · omega
  · rcases has_some hh with q | q | q
    · omega
    · rw [if_neg h0, if_pos h] at kk
      exact ⟨_, rfl, m, s, rfl, hM, _, rfl, ixC (j := k.toNat) hM (by omega) (by omega) kk⟩
    · omega
  · rcases has_some hh with q | q | q
    · exact absurd q.1 h0
    · exact absurd q.1 h1
    · rw [if_neg h0, if_neg h1] at kk
      exact ⟨_, rfl, _, rfl, m, s, _, k.toNat, rfl, hM, by omega, (by omega : k.toNat < 512), kk⟩
def pokeS (s : Sf58.St) (c k : Int) (x : Nat) : Sf58.St := if c = 0 then fxWr s k.toNat x else if c = 1 then erWr s k.toNat x else s.out k.toNat x
def sp_poke_in (C : Addr) : Sp := fun vs H Q _ => ∃ (m : Addr) (s : Sf58.St) (c k i : Int) (x : Nat), vs = [.ref m, .int c, .int k, .int i] ∧ MachAt C H m s ∧ Sf58.has c k = true ∧ i = x ∧ x < 32768 ∧ ∀ H1, MachAt C H1 m (pokeS s c k x) → Fr m H H1 → Q .non H1
theorem has_poke_in (T : Txt K mg C R) : Has P w K mg base 3 "poke_in" ["machine", "kind", "k", "word"] (sp_poke_in C) := by
  refine mkHas T.d_poke_in sc_poke_in (fun _ _ _ _ _ _ us hl => match us, hl with | [_, _, _, _], _ => rfl) (by rintro vs H Q E ⟨m, s, c, k, i, x, rfl, _⟩; rfl) fun f cdv A outer s0 H vs Q E hr h => ?_
  obtain ⟨m, s, c, k, i, x, rfl, hM, hh, rfl, hx, kk⟩ := h
  refine ⟨_, (pss_one (ps_if (pt_cmpR op_eq (pv 1) (pgi T.g_STAYING) (nomark _)) (pss_one (ps_asg (pv 3) (pg_sub (pm .staying T.mc (pv 0)) (pv 2) set_list))) (pss_one (ps_if (pt_cmpR op_eq (pv 1) (pgi T.g_CHANGING) (nomark _)) (pss_one (ps_asg (pv 3) (pg_sub (pm .changing T.mc (pv 0)) (pv 2) set_list))) (pss_one (ps_expr (pc (has_write_channel T) hr (pa_cons (pv 0) (pa_cons (pv 2) (pa_cons (pv 3) pa_nil)))))))))), ?_⟩
  unfold pokeS at kk
  refine ⟨_, rfl, rfl, _, rfl, iteI (fun h => ?_) (fun h0 => ⟨_, rfl, rfl, _, rfl, iteI (fun h => ?_) (fun h1 => ?_)⟩)⟩
  · rcases has_some hh with q | q | q
    · rw [if_pos h] at kk
      exact ⟨_, rfl, _, rfl, m, s, rfl, hM, _, rfl, setS (j := k.toNat) hM (by omega) (by omega) rfl hx kk⟩
    · omega
    · omega
  · rcases has_some hh with q | q | q
    · omega
    · rw [if_neg h0, if_pos h] at kk
      exact ⟨_, rfl, _, rfl, m, s, rfl, hM, _, rfl, setC (j := k.toNat) hM (by omega) (by omega) rfl hx kk⟩
    · omega
  · rcases has_some hh with q | q | q
    · exact absurd q.1 h0
    · exact absurd q.1 h1
    · rw [if_neg h0, if_neg h1] at kk
      exact ⟨_, rfl, _, rfl, _, rfl, m, s, _, _, k.toNat, x, rfl, hM, by omega, rfl, ⟨by omega, hx⟩, kk⟩

/-! ### a machine begun -/
theorem keepN {H : Hp} {b p : Addr} {o u : HO} (h : H b = some o) (n : H p = none) : upd H p u b = some o := by rw [upd_ne (ne_of_none h n)]; exact h
theorem keepM {H : Hp} {b m : Addr} {o u : HO} (h : H b = some o) (n : b ≠ m) : upd H m u b = some o := by rw [upd_ne n]; exact h
theorem upd_none {H : Hp} {b p : Addr} {u : HO} (h : upd H p u b = none) : H b = none := by
  unfold upd at h
  split at h
  · cases h
  · exact h
theorem lp {f : Str} {v : V} {fs : List (Str × V)} {n : Nat} (h : fs.length ≤ n) : (putF f v fs).length ≤ n + 1 := Nat.le_trans (length_putF f v fs) (Nat.succ_le_succ h)
def turnsL : List (Str × V) := [("barred", .bl false), ("serving", .bl false), ("asked", .int 0), ("extended", .bl false), ("index_word", .int 0), ("instead", .non)]
def sp_begin_turns (C : Addr) : Sp := fun vs H Q _ => ∃ (m dx : Addr) (fs : List (Str × V)), vs = [.ref m] ∧ H m = some (.ins C dx fs) ∧ fs.length ≤ 100 ∧ Q .non (upd H m (.ins C dx (puts fs turnsL)))
theorem has_Machine_begin_turns (T : Txt K mg C R) : MHas P w K mg base 1 C "begin_turns" ["self"] (sp_begin_turns C) := by
  refine mkMHas T.mc.cl T.m_Machine_begin_turns sc_Machine_begin_turns (fun _ _ _ _ _ _ us hl => match us, hl with | [_], _ => rfl) (by rintro vs H Q E ⟨m, dx, fs, rfl, _⟩; rfl) fun f cdv A outer s0 H vs Q E hr h => ?_
  obtain ⟨m, dx, fs, rfl, hm, hl, kk⟩ := h
  refine ⟨_, (pss_cons (ps_fld (pv 0) pe_bl rfl) (pss_cons (ps_fld (pv 0) pe_bl rfl) (pss_cons (ps_fld (pv 0) pe_int rfl) (pss_cons (ps_fld (pv 0) pe_bl rfl) (pss_cons (ps_fld (pv 0) pe_int rfl) (pss_one (ps_fld (pv 0) pe_non rfl))))))), ?_⟩
  refine ⟨_, rfl, m, C, dx, _, rfl, hm, T.mc.cl, T.mc.no .barred, by omega, ?_⟩
  refine ⟨_, rfl, m, C, dx, _, rfl, upd_same, T.mc.cl, T.mc.no .serving, Nat.lt_of_le_of_lt (lp hl) (by decide), ?_⟩
  refine ⟨_, rfl, m, C, dx, _, rfl, upd_same, T.mc.cl, T.mc.no .asked, Nat.lt_of_le_of_lt (lp (lp hl)) (by decide), ?_⟩
  refine ⟨_, rfl, m, C, dx, _, rfl, upd_same, T.mc.cl, T.mc.no .extended, Nat.lt_of_le_of_lt (lp (lp (lp hl))) (by decide), ?_⟩
  refine ⟨_, rfl, m, C, dx, _, rfl, upd_same, T.mc.cl, T.mc.no .index_word, Nat.lt_of_le_of_lt (lp (lp (lp (lp hl)))) (by decide), ?_⟩
  refine ⟨_, rfl, m, C, dx, _, rfl, upd_same, T.mc.cl, T.mc.no .instead, Nat.lt_of_le_of_lt (lp (lp (lp (lp (lp hl))))) (by decide), ?_⟩
  try dsimp only
  rw [upd_upd, upd_upd, upd_upd, upd_upd, upd_upd]
  exact kk

def beginL (pc ps ph : Addr) : List (Str × V) := names.zip (vals Sf58.blank pc ps ph)
theorem begun {fs : List (Str × V)} (h : fs = [] ∨ ∃ us, us.length = 15 ∧ fs = names.zip us) (pc ps ph : Addr) : puts fs (beginL pc ps ph) = names.zip (vals Sf58.blank pc ps ph) := by
  unfold beginL
  rcases h with rfl | ⟨us, hl, rfl⟩
  · rw [puts_new (fs := []) (l := names.zip (vals Sf58.blank pc ps ph)) (by
      show names.Nodup
      exact names_nd) (fun n _ q => by simp at q)]
    rfl
  · exact puts_old (done := []) (dv := []) names_nd rfl hl rfl
theorem begun_len {fs : List (Str × V)} (h : fs = [] ∨ ∃ us, us.length = 15 ∧ fs = names.zip us) : fs.length ≤ 15 := by
  rcases h with rfl | ⟨us, hl, rfl⟩
  · exact Nat.zero_le _
  · rw [List.length_zip, hl]; exact Nat.min_le_right _ _
theorem rep0 (n : Nat) : (List.replicate n [V.int 0]).flatten = memV (fun _ => 0) n := by
  rw [← memV_zero]
  simp
/-- a machine is begun: a new one, or one that stood -/
def sp_begin (C : Addr) : Sp := fun vs H Q _ => ∃ (m dx : Addr) (fs : List (Str × V)), vs = [.ref m] ∧ H m = some (.ins C dx fs) ∧ (fs = [] ∨ ∃ us, us.length = 15 ∧ fs = names.zip us) ∧
  ∀ H1, MachAt C H1 m Sf58.blank → (∀ b o, H b = some o → b ≠ m → H1 b = some o) → (∀ b, Own H1 m b → b = m ∨ H b = none) → Q .non H1
theorem has_Machine_begin (T : Txt K mg C R) : MHas P w K mg base 2 C "begin" ["self"] (sp_begin C) := by
  refine mkMHas T.mc.cl T.m_Machine_begin sc_Machine_begin (fun _ _ _ _ _ _ us hl => match us, hl with | [_], _ => rfl) (by rintro vs H Q E ⟨m, dx, fs, rfl, _⟩; rfl) fun f cdv A outer s0 H vs Q E hr h => ?_
  obtain ⟨m, dx, fs, rfl, hm, hfs, kk⟩ := h
  have hl := begun_len hfs
  refine ⟨_, (pss_cons (ps_fld (pv 0) pe_int rfl) (pss_cons (ps_fld (pv 0) pe_int rfl) (pss_cons (ps_fld (pv 0) pe_int rfl) (pss_cons (ps_fld (pv 0) pe_int rfl) (pss_cons (ps_fld (pv 0) pe_int rfl) (pss_cons (ps_fld (pv 0) pe_int rfl) (pss_cons (ps_fld (pv 0) (pe_op op_rep (pe_lst (pa_cons pe_int pa_nil)) (pgi T.g_CHANGING_WORDS)) rfl) (pss_cons (ps_fld (pv 0) (pe_op op_rep (pe_lst (pa_cons pe_int pa_nil)) (pe_op op_mul (pgi T.g_BANKS) (pgi T.g_BANK_WORDS))) rfl) (pss_cons (ps_fld (pv 0) (pe_op op_rep (pe_lst (pa_cons pe_int pa_nil)) (pgi T.g_CHANNELS)) rfl) (pss_one (ps_expr (pcm0 (has_Machine_begin_turns T) hr (pv 0))))))))))))), ?_⟩
  refine ⟨_, rfl, m, C, dx, _, rfl, hm, T.mc.cl, T.mc.no .a, by omega, ?_⟩
  refine ⟨_, rfl, m, C, dx, _, rfl, upd_same, T.mc.cl, T.mc.no .l, Nat.lt_of_le_of_lt (lp hl) (by decide), ?_⟩
  refine ⟨_, rfl, m, C, dx, _, rfl, upd_same, T.mc.cl, T.mc.no .q, Nat.lt_of_le_of_lt (lp (lp hl)) (by decide), ?_⟩
  refine ⟨_, rfl, m, C, dx, _, rfl, upd_same, T.mc.cl, T.mc.no .eb, Nat.lt_of_le_of_lt (lp (lp (lp hl))) (by decide), ?_⟩
  refine ⟨_, rfl, m, C, dx, _, rfl, upd_same, T.mc.cl, T.mc.no .fb, Nat.lt_of_le_of_lt (lp (lp (lp (lp hl)))) (by decide), ?_⟩
  refine ⟨_, rfl, m, C, dx, _, rfl, upd_same, T.mc.cl, T.mc.no .z, Nat.lt_of_le_of_lt (lp (lp (lp (lp (lp hl))))) (by decide), ?_⟩
  try dsimp only
  rw [upd_upd, upd_upd, upd_upd, upd_upd, upd_upd]
  have hl6 := lp (f := "z") (v := .int 2048) (lp (f := "fb") (v := .int 0) (lp (f := "eb") (v := .int 0) (lp (f := "q") (v := .int 0) (lp (f := "l") (v := .int 0) (lp (f := "a") (v := .int 0) hl)))))
  refine ⟨by show 1 ≤ sizeLine; decide, fun p1 n1 => ⟨p1, 2048, [.int 0], rfl, rfl, upd_same, by decide, by decide, by show 1 * 2048 ≤ sizeLine; decide, fun p2 n2 => ?_⟩⟩
  have m1 : m ≠ p1 := ne_of_none upd_same n1
  have m2 : m ≠ p2 := ne_of_none (keepN upd_same n1) n2
  refine ⟨_, rfl, m, C, dx, _, rfl, keepN (keepN upd_same n1) n2, T.mc.cl, T.mc.no .changing, Nat.lt_of_le_of_lt hl6 (by decide), ?_⟩
  refine ⟨by show 1 ≤ sizeLine; decide, fun p3 n3 => ⟨_, _, rfl, rfl, .inl ⟨by decide, by decide⟩, p3, _, [.int 0], rfl, rfl, upd_same, by decide, by decide, by show 1 * 40960 ≤ sizeLine; decide, fun p4 n4 => ?_⟩⟩
  refine ⟨_, rfl, m, C, dx, _, rfl, keepN (keepN upd_same n3) n4, T.mc.cl, T.mc.no .staying, Nat.lt_of_le_of_lt (lp hl6) (by decide), ?_⟩
  refine ⟨by show 1 ≤ sizeLine; decide, fun p5 n5 => ⟨p5, 512, [.int 0], rfl, rfl, upd_same, by decide, by decide, by show 1 * 512 ≤ sizeLine; decide, fun p6 n6 => ?_⟩⟩
  refine ⟨_, rfl, m, C, dx, _, rfl, keepN (keepN upd_same n5) n6, T.mc.cl, T.mc.no .channels, Nat.lt_of_le_of_lt (lp (lp hl6)) (by decide), ?_⟩
  have m4 : m ≠ p4 := ne_of_none (keepN upd_same n3) n4
  have m6 : m ≠ p6 := ne_of_none (keepN upd_same n5) n6
  refine ⟨_, rfl, m, dx, _, rfl, upd_same, ?_, m, dx, _, rfl, upd_same, Nat.le_trans (lp (lp (lp hl6))) (by decide), ?_⟩
  · iterate 9 rw [lookup_putF, if_neg (by decide +kernel)]
    rcases hfs with rfl | ⟨us, hl', rfl⟩
    · rfl
    · exact lookup_zip_no (by decide +kernel)
  · have key : ∀ Hx, Parts C Hx m dx p2 p4 p6 Sf58.blank → (∀ b o, H b = some o → b ≠ m → Hx b = some o) → H p2 = none → H p4 = none → H p6 = none → Q .non Hx := fun Hx pp k q2 q4 q6 => kk Hx ⟨⟨dx, p2, p4, p6, pp⟩, good_blank⟩ k fun b hb => by
      rcases pp.own.mp hb with e | e | e | e
      · exact .inl e
      · rw [e]; exact .inr q2
      · rw [e]; exact .inr q4
      · rw [e]; exact .inr q6
    refine key _ ?_ ?_ ?_ ?_ ?_
    · refine ⟨?_, ?_, ?_, ?_⟩
      · exact upd_same.trans (congrArg (fun l => some (HO.ins C dx l)) (begun hfs p2 p4 p6))
      · exact (keepM (keepM (keepN (keepN (keepM (keepN (keepN (keepM upd_same m2.symm) n3) n4) m2.symm) n5) n6) m2.symm) m2.symm).trans (congrArg (fun l => some (HO.lst l)) (rep0 2048))
      · exact (keepM (keepM (keepN (keepN (keepM upd_same m4.symm) n5) n6) m4.symm) m4.symm).trans (congrArg (fun l => some (HO.lst l)) (rep0 40960))
      · exact (keepM (keepM upd_same m6.symm) m6.symm).trans (congrArg (fun l => some (HO.lst l)) (rep0 512))
    · intro b o hb hne
      exact keepM (keepM (keepN (keepN (keepM (keepN (keepN (keepM (keepN (keepN (keepM hb hne) n1) n2) hne) n3) n4) hne) n5) n6) hne) hne
    · exact upd_none (upd_none n2)
    · exact upd_none (upd_none (upd_none (upd_none (upd_none n4))))
    · exact upd_none (upd_none (upd_none (upd_none (upd_none (upd_none (upd_none (upd_none n6)))))))
def sp_minit (C : Addr) : Sp := fun vs H Q _ => ∃ (m dx : Addr), vs = [.ref m] ∧ H m = some (.ins C dx []) ∧ ∀ H1, MachAt C H1 m Sf58.blank → (∀ b o, H b = some o → b ≠ m → H1 b = some o) → (∀ b, Own H1 m b → b = m ∨ H b = none) → Q .non H1
theorem has_Machine___init__ (T : Txt K mg C R) : MHas P w K mg base 3 C "__init__" ["self"] (sp_minit C) := by
  refine mkMHas T.mc.cl T.m_Machine___init__ sc_Machine___init__ (fun _ _ _ _ _ _ us hl => match us, hl with | [_], _ => rfl) (by rintro vs H Q E ⟨m, dx, rfl, _⟩; rfl) fun f cdv A outer s0 H vs Q E hr h => ?_
  obtain ⟨m, dx, rfl, hm, kk⟩ := h
  refine ⟨_, (pss_one (ps_expr (pcm0 (has_Machine_begin T) hr (pv 0)))), ?_⟩
  exact ⟨_, rfl, m, dx, _, rfl, hm, rfl, m, dx, [], rfl, hm, .inl rfl, kk⟩
theorem mk_Machine (T : Txt K mg C R) : NHas P w K mg base 3 "Machine" C ["self"] (sp_minit C) := mkNHas (has_Machine___init__ T) T.n_Machine T.mk_Machine T.kp_Machine
end
end Fb

set_option Elab.async false
set_option linter.all false
set_option maxRecDepth 100000
set_option maxHeartbeats 4000000
namespace Fb
open PySem L2
/-! ### the reader -/
def rnames : List Str := ["numbers", "position"]
theorem rnames_nd : rnames.Nodup := by decide +kernel
def RdrAt (R : Addr) (H : Hp) (r a : Addr) (p : Nat) : Prop := ∃ dx, H r = some (.ins R dx (rnames.zip [.ref a, .int (p : Nat)]))
/-- all but the reader stays -/
def Kept (r : Addr) (H H1 : Hp) : Prop := ∀ b o, H b = some o → b ≠ r → H1 b = some o
theorem r_num {a : Addr} {p : Nat} : (rnames.zip [V.ref a, V.int (p : Nat)]).lookup ("numbers" : Str) = some (V.ref a) := lookup_zip (i := 0) rnames_nd rfl rfl
theorem r_pos {a : Addr} {p : Nat} : (rnames.zip [V.ref a, V.int (p : Nat)]).lookup ("position" : Str) = some (V.int (p : Nat)) := lookup_zip (i := 1) rnames_nd rfl rfl
theorem r_put {a : Addr} {p : Nat} {y : V} : putF "position" y (rnames.zip [V.ref a, V.int (p : Nat)]) = rnames.zip [V.ref a, y] := putF_zip (i := 1) rnames_nd rfl (by show 1 < 2; decide)
theorem r_no {a : Addr} {p : Nat} {m : Str} (h : m ∉ rnames) : (rnames.zip [V.ref a, V.int (p : Nat)]).lookup m = none := lookup_zip_no h
theorem sq_kept {K : PySem.W.Frag} {R : Addr} {H H1 : Hp} {r a : Addr} {p : Nat} {xs : List V} (h : SqL K H a xs) (hR : ∃ dx fs, H r = some (.ins R dx fs)) (k : Kept r H H1) : SqL K H1 a xs := by
  obtain ⟨dx, fs, hR⟩ := hR
  rcases h with (h | ⟨o, h⟩) | h
  · exact .inl (.inl (k _ _ h (ne_of h hR (fun z => nomatch z))))
  · exact .inl (.inr ⟨o, k _ _ h (ne_of h hR (fun z => nomatch z))⟩)
  · exact .inr h
theorem cut_mid {xs : List V} {p n : Nat} (h : p + n ≤ xs.length) : cutV xs (some (p : Int)) (some ((p : Int) + (n : Int))) = (xs.drop p).take n := by
  unfold cutV
  rw [show (p : Int) + (n : Int) = ((p + n : Nat) : Int) by omega, HT.sIx_nat, HT.sIx_nat, show min p xs.length = p by omega, show min (p + n) xs.length = p + n by omega, show p + n - p = n by omega]
section
variable {P : Program} {w : World} {K : PySem.W.Frag} {mg : Str → Option Value} {base : Heap} {C R : Addr}
def sp_rinit (R : Addr) : Sp := fun vs H Q _ => ∃ (r dx a : Addr), vs = [.ref r, .ref a] ∧ H r = some (.ins R dx []) ∧ ∀ H1, RdrAt R H1 r a 0 → Kept r H H1 → Q .non H1
theorem has_Reader___init__ (T : Txt K mg C R) : MHas P w K mg base 1 R "__init__" ["self", "numbers"] (sp_rinit R) := by
  refine mkMHas T.rc T.m_Reader___init__ sc_Reader___init__ (fun _ _ _ _ _ _ us hl => match us, hl with | [_, _], _ => rfl) (by rintro vs H Q E ⟨r, dx, a, rfl, _⟩; rfl) fun f cdv A outer s0 H vs Q E hr h => ?_
  obtain ⟨r, dx, a, rfl, hm, kk⟩ := h
  refine ⟨_, (pss_cons (ps_fld (pv 0) (pv 1) rfl) (pss_one (ps_fld (pv 0) pe_int rfl))), ?_⟩
  refine ⟨_, rfl, _, rfl, r, R, dx, [], rfl, hm, T.rc, T.r_numbers, by show 0 < 1000; decide, _, rfl, r, R, dx, _, rfl, upd_same, T.rc, T.r_position, by show 1 < 1000; decide, ?_⟩
  try dsimp only
  rw [upd_upd]
  refine kk _ ⟨dx, upd_same.trans (congrArg (fun l => some (HO.ins R dx l)) ?_)⟩ fun b o hb hne => keepM hb hne
  rw [putF_new (fs := putF "numbers" (V.ref a) []) (by show ¬ ("position" : Str) ∈ [("numbers" : Str)]; decide +kernel)]
  rfl
theorem mk_Reader (T : Txt K mg C R) : NHas P w K mg base 1 "Reader" R ["self", "numbers"] (sp_rinit R) := mkNHas (has_Reader___init__ T) T.n_Reader T.mk_Reader T.kp_Reader
def sp_has_more (K : PySem.W.Frag) (R : Addr) : Sp := fun vs H Q _ => ∃ (r a : Addr) (p : Nat) (xs : List V), vs = [.ref r] ∧ RdrAt R H r a p ∧ SqL K H a xs ∧ Q (.bl (decide ((p : Int) < (xs.length : Int)))) H
theorem has_Reader_has_more (T : Txt K mg C R) : MHas P w K mg base 1 R "has_more" ["self"] (sp_has_more K R) := by
  refine mkMHas T.rc T.m_Reader_has_more sc_Reader_has_more (fun _ _ _ _ _ _ us hl => match us, hl with | [_], _ => rfl) (by rintro vs H Q E ⟨r, a, p, xs, rfl, _⟩; rfl) fun f cdv A outer s0 H vs Q E hr h => ?_
  obtain ⟨r, a, p, xs, rfl, ⟨dx, hR⟩, hq, kk⟩ := h
  refine ⟨_, (pss_one (ps_ret (pe_cmpR op_lt (pe_fld (pv 0) rfl) (pe_callB call_len_seq (by rfl) T.b_len boot_len_ (pa_cons (pe_fld (pv 0) rfl) pa_nil)) (nomark _)))), ?_⟩
  exact ⟨_, rfl, r, R, dx, _, _, rfl, hR, T.rc, T.r_position, r_pos, _, rfl, r, R, dx, _, _, rfl, hR, T.rc, T.r_numbers, r_num, a, xs, rfl, .inl hq, _, _, rfl, rfl, kk⟩
def sp_take_number (K : PySem.W.Frag) (R : Addr) : Sp := fun vs H Q _ => ∃ (r a : Addr) (p : Nat) (ns : List Int) (x : Int), vs = [.ref r] ∧ RdrAt R H r a p ∧ SqL K H a (ns.map V.int) ∧ ns[p]? = some x ∧ ∀ H1, RdrAt R H1 r a (p + 1) → Kept r H H1 → Q (.int x) H1
theorem has_Reader_take_number (T : Txt K mg C R) : MHas P w K mg base 1 R "take_number" ["self"] (sp_take_number K R) := by
  refine mkMHas T.rc T.m_Reader_take_number sc_Reader_take_number (fun _ _ _ _ _ _ us hl => match us, hl with | [_], _ => rfl) (by rintro vs H Q E ⟨r, a, p, ns, x, rfl, _⟩; rfl) fun f cdv A outer s0 H vs Q E hr h => ?_
  obtain ⟨r, a, p, ns, x, rfl, ⟨dx, hR⟩, hq, hx, kk⟩ := h
  refine ⟨_, (pss_cons (ps_set (i := 1) sc_Reader_take_number.nd rfl (Or.inl rfl) (pe_ix ix_list (pe_fld (pv 0) rfl) (pe_fld (pv 0) rfl) (fun _ _ => rfl))) (pss_cons (ps_fld (pv 0) (pe_op op_add (pe_fld (pv 0) rfl) pe_int) rfl) (pss_one (ps_ret (pv 1))))), ?_⟩
  refine ⟨_, rfl, r, R, dx, _, _, rfl, hR, T.rc, T.r_numbers, r_num, _, rfl, r, R, dx, _, _, rfl, hR, T.rc, T.r_position, r_pos, a, _, _, .int x, rfl, rfl, hq, atI_nat (by rw [List.getElem?_map, hx]; rfl), ?_⟩
  refine ⟨_, rfl, r, R, dx, _, _, rfl, hR, T.rc, T.r_position, r_pos, _, _, rfl, rfl, _, rfl, r, R, dx, _, rfl, hR, T.rc, T.r_position, by show 2 < 1000; decide, _, rfl, ?_⟩
  exact kk _ ⟨dx, by rw [upd_same, r_put]; rfl⟩ fun b o hb hne => keepM hb hne
def sp_take_row (K : PySem.W.Frag) (R : Addr) : Sp := fun vs H Q _ => ∃ (r a : Addr) (p n : Nat) (ns : List Int), vs = [.ref r] ∧ RdrAt R H r a p ∧ SqL K H a (ns.map V.int) ∧ ns[p]? = some (n : Int) ∧ p + 1 + n ≤ ns.length ∧
  ∀ t H1, H t = none → RdrAt R H1 r a (p + 1 + n) → H1 t = some (.lst (((ns.drop (p + 1)).take n).map V.int)) → Kept r H H1 → Q (.ref t) H1
theorem has_Reader_take_row (T : Txt K mg C R) : MHas P w K mg base 2 R "take_row" ["self"] (sp_take_row K R) := by
  refine mkMHas T.rc T.m_Reader_take_row sc_Reader_take_row (fun _ _ _ _ _ _ us hl => match us, hl with | [_], _ => rfl) (by rintro vs H Q E ⟨r, a, p, n, ns, rfl, _⟩; rfl) fun f cdv A outer s0 H vs Q E hr h => ?_
  obtain ⟨r, a, p, n, ns, rfl, hR, hq, hx, hn, kk⟩ := h
  refine ⟨_, (pss_cons (ps_set (i := 1) sc_Reader_take_row.nd rfl (Or.inl rfl) (pcm0 (has_Reader_take_number T) hr (pv 0))) (pss_cons (ps_set (i := 2) sc_Reader_take_row.nd rfl (Or.inl rfl) (pe_fld (pv 0) rfl)) (pss_cons (ps_fld (pv 0) (pe_op op_add (pv 2) (pv 1)) rfl) (pss_one (ps_ret (pe_slice sl_list (pe_fld (pv 0) rfl) (po_some (pv 2)) (po_some (pe_fld (pv 0) rfl)))))))), ?_⟩
  obtain ⟨dx0, hR0⟩ := id hR
  refine ⟨_, rfl, r, dx0, _, rfl, hR0, r_no (by decide +kernel), r, a, p, ns, _, rfl, hR, hq, hx, fun H1 ⟨dx, hR1⟩ k1 => ?_⟩
  have hq1 : SqL K H1 a (ns.map V.int) := sq_kept (p := p) hq ⟨_, _, hR0⟩ k1
  refine ⟨_, rfl, r, R, dx, _, _, rfl, hR1, T.rc, T.r_position, r_pos, ?_⟩
  refine ⟨_, rfl, _, rfl, _, _, rfl, rfl, _, rfl, r, R, dx, _, rfl, hR1, T.rc, T.r_position, by show 2 < 1000; decide, ?_⟩
  have hR2 : upd H1 r (.ins R dx (putF "position" (V.int (((p + 1 : Nat) : Int) + (n : Int))) (rnames.zip [V.ref a, V.int ((p + 1 : Nat) : Int)]))) r = some (.ins R dx (rnames.zip [V.ref a, V.int ((p + 1 + n : Nat) : Int)])) := by
    rw [upd_same, r_put, show ((p + 1 : Nat) : Int) + (n : Int) = ((p + 1 + n : Nat) : Int) by omega]
  have hq2 : SqL K (upd H1 r (.ins R dx (putF "position" (V.int (((p + 1 : Nat) : Int) + (n : Int))) (rnames.zip [V.ref a, V.int ((p + 1 : Nat) : Int)])))) a (ns.map V.int) :=
    sq_kept (p := p) hq1 ⟨_, _, hR1⟩ fun b o hb hne => keepM hb hne
  refine ⟨_, rfl, r, R, dx, _, _, rfl, hR2, T.rc, T.r_numbers, r_num, _, rfl, _, rfl, _, rfl, r, R, dx, _, _, rfl, hR2, T.rc, T.r_position, r_pos, _, rfl, a, _, rfl, hq2, fun t ht => ?_⟩
  have hH1t := upd_none ht
  have hnone : H t = none := by
    cases q : H t with
    | none => rfl
    | some o =>
      by_cases e : t = r
      · rw [e, hR1] at hH1t; cases hH1t
      · rw [k1 _ _ q e] at hH1t; cases hH1t
  refine kk t _ hnone ⟨dx, keepN hR2 ht⟩ ?_ fun b o hb hne => keepN (keepM (k1 b o hb hne) hne) ht
  rw [upd_same, show ((p + 1 + n : Nat) : Int) = ((p + 1 : Nat) : Int) + (n : Int) by omega, cut_mid (by rw [List.length_map]; omega), List.map_take, List.map_drop]

/-! ### a call's surroundings -/
structure Ctx (K : PySem.W.Frag) (C R : Addr) (H : Hp) (m r a : Addr) (s : Sf58.St) (p : Nat) (ns : List Int) : Prop where
  M : MachAt C H m s
  rr : RdrAt R H r a p
  q : SqL K H a (ns.map V.int)
  nr : ¬ Own H m r
  na : (¬ Own H m a ∧ ∃ o, H a = some o) ∨ ∀ H', SqL K H' a (ns.map V.int)
structure FrC (m r : Addr) (H H1 : Hp) : Prop where
  keep : ∀ b o, H b = some o → b ≠ r → ¬ Own H m b → H1 b = some o
  own : ∀ b, Own H1 m b → Own H m b ∨ H b = none
theorem FrC.refl (m r : Addr) (H : Hp) : FrC m r H H := ⟨fun _ _ h _ _ => h, fun _ h => .inl h⟩
theorem FrC.trans {m r : Addr} {H H1 H2 : Hp} (a : FrC m r H H1) (b : FrC m r H1 H2) (hr : ∃ o, H r = some o) (h1 : ∃ o, H1 r = some o) : FrC m r H H2 := by
  refine ⟨fun c o h ne n => b.keep c o (a.keep c o h ne n) ne fun q => ?_, fun c h => ?_⟩
  · rcases a.own c q with z | z
    · exact n z
    · rw [h] at z; cases z
  · rcases b.own c h with z | z
    · exact a.own c z
    · by_cases q : Own H m c
      · exact .inl q
      · cases e : H c with
        | none => exact .inr rfl
        | some o =>
          by_cases ne : c = r
          · obtain ⟨o1, h1⟩ := h1
            rw [ne, h1] at z; cases z
          · rw [a.keep c o e ne q] at z; cases z
theorem own_kept {H H1 : Hp} {m r : Addr} {s : Sf58.St} (hM : MachAt C H m s) (nr : ¬ Own H m r) (k : Kept r H H1) : MachAt C H1 m s ∧ ∀ b, Own H1 m b ↔ Own H m b := by
  obtain ⟨⟨dx, pc, ps, ph, p⟩, g⟩ := hM
  have ne : ∀ b, Own H m b → b ≠ r := fun b hb e => nr (by rw [← e]; exact hb)
  have p' : Parts C H1 m dx pc ps ph s := ⟨k _ _ p.ob (ne _ (.inl rfl)), k _ _ p.c (ne _ (p.own.mpr (.inr (.inl rfl)))), k _ _ p.f (ne _ (p.own.mpr (.inr (.inr (.inl rfl))))), k _ _ p.h (ne _ (p.own.mpr (.inr (.inr (.inr rfl)))))⟩
  exact ⟨⟨⟨dx, pc, ps, ph, p'⟩, g⟩, fun b => by rw [p.own, p'.own]⟩
variable {H H1 : Hp} {m r a : Addr} {s s' : Sf58.St} {p p' : Nat} {ns : List Int}
theorem Ctx.rd (c : Ctx K C R H m r a s p ns) (hR : RdrAt R H1 r a p') (k : Kept r H H1) : Ctx K C R H1 m r a s p' ns ∧ FrC m r H H1 := by
  obtain ⟨hM, ho⟩ := own_kept c.M c.nr k
  obtain ⟨dx, h0⟩ := c.rr
  have na_kept : (¬ Own H1 m a ∧ ∃ o, H1 a = some o) ∨ ∀ H', SqL K H' a (ns.map V.int) := by
    rcases c.na with ⟨z, o, e⟩ | z
    · rcases c.q with q | q
      · refine .inl ⟨fun q => z ((ho _).mp q), o, k _ _ e fun er => ?_⟩
        rw [er] at q
        rcases q with q | ⟨o', q⟩ <;> rw [h0] at q <;> cases q
      · exact .inr fun H' => .inr q
    · exact .inr z
  exact ⟨⟨hM, hR, sq_kept (p := p) c.q ⟨dx, _, h0⟩ k, fun q => c.nr ((ho _).mp q), na_kept⟩, fun b o h ne _ => k b o h ne, fun b q => .inl ((ho b).mp q)⟩
theorem Ctx.mc (c : Ctx K C R H m r a s p ns) (hM : MachAt C H1 m s') (f : Fr m H H1) : Ctx K C R H1 m r a s' p ns ∧ FrC m r H H1 := by
  obtain ⟨dx, h0⟩ := c.rr
  refine ⟨⟨hM, ⟨dx, f.keep _ _ h0 c.nr⟩, ?_, fun q => ?_, ?_⟩, fun b o h _ n => f.keep b o h n, f.own⟩
  · rcases c.na with ⟨z, _⟩ | z
    · rcases c.q with (h | ⟨o, h⟩) | h
      · exact .inl (.inl (f.keep _ _ h z))
      · exact .inl (.inr ⟨o, f.keep _ _ h z⟩)
      · exact .inr h
    · exact z H1
  · rcases f.own _ q with z | z
    · exact c.nr z
    · rw [h0] at z; cases z
  · rcases c.na with ⟨z, o, e⟩ | z
    · refine .inl ⟨fun q => ?_, o, f.keep _ _ e z⟩
      rcases f.own _ q with y | y
      · exact z y
      · rw [e] at y; cases y
    · exact .inr z
theorem Ctx.has (c : Ctx K C R H m r a s p ns) : ∃ o, H r = some o := by
  obtain ⟨dx, h⟩ := c.rr
  exact ⟨_, h⟩
/-- what a call's def promises: the arguments of the call c stand from p on -/
def spA (K : PySem.W.Frag) (C R : Addr) (j : Int) : Sp := fun vs H Q _ => ∃ (m r a : Addr) (s : Sf58.St) (p p' : Nat) (ns : List Int) (c : Sf58.Call), vs = [.ref m, .ref r] ∧ Ctx K C R H m r a s p ns ∧ Args ns p j c p' ∧
  ∀ H1, Ctx K C R H1 m r a (Sf58.spec s c).1 p' ns → FrC m r H H1 → Q (.int (Sf58.spec s c).2.value) H1
theorem lenA {j : Int} : ∀ vs H Q E, spA K C R j vs H Q E → vs.length = 2 := by rintro vs H Q E ⟨m, r, a, s, p, p', ns, c, rfl, _⟩; rfl
/-- a number is taken -/
theorem take_n {X : Hp → Prop} {σ : L2.St} {Q : VK} {x : Int} (c : Ctx K C R H m r a s p ns) (hx : ns[p]? = some x) (k : ∀ H1, Ctx K C R H1 m r a s (p + 1) ns → FrC m r H H1 → Q (.int x) H1) :
    ∃ a' dx fs, V.ref r = .ref a' ∧ H a' = some (.ins R dx fs) ∧ fs.lookup ("take_number" : Str) = none ∧ tNil σ H (fun vs H2 => sp_take_number K R (V.ref r :: (vs ++ [])) H2 Q E0) := by
  obtain ⟨dx, h0⟩ := id c.rr
  exact ⟨r, dx, _, rfl, h0, r_no (by decide +kernel), r, a, p, ns, x, rfl, c.rr, c.q, hx, fun H1 hR k1 => let ⟨c1, f1⟩ := c.rd hR k1; k H1 c1 f1⟩
theorem FrC.tr {H2 : Hp} (a' : FrC m r H H1) (b : FrC m r H1 H2) (c : Ctx K C R H m r a s p ns) (c1 : Ctx K C R H1 m r a s' p' ns) : FrC m r H H2 := a'.trans b c.has c1.has

theorem Fr.of_begin {H H1 : Hp} (k : ∀ b o, H b = some o → b ≠ m → H1 b = some o) (o : ∀ b, Own H1 m b → b = m ∨ H b = none) : Fr m H H1 :=
  ⟨fun b u h n => k b u h fun e => n (.inl e), fun b q => (o b q).elim (fun e => .inl (.inl e)) .inr⟩
theorem has_answer_begin (T : Txt K mg C R) : Has P w K mg base 8 "answer_begin" ["machine", "reader"] (spA K C R 1) := by
  refine mkHas T.d_answer_begin sc_answer_begin (fun _ _ _ _ _ _ us hl => match us, hl with | [_, _], _ => rfl) lenA fun f cdv A outer s0 H vs Q E hr h => ?_
  obtain ⟨m, r, a, s, p, p', ns, c, rfl, cx, ha, kk⟩ := h
  refine ⟨_, (pss_cons (ps_expr (pcm0 (has_Machine_begin T) hr (pv 0))) (pss_one (ps_ret (pgi T.g_DONE)))), ?_⟩
  cases ha
  obtain ⟨⟨dx, pc, ps, ph, pp⟩, g⟩ := id cx.M
  exact ⟨_, rfl, m, dx, _, rfl, pp.ob, lookup_zip_no (by decide +kernel), m, dx, _, rfl, pp.ob, .inr ⟨_, rfl, rfl⟩, fun H1 hM1 k1 o1 => let ⟨c1, f1⟩ := cx.mc hM1 (Fr.of_begin k1 o1); kk H1 c1 f1⟩

theorem has_answer_run (T : Txt K mg C R) : Has P w K mg base 8 "answer_run" ["machine", "reader"] (spA K C R 3) := by
  refine mkHas T.d_answer_run sc_answer_run (fun _ _ _ _ _ _ us hl => match us, hl with | [_, _], _ => rfl) lenA fun f cdv A outer s0 H vs Q E hr h => ?_
  obtain ⟨m, r, a, s, p, p', ns, c, rfl, cx, ha, kk⟩ := h
  refine ⟨_, (pss_cons (ps_set (i := 2) sc_answer_run.nd rfl (Or.inl rfl) (pcm0 (has_Reader_take_number T) hr (pv 1))) (pss_cons (ps_if (PW.pt (pw_or (pt_cmpR op_lt (pv 2) pe_int (nomark _)) (pw_or1 (pt_cmpR op_gt (pv 2) pe_int (nomark _))))) (pss_one (ps_ret (pgi T.g_REFUSED))) pss_nil) (pss_cons (ps_expr (pc (has_run T) hr (pa_cons (pv 0) (pa_cons (pv 2) pa_nil)))) (pss_one (ps_ret (pgi T.g_DONE)))))), ?_⟩
  cases ha with
  | @run n h0 =>
    unfold Sf58.spec Sf58.within at kk
    dsimp only at kk
    refine ⟨_, rfl, take_n (X := fun _ => True) cx h0 fun H1 c1 f1 => ?_⟩
    refine ⟨_, rfl, _, _, rfl, rfl, _, rfl, iteD (fun h => iteT ?_) (fun h1 => ⟨_, rfl, _, _, rfl, rfl, _, rfl, iteD (fun h => ?_) (fun h2 => ?_)⟩)⟩
    · rw [if_pos (by rw [decide_eq_false (by omega)]; rfl)] at kk
      exact kk H1 c1 f1
    · rw [if_pos (by rw [Bool.and_eq_false_iff]; exact .inr (decide_eq_false (by omega)))] at kk
      exact kk H1 c1 f1
    · rw [if_neg (by rw [decide_eq_true (by omega), decide_eq_true (by omega)]; decide)] at kk
      exact ⟨_, rfl, _, rfl, m, s, _, n.toNat, rfl, c1.M, by omega, (by omega : n.toNat ≤ 10000000), fun H2 hM2 f2 => let ⟨c2, g2⟩ := c1.mc hM2 f2; kk H2 c2 (f1.tr g2 cx c1)⟩

theorem has_answer_ask (T : Txt K mg C R) : Has P w K mg base 8 "answer_ask" ["machine", "reader"] (spA K C R 4) := by
  refine mkHas T.d_answer_ask sc_answer_ask (fun _ _ _ _ _ _ us hl => match us, hl with | [_, _], _ => rfl) lenA fun f cdv A outer s0 H vs Q E hr h => ?_
  obtain ⟨m, r, a, s, p, p', ns, c, rfl, cx, ha, kk⟩ := h
  refine ⟨_, (pss_cons (ps_set (i := 2) sc_answer_ask.nd rfl (Or.inl rfl) (pcm0 (has_Reader_take_number T) hr (pv 1))) (pss_cons (ps_if (PW.pt (pw_or (pt_cmpR op_lt (pv 2) pe_int (nomark _)) (pw_or1 (pt_cmpR op_gt (pv 2) pe_int (nomark _))))) (pss_one (ps_ret (pgi T.g_REFUSED))) pss_nil) (pss_cons (ps_expr (pc (has_ask_for T) hr (pa_cons (pv 0) (pa_cons (pv 2) pa_nil)))) (pss_one (ps_ret (pgi T.g_DONE)))))), ?_⟩
  cases ha with
  | @ask n h0 =>
    unfold Sf58.spec Sf58.within at kk
    dsimp only at kk
    refine ⟨_, rfl, take_n (X := fun _ => True) cx h0 fun H1 c1 f1 => ?_⟩
    refine ⟨_, rfl, _, _, rfl, rfl, _, rfl, iteD (fun h => iteT ?_) (fun h1 => ⟨_, rfl, _, _, rfl, rfl, _, rfl, iteD (fun h => ?_) (fun h2 => ?_)⟩)⟩
    · rw [if_pos (by rw [decide_eq_false (by omega)]; rfl)] at kk
      exact kk H1 c1 f1
    · rw [if_pos (by rw [Bool.and_eq_false_iff]; exact .inr (decide_eq_false (by omega)))] at kk
      exact kk H1 c1 f1
    · rw [if_neg (by rw [decide_eq_true (by omega), decide_eq_true (by omega)]; decide)] at kk
      exact ⟨_, rfl, _, rfl, m, s, _, n.toNat, rfl, c1.M, by omega, (by omega : n.toNat < 11), fun H2 hM2 f2 => let ⟨c2, g2⟩ := c1.mc hM2 f2; kk H2 c2 (f1.tr g2 cx c1)⟩

theorem has_answer_pulse (T : Txt K mg C R) : Has P w K mg base 8 "answer_pulse" ["machine", "reader"] (spA K C R 5) := by
  refine mkHas T.d_answer_pulse sc_answer_pulse (fun _ _ _ _ _ _ us hl => match us, hl with | [_, _], _ => rfl) lenA fun f cdv A outer s0 H vs Q E hr h => ?_
  obtain ⟨m, r, a, s, p, p', ns, c, rfl, cx, ha, kk⟩ := h
  refine ⟨_, (pss_cons (ps_set (i := 2) sc_answer_pulse.nd rfl (Or.inl rfl) (pcm0 (has_Reader_take_number T) hr (pv 1))) (pss_cons (ps_set (i := 3) sc_answer_pulse.nd rfl (Or.inl rfl) (pcm0 (has_Reader_take_number T) hr (pv 1))) (pss_cons (ps_if (PW.pt (pw_or (pt_cmpR op_lt (pv 2) pe_int (nomark _)) (pw_or1 (pt_cmpR op_gt (pv 2) pe_int (nomark _))))) (pss_one (ps_ret (pgi T.g_REFUSED))) pss_nil) (pss_cons (ps_if (pt_cmpR op_eq (pv 3) pe_int (nomark _)) (pss_one (ps_expr (pc (has_pulse_down T) hr (pa_cons (pv 0) (pa_cons (pv 2) pa_nil))))) (pss_one (ps_if (pt_cmpR op_eq (pv 3) pe_int (nomark _)) (pss_one (ps_expr (pc (has_pulse_up T) hr (pa_cons (pv 0) (pa_cons (pv 2) pa_nil))))) (pss_one (ps_ret (pgi T.g_REFUSED)))))) (pss_one (ps_ret (pgi T.g_DONE))))))), ?_⟩
  cases ha with
  | @pulse n d h0 h1 =>
    have e : Sf58.spec s (.pulse n d) = if (decide (20 ≤ n) && decide (n ≤ 48) && (decide (d = 0) || decide (d = 1))) = false then (s, ⟨-1⟩) else (s.pulse n.toNat (d == 1), ⟨0⟩) := by
      have e2 : ((decide (0 ≤ n - 20) && decide (n - 20 ≤ 28)) && (decide (0 ≤ d) && decide (d ≤ 1))) = (decide (20 ≤ n) && decide (n ≤ 48) && (decide (d = 0) || decide (d = 1))) := by
        rw [Bool.eq_iff_iff]
        simp
        omega
      unfold Sf58.spec Sf58.within
      dsimp only
      rw [e2]
    rw [e] at kk
    refine ⟨_, rfl, take_n (X := fun _ => True) cx h0 fun H1 c1 f1 => ⟨_, rfl, take_n (X := fun _ => True) c1 h1 fun H2 c2 f2 => ?_⟩⟩
    have f2 := f1.tr f2 cx c1
    refine ⟨_, rfl, _, _, rfl, rfl, _, rfl, iteD (fun h => iteT ?_) (fun h1 => ⟨_, rfl, _, _, rfl, rfl, _, rfl, iteD (fun h => ?_) (fun h2 => ?_)⟩)⟩
    · rw [if_pos (by rw [decide_eq_false (by omega : ¬ 20 ≤ n)]; rfl)] at kk
      exact kk H2 c2 f2
    · rw [if_pos (by rw [decide_eq_false (by omega : ¬ n ≤ 48), Bool.and_false]; rfl)] at kk
      exact kk H2 c2 f2
    · rw [decide_eq_true (by omega : 20 ≤ n), decide_eq_true (by omega : n ≤ 48)] at kk
      refine ⟨_, rfl, rfl, _, rfl, iteI (fun h => ?_) (fun hd1 => ⟨_, rfl, rfl, _, rfl, iteI (fun h => ?_) (fun hd0 => ?_)⟩)⟩
      · subst h
        rw [if_neg (by decide)] at kk
        exact ⟨_, rfl, _, rfl, m, s, _, n.toNat, rfl, c2.M, by omega, (by omega : n.toNat < 2048), fun H3 hM3 f3 => let ⟨c3, g3⟩ := c2.mc hM3 f3; kk H3 c3 (f2.tr g3 cx c2)⟩
      · subst h
        rw [if_neg (by decide)] at kk
        exact ⟨_, rfl, _, rfl, m, s, _, n.toNat, rfl, c2.M, by omega, (by omega : n.toNat < 2048), fun H3 hM3 f3 => let ⟨c3, g3⟩ := c2.mc hM3 f3; kk H3 c3 (f2.tr g3 cx c2)⟩
      · rw [decide_eq_false hd1, decide_eq_false hd0, if_pos (by decide)] at kk
        exact kk H2 c2 f2

theorem tell_shown {s : Sf58.St} {k : Int} (h0 : 0 ≤ k) (h8 : k ≤ 8) : (shown s)[k.toNat]? = some (.int ((s.tell k.toNat : Nat) : Int)) := by
  obtain ⟨n, rfl⟩ : ∃ n : Nat, k = n := ⟨k.toNat, by omega⟩
  rw [Int.toNat_natCast]
  have hn : n ≤ 8 := by omega
  match n, hn with
  | 0, _ => rfl
  | 1, _ => rfl
  | 2, _ => rfl
  | 3, _ => rfl
  | 4, _ => rfl
  | 5, _ => rfl
  | 6, _ => show some (V.int (if s.shut = true then 1 else 0)) = some (V.int (((if s.shut = true then 1 else 0 : Nat) : Nat) : Int)); cases s.shut <;> rfl
  | 7, _ => show some (V.int (if s.serving = true then 1 else 0)) = some (V.int (((if s.serving = true then 1 else 0 : Nat) : Nat) : Int)); cases s.serving <;> rfl
  | 8, _ => rfl
  | n + 9, h => omega
theorem has_answer_get (T : Txt K mg C R) : Has P w K mg base 8 "answer_get" ["machine", "reader"] (spA K C R 6) := by
  refine mkHas T.d_answer_get sc_answer_get (fun _ _ _ _ _ _ us hl => match us, hl with | [_, _], _ => rfl) lenA fun f cdv A outer s0 H vs Q E hr h => ?_
  obtain ⟨m, r, a, s, p, p', ns, c, rfl, cx, ha, kk⟩ := h
  refine ⟨_, (pss_cons (ps_set (i := 2) sc_answer_get.nd rfl (Or.inl rfl) (pcm0 (has_Reader_take_number T) hr (pv 1))) (pss_cons (ps_if (PW.pt (pw_or (pt_cmpR op_lt (pv 2) pe_int (nomark _)) (pw_or1 (pt_cmpR op_gt (pv 2) (pgi T.g_LAST_VALUE) (nomark _))))) (pss_one (ps_ret (pgi T.g_REFUSED))) pss_nil) (pss_one (ps_ret (pe_ix ix_tup (pc (has_shown_values T) hr (pa_cons (pv 0) pa_nil)) (pv 2) (fun _ _ => rfl)))))), ?_⟩
  cases ha with
  | @get n h0 =>
    unfold Sf58.spec Sf58.within at kk
    dsimp only at kk
    refine ⟨_, rfl, take_n (X := fun _ => True) cx h0 fun H1 c1 f1 => ?_⟩
    refine ⟨_, rfl, _, _, rfl, rfl, _, rfl, iteD (fun h => iteT ?_) (fun h1 => ⟨_, rfl, _, _, rfl, rfl, _, rfl, iteD (fun h => ?_) (fun h2 => ?_)⟩)⟩
    · rw [if_pos (by rw [decide_eq_false (by omega)]; rfl)] at kk
      exact kk H1 c1 f1
    · rw [if_pos (by rw [Bool.and_eq_false_iff]; exact .inr (decide_eq_false (by omega)))] at kk
      exact kk H1 c1 f1
    · rw [if_neg (by rw [decide_eq_true (by omega), decide_eq_true (by omega)]; decide)] at kk
      refine ⟨_, rfl, m, s, rfl, c1.M, fun t ht => ⟨_, rfl, t, shown s, _, _, rfl, rfl, SqT.of upd_same, at_of (j := n.toNat) (by omega) (tell_shown (by omega) (by omega)), ?_⟩⟩
      obtain ⟨c2, g2⟩ := c1.mc (c1.M.same (same_new ht)) (Fr.same c1.M (same_new ht))
      exact kk _ c2 (f1.tr g2 cx c1)

theorem has_answer_set (T : Txt K mg C R) : Has P w K mg base 8 "answer_set" ["machine", "reader"] (spA K C R 7) := by
  refine mkHas T.d_answer_set sc_answer_set (fun _ _ _ _ _ _ us hl => match us, hl with | [_, _], _ => rfl) lenA fun f cdv A outer s0 H vs Q E hr h => ?_
  obtain ⟨m, r, a, s, p, p', ns, c, rfl, cx, ha, kk⟩ := h
  refine ⟨_, (pss_cons (ps_set (i := 2) sc_answer_set.nd rfl (Or.inl rfl) (pcm0 (has_Reader_take_number T) hr (pv 1))) (pss_cons (ps_set (i := 3) sc_answer_set.nd rfl (Or.inl rfl) (pcm0 (has_Reader_take_number T) hr (pv 1))) (pss_cons (ps_if (PW.pt (pw_or (pt_cmpR op_lt (pv 2) pe_int (nomark _)) (pw_or1 (pt_cmpR op_gt (pv 2) (pgi T.g_LAST_VALUE) (nomark _))))) (pss_one (ps_ret (pgi T.g_REFUSED))) pss_nil) (pss_cons (ps_expr (pc (has_set_value T) hr (pa_cons (pv 0) (pa_cons (pv 2) (pa_cons (pv 3) pa_nil))))) (pss_one (ps_ret (pgi T.g_DONE))))))), ?_⟩
  cases ha with
  | @set n v h0 h1 =>
    unfold Sf58.spec Sf58.within at kk
    dsimp only at kk
    refine ⟨_, rfl, take_n (X := fun _ => True) cx h0 fun H1 c1 f1 => ⟨_, rfl, take_n (X := fun _ => True) c1 h1 fun H2 c2 f2 => ?_⟩⟩
    have f2 := f1.tr f2 cx c1
    refine ⟨_, rfl, _, _, rfl, rfl, _, rfl, iteD (fun h => iteT ?_) (fun h1 => ⟨_, rfl, _, _, rfl, rfl, _, rfl, iteD (fun h => ?_) (fun h2 => ?_)⟩)⟩
    · rw [if_pos (by rw [decide_eq_false (by omega)]; rfl)] at kk
      exact kk H2 c2 f2
    · rw [if_pos (by rw [Bool.and_eq_false_iff]; exact .inr (decide_eq_false (by omega)))] at kk
      exact kk H2 c2 f2
    · rw [if_neg (by rw [decide_eq_true (by omega), decide_eq_true (by omega)]; decide)] at kk
      exact ⟨_, rfl, _, rfl, _, rfl, m, s, _, _, n.toNat, v, rfl, c2.M, by omega, rfl, (by omega : n.toNat ≤ 8), fun H3 hM3 f3 => let ⟨c3, g3⟩ := c2.mc hM3 f3; kk H3 c3 (f2.tr g3 cx c2)⟩

theorem has_answer_look (T : Txt K mg C R) : Has P w K mg base 8 "answer_look" ["machine", "reader"] (spA K C R 8) := by
  refine mkHas T.d_answer_look sc_answer_look (fun _ _ _ _ _ _ us hl => match us, hl with | [_, _], _ => rfl) lenA fun f cdv A outer s0 H vs Q E hr h => ?_
  obtain ⟨m, r, a, s, p, p', ns, c, rfl, cx, ha, kk⟩ := h
  refine ⟨_, (pss_cons (ps_set (i := 2) sc_answer_look.nd rfl (Or.inl rfl) (pcm0 (has_Reader_take_number T) hr (pv 1))) (pss_cons (ps_set (i := 3) sc_answer_look.nd rfl (Or.inl rfl) (pcm0 (has_Reader_take_number T) hr (pv 1))) (pss_cons (ps_if (pt_not (pt_val (pc (has_is_word T) hr (pa_cons (pv 2) (pa_cons (pv 3) pa_nil))))) (pss_one (ps_ret (pgi T.g_REFUSED))) pss_nil) (pss_one (ps_ret (pc (has_look_at T) hr (pa_cons (pv 0) (pa_cons (pv 2) (pa_cons (pv 3) pa_nil))))))))), ?_⟩
  cases ha with
  | @look d k h0 h1 =>
    unfold Sf58.spec at kk
    dsimp only at kk
    refine ⟨_, rfl, take_n (X := fun _ => True) cx h0 fun H1 c1 f1 => ⟨_, rfl, take_n (X := fun _ => True) c1 h1 fun H2 c2 f2 => ?_⟩⟩
    have f2 := f1.tr f2 cx c1
    refine ⟨_, rfl, _, rfl, d, k, rfl, _, rfl, iteBN (fun h => ?_) (fun h => ?_)⟩
    · rw [if_pos h] at kk
      exact kk H2 c2 f2
    · rw [if_neg (by rw [h]; decide)] at kk
      refine ⟨_, rfl, _, rfl, _, rfl, m, s, d, k, rfl, c2.M, h, ?_⟩
      have e : ((lookW s d k : Nat) : Int) = (if d = 0 then (s.fixed k.toNat : Int) else if d = 1 then (s.erase k.toNat : Int) else (s.inp k.toNat : Int)) := by
        unfold lookW
        split
        · rfl
        · split <;> rfl
      rw [e]
      exact kk H2 c2 f2

theorem has_answer_poke (T : Txt K mg C R) : Has P w K mg base 8 "answer_poke" ["machine", "reader"] (spA K C R 9) := by
  refine mkHas T.d_answer_poke sc_answer_poke (fun _ _ _ _ _ _ us hl => match us, hl with | [_, _], _ => rfl) lenA fun f cdv A outer s0 H vs Q E hr h => ?_
  obtain ⟨m, r, a, s, p, p', ns, c, rfl, cx, ha, kk⟩ := h
  refine ⟨_, (pss_cons (ps_set (i := 2) sc_answer_poke.nd rfl (Or.inl rfl) (pcm0 (has_Reader_take_number T) hr (pv 1))) (pss_cons (ps_set (i := 3) sc_answer_poke.nd rfl (Or.inl rfl) (pcm0 (has_Reader_take_number T) hr (pv 1))) (pss_cons (ps_set (i := 4) sc_answer_poke.nd rfl (Or.inl rfl) (pcm0 (has_Reader_take_number T) hr (pv 1))) (pss_cons (ps_if (pt_not (pt_val (pc (has_is_word T) hr (pa_cons (pv 2) (pa_cons (pv 3) pa_nil))))) (pss_one (ps_ret (pgi T.g_REFUSED))) pss_nil) (pss_cons (ps_expr (pc (has_poke_in T) hr (pa_cons (pv 0) (pa_cons (pv 2) (pa_cons (pv 3) (pa_cons (pe_op op_and (pv 4) pe_int) pa_nil)))))) (pss_one (ps_ret (pgi T.g_DONE)))))))), ?_⟩
  cases ha with
  | @poke d k v h0 h1 h2 =>
    unfold Sf58.spec at kk
    dsimp only at kk
    refine ⟨_, rfl, take_n (X := fun _ => True) cx h0 fun H1 c1 f1 => ⟨_, rfl, take_n (X := fun _ => True) c1 h1 fun H2 c2 f2 => ⟨_, rfl, take_n (X := fun _ => True) c2 h2 fun H3 c3 f3 => ?_⟩⟩⟩
    have f3 := (f1.tr f2 cx c1).tr f3 cx c2
    refine ⟨_, rfl, _, rfl, d, k, rfl, _, rfl, iteBN (fun h => ?_) (fun h => ?_)⟩
    · rw [if_pos h] at kk
      exact kk H3 c3 f3
    · rw [if_neg (by rw [h]; decide)] at kk
      refine ⟨_, rfl, _, rfl, _, rfl, _, rfl, _, _, rfl, rfl, m, s, d, k, _, v % 32768, rfl, c3.M, h, by rw [m15]; omega, by omega, fun H4 hM4 f4 => ?_⟩
      obtain ⟨c4, g4⟩ := c3.mc hM4 f4
      exact kk H4 c4 (f3.tr g4 cx c3)
end
end Fb

set_option Elab.async false
set_option linter.all false
set_option maxRecDepth 100000
set_option maxHeartbeats 4000000
namespace Fb
open PySem L2
/-- over enumerate of a list that the body leaves as it is -/
theorem for_enum {K : PySem.W.Frag} {a : Addr} {xs : List V} {g : TG} {tb : TS} {D : Ends} {σ : L2.St} {H : Hp} (Pv : Nat → L2.St → Hp → Prop) (h0 : Pv 0 σ H) (hl : ∀ i σ H, i ≤ xs.length → Pv i σ H → SqL K H a xs)
    (hs : ∀ i x T σ H, xs[i]? = some x → Pv i σ H → H T = none → g (.ref T) σ (upd H T (.tup [.int (i : Nat), x])) fun σ2 H2 => tb { D with nx := Pv (i + 1), ct := Pv (i + 1), bk := D.nx } σ2 H2) (hd : ∀ σ H, Pv xs.length σ H → D.nx σ H) :
    ∃ W : Nat → Nat → L2.St → Hp → Prop, (∃ m, W 0 m σ H) ∧ ∀ i m σ H, W i m σ H →
      ((Ite K a).stop i H ∧ D.nx σ H) ∨ ((Ite K a).go i H ∧ ∃ N : L2.St → Hp → Prop, (∀ σ' H', N σ' H' → ∃ m', m' < m ∧ W (i + 1) m' σ' H') ∧ ∀ x H', (Ite K a).yld i H x H' → g x σ H' fun σ2 H2 => tb { D with nx := N, ct := N, bk := D.nx } σ2 H2) := by
  refine ⟨fun i m σ H => m = xs.length - i ∧ i ≤ xs.length ∧ Pv i σ H, ⟨xs.length, by simp, Nat.zero_le _, h0⟩, ?_⟩
  rintro i m σ H ⟨rfl, hi, p⟩
  have q := hl i σ H hi p
  by_cases hlt : i < xs.length
  · refine .inr ⟨⟨xs, xs[i], q, by simp [hlt]⟩, Pv (i + 1), fun σ' H' p' => ⟨xs.length - (i + 1), by omega, rfl, hlt, p'⟩, fun v H' y => ?_⟩
    obtain ⟨T, x, ev, hT, eH, hx⟩ := y
    subst ev eH
    exact hs i x T σ H (hx xs q) p hT
  · have e : i = xs.length := by omega
    subst e
    exact .inl ⟨⟨xs, q, Nat.le_refl _⟩, hd σ H p⟩
theorem own_some {C : Addr} {H : Hp} {m b : Addr} {s : Sf58.St} (hM : MachAt C H m s) (h : Own H m b) : ∃ o, H b = some o := by
  obtain ⟨⟨dx, pc, ps, ph, p⟩, g⟩ := hM
  rcases p.own.mp h with e | e | e | e
  · rw [e]; exact ⟨_, p.ob⟩
  · rw [e]; exact ⟨_, p.c⟩
  · rw [e]; exact ⟨_, p.f⟩
  · rw [e]; exact ⟨_, p.h⟩
/-- the first i words loaded -/
def loaded (s : Sf58.St) (st : Nat) (l : List Nat) (i : Nat) : Sf58.St := { s with fixed := fun j => if st ≤ j ∧ j < st + i then l.getD (j - st) 0 % 32768 else s.fixed j }
theorem loaded_zero (s : Sf58.St) (st : Nat) (l : List Nat) : loaded s st l 0 = s := by
  have e : (fun j => if st ≤ j ∧ j < st + 0 then l.getD (j - st) 0 % 32768 else s.fixed j) = s.fixed := by
    funext j
    rw [if_neg (by omega)]
  unfold loaded
  rw [e]
theorem loaded_succ {s : Sf58.St} {st : Nat} {l : List Nat} {i x : Nat} (h : l[i]? = some x) : fxWr (loaded s st l i) (st + i) (x % 32768) = loaded s st l (i + 1) := by
  have e : (fun j => if j = st + i then x % 32768 else (if st ≤ j ∧ j < st + i then l.getD (j - st) 0 % 32768 else s.fixed j)) = fun j => if st ≤ j ∧ j < st + (i + 1) then l.getD (j - st) 0 % 32768 else s.fixed j := by
    funext j
    by_cases h1 : j = st + i
    · subst h1
      rw [if_pos rfl, if_pos (by omega), show st + i - st = i by omega, List.getD_eq_getElem?_getD, h]
      rfl
    · rw [if_neg h1]
      by_cases h2 : st ≤ j ∧ j < st + i
      · rw [if_pos h2, if_pos (by omega)]
      · rw [if_neg h2, if_neg (by omega)]
  unfold fxWr loaded
  dsimp only
  rw [e]
section
variable {P : Program} {w : World} {K : PySem.W.Frag} {mg : Str → Option Value} {base : Heap} {C R : Addr}
theorem has_answer_load (T : Txt K mg C R) : Has P w K mg base 8 "answer_load" ["machine", "reader"] (spA K C R 2) := by
  refine mkHas T.d_answer_load sc_answer_load (fun _ _ _ _ _ _ us hl => match us, hl with | [_, _], _ => rfl) lenA fun f cdv A outer s0 H vs Q E hr h => ?_
  obtain ⟨m, r, a, s, p, p', ns, c, rfl, cx, ha, kk⟩ := h
  refine ⟨_, (pss_cons (ps_set (i := 2) sc_answer_load.nd rfl (Or.inl rfl) (pcm0 (has_Reader_take_number T) hr (pv 1))) (pss_cons (ps_set (i := 3) sc_answer_load.nd rfl (Or.inl rfl) (pcm0 (has_Reader_take_number T) hr (pv 1))) (pss_cons (ps_set (i := 4) sc_answer_load.nd rfl (Or.inl rfl) (pcm0 (has_Reader_take_number T) hr (pv 1))) (pss_cons (ps_set (i := 5) sc_answer_load.nd rfl (Or.inl rfl) (pcm0 (has_Reader_take_row T) hr (pv 1))) (pss_cons (ps_if (PW.pt (pw_or (pt_cmpR op_ge (pv 2) (pgi T.g_BANKS) (nomark _)) (pw_or1 (pt_cmpR op_gt (pe_op op_add (pv 3) (pv 4)) (pgi T.g_BANK_WORDS) (nomark _))))) (pss_one (ps_ret (pgi T.g_REFUSED))) pss_nil) (pss_cons (ps_set (i := 6) sc_answer_load.nd rfl (Or.inl rfl) (pe_op op_add (pe_op op_mul (pv 2) (pgi T.g_BANK_WORDS)) (pv 3))) (pss_cons (ps_for PassesOwn.never rfl (pi_enum rfl T.b_enumerate (pa_cons (pv 5) pa_nil)) (pg_tup rfl (pgs_cons (pg_name (i := 7) sc_answer_load.nd rfl (Or.inl rfl)) (pgs_cons (pg_name (i := 8) sc_answer_load.nd rfl (Or.inl rfl)) pgs_nil))) (pss_one (ps_asg (pe_op op_and (pv 8) pe_int) (pg_sub (pm .staying T.mc (pv 0)) (pe_op op_add (pv 6) (pv 7)) set_list)))) (pss_one (ps_ret (pgi T.g_DONE)))))))))), ?_⟩
  cases ha with
  | @load b at_ n l h0 h1 h2 h3 hl hlen hw hn =>
    unfold Sf58.spec at kk
    dsimp only at kk
    refine ⟨_, rfl, take_n (X := fun _ => True) cx h0 fun H1 c1 f1 => ⟨_, rfl, take_n (X := fun _ => True) c1 h1 fun H2 c2 f2 => ⟨_, rfl, take_n (X := fun _ => True) c2 h2 fun H3 c3 f3 => ?_⟩⟩⟩
    have f3 := (f1.tr f2 cx c1).tr f3 cx c2
    obtain ⟨dx3, hR3⟩ := id c3.rr
    refine ⟨_, rfl, r, dx3, _, rfl, hR3, r_no (by decide +kernel), r, a, p + 3, l.length, ns, rfl, c3.rr, c3.q, h3, by omega, fun t H4 ht hR4 hT k4 => ?_⟩
    obtain ⟨c4, g4⟩ := c3.rd hR4 k4
    have f4 := f3.tr g4 cx c3
    have nt : ¬ Own H4 m t := fun q => by
      obtain ⟨_, ho⟩ := own_kept c3.M c3.nr k4
      obtain ⟨o, e⟩ := own_some c3.M ((ho t).mp q)
      rw [ht] at e; cases e
    rw [show p + 3 + 1 = p + 4 by omega, hl] at hT
    have c4 : Ctx K C R H4 m r a s (p + 4 + l.length) ns := by rw [show p + 4 + l.length = p + 3 + 1 + l.length by omega]; exact c4
    refine ⟨_, rfl, _, _, rfl, rfl, _, rfl, iteD (fun h => iteT ?_) (fun hb => ⟨_, rfl, _, rfl, _, _, rfl, rfl, _, _, rfl, rfl, _, rfl, iteD (fun h => ?_) (fun hs => ?_)⟩)⟩
    · rw [if_pos (.inl (by omega))] at kk
      exact kk H4 c4 f4
    · rw [if_pos (.inr (by omega))] at kk
      exact kk H4 c4 f4
    · rw [if_neg (by omega)] at kk
      have hln : l.length = n := by
        rcases hn with e | ⟨_, e⟩
        · exact e
        · omega
      have hnat : ∀ i x, l[i]? = some x → ∃ y : Nat, x = (y : Int) ∧ (Sf58Neutral.natsOf l)[i]? = some y := fun i x hx => by
        have := hw x (List.mem_of_getElem? hx)
        refine ⟨x.toNat, by omega, ?_⟩
        unfold Sf58Neutral.natsOf
        rw [List.getElem?_map, hx]; rfl
      refine ⟨_, rfl, _, _, rfl, rfl, .inr ⟨by decide, by decide⟩, _, rfl, _, _, rfl, rfl, ?_⟩
      refine ⟨_, rfl, t, _, rfl, SqL.of hT, for_enum (K := K) (a := t) (xs := l.map V.int) (fun i σ H5 => ∃ v7 v8, σ = [some (.ref m), some (.ref r), some (.int (b : Nat)), some (.int (at_ : Nat)), some (.int (n : Nat)), some (.ref t), some (.int ((b : Int) * 1024 + (at_ : Int))), v7, v8] ∧
        MachAt C H5 m (loaded s (1024 * b + at_) (Sf58Neutral.natsOf l) i) ∧ Fr m H4 H5 ∧ H5 t = some (.lst (l.map V.int)) ∧ ¬ Own H5 m t) ⟨none, none, rfl, by rw [loaded_zero]; exact c4.M, Fr.refl m H4, hT, nt⟩ (fun i σ H5 _ ⟨_, _, _, _, _, e, _⟩ => SqL.of e) ?_ ?_⟩
      · rintro i x t5 σ H5 hx ⟨v7, v8, rfl, hM5, f5, hT5, nt5⟩ ht5
        obtain ⟨x0, hx0, rfl⟩ : ∃ x0, l[i]? = some x0 ∧ V.int x0 = x := by
          rw [List.getElem?_map] at hx
          cases e : l[i]? with
          | none => rw [e] at hx; cases hx
          | some z => rw [e] at hx; exact ⟨z, rfl, Option.some.inj hx⟩
        obtain ⟨y, rfl, hy⟩ := hnat i x0 hx0
        have hil : i < l.length := (List.getElem?_eq_some_iff.mp hx0).1
        have sm := same_new (o := .tup [.int (i : Nat), .int (y : Nat)]) ht5
        have hM6 := hM5.same sm
        have f6 := f5.trans (Fr.same hM5 sm)
        refine ⟨t5, _, rfl, SqT.of upd_same, rfl, _, _, rfl, _, _, rfl, rfl, ?_⟩
        refine ⟨_, rfl, _, _, rfl, rfl, _, rfl, m, _, rfl, hM6, _, rfl, _, rfl, _, _, rfl, rfl, setS (j := 1024 * b + at_ + i) (x := y % 32768) hM6 (by omega) (by omega) (by rw [m15]; omega) (by omega) fun H7 hM7 f7 => ?_⟩
        rw [loaded_succ hy] at hM7
        refine ⟨_, _, rfl, hM7, f6.trans f7, ?_, ?_⟩
        · have h6t := keepN (u := .tup [.int (i : Nat), .int (y : Nat)]) hT5 ht5
          refine f7.keep _ _ h6t fun q => ?_
          rcases (Fr.same hM5 sm).own _ q with z | z
          · exact nt5 z
          · rw [hT5] at z; cases z
        · intro q
          rcases ((Fr.same hM5 sm).trans f7).own _ q with z | z
          · exact nt5 z
          · rw [hT5] at z; cases z
      · rintro σ H5 ⟨v7, v8, rfl, hM5, f5, hT5, nt5⟩
        rw [List.length_map, hln] at hM5
        obtain ⟨c5, g5⟩ := c4.mc hM5 f5
        exact kk H5 c5 (f4.tr g5 cx c4)

/-! ### the line -/
theorem calls_has (T : Txt K mg C R) {fs : List Addr} (hp : Paired (fun n f => mg n = some (.ref f)) callNames fs) {ns : List Int} {p p' : Nat} {j : Int} {c : Sf58.Call} (ha : Args ns p j c p') :
    ∃ f, valV (callsOf fs) (Sum.inl j : Key) = some (.ref f) ∧ Cal P w K mg base 8 f ["machine", "reader"] (spA K C R j) := by
  cases hp with | @cons _ g1 _ _ e1 hp => cases hp with | @cons _ g2 _ _ e2 hp => cases hp with | @cons _ g3 _ _ e3 hp => cases hp with | @cons _ g4 _ _ e4 hp => cases hp with | @cons _ g5 _ _ e5 hp => cases hp with | @cons _ g6 _ _ e6 hp => cases hp with | @cons _ g7 _ _ e7 hp => cases hp with | @cons _ g8 _ _ e8 hp => cases hp with | @cons _ g9 _ _ e9 hp =>
  cases hp
  cases ha with
  | begin_ => exact ⟨g1, rfl, (has_answer_begin T).cal e1⟩
  | load => exact ⟨g2, rfl, (has_answer_load T).cal e2⟩
  | run => exact ⟨g3, rfl, (has_answer_run T).cal e3⟩
  | ask => exact ⟨g4, rfl, (has_answer_ask T).cal e4⟩
  | pulse => exact ⟨g5, rfl, (has_answer_pulse T).cal e5⟩
  | get => exact ⟨g6, rfl, (has_answer_get T).cal e6⟩
  | set => exact ⟨g7, rfl, (has_answer_set T).cal e7⟩
  | look => exact ⟨g8, rfl, (has_answer_look T).cal e8⟩
  | poke => exact ⟨g9, rfl, (has_answer_poke T).cal e9⟩
def sp_follow (K : PySem.W.Frag) (C : Addr) : Sp := fun vs H Q _ => ∃ (m a : Addr) (ns : List Int) (cs : List (List (List Int))), vs = [.ref m, .ref a] ∧ MachAt C H m Sf58.blank ∧ SqL K H a (ns.map V.int) ∧ ((¬ Own H m a ∧ ∃ o, H a = some o) ∨ ∀ H', SqL K H' a (ns.map V.int)) ∧
  PyFlat.calls PySf58.shape ns.length ns = some cs ∧ (∀ c ∈ cs.map PySf58.whole, Sf58Neutral.asked1 c = true) ∧ cs.length ≤ 300 ∧ ∀ g H1, H1 g = some (.lst ((tell Sf58.blank cs).map V.int)) → Q (.ref g) H1
/-- an object that is neither the machine's nor the reader's nor the line changes -/
theorem Ctx.other {H H1 : Hp} {m r a g : Addr} {s : Sf58.St} {p : Nat} {ns : List Int} (c : Ctx K C R H m r a s p ns) (k : ∀ b o, H b = some o → b ≠ g → H1 b = some o) (ng : ¬ Own H m g) (gr : g ≠ r) (ga : a ≠ g ∨ ∀ H', SqL K H' a (ns.map V.int)) :
    Ctx K C R H1 m r a s p ns ∧ ∀ b, Own H1 m b ↔ Own H m b := by
  obtain ⟨hM, ho⟩ := own_kept (r := g) c.M ng k
  obtain ⟨dx, h0⟩ := c.rr
  refine ⟨⟨hM, ⟨dx, k _ _ h0 gr.symm⟩, ?_, fun q => c.nr ((ho _).mp q), ?_⟩, ho⟩
  · rcases ga with ga | ga
    · rcases c.q with (h | ⟨o, h⟩) | h
      · exact .inl (.inl (k _ _ h ga))
      · exact .inl (.inr ⟨o, k _ _ h ga⟩)
      · exact .inr h
    · exact ga H1
  · rcases c.na with ⟨z, o, e⟩ | z
    · rcases ga with ga | ga
      · exact .inl ⟨fun q => z ((ho _).mp q), o, k _ _ e ga⟩
      · exact .inr ga
    · exact .inr z
theorem has_follow (T : Txt K mg C R) : Has P w K mg base 9 "follow" ["machine", "calls"] (sp_follow K C) := by
  obtain ⟨fs, hfs, hkd⟩ := T.k_CALLS
  refine mkHas T.d_follow sc_follow (fun _ _ _ _ _ _ us hl => match us, hl with | [_, _], _ => rfl) (by rintro vs H Q E ⟨m, a, ns, cs, rfl, _⟩; rfl) fun f cdv A outer s0 H vs Q E hr h => ?_
  obtain ⟨m, a, ns, cs, rfl, hM, hq, hna, hcs, hask, hlen, kk⟩ := h
  refine ⟨_, (pss_cons (ps_set (i := 2) sc_follow.nd rfl (Or.inl rfl) (pcmk (mk_Reader T) hr (pa_cons (pv 1) pa_nil))) (pss_cons (ps_set (i := 3) sc_follow.nd rfl (Or.inl rfl) (pe_lst pa_nil)) (pss_cons (ps_while PassesOwn.never (pt_val (pcm0 (has_Reader_has_more T) hr (pv 2))) (pss_cons (ps_set (i := 4) sc_follow.nd rfl (Or.inl rfl) (pe_kget hkd (pcm0 (has_Reader_take_number T) hr (pv 2)) (fun _ _ => rfl))) (pss_cons (ps_expr (pe_bm PySem.F.plainAttrs_list PySem.F.slot_list_append PySem.F.type_list_append mt_append (pv 3) (pa_cons pe_int pa_nil))) (pss_one (ps_expr (pe_bm PySem.F.plainAttrs_list PySem.F.slot_list_append PySem.F.type_list_append mt_append (pv 3) (pa_cons (pcV (pv 4) hr (pa_cons (pv 0) (pa_cons (pv 2) pa_nil))) pa_nil))))))) (pss_one (ps_ret (pv 3)))))), ?_⟩
  -- reader = Reader(calls)
  refine ⟨_, rfl, fun r dxr nr ndr ner => ⟨r, dxr, a, rfl, upd_same, fun H1 hR1 k1 => ⟨rfl, ?_⟩⟩⟩
  have s0 : Same H (upd (upd H dxr (.own r)) r (.ins R dxr [])) := (same_new ndr).trans (same_new (by rw [upd_ne ner.symm]; exact nr))
  have s1 : Same H H1 := fun b o e => k1 b o (s0 b o e) (ne_of_none e nr)
  have hM1 := hM.same s1
  have f1 := Fr.same hM s1
  have nr1 : ¬ Own H1 m r := fun q => by
    obtain ⟨⟨dx, pc, ps, ph, pp⟩, gg⟩ := hM
    have pp' : Parts C H1 m dx pc ps ph Sf58.blank := ⟨s1 _ _ pp.ob, s1 _ _ pp.c, s1 _ _ pp.f, s1 _ _ pp.h⟩
    obtain ⟨o, e⟩ := own_some (C := C) (s := Sf58.blank) ⟨⟨dx, pc, ps, ph, pp⟩, gg⟩ (pp.own.mpr (pp'.own.mp q))
    rw [nr] at e; cases e
  have na1 : (¬ Own H1 m a ∧ ∃ o, H1 a = some o) ∨ ∀ H', SqL K H' a (ns.map V.int) := by
    rcases hna with ⟨z, o, e⟩ | z
    · refine .inl ⟨fun q => ?_, o, s1 _ _ e⟩
      rcases f1.own _ q with y | y
      · exact z y
      · rw [e] at y; cases y
    · exact .inr z
  have c1 : Ctx K C R H1 m r a Sf58.blank 0 ns := ⟨hM1, hR1, s1.seq hq, nr1, na1⟩
  -- given = []
  refine ⟨by show 0 ≤ sizeLine; decide, fun g hg => ?_⟩
  have ng1 : ¬ Own H1 m g := fun q => by
    obtain ⟨o, e⟩ := own_some hM1 q
    rw [hg] at e; cases e
  have gr : g ≠ r := fun e => by
    obtain ⟨dx, h0⟩ := hR1
    rw [e, h0] at hg; cases hg
  have ga : a ≠ g ∨ ∀ H', SqL K H' a (ns.map V.int) := by
    rcases na1 with ⟨_, o, e⟩ | z
    · exact .inl (ne_of_none e hg)
    · exact .inr z
  obtain ⟨c2, ho2⟩ := c1.other (g := g) (H1 := upd H1 g (.lst [])) (fun b o e ne => keepM e ne) ng1 gr ga
  refine ⟨fun n σ H' => ∃ (s1 : Sf58.St) (p : Nat) (out : List Int) (cs1 : List (List (List Int))) (f1 : Nat) (v4 : Option V), σ = [some (.ref m), some (.ref a), some (.ref r), some (.ref g), v4] ∧ Ctx K C R H' m r a s1 p ns ∧ H' g = some (.lst (out.map V.int)) ∧ ¬ Own H' m g ∧
      p ≤ ns.length ∧ n = ns.length - p ∧ PyFlat.calls PySf58.shape f1 (ns.drop p) = some cs1 ∧ (∀ c ∈ cs1.map PySf58.whole, Sf58Neutral.asked1 c = true) ∧ out ++ tell s1 cs1 = tell Sf58.blank cs ∧ out.length + 2 * cs1.length ≤ 600,
    ⟨ns.length, Sf58.blank, 0, [], cs, ns.length, none, rfl, c2, upd_same, fun q => ng1 ((ho2 _).mp q), Nat.zero_le _, rfl, hcs, hask, rfl, by show 0 + 2 * cs.length ≤ 600; omega⟩, ?_⟩
  rintro n σ H3 ⟨s3, p, out, cs3, f3, v4, rfl, c3, hg3, ng3, hp, rfl, hcs3, hask3, htell, hsz⟩
  obtain ⟨dx3, hR3⟩ := id c3.rr
  refine ⟨_, rfl, r, dx3, _, rfl, hR3, r_no (by decide +kernel), r, a, p, _, rfl, c3.rr, c3.q, _, rfl, ?_⟩
  try dsimp only
  rw [List.length_map]
  refine iteD (fun hlt => ?_) (fun hge => ?_)
  · obtain ⟨j, qc, cs4, c, p', f4, hj, rfl, hc, hargs, hp', hpp, hcs4⟩ := next_call (by omega) hcs3 hask3
    refine ⟨fun σ' H' => ∃ (out' : List Int) (v4 : Option V), σ' = [some (.ref m), some (.ref a), some (.ref r), some (.ref g), v4] ∧ Ctx K C R H' m r a (Sf58.spec s3 c).1 p' ns ∧ H' g = some (.lst (out'.map V.int)) ∧ ¬ Own H' m g ∧ out' = out ++ [1, (Sf58.spec s3 c).2.value], ?_, ?_⟩
    · rintro σ' H' ⟨out', v4', rfl, c5, hg5, ng5, rfl⟩
      refine ⟨ns.length - p', by omega, _, p', _, cs4, f4, v4', rfl, c5, hg5, ng5, hp', rfl, hcs4, fun x hx => hask3 x (by rw [List.map_cons]; exact List.mem_cons_of_mem _ hx), ?_, ?_⟩
      · rw [tell_cons hc] at htell
        rw [← htell, List.append_assoc]
      · rw [List.length_cons] at hsz
        rw [List.length_append]
        show out.length + 2 + 2 * cs4.length ≤ 600
        omega
    · obtain ⟨fj, hval, hcal⟩ := calls_has (P := P) (w := w) (base := base) T hfs hargs
      refine ⟨_, rfl, take_n (X := fun _ => True) c3 hj fun H4 c4 f4 => ⟨j, .ref fj, rfl, hval, ?_⟩⟩
      have hg4 : H4 g = some (.lst (out.map V.int)) := f4.keep _ _ hg3 gr ng3
      have ng4 : ¬ Own H4 m g := fun q => by
        rcases f4.own _ q with z | z
        · exact ng3 z
        · rw [hg3] at z; cases z
      have ol : (out.map V.int).length < sizeLine := by rw [List.length_map]; exact small1000 (by omega)
      refine ⟨_, rfl, .inl ⟨rfl, _, SqL.of hg4⟩, g, _, _, rfl, rfl, hg4, ol, ?_⟩
      obtain ⟨c5, ho5⟩ := c4.other (g := g) (H1 := upd H4 g (.lst (out.map V.int ++ [.int 1]))) (fun b o e ne => keepM e ne) ng4 gr ga
      refine ⟨_, rfl, .inl ⟨rfl, _, SqL.of upd_same⟩, _, rfl, fj, _, _, rfl, hcal, _, rfl, _, rfl, m, r, a, s3, p + 1, p', ns, c, rfl, c5, hargs, fun H6 c6 f6 => ?_⟩
      have ng5 : ¬ Own (upd H4 g (.lst (out.map V.int ++ [.int 1]))) m g := fun q => ng4 ((ho5 _).mp q)
      have hg6 : H6 g = some (.lst (out.map V.int ++ [.int 1])) := f6.keep _ _ upd_same gr ng5
      have ng6 : ¬ Own H6 m g := fun q => by
        rcases f6.own _ q with z | z
        · exact ng5 z
        · rw [upd_same] at z; cases z
      have ol6 : (out.map V.int ++ [V.int 1]).length < sizeLine := by rw [List.length_append, List.length_map]; exact small1000 (by show out.length + 1 ≤ 1000; omega)
      obtain ⟨c7, ho7⟩ := c6.other (g := g) (H1 := upd H6 g (.lst ((out.map V.int ++ [.int 1]) ++ [.int (Sf58.spec s3 c).2.value]))) (fun b o e ne => keepM e ne) ng6 gr ga
      refine ⟨g, _, _, rfl, rfl, hg6, ol6, out ++ [1, (Sf58.spec s3 c).2.value], _, rfl, c7, ?_, fun q => ng6 ((ho7 _).mp q), rfl⟩
      rw [upd_same, List.map_append, List.append_assoc]
      rfl
  · have e := no_call (p := p) (by omega) hcs3
    subst e
    rw [tell_nil, List.append_nil] at htell
    refine ⟨_, rfl, kk g H3 ?_⟩
    try dsimp only
    rw [← htell]
    exact hg3

def sp_answers (K : PySem.W.Frag) : Sp := fun vs H Q _ => ∃ (a : Addr) (ns : List Int), vs = [.ref a] ∧ SqL K H a (ns.map V.int) ∧ PySf58.answers_asked ns = true ∧ ∀ g H1, H1 g = some (.lst ((PySf58.answers ns).map V.int)) → Q (.ref g) H1
theorem has_answers (T : Txt K mg C R) : Has P w K mg base 10 "answers" ["calls"] (sp_answers K) := by
  refine mkHas T.d_answers sc_answers (fun _ _ _ _ _ _ us hl => match us, hl with | [_], _ => rfl) (by rintro vs H Q E ⟨a, ns, rfl, _⟩; rfl) fun f cdv A outer s0 H vs Q E hr h => ?_
  obtain ⟨a, ns, rfl, hq, hask, kk⟩ := h
  refine ⟨_, (pss_one (ps_ret (pc (has_follow T) hr (pa_cons (pcmk0 (mk_Machine T) hr) (pa_cons (pv 0) pa_nil))))), ?_⟩
  obtain ⟨cs, h1, h2, h3, h4⟩ := asked_line hask
  intro m dx nm nd ne
  refine ⟨m, dx, rfl, upd_same, fun H1 hM1 k1 o1 => ⟨rfl, ?_⟩⟩
  have s0 : Same H (upd (upd H dx (.own m)) m (.ins C dx [])) := (same_new nd).trans (same_new (by rw [upd_ne ne.symm]; exact nm))
  have s1 : Same H H1 := fun b o e => k1 b o (s0 b o e) (ne_of_none e nm)
  refine ⟨_, rfl, m, a, ns, cs, rfl, hM1, s1.seq hq, ?_, h1, h2, h3, fun g H2 hg => kk g H2 (by rw [h4]; exact hg)⟩
  have notOwn : ∀ o, H a = some o → ¬ Own H1 m a := fun o e q => by
    rcases o1 _ q with z | z
    · exact ne_of_none e nm z
    · rw [s0 _ _ e] at z; cases z
  have tracked : ∀ o, H a = some o → (¬ Own H1 m a ∧ ∃ o, H1 a = some o) := fun o e => ⟨notOwn o e, o, s1 _ _ e⟩
  rcases hq with (q | ⟨o, q⟩) | q
  · exact .inl (tracked _ q)
  · exact .inl (tracked _ q)
  · exact .inr fun H' => .inr q
end
end Fb

set_option Elab.async false
set_option linter.all false
set_option maxRecDepth 100000
set_option maxHeartbeats 4000000
namespace Fb
open PySem PySem.W PySem.Calls PyProof.Rows L2

/-! ### the call, from the promise of answers -/
theorem reads_ints {R : WRecords} {cl : Str → Option Addr} {h : Heap} : ∀ {ys : List Int} {its : List Value}, Vals (ys.map V.int) its → ReadsAllW R cl h its (ys.map WData.int) []
  | [], _, r => by cases r; exact .nil
  | y :: ys, _, r => by
    cases r with
    | cons r1 r2 =>
      obtain ⟨t, rfl⟩ := r1
      exact ReadsAllW.cons (as := []) (bs := []) (.int y t) (reads_ints r2)
theorem spec_call {P : Program} {w : World} {K : PySem.W.Frag} {mg mb : Str → Option Value} {k : Nat} {fa a : Addr} {x : Str} {sp : Sp} {s₁ : Shared} {vs : List Value} {ns ys : List Int}
    (KX : K.In s₁.heap) (hns : s₁.heap.Ns mainGlobals mg) (hb : s₁.heap.Ns builtinsNs mb) (hbb : ∀ x : Str, x ≠ "__name__" → mb x = bootBuiltins x) (hlim : s₁.heap.NoLimit) (hg : s₁.gens = #[])
    (ha : s₁.heap.get? a = some { cls := .type "list", data := .seq vs.toArray }) (hi : IntsAre vs ns) (hl : ns.length ≤ sizeLine) (hr : Room k callerA)
    (F : ∀ base : Heap, K.In base → base.Ns mainGlobals mg → Cal P w K mg base k fa [x] sp)
    (hsp : ∀ H : Hp, SqL K H a (ns.map V.int) → sp [.ref a] H (fun v H' => ∃ g, v = .ref g ∧ H' g = some (.lst (ys.map V.int))) fun _ _ _ => False) :
    codeAny (model P w) callerA (.call (.ref fa) ⟨[.ref a], []⟩) (fun r s' => (∃ (g : Addr) (its : List Value) (n : Nat), r = .ok (.ret (.ref g)) ∧ Vals (ys.map V.int) its ∧ s'.heap.get? g = some { cls := .type "list", data := .seq its.toArray n }) ∧ OldK s₁.heap s'.heap ∧ s'.os = s₁.os ∧ AllBare s'.gens) s₁ := by
  have rv := vals_ints hi
  have lenV := hi.length
  have core : ∀ H : Hp, Only H → SqL K H a (ns.map V.int) → HOk P w H s₁.heap → (∀ b, H b ≠ none → b = a) → (H a ≠ none → K.lookup a = none) →
      codeAny (model P w) callerA (.call (.ref fa) ⟨[.ref a], []⟩) (fun r s' => (∃ (g : Addr) (its : List Value) (n : Nat), r = .ok (.ret (.ref g)) ∧ Vals (ys.map V.int) its ∧ s'.heap.get? g = some { cls := .type "list", data := .seq its.toArray n }) ∧ OldK s₁.heap s'.heap ∧ s'.os = s₁.os ∧ AllBare s'.gens) s₁ := by
    intro H hO hS hok hA hK
    have base_of : ∀ {b : Addr} {o : Obj}, s₁.heap.get? b = some o → H b = none → (hidT s₁.heap H).get? b = some o := fun e n => hidT_get e n
    have noA : ∀ {b : Addr} {o : Obj} {es : Array DictEntry} {ep : Nat}, s₁.heap.get? b = some o → o.data = .dict es ep → H b = none := fun {b o es ep} e d => by
      cases q : H b with
      | none => rfl
      | some u =>
        have e' : b = a := hA b (by rw [q]; simp)
        subst e'
        rw [ha] at e; cases e
        have d' : Data.seq vs.toArray _ = Data.dict es ep := d
        cases d'
    have nsK : ∀ {b : Addr} {m : Str → Option Value}, s₁.heap.Ns b m → (hidT s₁.heap H).Ns b m := fun {b m} ⟨o, es, ep, e, d, r⟩ => ⟨o, es, ep, base_of e (noA e d), d, r⟩
    have hKb : K.In (hidT s₁.heap H) := fun b o e => base_of (KX b o e) (by
      cases q : H b with
      | none => rfl
      | some u =>
        have e' : b = a := hA b (by rw [q]; simp)
        subst e'
        rw [hK (by rw [q]; simp)] at e; cases e)
    have hM : Mod K mg (hidT s₁.heap H) := ⟨hKb, nsK hns, ⟨mb, nsK hb, hbb⟩, let ⟨mc, h1, h2⟩ := hlim; ⟨mc, nsK h1, h2⟩⟩
    have e0 : Env0 P w K mg (hidT s₁.heap H) callerA [] s₁ H := ⟨rfl, hM, fun b o e => of_hidT e, Nat.le_of_eq (hidT_size _ _), trivial, fun b hb => absurd (show b ∈ ([] : List Addr) from hb) (by simp), hok, .of_eq hg⟩
    obtain ⟨fd, _, hbi, FF⟩ := F _ hKb (nsK hns)
    refine codeAny_mono (FF.run callerA [] s₁ H ⟨[.ref a], []⟩ [.ref a] [.ref a] _ _ hr e0 (hbi s₁ [.ref a] KX rfl) (.cons rfl .nil) (hsp H hS)) fun r s' h => ?_
    cases r with
    | error e => exact h.elim
    | ok fl =>
      cases fl with
      | next => exact False.elim h
      | brk => exact False.elim h
      | cont => exact False.elim h
      | ret u =>
        obtain ⟨v, H', os, bare, un, hok', r', g, eg, hg'⟩ := h
        subst eg
        obtain rfl : u = Value.ref g := r'
        obtain ⟨_, its, n, rvs, eo⟩ := hok' g _ hg'
        refine ⟨⟨g, its, n, rfl, rvs, eo⟩, OldK.of_keep fun b o e => ?_, os, bare⟩
        cases q : H b with
        | none => exact un.keep b o e q (by intro z; exact absurd (show b ∈ ([] : List Addr) from z) (by simp)) (by simp)
        | some u =>
          rcases hO b with z | ⟨ob, xs, z⟩
          · rw [q] at z; cases z
          · have z2 := un.frzs b ob _ z
            obtain ⟨e1, _⟩ := hok b _ z
            obtain ⟨e2, _⟩ := hok' b _ z2
            rw [e] at e1; cases e1
            exact e2
  cases hk : K.lookup a with
  | some o =>
    have e := KX a o hk
    rw [ha] at e
    cases e
    refine core (fun _ => none) (fun _ => .inl rfl) (.inr ⟨_, vs.toArray, _, hk, rfl, rfl, rfl, by rw [List.size_toArray, lenV]; exact hl, by simpa using rv⟩) (fun b u z => by have z' : (none : Option HO) = some u := z; cases z') (fun b z => absurd rfl z) fun z => absurd rfl z
  | none =>
    refine core (fun b => if b = a then some (.frz { cls := .type "list", data := .seq vs.toArray } (.lst (ns.map V.int))) else none) (fun b => ?_) (.inl (.inr ⟨{ cls := .type "list", data := .seq vs.toArray }, if_pos rfl⟩)) (fun b u z => ?_) (fun b z => ?_) fun _ => hk
    · by_cases hb : b = a
      · exact .inr ⟨_, _, if_pos hb⟩
      · exact .inl (if_neg hb)
    · by_cases hb : b = a
      · have z' := (if_pos hb).symm.trans z
        cases z'
        subst hb
        exact ⟨ha, by rw [List.length_map]; exact hl, vs, _, rv, ha⟩
      · have z' := (if_neg hb).symm.trans z
        cases z'
    · by_cases hb : b = a
      · exact hb
      · exact absurd (if_neg hb) z

abbrev row : OpenSpec := PySem.Challenge.rw_fifteenbits_s01_answers
theorem said : row.wellSaid = true := by decide +kernel
/-- the request: a line of numbers -/
theorem line_of {args : List WData} (hpre : row.pre args = true) : ∃ ns : List Int, args = [WData.list (ns.map WData.int)] ∧ ns.length ≤ 30000 ∧ PySf58.answers_asked ns = true ∧ row.claim.post args (.list ((PySf58.answers ns).map WData.int)) args = true := by
  obtain ⟨a, hw, hask, rfl⟩ := (OpenSpec.pre_iff said args).mp hpre
  obtain ⟨ns, u⟩ := a
  have hw' := hw
  have h1 : (Codec.inLen 0 30000 ns && ns.all (Codec.inInt (-2147483648) 4294967295)) = true := (Bool.and_eq_true_iff.mp (show ((Codec.inLen 0 30000 ns && ns.all (Codec.inInt (-2147483648) 4294967295)) && true) = true from hw)).1
  have h2 : (decide (0 ≤ ns.length) && decide (ns.length ≤ 30000)) = true := (Bool.and_eq_true_iff.mp h1).1
  exact ⟨ns, rfl, of_decide_eq_true (Bool.and_eq_true_iff.mp h2).2, hask, (OpenSpec.post_iff said hw' _ _).mpr rfl⟩
theorem vals_of {P : Params} {h : Heap} {vals : List Value} {ns : List Int} (hwl : WellAll P h vals [WData.list (ns.map WData.int)]) : ∃ a vs, vals = [Value.ref a] ∧ h.get? a = some { cls := .type "list", data := .seq vs.toArray } ∧ IntsAre vs ns := by
  cases hwl with
  | cons w1 w2 =>
    cases w2
    cases w1 with
    | list ho hall => exact ⟨_, _, rfl, ho, Att.ints_of_wellAll ns _ hall⟩
theorem walk_os {q : Program} {loose : List Str} {XP : (Str → Option Value) → Heap → Prop} {YP : World → Heap → Prop} {d : DefRec} {K : Params → PySem.W.Frag}
    (hY : ∀ (w : World) (h : Heap), YP w h → (K w.params).In h)
    (F : ∀ (w : World) (mg : Str → Option Value) (fa : Addr) (h : Heap), (K w.params).In h → h.Ns mainGlobals mg → mg d.name = some (.ref fa) →
      ∀ base : Heap, (K w.params).In base → base.Ns mainGlobals mg → Cal row.prog w (K w.params) mg base 10 fa ["calls"] (sp_answers (K w.params))) :
    WalkOS q loose XP YP row d [] (fun f vs => PySem.call f vs) := by
  intro w s₀ s₁ mg mb G Y fa o pm cd doc dV kV ho hd hcd hD hmg hg args vals as hpre hlay hrd hwl hlo
  obtain ⟨ns, rfl, hlen, hask, hpost⟩ := line_of hpre
  obtain ⟨a, vs, rfl, hobj, hints⟩ := vals_of hwl
  have KX := hY w _ Y
  refine enter_call (codeAny_mono (spec_call (ns := ns) (ys := PySf58.answers ns) KX G.T.g G.T.b G.T.builtins G.T.nolimit hg hobj hints (Nat.le_trans hlen (by decide)) (k := 10) ⟨rfl, by decide, by decide⟩ (F w mg fa _ KX G.T.g hmg) (fun H hS => ⟨a, ns, rfl, hS, hask, fun g H1 h1 => ⟨g, rfl, h1⟩⟩)) fun r s' hq => ?_)
  obtain ⟨⟨g, its, n, rfl, rvs, eo⟩, h2, h3, h4⟩ := hq
  exact ⟨.inl ⟨.ref g, .list ((PySf58.answers ns).map WData.int), [g], rfl, fun _ => rfl, ReadsW.list (as := []) eo rfl rfl (reads_ints rvs), hpost, fun h => absurd h Bool.false_ne_true⟩, h2, h3, h4⟩

/-! ### what the top has written -/
section
variable {K : PySem.W.Frag} {h : Heap} {mg : Str → Option Value} (X : K.In h) (G : h.Ns mainGlobals mg)
include X G
theorem def_mk {x : Str} {st : Stmt} {f : Addr} {oc : Value} {od an : Option Addr} {sl : Array (Option Value)} {kV doc pm cdv ct : Value} (a : nsIn K mainGlobals x = some (some (.ref f)))
    (l : K.lookup f = some ⟨oc, od, .func (PySem.W.fnOf x x (defArgs st) (defBody st) (defScope st) .none kV doc pm an cdv ct), sl⟩) (c : codeIn K cdv x = true) (k : keepIn K (.ref f) = true) : Def K mg x st :=
  ⟨f, _, mg_of X G a, fun_mk l c k⟩
theorem gi_mk {x : Str} {n : Int} {t : Tok} (a : nsIn K mainGlobals x = some (some (.int n t))) : GI mg x n := ⟨t, mg_of X G a⟩
theorem tup_mk {x : Str} {ns : List Str} {ad : Addr} {od : Option Addr} {its : Array Value} {n : Nat} {sl : Array (Option Value)} (a : nsIn K mainGlobals x = some (some (.ref ad))) (l : K.lookup ad = some ⟨.type "tuple", od, .seq its n, sl⟩)
    (p : Paired (fun n u => ∃ f, u = Value.ref f ∧ nsIn K mainGlobals n = some (some (.ref f))) ns its.toList) : Tup K mg x ns := by
  have go : ∀ {ns : List Str} {us : List Value}, Paired (fun n u => ∃ f, u = Value.ref f ∧ nsIn K mainGlobals n = some (some (.ref f))) ns us → ∃ fs : List Addr, us = fs.map Value.ref ∧ Paired (fun n f => mg n = some (.ref f)) ns fs := by
    intro ns us p
    induction p with
    | nil => exact ⟨[], rfl, .nil⟩
    | cons r _ ih =>
      obtain ⟨f, rfl, e⟩ := r
      obtain ⟨fs, rfl, q⟩ := ih
      exact ⟨f :: fs, rfl, .cons (mg_of X G e) q⟩
  obtain ⟨fs, e, q⟩ := go p
  exact ⟨ad, fs, mg_of X G a, ⟨_, its, n, l, rfl, rfl, e⟩, q⟩
theorem kd_mk {x : Str} {kvs : List (Key × V)} {ad : Addr} {es : Array DictEntry} {ep : Nat} (a : nsIn K mainGlobals x = some (some (.ref ad))) (hs : (ad == sysModules) = false) (l : K.lookup ad = some ⟨.type "dict", none, .dict es ep, #[]⟩)
    (p : Paired KE kvs es.toList) (nd : (kvs.map (·.1)).Nodup) : KD K mg x kvs := ⟨ad, mg_of X G a, hs, ⟨_, es, ep, l, ⟨rfl, rfl, rfl⟩, rfl, p⟩, nd⟩
end
theorem mdef_mk {K : PySem.W.Frag} {C : Addr} {m qual : Str} {st : Stmt} {f : Addr} {oc : Value} {od an : Option Addr} {sl : Array (Option Value)} {kV doc pm cdv ct : Value} (a : findIn K (.ref C) m = some (some (.ref f))) (i : isFn K (.ref f) = true)
    (l : K.lookup f = some ⟨oc, od, .func (PySem.W.fnOf m qual (defArgs st) (defBody st) (defScope st) .none kV doc pm an cdv ct), sl⟩) (c : codeIn K cdv qual = true) (k : keepIn K (.ref f) = true) : MDef K C m qual st :=
  ⟨f, _, ⟨a, i, k⟩, fun_mk l c k⟩
theorem cls_mk {K : PySem.W.Frag} {C : Addr} (pg : plainGet K C Str.empty = true) (hd : hasDictIn K C = true) (po : plainOver K C = true) (sa : findIn K (.ref C) "__setattr__" = some (some (.builtin "object.__setattr__"))) : Cls K C := ⟨pg, hd, po, sa⟩
theorem mc_mk {K : PySem.W.Frag} {C : Addr} (c : Cls K C) (h1 : findIn K (.ref C) "a" = some none) (h2 : findIn K (.ref C) "l" = some none) (h3 : findIn K (.ref C) "q" = some none) (h4 : findIn K (.ref C) "eb" = some none) (h5 : findIn K (.ref C) "fb" = some none)
    (h6 : findIn K (.ref C) "z" = some none) (h7 : findIn K (.ref C) "changing" = some none) (h8 : findIn K (.ref C) "staying" = some none) (h9 : findIn K (.ref C) "channels" = some none) (h10 : findIn K (.ref C) "barred" = some none)
    (h11 : findIn K (.ref C) "serving" = some none) (h12 : findIn K (.ref C) "asked" = some none) (h13 : findIn K (.ref C) "extended" = some none) (h14 : findIn K (.ref C) "index_word" = some none) (h15 : findIn K (.ref C) "instead" = some none) : McOk K C :=
  ⟨c, fun F => by cases F <;> assumption⟩
theorem calls_mk {K : PySem.W.Frag} {h : Heap} {mg : Str → Option Value} (X : K.In h) (G : h.Ns mainGlobals mg) {f1 f2 f3 f4 f5 f6 f7 f8 f9 : Addr} {ad : Addr} {es : Array DictEntry} {ep : Nat}
    (a1 : nsIn K mainGlobals "answer_begin" = some (some (.ref f1))) (a2 : nsIn K mainGlobals "answer_load" = some (some (.ref f2))) (a3 : nsIn K mainGlobals "answer_run" = some (some (.ref f3))) (a4 : nsIn K mainGlobals "answer_ask" = some (some (.ref f4)))
    (a5 : nsIn K mainGlobals "answer_pulse" = some (some (.ref f5))) (a6 : nsIn K mainGlobals "answer_get" = some (some (.ref f6))) (a7 : nsIn K mainGlobals "answer_set" = some (some (.ref f7))) (a8 : nsIn K mainGlobals "answer_look" = some (some (.ref f8)))
    (a9 : nsIn K mainGlobals "answer_poke" = some (some (.ref f9))) (a : nsIn K mainGlobals "CALLS" = some (some (.ref ad))) (hs : (ad == sysModules) = false) (l : K.lookup ad = some ⟨.type "dict", none, .dict es ep, #[]⟩)
    (p : Paired KE (callsOf [f1, f2, f3, f4, f5, f6, f7, f8, f9]) es.toList) : ∃ fs : List Addr, Paired (fun n f => mg n = some (.ref f)) callNames fs ∧ KD K mg "CALLS" (callsOf fs) :=
  ⟨[f1, f2, f3, f4, f5, f6, f7, f8, f9], .cons (mg_of X G a1) (.cons (mg_of X G a2) (.cons (mg_of X G a3) (.cons (mg_of X G a4) (.cons (mg_of X G a5) (.cons (mg_of X G a6) (.cons (mg_of X G a7) (.cons (mg_of X G a8) (.cons (mg_of X G a9) .nil)))))))),
    kd_mk X G a hs l p (by show ([Sum.inl 1, Sum.inl 2, Sum.inl 3, Sum.inl 4, Sum.inl 5, Sum.inl 6, Sum.inl 7, Sum.inl 8, Sum.inl 9] : List Key).Nodup; decide +kernel)⟩
theorem ex_mk {K : PySem.W.Frag} {mg : Str → Option Value} {C R : Addr} (aM : nsIn K mainGlobals "Machine" = some (some (.ref C))) (aR : nsIn K mainGlobals "Reader" = some (some (.ref R))) (T : Txt K mg C R) : ∃ C R, Txt K mg C R := ⟨C, R, T⟩
end Fb

/-! the names of twins that the head need not lay (its heaps at the pieces' ends): taken, so that they are passed over -/
def PySem.W.Fast.tw11812857560435922875 : Unit := ()
def PySem.W.Fast.tw16109420675096713021 : Unit := ()
def PySem.W.Fast.tw9587624864083410319 : Unit := ()
def PySem.W.Fast.tw10580469733001136101 : Unit := ()
def PySem.W.Fast.tw3746726614529455624 : Unit := ()
def PySem.W.Fast.tw5389323450635279067 : Unit := ()
def PySem.W.Fast.tw1443449364319517555 : Unit := ()
def PySem.W.Fast.tw3045082819874428313 : Unit := ()
def PySem.W.Fast.tw16009402515869188072 : Unit := ()
def PySem.W.Fast.tw4786009782157732022 : Unit := ()
def PySem.W.Fast.tw16761450017890218208 : Unit := ()
def PySem.W.Fast.tw571152430887512935 : Unit := ()
def PySem.W.Fast.tw8949846338839152502 : Unit := ()
def PySem.W.Fast.tw6753043989531807789 : Unit := ()
def PySem.W.Fast.tw16336019395940339152 : Unit := ()
def PySem.W.Fast.tw3601010901532618545 : Unit := ()
def PySem.W.Fast.tw15229647354705346420 : Unit := ()
def PySem.W.Fast.tw8962139199838548373 : Unit := ()
def PySem.W.Fast.tw3941266640313517331 : Unit := ()
def PySem.W.Fast.tw13317354217076574304 : Unit := ()
def PySem.W.Fast.tw17350875750996690853 : Unit := ()
def PySem.W.Fast.tw6121773988086739455 : Unit := ()
def PySem.W.Fast.tw6516883209471874788 : Unit := ()
def PySem.W.Fast.tw676919595244653251 : Unit := ()
def PySem.W.Fast.tw10214792243251436904 : Unit := ()
def PySem.W.Fast.tw9501142614481057710 : Unit := ()
def PySem.W.Fast.tw1901421088266751612 : Unit := ()

open PySem PySem.W PyProof.Rows
set_option maxRecDepth 100000 in
set_option maxHeartbeats 0 in
theorem PySem.Challenge.cw_fifteenbits_s01_answers_holds : PySem.Challenge.rw_fifteenbits_s01_answers.Holds := by
  w_on; k_headS; (case hw => exact ⟨[.list [.int 1]], by decide +kernel, by decide +kernel⟩)
  k_fillS
  refine Fb.walk_os (fun w h Y => PySem.W.kIn_of Y) ?F
  case F =>
    intro w mg fa h KX G hmg base kb nb
    have T : ∃ C R, Fb.Txt (L2.KOf KX) mg C R := by
      dsimp only [L2.KOf]
      refine' Fb.ex_mk ?aM ?aR ?T
      (case aM => k_is)
      (case aR => k_is)
      case T =>
        exact {
          d_wide := Fb.def_mk KX G (by k_is) (by k_is) (by k_is) (by k_is)
          d_narrow := Fb.def_mk KX G (by k_is) (by k_is) (by k_is) (by k_is)
          d_plus := Fb.def_mk KX G (by k_is) (by k_is) (by k_is) (by k_is)
          d_minus_wide := Fb.def_mk KX G (by k_is) (by k_is) (by k_is) (by k_is)
          d_minus_narrow := Fb.def_mk KX G (by k_is) (by k_is) (by k_is) (by k_is)
          d_overflow := Fb.def_mk KX G (by k_is) (by k_is) (by k_is) (by k_is)
          d_is_below := Fb.def_mk KX G (by k_is) (by k_is) (by k_is) (by k_is)
          d_amount := Fb.def_mk KX G (by k_is) (by k_is) (by k_is) (by k_is)
          d_number_of := Fb.def_mk KX G (by k_is) (by k_is) (by k_is) (by k_is)
          d_with_sign := Fb.def_mk KX G (by k_is) (by k_is) (by k_is) (by k_is)
          d_count_by := Fb.def_mk KX G (by k_is) (by k_is) (by k_is) (by k_is)
          d_ask_for := Fb.def_mk KX G (by k_is) (by k_is) (by k_is) (by k_is)
          d_pulse_down := Fb.def_mk KX G (by k_is) (by k_is) (by k_is) (by k_is)
          d_pulse_up := Fb.def_mk KX G (by k_is) (by k_is) (by k_is) (by k_is)
          m_Machine___init__ := Fb.mdef_mk (by k_is) (by k_is) (by k_is) (by k_is) (by k_is)
          m_Machine_begin := Fb.mdef_mk (by k_is) (by k_is) (by k_is) (by k_is) (by k_is)
          m_Machine_begin_turns := Fb.mdef_mk (by k_is) (by k_is) (by k_is) (by k_is) (by k_is)
          d_changing_number := Fb.def_mk KX G (by k_is) (by k_is) (by k_is) (by k_is)
          d_read_staying := Fb.def_mk KX G (by k_is) (by k_is) (by k_is) (by k_is)
          d_read_small_register := Fb.def_mk KX G (by k_is) (by k_is) (by k_is) (by k_is)
          d_read_narrow := Fb.def_mk KX G (by k_is) (by k_is) (by k_is) (by k_is)
          d_read_wide := Fb.def_mk KX G (by k_is) (by k_is) (by k_is) (by k_is)
          d_write_small_register := Fb.def_mk KX G (by k_is) (by k_is) (by k_is) (by k_is)
          d_edited := Fb.def_mk KX G (by k_is) (by k_is) (by k_is) (by k_is)
          d_write := Fb.def_mk KX G (by k_is) (by k_is) (by k_is) (by k_is)
          d_edit_anew := Fb.def_mk KX G (by k_is) (by k_is) (by k_is) (by k_is)
          d_read_channel := Fb.def_mk KX G (by k_is) (by k_is) (by k_is) (by k_is)
          d_write_channel := Fb.def_mk KX G (by k_is) (by k_is) (by k_is) (by k_is)
          d_shown_values := Fb.def_mk KX G (by k_is) (by k_is) (by k_is) (by k_is)
          d_set_value := Fb.def_mk KX G (by k_is) (by k_is) (by k_is) (by k_is)
          d_is_word := Fb.def_mk KX G (by k_is) (by k_is) (by k_is) (by k_is)
          d_look_at := Fb.def_mk KX G (by k_is) (by k_is) (by k_is) (by k_is)
          d_poke_in := Fb.def_mk KX G (by k_is) (by k_is) (by k_is) (by k_is)
          d_leave_out := Fb.def_mk KX G (by k_is) (by k_is) (by k_is) (by k_is)
          d_tc := Fb.def_mk KX G (by k_is) (by k_is) (by k_is) (by k_is)
          d_ccs := Fb.def_mk KX G (by k_is) (by k_is) (by k_is) (by k_is)
          d_tcf := Fb.def_mk KX G (by k_is) (by k_is) (by k_is) (by k_is)
          d_das := Fb.def_mk KX G (by k_is) (by k_is) (by k_is) (by k_is)
          d_lxch := Fb.def_mk KX G (by k_is) (by k_is) (by k_is) (by k_is)
          d_incr := Fb.def_mk KX G (by k_is) (by k_is) (by k_is) (by k_is)
          d_ads := Fb.def_mk KX G (by k_is) (by k_is) (by k_is) (by k_is)
          d_ca := Fb.def_mk KX G (by k_is) (by k_is) (by k_is) (by k_is)
          d_cs := Fb.def_mk KX G (by k_is) (by k_is) (by k_is) (by k_is)
          d_resume := Fb.def_mk KX G (by k_is) (by k_is) (by k_is) (by k_is)
          d_index_next := Fb.def_mk KX G (by k_is) (by k_is) (by k_is) (by k_is)
          d_dxch := Fb.def_mk KX G (by k_is) (by k_is) (by k_is) (by k_is)
          d_ts := Fb.def_mk KX G (by k_is) (by k_is) (by k_is) (by k_is)
          d_xch := Fb.def_mk KX G (by k_is) (by k_is) (by k_is) (by k_is)
          d_ad := Fb.def_mk KX G (by k_is) (by k_is) (by k_is) (by k_is)
          d_mask := Fb.def_mk KX G (by k_is) (by k_is) (by k_is) (by k_is)
          d_read_in := Fb.def_mk KX G (by k_is) (by k_is) (by k_is) (by k_is)
          d_write_out := Fb.def_mk KX G (by k_is) (by k_is) (by k_is) (by k_is)
          d_rand := Fb.def_mk KX G (by k_is) (by k_is) (by k_is) (by k_is)
          d_wand := Fb.def_mk KX G (by k_is) (by k_is) (by k_is) (by k_is)
          d_ror := Fb.def_mk KX G (by k_is) (by k_is) (by k_is) (by k_is)
          d_wor := Fb.def_mk KX G (by k_is) (by k_is) (by k_is) (by k_is)
          d_rxor := Fb.def_mk KX G (by k_is) (by k_is) (by k_is) (by k_is)
          d_edrupt := Fb.def_mk KX G (by k_is) (by k_is) (by k_is) (by k_is)
          d_by_channel := Fb.def_mk KX G (by k_is) (by k_is) (by k_is) (by k_is)
          d_dv := Fb.def_mk KX G (by k_is) (by k_is) (by k_is) (by k_is)
          d_bzf := Fb.def_mk KX G (by k_is) (by k_is) (by k_is) (by k_is)
          d_msu := Fb.def_mk KX G (by k_is) (by k_is) (by k_is) (by k_is)
          d_qxch := Fb.def_mk KX G (by k_is) (by k_is) (by k_is) (by k_is)
          d_aug := Fb.def_mk KX G (by k_is) (by k_is) (by k_is) (by k_is)
          d_dim := Fb.def_mk KX G (by k_is) (by k_is) (by k_is) (by k_is)
          d_edit_pair_anew := Fb.def_mk KX G (by k_is) (by k_is) (by k_is) (by k_is)
          d_dca := Fb.def_mk KX G (by k_is) (by k_is) (by k_is) (by k_is)
          d_dcs := Fb.def_mk KX G (by k_is) (by k_is) (by k_is) (by k_is)
          d_index_extended := Fb.def_mk KX G (by k_is) (by k_is) (by k_is) (by k_is)
          d_su := Fb.def_mk KX G (by k_is) (by k_is) (by k_is) (by k_is)
          d_bzmf := Fb.def_mk KX G (by k_is) (by k_is) (by k_is) (by k_is)
          d_mp := Fb.def_mk KX G (by k_is) (by k_is) (by k_is) (by k_is)
          d_interrupt_comes_in := Fb.def_mk KX G (by k_is) (by k_is) (by k_is) (by k_is)
          d_first_asked := Fb.def_mk KX G (by k_is) (by k_is) (by k_is) (by k_is)
          d_come_in := Fb.def_mk KX G (by k_is) (by k_is) (by k_is) (by k_is)
          d_take_instruction := Fb.def_mk KX G (by k_is) (by k_is) (by k_is) (by k_is)
          d_take_turn := Fb.def_mk KX G (by k_is) (by k_is) (by k_is) (by k_is)
          d_stands_still := Fb.def_mk KX G (by k_is) (by k_is) (by k_is) (by k_is)
          d_run := Fb.def_mk KX G (by k_is) (by k_is) (by k_is) (by k_is)
          m_Reader___init__ := Fb.mdef_mk (by k_is) (by k_is) (by k_is) (by k_is) (by k_is)
          m_Reader_has_more := Fb.mdef_mk (by k_is) (by k_is) (by k_is) (by k_is) (by k_is)
          m_Reader_take_number := Fb.mdef_mk (by k_is) (by k_is) (by k_is) (by k_is) (by k_is)
          m_Reader_take_row := Fb.mdef_mk (by k_is) (by k_is) (by k_is) (by k_is) (by k_is)
          d_answer_begin := Fb.def_mk KX G (by k_is) (by k_is) (by k_is) (by k_is)
          d_answer_load := Fb.def_mk KX G (by k_is) (by k_is) (by k_is) (by k_is)
          d_answer_run := Fb.def_mk KX G (by k_is) (by k_is) (by k_is) (by k_is)
          d_answer_ask := Fb.def_mk KX G (by k_is) (by k_is) (by k_is) (by k_is)
          d_answer_pulse := Fb.def_mk KX G (by k_is) (by k_is) (by k_is) (by k_is)
          d_answer_get := Fb.def_mk KX G (by k_is) (by k_is) (by k_is) (by k_is)
          d_answer_set := Fb.def_mk KX G (by k_is) (by k_is) (by k_is) (by k_is)
          d_answer_look := Fb.def_mk KX G (by k_is) (by k_is) (by k_is) (by k_is)
          d_answer_poke := Fb.def_mk KX G (by k_is) (by k_is) (by k_is) (by k_is)
          d_follow := Fb.def_mk KX G (by k_is) (by k_is) (by k_is) (by k_is)
          d_answers := Fb.def_mk KX G (by k_is) (by k_is) (by k_is) (by k_is)
          g_MINUS_ONE := Fb.gi_mk KX G (by k_is)
          g_CHANGING_WORDS := Fb.gi_mk KX G (by k_is)
          g_BANKS := Fb.gi_mk KX G (by k_is)
          g_BANK_WORDS := Fb.gi_mk KX G (by k_is)
          g_CHANNELS := Fb.gi_mk KX G (by k_is)
          g_WINDOW := Fb.gi_mk KX G (by k_is)
          g_FIRST_STAYING := Fb.gi_mk KX G (by k_is)
          g_STAYING := Fb.gi_mk KX G (by k_is)
          g_CHANGING := Fb.gi_mk KX G (by k_is)
          g_CHANNEL := Fb.gi_mk KX G (by k_is)
          g_LOWER_TEN_first := Fb.gi_mk KX G (by k_is)
          g_LOWER_TEN_second := Fb.gi_mk KX G (by k_is)
          g_LOWER_TWELVE := Fb.gi_mk KX G (by k_is)
          g_DONE := Fb.gi_mk KX G (by k_is)
          g_REFUSED := Fb.gi_mk KX G (by k_is)
          g_LAST_VALUE := Fb.gi_mk KX G (by k_is)
          mc := Fb.mc_mk (Fb.cls_mk (by k_is) (by k_is) (by k_is) (by k_is)) (by k_is) (by k_is) (by k_is) (by k_is) (by k_is) (by k_is) (by k_is) (by k_is) (by k_is) (by k_is) (by k_is) (by k_is) (by k_is) (by k_is) (by k_is)
          rc := (Fb.cls_mk (by k_is) (by k_is) (by k_is) (by k_is))
          r_numbers := (by show PySem.W.findIn _ _ _ = _; k_is)
          r_position := (by show PySem.W.findIn _ _ _ = _; k_is)
          n_Machine := PySem.W.mg_of KX G (by k_is)
          mk_Machine := (by k_is)
          kp_Machine := (by k_is)
          n_Reader := PySem.W.mg_of KX G (by k_is)
          mk_Reader := (by k_is)
          kp_Reader := (by k_is)
          t_FIRST_LIST := Fb.tup_mk KX G (by k_is) (by k_is) (by exact (.cons ⟨_, rfl, by k_is⟩ (.cons ⟨_, rfl, by k_is⟩ (.cons ⟨_, rfl, by k_is⟩ (.cons ⟨_, rfl, by k_is⟩ (.cons ⟨_, rfl, by k_is⟩ (.cons ⟨_, rfl, by k_is⟩ (.cons ⟨_, rfl, by k_is⟩ (.cons ⟨_, rfl, by k_is⟩ (.cons ⟨_, rfl, by k_is⟩ (.cons ⟨_, rfl, by k_is⟩ (.cons ⟨_, rfl, by k_is⟩ (.cons ⟨_, rfl, by k_is⟩ (.cons ⟨_, rfl, by k_is⟩ (.cons ⟨_, rfl, by k_is⟩ (.cons ⟨_, rfl, by k_is⟩ (.cons ⟨_, rfl, by k_is⟩ (.cons ⟨_, rfl, by k_is⟩ (.cons ⟨_, rfl, by k_is⟩ (.cons ⟨_, rfl, by k_is⟩ (.cons ⟨_, rfl, by k_is⟩ (.cons ⟨_, rfl, by k_is⟩ (.cons ⟨_, rfl, by k_is⟩ (.cons ⟨_, rfl, by k_is⟩ (.cons ⟨_, rfl, by k_is⟩ (.cons ⟨_, rfl, by k_is⟩ (.cons ⟨_, rfl, by k_is⟩ (.cons ⟨_, rfl, by k_is⟩ (.cons ⟨_, rfl, by k_is⟩ (.cons ⟨_, rfl, by k_is⟩ (.cons ⟨_, rfl, by k_is⟩ (.cons ⟨_, rfl, by k_is⟩ (.cons ⟨_, rfl, by k_is⟩ .nil)))))))))))))))))))))))))))))))))
          t_SECOND_LIST := Fb.tup_mk KX G (by k_is) (by k_is) (by exact (.cons ⟨_, rfl, by k_is⟩ (.cons ⟨_, rfl, by k_is⟩ (.cons ⟨_, rfl, by k_is⟩ (.cons ⟨_, rfl, by k_is⟩ (.cons ⟨_, rfl, by k_is⟩ (.cons ⟨_, rfl, by k_is⟩ (.cons ⟨_, rfl, by k_is⟩ (.cons ⟨_, rfl, by k_is⟩ (.cons ⟨_, rfl, by k_is⟩ (.cons ⟨_, rfl, by k_is⟩ (.cons ⟨_, rfl, by k_is⟩ (.cons ⟨_, rfl, by k_is⟩ (.cons ⟨_, rfl, by k_is⟩ (.cons ⟨_, rfl, by k_is⟩ (.cons ⟨_, rfl, by k_is⟩ (.cons ⟨_, rfl, by k_is⟩ (.cons ⟨_, rfl, by k_is⟩ (.cons ⟨_, rfl, by k_is⟩ (.cons ⟨_, rfl, by k_is⟩ (.cons ⟨_, rfl, by k_is⟩ (.cons ⟨_, rfl, by k_is⟩ (.cons ⟨_, rfl, by k_is⟩ (.cons ⟨_, rfl, by k_is⟩ (.cons ⟨_, rfl, by k_is⟩ (.cons ⟨_, rfl, by k_is⟩ (.cons ⟨_, rfl, by k_is⟩ (.cons ⟨_, rfl, by k_is⟩ (.cons ⟨_, rfl, by k_is⟩ (.cons ⟨_, rfl, by k_is⟩ (.cons ⟨_, rfl, by k_is⟩ (.cons ⟨_, rfl, by k_is⟩ (.cons ⟨_, rfl, by k_is⟩ .nil)))))))))))))))))))))))))))))))))
          t_CHANNEL_LIST := Fb.tup_mk KX G (by k_is) (by k_is) (by exact (.cons ⟨_, rfl, by k_is⟩ (.cons ⟨_, rfl, by k_is⟩ (.cons ⟨_, rfl, by k_is⟩ (.cons ⟨_, rfl, by k_is⟩ (.cons ⟨_, rfl, by k_is⟩ (.cons ⟨_, rfl, by k_is⟩ (.cons ⟨_, rfl, by k_is⟩ (.cons ⟨_, rfl, by k_is⟩ .nil)))))))))
          k_ASKED_BY := Fb.kd_mk KX G (by k_is) (by decide) (by k_is) (by exact (.cons ⟨⟨22, rfl, by decide +kernel, _, rfl⟩, ⟨_, rfl⟩⟩ (.cons ⟨⟨23, rfl, by decide +kernel, _, rfl⟩, ⟨_, rfl⟩⟩ (.cons ⟨⟨24, rfl, by decide +kernel, _, rfl⟩, ⟨_, rfl⟩⟩ .nil)))) (by decide +kernel)
          k_CALLS := Fb.calls_mk KX G (by k_is) (by k_is) (by k_is) (by k_is) (by k_is) (by k_is) (by k_is) (by k_is) (by k_is) (by k_is) (by decide) (by k_is) (by exact (.cons ⟨⟨1, rfl, by decide +kernel, _, rfl⟩, rfl⟩ (.cons ⟨⟨2, rfl, by decide +kernel, _, rfl⟩, rfl⟩ (.cons ⟨⟨3, rfl, by decide +kernel, _, rfl⟩, rfl⟩ (.cons ⟨⟨4, rfl, by decide +kernel, _, rfl⟩, rfl⟩ (.cons ⟨⟨5, rfl, by decide +kernel, _, rfl⟩, rfl⟩ (.cons ⟨⟨6, rfl, by decide +kernel, _, rfl⟩, rfl⟩ (.cons ⟨⟨7, rfl, by decide +kernel, _, rfl⟩, rfl⟩ (.cons ⟨⟨8, rfl, by decide +kernel, _, rfl⟩, rfl⟩ (.cons ⟨⟨9, rfl, by decide +kernel, _, rfl⟩, rfl⟩ .nil))))))))))
          b_int := PySem.W.mg_none_of KX G (by k_is)
          b_abs := PySem.W.mg_none_of KX G (by k_is)
          b_len := PySem.W.mg_none_of KX G (by k_is)
          b_range := PySem.W.mg_none_of KX G (by k_is)
          b_enumerate := PySem.W.mg_none_of KX G (by k_is)
        }
    obtain ⟨C, R, T⟩ := T
    exact (Fb.has_answers T).cal hmg
#print axioms PySem.Challenge.cw_fifteenbits_s01_answers_holds
