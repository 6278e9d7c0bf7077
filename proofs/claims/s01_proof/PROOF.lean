import PyProof.Rows.All
import Wide.All
import OpenK.AllK
import Wide.FinOn
import PyProof.EqAt
import PyProof.EqKinds
import PyProof.TupleCall
import KE.BitLaws
import Open.SpecLaws
import KE.OsHead
import KE.OsGo
import PySem.Challenge.RW_whynone_s01_answers
set_option Elab.async false
set_option linter.all false
set_option Elab.async false
set_option linter.all false
set_option maxRecDepth 100000
namespace L2
open PySem PySem.Spec PyProof.Rows
abbrev Key := Sum Int Str
def keyIs : Key → Value → Bool
  | .inl k, v => Value.isInt k v
  | .inr x, v => Value.isStrOf x v
def keyH (w : World) : Key → Int
  | .inl k => hashInt k
  | .inr x => hashStr w x
theorem keyIs_shape : ∀ {k : Key} {v : Value}, keyIs k v = true → (∃ i t, k = Sum.inl i ∧ v = Value.int i t) ∨ (∃ x t, k = Sum.inr x ∧ v = Value.str x t)
  | .inl i, v, h => by
    obtain ⟨t, e⟩ := Value.isInt_shape (k := i) (v := v) h
    exact .inl ⟨i, t, rfl, e⟩
  | .inr x, v, h => by
    obtain ⟨t, e⟩ := Value.isStrOf_shape (x := x) (v := v) h
    exact .inr ⟨x, t, rfl, e⟩
theorem keyIs_int (i : Int) (t : Tok) : keyIs (.inl i) (.int i t) = true := by simp [keyIs, Value.isInt]
theorem keyIs_str (x : Str) (t : Tok) : keyIs (.inr x) (.str x t) = true := by simp [keyIs, Value.isStrOf]
theorem key_ll (a b : Int) : decide ((Sum.inl a : Key) = Sum.inl b) = (a == b) := by
  by_cases e : a = b
  · subst e; simp
  · have h : ¬ (Sum.inl a : Key) = Sum.inl b := fun q => e (Sum.inl.inj q)
    rw [decide_eq_false h]
    exact (beq_eq_false_iff_ne.mpr e).symm
theorem key_rr (a b : Str) : decide ((Sum.inr a : Key) = Sum.inr b) = decide (a = b) := by
  by_cases e : a = b
  · subst e; simp
  · have h : ¬ (Sum.inr a : Key) = Sum.inr b := fun q => e (Sum.inr.inj q)
    rw [decide_eq_false h, decide_eq_false e]
theorem key_lr (a : Int) (b : Str) : decide ((Sum.inl a : Key) = Sum.inr b) = false := decide_eq_false (fun q => nomatch q)
theorem key_rl (a : Str) (b : Int) : decide ((Sum.inr a : Key) = Sum.inl b) = false := decide_eq_false (fun q => nomatch q)
def mixKind (prog : Program) (w : World) : PySem.KeyKind prog w Key where
  is := keyIs
  hash := keyH w
  inj := fun v a b ha hb => by
    rcases keyIs_shape ha with ⟨i, t, rfl, rfl⟩ | ⟨x, t, rfl, rfl⟩
    · rcases keyIs_shape hb with ⟨j, u, rfl, e⟩ | ⟨y, u, rfl, e⟩
      · injection e with e1 _; rw [e1]
      · exact nomatch e
    · rcases keyIs_shape hb with ⟨j, u, rfl, e⟩ | ⟨y, u, rfl, e⟩
      · exact nomatch e
      · injection e with e1 _; rw [e1]
  byValue := fun k v h => by
    rcases keyIs_shape h with ⟨i, t, rfl, rfl⟩ | ⟨x, t, rfl, rfl⟩ <;> rfl
  pyHash := fun hv h => by
    rcases keyIs_shape hv with ⟨i, t, rfl, rfl⟩ | ⟨x, t, rfl, rfl⟩
    · exact wpAny_pyHash_int h
    · exact wpAny_pyHash_str h
  eqBool := fun hu hv h => by
    rcases keyIs_shape hu with ⟨i, t, rfl, rfl⟩ | ⟨x, t, rfl, rfl⟩
    · rcases keyIs_shape hv with ⟨j, u, rfl, rfl⟩ | ⟨y, u, rfl, rfl⟩
      · rw [key_ll] at h; exact wpAny_eqBool_int h
      · rw [key_lr] at h; exact SeqAt.EqAt.int_str i t y u _ _ _ _ h
    · rcases keyIs_shape hv with ⟨j, u, rfl, rfl⟩ | ⟨y, u, rfl, rfl⟩
      · rw [key_rl] at h; exact SeqAt.EqAt.str_int x t j u _ _ _ _ h
      · rw [key_rr] at h; exact wpAny_eqBool_str h
  «strs» := fun k x t v h => by
    rcases keyIs_shape h with ⟨i, u, rfl, e⟩ | ⟨y, u, rfl, e⟩
    · exact nomatch e
    · injection e with e1 _
      subst e1
      cases v <;> rfl
theorem mixKind_int (prog : Program) (w : World) (i : Int) (t : Tok) : (mixKind prog w).is (.inl i) (.int i t) = true := keyIs_int i t
theorem mixKind_str (prog : Program) (w : World) (x : Str) (t : Tok) : (mixKind prog w).is (.inr x) (.str x t) = true := keyIs_str x t
end L2
namespace L2
open PySem PySem.Spec PyProof.Rows
inductive V where
  | non | bl (b : Bool) | int (i : Int) | str (x : Str) | byt (b : Array UInt8) | flt (b : UInt64) | ref (a : Addr) | ty (n : String)
  deriving DecidableEq
def RelV : V → Value → Prop
  | .non, u => u = Value.none
  | .bl b, u => u = Value.bool b
  | .int i, u => ∃ t, u = Value.int i t
  | .str x, u => ∃ t, u = Value.str x t
  | .byt b, u => ∃ t, u = Value.bytes b t
  | .flt b, u => ∃ t, u = Value.float b t
  | .ref a, u => u = Value.ref a
  | .ty n, u => u = Value.type n
abbrev Vals : List V → List Value → Prop := Paired RelV
theorem Vals.length {xs : List V} {us : List Value} (r : Vals xs us) : xs.length = us.length := Paired.length r
theorem Vals.get : ∀ {xs : List V} {us : List Value} {i : Nat} {x : V}, Vals xs us → xs[i]? = some x → ∃ u, us[i]? = some u ∧ RelV x u
  | _, _, _, _, .nil, e => by simp at e
  | _, _, 0, _, .cons r _, e => by simp at e; subst e; exact ⟨_, rfl, r⟩
  | _, _, i + 1, x, .cons _ t, e => by
    obtain ⟨u, h1, h2⟩ := Vals.get (i := i) (x := x) t (by simpa using e)
    exact ⟨u, by simpa using h1, h2⟩
theorem Vals.set {x : V} {u : Value} (r : RelV x u) : ∀ {xs : List V} {us : List Value} (i : Nat), Vals xs us → Vals (xs.set i x) (us.set i u)
  | _, _, _, .nil => .nil
  | _, _, 0, .cons _ t => .cons r t
  | _, _, i + 1, .cons q t => .cons q (Vals.set r i t)
theorem Vals.append : ∀ {xs ys : List V} {us ws : List Value}, Vals xs us → Vals ys ws → Vals (xs ++ ys) (us ++ ws)
  | _, _, _, _, .nil, s => s
  | _, _, _, _, .cons r t, s => .cons r (Vals.append t s)
theorem Vals.take : ∀ {xs : List V} {us : List Value} (n : Nat), Vals xs us → Vals (xs.take n) (us.take n)
  | _, _, 0, _ => .nil
  | _, _, _ + 1, .nil => .nil
  | _, _, n + 1, .cons r t => .cons r (Vals.take n t)
theorem Vals.drop : ∀ {xs : List V} {us : List Value} (n : Nat), Vals xs us → Vals (xs.drop n) (us.drop n)
  | _, _, 0, r => r
  | _, _, _ + 1, .nil => .nil
  | _, _, n + 1, .cons _ t => Vals.drop n t
theorem Vals.none_of : ∀ {xs : List V} {us : List Value} {i : Nat}, Vals xs us → xs[i]? = none → us[i]? = none := fun {xs us i} r e => by
  have h1 := r.length
  have h2 : xs.length ≤ i := List.getElem?_eq_none_iff.mp e
  exact List.getElem?_eq_none_iff.mpr (by omega)
def RelO : Option V → Option Value → Prop
  | some v, some u => RelV v u
  | none, none => True
  | _, _ => False
def KV {κ : Type} : List (κ × V) → List (κ × Value) → Prop := Paired fun (p : κ × V) (q : κ × Value) => p.1 = q.1 ∧ RelV p.2 q.2
def kV : Key → V
  | .inl i => .int i
  | .inr x => .str x
inductive HO where
  /-- a list -/
  | lst (xs : List V)
  /-- a tuple (never changes) -/
  | tup (xs : List V)
  /-- a dict whose keys are ints and texts; one whose keys are tuples of ints and texts (the empty one is both) -/
  | dK (kvs : List (Key × V)) | dT (kvs : List (List Key × V))
  /-- a set of ints: its members, its size -/
  | set (S : Int → Bool) (n : Nat)
  /-- an instance of the class at C, its dict at dx, its attributes -/
  | ins (C dx : Addr) (fs : List (Str × V))
  /-- the dict of the instance at x -/
  | own (x : Addr)
  /-- the dict of an exception -/
  | xd (fs : List (Str × V))
  /-- a bound method, f of x -/
  | met (f x : Addr)
  /-- a range object lo, lo + 1, .. below hi -/
  | rng (lo hi : Int)
  /-- a thing that is known to the object (the script; a dict while a loop walks it): read, never written while it is so -/
  | frz (o : Obj) (u : HO)
  /-- a code object's table -/
  | tbl (ps : Array Value)
  /-- any other thing, by what is true of its one object (a def of one's own: SetO a S n := HO.ext fun h => ..) -/
  | ext (φ : Heap → Prop)
abbrev Hp := Addr → Option HO
def upd (H : Hp) (a : Addr) (o : HO) : Hp := fun b => if b = a then some o else H b
theorem upd_same {H : Hp} {a : Addr} {o : HO} : upd H a o a = some o := by unfold upd; rw [if_pos rfl]
theorem upd_ne {H : Hp} {a b : Addr} {o : HO} (h : b ≠ a) : upd H a o b = H b := by unfold upd; rw [if_neg h]
theorem ne_of {H : Hp} {a b : Addr} {o u : HO} (h : H a = some o) (h' : H b = some u) (d : o ≠ u) : a ≠ b := by
  intro e; subst e; rw [h] at h'; exact d (Option.some.inj h')
theorem ne_of_none {H : Hp} {a b : Addr} {o : HO} (h : H a = some o) (h' : H b = none) : a ≠ b := by
  intro e; subst e; rw [h] at h'; cases h'
section
variable (P : Program) (w : World)
def ObjOk (H : Hp) (h : Heap) (a : Addr) : HO → Prop
  | .lst xs => xs.length ≤ sizeLine ∧ ∃ (its : List Value) (n : Nat), Vals xs its ∧ h.get? a = some { cls := .type "list", data := .seq its.toArray n }
  | .tup xs => xs.length ≤ sizeLine ∧ ∃ its : List Value, Vals xs its ∧ IsTup h a its.toArray
  | .dK kvs => kvs.length ≤ sizeLine ∧ (a == sysModules) = false ∧ ∃ vs, KV kvs vs ∧ h.DictOf (mixKind P w) a vs
  | .dT kvs => kvs.length ≤ sizeLine ∧ (a == sysModules) = false ∧ ∃ xs : List (List Key × Addr × Value),
      Paired (fun (p : List Key × V) (q : List Key × Addr × Value) => p.1 = q.1 ∧ H q.2.1 = some (.tup (p.1.map kV)) ∧ RelV p.2 q.2.2) kvs xs ∧
      ∃ o es ep, h.get? a = some o ∧ o.ExactDict ∧ o.data = .dict es ep ∧ es.toList = xs.map (entryOfKey (tupleKind (mixKind P w))) ∧ (xs.map (·.1)).Nodup
  | .set S n => h.SetOf (intKind P w) a S n
  | .ins C dx fs => H dx = some (.own a) ∧ fs.length ≤ 1000 ∧ dx ≠ a ∧ h.get? a = some (PySem.W.instObj C dx) ∧
      ∃ mA, h.Ns1 dx mA ∧ (∀ f, RelO (fs.lookup f) (mA f)) ∧ PySem.Within mA (fs.map (·.1))
  | .own _ => ∃ o, h.get? a = some o
  | .xd fs => ∃ mA, h.Ns1 a mA ∧ ∀ f, RelO (fs.lookup f) (mA f)
  | .rng lo hi => ∃ t u v, h.get? a = some { cls := .type "range", data := .fields #[.int lo t, .int hi u, .int 1 v] }
  | .frz o u => h.get? a = some o ∧ ObjOk H h a u
  | .tbl ps => h.get? a = some { cls := .none, data := .fields ps }
  | .met f x => h.get? a = some (PySem.W.methodObj (.ref f) (.ref x))
  | .ext φ => φ h ∧ (∃ o, h.get? a = some o) ∧ ∀ h1 h2 : Heap, φ h1 → (∀ o, h1.get? a = some o → h2.get? a = some o) → φ h2
def HOk (H : Hp) (h : Heap) : Prop := ∀ a o, H a = some o → ObjOk P w H h a o
end
section
variable {P : Program} {w : World} {H H' : Hp} {h h' : Heap} {a : Addr} {o : HO}
theorem ObjOk.lt (x : ObjOk P w H h a o) : a < h.objs.size := by
  cases o with
  | lst xs => obtain ⟨_, _, _, _, e⟩ := x; exact Heap.lt_size e
  | tup xs => obtain ⟨_, _, _, p⟩ := x; exact p.lt
  | dK kvs => obtain ⟨_, _, _, _, o, _, _, e, _⟩ := x; exact Heap.lt_size e
  | dT kvs => obtain ⟨_, _, _, _, o, _, _, e, _⟩ := x; exact Heap.lt_size e
  | set S n => obtain ⟨o, _, _, _, e, _⟩ := x; exact Heap.lt_size e
  | ins C dx fs => obtain ⟨_, _, _, e, _⟩ := x; exact Heap.lt_size e
  | own y => obtain ⟨_, e⟩ := x; exact Heap.lt_size e
  | xd fs => obtain ⟨_, ⟨_, _, _, e, _⟩, _⟩ := x; exact Heap.lt_size e
  | rng lo hi => obtain ⟨_, _, _, e⟩ := x; exact Heap.lt_size e
  | frz ob u => obtain ⟨e, _⟩ := x; exact Heap.lt_size e
  | tbl ps => exact Heap.lt_size (show h.get? a = some _ from x)
  | met f y => exact Heap.lt_size (show h.get? a = some _ from x)
  | ext φ => obtain ⟨_, ⟨_, e⟩, _⟩ := x; exact Heap.lt_size e
theorem Paired.mapP {α β : Type} {F G : α → β → Prop} : ∀ {l₁ : List α} {l₂ : List β}, Paired F l₁ l₂ → (∀ a b, F a b → G a b) → Paired G l₁ l₂
  | _, _, .nil, _ => .nil
  | _, _, .cons r t, f => .cons (f _ _ r) (Paired.mapP t f)
theorem Paired.imp' {α β : Type} {F G : α → β → Prop} (f : ∀ a b, F a b → G a b) {l₁ : List α} {l₂ : List β} (r : Paired F l₁ l₂) : Paired G l₁ l₂ := Paired.mapP r f
theorem ObjOk.stay (x : ObjOk P w H h a o) (k : ∀ b u, (b = a ∨ H b = some (.own a)) → h.get? b = some u → h'.get? b = some u)
    (ho : ∀ b, H b = some (.own a) → H' b = some (.own a)) (ht : ∀ b xs, H b = some (.tup xs) → H' b = some (.tup xs)) : ObjOk P w H' h' a o := by
  induction o with
  | lst xs => obtain ⟨z, its, n, r, e⟩ := x; exact ⟨z, its, n, r, k _ _ (.inl rfl) e⟩
  | tup xs => obtain ⟨z, its, r, ob, e, c⟩ := x; exact ⟨z, its, r, ob, k _ _ (.inl rfl) e, c⟩
  | dK kvs => obtain ⟨z, y, vs, r, ob, es, ep, e, c⟩ := x; exact ⟨z, y, vs, r, ob, es, ep, k _ _ (.inl rfl) e, c⟩
  | dT kvs =>
    obtain ⟨z, y, xs, r, ob, es, ep, e, c⟩ := x
    exact ⟨z, y, xs, Paired.mapP r fun p q z => ⟨z.1, ht _ _ z.2.1, z.2.2⟩, ob, es, ep, k _ _ (.inl rfl) e, c⟩
  | set S n => obtain ⟨ob, es, ep, t, e, c⟩ := x; exact ⟨ob, es, ep, t, k _ _ (.inl rfl) e, c⟩
  | ins C dx fs =>
    obtain ⟨d, z, ne, e, mA, ⟨od, es, ep, e2, c⟩, r⟩ := x
    exact ⟨ho _ d, z, ne, k _ _ (.inl rfl) e, mA, ⟨od, es, ep, k _ _ (.inr d) e2, c⟩, r⟩
  | own y => obtain ⟨ob, e⟩ := x; exact ⟨ob, k _ _ (.inl rfl) e⟩
  | xd fs => obtain ⟨mA, ⟨od, es, ep, e, c⟩, r⟩ := x; exact ⟨mA, ⟨od, es, ep, k _ _ (.inl rfl) e, c⟩, r⟩
  | rng lo hi => obtain ⟨t, u, v, e⟩ := x; exact ⟨t, u, v, k _ _ (.inl rfl) e⟩
  | frz ob u ih => obtain ⟨e, q⟩ := x; exact ⟨k _ _ (.inl rfl) e, ih q⟩
  | tbl ps =>
    have e : h.get? a = some { cls := .none, data := .fields ps } := x
    show h'.get? a = some { cls := .none, data := .fields ps }
    exact k a _ (.inl rfl) e
  | met f y =>
    have e : h.get? a = some (PySem.W.methodObj (.ref f) (.ref y)) := x
    show h'.get? a = some (PySem.W.methodObj (.ref f) (.ref y))
    exact k a _ (.inl rfl) e
  | ext φ => obtain ⟨p, ⟨o, e⟩, st⟩ := x; exact ⟨st _ _ p fun o q => k _ _ (.inl rfl) q, ⟨o, k _ _ (.inl rfl) e⟩, st⟩
theorem HOk.lt (x : HOk P w H h) (e : H a = some o) : a < h.objs.size := (x a o e).lt
theorem HOk.fresh (x : HOk P w H h) (e : h.objs.size ≤ a) : H a = none := by
  cases q : H a with
  | none => rfl
  | some u => exact absurd (Nat.lt_of_lt_of_le (x.lt q) e) (Nat.lt_irrefl _)
theorem HOk.kept (x : HOk P w H h) (k : ∀ b u, h.get? b = some u → h'.get? b = some u) : HOk P w H h' := fun a o e =>
  (x a o e).stay (fun b u _ q => k b u q) (fun _ q => q) fun _ _ q => q
theorem HOk.laid (x : HOk P w H h) (k : ∀ b u, h.get? b = some u → h'.get? b = some u) (hp : h.objs.size ≤ a) (new : ObjOk P w (upd H a o) h' a o) : HOk P w (upd H a o) h' := fun b u e => by
  have hn := x.fresh hp
  by_cases hb : b = a
  · subst hb; rw [upd_same] at e; cases e; exact new
  · rw [upd_ne hb] at e
    exact (x b u e).stay (fun c v _ q => k c v q) (fun c q => by rw [upd_ne (ne_of_none q hn)]; exact q) fun c xs q => by rw [upd_ne (ne_of_none q hn)]; exact q
end
def Rd (H : Hp) (a : Addr) (u : HO) : Prop := H a = some u ∨ ∃ o, H a = some (.frz o u)
theorem Rd.of {H : Hp} {a : Addr} {u : HO} (h : H a = some u) : Rd H a u := .inl h
theorem Rd.ok {P : Program} {w : World} {H : Hp} {h : Heap} {a : Addr} {u : HO} (r : Rd H a u) (x : HOk P w H h) : ObjOk P w H h a u := by
  rcases r with r | ⟨o, r⟩
  · exact x a u r
  · obtain ⟨_, q⟩ := x a _ r
    exact q
def Mut : Option HO → Prop
  | some (.lst _) => True
  | some (.dK _) => True
  | some (.dT _) => True
  | some (.set _ _) => True
  | some (.ins _ _ _) => True
  | some (.ext _) => True
  | _ => False
section
variable {P : Program} {w : World} {H : Hp} {h h' : Heap} {x e : Addr} {o' : HO}
theorem HOk.write (ok : HOk P w H h) (mu : Mut (H x)) (he : e = x ∨ H e = some (.own x)) (k : ∀ b u, b ≠ e → h.get? b = some u → h'.get? b = some u) (heo : ∃ u, h'.get? e = some u)
    (new : ObjOk P w (upd H x o') h' x o') : HOk P w (upd H x o') h' := fun b u q => by
  have nown : ∀ c y, H c = some (.own y) → c ≠ x := fun c y r z => by subst z; rw [r] at mu; exact mu
  have ntup : ∀ c xs, H c = some (.tup xs) → c ≠ x := fun c xs r z => by subst z; rw [r] at mu; exact mu
  by_cases hb : b = x
  · subst hb; rw [upd_same] at q; cases q; exact new
  · rw [upd_ne hb] at q
    by_cases hbe : b = e
    · have q' : H b = some (.own x) := by
        rcases he with z | z
        · exact absurd (hbe.trans z) hb
        · rw [hbe]; exact z
      rw [q] at q'; cases q'
      obtain ⟨v, hv⟩ := heo
      exact ⟨v, by rw [hbe]; exact hv⟩
    · refine (ok b u q).stay (fun c v hc r => k c v ?_ r) (fun c r => by rw [upd_ne (nown c b r)]; exact r) fun c xs r => by rw [upd_ne (ntup c xs r)]; exact r
      rcases hc with rfl | hc
      · exact hbe
      · rintro rfl
        rcases he with z | z
        · exact nown c b hc z
        · rw [hc] at z; cases z; exact hb rfl
end
structure Un (fs ex : List Addr) (H H' : Hp) (h h' : Heap) : Prop where
  keep : ∀ b o, h.get? b = some o → H b = none → b ∉ fs → b ∉ ex → h'.get? b = some o
  slot : ∀ b o, h.get? b = some o → H b = none → b ∈ fs → b ∉ ex → ∃ sl, h'.get? b = some { o with slots := sl }
  free : ∀ b o, h.get? b = some o → H b = none → b ∉ ex → H' b = none
  there : ∀ b o, h.get? b = some o → b ∉ ex → ∃ o', h'.get? b = some o'
  tups : ∀ b xs, H b = some (.tup xs) → H' b = some (.tup xs)
  frzs : ∀ b o u, H b = some (.frz o u) → H' b = some (.frz o u)
  tbls : ∀ b ps, H b = some (.tbl ps) → ∃ more, H' b = some (.tbl (ps ++ more))
section
variable {fs fs' ex ex' : List Addr} {H H1 H2 : Hp} {h h1 h2 h' : Heap} {a x e : Addr} {o : HO}
theorem Un.any (u : Un fs ex H H1 h h1) {b : Addr} {ob : Obj} (q : h.get? b = some ob) (n : H b = none) (hx : b ∉ ex) : ∃ sl, h1.get? b = some { ob with slots := sl } := by
  by_cases hb : b ∈ fs
  · exact u.slot b ob q n hb hx
  · exact ⟨ob.slots, u.keep b ob q n hb hx⟩
theorem Un.trans (a : Un fs ex H H1 h h1) (b : Un fs ex H1 H2 h1 h2) : Un fs ex H H2 h h2 where
  keep := fun c ob q n hc hx => b.keep c ob (a.keep c ob q n hc hx) (a.free c ob q n hx) hc hx
  slot := fun c ob q n hc hx => by
    obtain ⟨sl, e1⟩ := a.slot c ob q n hc hx
    obtain ⟨sl', e2⟩ := b.slot c _ e1 (a.free c ob q n hx) hc hx
    exact ⟨sl', e2⟩
  free := fun c ob q n hx => by
    obtain ⟨o', e1⟩ := a.there c ob q hx
    exact b.free c o' e1 (a.free c ob q n hx) hx
  there := fun c ob q hx => by
    obtain ⟨o', e1⟩ := a.there c ob q hx
    exact b.there c o' e1 hx
  tups := fun c xs q => b.tups c xs (a.tups c xs q)
  frzs := fun c ob xs q => b.frzs c ob xs (a.frzs c ob xs q)
  tbls := fun c ps q => by
    obtain ⟨m1, e1⟩ := a.tbls c ps q
    obtain ⟨m2, e2⟩ := b.tbls c _ e1
    exact ⟨m1 ++ m2, by rw [e2, Array.append_assoc]⟩
theorem Un.kept (k : ∀ b u, h.get? b = some u → h'.get? b = some u) : Un fs ex H H h h' :=
  ⟨fun b ob q _ _ _ => k b ob q, fun b ob q _ _ _ => ⟨ob.slots, k b ob q⟩, fun _ _ _ n _ => n, fun b ob q _ => ⟨ob, k b ob q⟩, fun _ _ q => q, fun _ _ _ q => q, fun _ ps q => ⟨#[], by rw [q]; simp⟩⟩
theorem Un.refl : Un fs ex H H h h := Un.kept fun _ _ q => q
theorem Un.laid (k : ∀ b u, h.get? b = some u → h'.get? b = some u) (hp : h.objs.size ≤ a) (hn : H a = none) : Un fs ex H (upd H a o) h h' where
  keep := fun b u q _ _ _ => k b u q
  slot := fun b u q _ _ _ => ⟨u.slots, k b u q⟩
  free := fun b u q n _ => by rw [upd_ne (Nat.ne_of_lt (Nat.lt_of_lt_of_le (Heap.lt_size q) hp))]; exact n
  there := fun b u q _ => ⟨u, k b u q⟩
  tups := fun b xs q => by rw [upd_ne (ne_of_none q hn)]; exact q
  frzs := fun b u xs q => by rw [upd_ne (ne_of_none q hn)]; exact q
  tbls := fun b ps q => ⟨#[], by rw [upd_ne (ne_of_none q hn), q]; simp⟩
theorem Un.write (mu : Mut (H x)) (he : e = x ∨ H e = some (.own x)) (k : ∀ b u, b ≠ e → h.get? b = some u → h'.get? b = some u) (heo : ∃ u, h'.get? e = some u) : Un fs ex H (upd H x o) h h' := by
  have hx : ∀ b, H b = none → b ≠ x := fun b n z => by subst z; rw [n] at mu; exact mu
  have hb : ∀ b, H b = none → b ≠ e := fun b n z => by
    subst z
    rcases he with r | r
    · exact hx b n r
    · rw [n] at r; cases r
  have hm : ∀ b u, H b = some u → ¬ Mut (some u) → b ≠ x := fun b u q nm z => by subst z; rw [q] at mu; exact nm mu
  refine ⟨fun b u q n _ _ => k b u (hb b n) q, fun b u q n _ _ => ⟨u.slots, k b u (hb b n) q⟩, fun b u q n _ => by rw [upd_ne (hx b n)]; exact n, fun b u q _ => ?_,
    fun b xs q => by rw [upd_ne (hm b _ q fun z => z)]; exact q, fun b u xs q => by rw [upd_ne (hm b _ q fun z => z)]; exact q, fun b ps q => ⟨#[], by rw [upd_ne (hm b _ q fun z => z), q]; simp⟩⟩
  by_cases hbe : b = e
  · subst hbe; exact heo
  · exact ⟨u, k b u hbe q⟩
theorem Un.mono (u : Un fs ex H H1 h h1) (hs : ∀ b ∈ fs, b ∈ fs') (hx : ∀ b ∈ ex, b ∈ ex') : Un fs' ex' H H1 h h1 :=
  ⟨fun b ob q n hb he => u.keep b ob q n (fun z => hb (hs b z)) fun z => he (hx b z), fun _ _ q n _ he => u.any q n fun z => he (hx _ z), fun b ob q n he => u.free b ob q n fun z => he (hx b z), fun b ob q he => u.there b ob q fun z => he (hx b z), u.tups, u.frzs, u.tbls⟩
end
def trk (h : Heap) (H : Hp) : List Addr := (List.range h.objs.size).filter fun a => (H a).isSome
def hidT (h : Heap) (H : Hp) : Heap := PySem.W.hideAll h (trk h H)
theorem hidT_size (h : Heap) (H : Hp) : (hidT h H).objs.size = h.objs.size := PySem.W.hideAll_size _ _
theorem hidT_get {h : Heap} {H : Hp} {b : Addr} {o : Obj} (e : h.get? b = some o) (n : H b = none) : (hidT h H).get? b = some o :=
  PySem.W.hideAll_get _ e fun hm => by
    have q : (H b).isSome = true := (List.mem_filter.mp hm).2
    rw [n] at q; simp at q
theorem of_hidT {h : Heap} {H : Hp} {b : Addr} {o : Obj} (e : (hidT h H).get? b = some o) : h.get? b = some o ∧ H b = none := by
  have e' : h.get? b = some o := PySem.W.of_hideAll (trk h H) e
  refine ⟨e', ?_⟩
  cases q : H b with
  | none => rfl
  | some x =>
    have hm : b ∈ trk h H := List.mem_filter.mpr ⟨List.mem_range.mpr (Heap.lt_size e'), by simp [q]⟩
    have z : (hidT h H).get? b = none := PySem.W.hideAll_none (trk h H) hm
    rw [z] at e; cases e
def allNews (g h : Heap) (L : Addr) : List (Addr × Obj) := (List.range h.objs.size).filterMap fun a => if a = L ∨ (g.get? a).isSome = true then none else (h.get? a).map fun o => (a, o)
def rest (g h : Heap) (L d : Addr) : List (Addr × Obj) := (allNews g h L).filter fun p => decide (p.1 ≠ d)
end L2
namespace L2
open PySem PySem.Spec PyProof.Rows
structure Mod (K : PySem.W.Frag) (mg : Str → Option Value) (base : Heap) : Prop where
  kin : K.In base
  glob : base.Ns mainGlobals mg
  blt : ∃ mb, base.Ns builtinsNs mb ∧ ∀ x : Str, x ≠ "__name__" → mb x = bootBuiltins x
  nolimit : base.NoLimit
structure Cx where
  prog : Program
  w : World
  K : PySem.W.Frag
  mg : Str → Option Value
  base : Heap
  A : Around
  N : List Str
  s_0 : Shared
  H_0 : Hp
  env : Env
  outer : List Env
  stack : List Env
  ex : List Addr
  fn : Str → Bool
  calm : Bool
  pn : List (Addr × Obj)
  xe : Value → Shared → Prop
def frs (l : List Env) : List Addr := l.filterMap (·.frame)
abbrev Cx.fs (X : Cx) : List Addr := frs X.outer
def Vis (sc : Scope) (x : Str) : Prop := sc.names.lookup x = some .local ∨ sc.names.lookup x = some .cell ∨ sc.names.lookup x = some .free
def Loc (sc : Scope) (x : Str) : Prop := sc.names.lookup x = some .local ∨ sc.names.lookup x = some .cell
def Look (env : Env) (h : Heap) (m : Str → Option Value) (x : Str) (u : Value) : Prop :=
  (env.kindOf x = some .local ∧ m x = some u) ∨ ((env.kindOf x = some .cell ∨ env.kindOf x = some .free) ∧ ∃ c, env.cells.lookup x = some c ∧ h.IsCell c (some u))
structure Cx.Ok (X : Cx) : Prop where
  mod : Mod X.K X.mg X.base
  kind : X.env.scope.kind = .function
  glob : X.env.globals = mainGlobals
  blt : X.env.builtins = builtinsNs
  above : X.s_0.heap.objs.size ≤ X.env.locals
  inj : ∀ x y c, X.env.cells.lookup x = some c → X.env.cells.lookup y = some c → x = y
  has : ∀ x, (X.env.kindOf x = some .cell ∨ X.env.kindOf x = some .free) → ∃ c, X.env.cells.lookup x = some c
  cab : ∀ x c, X.fn x = true → X.env.cells.lookup x = some c → X.s_0.heap.objs.size ≤ c
  hd : X.calm = true → X.A.handled = none
  frames : X.A.frames = some X.stack
  stk : X.stack = X.outer ∨ (X.stack = X.env :: X.outer ∧ X.env.frame = some X.env.locals)
  exf : ∀ b ∈ X.ex, b ≠ X.env.locals ∧ ∀ x c, X.env.cells.lookup x = some c → c ≠ b
  bs : ∀ b o, X.base.get? b = some o → X.s_0.heap.get? b = some o ∧ X.H_0 b = none
  bsz : X.base.objs.size ≤ X.s_0.heap.objs.size
  noex : ∀ b o, X.base.get? b = some o → b ∉ X.ex
  exfs : ∀ b ∈ X.ex, b ∉ X.fs
  funs : X.s_0.heap.FunFrames X.base X.outer
  frf : ∀ b ∈ X.fs, X.H_0 b = none
structure Inv (X : Cx) (pins : List (Addr × Obj)) (σ : List (Option V)) (H : Hp) (s : Shared) : Prop where
  ok : X.Ok
  os : s.os = X.s_0.os
  bare : AllBare s.gens
  base : Un X.fs X.ex X.H_0 H X.s_0.heap s.heap
  loc : ∃ m, s.heap.Ns X.env.locals m ∧ ∀ (i : Nat) (x : Str) (v : V), X.N[i]? = some x → σ[i]? = some (some v) → Vis X.env.scope x → ∃ u, RelV v u ∧ Look X.env s.heap m x u
  cell : ∀ x c, X.env.cells.lookup x = some c → ∃ v, s.heap.IsCell c v
  free : H X.env.locals = none
  freeC : ∀ x c, X.env.cells.lookup x = some c → H c = none
  pin : ∀ p ∈ X.pn ++ pins, s.heap.get? p.1 = some p.2 ∧ H p.1 = none ∧ p.1 ≠ X.env.locals ∧ p.1 ∉ X.fs ∧ ∀ v, p.2.data ≠ .cell v
  hok : HOk X.prog X.w H s.heap
  len : σ.length = X.N.length
section
variable {X : Cx} {pins : List (Addr × Obj)} {σ : List (Option V)} {H H' : Hp} {s : Shared} {h' : Heap}
theorem Cx.Ok.nofr (ok : X.Ok) {b : Addr} {o : Obj} (e : X.base.get? b = some o) : b ∉ X.fs := fun hb => by
  have := (ok.funs.mem hb).1
  rw [e] at this; cases this
theorem Inv.bs (I : Inv X pins σ H s) : ∀ b o, X.base.get? b = some o → s.heap.get? b = some o ∧ H b = none := fun b o e =>
  ⟨I.base.keep b o (I.ok.bs b o e).1 (I.ok.bs b o e).2 (I.ok.nofr e) (I.ok.noex b o e), I.base.free b o (I.ok.bs b o e).1 (I.ok.bs b o e).2 (I.ok.noex b o e)⟩
theorem Inv.bk (I : Inv X pins σ H s) : ∀ b o, X.base.get? b = some o → s.heap.get? b = some o := fun b o e => (I.bs b o e).1
theorem Inv.mod (I : Inv X pins σ H s) : Mod X.K X.mg X.base := I.ok.mod
theorem Inv.kIn (I : Inv X pins σ H s) : X.K.In s.heap := I.ok.mod.kin.keeps I.bk
theorem Inv.nolimit (I : Inv X pins σ H s) : s.heap.NoLimit := I.ok.mod.nolimit.keeps I.bk
theorem Inv.lt (I : Inv X pins σ H s) : X.env.locals < s.heap.objs.size := let ⟨_, hn, _⟩ := I.loc; hn.lt
theorem Inv.sz (I : Inv X pins σ H s) : X.s_0.heap.objs.size ≤ s.heap.objs.size := Nat.le_trans I.ok.above (Nat.le_of_lt I.lt)
theorem Inv.nofs (I : Inv X pins σ H s) {a : Addr} (h : s.heap.objs.size ≤ a) : a ∉ X.fs := fun hb => by
  obtain ⟨_, o, ho, _⟩ := I.ok.funs.mem hb
  exact absurd (Nat.lt_of_lt_of_le (Heap.lt_size ho) (Nat.le_trans I.sz h)) (Nat.lt_irrefl _)
theorem Inv.cne (I : Inv X pins σ H s) : ∀ x c, X.env.cells.lookup x = some c → c ≠ X.env.locals := fun x c e z => by
  obtain ⟨v, o, ho, hd⟩ := I.cell x c e
  obtain ⟨m, ⟨o', es, ep, ho', hd', _⟩, _⟩ := I.loc
  rw [z, ho'] at ho; cases ho; rw [hd'] at hd; cases hd
theorem Inv.funs (I : Inv X pins σ H s) : s.heap.FunFrames X.base X.outer := by
  have all : ∀ (l : List Env), (∀ b ∈ frs l, b ∈ X.fs) → X.s_0.heap.FunFrames X.base l → s.heap.FunFrames X.base l := by
    intro l
    induction l with
    | nil => intro _ _; trivial
    | cons env r ih =>
      intro hs hl
      obtain ⟨hk, ⟨L, o, hf, hn, ho, hd⟩, hr⟩ := hl
      have hL : L ∈ X.fs := hs L (by unfold frs; rw [List.filterMap_cons, hf]; exact List.mem_cons_self)
      obtain ⟨sl, e⟩ := I.base.slot L o ho (I.ok.frf L hL) hL fun z => I.ok.exfs L z hL
      exact ⟨hk, ⟨L, _, hf, hn, e, hd⟩, ih (fun b hb => hs b (by unfold frs; rw [List.filterMap_cons, hf]; exact List.mem_cons_of_mem _ hb)) hr⟩
  exact all X.outer (fun _ hb => hb) I.ok.funs
theorem Inv.stack (I : Inv X pins σ H s) : s.heap.FunFrames X.base X.stack := by
  rcases I.ok.stk with e | ⟨e, hf⟩
  · rw [e]; exact I.funs
  · rw [e]
    obtain ⟨m, hn, _⟩ := I.loc
    refine .cons (by rw [I.ok.kind]; decide) hf hn ?_ I.funs
    exact Heap.get?_none_of_le (Nat.le_trans I.ok.bsz I.ok.above)
theorem Inv.stkSub (I : Inv X pins σ H s) : ∀ b ∈ frs X.stack, b ∈ X.env.locals :: X.fs := fun b hb => by
  rcases I.ok.stk with e | ⟨e, hf⟩
  · rw [e] at hb; exact List.mem_cons_of_mem _ hb
  · rw [e] at hb
    unfold frs at hb
    rw [List.filterMap_cons, hf] at hb
    exact hb
theorem Inv.stkFree (I : Inv X pins σ H s) : ∀ b ∈ frs X.stack, H b = none := fun b hb => by
  rcases List.mem_cons.mp (I.stkSub b hb) with e | hb
  · rw [e]; exact I.free
  · obtain ⟨_, o, ho, _⟩ := I.ok.funs.mem hb
    exact I.base.free b o ho (I.ok.frf b hb) fun z => I.ok.exfs b z hb
theorem Inv.step {g' : Array GenState} {t' : Nat} {d' : Drawn} {ch : List Addr} (I : Inv X pins σ H s)
    (hch : ∀ b ∈ ch, (b ∈ X.ex ∨ X.s_0.heap.objs.size ≤ b) ∧ b ≠ X.env.locals ∧ (∀ x c, X.env.cells.lookup x = some c → c ≠ b) ∧ ∀ p ∈ X.pn ++ pins, p.1 ≠ b)
    (keep : ∀ b o, b ≠ X.env.locals → b ∉ X.fs → b ∉ ch → s.heap.get? b = some o → H b = none → h'.get? b = some o)
    (slot : ∀ b o, b ≠ X.env.locals → b ∈ X.fs → b ∉ ch → s.heap.get? b = some o → H b = none → ∃ sl, h'.get? b = some { o with slots := sl }) (free : ∀ b o, b ∉ ch → s.heap.get? b = some o → H b = none → H' b = none)
    (there : ∀ b o, b ∉ ch → s.heap.get? b = some o → ∃ o', h'.get? b = some o')
    (tups : ∀ b xs, H b = some (.tup xs) → H' b = some (.tup xs)) (frzs : ∀ b o u, H b = some (.frz o u) → H' b = some (.frz o u)) (tbls : ∀ b ps, H b = some (.tbl ps) → ∃ more, H' b = some (.tbl (ps ++ more)))
    (ns : ∀ m, s.heap.Ns X.env.locals m → h'.Ns X.env.locals m) (hok : HOk X.prog X.w H' h') (hg : AllBare g') :
    Inv X pins σ H' { s with heap := h', gens := g', drawn := d', toks := t' } := by
  have neL : ∀ b o, X.s_0.heap.get? b = some o → b ≠ X.env.locals := fun b o e => Nat.ne_of_lt (Nat.lt_of_lt_of_le (Heap.lt_size e) I.ok.above)
  have neC : ∀ b o, X.s_0.heap.get? b = some o → b ∉ X.ex → b ∉ ch := fun b o e hx hb => by
    rcases (hch b hb).1 with z | z
    · exact hx z
    · exact absurd (Nat.lt_of_lt_of_le (Heap.lt_size e) z) (Nat.lt_irrefl _)
  have cellK : ∀ x c, X.env.cells.lookup x = some c → ∀ v, s.heap.IsCell c v → h'.IsCell c v := fun x c e v ⟨o, ho, hd⟩ => by
    have nch : c ∉ ch := fun z => (hch c z).2.2.1 x c e rfl
    by_cases hc : c ∈ X.fs
    · obtain ⟨sl, q⟩ := slot c o (I.cne x c e) hc nch ho (I.freeC x c e)
      exact ⟨_, q, hd⟩
    · exact ⟨o, keep c o (I.cne x c e) hc nch ho (I.freeC x c e), hd⟩
  refine ⟨I.ok, I.os, hg, ⟨fun b o e n hb hx => ?_, fun b o e n hb hx => ?_, fun b o e n hx => ?_, fun b o e hx => ?_, fun b xs e => tups b xs (I.base.tups b xs e), fun b o xs e => frzs b o xs (I.base.frzs b o xs e), fun b ps e => ?_⟩, ?_, fun x c e => ?_, ?_, fun x c e => ?_, fun p hp => ?_, hok, I.len⟩
  · exact keep b o (neL b o e) hb (neC b o e hx) (I.base.keep b o e n hb hx) (I.base.free b o e n hx)
  · obtain ⟨sl, e1⟩ := I.base.slot b o e n hb hx
    obtain ⟨sl', e2⟩ := slot b _ (neL b o e) hb (neC b o e hx) e1 (I.base.free b o e n hx)
    exact ⟨sl', e2⟩
  · obtain ⟨o', e1⟩ := I.base.there b o e hx
    exact free b o' (neC b o e hx) e1 (I.base.free b o e n hx)
  · obtain ⟨o', e1⟩ := I.base.there b o e hx
    exact there b o' (neC b o e hx) e1
  · obtain ⟨m1, e1⟩ := I.base.tbls b ps e
    obtain ⟨m2, e2⟩ := tbls b _ e1
    exact ⟨m1 ++ m2, by rw [e2, Array.append_assoc]⟩
  · obtain ⟨m, hn, hl⟩ := I.loc
    refine ⟨m, ns m hn, fun i x v e1 e2 e3 => ?_⟩
    obtain ⟨u, r, l⟩ := hl i x v e1 e2 e3
    refine ⟨u, r, ?_⟩
    rcases l with l | ⟨k, c, e, z⟩
    · exact .inl l
    · exact .inr ⟨k, c, e, cellK x c e _ z⟩
  · obtain ⟨v, z⟩ := I.cell x c e
    exact ⟨v, cellK x c e v z⟩
  · obtain ⟨m, ⟨o, _, _, ho, _⟩, _⟩ := I.loc
    exact free _ o (fun z => (hch _ z).2.1 rfl) ho I.free
  · obtain ⟨v, o, ho, hd⟩ := I.cell x c e
    exact free c o (fun z => (hch c z).2.2.1 x c e rfl) ho (I.freeC x c e)
  · obtain ⟨e, n, ne, nf, d⟩ := I.pin p hp
    have nch : p.1 ∉ ch := fun z => (hch p.1 z).2.2.2 p hp rfl
    exact ⟨keep p.1 p.2 ne nf nch e n, free p.1 p.2 nch e n, ne, nf, d⟩
theorem Inv.un {t' : Nat} (I : Inv X pins σ H s) (u : Un X.fs [] H H' s.heap h') (hok : HOk X.prog X.w H' h') : Inv X pins σ H' { s with heap := h', toks := t' } := by
  obtain ⟨m, ⟨o, es, ep, ho, r⟩, _⟩ := id I.loc
  obtain ⟨sl, hL⟩ := u.any ho I.free (by simp)
  exact I.step (g' := s.gens) (d' := s.drawn) (ch := []) (fun _ z => nomatch z) (fun b o _ hb _ e n => u.keep b o e n hb (by simp)) (fun b o _ hb _ e n => u.slot b o e n hb (by simp)) (fun b o _ e n => u.free b o e n (by simp)) (fun b o _ e => u.there b o e (by simp)) u.tups u.frzs u.tbls (fun m' hm => by
    obtain ⟨o', es', ep', ho', r'⟩ := hm
    rw [ho] at ho'; cases ho'
    exact ⟨_, es', ep', hL, r'⟩) hok I.bare
theorem Inv.call {g' : Array GenState} {t' : Nat} {d' : Drawn} {ch : List Addr} (I : Inv X pins σ H s) (u : Un (frs X.stack) ch H H' s.heap h') (hok : HOk X.prog X.w H' h') (hg : AllBare g')
    (hch : ∀ b ∈ ch, (b ∈ X.ex ∨ X.s_0.heap.objs.size ≤ b) ∧ b ≠ X.env.locals ∧ (∀ x c, X.env.cells.lookup x = some c → c ≠ b) ∧ ∀ p ∈ X.pn ++ pins, p.1 ≠ b) :
    Inv X pins σ H' { s with heap := h', gens := g', drawn := d', toks := t' } := by
  obtain ⟨m, ⟨o, es, ep, ho, r⟩, _⟩ := id I.loc
  obtain ⟨sl, hL⟩ := u.any ho I.free fun z => (hch _ z).2.1 rfl
  exact I.step (ch := ch) hch (fun b o hL hb hc e n => u.keep b o e n (fun z => (List.mem_cons.mp (I.stkSub b z)).elim hL hb) hc) (fun b o _ _ hc e n => u.any e n hc) (fun b o hc e n => u.free b o e n hc) (fun b o hc e => u.there b o e hc) u.tups u.frzs u.tbls (fun m' hm => by
    obtain ⟨o', es', ep', ho', r'⟩ := hm
    rw [ho] at ho'; cases ho'
    exact ⟨_, es', ep', hL, r'⟩) hok hg
theorem Inv.turned {t' : Nat} {it : Addr} (I : Inv X pins σ H s) (k : ∀ b o, b ≠ it → s.heap.get? b = some o → h'.get? b = some o) (hn : H it = none) (hL : it ≠ X.env.locals)
    (h1 : it ∈ X.ex ∨ X.s_0.heap.objs.size ≤ it) (h2 : ∀ x c, X.env.cells.lookup x = some c → c ≠ it) (h3 : ∀ p ∈ X.pn ++ pins, p.1 ≠ it) : Inv X pins σ H { s with heap := h', toks := t' } := by
  have nit : ∀ b u, H b = some u → b ≠ it := fun b u e z => by rw [z, hn] at e; cases e
  refine I.step (g' := s.gens) (d' := s.drawn) (ch := [it]) (fun b hb => ?_) (fun b o _ _ hc e _ => k b o (fun z => hc (by simp [z])) e) (fun b o _ _ hc e _ => ⟨o.slots, k b o (fun z => hc (by simp [z])) e⟩) (fun _ _ _ _ n => n)
    (fun b o hc e => ⟨o, k b o (fun z => hc (by simp [z])) e⟩) (fun _ _ e => e) (fun _ _ _ e => e) (fun b ps e => ⟨#[], by rw [e]; simp⟩) (fun m hm => ?_) (fun b u e => ?_) I.bare
  · have e : b = it := by simpa using hb
    subst e
    exact ⟨h1, hL, h2, h3⟩
  · obtain ⟨o, es, ep, ho, r⟩ := hm
    exact ⟨o, es, ep, k _ o (Ne.symm hL) ho, r⟩
  · refine (I.hok b u e).stay (fun c v hc q => k c v ?_ q) (fun _ q => q) fun _ _ q => q
    rcases hc with z | z
    · rw [z]; exact nit b u e
    · exact nit c _ z
theorem Inv.tok (I : Inv X pins σ H s) (t : Nat) : Inv X pins σ H { s with toks := t } := I.un (h' := s.heap) (t' := t) Un.refl I.hok
theorem Inv.kept {t' : Nat} (I : Inv X pins σ H s) (k : ∀ b u, s.heap.get? b = some u → h'.get? b = some u) : Inv X pins σ H { s with heap := h', toks := t' } := I.un (Un.kept k) (I.hok.kept k)
theorem Inv.laid {a : Addr} {o : HO} {t' : Nat} (I : Inv X pins σ H s) (k : ∀ b u, s.heap.get? b = some u → h'.get? b = some u) (hp : s.heap.objs.size ≤ a) (new : ObjOk X.prog X.w (upd H a o) h' a o) :
    Inv X pins σ (upd H a o) { s with heap := h', toks := t' } := I.un (Un.laid k hp (I.hok.fresh hp)) (I.hok.laid k hp new)
theorem Inv.write {x e : Addr} {o : HO} {t' : Nat} (I : Inv X pins σ H s) (mu : Mut (H x)) (he : e = x ∨ H e = some (.own x)) (k : ∀ b u, b ≠ e → s.heap.get? b = some u → h'.get? b = some u) (heo : ∃ u, h'.get? e = some u)
    (new : ObjOk X.prog X.w (upd H x o) h' x o) : Inv X pins σ (upd H x o) { s with heap := h', toks := t' } := I.un (Un.write mu he k heo) (I.hok.write mu he k heo new)
theorem Inv.weak {σ' : List (Option V)} (I : Inv X pins σ H s) (hl : σ'.length = σ.length) (w : ∀ (i : Nat) v, σ'[i]? = some (some v) → σ[i]? = some (some v)) : Inv X pins σ' H s :=
  ⟨I.ok, I.os, I.bare, I.base, let ⟨m, hn, hl'⟩ := I.loc; ⟨m, hn, fun i x v e1 e2 e3 => hl' i x v e1 (w i v e2) e3⟩, I.cell, I.free, I.freeC, I.pin, I.hok, hl.trans I.len⟩
theorem Inv.pins_of {pins' : List (Addr × Obj)} (I : Inv X pins σ H s) (h : ∀ p ∈ pins', s.heap.get? p.1 = some p.2 ∧ H p.1 = none ∧ p.1 ≠ X.env.locals ∧ p.1 ∉ X.fs ∧ ∀ v, p.2.data ≠ .cell v) : Inv X pins' σ H s :=
  ⟨I.ok, I.os, I.bare, I.base, I.loc, I.cell, I.free, I.freeC, fun p hp => (List.mem_append.mp hp).elim (fun z => I.pin p (List.mem_append_left _ z)) (h p), I.hok, I.len⟩
theorem nodup_ix {N : List Str} (hN : N.Nodup) {i j : Nat} {x : Str} (a : N[i]? = some x) (b : N[j]? = some x) : i = j := by
  obtain ⟨h1, e1⟩ := List.getElem?_eq_some_iff.mp a
  obtain ⟨h2, e2⟩ := List.getElem?_eq_some_iff.mp b
  exact (List.getElem_inj hN).mp (e1.trans e2.symm)
theorem store_ok2 {M : Model} {A : Around} {E : Value → Shared → Prop} {i : Nat} {x : Str} {v : V} {u : Value} {Q : Unit → Shared → Prop} (I : Inv X pins σ H s) (hN : X.N.Nodup) (hi : X.N[i]? = some x) (hx : Loc X.env.scope x) (r : RelV v u)
    (h : ∀ s', Inv X pins (σ.set i (some v)) H s' → (∃ a, Heap.SameBut a s.heap s'.heap ∧ (a = X.env.locals ∨ X.env.cells.lookup x = some a)) → Q () s') (hf : X.fn x = true ∨ X.env.scope.names.lookup x = some .local := by first | exact .inl rfl | exact .inr rfl | assumption) : wpAny M A (storeName X.env x u) Q E s := by
  obtain ⟨m, hn, hl⟩ := id I.loc
  have hcls : (X.env.scope.kind == .class || (X.env.scope.kind == .module && X.env.locals != X.env.globals)) = false := by rw [I.ok.kind]; rfl
  have hiσ : i < σ.length := by rw [I.len]; exact (List.getElem?_eq_some_iff.mp hi).1
  have cne := I.cne
  have tracked : ∀ {a : Addr} {h' : Heap}, (∃ o, s.heap.get? a = some o ∧ H a = none) → Heap.SameBut a s.heap h' → HOk X.prog X.w H h' := fun {a h'} ha hs b ob e => by
    obtain ⟨_, _, hfree⟩ := ha
    refine (I.hok b ob e).stay (fun c w' hc q => (hs.2 c ?_).trans q) (fun _ q => q) fun _ _ q => q
    rintro rfl
    rcases hc with rfl | hc
    · rw [hfree] at e; cases e
    · rw [hfree] at hc; cases hc
  rcases hx with hk | hk
  · refine wpAny_storeName_local hk hn (fun h' hn' hs => ?_) hcls
    obtain ⟨oL, _, _, hoL, _⟩ := id hn
    refine h _ ⟨I.ok, I.os, I.bare, ⟨fun b o e n hb hx => ?_, fun b o e n hb hx => ?_, I.base.free, fun b o e hx => ?_, I.base.tups, I.base.frzs, I.base.tbls⟩, ⟨_, hn', fun j y v' e1 e2 e3 => ?_⟩, fun y c e => ?_, I.free, I.freeC, fun p hp => ?_, tracked ⟨oL, hoL, I.free⟩ hs, by simpa using I.len⟩ ⟨_, hs, .inl rfl⟩
    · exact (hs.2 b (Nat.ne_of_lt (Nat.lt_of_lt_of_le (Heap.lt_size e) I.ok.above))).trans (I.base.keep b o e n hb hx)
    · obtain ⟨sl, e1⟩ := I.base.slot b o e n hb hx
      exact ⟨sl, (hs.2 b (Nat.ne_of_lt (Nat.lt_of_lt_of_le (Heap.lt_size e) I.ok.above))).trans e1⟩
    · obtain ⟨o', e1⟩ := I.base.there b o e hx
      exact ⟨o', (hs.2 b (Nat.ne_of_lt (Nat.lt_of_lt_of_le (Heap.lt_size e) I.ok.above))).trans e1⟩
    · by_cases hj : j = i
      · subst hj
        rw [hi] at e1; cases e1
        rw [List.getElem?_set_self hiσ] at e2
        cases e2
        exact ⟨u, r, .inl ⟨hk, by simp⟩⟩
      · rw [List.getElem?_set_ne (Ne.symm hj)] at e2
        obtain ⟨u', r', q⟩ := hl j y v' e1 e2 e3
        refine ⟨u', r', ?_⟩
        rcases q with ⟨k, e⟩ | ⟨k, c, e, z⟩
        · refine .inl ⟨k, ?_⟩
          have : y ≠ x := fun e => hj (nodup_ix hN e1 (e ▸ hi))
          simp [this, e]
        · exact .inr ⟨k, c, e, z.sameBut hs (cne y c e)⟩
    · obtain ⟨w', z⟩ := I.cell y c e
      exact ⟨w', z.sameBut hs (cne y c e)⟩
    · obtain ⟨e, n, ne, nf, d⟩ := I.pin p hp
      exact ⟨(hs.2 p.1 ne).trans e, n, ne, nf, d⟩
  · have hfn : X.fn x = true := by
      rcases hf with z | z
      · exact z
      · rw [z] at hk; cases hk
    obtain ⟨c, hc⟩ := I.ok.has x (.inl hk)
    obtain ⟨w', z⟩ := I.cell x c hc
    refine wpAny_storeName_cell I.ok.kind hk hc z (fun h' hc' hs => ?_)
    obtain ⟨oc, hoc, hocd⟩ := id z
    refine h { s with heap := h' } ⟨I.ok, I.os, I.bare, ⟨fun b o e n hb hx => ?_, fun b o e n hb hx => ?_, I.base.free, fun b o e hx => ?_, I.base.tups, I.base.frzs, I.base.tbls⟩, ⟨m, hn.sameBut hs (Ne.symm (cne x c hc)), fun j y v' e1 e2 e3 => ?_⟩, fun y c' e => ?_, I.free, I.freeC, fun p hp => ?_, tracked ⟨oc, hoc, I.freeC x c hc⟩ hs, by simpa using I.len⟩ ⟨c, hs, .inr hc⟩
    · exact (hs.2 b (Nat.ne_of_lt (Nat.lt_of_lt_of_le (Heap.lt_size e) (I.ok.cab x c hfn hc)))).trans (I.base.keep b o e n hb hx)
    · obtain ⟨sl, e1⟩ := I.base.slot b o e n hb hx
      exact ⟨sl, (hs.2 b (Nat.ne_of_lt (Nat.lt_of_lt_of_le (Heap.lt_size e) (I.ok.cab x c hfn hc)))).trans e1⟩
    · obtain ⟨o', e1⟩ := I.base.there b o e hx
      exact ⟨o', (hs.2 b (Nat.ne_of_lt (Nat.lt_of_lt_of_le (Heap.lt_size e) (I.ok.cab x c hfn hc)))).trans e1⟩
    · by_cases hj : j = i
      · subst hj
        rw [hi] at e1; cases e1
        rw [List.getElem?_set_self hiσ] at e2
        cases e2
        exact ⟨u, r, .inr ⟨.inl hk, c, hc, hc'⟩⟩
      · rw [List.getElem?_set_ne (Ne.symm hj)] at e2
        obtain ⟨u', r', q⟩ := hl j y v' e1 e2 e3
        refine ⟨u', r', ?_⟩
        rcases q with q | ⟨k, c', e, z'⟩
        · exact .inl q
        · refine .inr ⟨k, c', e, z'.sameBut hs ?_⟩
          rintro rfl
          exact hj (nodup_ix hN e1 (I.ok.inj _ _ _ e hc ▸ hi))
    · by_cases hcc : c' = c
      · subst hcc; exact ⟨_, hc'⟩
      · obtain ⟨w2, z2⟩ := I.cell y c' e
        exact ⟨w2, z2.sameBut hs hcc⟩
    · obtain ⟨e, n, ne, nf, d⟩ := I.pin p hp
      refine ⟨(hs.2 p.1 ?_).trans e, n, ne, nf, d⟩
      intro q
      rw [q, hoc] at e
      have q' : oc = p.2 := Option.some.inj e
      exact d w' (by rw [← q']; exact hocd)
theorem store_ok {M : Model} {A : Around} {E : Value → Shared → Prop} {i : Nat} {x : Str} {v : V} {u : Value} {Q : Unit → Shared → Prop} (I : Inv X pins σ H s) (hN : X.N.Nodup) (hi : X.N[i]? = some x) (hx : Loc X.env.scope x) (r : RelV v u)
    (h : ∀ s', Inv X pins (σ.set i (some v)) H s' → Q () s') (hf : X.fn x = true ∨ X.env.scope.names.lookup x = some .local := by first | exact .inl rfl | exact .inr rfl | assumption) : wpAny M A (storeName X.env x u) Q E s :=
  store_ok2 I hN hi hx r (fun s' I' _ => h s' I') hf
theorem Inv.call' {s' : Shared} {ch : List Addr} (I : Inv X pins σ H s) (ho : s'.os = s.os) (u : Un (frs X.stack) ch H H' s.heap s'.heap) (hok : HOk X.prog X.w H' s'.heap) (hg : AllBare s'.gens)
    (hch : ∀ b ∈ ch, (b ∈ X.ex ∨ X.s_0.heap.objs.size ≤ b) ∧ b ≠ X.env.locals ∧ (∀ x c, X.env.cells.lookup x = some c → c ≠ b) ∧ ∀ p ∈ X.pn ++ pins, p.1 ≠ b) : Inv X pins σ H' s' := by
  obtain ⟨h', g', d', t', o'⟩ := s'
  have e : o' = s.os := ho
  subst e
  exact I.call (g' := g') (t' := t') (d' := d') u hok hg hch
end
abbrev XK := Value → Option Addr → Hp → Prop
abbrev St := List (Option V)
abbrev VK := V → Hp → Prop
abbrev TE := St → Hp → VK → Prop
abbrev TT := St → Hp → (Bool → Hp → Prop) → Prop
abbrev TA := St → Hp → (List V → Hp → Prop) → Prop
structure Ends where
  nx : St → Hp → Prop
  rt : VK
  bk : St → Hp → Prop := fun _ _ => False
  ct : St → Hp → Prop := fun _ _ => False
abbrev TS := Ends → St → Hp → Prop
def EP (X : Cx) (pins : List (Addr × Obj)) (σ : St) (Q : VK) (u : Value) (s' : Shared) : Prop := ∃ v H', Inv X pins σ H' s' ∧ RelV v u ∧ Q v H'
def TP (X : Cx) (pins : List (Addr × Obj)) (σ : St) (Q : Bool → Hp → Prop) (b : Bool) (s' : Shared) : Prop := ∃ H', Inv X pins σ H' s' ∧ Q b H'
def AP (X : Cx) (pins : List (Addr × Obj)) (σ : St) (Q : List V → Hp → Prop) (us : List Value) (s' : Shared) : Prop := ∃ vs H', Inv X pins σ H' s' ∧ Vals vs us ∧ Q vs H'
def SP (X : Cx) (pins : List (Addr × Obj)) (D : Ends) (f : Flow) (s' : Shared) : Prop :=
  match f with
  | .next => ∃ σ' H', Inv X pins σ' H' s' ∧ D.nx σ' H'
  | .brk => ∃ σ' H', Inv X pins σ' H' s' ∧ D.bk σ' H'
  | .cont => ∃ σ' H', Inv X pins σ' H' s' ∧ D.ct σ' H'
  | .ret u => ∃ v σ' H', Inv X pins σ' H' s' ∧ RelV v u ∧ D.rt v H'
def PE (X : Cx) (e : Expr) (t : TE) : Prop :=
  ∀ (pins : List (Addr × Obj)) (s : Shared) (σ : St) (H : Hp) (Q : VK), Inv X pins σ H s → t σ H Q → wpAny (model X.prog X.w) X.A (eval e X.env) (EP X pins σ Q) X.xe s
def PT (X : Cx) (e : Expr) (t : TT) : Prop :=
  ∀ (pins : List (Addr × Obj)) (s : Shared) (σ : St) (H : Hp) (Q : Bool → Hp → Prop), Inv X pins σ H s → t σ H Q → wpAny (model X.prog X.w) X.A (isTrue e X.env (eval e X.env)) (TP X pins σ Q) X.xe s
def PW (X : Cx) (e : Expr) (t : TT) : Prop :=
  ∀ (whole : Sem Value) (pins : List (Addr × Obj)) (s : Shared) (σ : St) (H : Hp) (Q : Bool → Hp → Prop), Inv X pins σ H s → t σ H Q → wpAny (model X.prog X.w) X.A (isTrue e X.env whole) (TP X pins σ Q) X.xe s
theorem PW.pt {X : Cx} {e : Expr} {t : TT} (h : PW X e t) : PT X e t := h _
def PA (X : Cx) (es : List Expr) (t : TA) : Prop :=
  ∀ (pos : Pos) (pins : List (Addr × Obj)) (s : Shared) (σ : St) (H : Hp) (Q : List V → Hp → Prop), Inv X pins σ H s → t σ H Q → wpAny (model X.prog X.w) X.A (spliced (backTo pos (starEach es X.env))) (AP X pins σ Q) X.xe s
def PS (X : Cx) (st : Stmt) (t : TS) : Prop :=
  ∀ (pins : List (Addr × Obj)) (s : Shared) (σ : St) (H : Hp) (D : Ends), Inv X pins σ H s → t D σ H → wpAny (model X.prog X.w) X.A (exec st X.env) (SP X pins D) X.xe s
def PSs (X : Cx) (st : List Stmt) (t : TS) : Prop :=
  ∀ (pins : List (Addr × Obj)) (s : Shared) (σ : St) (H : Hp) (D : Ends), Inv X pins σ H s → t D σ H → wpAny (model X.prog X.w) X.A (execs st X.env) (SP X pins D) X.xe s
theorem thn {α : Type} {t : Sem α} {Q Q' : α → Shared → Prop} {M : Model} {A : Around} {E : Value → Shared → Prop} {s : Shared} (h : wpAny M A t Q E s) (hQ : ∀ a s, Q a s → Q' a s) : wpAny M A t Q' E s := wpAny_mono h hQ fun _ _ x => x
end L2
namespace L2
open PySem PySem.Spec PyProof.Rows
section
variable {X : Cx}
def tVar (i : Nat) : TE := fun σ H Q => ∃ v, σ[i]? = some (some v) ∧ Q v H
def tC (v : V) : TE := fun _ H Q => Q v H
theorem pe_var {i : Nat} {x : Str} {pos : Pos} (hN : X.N[i]? = some x) (hv : Vis X.env.scope x) (hd : (x == ("__debug__" : Str)) = false := by decide) (hcd : (x == ("__classdict__" : Str)) = false := by decide) : PE X (.Name x pos) (tVar i) := by
  intro pins s σ H Q I h
  obtain ⟨v, e, h⟩ := h
  obtain ⟨m, hn, hl⟩ := I.loc
  obtain ⟨u, r, l⟩ := hl i x v hN e hv
  have fin : EP X pins σ Q u s := ⟨v, H, I, r, h⟩
  rcases l with ⟨hk, hm⟩ | ⟨hk, c, hc, hcell⟩
  · exact wpAny_Name (wpAny_loadName_local I.ok.kind hk hn hm fin) hd
  · rcases hk with hk | hk
    · exact wpAny_Name (wpAny_loadName_cell I.ok.kind hk hc hcell fin) hd
    · exact wpAny_Name (wpAny_loadName_free I.ok.kind hk hc hcell fin hcd) hd
theorem pe_int {i j pos} : PE X (.Constant (.int i) j pos) (tC (.int i)) := fun _ _ _ H _ I h => wpAny_Constant_int ⟨.int i, H, I.tok _, ⟨_, rfl⟩, h⟩
theorem pe_bl {b j pos} : PE X (.Constant (.bool b) j pos) (tC (.bl b)) := fun _ _ _ H _ I h => Constant_bool ⟨.bl b, H, I, rfl, h⟩
theorem pe_non {j pos} : PE X (.Constant .none j pos) (tC .non) := fun _ _ _ H _ I h => Constant_none ⟨.non, H, I, rfl, h⟩
def Gl (X : Cx) (x : Str) : Prop := X.env.kindOf x = some .globalImplicit
theorem ld_glob {E : Value → Shared → Prop} {pins : List (Addr × Obj)} {s : Shared} {σ : St} {H : Hp} {x : Str} {u : Value} {pos : Pos} {Q : Value → Shared → Prop} (I : Inv X pins σ H s) (hg : Gl X x) (hm : X.mg x = some u) (h : Q u s)
    (hd : (x == ("__debug__" : Str)) = false := by decide) : wpAny (model X.prog X.w) X.A (eval (.Name x pos) X.env) Q E s :=
  Calls.Name_function_global I.ok.kind hg (Calls.loadGlobal_global (by rw [I.ok.glob]; exact I.mod.glob.keeps I.bk) hm h) hd
theorem ld_blt {E : Value → Shared → Prop} {pins : List (Addr × Obj)} {s : Shared} {σ : St} {H : Hp} {x : Str} {u : Value} {pos : Pos} {Q : Value → Shared → Prop} (I : Inv X pins σ H s) (hg : Gl X x) (hm : X.mg x = none) (hv : bootBuiltins x = some u) (h : Q u s)
    (hn : x ≠ "__name__" := by decide) (hd : (x == ("__debug__" : Str)) = false := by decide) : wpAny (model X.prog X.w) X.A (eval (.Name x pos) X.env) Q E s := by
  obtain ⟨mb, h1, h2⟩ := I.mod.blt
  exact Calls.Name_function_global I.ok.kind hg (Calls.loadGlobal_builtin (by rw [I.ok.glob]; exact I.mod.glob.keeps I.bk) hm (by rw [I.ok.blt]; exact h1.keeps I.bk) ((h2 x hn).trans hv) h) hd
theorem pe_glob {x : Str} {v : V} {u : Value} {pos : Pos} (hg : Gl X x) (hm : X.mg x = some u) (r : RelV v u) (hd : (x == ("__debug__" : Str)) = false := by decide) : PE X (.Name x pos) (tC v) :=
  fun _ _ _ H _ I h => ld_glob I hg hm ⟨v, H, I, r, h⟩ hd
variable {a b : Expr} {ta tb : TE} {pos : Pos}
def PC (X : Cx) (op : CmpOp) (a b : Expr) (t : TE) : Prop :=
  ∀ (pins : List (Addr × Obj)) (s : Shared) (σ : St) (H : Hp) (Q : VK), Inv X pins σ H s → t σ H Q →
    wpAny (model X.prog X.w) X.A (eval a X.env) (fun v s₁ => wpAny (model X.prog X.w) X.A (eval b X.env) (fun u s₂ => wpAny (model X.prog X.w) X.A (compareOp op v u) (EP X pins σ Q) X.xe s₂) X.xe s₁) X.xe s
theorem nobehind (b : Expr) {op : CmpOp} (h : op ≠ .In) (h2 : op ≠ .NotIn) : behindInMarks op b = false := by
  have e1 : (op == CmpOp.In) = false := by cases op <;> first | rfl | exact absurd rfl h
  have e2 : (op == CmpOp.NotIn) = false := by cases op <;> first | rfl | exact absurd rfl h2
  cases b <;> simp [behindInMarks, e1, e2]
def tB (t : TE) : TT := fun σ H Q => t σ H fun x H1 => ∃ c, x = .bl c ∧ Q c H1
theorem pt_cmp {op : CmpOp} {t : TE} (h : PC X op a b t) (h1 : behindInMarks op b = false := by first | exact nobehind _ (by decide) (by decide) | rfl) : PT X (.Compare a [op] [b] pos) (tB t) := by
  intro pins s σ H Q I hw
  refine wpAny_isTrue_Compare1 (thn (h pins s σ H _ I hw) fun v s1 h1 => thn h1 fun u s2 h2 => thn h2 fun c s3 ⟨x, H1, I1, r1, q1⟩ => ?_) h1
  obtain ⟨d, rfl, q⟩ := q1
  cases r1
  exact wpAny_truthy_bool ⟨H1, I1, q⟩
theorem pt_val {e : Expr} {t : TE} (h : PE X e t) (he : ∀ whole, isTrue e X.env whole = (do let v ← whole; standAt e.pos; holding [v] (truthy v)) := by intro _; rfl) : PT X e (tB t) := by
  intro pins s σ H Q I hw
  refine isTrue_plain (thn (h pins s σ H _ I hw) fun v s1 ⟨x, H1, I1, r1, q1⟩ => ?_) (he _)
  obtain ⟨d, rfl, q⟩ := q1
  cases r1
  exact wpAny_truthy_bool ⟨H1, I1, q⟩
variable {tA tB' : TT} {rest : List Expr}
def tAnd (t u : TT) : TT := fun σ H Q => t σ H fun c H1 => if c = true then u σ H1 Q else Q false H1
def tOr (t u : TT) : TT := fun σ H Q => t σ H fun c H1 => if c = true then Q true H1 else u σ H1 Q
def tNot (t : TT) : TT := fun σ H Q => t σ H fun c H1 => Q (!c) H1
theorem pw_and1 (ha : PT X a tA) : PW X (.BoolOp .And [a] pos) tA := by
  intro wh pins s σ H Q I h
  refine isTrue_and (thn (ha pins s σ H Q I h) fun c s1 e => ?_)
  cases c with
  | true => exact isTrue_and_nil e
  | false => exact e
theorem pw_or1 (ha : PT X a tA) : PW X (.BoolOp .Or [a] pos) tA := by
  intro wh pins s σ H Q I h
  refine isTrue_or (thn (ha pins s σ H Q I h) fun c s1 e => ?_)
  cases c with
  | false => exact isTrue_or_nil e
  | true => exact e
theorem pw_and (ha : PT X a tA) (hb : PW X (.BoolOp .And (b :: rest) pos) tB') : PW X (.BoolOp .And (a :: b :: rest) pos) (tAnd tA tB') := by
  intro wh pins s σ H Q I h
  refine isTrue_and (thn (ha pins s σ H _ I h) fun c s1 ⟨H1, I1, q1⟩ => ?_)
  cases c with
  | true => exact hb wh pins s1 σ H1 Q I1 q1
  | false => exact ⟨H1, I1, q1⟩
theorem pw_or (ha : PT X a tA) (hb : PW X (.BoolOp .Or (b :: rest) pos) tB') : PW X (.BoolOp .Or (a :: b :: rest) pos) (tOr tA tB') := by
  intro wh pins s σ H Q I h
  refine isTrue_or (thn (ha pins s σ H _ I h) fun c s1 ⟨H1, I1, q1⟩ => ?_)
  cases c with
  | true => exact ⟨H1, I1, q1⟩
  | false => exact hb wh pins s1 σ H1 Q I1 q1
theorem pt_not (ha : PT X a tA) : PT X (.UnaryOp .Not a pos) (tNot tA) := by
  intro pins s σ H Q I h
  exact isTrue_not (ha pins s σ H (fun c H1 => Q (!c) H1) I h)
def tAndV (ta tb : TE) : TE := fun σ H Q => ta σ H fun x H1 => ∃ c, x = .bl c ∧ if c = true then tb σ H1 Q else Q (.bl false) H1
theorem pe_one {op} {t : TE} (h : PE X a t) : PE X (.BoolOp op [a] pos) t := fun pins s σ H Q I hw => BoolOp_one (h pins s σ H Q I hw)
theorem pe_and (ha : PE X a ta) (hb : PE X (.BoolOp .And (b :: rest) pos) tb) : PE X (.BoolOp .And (a :: b :: rest) pos) (tAndV ta tb) := by
  intro pins s σ H Q I h
  refine BoolOp_and (thn (ha pins s σ H _ I h) fun v s1 ⟨x, H1, I1, r1, q1⟩ => ?_)
  obtain ⟨c, rfl, q1⟩ := q1
  cases r1
  refine wpAny_truthy_bool ?_
  cases c with
  | true => exact hb pins s1 σ H1 Q I1 q1
  | false => exact ⟨.bl false, H1, I1, rfl, q1⟩
def tIf (t : TT) (ta tb : TE) : TE := fun σ H Q => t σ H fun c H1 => if c = true then ta σ H1 Q else tb σ H1 Q
theorem pe_ifExp {c : Expr} (hc : PT X c tA) (ha : PE X a ta) (hb : PE X b tb) : PE X (.IfExp c a b pos) (tIf tA ta tb) := by
  intro pins s σ H Q I h
  refine wpAny_IfExp (thn (hc pins s σ H _ I h) fun d s1 ⟨H1, I1, q1⟩ => ?_)
  cases d with
  | true => exact ha pins s1 σ H1 Q I1 q1
  | false => exact hb pins s1 σ H1 Q I1 q1
end
end L2
namespace L2
open PySem PySem.Spec PyProof.Rows
def SqL (K : PySem.W.Frag) (H : Hp) (a : Addr) (xs : List V) : Prop :=
  Rd H a (.lst xs) ∨
    ∃ (o : Obj) (its : Array Value) (n : Nat), K.lookup a = some o ∧ o.cls = .type "list" ∧ o.dict = none ∧ o.data = .seq its n ∧ its.size ≤ sizeLine ∧ Vals xs its.toList
def SqT (K : PySem.W.Frag) (H : Hp) (a : Addr) (xs : List V) : Prop :=
  Rd H a (.tup xs) ∨
    ∃ (o : Obj) (its : Array Value) (n : Nat), K.lookup a = some o ∧ o.cls = .type "tuple" ∧ o.data = .seq its n ∧ its.size ≤ sizeLine ∧ Vals xs its.toList
def absV : Value → Option V
  | .none => some .non
  | .bool b => some (.bl b)
  | .int i _ => some (.int i)
  | .str x _ => some (.str x)
  | .bytes b _ => some (.byt b)
  | .float b _ => some (.flt b)
  | .ref a => some (.ref a)
  | .type n => some (.ty n)
  | _ => none
theorem RelV.abs {x : V} {u : Value} (r : RelV x u) : absV u = some x := by
  cases x with
  | non => cases r; rfl
  | bl _ => cases r; rfl
  | int _ => obtain ⟨t, rfl⟩ := r; rfl
  | str _ => obtain ⟨t, rfl⟩ := r; rfl
  | byt _ => obtain ⟨t, rfl⟩ := r; rfl
  | flt _ => obtain ⟨t, rfl⟩ := r; rfl
  | ref _ => cases r; rfl
  | ty _ => cases r; rfl
theorem RelV.inj {x y : V} {u : Value} (r : RelV x u) (q : RelV y u) : x = y := Option.some.inj (r.abs.symm.trans q.abs)
theorem Vals.inj : ∀ {xs ys : List V} {us : List Value}, Vals xs us → Vals ys us → xs = ys
  | _, _, _, .nil, .nil => rfl
  | _, _, _, .cons r t, .cons r' t' => by rw [r.inj r', Vals.inj t t']
section
variable {X : Cx} {pins : List (Addr × Obj)} {σ : St} {H : Hp} {s : Shared} {a : Addr} {xs ys : List V}
theorem SqL.of {K : PySem.W.Frag} (h : H a = some (.lst xs)) : SqL K H a xs := .inl (.inl h)
theorem SqT.of {K : PySem.W.Frag} (h : H a = some (.tup xs)) : SqT K H a xs := .inl (.inl h)
theorem Inv.list (I : Inv X pins σ H s) (h : SqL X.K H a xs) : ∃ its : List Value, Vals xs its ∧ PlainL s.heap a its.toArray ∧ xs.length ≤ sizeLine := by
  rcases h with h | ⟨o, its, n, hk, hc, hd, hs, hz, r⟩
  · obtain ⟨z, its, n, r, e⟩ := h.ok I.hok
    exact ⟨its, r, ⟨_, n, e, rfl, rfl, rfl⟩, z⟩
  · refine ⟨its.toList, r, ⟨o, n, I.kIn a o hk, hc, hd, by simpa using hs⟩, ?_⟩
    have e := r.length
    simp only [Array.length_toList] at e
    omega
theorem Inv.tuple (I : Inv X pins σ H s) (h : SqT X.K H a xs) : ∃ its : List Value, Vals xs its ∧ IsTup s.heap a its.toArray ∧ xs.length ≤ sizeLine := by
  rcases h with h | ⟨o, its, n, hk, hc, hs, hz, r⟩
  · obtain ⟨z, its, r, p⟩ := h.ok I.hok
    exact ⟨its, r, p, z⟩
  · refine ⟨its.toList, r, ⟨o, I.kIn a o hk, hc, n, by simpa using hs⟩, ?_⟩
    have e := r.length
    simp only [Array.length_toList] at e
    omega
theorem Inv.list_inj (I : Inv X pins σ H s) (h : SqL X.K H a xs) (h' : SqL X.K H a ys) : xs = ys := by
  obtain ⟨its, r, ⟨o, n, e, _, _, d⟩, _⟩ := I.list h
  obtain ⟨its', r', ⟨o', n', e', _, _, d'⟩, _⟩ := I.list h'
  rw [e] at e'; cases e'
  rw [d] at d'
  injection d' with d1 _
  have : its = its' := by simpa using congrArg Array.toList d1
  subst this
  exact r.inj r'
end
abbrev Cx.wish (X : Cx) (E : Value → Shared → Prop) : Cx := { X with xe := E }
abbrev Cx.nox (X : Cx) : Cx := X.wish fun _ _ => False
theorem Cx.Ok.wish {X : Cx} (ok : X.Ok) (E : Value → Shared → Prop) : (X.wish E).Ok :=
  ⟨ok.mod, ok.kind, ok.glob, ok.blt, ok.above, ok.inj, ok.has, ok.cab, ok.hd, ok.frames, ok.stk, ok.exf, ok.bs, ok.bsz, ok.noex, ok.exfs, ok.funs, ok.frf⟩
theorem Cx.Ok.unwish {X : Cx} {E : Value → Shared → Prop} (ok : (X.wish E).Ok) : X.Ok :=
  ⟨ok.mod, ok.kind, ok.glob, ok.blt, ok.above, ok.inj, ok.has, ok.cab, ok.hd, ok.frames, ok.stk, ok.exf, ok.bs, ok.bsz, ok.noex, ok.exfs, ok.funs, ok.frf⟩
section
variable {X : Cx} {pins : List (Addr × Obj)} {σ : St} {H : Hp} {s : Shared} {E : Value → Shared → Prop}
theorem Inv.wish (I : Inv X pins σ H s) (E : Value → Shared → Prop) : Inv (X.wish E) pins σ H s := ⟨I.ok.wish E, I.os, I.bare, I.base, I.loc, I.cell, I.free, I.freeC, I.pin, I.hok, I.len⟩
theorem Inv.unwish (I : Inv (X.wish E) pins σ H s) : Inv X pins σ H s := ⟨I.ok.unwish, I.os, I.bare, I.base, I.loc, I.cell, I.free, I.freeC, I.pin, I.hok, I.len⟩
theorem SP.unwish {D : Ends} {f : Flow} {s' : Shared} (h : SP (X.wish E) pins D f s') : SP X pins D f s' := by
  cases f with
  | next => obtain ⟨σ', H', I, q⟩ := h; exact ⟨σ', H', I.unwish, q⟩
  | brk => obtain ⟨σ', H', I, q⟩ := h; exact ⟨σ', H', I.unwish, q⟩
  | cont => obtain ⟨σ', H', I, q⟩ := h; exact ⟨σ', H', I.unwish, q⟩
  | ret u => obtain ⟨v, σ', H', I, r, q⟩ := h; exact ⟨v, σ', H', I.unwish, r, q⟩
theorem PE.nox {e : Expr} {t : TE} (h : PE X.nox e t) : PE X e t := fun pins s σ H Q I hw =>
  wpAny_mono (h pins s σ H Q (I.wish _) hw) (fun _ _ ⟨v, H', I', r, q⟩ => ⟨v, H', I'.unwish, r, q⟩) fun _ _ z => False.elim z
theorem PT.nox {e : Expr} {t : TT} (h : PT X.nox e t) : PT X e t := fun pins s σ H Q I hw =>
  wpAny_mono (h pins s σ H Q (I.wish _) hw) (fun _ _ ⟨H', I', q⟩ => ⟨H', I'.unwish, q⟩) fun _ _ z => False.elim z
theorem PSs.nox {st : List Stmt} {t : TS} (h : PSs X.nox st t) : PSs X st t := fun pins s σ H D I hw =>
  wpAny_mono (h pins s σ H D (I.wish _) hw) (fun _ _ q => q.unwish) fun _ _ z => False.elim z
end
section
variable {X : Cx} {st : Stmt} {rest : List Stmt} {t u : TS} {e : Expr} {te : TE} {pos : Pos}
def tNext : TS := fun D σ H => D.nx σ H
def tSeq (t u : TS) : TS := fun D σ H => t { D with nx := u D } σ H
theorem pss_nil : PSs X [] tNext := fun _ _ σ H _ I h => wpAny_execs_nil ⟨σ, H, I, h⟩
theorem pss_cons (h1 : PS X st t) (h2 : PSs X rest u) : PSs X (st :: rest) (tSeq t u) := by
  intro pins s σ H D I h
  refine wpAny_execs_cons (thn (h1 pins s σ H { D with nx := u D } I h) fun f s1 q => ?_)
  cases f with
  | next =>
    obtain ⟨σ', H', I', q⟩ := q
    exact h2 pins s1 σ' H' D I' q
  | ret v => exact q
  | brk => exact q
  | cont => exact q
theorem pss_one (h1 : PS X st t) : PSs X [st] t := by
  intro pins s σ H D I h
  refine wpAny_execs_cons (thn (h1 pins s σ H D I h) fun f s1 q => ?_)
  cases f with
  | next => exact wpAny_execs_nil q
  | ret v => exact q
  | brk => exact q
  | cont => exact q
theorem Inv.quiet {pins : List (Addr × Obj)} {σ : St} {H : Hp} {s : Shared} (I : Inv X pins σ H s) : interactive X.env = false := by simp [interactive, I.ok.kind]
def tDrop (te : TE) : TS := fun D σ H => te σ H fun _ H1 => D.nx σ H1
theorem ps_expr (he : PE X e te) (hs : swapsWith e none pos.line X.env = pure false := by rfl) : PS X (.Expr e pos) (tDrop te) := by
  intro pins s σ H D I h
  exact wpAny_Expr_any (thn (he pins s σ H _ I h) fun v s1 ⟨x, H1, I1, r1, q1⟩ => ⟨σ, H1, I1, q1⟩) I.quiet hs
def tRet (te : TE) : TS := fun D σ H => te σ H D.rt
theorem ps_ret (he : PE X e te) : PS X (.Return (some e) pos) (tRet te) := by
  intro pins s σ H D I h
  exact wpAny_Return_some (thn (he pins s σ H _ I h) fun v s1 ⟨x, H1, I1, r1, q1⟩ => ⟨x, σ, H1, I1, r1, q1⟩)
def tIfS (c : TT) (t u : TS) : TS := fun D σ H => c σ H fun b H1 => if b = true then t D σ H1 else u D σ H1
theorem ps_if {c : Expr} {a b : List Stmt} {tc : TT} (hc : PT X c tc) (ha : PSs X a t) (hb : PSs X b u) : PS X (.If c a b pos) (tIfS tc t u) := by
  intro pins s σ H D I h
  refine wpAny_If (thn (hc pins s σ H _ I h) fun d s1 ⟨H1, I1, q1⟩ => ?_)
  cases d with
  | true => exact ha pins s1 σ H1 D I1 q1
  | false => exact hb pins s1 σ H1 D I1 q1
def tNever : TS := fun _ _ _ => False
theorem pss_never {sts : List Stmt} : PSs X sts tNever := fun _ _ _ _ _ _ h => h.elim
end
abbrev TG := V → St → Hp → (St → Hp → Prop) → Prop
abbrev TGs := List V → St → Hp → (St → Hp → Prop) → Prop
def PG (X : Cx) (target : Expr) (t : TG) : Prop :=
  ∀ (pins : List (Addr × Obj)) (s : Shared) (σ : St) (H : Hp) (v : V) (u : Value) (Q : St → Hp → Prop), Inv X pins σ H s → RelV v u → t v σ H Q →
    wpAny (model X.prog X.w) X.A (assign target X.env u) (fun _ s' => ∃ σ' H', Inv X pins σ' H' s' ∧ Q σ' H') X.xe s
def PGs (X : Cx) (ts : List Expr) (t : TGs) : Prop :=
  ∀ (pins : List (Addr × Obj)) (s : Shared) (σ : St) (H : Hp) (vs : List V) (us : List Value) (Q : St → Hp → Prop), Inv X pins σ H s → Vals vs us → t vs σ H Q →
    wpAny (model X.prog X.w) X.A (assignInOrder ((assignEach ts X.env).map (·.2)) us) (fun _ s' => ∃ σ' H', Inv X pins σ' H' s' ∧ Q σ' H') X.xe s
abbrev TSet := V → V → V → Hp → (Hp → Prop) → Prop
def PSet (X : Cx) (t : TSet) : Prop :=
  ∀ (pins : List (Addr × Obj)) (s : Shared) (σ : St) (H : Hp) (o i v : V) (ov iv u : Value) (Q : Hp → Prop), Inv X pins σ H s → RelV o ov → RelV i iv → RelV v u → t o i v H Q →
    wpAny (model X.prog X.w) X.A (setItem ov iv u) (fun _ s' => ∃ H', Inv X pins σ H' s' ∧ Q H') X.xe s
abbrev TIp := V → V → Hp → VK → Prop
def PIp (X : Cx) (op : Operator) (t : TIp) : Prop :=
  ∀ (pins : List (Addr × Obj)) (s : Shared) (σ : St) (H : Hp) (x y : V) (v u : Value) (Q : VK), Inv X pins σ H s → RelV x v → RelV y u → t x y H Q →
    wpAny (model X.prog X.w) X.A (inplaceOp op v u) (EP X pins σ Q) X.xe s
section
variable {X : Cx} {pos : Pos}
def gName (i : Nat) : TG := fun v σ H Q => Q (σ.set i (some v)) H
theorem pg_name {i : Nat} {x : Str} (hN : X.N.Nodup) (hi : X.N[i]? = some x) (hx : Loc X.env.scope x) (hf : X.fn x = true ∨ X.env.scope.names.lookup x = some .local := by first | exact .inl rfl | exact .inr rfl | assumption) : PG X (.Name x pos) (gName i) := by
  intro pins s σ H v u Q I r h
  exact wpAny_assign_Name (store_ok I hN hi hx r (fun s' I' => ⟨_, H, I', h⟩) hf)
def gNil : TGs := fun vs σ H Q => vs = [] ∧ Q σ H
def gCons (t : TG) (u : TGs) : TGs := fun vs σ H Q => ∃ v r, vs = v :: r ∧ t v σ H fun σ' H' => u r σ' H' Q
theorem pgs_nil : PGs X [] gNil := by
  intro pins s σ H vs us Q I r h
  obtain ⟨e, h⟩ := h
  subst e
  cases r
  exact assignInOrder_nil ⟨σ, H, I, h⟩
theorem pgs_cons {e : Expr} {es : List Expr} {t : TG} {u : TGs} (h1 : PG X e t) (h2 : PGs X es u)
    (hs : (assignEach (e :: es) X.env).map (·.2) = assign e X.env :: (assignEach es X.env).map (·.2) := by rfl) : PGs X (e :: es) (gCons t u) := by
  intro pins s σ H vs us Q I r h
  obtain ⟨v, vr, e1, h⟩ := h
  subst e1
  cases r with
  | cons r rr =>
    rw [hs]
    refine assignInOrder_cons (thn (h1 pins s σ H _ _ _ I r h) fun _ s1 ⟨σ1, H1, I1, q1⟩ => ?_)
    exact h2 pins s1 σ1 H1 _ _ Q I1 rr q1
def gTup (K : PySem.W.Frag) (n : Nat) (t : TGs) : TG := fun v σ H Q => ∃ a xs, v = .ref a ∧ SqT K H a xs ∧ xs.length = n ∧ t xs σ H Q
theorem pg_tup {es : List Expr} {k : Nat} {t : TGs} {n : Nat} (hc : X.calm = true) (h : PGs X es t)
    (hn : (assignEach es X.env).length = n := by rfl) (hst : (assignEach es X.env).findIdx? (·.1) = none := by rfl) : PG X (.Tuple es k pos) (gTup X.K n t) := by
  intro pins s σ H v u Q I r hw
  obtain ⟨a, xs, e1, hq, hl, hw⟩ := hw
  subst e1
  cases r
  obtain ⟨its, rv, ht, hz⟩ := I.tuple hq
  refine assign_Tuple_tuple (I.ok.hd hc) ht (by simp [hn, ← hl, rv.length]) hst fun h' hx => ?_
  have I1 : Inv X pins σ H { s with heap := h' } := I.kept (t' := s.toks) fun b o e => hx b o (Nat.ne_of_lt (Heap.lt_size e)) e
  exact h pins _ σ H xs _ Q I1 (by simpa using rv) hw
def tAsg (te : TE) (g : TG) : TS := fun D σ H => te σ H fun x H1 => g x σ H1 D.nx
theorem ps_set {i : Nat} {x : Str} {e : Expr} {te : TE} {pos' : Pos} (hN : X.N.Nodup) (hi : X.N[i]? = some x) (hx : Loc X.env.scope x) (he : PE X e te) (hs : swapsWith e (some (.Name x pos')) pos.line X.env = pure false := by rfl) (hf : X.fn x = true ∨ X.env.scope.names.lookup x = some .local := by first | exact .inl rfl | exact .inr rfl | assumption) :
    PS X (.Assign [.Name x pos'] e pos) (tAsg te (gName i)) := by
  intro pins s σ H D I h
  refine wpAny_Assign_Name (thn (he pins s σ H _ I h) fun v s1 ⟨y, H1, I1, r1, q1⟩ => ?_) hs
  exact store_ok I1 hN hi hx r1 (fun s2 I2 => ⟨_, H1, I2, q1⟩) hf
def tAug (i : Nat) (te : TE) (ti : TIp) : TS := fun D σ H => ∃ x, σ[i]? = some (some x) ∧ te σ H fun y H1 => ti x y H1 fun z H2 => D.nx (σ.set i (some z)) H2
theorem ps_aug {i : Nat} {x : Str} {e : Expr} {te : TE} {op : Operator} {ti : TIp} {pos' : Pos} (hN : X.N.Nodup) (hi : X.N[i]? = some x) (hx : Loc X.env.scope x) (he : PE X e te) (ho : PIp X op ti) (hf : X.fn x = true ∨ X.env.scope.names.lookup x = some .local := by first | exact .inl rfl | exact .inr rfl | assumption) :
    PS X (.AugAssign (.Name x pos') op e pos) (tAug i te ti) := by
  intro pins s σ H D I h
  obtain ⟨v, e1, h⟩ := h
  obtain ⟨m, hn, hl⟩ := I.loc
  have vis : Vis X.env.scope x := by rcases hx with k | k; exact .inl k; exact .inr (.inl k)
  obtain ⟨u, r, l⟩ := hl i x v hi e1 vis
  refine wpAny_AugAssign_Name ?_
  have go : wpAny (model X.prog X.w) X.A (eval e X.env) (fun w s₂ => wpAny (model X.prog X.w) X.A (inplaceOp op u w) (fun r s₃ => wpAny (model X.prog X.w) X.A (storeName X.env x r) (fun _ => SP X pins D .next) X.xe s₃) X.xe s₂) X.xe s := by
    refine thn (he pins s σ H _ I h) fun w s1 ⟨y, H1, I1, r1, q1⟩ => ?_
    refine thn (ho pins s1 σ H1 v y u w _ I1 r r1 q1) fun z s2 ⟨zv, H2, I2, r2, q2⟩ => ?_
    exact store_ok I2 hN hi hx r2 (fun s3 I3 => ⟨_, H2, I3, q2⟩) hf
  rcases l with ⟨hk, hm⟩ | ⟨hk, c, hc, hcell⟩
  · exact wpAny_loadName_local I.ok.kind hk hn hm go
  · rcases hk with hk | hk
    · exact wpAny_loadName_cell I.ok.kind hk hc hcell go
    · rcases hx with k | k
      · have : X.env.scope.names.lookup x = some .free := hk
        rw [k] at this; cases this
      · have : X.env.scope.names.lookup x = some .free := hk
        rw [k] at this; cases this
def tAugS (to ti te : TE) (tget : V → V → Hp → VK → Prop) (tip : TIp) (tset : TSet) : TS := fun D σ H => to σ H fun o H1 => ti σ H1 fun i H2 => tget o i H2 fun x H3 => te σ H3 fun y H4 => tip x y H4 fun z H5 => tset o i z H5 fun H6 => D.nx σ H6
def PGet (X : Cx) (t : V → V → Hp → VK → Prop) : Prop :=
  ∀ (pins : List (Addr × Obj)) (s : Shared) (σ : St) (H : Hp) (o i : V) (ov iv : Value) (Q : VK), Inv X pins σ H s → RelV o ov → RelV i iv → t o i H Q →
    wpAny (model X.prog X.w) X.A (getItem ov iv) (EP X pins σ Q) X.xe s
theorem ps_augS {o i e : Expr} {to ti te : TE} {tget : V → V → Hp → VK → Prop} {tip : TIp} {tset : TSet} {op : Operator} {tpos : Pos} (ho : PE X o to) (hi : PE X i ti) (hg : PGet X tget) (he : PE X e te) (hp : PIp X op tip) (hs : PSet X tset)
    (ha : ∀ ov iv new, augStore i ov iv new = (do holding [new, ov, iv] (setItem ov iv new); release [new, ov, iv] []; pure .next) := by intros; rfl) : PS X (.AugAssign (.Subscript o i tpos) op e pos) (tAugS to ti te tget tip tset) := by
  intro pins s σ H D I h
  refine wpAny_AugAssign_SubscriptAny (thn (ho pins s σ H _ I h) fun ov s1 ⟨x1, H1, I1, r1, q1⟩ => ?_) ha
  refine thn (hi pins s1 σ H1 _ I1 q1) fun iv s2 ⟨x2, H2, I2, r2, q2⟩ => ?_
  refine thn (hg pins s2 σ H2 x1 x2 ov iv _ I2 r1 r2 q2) fun old s3 ⟨x3, H3, I3, r3, q3⟩ => ?_
  refine thn (he pins s3 σ H3 _ I3 q3) fun v s4 ⟨x4, H4, I4, r4, q4⟩ => ?_
  refine thn (hp pins s4 σ H4 x3 x4 old v _ I4 r3 r4 q4) fun new s5 ⟨x5, H5, I5, r5, q5⟩ => ?_
  exact thn (hs pins s5 σ H5 x1 x2 x5 ov iv new _ I5 r1 r2 r5 q5) fun _ s6 ⟨H6, I6, q6⟩ => ⟨σ, H6, I6, q6⟩
def ipI (f : Int → Int → Int) : TIp := fun x y H Q => ∃ i j, x = .int i ∧ y = .int j ∧ Q (.int (f i j)) H
theorem ip_add : PIp X .Add (ipI fun i j => i + j) := by
  intro pins s σ H x y v u Q I r1 r2 h
  obtain ⟨i, j, e1, e2, q⟩ := h
  subst e1; subst e2
  obtain ⟨t, rfl⟩ := r1
  obtain ⟨t', rfl⟩ := r2
  exact iadd_int ⟨.int _, H, I.tok _, ⟨_, rfl⟩, q⟩
theorem ip_sub : PIp X .Sub (ipI fun i j => i - j) := by
  intro pins s σ H x y v u Q I r1 r2 h
  obtain ⟨i, j, e1, e2, q⟩ := h
  subst e1; subst e2
  obtain ⟨t, rfl⟩ := r1
  obtain ⟨t', rfl⟩ := r2
  exact isub_int ⟨.int _, H, I.tok _, ⟨_, rfl⟩, q⟩
end
section
variable {X : Cx} {pos : Pos}
def tWhile (c : TT) (tb : TS) : TS := fun D σ H => ∃ W : Nat → St → Hp → Prop, (∃ m, W m σ H) ∧ ∀ m σ H, W m σ H →
  c σ H fun b H1 => if b = true then ∃ N : St → Hp → Prop, (∀ σ' H', N σ' H' → ∃ m', m' < m ∧ W m' σ' H') ∧ tb { D with nx := N, ct := N, bk := D.nx } σ H1 else D.nx σ H1
theorem ps_while {c : Expr} {body : List Stmt} {tc : TT} {tb : TS} (hp : PassesOwn (model X.prog X.w) X.A X.env X.xe) (hc : PT X c tc) (hb : PSs X body tb) : PS X (.While c body [] pos) (tWhile tc tb) := by
  intro pins s σ H D I h
  obtain ⟨W, ⟨m0, w0⟩, turn⟩ := h
  refine wpAny_While (codeAny_whileLoop (fun n s' => ∃ σ' H', Inv X pins σ' H' s' ∧ W n σ' H') ?_ m0 ⟨σ, H, I, w0⟩)
  rintro n s1 ⟨σ1, H1, I1, w1⟩
  refine wpAny_passesOwn hp (thn (hc pins s1 σ1 H1 _ I1 (turn n σ1 H1 w1)) fun b s2 ⟨H2, I2, q2⟩ => ?_)
  cases b with
  | true =>
    obtain ⟨N, hN, q2⟩ := q2
    rw [if_pos rfl]
    refine wpAny_passesOwn hp (thn (hb pins s2 σ1 H2 _ I2 q2) fun f s3 q3 => ?_)
    cases f with
    | next =>
      obtain ⟨σ3, H3, I3, n3⟩ := q3
      obtain ⟨m', hm, w3⟩ := hN σ3 H3 n3
      exact ⟨m', hm, σ3, H3, I3, w3⟩
    | cont =>
      obtain ⟨σ3, H3, I3, n3⟩ := q3
      obtain ⟨m', hm, w3⟩ := hN σ3 H3 n3
      exact ⟨m', hm, σ3, H3, I3, w3⟩
    | brk => exact q3
    | ret v => exact q3
  | false =>
    rw [if_neg Bool.false_ne_true]
    exact wpAny_execs_nil ⟨σ1, H2, I2, q2⟩
end
structure It where
  go : Nat → Hp → Prop
  yld : Nat → Hp → V → Hp → Prop
  stop : Nat → Hp → Prop
def FpOk (X : Cx) (pins : List (Addr × Obj)) (H : Hp) (b : Addr) : Prop :=
  H b = none ∧ b ≠ X.env.locals ∧ b ∉ X.fs ∧ (b ∈ X.ex ∨ X.s_0.heap.objs.size ≤ b) ∧ (∀ x c, X.env.cells.lookup x = some c → c ≠ b) ∧ ∀ p ∈ X.pn ++ pins, p.1 ≠ b
theorem Inv.fpOk {X : Cx} {pins : List (Addr × Obj)} {σ : St} {H H' : Hp} {s : Shared} {b : Addr} (I : Inv X pins σ H s) (hb : s.heap.objs.size ≤ b) (hn : H' b = none) : FpOk X pins H' b := by
  refine ⟨hn, Nat.ne_of_gt (Nat.lt_of_lt_of_le I.lt hb), I.nofs hb, .inr (Nat.le_trans I.sz hb), fun x c e z => ?_, fun p hp z => ?_⟩
  · obtain ⟨v, q⟩ := I.cell x c e
    exact absurd (Nat.lt_of_lt_of_le q.lt (by rw [z]; exact hb)) (Nat.lt_irrefl _)
  · exact absurd (Nat.lt_of_lt_of_le (Heap.lt_size (I.pin p hp).1) (by rw [z]; exact hb)) (Nat.lt_irrefl _)
structure Turn (P : Program) (w : World) (K : PySem.W.Frag) (tg : Expr) (J : It) (fp : List Addr) (it : Addr) (tn : Nat → Heap → Prop) : Prop where
  mem : it ∈ fp
  obj : ∀ i h, tn i h → ∀ b ∈ fp, ∃ o, h.get? b = some o ∧ ∀ v, o.data ≠ .cell v
  keep : ∀ i h h', tn i h → (∀ b ∈ fp, ∀ o, h.get? b = some o → h'.get? b = some o) → tn i h'
  item : ∀ (X : Cx), X.prog = P → X.w = w → X.K = K → X.calm = true → ∀ (i : Nat) (pins : List (Addr × Obj)) (s : Shared) (σ : St) (H : Hp) (E : Value → Shared → Prop), Inv X pins σ H s → (∀ b ∈ fp, FpOk X pins H b) → tn i s.heap → J.go i H →
    wpAny (model P w) X.A (pyNext (.ref it)) (fun r s1 => ∃ u, r = some u ∧
      wpAny (model P w) X.A (letOwnedTupleGo tg (.ref it) u) (fun _ s2 => ∃ x H', Inv X pins σ H' s2 ∧ RelV x u ∧ J.yld i H x H' ∧ tn (i + 1) s2.heap ∧ ∀ b ∈ fp, H' b = none) E s1) E s
  done : ∀ (X : Cx), X.prog = P → X.w = w → X.K = K → X.calm = true → ∀ (i : Nat) (pins : List (Addr × Obj)) (s : Shared) (σ : St) (H : Hp) (E : Value → Shared → Prop), Inv X pins σ H s → (∀ b ∈ fp, FpOk X pins H b) → tn i s.heap → J.stop i H →
    wpAny (model P w) X.A (pyNext (.ref it)) (fun r s1 => r = none ∧ Inv X pins σ H s1) E s
  self : ∀ (A : Around) (i : Nat) (s : Shared) (Q : Value → Shared → Prop) (E : Value → Shared → Prop), tn i s.heap → Q (.ref it) s → wpAny (model P w) A (pyIter (.ref it)) Q E s
abbrev TI := St → Hp → (It → Hp → Prop) → Prop
def PIE (X : Cx) (pins : List (Addr × Obj)) (σ : St) (tg : Expr) (R : It → Hp → Prop) (itv : Value) (s2 : Shared) : Prop :=
  ∃ (it : Addr) (fp : List Addr) (tn : Nat → Heap → Prop) (J : It) (H' : Hp), itv = .ref it ∧ Inv X pins σ H' s2 ∧ Turn X.prog X.w X.K tg J fp it tn ∧ tn 0 s2.heap ∧ (∀ b ∈ fp, FpOk X pins H' b) ∧ R J H'
def PI (X : Cx) (tg iter : Expr) (wi : TI) : Prop :=
  ∀ (pins : List (Addr × Obj)) (s : Shared) (σ : St) (H : Hp) (R : It → Hp → Prop), Inv X pins σ H s → wi σ H R →
    wpAny (model X.prog X.w) X.A (eval iter X.env) (fun v s1 => wpAny (model X.prog X.w) X.A (pyIter v) (PIE X pins σ tg R) X.xe s1) X.xe s
theorem go_of {M : Model} {A : Around} {E : Value → Shared → Prop} {s : Shared} {tg : Expr} {it : Addr} {u : Value} {o : Obj} {n : String} {vs : Array Value} {Q : Unit → Shared → Prop} (ho : s.heap.get? it = some o) (hc : o.cls = .type n) (hd : o.data = .fields vs)
    (hn : ["enumerate", "zip", "dict_itemiterator", "dict_reverseitemiterator", "odict_iterator", "itertools.zip_longest", "itertools.pairwise"].contains n = false) (hQ : Q () s) : wpAny M A (letOwnedTupleGo tg (.ref it) u) Q E s := by
  unfold letOwnedTupleGo
  cases tg <;> first
    | exact wpAny_pure hQ
    | (cases u <;> first
        | exact wpAny_pure hQ
        | (refine wpAny_bind (wpAny_load ho ?_)
           rw [hc, hd]
           show wpAny M A (if (["enumerate", "zip", "dict_itemiterator", "dict_reverseitemiterator", "odict_iterator", "itertools.zip_longest", "itertools.pairwise"].contains n && vs[0]? == some (rawInt _)) = true then _ else _) Q E s
           rw [if_neg (by intro h; rw [hn, Bool.false_and] at h; cases h)]
           exact wpAny_pure hQ))
def Itl (K : PySem.W.Frag) (a : Addr) : It :=
  ⟨fun i H => ∃ xs x, SqL K H a xs ∧ xs[i]? = some x, fun i H x H' => H' = H ∧ ∀ xs, SqL K H a xs → xs[i]? = some x, fun i H => ∃ xs, SqL K H a xs ∧ xs.length ≤ i⟩
def Itr (lo : Int) (n : Nat) : It := ⟨fun i _ => i < n, fun i H x H' => H' = H ∧ x = .int (lo + i), fun i _ => n ≤ i⟩
theorem turn_list {P : Program} {w : World} {K : PySem.W.Frag} {tg : Expr} (a it : Addr) : Turn P w K tg (Itl K a) [it] it (fun i h => h.IsListIter it a i) where
  mem := by simp
  obj := fun i h st b hb => by
    have e : b = it := by simpa using hb
    subst e
    obtain ⟨o, e, c, d⟩ := st
    exact ⟨o, e, fun v z => by rw [d] at z; cases z⟩
  keep := fun i h h' st k => st.at fun o e => k it (by simp) o e
  item := by
    intro X hP hw hK hc i pins s σ H E I hf st hg
    subst hP hw hK
    obtain ⟨xs, x, hq, hx⟩ := hg
    obtain ⟨its, rv, p, hz⟩ := I.list hq
    obtain ⟨u, hu, ru⟩ := rv.get hx
    obtain ⟨f0, f1, f2, f3, f4, f5⟩ := hf it (by simp)
    refine wpAny_pyNext_list_item st p.isList (x := u) (by simpa using hu) fun h' st' sb => ?_
    have I1 : Inv X pins σ H { s with heap := h' } := I.turned (t' := s.toks) (fun b o hb e => (sb.2 b hb).trans e) f0 f1 f3 f4 f5
    obtain ⟨o, e, c, d⟩ := id st'
    exact ⟨u, rfl, go_of (s := { s with heap := h' }) e c d (by decide) ⟨x, H, I1, ru, ⟨rfl, fun ys hy => by rw [I.list_inj hy hq]; exact hx⟩, st', fun b hb => (hf b hb).1⟩⟩
  done := by
    intro X hP hw hK hc i pins s σ H E I hf st hg
    subst hP hw hK
    obtain ⟨xs, hq, hx⟩ := hg
    obtain ⟨its, rv, p, hz⟩ := I.list hq
    obtain ⟨f0, f1, f2, f3, f4, f5⟩ := hf it (by simp)
    have hl := rv.length
    exact wpAny_pyNext_list_end (I.ok.hd hc) st p.isList (by simp; omega) fun h' eb => ⟨rfl, I.turned (t' := s.toks) (fun b o hb e => eb b o hb e) f0 f1 f3 f4 f5⟩
  self := fun _ _ _ _ _ st h => wpAny_pyIter_listiter st h
theorem turn_range {P : Program} {w : World} {K : PySem.W.Frag} {tg : Expr} (it : Addr) (lo : Int) (n : Nat) : Turn P w K tg (Itr lo n) [it] it (fun i h => IsRangeIter h it (lo + (i : Nat) * 1) ((n : Int) - (i : Nat)) 1) where
  mem := by simp
  obj := fun i h st b hb => by
    have e : b = it := by simpa using hb
    subst e
    exact ⟨_, st, fun v z => by
      have z' : Data.fields _ = Data.cell v := z
      cases z'⟩
  keep := fun i h h' st k => k it (by simp) _ st
  item := by
    intro X hP hw hK hc i pins s σ H E I hf st hg
    subst hP hw hK
    obtain ⟨f0, f1, f2, f3, f4, f5⟩ := hf it (by simp)
    have W := Walks.range (prog := X.prog) (w := X.w) (I.ok.hd hc) it lo 1 n
    refine W.item i s _ _ hg st fun v h' tk hv st' kk => ?_
    obtain ⟨t, rfl⟩ := hv
    have I1 : Inv X pins σ H { s with heap := h', toks := tk } := I.turned (fun b o hb e => kk b o (by simpa using hb) e) f0 f1 f3 f4 f5
    refine ⟨_, rfl, go_of (s := { s with heap := h', toks := tk }) (n := "range_iterator") st' rfl rfl (by decide) ⟨.int (lo + i), H, I1, ⟨t, ?_⟩, ⟨rfl, rfl⟩, st', fun b hb => (hf b hb).1⟩⟩
    rw [Int.mul_one]
  done := by
    intro X hP hw hK hc i pins s σ H E I hf st hg
    subst hP hw hK
    obtain ⟨f0, f1, f2, f3, f4, f5⟩ := hf it (by simp)
    exact wpAny_pyNext_range_end (I.ok.hd hc) st (by have : n ≤ i := hg; omega) fun h' eb => ⟨rfl, I.turned (t' := s.toks) (fun b o hb e => eb b o hb e) f0 f1 f3 f4 f5⟩
  self := fun _ _ _ _ _ st h => wpAny_pyIter_rangeiter st h
end L2
namespace L2
open PySem PySem.Spec PyProof.Rows
section
variable {X : Cx} {tg : Expr}
def iList (K : PySem.W.Frag) (tl : TE) : TI := fun σ H R => tl σ H fun x H1 => ∃ a, x = .ref a ∧ (∃ xs, SqL K H1 a xs) ∧ R (Itl K a) H1
theorem pi_list {l : Expr} {tl : TE} (hl : PE X l tl) : PI X tg l (iList X.K tl) := by
  intro pins s σ H R I h
  refine thn (hl pins s σ H _ I h) fun v s1 ⟨x, H1, I1, r1, q1⟩ => ?_
  obtain ⟨a, e, ⟨xs, hq⟩, q⟩ := q1
  subst e
  cases r1
  obtain ⟨its, rv, p, hz⟩ := I1.list hq
  refine wpAny_pyIter_list p.isList ?_
  refine ⟨s1.heap.objs.size, [s1.heap.objs.size], _, _, H1, rfl, I1.kept (t' := s1.toks) fun b o e => Heap.get?_push_of_some _ e, turn_list a _, ⟨_, Heap.get?_push_size _ rfl, rfl, rfl⟩, fun b hb => ?_, q⟩
  have e : b = s1.heap.objs.size := by simpa using hb
  subst e
  exact I1.fpOk (Nat.le_refl _) (I1.hok.fresh (Nat.le_refl _))
theorem range_it {pins : List (Addr × Obj)} {σ : St} {H : Hp} {s : Shared} {R : It → Hp → Prop} {E : Value → Shared → Prop} {lo hi : Int} {t u v : Tok} {tk : Nat} (I : Inv X pins σ H s) (h1 : -(2 ^ 62) ≤ lo) (h2 : lo < 2 ^ 62) (h3 : -(2 ^ 62) ≤ hi) (h4 : hi < 2 ^ 62)
    (q : R (Itr lo (hi - lo).toNat) H) : wpAny (model X.prog X.w) X.A (pyIter (.ref s.heap.objs.size)) (PIE X pins σ tg R) E { s with heap := s.heap.push { cls := .type "range", data := .fields #[.int lo t, .int hi u, .int 1 v] }, toks := tk } := by
  refine wpAny_pyIter_range (IsRange.new ..) (small_one h1 h2 h3 h4) ?_
  have I1 : Inv X pins σ H { s with heap := s.heap.push { cls := .type "range", data := .fields #[.int lo t, .int hi u, .int 1 v] }, toks := tk } := I.kept fun b o e => Heap.get?_push_of_some _ e
  refine ⟨(s.heap.push { cls := .type "range", data := .fields #[.int lo t, .int hi u, .int 1 v] }).objs.size, [(s.heap.push { cls := .type "range", data := .fields #[.int lo t, .int hi u, .int 1 v] }).objs.size], _, _, H, rfl,
    I1.kept (t' := tk) fun b o e => Heap.get?_push_of_some _ e, turn_range _ lo (hi - lo).toNat, ?_, fun b hb => ?_, q⟩
  · have e1 : lo + ((0 : Nat) : Int) * 1 = lo := by simp
    have e2 : (((hi - lo).toNat : Nat) : Int) - ((0 : Nat) : Int) = Builtin.Range.rangeSize lo hi 1 := by rw [rangeSize_one]; split <;> omega
    show IsRangeIter _ _ (lo + ((0 : Nat) : Int) * 1) ((((hi - lo).toNat : Nat) : Int) - ((0 : Nat) : Int)) 1
    rw [e1, e2]
    exact Heap.get?_push_size _ rfl
  · have e : b = (s.heap.push { cls := .type "range", data := .fields #[.int lo t, .int hi u, .int 1 v] }).objs.size := by simpa using hb
    subst e
    exact I1.fpOk (Nat.le_refl _) (I1.hok.fresh (Nat.le_refl _))
def iRng1 (ta : TA) : TI := fun σ H R => ta σ H fun vs H1 => ∃ j : Int, vs = [.int j] ∧ -(2 ^ 62) ≤ j ∧ j < 2 ^ 62 ∧ R (Itr 0 j.toNat) H1
theorem pi_range1 {a : Expr} {ta : TA} {p pos : Pos} (hg : Gl X "range") (hm : X.mg "range" = none) (ha : PA X [a] ta) (hs : starEach [a] X.env = [(false, eval a X.env)] := by rfl) : PI X tg (.Call (.Name "range" p) [a] [] pos) (iRng1 ta) := by
  intro pins s σ H R I h
  refine Call_ (ld_blt I hg hm boot_range (PyProof.Rows.callWith_type1 (thn (ha pos pins s σ H _ I h) fun us s1 ⟨vs, H1, I1, r1, q1⟩ => ?_) hs rfl))
  obtain ⟨j, e, q1, q2, q⟩ := q1
  subst e
  cases r1 with
  | cons r rr =>
    cases rr
    obtain ⟨t, rfl⟩ := r
    exact call_range_1 (range_it I1 (by omega) (by omega) q1 q2 (by simpa using q))
def tFor (wi : TI) (g : TG) (tb : TS) : TS := fun D σ H => wi σ H fun J H1 => ∃ W : Nat → Nat → St → Hp → Prop, (∃ m, W 0 m σ H1) ∧ ∀ i m σ H, W i m σ H →
  (J.stop i H ∧ D.nx σ H) ∨ (J.go i H ∧ ∃ N : St → Hp → Prop, (∀ σ' H', N σ' H' → ∃ m', m' < m ∧ W (i + 1) m' σ' H') ∧ ∀ x H', J.yld i H x H' → g x σ H' fun σ2 H2 => tb { D with nx := N, ct := N, bk := D.nx } σ2 H2)
def pinsAt (fp : List Addr) (h : Heap) : List (Addr × Obj) := fp.filterMap fun b => (h.get? b).map fun o => (b, o)
theorem mem_pinsAt {fp : List Addr} {h : Heap} {b : Addr} {o : Obj} (hb : b ∈ fp) (e : h.get? b = some o) : (b, o) ∈ pinsAt fp h := List.mem_filterMap.mpr ⟨b, hb, by rw [e]; rfl⟩
theorem of_pinsAt {fp : List Addr} {h : Heap} {p : Addr × Obj} (hp : p ∈ pinsAt fp h) : p.1 ∈ fp ∧ h.get? p.1 = some p.2 := by
  obtain ⟨b, hb, e⟩ := List.mem_filterMap.mp hp
  cases q : h.get? b with
  | none => rw [q] at e; cases e
  | some o =>
    rw [q] at e
    have e' : (b, o) = p := Option.some.inj e
    subst e'
    exact ⟨hb, q⟩
theorem Inv.pinned {pins : List (Addr × Obj)} {σ : St} {H : Hp} {s : Shared} {fp : List Addr} (I : Inv X pins σ H s) (hf : ∀ b ∈ fp, FpOk X pins H b) (ho : ∀ b ∈ fp, ∃ o, s.heap.get? b = some o ∧ ∀ v, o.data ≠ .cell v) : Inv X (pins ++ pinsAt fp s.heap) σ H s :=
  I.pins_of fun p hp => (List.mem_append.mp hp).elim (fun z => I.pin p (List.mem_append_right _ z)) fun z => by
    obtain ⟨hb, e⟩ := of_pinsAt z
    obtain ⟨f0, f1, f2, _⟩ := hf p.1 hb
    obtain ⟨o, e', d⟩ := ho p.1 hb
    rw [e] at e'; cases e'
    exact ⟨e, f0, f1, f2, d⟩
theorem Inv.unpinned {pins pl : List (Addr × Obj)} {σ : St} {H : Hp} {s : Shared} (I : Inv X (pins ++ pl) σ H s) : Inv X pins σ H s := I.pins_of fun p hp => I.pin p (List.mem_append_right _ (List.mem_append_left _ hp))
theorem ps_for {iter : Expr} {body : List Stmt} {wi : TI} {g : TG} {tb : TS} {pos : Pos} (hp : PassesOwn (model X.prog X.w) X.A X.env X.xe) (hc : X.calm = true) (hi : PI X tg iter wi) (hg : PG X tg g) (hb : PSs X body tb)
    (hs : ∀ x, foldedSetIterable iter X.env x = pure x := by intro _; rfl) : PS X (.For tg iter body [] pos) (tFor wi g tb) := by
  intro pins s σ H D I h
  refine wpAny_For (thn (hi pins s σ H _ I h) fun v s1 h1 => thn h1 fun itv s2 h2 => ?_) hs
  obtain ⟨it, fp, tn, J, H2, e, I2, T, st2, f2, W, ⟨m0, w0⟩, turn⟩ := h2
  subst e
  -- what stays true of the iterator's objects through the loop
  have stat : ∀ {H' : Hp}, (∀ b ∈ fp, H' b = none) → ∀ b ∈ fp, FpOk X pins H' b := fun hn b hb => ⟨hn b hb, (f2 b hb).2⟩
  refine codeAny_forLoop_any (fun n s' => ∃ i σ' H', Inv X pins σ' H' s' ∧ tn i s'.heap ∧ (∀ b ∈ fp, H' b = none) ∧ W i n σ' H') ?_ m0 ⟨0, σ, H2, I2, st2, fun b hb => (f2 b hb).1, w0⟩
  rintro n s3 ⟨i, σ3, H3, I3, st3, fr3, w3⟩
  rcases turn i n σ3 H3 w3 with ⟨stop, qn⟩ | ⟨go, N, hN, step⟩
  · refine wpAny_passesOwn hp (thn (T.done X rfl rfl rfl hc i pins s3 σ3 H3 X.xe I3 (stat fr3) st3 stop) fun r s4 ⟨hr, I4⟩ => ?_)
    subst hr
    exact wpAny_execs_nil ⟨σ3, H3, I4, qn⟩
  · refine wpAny_passesOwn hp (thn (T.item X rfl rfl rfl hc i pins s3 σ3 H3 X.xe I3 (stat fr3) st3 go) fun r s4 ⟨u, hr, h4⟩ => ?_)
    subst hr
    refine wpAny_passesOwn hp (thn h4 fun _ s5 ⟨x, H5, I5, r5, y5, st5, fr5⟩ => ?_)
    have I5' := I5.pinned (stat fr5) (T.obj _ _ st5)
    refine wpAny_passesOwn hp (thn (hg _ s5 σ3 H5 x u _ I5' r5 (step x H5 y5)) fun _ s6 ⟨σ6, H6, I6, q6⟩ => ?_)
    refine wpAny_passesOwn hp (thn (hb _ s6 σ6 H6 _ I6 q6) fun f s7 q7 => ?_)
    have again : ∀ {σ7 : St} {H7 : Hp}, Inv X (pins ++ pinsAt fp s5.heap) σ7 H7 s7 → N σ7 H7 → ∃ m, m < n ∧ ∃ i σ' H', Inv X pins σ' H' s7 ∧ tn i s7.heap ∧ (∀ b ∈ fp, H' b = none) ∧ W i m σ' H' := fun {σ7 H7} I7 n7 => by
      obtain ⟨m', hm, w7⟩ := hN σ7 H7 n7
      refine ⟨m', hm, i + 1, σ7, H7, I7.unpinned, T.keep _ _ _ st5 fun b hb o e => (I7.pin (b, o) (List.mem_append_right _ (List.mem_append_right _ (mem_pinsAt hb e)))).1, fun b hb => ?_, w7⟩
      obtain ⟨o, e, d⟩ := T.obj _ _ st5 b hb
      exact (I7.pin (b, o) (List.mem_append_right _ (List.mem_append_right _ (mem_pinsAt hb e)))).2.1
    cases f with
    | next => obtain ⟨σ7, H7, I7, n7⟩ := q7; exact again I7 n7
    | cont => obtain ⟨σ7, H7, I7, n7⟩ := q7; exact again I7 n7
    | brk => obtain ⟨σ7, H7, I7, q7⟩ := q7; exact ⟨σ7, H7, I7.unpinned, q7⟩
    | ret v => obtain ⟨x7, σ7, H7, I7, r7, q7⟩ := q7; exact ⟨x7, σ7, H7, I7.unpinned, r7, q7⟩
end
theorem for_list {K : PySem.W.Frag} {a : Addr} {xs : List V} {g : TG} {tb : TS} {D : Ends} {σ : St} {H : Hp} (Pv : Nat → St → Hp → Prop) (h0 : Pv 0 σ H) (hl : ∀ i σ H, i ≤ xs.length → Pv i σ H → SqL K H a xs)
    (hs : ∀ i x σ H, xs[i]? = some x → Pv i σ H → g x σ H fun σ2 H2 => tb { D with nx := Pv (i + 1), ct := Pv (i + 1), bk := D.nx } σ2 H2) (hd : ∀ σ H, Pv xs.length σ H → D.nx σ H) :
    ∃ W : Nat → Nat → St → Hp → Prop, (∃ m, W 0 m σ H) ∧ ∀ i m σ H, W i m σ H →
      ((Itl K a).stop i H ∧ D.nx σ H) ∨ ((Itl K a).go i H ∧ ∃ N : St → Hp → Prop, (∀ σ' H', N σ' H' → ∃ m', m' < m ∧ W (i + 1) m' σ' H') ∧ ∀ x H', (Itl K a).yld i H x H' → g x σ H' fun σ2 H2 => tb { D with nx := N, ct := N, bk := D.nx } σ2 H2) := by
  refine ⟨fun i m σ H => m = xs.length - i ∧ i ≤ xs.length ∧ Pv i σ H, ⟨xs.length, by simp, Nat.zero_le _, h0⟩, ?_⟩
  rintro i m σ H ⟨rfl, hi, p⟩
  have q := hl i σ H hi p
  by_cases hlt : i < xs.length
  · refine .inr ⟨⟨xs, xs[i], q, by simp [hlt]⟩, Pv (i + 1), fun σ' H' p' => ⟨xs.length - (i + 1), by omega, rfl, hlt, p'⟩, fun x H' y => ?_⟩
    obtain ⟨e, y⟩ := y
    subst e
    exact hs i x σ _ (y xs q) p
  · have e : i = xs.length := by omega
    subst e
    exact .inl ⟨⟨xs, q, Nat.le_refl _⟩, hd σ H p⟩
theorem for_range {lo : Int} {n : Nat} {g : TG} {tb : TS} {D : Ends} {σ : St} {H : Hp} (Pv : Nat → St → Hp → Prop) (h0 : Pv 0 σ H)
    (hs : ∀ i σ H, i < n → Pv i σ H → g (.int (lo + i)) σ H fun σ2 H2 => tb { D with nx := Pv (i + 1), ct := Pv (i + 1), bk := D.nx } σ2 H2) (hd : ∀ σ H, Pv n σ H → D.nx σ H) :
    ∃ W : Nat → Nat → St → Hp → Prop, (∃ m, W 0 m σ H) ∧ ∀ i m σ H, W i m σ H →
      ((Itr lo n).stop i H ∧ D.nx σ H) ∨ ((Itr lo n).go i H ∧ ∃ N : St → Hp → Prop, (∀ σ' H', N σ' H' → ∃ m', m' < m ∧ W (i + 1) m' σ' H') ∧ ∀ x H', (Itr lo n).yld i H x H' → g x σ H' fun σ2 H2 => tb { D with nx := N, ct := N, bk := D.nx } σ2 H2) := by
  refine ⟨fun i m σ H => m = n - i ∧ i ≤ n ∧ Pv i σ H, ⟨n, by simp, Nat.zero_le _, h0⟩, ?_⟩
  rintro i m σ H ⟨rfl, hi, p⟩
  by_cases hlt : i < n
  · refine .inr ⟨hlt, Pv (i + 1), fun σ' H' p' => ⟨n - (i + 1), by omega, rfl, hlt, p'⟩, fun x H' y => ?_⟩
    obtain ⟨e, y⟩ := y
    subst e y
    exact hs i σ _ hlt p
  · have e : i = n := by omega
    subst e
    exact .inl ⟨Nat.le_refl _, hd σ H p⟩
end L2
namespace L2
open PySem PySem.Spec PyProof.Rows
abbrev R2 := V → V → Hp → VK → Prop
def OpR (X : Cx) (f : Value → Value → Sem Value) (r : R2) : Prop :=
  ∀ (pins : List (Addr × Obj)) (s : Shared) (σ : St) (H : Hp) (x y : V) (v u : Value) (Q : VK), Inv X pins σ H s → RelV x v → RelV y u → r x y H Q →
    wpAny (model X.prog X.w) X.A (f v u) (EP X pins σ Q) X.xe s
def UnR (X : Cx) (f : Value → Sem Value) (r : V → Hp → VK → Prop) : Prop :=
  ∀ (pins : List (Addr × Obj)) (s : Shared) (σ : St) (H : Hp) (x : V) (v : Value) (Q : VK), Inv X pins σ H s → RelV x v → r x H Q →
    wpAny (model X.prog X.w) X.A (f v) (EP X pins σ Q) X.xe s
def CallR (X : Cx) (f : Value) (r : List V → Hp → VK → Prop) : Prop :=
  ∀ (pins : List (Addr × Obj)) (s : Shared) (σ : St) (H : Hp) (xs : List V) (us : List Value) (Q : VK), Inv X pins σ H s → Vals xs us → r xs H Q →
    wpAny (model X.prog X.w) X.A (call f us) (EP X pins σ Q) X.xe s
def TruR (X : Cx) (r : V → Hp → (Bool → Hp → Prop) → Prop) : Prop :=
  ∀ (pins : List (Addr × Obj)) (s : Shared) (σ : St) (H : Hp) (x : V) (v : Value) (Q : Bool → Hp → Prop), Inv X pins σ H s → RelV x v → r x H Q →
    wpAny (model X.prog X.w) X.A (truthy v) (TP X pins σ Q) X.xe s
def tOp (r : R2) (ta tb : TE) : TE := fun σ H Q => ta σ H fun x H1 => tb σ H1 fun y H2 => r x y H2 Q
def tUn (r : V → Hp → VK → Prop) (ta : TE) : TE := fun σ H Q => ta σ H fun x H1 => r x H1 Q
def rI (C : Int → Int → Prop) (g : Int → Int → V) : R2 := fun x y H Q => ∃ i j, x = .int i ∧ y = .int j ∧ C i j ∧ Q (g i j) H
def rI0 (g : Int → Int → V) : R2 := fun x y H Q => ∃ i j, x = .int i ∧ y = .int j ∧ Q (g i j) H
def rU (g : Int → V) : V → Hp → VK → Prop := fun x H Q => ∃ i, x = .int i ∧ Q (g i) H
section
variable {X : Cx} {a b c : Expr} {ta tb tc : TE} {pos : Pos}
theorem binT (ha : PE X a ta) (hb : PE X b tb) {pins : List (Addr × Obj)} {s : Shared} {σ : St} {H : Hp} {R : V → V → Hp → Prop} (I : Inv X pins σ H s)
    (h : ta σ H fun x H1 => tb σ H1 fun y H2 => R x y H2) {Q : Value → Shared → Prop} {f : Value → Value → Sem Value}
    (hf : ∀ v u s2 x y H2, Inv X pins σ H2 s2 → RelV x v → RelV y u → R x y H2 → wpAny (model X.prog X.w) X.A (f v u) Q X.xe s2) :
    wpAny (model X.prog X.w) X.A (eval a X.env) (fun v s₁ => wpAny (model X.prog X.w) X.A (eval b X.env) (fun u s₂ => wpAny (model X.prog X.w) X.A (f v u) Q X.xe s₂) X.xe s₁) X.xe s := by
  refine thn (ha pins s σ H _ I h) fun v s1 ⟨x, H1, I1, r1, q1⟩ => ?_
  refine thn (hb pins s1 σ H1 _ I1 q1) fun u s2 ⟨y, H2, I2, r2, q2⟩ => ?_
  exact hf v u s2 x y H2 I2 r1 r2 q2
theorem pe_op {op : Operator} {r : R2} (ho : OpR X (binaryOp op) r) (ha : PE X a ta) (hb : PE X b tb) : PE X (.BinOp a op b pos) (tOp r ta tb) := by
  intro pins s σ H Q I h
  exact wpAny_BinOp (binT ha hb I h fun v u s2 x y H2 I2 rx ry q => ho pins s2 σ H2 x y v u Q I2 rx ry q)
theorem pe_un {op : UnaryOp} {r : V → Hp → VK → Prop} (ho : UnR X (unaryOp op) r) (ha : PE X a ta) : PE X (.UnaryOp op a pos) (tUn r ta) := by
  intro pins s σ H Q I h
  exact UnaryOp_ (thn (ha pins s σ H _ I h) fun v s1 ⟨x, H1, I1, r1, q1⟩ => ho pins s1 σ H1 x v Q I1 r1 q1)
theorem opI {f : Value → Value → Sem Value} {C : Int → Int → Prop} {g : Int → Int → Int}
    (rule : ∀ (i j : Int) (t u : Tok) (s : Shared) (Q : Value → Shared → Prop) (E : Value → Shared → Prop), C i j → Q (.int (g i j) s.toks) { s with toks := s.toks + 1 } → wpAny (model X.prog X.w) X.A (f (.int i t) (.int j u)) Q E s) :
    OpR X f (rI C fun i j => .int (g i j)) := by
  intro pins s σ H x y v u Q I rx ry h
  obtain ⟨i, j, rfl, rfl, hc, q⟩ := h
  obtain ⟨t, rfl⟩ := rx
  obtain ⟨t', rfl⟩ := ry
  exact rule i j t t' s _ _ hc ⟨.int (g i j), H, I.tok _, ⟨_, rfl⟩, q⟩
theorem opI0 {f : Value → Value → Sem Value} {g : Int → Int → Int}
    (rule : ∀ (i j : Int) (t u : Tok) (s : Shared) (Q : Value → Shared → Prop) (E : Value → Shared → Prop), Q (.int (g i j) s.toks) { s with toks := s.toks + 1 } → wpAny (model X.prog X.w) X.A (f (.int i t) (.int j u)) Q E s) :
    OpR X f (rI0 fun i j => .int (g i j)) := by
  intro pins s σ H x y v u Q I rx ry h
  obtain ⟨i, j, rfl, rfl, q⟩ := h
  obtain ⟨t, rfl⟩ := rx
  obtain ⟨t', rfl⟩ := ry
  exact rule i j t t' s _ _ ⟨.int (g i j), H, I.tok _, ⟨_, rfl⟩, q⟩
theorem opB0 {f : Value → Value → Sem Value} {g : Int → Int → Bool}
    (rule : ∀ (i j : Int) (t u : Tok) (s : Shared) (Q : Value → Shared → Prop) (E : Value → Shared → Prop), Q (.bool (g i j)) s → wpAny (model X.prog X.w) X.A (f (.int i t) (.int j u)) Q E s) :
    OpR X f (rI0 fun i j => .bl (g i j)) := by
  intro pins s σ H x y v u Q I rx ry h
  obtain ⟨i, j, rfl, rfl, q⟩ := h
  obtain ⟨t, rfl⟩ := rx
  obtain ⟨t', rfl⟩ := ry
  exact rule i j t t' s _ _ ⟨.bl (g i j), H, I, rfl, q⟩
def CDiv (i j : Int) : Prop := 0 < j ∧ j < 1073741824
def CMul (i j : Int) : Prop := (-(2 ^ 64) < i ∧ i < 2 ^ 64) ∨ (-(2 ^ 64) < j ∧ j < 2 ^ 64)
theorem CMul.ok {i j : Int} (h : CMul i j) : IntMulOk i j := by
  rcases h with ⟨h1, h2⟩ | ⟨h1, h2⟩
  · exact .of_left (intBits_le_64 h1 h2)
  · exact .of_right (intBits_le_64 h1 h2)
theorem two_pow_nn (k : Nat) : (0 : Int) ≤ 2 ^ k := by
  rw [two_pow_cast]
  exact Int.natCast_nonneg _
theorem op_add : OpR X (binaryOp .Add) (rI0 fun i j => .int (i + j)) := opI0 fun _ _ _ _ _ _ _ q => add_int q
theorem op_sub : OpR X (binaryOp .Sub) (rI0 fun i j => .int (i - j)) := opI0 fun _ _ _ _ _ _ _ q => sub_int q
theorem op_mul : OpR X (binaryOp .Mult) (rI CMul fun i j => .int (i * j)) := opI fun _ _ _ _ _ _ _ hc q => mul_int q hc.ok
theorem op_fdiv : OpR X (binaryOp .FloorDiv) (rI CDiv fun i j => .int (i / j)) := opI fun i j _ _ _ _ _ hc q => by
  have h1 : (0 : Int) < j := hc.1
  have h2 : j < 1073741824 := hc.2
  exact floordiv_int (by omega) (by rw [Int.fdiv_eq_ediv_of_nonneg i (by omega)]; exact q) (.inl (PyProof.noPylong_small (by omega)))
theorem op_mod : OpR X (binaryOp .Mod) (rI (fun _ j => 0 < j) fun i j => .int (i % j)) := opI fun i j _ _ _ _ _ hc q => by
  have h1 : (0 : Int) < j := hc
  exact mod_int' (by omega) (by rw [Int.fmod_eq_emod_of_nonneg i (by omega)]; exact q)
theorem op_shr : OpR X (binaryOp .RShift) (rI (fun _ j => 0 ≤ j) fun i j => .int (i / 2 ^ j.toNat)) := opI fun i j _ _ _ _ _ hc q =>
  rshift_int hc (by rw [Int.fdiv_eq_ediv_of_nonneg i (two_pow_nn _)]; exact q)
theorem unI {f : Value → Sem Value} {g : Int → Int}
    (rule : ∀ (i : Int) (t : Tok) (s : Shared) (Q : Value → Shared → Prop) (E : Value → Shared → Prop), Q (.int (g i) s.toks) { s with toks := s.toks + 1 } → wpAny (model X.prog X.w) X.A (f (.int i t)) Q E s) :
    UnR X f (rU fun i => .int (g i)) := by
  intro pins s σ H x v Q I rx h
  obtain ⟨i, rfl, q⟩ := h
  obtain ⟨t, rfl⟩ := rx
  exact rule i t s _ _ ⟨.int (g i), H, I.tok _, ⟨_, rfl⟩, q⟩
theorem un_neg : UnR X (unaryOp .USub) (rU fun i => .int (-i)) := unI fun _ _ _ _ _ q => neg_int q
end
def scal : V → V → Bool
  | .non, .non => true | .non, .int _ => true | .int _, .non => true | .non, .bl _ => true | .bl _, .non => true | .non, .str _ => true | .str _, .non => true
  | .int _, .int _ => true | .bl _, .bl _ => true | .str _, .str _ => true | .byt _, .byt _ => true
  | .int _, .str _ => true | .str _, .int _ => true | .bl _, .str _ => true | .str _, .bl _ => true
  | _, _ => false
def rEq : R2 := fun x y H Q => scal x y = true ∧ Q (.bl (decide (x = y))) H
def rNe : R2 := fun x y H Q => scal x y = true ∧ Q (.bl (!decide (x = y))) H
theorem dec_int {i j : Int} : decide (V.int i = V.int j) = (i == j) := by
  rw [Bool.eq_iff_iff]
  simp
theorem dec_bl {i j : Bool} : decide (V.bl i = V.bl j) = (i == j) := by
  rw [Bool.eq_iff_iff]
  simp
theorem dec_str {i j : Str} : decide (V.str i = V.str j) = (i == j) := by
  rw [Bool.eq_iff_iff]
  simp
theorem dec_byt {i j : Array UInt8} : decide (V.byt i = V.byt j) = (i.toList == j.toList) := by
  rw [Bool.eq_iff_iff]
  cases i
  cases j
  simp
section
variable {X : Cx} {a b c : Expr} {ta tb tc : TE} {pos : Pos}
theorem fin_bl {pins : List (Addr × Obj)} {σ : St} {H : Hp} {s : Shared} {Q : VK} {k k' : Bool} (I : Inv X pins σ H s) (q : Q (.bl k) H) (e : k = k') : EP X pins σ Q (.bool k') s := by
  subst e
  exact ⟨.bl k, H, I, rfl, q⟩
theorem op_eq : OpR X (compareOp .Eq) rEq := by
  intro pins s σ H x y v u Q I rx ry h
  obtain ⟨hs, q⟩ := h
  cases x with
  | non =>
    cases rx
    cases y with
    | non => cases ry; exact PySem.EqNone.eq_none_none (fin_bl I q (by simp))
    | bl j => cases ry; exact PySem.EqNone.eq_none_bool (fin_bl I q (by simp))
    | int j => obtain ⟨t', rfl⟩ := ry; exact PySem.EqNone.eq_none_int (fin_bl I q (by simp))
    | str j => obtain ⟨t', rfl⟩ := ry; exact PySem.EqNone.eq_none_str (fin_bl I q (by simp))
    | _ => exact absurd (show false = true from hs) Bool.false_ne_true
  | bl i =>
    cases rx
    cases y with
    | non => cases ry; exact PySem.EqNone.eq_bool_none (fin_bl I q (by simp))
    | bl j => cases ry; exact eq_bool (fin_bl I q dec_bl)
    | str j => obtain ⟨t', rfl⟩ := ry; exact PySem.EqMixed.eq_bool_str (fin_bl I q (by simp))
    | _ => exact absurd (show false = true from hs) Bool.false_ne_true
  | int i =>
    obtain ⟨t, rfl⟩ := rx
    cases y with
    | non => cases ry; exact PySem.EqNone.eq_int_none (fin_bl I q (by simp))
    | int j => obtain ⟨t', rfl⟩ := ry; exact eq_int (fin_bl I q dec_int)
    | str j => obtain ⟨t', rfl⟩ := ry; exact PySem.EqMixed.eq_int_str (fin_bl I q (by simp))
    | _ => exact absurd (show false = true from hs) Bool.false_ne_true
  | str i =>
    obtain ⟨t, rfl⟩ := rx
    cases y with
    | non => cases ry; exact PySem.EqNone.eq_str_none (fin_bl I q (by simp))
    | bl j => cases ry; exact PySem.EqMixed.eq_str_bool (fin_bl I q (by simp))
    | int j => obtain ⟨t', rfl⟩ := ry; exact PySem.EqMixed.eq_str_int (fin_bl I q (by simp))
    | str j => obtain ⟨t', rfl⟩ := ry; exact eq_str (fin_bl I q dec_str)
    | _ => exact absurd (show false = true from hs) Bool.false_ne_true
  | byt i =>
    obtain ⟨t, rfl⟩ := rx
    cases y with
    | byt j => obtain ⟨t', rfl⟩ := ry; exact PySem.W.eq_bytes (fin_bl I q dec_byt)
    | _ => exact absurd (show false = true from hs) Bool.false_ne_true
  | _ => cases y <;> exact absurd (show false = true from hs) Bool.false_ne_true
theorem op_ne : OpR X (compareOp .NotEq) rNe := by
  intro pins s σ H x y v u Q I rx ry h
  obtain ⟨hs, q⟩ := h
  cases x with
  | non =>
    cases rx
    cases y with
    | non => cases ry; exact PySem.EqNone.ne_none_none (fin_bl I q (by simp))
    | bl j => cases ry; exact PySem.EqNone.ne_none_bool (fin_bl I q (by simp))
    | int j => obtain ⟨t', rfl⟩ := ry; exact PySem.EqNone.ne_none_int (fin_bl I q (by simp))
    | str j => obtain ⟨t', rfl⟩ := ry; exact PySem.EqNone.ne_none_str (fin_bl I q (by simp))
    | _ => exact absurd (show false = true from hs) Bool.false_ne_true
  | bl i =>
    cases rx
    cases y with
    | non => cases ry; exact PySem.EqNone.ne_bool_none (fin_bl I q (by simp))
    | bl j => cases ry; exact ne_bool (fin_bl I q (congrArg not dec_bl))
    | str j => obtain ⟨t', rfl⟩ := ry; exact PySem.EqMixed.ne_bool_str (fin_bl I q (by simp))
    | _ => exact absurd (show false = true from hs) Bool.false_ne_true
  | int i =>
    obtain ⟨t, rfl⟩ := rx
    cases y with
    | non => cases ry; exact PySem.EqNone.ne_int_none (fin_bl I q (by simp))
    | int j => obtain ⟨t', rfl⟩ := ry; exact ne_int (fin_bl I q (congrArg not dec_int))
    | str j => obtain ⟨t', rfl⟩ := ry; exact PySem.EqMixed.ne_int_str (fin_bl I q (by simp))
    | _ => exact absurd (show false = true from hs) Bool.false_ne_true
  | str i =>
    obtain ⟨t, rfl⟩ := rx
    cases y with
    | non => cases ry; exact PySem.EqNone.ne_str_none (fin_bl I q (by simp))
    | bl j => cases ry; exact PySem.EqMixed.ne_str_bool (fin_bl I q (by simp))
    | int j => obtain ⟨t', rfl⟩ := ry; exact PySem.EqMixed.ne_str_int (fin_bl I q (by simp))
    | str j => obtain ⟨t', rfl⟩ := ry; exact ne_str (fin_bl I q (congrArg not dec_str))
    | _ => exact absurd (show false = true from hs) Bool.false_ne_true
  | byt i =>
    obtain ⟨t, rfl⟩ := rx
    cases y with
    | byt j => obtain ⟨t', rfl⟩ := ry; exact PySem.W.ne_bytes (fin_bl I q (congrArg not dec_byt))
    | _ => exact absurd (show false = true from hs) Bool.false_ne_true
  | _ => cases y <;> exact absurd (show false = true from hs) Bool.false_ne_true
theorem op_lt : OpR X (compareOp .Lt) (rI0 fun i j => .bl (decide (i < j))) := opB0 fun _ _ _ _ _ _ _ q => lt_int q
theorem op_le : OpR X (compareOp .LtE) (rI0 fun i j => .bl (decide (i ≤ j))) := opB0 fun _ _ _ _ _ _ _ q => le_int q
theorem op_gt : OpR X (compareOp .Gt) (rI0 fun i j => .bl (decide (j < i))) := opB0 fun _ _ _ _ _ _ _ q => gt_int q
theorem op_ge : OpR X (compareOp .GtE) (rI0 fun i j => .bl (decide (j ≤ i))) := opB0 fun _ _ _ _ _ _ _ q => ge_int q
theorem op_isN : OpR X (compareOp .Is) (fun x y H Q => y = .non ∧ Q (.bl (decide (x = .non))) H) := by
  intro pins s σ H x y v u Q I rx ry h
  obtain ⟨rfl, q⟩ := h
  cases ry
  refine is_none_gen (fin_bl I q ?_)
  cases x <;> first
    | (cases rx; rfl)
    | (obtain ⟨t, rfl⟩ := rx; rfl)
theorem OpR.or {f : Value → Value → Sem Value} {r r' : R2} (h : OpR X f r) (h' : OpR X f r') : OpR X f (fun x y H Q => r x y H Q ∨ r' x y H Q) := by
  intro pins s σ H x y v u Q I rx ry q
  rcases q with q | q
  · exact h pins s σ H x y v u Q I rx ry q
  · exact h' pins s σ H x y v u Q I rx ry q
theorem nomark (b : Expr) {op : CmpOp} (h : op ≠ .In := by decide) (h2 : op ≠ .NotIn := by decide) : behindInMarks op b = false := by
  have e1 : (op == CmpOp.In) = false := by cases op <;> first | rfl | exact absurd rfl h
  have e2 : (op == CmpOp.NotIn) = false := by cases op <;> first | rfl | exact absurd rfl h2
  cases b <;> simp [behindInMarks, e1, e2]
theorem pe_cmpR {op : CmpOp} {r : R2} (ho : OpR X (compareOp op) r) (ha : PE X a ta) (hb : PE X b tb) (hm : behindInMarks op b = false) : PE X (.Compare a [op] [b] pos) (tOp r ta tb) := by
  intro pins s σ H Q I h
  exact wpAny_Compare1 (binT ha hb I h fun v u s2 x y H2 I2 rx ry q => ho pins s2 σ H2 x y v u Q I2 rx ry q) hm
def tTest (t : TE) : TT := fun σ H Q => t σ H fun x H' => ∃ k, x = .bl k ∧ Q k H'
theorem pt_cmpR {op : CmpOp} {r : R2} (ho : OpR X (compareOp op) r) (ha : PE X a ta) (hb : PE X b tb) (hm : behindInMarks op b = false) : PT X (.Compare a [op] [b] pos) (tTest (tOp r ta tb)) := by
  intro pins s σ H Q I h
  refine wpAny_isTrue_Compare1 (thn (ha pins s σ H _ I h) fun v s1 ⟨x, H1, I1, r1, q1⟩ => thn (hb pins s1 σ H1 _ I1 q1) fun u s2 ⟨y, H2, I2, r2, q2⟩ =>
    thn (ho pins s2 σ H2 x y v u _ I2 r1 r2 q2) fun c s3 ⟨z, H3, I3, r3, k, e, q3⟩ => ?_) hm
  subst e
  cases r3
  exact wpAny_truthy_bool ⟨H3, I3, q3⟩
def tChain (r r' : R2) (ta tb tc : TE) : TE := fun σ H Q => ta σ H fun x H1 => tb σ H1 fun y H2 => r x y H2 fun z H3 => ∃ k, z = .bl k ∧
  (if k = true then tc σ H3 fun w' H4 => r' y w' H4 Q else Q (.bl false) H3)
theorem pe_chain {op op' : CmpOp} {r r' : R2} (ho : OpR X (compareOp op) r) (ho' : OpR X (compareOp op') r') (ha : PE X a ta) (hb : PE X b tb) (hc : PE X c tc)
    (hm : lastMarks [op, op'] [b, c] = false := by with_unfolding_all rfl) : PE X (.Compare a [op, op'] [b, c] pos) (tChain r r' ta tb tc) := by
  intro pins s σ H Q I h
  refine Compare_chain (thn (ha pins s σ H _ I h) fun v s1 ⟨x, H1, I1, r1, q1⟩ => chain_link (thn (hb pins s1 σ H1 _ I1 q1) fun u s2 ⟨y, H2, I2, r2, q2⟩ =>
    thn (ho pins s2 σ H2 x y v u _ I2 r1 r2 q2) fun d s3 ⟨z, H3, I3, r3, k, e, q3⟩ => ?_)) hm
  subst e
  cases r3
  refine wpAny_truthy_bool ?_
  cases k with
  | false => exact ite_ff ⟨.bl false, H3, I3, rfl, q3⟩
  | true => exact ite_tt (chain_last (thn (hc pins s3 σ H3 _ I3 q3) fun w' s4 ⟨z', H4, I4, r4, q4⟩ => ho' pins s4 σ H4 y z' u w' Q I4 r2 r4 q4))
theorem pt_chain {op op' : CmpOp} {r r' : R2} (ho : OpR X (compareOp op) r) (ho' : OpR X (compareOp op') r') (ha : PE X a ta) (hb : PE X b tb) (hc : PE X c tc)
    (hm : lastMarks [op, op'] [b, c] = false := by with_unfolding_all rfl) : PT X (.Compare a [op, op'] [b, c] pos) (tTest (tChain r r' ta tb tc)) := by
  intro pins s σ H Q I h
  refine isTrue_chain (thn (ha pins s σ H _ I h) fun v s1 ⟨x, H1, I1, r1, q1⟩ => test_link (thn (hb pins s1 σ H1 _ I1 q1) fun u s2 ⟨y, H2, I2, r2, q2⟩ =>
    thn (ho pins s2 σ H2 x y v u _ I2 r1 r2 q2) fun d s3 ⟨z, H3, I3, r3, k, e, q3⟩ => ?_)) hm
  subst e
  cases r3
  refine wpAny_truthy_bool ?_
  cases k with
  | false =>
    obtain ⟨k', e', q'⟩ := q3
    cases e'
    exact ite_ff ⟨H3, I3, q'⟩
  | true =>
    refine ite_tt (test_last (thn (hc pins s3 σ H3 _ I3 q3) fun w' s4 ⟨z', H4, I4, r4, q4⟩ => thn (ho' pins s4 σ H4 y z' u w' _ I4 r2 r4 q4) fun d' s5 ⟨z2, H5, I5, r5, k2, e2, q5⟩ => ?_))
    subst e2
    cases r5
    exact wpAny_truthy_bool ⟨H5, I5, q5⟩
def TruV (K : PySem.W.Frag) (x : V) (H : Hp) (k : Bool) : Prop :=
  match x with
  | .non => k = false
  | .bl b => k = b
  | .int i => k = (i != 0)
  | .str y => y.length ≤ sizeLine ∧ k = ((y.length : Int) != 0)
  | .byt y => y.size ≤ sizeLine ∧ k = ((y.size : Int) != 0)
  | .ref p => (∃ xs, SqL K H p xs ∧ k = !xs.isEmpty) ∨ (∃ xs, SqT K H p xs ∧ k = !xs.isEmpty) ∨ ∃ kvs, H p = some (.dK kvs) ∧ k = !kvs.isEmpty
  | _ => False
theorem isEmpty_kv {κ : Type} {kvs : List (κ × V)} {vs : List (κ × Value)} (r : KV kvs vs) : (!vs.isEmpty) = !kvs.isEmpty := by
  cases r <;> rfl
theorem isEmpty_of {xs : List V} {its : List Value} (r : Vals xs its) : (!its.toArray.isEmpty) = !xs.isEmpty := by
  cases r <;> simp
theorem line63 : (sizeLine : Nat) < 2 ^ 63 := by rw [sizeLine_eq]; decide
theorem tru_ok : TruR X (fun x H Q => ∃ k, TruV X.K x H k ∧ Q k H) := by
  intro pins s σ H x v Q I rx h
  obtain ⟨k, e, q⟩ := h
  have hl := line63
  have hs : sizeLine = 16777216 := sizeLine_eq
  cases x with
  | non =>
    cases rx
    have e' : k = false := e
    subst e'
    exact truthy_none ⟨H, I, q⟩
  | bl b =>
    cases rx
    have e' : k = b := e
    subst e'
    exact wpAny_truthy_bool ⟨H, I, q⟩
  | int i =>
    obtain ⟨t, rfl⟩ := rx
    have e' : k = (i != 0) := e
    subst e'
    exact PySem.P.truthy_int ⟨H, I, q⟩
  | str y =>
    obtain ⟨t, rfl⟩ := rx
    obtain ⟨hy, e'⟩ : y.length ≤ sizeLine ∧ k = ((y.length : Int) != 0) := e
    subst e'
    exact PySem.P.truthy_str (by omega) ⟨H, I.tok _, q⟩
  | byt y =>
    obtain ⟨t, rfl⟩ := rx
    obtain ⟨hy, e'⟩ : y.size ≤ sizeLine ∧ k = ((y.size : Int) != 0) := e
    subst e'
    exact PySem.W.truthy_bytes (by omega) ⟨H, I.tok _, q⟩
  | ref p =>
    cases rx
    have e' : (∃ xs, SqL X.K H p xs ∧ k = !xs.isEmpty) ∨ (∃ xs, SqT X.K H p xs ∧ k = !xs.isEmpty) ∨ ∃ kvs, H p = some (.dK kvs) ∧ k = !kvs.isEmpty := e
    rcases e' with ⟨xs, hx, e'⟩ | ⟨xs, hx, e'⟩ | ⟨kvs, hx, e'⟩
    · subst e'
      obtain ⟨its, r, pl, hz⟩ := I.list hx
      have hlen := r.length
      exact wpAny_truthy_list pl.isList (by simp only [List.size_toArray]; omega) ⟨H, I.tok _, by rw [isEmpty_of r]; exact q⟩
    · subst e'
      obtain ⟨its, r, pl, hz⟩ := I.tuple hx
      have hlen := r.length
      exact truthy_tuple pl (by simp only [List.size_toArray]; omega) ⟨H, I.tok _, by rw [isEmpty_of r]; exact q⟩
    · subst e'
      obtain ⟨hz, hS, vs, r, m⟩ : kvs.length ≤ sizeLine ∧ (p == sysModules) = false ∧ ∃ vs, KV kvs vs ∧ s.heap.DictOf (mixKind X.prog X.w) p vs := I.hok p _ hx
      have hlen : kvs.length = vs.length := Paired.length r
      exact wpAny_truthy_dict hS m (by omega) ⟨H, I.tok _, by rw [isEmpty_kv r]; exact q⟩
  | _ => exact (show False from e).elim
theorem pt_truth (ha : PE X a ta) (he : ∀ whole, isTrue a X.env whole = (do let v ← whole; standAt a.pos; holding [v] (truthy v))) :
    PT X a (fun σ H Q => ta σ H fun x H' => ∃ k, TruV X.K x H' k ∧ Q k H') := by
  intro pins s σ H Q I h
  exact isTrue_plain (thn (ha pins s σ H _ I h) fun v s1 ⟨x, H1, I1, r1, q1⟩ => tru_ok pins s1 σ H1 x v Q I1 r1 q1) (he _)
theorem vals1 {x : V} {us : List Value} (r : Vals [x] us) : ∃ u, us = [u] ∧ RelV x u := by
  cases r with
  | cons r1 r2 => cases r2; exact ⟨_, rfl, r1⟩
theorem call_abs : CallR X (.builtin "abs") (fun xs H Q => ∃ i, xs = [.int i] ∧ Q (.int (if i < 0 then -i else i)) H) := by
  intro pins s σ H xs us Q I r h
  obtain ⟨i, rfl, q⟩ := h
  obtain ⟨u, rfl, t, rfl⟩ := vals1 r
  exact call_abs_int fun u tk => ⟨.int (if i < 0 then -i else i), H, I.tok _, ⟨_, rfl⟩, q⟩
end
end L2
namespace L2
open PySem PySem.Spec PyProof.Rows
structure ObjM (h : Heap) (x dx C : Addr) (mA : Str → Option Value) : Prop where
  obj : h.get? x = some (PySem.W.instObj C dx)
  ns : h.Ns1 dx mA
  ne : dx ≠ x
theorem lookIn_ns {h : Heap} {dx : Addr} {mA : Str → Option Value} (n : h.Ns1 dx mA) : ∃ od, h.get? dx = some od ∧ ∀ name, PySem.W.lookIn name od = some (mA name) := by
  obtain ⟨o, es, ep, ho, hd, hk, _, hm⟩ := n
  refine ⟨o, ho, fun name => ?_⟩
  have e := hm name
  unfold nsFind findBy at e
  rw [← Array.find?_toList] at e
  unfold PySem.W.lookIn
  rw [hd]
  dsimp only
  split
  · rename_i y q
    rw [q] at e
    exact congrArg some e
  · rename_i q
    rw [q] at e
    have a : es.toList.any (·.refKey) = false := by
      rw [List.any_eq_false]
      intro y hy
      obtain ⟨z, t, hkey⟩ := hk y (Array.mem_toList_iff.mp hy)
      simp [DictEntry.refKey, hkey]
    have a' : ¬ es.toList.any (·.refKey) = true := by rw [a]; exact Bool.false_ne_true
    rw [if_neg a']
    exact congrArg some e
theorem ObjM.look {h : Heap} {x dx C : Addr} {mA : Str → Option Value} (I : ObjM h x dx C mA) : ∃ od, PySem.W.InstAt h x (PySem.W.instObj C dx) C (some od) ∧ ∀ name, PySem.W.lookIn name od = some (mA name) :=
  let ⟨od, ho, hl⟩ := lookIn_ns I.ns
  ⟨od, ⟨I.obj, rfl, rfl, ho⟩, hl⟩
section
variable {prog : Program} {w : World} {A : Around} {E : Value → Shared → Prop} {s : Shared} {K : PySem.W.Frag} {x dx C f : Addr} {mA : Str → Option Value} {name : Str} {v : Value}
theorem get_map {expr : Bool} {Q : Value → Shared → Prop} (X : K.In s.heap) (I : ObjM s.heap x dx C mA) (hg : PySem.W.plainGet K C name = true) (hh : PySem.W.hasDictIn K C = true)
    (ha : PySem.W.findIn K (.ref C) name = some none) (hv : mA name = some v) (hv' : PySem.W.handedIn v = true) (h : Q v { s with toks := s.toks + 1 }) :
    wpAny (model prog w) A (getAttr (.ref x) name expr) Q E s := by
  obtain ⟨od, J, hl⟩ := I.look
  exact PySem.W.get_value X J (PySem.W.plainGet_of hg).1 (PySem.W.findObj_own hh ha rfl (by rw [hl, hv])) hv' h
theorem get_meth {pl : Sem Bool} {Q : Value × List Value → Shared → Prop} (X : K.In s.heap) (I : ObjM s.heap x dx C mA) (hg : PySem.W.plainGet K C name = true)
    (hf : PySem.W.findIn K (.ref C) name = some (some (.ref f))) (ht : PySem.W.isFn K (.ref f) = true) (hv : mA name = none) (h : Q (.ref f, [.ref x]) s) :
    wpAny (model prog w) A (getMethod (.ref x) name pl) Q E s := by
  obtain ⟨od, J, hl⟩ := I.look
  exact PySem.W.method_fn X J (PySem.W.plainGet_of hg).1 (PySem.W.plainGet_of hg).2 hf (beq_iff_eq.mp ht) (by show (PySem.W.lookIn name od).map (·.isSome) = some false; rw [hl, hv]; rfl) h
theorem set_map {ns : List Str} {Q : Unit → Shared → Prop} (X : K.In s.heap) (I : ObjM s.heap x dx C mA)
    (hs : PySem.W.findIn K (.ref C) "__setattr__" = some (some (.builtin "object.__setattr__"))) (hp : PySem.W.plainOver K C = true) (ht : PySem.W.takerIn K C name = some none) (hh : PySem.W.hasDictIn K C = true)
    (hw : PySem.Within mA ns) (hsz : ns.length ≤ sizeLine)
    (h : ∀ h', ObjM h' x dx C (fun y => if y = name then some v else mA y) → Heap.SameBut dx s.heap h' → Q () { s with heap := h', toks := s.toks + 2 }) :
    wpAny (model prog w) A (setAttr (.ref x) name v) Q E s := by
  obtain ⟨od, J, hl⟩ := I.look
  refine PySem.W.set_plain X J hs (PySem.W.osa_open (s := { s with toks := s.toks + 1 }) (r := none) X J hp ht fun b => ?_)
  obtain ⟨cd, hc, hd'⟩ := PySem.W.any_some hh
  have hx : s.heap.get? x = some ⟨.ref C, some dx, .plain, #[]⟩ := I.obj
  refine wpAny_bind (wpAny_pure (wpAny_bind (wpAny_bind (wpAny_loadPart hx (wpAny_bind (PySem.W.Looks.here (s := { s with toks := s.toks + 1 }) (PySem.W.looks_clsIn X hc) ?_))))))
  rw [hd']
  refine wpAny_pure (a := some dx) (wpAny_bind (wpAny_pure (wpAny_bind ?_)))
  refine wpAny_nsSet1 (s := { s with toks := s.toks + 1 }) I.ns fun h' hn2 hs2 => ?_
  obtain ⟨oD, esD, epD, hoD, hdD, hcD⟩ := hn2.count (PySem.Within.cons name v hw)
  refine wpAny_bind (wpAny_lookBehind hoD (by rw [hdD]; exact pastItsLine_dict (Nat.le_trans hcD (by rw [List.length_cons]; omega))) ?_)
  exact wpAny_pure (h _ ⟨(hs2.2 _ (Ne.symm I.ne)).trans I.obj, hn2, I.ne⟩ hs2)
theorem make_map {R : Result → Shared → Prop} {vs : List Value} {kw : List (Str × Value)} (X : K.In s.heap) (hm : PySem.W.makesIn K C = true)
    (hi : PySem.W.findIn K (.ref C) "__init__" = some (some (.ref f))) (hf : PySem.W.typeIn K (.ref f) = some (.type "function"))
    (h : codeAny (model prog w) (A.under (.builtin "type.__call__" ⟨.ref C :: vs, kw⟩)) (.call (.ref f) ⟨.ref (s.heap.objs.size + 1) :: vs, kw⟩) (PySem.W.InitBack (s.heap.objs.size + 1) R)
      { s with heap := (s.heap.push PySem.W.emptyDict).push (PySem.W.instObj C s.heap.objs.size) }) :
    codeAny (model prog w) A (.call (.ref C) ⟨vs, kw⟩) R s := by
  obtain ⟨hh, g, d, t, os⟩ := s
  exact PySem.W.make_core (PySem.W.makes_of X hm) (PySem.W.looks_findIn X hi) (fun self => PySem.W.bind_fn X self hf) (.inl rfl) h
end
def putF (f : Str) (v : V) : List (Str × V) → List (Str × V)
  | [] => [(f, v)]
  | (g, x) :: r => if g = f then (g, v) :: r else (g, x) :: putF f v r
theorem lookup_putF (f g : Str) (v : V) : ∀ fs : List (Str × V), (putF f v fs).lookup g = if g = f then some v else fs.lookup g
  | [] => by
    show List.lookup g [(f, v)] = _
    by_cases h : g = f
    · have hb : (g == f) = true := beq_iff_eq.mpr h
      simp only [List.lookup, hb, if_pos h]
    · have hb : (g == f) = false := beq_eq_false_iff_ne.mpr h
      simp only [List.lookup, hb, if_neg h]
  | (k, x) :: r => by
    have ih := lookup_putF f g v r
    rw [show putF f v ((k, x) :: r) = (if k = f then (k, v) :: r else (k, x) :: putF f v r) from rfl]
    by_cases hk : k = f
    · rw [if_pos hk]
      by_cases h : g = k
      · have hb : (g == k) = true := beq_iff_eq.mpr h
        simp only [List.lookup, hb, if_pos (h.trans hk)]
      · have hb : (g == k) = false := beq_eq_false_iff_ne.mpr h
        simp only [List.lookup, hb, if_neg (fun e : g = f => h (e.trans hk.symm))]
    · rw [if_neg hk]
      by_cases h : g = k
      · have hb : (g == k) = true := beq_iff_eq.mpr h
        simp only [List.lookup, hb, if_neg (fun e : g = f => hk (h.symm.trans e))]
      · have hb : (g == k) = false := beq_eq_false_iff_ne.mpr h
        simp only [List.lookup, hb]
        exact ih
theorem keys_putF (f : Str) (v : V) : ∀ fs : List (Str × V), f ∈ (putF f v fs).map (·.1) ∧ ∀ g, g ∈ fs.map (·.1) → g ∈ (putF f v fs).map (·.1)
  | [] => ⟨by simp [putF], fun g h => by simp at h⟩
  | (k, x) :: r => by
    obtain ⟨i1, i2⟩ := keys_putF f v r
    rw [show putF f v ((k, x) :: r) = (if k = f then (k, v) :: r else (k, x) :: putF f v r) from rfl]
    by_cases hk : k = f
    · rw [if_pos hk]
      subst hk
      exact ⟨by simp, fun g h => by simpa using h⟩
    · rw [if_neg hk]
      refine ⟨?_, fun g h => ?_⟩
      · rw [List.map_cons]
        exact List.mem_cons_of_mem _ i1
      · rw [List.map_cons] at h ⊢
        rcases List.mem_cons.mp h with e | e
        · exact List.mem_cons.mpr (.inl e)
        · exact List.mem_cons_of_mem _ (i2 g e)
theorem length_putF (f : Str) (v : V) : ∀ fs : List (Str × V), (putF f v fs).length ≤ fs.length + 1
  | [] => by simp [putF]
  | (k, x) :: r => by
    have ih := length_putF f v r
    rw [show putF f v ((k, x) :: r) = (if k = f then (k, v) :: r else (k, x) :: putF f v r) from rfl]
    by_cases hk : k = f
    · rw [if_pos hk, List.length_cons, List.length_cons]; omega
    · rw [if_neg hk, List.length_cons, List.length_cons]; omega
theorem RelO.some_of {v : V} {o : Option Value} (r : RelO (some v) o) : ∃ u, o = some u ∧ RelV v u := by
  cases o with
  | none => exact (show False from r).elim
  | some u => exact ⟨u, rfl, r⟩
theorem RelO.none_of {o : Option Value} (r : RelO none o) : o = none := by
  cases o with
  | none => rfl
  | some u => exact (show False from r).elim
theorem handed_of {v : V} {u : Value} (r : RelV v u) : PySem.W.handedIn u = true := by
  cases v with
  | non => cases (show u = Value.none from r); rfl
  | bl b => cases (show u = Value.bool b from r); rfl
  | int i => obtain ⟨t, e⟩ := (show ∃ t, u = Value.int i t from r); cases e; rfl
  | str x => obtain ⟨t, e⟩ := (show ∃ t, u = Value.str x t from r); cases e; rfl
  | byt b => obtain ⟨t, e⟩ := (show ∃ t, u = Value.bytes b t from r); cases e; rfl
  | flt b => obtain ⟨t, e⟩ := (show ∃ t, u = Value.float b t from r); cases e; rfl
  | ref a => cases (show u = Value.ref a from r); rfl
  | ty n => cases (show u = Value.type n from r); rfl
section
variable {P : Program} {w : World} {H H' : Hp} {h h' : Heap} {a C dx : Addr} {fs fs' : List (Str × V)}
theorem ins_get (hok : HOk P w H h) (e : H a = some (.ins C dx fs)) : ∃ mA, ObjM h a dx C mA ∧ (∀ f, RelO (fs.lookup f) (mA f)) ∧ PySem.Within mA (fs.map (·.1)) ∧ fs.length ≤ 1000 ∧ H dx = some (.own a) := by
  obtain ⟨d, z, ne, ob, mA, n, r, q⟩ := (show ObjOk P w H h a (.ins C dx fs) from hok a _ e)
  exact ⟨mA, ⟨ob, n, ne⟩, r, q, z, d⟩
end
structure Cls (K : PySem.W.Frag) (C : Addr) : Prop where
  pg : PySem.W.plainGet K C Str.empty = true
  hd : PySem.W.hasDictIn K C = true
  po : PySem.W.plainOver K C = true
  sa : PySem.W.findIn K (.ref C) "__setattr__" = some (some (.builtin "object.__setattr__"))
theorem Cls.get {K : PySem.W.Frag} {C : Addr} (c : Cls K C) (f : Str) : PySem.W.plainGet K C f = true := c.pg
def NoAttr (K : PySem.W.Frag) (C : Addr) (f : Str) : Prop := PySem.W.findIn K (.ref C) f = some none
theorem NoAttr.taker {K : PySem.W.Frag} {C : Addr} {f : Str} (n : NoAttr K C f) : PySem.W.takerIn K C f = some none := by
  unfold PySem.W.takerIn
  rw [show PySem.W.findIn K (.ref C) f = some none from n]
  rfl
structure Meth (K : PySem.W.Frag) (C : Addr) (m : Str) (f : Addr) : Prop where
  at_ : PySem.W.findIn K (.ref C) m = some (some (.ref f))
  fn : PySem.W.isFn K (.ref f) = true
  kp : PySem.W.keepIn K (.ref f) = true
section
variable {X : Cx} {pins : List (Addr × Obj)} {σ : St} {H : Hp} {s : Shared} {a C dx : Addr} {fs : List (Str × V)} {f : Str} {v : V} {A : Around} {E : Value → Shared → Prop}
theorem getattr_ok {b : Bool} {Q : Value → Shared → Prop} (I : Inv X pins σ H s) (e : H a = some (.ins C dx fs)) (c : Cls X.K C) (n : NoAttr X.K C f) (l : fs.lookup f = some v)
    (h : ∀ u s', Inv X pins σ H s' → RelV v u → Q u s') : wpAny (model X.prog X.w) A (getAttr (.ref a) f b) Q E s := by
  obtain ⟨mA, O, r, _, _, _⟩ := ins_get I.hok e
  obtain ⟨u, hu, ru⟩ := RelO.some_of (v := v) (o := mA f) (by rw [← l]; exact r f)
  exact get_map I.kIn O (c.get f) c.hd n hu (handed_of ru) (h u _ (I.tok _) ru)
theorem getmeth_ok {m : Str} {g : Addr} {pl : Sem Bool} {Q : Value × List Value → Shared → Prop} (I : Inv X pins σ H s) (e : H a = some (.ins C dx fs)) (c : Cls X.K C) (k : Meth X.K C m g) (l : fs.lookup m = none)
    (h : Q (.ref g, [.ref a]) s) : wpAny (model X.prog X.w) A (getMethod (.ref a) m pl) Q E s := by
  obtain ⟨mA, O, r, _, _, _⟩ := ins_get I.hok e
  have hn : mA m = none := RelO.none_of (by rw [← l]; exact r m)
  exact get_meth I.kIn O (c.get m) k.at_ k.fn hn h
theorem setattr_ok {y : V} {u : Value} {Q : Unit → Shared → Prop} (I : Inv X pins σ H s) (e : H a = some (.ins C dx fs)) (c : Cls X.K C) (n : NoAttr X.K C f) (hl : fs.length < 1000) (ry : RelV y u)
    (h : ∀ s', Inv X pins σ (upd H a (.ins C dx (putF f y fs))) s' → Q () s') : wpAny (model X.prog X.w) A (setAttr (.ref a) f u) Q E s := by
  obtain ⟨mA, O, r, wi, _, ho⟩ := ins_get I.hok e
  have hz : (fs.map (·.1)).length ≤ sizeLine := by rw [List.length_map, sizeLine_eq]; omega
  refine set_map I.kIn O c.sa c.po n.taker c.hd wi hz fun h' O' sb => h _ ?_
  have hd : ∃ o, h'.get? dx = some o := let ⟨o, _, _, e', _⟩ := O'.ns; ⟨o, e'⟩
  refine I.write (x := a) (e := dx) (by rw [e]; exact True.intro) (.inr ho) (fun b q hb z => (sb.2 b hb).trans z) hd ?_
  refine ⟨by rw [upd_ne O.ne]; exact ho, ?_, O.ne, O'.obj, _, O'.ns, fun g => ?_, fun g hg => ?_⟩
  · have := length_putF f y fs; omega
  · show RelO ((putF f y fs).lookup g) (if g = f then some u else mA g)
    rw [lookup_putF]
    by_cases q : g = f
    · rw [if_pos q, if_pos q]; exact ry
    · rw [if_neg q, if_neg q]; exact r g
  · by_cases q : g = f
    · rw [q]; exact (keys_putF f y fs).1
    · refine (keys_putF f y fs).2 g (wi g fun z => hg ?_)
      show (if g = f then some u else mA g) = none
      rw [if_neg q]; exact z
theorem Inv.made (I : Inv X pins σ H s) : Inv X pins σ (upd (upd H s.heap.objs.size (.own (s.heap.objs.size + 1))) (s.heap.objs.size + 1) (.ins C s.heap.objs.size []))
    { s with heap := (s.heap.push PySem.W.emptyDict).push (PySem.W.instObj C s.heap.objs.size) } := by
  have e1 : (s.heap.push PySem.W.emptyDict).get? s.heap.objs.size = some PySem.W.emptyDict := Heap.get?_push_size s.heap rfl
  have e2 : ((s.heap.push PySem.W.emptyDict).push (PySem.W.instObj C s.heap.objs.size)).get? (s.heap.objs.size + 1) = some (PySem.W.instObj C s.heap.objs.size) := by
    have := Heap.get?_push_size (s.heap.push PySem.W.emptyDict) (o := PySem.W.instObj C s.heap.objs.size) rfl
    rwa [Heap.size_push] at this
  have e3 : (s.heap.push PySem.W.emptyDict).Ns s.heap.objs.size (fun _ => none) := ⟨PySem.W.emptyDict, #[], _, e1, rfl, (fun e he => absurd he (by simp)), fun _ => rfl⟩
  have I1 := I.laid (a := s.heap.objs.size) (o := .own (s.heap.objs.size + 1)) (h' := s.heap.push PySem.W.emptyDict) (t' := s.toks) (fun b u q => Heap.get?_push_of_some _ q) (Nat.le_refl _) ⟨_, e1⟩
  refine I1.laid (a := s.heap.objs.size + 1) (o := .ins C s.heap.objs.size []) (t' := s.toks) (fun b u q => Heap.get?_push_of_some _ q) (Nat.le_of_eq (Heap.size_push _ _)) ?_
  have ne : s.heap.objs.size ≠ s.heap.objs.size + 1 := Nat.ne_of_lt (Nat.lt_succ_self _)
  refine ⟨by rw [upd_ne ne, upd_same], Nat.zero_le _, ne, e2, fun _ => none, (Heap.Ns1.of_empty e3).at fun o q => Heap.get?_push_of_some _ q, fun _ => True.intro, fun y hy => absurd rfl hy⟩
theorem attr_of {prog : Program} {w : World} {env : Env} {e : Expr} {f : Str} {pos : Pos} {s : Shared} {Q : Value → Shared → Prop} (hb : attributeBase e f env (eval e env) = eval e env)
    (h : wpAny (model prog w) A (eval e env) (fun o s₁ => wpAny (model prog w) A (getAttr o f true) Q E s₁) E s) : wpAny (model prog w) A (eval (.Attribute e f pos) env) Q E s :=
  Attribute_any_ h (by rw [arm_eval_Attribute, hb])
end
def tFld (K : PySem.W.Frag) (ta : TE) (f : Str) : TE := fun σ H Q => ta σ H fun x H1 => ∃ a C dx fs v, x = .ref a ∧ H1 a = some (.ins C dx fs) ∧ Cls K C ∧ NoAttr K C f ∧ fs.lookup f = some v ∧ Q v H1
def sFld (K : PySem.W.Frag) (ta tv : TE) (f : Str) : TS := fun D σ H => tv σ H fun y H1 => ta σ H1 fun x H2 => ∃ a C dx fs, x = .ref a ∧ H2 a = some (.ins C dx fs) ∧ Cls K C ∧ NoAttr K C f ∧ fs.length < 1000 ∧
  D.nx σ (upd H2 a (.ins C dx (putF f y fs)))
section
variable {X : Cx} {o e value : Expr} {f : Str} {pos pos' tpos : Pos} {ta tv : TE}
theorem pe_fld (he : PE X e ta) (hb : attributeBase e f X.env (eval e X.env) = eval e X.env) : PE X (.Attribute e f pos) (tFld X.K ta f) := by
  intro pins s σ H Q I h
  refine attr_of hb (thn (he pins s σ H _ I h) fun u s1 ⟨x, H1, I1, rx, a, C, dx, fs, v, ex, ea, c, n, l, q⟩ => ?_)
  subst ex
  obtain rfl : u = Value.ref a := rx
  exact getattr_ok I1 ea c n l fun u' s2 I2 ru => ⟨v, H1, I2, ru, q⟩
theorem ps_fld (ha : PE X o ta) (hv : PE X value tv) (hs : swapsWith value (some (.Attribute o f pos')) pos.line X.env = pure false) : PS X (.Assign [.Attribute o f pos'] value pos) (sFld X.K ta tv f) := by
  intro pins s σ H D I h
  refine plainObj_wpAny_Assign_Attribute (thn (hv pins s σ H _ I h) fun u s1 ⟨y, H1, I1, ry, q⟩ => thn (ha pins s1 σ H1 _ I1 q) fun ov s2 ⟨x, H2, I2, rx, a, C, dx, fs, ex, ea, c, n, l, q2⟩ => ?_) hs
  subst ex
  obtain rfl : ov = Value.ref a := rx
  exact setattr_ok I2 ea c n l ry fun s3 I3 => ⟨σ, _, I3, q2⟩
end
section
variable {X : Cx} {pins : List (Addr × Obj)} {σ : St} {H : Hp} {s : Shared} {A : Around} {E : Value → Shared → Prop} {Q : Value → Shared → Prop} {c : Value} {b : Bool}
end
end L2
namespace L2
open PySem PySem.Spec PyProof.Rows
structure Room (k : Nat) (A : Around) : Prop where
  hd : A.handled = none
  dp : A.depth + 3 * k + 5 < recursionLimit
  un : A.units + 16 * k + 200 < cLine
theorem Room.mono {j k : Nat} {A : Around} (r : Room k A) (h : j ≤ k) : Room j A := ⟨r.hd, by have := r.dp; omega, by have := r.un; omega⟩
theorem Room.deeper {k : Nat} {A : Around} (r : Room (k + 1) A) (env : Env) : Room k (A.deeper env) :=
  ⟨r.hd, by have := r.dp; show A.depth + 1 + 3 * k + 5 < _; omega, by have := r.un; show A.units + 3 + 16 * k + 200 < _; omega⟩
theorem Room.in1 {k : Nat} {A : Around} (r : Room (k + 1) A) : Room k A.in1 :=
  ⟨r.hd, by have := r.dp; show A.depth + 3 * k + 5 < _; omega, by have := r.un; show A.units + 1 + 16 * k + 200 < _; omega⟩
theorem make_depth {A : Around} {C : Addr} {us : List Value} {kw : List (Str × Value)} : (A.under (.builtin "type.__call__" ⟨.ref C :: us, kw⟩)).depth = A.depth + 1 := by
  first | rfl | simp [Around.under, Code.weight, Code.isCreation, Code.isGuard, Code.isCaller, Code.frames, Code.isFrame, guardIds]
theorem make_units {A : Around} {C : Addr} {us : List Value} {kw : List (Str × Value)} : (A.under (.builtin "type.__call__" ⟨.ref C :: us, kw⟩)).units = A.units + 1 := by
  first | rfl | simp [Around.under, Code.cUnits, Code.frames, Code.isFrame]
theorem Room.make {k : Nat} {A : Around} (r : Room (k + 1) A) (C : Addr) (us : List Value) (kw : List (Str × Value)) : Room k (A.under (.builtin "type.__call__" ⟨.ref C :: us, kw⟩)) :=
  ⟨r.hd, by have := r.dp; rw [make_depth]; omega, by have := r.un; rw [make_units]; omega⟩
theorem Room.depth {k : Nat} {A : Around} (r : Room k A) : A.depth < recursionLimit := by have := r.dp; omega
theorem Room.units {k : Nat} {A : Around} (r : Room k A) : A.units + 64 < cLine := by have := r.un; omega
def tNil : TA := fun _ H Q => Q [] H
def tCons (ta : TE) (tr : TA) : TA := fun σ H Q => ta σ H fun x H1 => tr σ H1 fun xs H2 => Q (x :: xs) H2
section
variable {X : Cx} {e : Expr} {es : List Expr} {te : TE} {t : TA} {pos : Pos}
theorem pa_nil : PA X [] tNil := fun _ _ _ _ H Q I h => Calls.spliced_nil ⟨[], H, I, .nil, h⟩
theorem pa_cons (ha : PE X e te) (hr : PA X es t) (hs : starEach (e :: es) X.env = (false, eval e X.env) :: starEach es X.env := by rfl) : PA X (e :: es) (tCons te t) := by
  intro pos pins s σ H Q I h
  rw [hs]
  show wpAny _ _ (spliced ((false, eval e X.env) :: backTo pos (starEach es X.env))) _ _ s
  refine Calls.spliced_cons (thn (ha pins s σ H _ I h) fun u s1 ⟨x, H1, I1, r1, q1⟩ => ?_)
  exact thn (hr pos pins s1 σ H1 _ I1 q1) fun us s2 ⟨xs, H2, I2, r2, q2⟩ => ⟨x :: xs, H2, I2, .cons r1 r2, q2⟩
def tTup (t : TA) : TE := fun σ H Q => t σ H fun xs H1 => xs.length ≤ sizeLine ∧ ∀ p, H1 p = none → Q (.ref p) (upd H1 p (.tup xs))
def tLst (t : TA) : TE := fun σ H Q => t σ H fun xs H1 => xs.length ≤ sizeLine ∧ ∀ p, H1 p = none → Q (.ref p) (upd H1 p (.lst xs))
theorem pe_tup {x1} (h : PA X es t) : PE X (.Tuple es x1 pos) (tTup t) := by
  intro pins s σ H Q I hq
  refine wpAny_Tuple_spliced (thn (h pos pins s σ H _ I hq) fun us s1 ⟨xs, H1, I1, r, z, q⟩ => ⟨by rw [← r.length]; exact z, ?_⟩)
  have hf : H1 s1.heap.objs.size = none := I1.hok.fresh (Nat.le_refl _)
  refine ⟨.ref s1.heap.objs.size, upd H1 s1.heap.objs.size (.tup xs), I1.laid (t' := s1.toks) (fun b u e => Heap.get?_push_of_some _ e) (Nat.le_refl _) ?_, rfl, q _ hf⟩
  exact ⟨z, us, r, ⟨_, Heap.get?_push_size _ rfl, rfl, _, rfl⟩⟩
theorem pe_lst (h : PA X es t) : PE X (.List es pos) (tLst t) := by
  intro pins s σ H Q I hq
  refine wpAny_List_spliced (thn (h pos pins s σ H _ I hq) fun us s1 ⟨xs, H1, I1, r, z, q⟩ => ⟨by rw [← r.length]; exact z, ?_⟩)
  have hf : H1 s1.heap.objs.size = none := I1.hok.fresh (Nat.le_refl _)
  refine ⟨.ref s1.heap.objs.size, upd H1 s1.heap.objs.size (.lst xs), I1.laid (t' := s1.toks) (fun b u e => Heap.get?_push_of_some _ e) (Nat.le_refl _) ?_, rfl, q _ hf⟩
  exact ⟨z, us, 0, r, Heap.get?_push_size _ rfl⟩
end
abbrev Sp := List V → Hp → VK → XK → Prop
abbrev CXT := List Env → Hp → Shared → XK → Value → Shared → Prop
structure Env0 (P : Program) (w : World) (K : PySem.W.Frag) (mg : Str → Option Value) (base : Heap) (A : Around) (outer : List Env) (s : Shared) (H : Hp) : Prop where
  frames : A.frames = some outer
  mod : Mod K mg base
  bs : ∀ b o, base.get? b = some o → s.heap.get? b = some o ∧ H b = none
  bsz : base.objs.size ≤ s.heap.objs.size
  funs : s.heap.FunFrames base outer
  frf : ∀ b ∈ frs outer, H b = none
  hok : HOk P w H s.heap
  bare : AllBare s.gens
def CE (outer : List Env) (P : Program) (w : World) (H : Hp) (s : Shared) (Q : VK) (u : Value) (s' : Shared) : Prop :=
  ∃ v H', s'.os = s.os ∧ AllBare s'.gens ∧ Un (frs outer) [] H H' s.heap s'.heap ∧ HOk P w H' s'.heap ∧ RelV v u ∧ Q v H'
def CR (CX : CXT) (outer : List Env) (P : Program) (w : World) (H : Hp) (s : Shared) (Q : VK) (E : XK) (r : Result) (s' : Shared) : Prop :=
  match r with
  | .ok (.ret u) => CE outer P w H s Q u s'
  | .ok _ => False
  | .error e => CX outer H s E e s'
structure FnOk (P : Program) (w : World) (K : PySem.W.Frag) (mg : Str → Option Value) (base : Heap) (CX : CXT) (k : Nat) (f : Addr) (fd : FuncData) (ps : List Str) (sp : Sp) : Prop where
  len : ∀ vs H Q E, sp vs H Q E → vs.length = ps.length
  run : ∀ (A : Around) (outer : List Env) (s : Shared) (H : Hp) (args : Args) (us : List Value) (vs : List V) (Q : VK) (E : XK), Room k A → Env0 P w K mg base A outer s H → BindsTo s fd args (ps.zip us) → Vals vs us → sp vs H Q E →
    codeAny (model P w) A (.call (.ref f) args) (CR CX outer P w H s Q E) s
theorem FnOk.mono {P : Program} {w : World} {K : PySem.W.Frag} {mg : Str → Option Value} {base : Heap} {CX : CXT} {j k : Nat} {f : Addr} {fd : FuncData} {ps : List Str} {sp : Sp} (F : FnOk P w K mg base CX j f fd ps sp) (h : j ≤ k) :
    FnOk P w K mg base CX k f fd ps sp := ⟨F.len, fun A outer s H args us vs Q E hr => F.run A outer s H args us vs Q E (hr.mono h)⟩
theorem Env0.make {P : Program} {w : World} {K : PySem.W.Frag} {mg : Str → Option Value} {base : Heap} {A : Around} {outer : List Env} {s : Shared} {H : Hp} (e : Env0 P w K mg base A outer s H) (C : Addr) (us : List Value) (kw : List (Str × Value)) :
    Env0 P w K mg base (A.under (.builtin "type.__call__" ⟨.ref C :: us, kw⟩)) outer s H := ⟨by first | exact e.frames | (simpa [Around.under, Code.envs, Code.isFrame, pushEnvs] using e.frames), e.mod, e.bs, e.bsz, e.funs, e.frf, e.hok, e.bare⟩
theorem Env0.in1 {P : Program} {w : World} {K : PySem.W.Frag} {mg : Str → Option Value} {base : Heap} {A : Around} {outer : List Env} {s : Shared} {H : Hp} (e : Env0 P w K mg base A outer s H) :
    Env0 P w K mg base A.in1 outer s H := ⟨e.frames, e.mod, e.bs, e.bsz, e.funs, e.frf, e.hok, e.bare⟩
section
variable {X : Cx} {pins : List (Addr × Obj)} {σ : St} {H : Hp} {s s' : Shared}
theorem Inv.env0 (I : Inv X pins σ H s) : Env0 X.prog X.w X.K X.mg X.base X.A X.stack s H :=
  ⟨I.ok.frames, I.ok.mod, I.bs, Nat.le_trans I.ok.bsz I.sz, I.stack, I.stkFree, I.hok, I.bare⟩
theorem Inv.after {Q : VK} {u : Value} (I : Inv X pins σ H s) (h : CE X.stack X.prog X.w H s Q u s') : EP X pins σ Q u s' := by
  obtain ⟨v, H', os, bare, un, hok, r, q⟩ := h
  obtain ⟨hh, g, d, t, os'⟩ := s'
  obtain rfl : os' = s.os := os
  exact ⟨v, H', I.call (h' := hh) (g' := g) (d' := d) (t' := t) (ch := []) un hok bare (fun b z => absurd z (by simp)), r, q⟩
end
def tCall (sp : Sp) (dvs : List V) (E : XK) (t : TA) : TE := fun σ H Q => t σ H fun vs H1 => sp (vs ++ dvs) H1 Q E
def tMeth (C : Addr) (m : Str) (sp : Sp) (dvs : List V) (E : XK) (ta : TE) (t : TA) : TE := fun σ H Q => ta σ H fun x H1 => ∃ a dx fs, x = .ref a ∧ H1 a = some (.ins C dx fs) ∧ fs.lookup m = none ∧
  t σ H1 fun vs H2 => sp (x :: (vs ++ dvs)) H2 Q E
def tMake (C : Addr) (sp : Sp) (dvs : List V) (E : XK) (t : TA) : TE := fun σ H Q => t σ H fun vs H1 => ∀ x dx, H1 x = none → H1 dx = none → dx ≠ x →
  sp (.ref x :: (vs ++ dvs)) (upd (upd H1 dx (.own x)) x (.ins C dx [])) (fun v H2 => v = .non ∧ Q (.ref x) H2) E
def Binds (K : PySem.W.Frag) (fd : FuncData) (ps : List Str) (ds : List Value) : Prop :=
  ∀ (s : Shared) (us : List Value), K.In s.heap → (us ++ ds).length = ps.length → BindsTo s fd ⟨us, []⟩ (ps.zip (us ++ ds))
theorem Binds.all {K : PySem.W.Frag} {fd : FuncData} {ps : List Str} (h : ∀ us : List Value, us.length = ps.length → bindArgs fd ⟨us, []⟩ = pure (ps.zip us)) : Binds K fd ps [] := fun s us _ hl => by
  rw [List.append_nil] at hl ⊢
  exact .of_eq (h us hl)
def Passes (CX : CXT) (X : Cx) (E : XK) : Prop := ∀ (pins : List (Addr × Obj)) (σ : St) (H : Hp) (s : Shared) (e : Value) (s' : Shared), Inv X pins σ H s → CX X.stack H s E e s' → X.xe e s'
section
variable {X : Cx} {CX : CXT} {k : Nat} {f C : Addr} {fd : FuncData} {ps : List Str} {sp : Sp} {dvs : List V} {ds : List Value} {E : XK} {x m : Str} {p pos apos : Pos} {e o : Expr} {es : List Expr} {ta : TE} {t : TA}
theorem run_fn {pins : List (Addr × Obj)} {σ : St} {H : Hp} {s : Shared} {Q : VK} {us : List Value} {vs : List V} (F : FnOk X.prog X.w X.K X.mg X.base CX k f fd ps sp) (hr : Room k X.A) (hb : Binds X.K fd ps ds) (hd : Vals dvs ds) (hx : Passes CX X E)
    (I : Inv X pins σ H s) (r : Vals vs us) (h : sp (vs ++ dvs) H Q E) : wpAny (model X.prog X.w) X.A (call (.ref f) us) (EP X pins σ Q) X.xe s := by
  have r2 : Vals (vs ++ dvs) (us ++ ds) := r.append hd
  have hl : (us ++ ds).length = ps.length := by rw [← r2.length]; exact F.len _ _ _ _ h
  refine wpAny_call (codeAny_mono (F.run X.A X.stack s H ⟨us, []⟩ (us ++ ds) (vs ++ dvs) Q E hr I.env0 (hb s us I.kIn hl) r2 h) fun r s' hq => ?_)
  cases r with
  | error e => exact hx pins σ H s e s' I hq
  | ok fl =>
    cases fl with
    | ret u => exact I.after hq
    | next => exact False.elim hq
    | brk => exact False.elim hq
    | cont => exact False.elim hq
theorem pe_call (F : FnOk X.prog X.w X.K X.mg X.base CX k f fd ps sp) (hr : Room k X.A) (hg : Gl X x) (hm : X.mg x = some (.ref f)) (hk : PySem.W.keepIn X.K (.ref f) = true) (hb : Binds X.K fd ps ds) (hd : Vals dvs ds) (hx : Passes CX X E)
    (ha : PA X (e :: es) t) (hdb : (x == ("__debug__" : Str)) = false := by decide) (he : starEach (e :: es) X.env = (false, eval e X.env) :: starEach es X.env := by rfl) (hpl : (backTo pos (starEach es X.env)).any (·.1) = false := by rfl) :
    PE X (.Call (.Name x p) (e :: es) [] pos) (tCall sp dvs E t) := by
  intro pins s σ H Q I h
  refine wpAny_Call_Name_kw (ld_glob I hg hm ?_ hdb)
  refine PySem.W.callWith_K (h₀ := X.base) I.ok.mod.kin hk (thn (ha pos pins s σ H _ I h) fun us s1 ⟨vs, H1, I1, r, q⟩ => ⟨I1.kIn, ?_⟩) he hpl
  exact run_fn F hr hb hd hx I1 r q
theorem pe_meth {pl : Sem Bool} (he : PE X o ta) (c : Cls X.K C) (hm : Meth X.K C m f) (F : FnOk X.prog X.w X.K X.mg X.base CX k f fd ps sp) (hr : Room k X.A) (hb : Binds X.K fd ps ds) (hd : Vals dvs ds) (hx : Passes CX X E) (ha : PA X (e :: es) t)
    (hst : starEach (e :: es) X.env = (false, eval e X.env) :: starEach es X.env := by rfl) (hpl : (backTo pos (starEach es X.env)).any (·.1) = false := by rfl)
    (ht : eval (.Call (.Attribute o m apos) (e :: es) [] pos) X.env = (do
      let ov ← eval o X.env
      standAt apos.atName
      let (f, first) ← holding [ov] (getMethod ov m pl)
      callWith pos f first (backTo pos (starEach (e :: es) X.env)) (backToKw pos (keywordEach [] X.env))) := by rfl) :
    PE X (.Call (.Attribute o m apos) (e :: es) [] pos) (tMeth C m sp dvs E ta t) := by
  intro pins s σ H Q I h
  refine PySem.W.methodCall_KW (pl := pl) (thn (he pins s σ H _ I h) fun u s1 ⟨x, H1, I1, rx, a, dx, fs, ex, ea, l, q⟩ => ?_) ht
  subst ex
  obtain rfl : u = Value.ref a := rx
  refine getmeth_ok I1 ea c hm l ?_
  refine PySem.W.callWith_K (first := [.ref a]) (h₀ := X.base) I.ok.mod.kin hm.kp (thn (ha pos pins s1 σ H1 _ I1 q) fun us s2 ⟨vs, H2, I2, r, q2⟩ => ⟨I2.kIn, ?_⟩) hst hpl
  exact run_fn (us := .ref a :: us) (vs := .ref a :: vs) F hr hb hd hx I2 (.cons rfl r) q2
theorem pe_meth0 {pl : Sem Bool} (he : PE X o ta) (c : Cls X.K C) (hm : Meth X.K C m f) (F : FnOk X.prog X.w X.K X.mg X.base CX k f fd ps sp) (hr : Room k X.A) (hb : Binds X.K fd ps ds) (hd : Vals dvs ds) (hx : Passes CX X E)
    (ht : eval (.Call (.Attribute o m apos) [] [] pos) X.env = (do
      let ov ← eval o X.env
      standAt apos.atName
      let (f, first) ← holding [ov] (getMethod ov m pl)
      callWith pos f first (backTo pos (starEach [] X.env)) (backToKw pos (keywordEach [] X.env))) := by rfl) :
    PE X (.Call (.Attribute o m apos) [] [] pos) (tMeth C m sp dvs E ta tNil) := by
  intro pins s σ H Q I h
  refine PySem.W.methodCall_KW (pl := pl) (thn (he pins s σ H _ I h) fun u s1 ⟨x, H1, I1, rx, a, dx, fs, ex, ea, l, q⟩ => ?_) ht
  subst ex
  obtain rfl : u = Value.ref a := rx
  refine getmeth_ok I1 ea c hm l ?_
  exact PySem.W.callWith_K0 (first := [.ref a]) I1.kIn hm.kp (run_fn (us := [.ref a]) (vs := [.ref a]) F hr hb hd hx I1 (.cons rfl .nil) q)
structure Mk (K : PySem.W.Frag) (C f : Addr) : Prop where
  makes : PySem.W.makesIn K C = true
  init : PySem.W.findIn K (.ref C) "__init__" = some (some (.ref f))
  fn : PySem.W.isFn K (.ref f) = true
  kp : PySem.W.keepIn K (.ref C) = true
theorem run_make {pins : List (Addr × Obj)} {σ : St} {H : Hp} {s : Shared} {Q : VK} {us : List Value} {vs : List V} (M : Mk X.K C f) (F : FnOk X.prog X.w X.K X.mg X.base CX k f fd ps sp) (hr : Room (k + 1) X.A) (hb : Binds X.K fd ps ds) (hd : Vals dvs ds)
    (hx : Passes CX X E) (I : Inv X pins σ H s) (r : Vals vs us)
    (h : ∀ x dx, H x = none → H dx = none → dx ≠ x → sp (.ref x :: (vs ++ dvs)) (upd (upd H dx (.own x)) x (.ins C dx [])) (fun v H2 => v = .non ∧ Q (.ref x) H2) E) :
    wpAny (model X.prog X.w) X.A (call (.ref C) us) (EP X pins σ Q) X.xe s := by
  have hq := h (s.heap.objs.size + 1) s.heap.objs.size (I.hok.fresh (Nat.le_succ _)) (I.hok.fresh (Nat.le_refl _)) (Nat.ne_of_lt (Nat.lt_succ_self _))
  have I2 := Inv.made (C := C) I
  have r2 : Vals (V.ref (s.heap.objs.size + 1) :: (vs ++ dvs)) (Value.ref (s.heap.objs.size + 1) :: (us ++ ds)) := .cons rfl (r.append hd)
  have hl : (Value.ref (s.heap.objs.size + 1) :: us ++ ds).length = ps.length := by
    have e := r2.length
    rw [F.len _ _ _ _ hq] at e
    exact e.symm
  refine wpAny_call (make_map (f := f) I.kIn M.makes M.init (beq_iff_eq.mp M.fn) (codeAny_mono (F.run _ X.stack _ _ ⟨Value.ref (s.heap.objs.size + 1) :: us, []⟩ (Value.ref (s.heap.objs.size + 1) :: (us ++ ds)) _ _ E (hr.make C us [])
    (I2.env0.make C us []) (hb _ (Value.ref (s.heap.objs.size + 1) :: us) I2.kIn hl) r2 hq) fun r s' hq' => ?_))
  cases r with
  | error e => exact hx pins σ _ _ e s' I2 hq'
  | ok fl =>
    cases fl with
    | ret u =>
      obtain ⟨v, H', I3, rv, ev, q3⟩ := I2.after hq'
      subst ev
      exact ⟨rv, ⟨V.ref (s.heap.objs.size + 1), H', I3, rfl, q3⟩⟩
    | next => exact False.elim hq'
    | brk => exact False.elim hq'
    | cont => exact False.elim hq'
theorem pe_make (M : Mk X.K C f) (F : FnOk X.prog X.w X.K X.mg X.base CX k f fd ps sp) (hr : Room (k + 1) X.A) (hg : Gl X x) (hm : X.mg x = some (.ref C)) (hb : Binds X.K fd ps ds) (hd : Vals dvs ds) (hx : Passes CX X E)
    (ha : PA X (e :: es) t) (hdb : (x == ("__debug__" : Str)) = false := by decide) (he : starEach (e :: es) X.env = (false, eval e X.env) :: starEach es X.env := by rfl) (hpl : (backTo pos (starEach es X.env)).any (·.1) = false := by rfl) :
    PE X (.Call (.Name x p) (e :: es) [] pos) (tMake C sp dvs E t) := by
  intro pins s σ H Q I h
  refine wpAny_Call_Name_kw (ld_glob I hg hm ?_ hdb)
  refine PySem.W.callWith_K (h₀ := X.base) I.ok.mod.kin M.kp (thn (ha pos pins s σ H _ I h) fun us s1 ⟨vs, H1, I1, r, q⟩ => ⟨I1.kIn, ?_⟩) he hpl
  exact run_make M F hr hb hd hx I1 r q
theorem pe_make0 (M : Mk X.K C f) (F : FnOk X.prog X.w X.K X.mg X.base CX k f fd ps sp) (hr : Room (k + 1) X.A) (hg : Gl X x) (hm : X.mg x = some (.ref C)) (hb : Binds X.K fd ps ds) (hd : Vals dvs ds) (hx : Passes CX X E)
    (hdb : (x == ("__debug__" : Str)) = false := by decide) : PE X (.Call (.Name x p) [] [] pos) (tMake C sp dvs E tNil) := by
  intro pins s σ H Q I h
  refine wpAny_Call_Name_kw (ld_glob I hg hm ?_ hdb)
  exact PySem.W.callWith_K0 I.kIn M.kp (run_make (us := []) M F hr hb hd hx I .nil h)
end
section
variable {X : Cx} {CX : CXT} {k : Nat} {f C : Addr} {fd : FuncData} {ps ks : List Str} {sp : Sp} {E : XK} {x m : Str} {p pos apos kpos : Pos} {e o : Expr} {es : List Expr} {kws : List Keyword} {te ta : TE} {t tk : TA} {nm : Option Str}
variable {g : List Value → List Value → List Value} {gV : List V → List V → List V}
end
structure FnScope (N P : List Str) (sc : Scope) : Prop where
  kind : sc.kind = .function
  co : sc.isCoroutine = false
  gen : sc.isGenerator = false
  nd : N.Nodup
  pre : N.take P.length = P
  par : ∀ x ∈ P, sc.names.lookup x = some .local ∨ sc.names.lookup x = some .cell
  nofree : ∀ y ∈ sc.names, y.2 ≠ .free
theorem bindL_out {kindOf : Str → Option NameKind} {x : Str} : ∀ {binds : List (Str × Value)} {m : Str → Option Value}, (∀ v, (x, v) ∉ binds) → bindL kindOf binds m x = m x
  | [], _, _ => rfl
  | (n, v) :: r, m, h => by
    unfold bindL
    rw [bindL_out fun w hw => h w (List.mem_cons_of_mem _ hw)]
    split
    · have : x ≠ n := by rintro rfl; exact h v List.mem_cons_self
      simp [this]
    · rfl
theorem bindC_out {kindOf : Str → Option NameKind} {x : Str} : ∀ {binds : List (Str × Value)} {m : Str → Option Value}, (∀ v, (x, v) ∉ binds) → bindC kindOf binds m x = m x
  | [], _, _ => rfl
  | (n, v) :: r, m, h => by
    unfold bindC
    rw [bindC_out fun w hw => h w (List.mem_cons_of_mem _ hw)]
    split
    · rfl
    · have : x ≠ n := by rintro rfl; exact h v List.mem_cons_self
      simp [this]
theorem bindL_get {kindOf : Str → Option NameKind} {x : Str} {v : Value} : ∀ {P : List Str} {vs : List Value} {i : Nat} {m : Str → Option Value}, P.Nodup → P[i]? = some x → vs[i]? = some v → kindOf x = some .local →
    bindL kindOf (P.zip vs) m x = some v
  | [], _, _, _, _, h, _, _ => by simp at h
  | _ :: _, [], _, _, _, _, h, _ => by simp at h
  | p :: P, w :: vs, 0, m, nd, h1, h2, hk => by
    simp at h1 h2; subst h1; subst h2
    show bindL kindOf ((p, w) :: P.zip vs) m p = _
    unfold bindL
    rw [bindL_out fun v hv => (List.nodup_cons.mp nd).1 (List.of_mem_zip hv).1, if_pos hk]
    simp
  | p :: P, w :: vs, i + 1, m, nd, h1, h2, hk => by
    show bindL kindOf ((p, w) :: P.zip vs) m x = _
    unfold bindL
    exact bindL_get (i := i) (List.nodup_cons.mp nd).2 (by simpa using h1) (by simpa using h2) hk
theorem bindC_get {kindOf : Str → Option NameKind} {x : Str} {v : Value} : ∀ {P : List Str} {vs : List Value} {i : Nat} {m : Str → Option Value}, P.Nodup → P[i]? = some x → vs[i]? = some v → kindOf x ≠ some .local →
    bindC kindOf (P.zip vs) m x = some v
  | [], _, _, _, _, h, _, _ => by simp at h
  | _ :: _, [], _, _, _, _, h, _ => by simp at h
  | p :: P, w :: vs, 0, m, nd, h1, h2, hk => by
    simp at h1 h2; subst h1; subst h2
    show bindC kindOf ((p, w) :: P.zip vs) m p = _
    unfold bindC
    rw [bindC_out fun v hv => (List.nodup_cons.mp nd).1 (List.of_mem_zip hv).1, if_neg hk]
    simp
  | p :: P, w :: vs, i + 1, m, nd, h1, h2, hk => by
    show bindC kindOf ((p, w) :: P.zip vs) m x = _
    unfold bindC
    exact bindC_get (i := i) (List.nodup_cons.mp nd).2 (by simpa using h1) (by simpa using h2) hk
def start (N : List Str) (vs : List V) : St := vs.map some ++ List.replicate (N.length - vs.length) none
def cxOf (CX : CXT) (P : Program) (w : World) (K : PySem.W.Frag) (mg : Str → Option Value) (base : Heap) (N : List Str) (qual : Str) (scope : Scope) (f : Addr) (cd : Value) (A : Around) (outer : List Env) (s : Shared) (H : Hp) (E : XK) : Cx where
  prog := P
  w := w
  K := K
  mg := mg
  base := base
  A := A.deeper (envOfC qual scope s.heap.objs.size f cd)
  N := N
  s_0 := s
  H_0 := H
  env := envOfC qual scope s.heap.objs.size f cd
  outer := outer
  stack := envOfC qual scope s.heap.objs.size f cd :: outer
  ex := []
  calm := true
  fn := fun _ => true
  pn := []
  xe := fun e s' => wpAny (model P w) (A.deeper (envOfC qual scope s.heap.objs.size f cd)) (leaving (envOfC qual scope s.heap.objs.size f cd) e) (fun _ s'' => CX outer H s E e s'') (fun e' s'' => CX outer H s E e' s'') s'
theorem cell_has {sc : Scope} {n : Nat} {x : Str} (h : sc.names.lookup x = some .cell) : ∃ c, (cellsFrom n sc.names []).lookup x = some c := by
  have q := PySem.W.cellsFrom_some sc.names n [] (.inl h)
  exact Option.isSome_iff_exists.mp q
theorem inv_start {CX : CXT} {P : Program} {w : World} {K : PySem.W.Frag} {mg : Str → Option Value} {base : Heap} {N ps : List Str} {qual : Str} {scope : Scope} {f : Addr} {cd : Value} {A : Around} {outer : List Env} {s s1 : Shared} {H : Hp} {E : XK} {us : List Value} {vs : List V}
    (S : FnScope N ps scope) (hd : A.handled = none) (e0 : Env0 P w K mg base A outer s H) (hl : vs.length = ps.length) (r : Vals vs us)
    (x : InCallC s s.heap.objs.size (bindL (envOfC qual scope s.heap.objs.size f cd).kindOf (ps.zip us) fun _ => none) (cellsFrom (s.heap.objs.size + 1) scope.names []) (bindC (envOfC qual scope s.heap.objs.size f cd).kindOf (ps.zip us) fun _ => none) s1) :
    Inv (cxOf CX P w K mg base N qual scope f cd A outer s H E) [] (start N vs) H s1 := by
  have hpl : ps.length ≤ N.length := by have := congrArg List.length S.pre; rw [List.length_take] at this; omega
  obtain ⟨h1, tk, rfl, hk⟩ := x.done
  have noA : ∀ b : Addr, b ∉ (cxOf CX P w K mg base N qual scope f cd A outer s H E).ex := fun b z => absurd (show b ∈ ([] : List Addr) from z) (by simp)
  refine ⟨⟨e0.mod, S.kind, rfl, rfl, Nat.le_refl _, fun y z c h1 h2 => ?_, fun y hy => ?_, fun y c _ h => ?_, fun _ => hd, Around.frames_deeper e0.frames, .inr ⟨rfl, rfl⟩, fun b z => absurd z (noA b), e0.bs, e0.bsz, fun b _ _ => noA b, fun b z => absurd z (noA b), e0.funs, e0.frf⟩,
    rfl, e0.bare, Un.kept hk, ⟨_, x.toInCall.ns, fun i y v h1 h2 h3 => ?_⟩, fun y c h => ⟨_, x.cell y c h⟩, e0.hok.fresh (Nat.le_refl _), fun y c h => ?_, fun p hp => absurd (show p ∈ ([] : List (Addr × Obj)) from hp) (by simp), e0.hok.kept hk, ?_⟩
  · exact name_of_addr x.apart (PySem.mem_of_lookup h1) (PySem.mem_of_lookup h2)
  · have hy : scope.names.lookup y = some .cell ∨ scope.names.lookup y = some .free := hy
    rcases hy with hy | hy
    · exact cell_has hy
    · exact absurd rfl (S.nofree _ (PySem.mem_of_lookup hy))
  · exact Nat.le_of_lt (x.above y c (PySem.mem_of_lookup h))
  · have hi : i < vs.length := by
      unfold start at h2
      by_cases hi : i < vs.length
      · exact hi
      · rw [List.getElem?_append_right (by simpa using hi)] at h2
        rw [List.getElem?_replicate] at h2
        split at h2 <;> cases h2
    have ha : vs[i]? = some v := by
      unfold start at h2
      rw [List.getElem?_append_left (by simpa using hi), List.getElem?_map] at h2
      cases e : vs[i]? with
      | none => rw [e] at h2; cases h2
      | some a => rw [e] at h2; cases h2; rfl
    obtain ⟨u, hu, rv⟩ := r.get ha
    have hp : ps[i]? = some y := by
      rw [← S.pre, List.getElem?_take_of_lt (by omega)]; exact h1
    have ndP : ps.Nodup := by rw [← S.pre]; exact S.nd.sublist (List.take_sublist _ _)
    refine ⟨u, rv, ?_⟩
    rcases S.par y (List.mem_of_getElem? hp) with k | k
    · exact .inl ⟨k, bindL_get ndP hp hu k⟩
    · obtain ⟨c, e⟩ := cell_has (n := s.heap.objs.size + 1) k
      refine .inr ⟨.inl k, c, e, ?_⟩
      have q := x.cell y c e
      rw [bindC_get ndP hp hu (by show scope.names.lookup y ≠ _; rw [k]; decide)] at q
      exact q
  · exact e0.hok.fresh (Nat.le_of_lt (x.above y c (PySem.mem_of_lookup h)))
  · unfold start
    show _ = N.length
    rw [List.length_append, List.length_map, List.length_replicate]
    omega
theorem fn_of {CX : CXT} {P : Program} {w : World} {K : PySem.W.Frag} {mg : Str → Option Value} {base : Heap} {k : Nat} {f : Addr} {name qual : Str} {params : Arguments} {body : List Stmt} {scope : Scope} {dV kV doc pm cdv ct oc : Value} {an od : Option Addr}
    {osl : Array (Option Value)} {N ps : List Str} {sp : Sp} (lk : K.lookup f = some ⟨oc, od, .func (PySem.W.fnOf name qual params body scope dV kV doc pm an cdv ct), osl⟩) (hcd : PySem.W.codeIn K cdv qual = true) (S : FnScope N ps scope)
    (len : ∀ vs H Q E, sp vs H Q E → vs.length = ps.length)
    (hbody : ∀ (A : Around) (outer : List Env) (s : Shared) (H : Hp) (vs : List V) (Q : VK) (E : XK), Room k (A.deeper (envOfC qual scope s.heap.objs.size f cdv)) → sp vs H Q E →
      ∃ t, PSs (cxOf CX P w K mg base N qual scope f cdv A outer s H E) body t ∧ t { nx := fun _ H' => Q .non H', rt := Q } (start N vs) H) :
    FnOk P w K mg base CX (k + 1) f (PySem.W.fnOf name qual params body scope dV kV doc pm an cdv ct) ps sp := by
  refine ⟨len, fun A outer s H args us vs Q E hr e0 hb r hsp => ?_⟩
  have hl := len _ _ _ _ hsp
  have KX : K.In s.heap := e0.mod.kin.keeps fun b o e => (e0.bs b o e).1
  have lim : s.heap.NoLimit := e0.mod.nolimit.keeps fun b o e => (e0.bs b o e).1
  have hkind : ∀ y ∈ ps.zip us, scope.names.lookup y.1 = some .local ∨ (scope.names.lookup y.1 = some .cell ∧ ((cellsFrom (s.heap.objs.size + 1) scope.names []).lookup y.1).isSome = true) := fun ⟨n, v⟩ hy => by
    rcases S.par n (List.of_mem_zip hy).1 with q | q
    · exact .inl q
    · exact .inr ⟨q, PySem.W.cellsFrom_some _ _ _ (.inl q)⟩
  refine codeAny_call_function hr.depth (KX _ _ lk) rfl S.co S.gen rfl (PySem.W.codeRec_of KX hcd) (hb _ _ _ _ ?_)
  refine wpAny_newFunctionEnv_cells S.kind hkind fun env he s1 x => ?_
  subst he
  refine ⟨lim.keeps x.toInCall.keep, codeAny_func ?_⟩
  obtain ⟨t, ht, hq⟩ := hbody A outer s H vs Q E (hr.deeper _) hsp
  have I : Inv (cxOf CX P w K mg base N qual scope f cdv A outer s H E) [] (start N vs) H s1 := inv_start S hr.hd e0 hl r x
  refine wpAny_mono (ht [] s1 (start N vs) H _ I hq) (fun fl s' hs => ?_) fun e s' hs => hs
  have fin : ∀ {σ' : St} {H' : Hp} {v : V} {u : Value}, Inv (cxOf CX P w K mg base N qual scope f cdv A outer s H E) [] σ' H' s' → RelV v u → Q v H' → CE outer P w H s Q u s' :=
    fun {σ' H' v u} J rv q => ⟨v, H', J.os, J.bare, J.base, J.hok, rv, q⟩
  cases fl with
  | ret u =>
    obtain ⟨v, σ', H', J, rv, q⟩ := hs
    exact fin J rv q
  | next =>
    obtain ⟨σ', H', J, q⟩ := hs
    exact fin (v := V.non) (u := Value.none) J rfl q
  | brk =>
    obtain ⟨_, _, _, q⟩ := hs
    exact False.elim q
  | cont =>
    obtain ⟨_, _, _, q⟩ := hs
    exact False.elim q
end L2
namespace L2
open PySem PySem.Spec PyProof.Rows
section
variable {X : Cx} {x : Str} {p pos : Pos} {e : Expr} {es : List Expr} {t : TA} {id T : String} {r : List V → Hp → VK → Prop}
def tCB (r : List V → Hp → VK → Prop) (t : TA) : TE := fun σ H Q => t σ H fun vs H1 => r vs H1 Q
theorem pe_callB (hc : CallR X (.builtin id) r) (hg : Gl X x) (hm : X.mg x = none) (hv : bootBuiltins x = some (.builtin id)) (ha : PA X (e :: es) t) (hn : x ≠ "__name__" := by decide) (hdb : (x == ("__debug__" : Str)) = false := by decide)
    (he : starEach (e :: es) X.env = (false, eval e X.env) :: starEach es X.env := by rfl) (hpl : (backTo pos (starEach es X.env)).any (·.1) = false := by rfl) : PE X (.Call (.Name x p) (e :: es) [] pos) (tCB r t) := by
  intro pins s σ H Q I h
  refine wpAny_Call_Name_kw (ld_blt I hg hm hv ?_ hn hdb)
  exact PyProof.Rows.callWith_builtin1 (thn (ha pos pins s σ H _ I h) fun us s1 ⟨vs, H1, I1, r1, q1⟩ => hc pins s1 σ H1 vs us Q I1 r1 q1) he hpl
end
end L2
namespace HT
open PySem PyProof.Rows
section
open PySem.SeqAt
open PySem.AutoSeq1 (wpAny_loadPart')
open PySem.MeetsSeq PySem.MeetsSeq2 PySem.MeetsSeq3
end
section
variable {prog : Program} {w : World} {A : Around} {E : Value → Shared → Prop} {s : Shared}
def sIx (n d : Nat) : Option Int → Nat
  | none => d
  | some v => if v < 0 then (v + (n : Int)).toNat else min v.toNat n
theorem sIx_none (n d : Nat) : sIx n d none = d := rfl
theorem sIx_nat (n d k : Nat) : sIx n d (some (k : Int)) = min k n := by
  show (if (k : Int) < 0 then ((k : Int) + (n : Int)).toNat else min (k : Int).toNat n) = min k n
  rw [if_neg (by omega), Int.toNat_natCast]
end
end HT
namespace L2
open PySem PySem.Spec PyProof.Rows
abbrev TO := St → Hp → (Option Int → Hp → Prop) → Prop
def PO (X : Cx) (e : Option Expr) (t : TO) : Prop :=
  ∀ (pins : List (Addr × Obj)) (s : Shared) (σ : St) (H : Hp) (Q : Option Int → Hp → Prop), Inv X pins σ H s → t σ H Q →
    wpAny (model X.prog X.w) X.A (evalPart e X.env) (fun u s' => ∃ o H', Inv X pins σ H' s' ∧ IsPart u o ∧ Q o H') X.xe s
def tNoPart : TO := fun _ H Q => Q none H
def tPart (t : TE) : TO := fun σ H Q => t σ H fun x H1 => ∃ i, x = .int i ∧ Q (some i) H1
section
variable {X : Cx} {e : Expr} {te : TE} {lo hi : Option Expr} {tl th : TO} {pos p2 : Pos}
theorem po_none : PO X none tNoPart := by
  intro pins s σ H Q I h
  rw [evalPart_none]
  exact wpAny_pure ⟨none, H, I, .none, h⟩
theorem po_some (h : PE X e te) : PO X (some e) (tPart te) := by
  intro pins s σ H Q I hw
  rw [evalPart_some]
  refine thn (h pins s σ H _ I hw) fun u s1 ⟨x, H1, I1, r1, q1⟩ => ?_
  obtain ⟨i, rfl, q⟩ := q1
  obtain ⟨t, rfl⟩ := r1
  exact ⟨some i, H1, I1, .int i t, q⟩
def SlR (X : Cx) (r : V → Option Int → Option Int → Hp → VK → Prop) : Prop :=
  ∀ (pins : List (Addr × Obj)) (s : Shared) (σ : St) (H : Hp) (x : V) (v vl vu : Value) (lo hi : Option Int) (sl : Addr) (Q : VK), Inv X pins σ H s → RelV x v → s.heap.IsSliceOf sl vl vu .none → IsPart vl lo → IsPart vu hi → r x lo hi H Q →
    ∃ T id, typeLookup (.type T) "__getitem__" = pure (some (.builtin id)) ∧ s.TypeIs v T ∧ wpAny (model X.prog X.w) X.A (getItem v (.ref sl)) (EP X pins σ Q) X.xe s
theorem SlR.or {r r' : V → Option Int → Option Int → Hp → VK → Prop} (h : SlR X r) (h' : SlR X r') : SlR X (fun x lo hi H Q => r x lo hi H Q ∨ r' x lo hi H Q) := by
  intro pins s σ H x v vl vu lo hi sl Q I rx hs pl pu q
  rcases q with q | q
  · exact h pins s σ H x v vl vu lo hi sl Q I rx hs pl pu q
  · exact h' pins s σ H x v vl vu lo hi sl Q I rx hs pl pu q
def tSl (r : V → Option Int → Option Int → Hp → VK → Prop) (te : TE) (tl th : TO) : TE := fun σ H Q => te σ H fun x H1 => tl σ H1 fun l H2 => th σ H2 fun u H3 => r x l u H3 Q
theorem pe_slice {r : V → Option Int → Option Int → Hp → VK → Prop} (hr : SlR X r) (he : PE X e te) (hl : PO X lo tl) (hu : PO X hi th) : PE X (.Subscript e (.Slice lo hi none p2) pos) (tSl r te tl th) := by
  intro pins s σ H Q I h
  refine Subscript_ (thn (he pins s σ H _ I h) fun v s1 ⟨x, H1, I1, r1, q1⟩ => ?_)
  refine wpAny_Slice (thn (hl pins s1 σ H1 _ I1 q1) fun vl s2 ⟨l, H2, I2, pl, q2⟩ => thn (hu pins s2 σ H2 _ I2 q2) fun vu s3 ⟨u, H3, I3, pu, q3⟩ => ?_)
  rw [evalPart_none]
  refine wpAny_pure ?_
  have I4 : Inv X pins σ H3 { s3 with heap := s3.heap.push { cls := .type "slice", data := .fields #[vl, vu, .none] } } := I3.kept (t' := s3.toks) fun b ob q => Heap.get?_push_of_some _ q
  obtain ⟨T, id, hT, ht, hg⟩ := hr pins { s3 with heap := s3.heap.push { cls := .type "slice", data := .fields #[vl, vu, .none] } } σ H3 x v vl vu l u s3.heap.objs.size Q I4 r1 (Heap.IsSliceOf.new ..) pl pu q3
  show wpAny (model X.prog X.w) X.A (subscriptTail e (.Slice lo hi none p2) v (.ref s3.heap.objs.size)) (EP X pins σ Q) X.xe { s3 with heap := s3.heap.push { cls := .type "slice", data := .fields #[vl, vu, .none] } }
  exact tail_any (ops := [.ref s3.heap.objs.size, v]) ht hT hg (by with_unfolding_all rfl)
def cutV (xs : List V) (lo hi : Option Int) : List V := (xs.drop (HT.sIx xs.length 0 lo)).take (HT.sIx xs.length xs.length hi - HT.sIx xs.length 0 lo)
theorem cutV_length (xs : List V) (lo hi : Option Int) : (cutV xs lo hi).length ≤ xs.length := by
  unfold cutV
  rw [List.length_take, List.length_drop]
  omega
end
end L2
namespace L2
open PySem PySem.Spec PyProof.Rows
def ixN (n : Nat) (i : Int) : Option Nat := if 0 ≤ i then (if i < n then some i.toNat else none) else if -(n : Int) ≤ i then some (i + n).toNat else none
def atI {α : Type} (xs : List α) (i : Int) : Option α := (ixN xs.length i).bind fun j => xs[j]?
theorem ixN_seq {n : Nat} {i : Int} {j : Nat} (h : ixN n i = some j) : seqIndex? i n = some j ∧ j < n ∧ -(n : Int) ≤ i ∧ i < n := by
  unfold ixN at h
  by_cases h0 : 0 ≤ i
  · rw [if_pos h0] at h
    by_cases h1 : i < n
    · rw [if_pos h1] at h
      have e : i.toNat = j := Option.some.inj h
      exact ⟨by rw [seqIndex_of h0 h1, e], by omega, by omega, h1⟩
    · rw [if_neg h1] at h; cases h
  · rw [if_neg h0] at h
    by_cases h1 : -(n : Int) ≤ i
    · rw [if_pos h1] at h
      have e : (i + n).toNat = j := Option.some.inj h
      exact ⟨by rw [seqIndex_neg (by omega) h1, e], by omega, h1, by omega⟩
    · rw [if_neg h1] at h; cases h
theorem atI_get {α : Type} {xs : List α} {i : Int} {v : α} (h : atI xs i = some v) : ∃ j, seqIndex? i xs.length = some j ∧ xs[j]? = some v ∧ j < xs.length ∧ -(xs.length : Int) ≤ i ∧ i < xs.length := by
  unfold atI at h
  cases e : ixN xs.length i with
  | none => rw [e] at h; cases h
  | some j =>
    rw [e] at h
    obtain ⟨h1, h2, h3, h4⟩ := ixN_seq e
    exact ⟨j, h1, h, h2, h3, h4⟩
theorem atI_nat {α : Type} {xs : List α} {j : Nat} {v : α} (h : xs[j]? = some v) : atI xs (j : Int) = some v := by
  have hj : j < xs.length := (List.getElem?_eq_some_iff.mp h).1
  have e : ixN xs.length (j : Int) = some j := by
    unfold ixN
    rw [if_pos (by omega), if_pos (by omega)]; simp
  unfold atI; rw [e]; exact h
def PlainIx (b : Expr) : Prop := ∀ o i, subscripted b false o i = operate [o, i] (getItem o i)
def IxR (X : Cx) (r : R2) : Prop :=
  ∀ (value slice : Expr) (pins : List (Addr × Obj)) (s : Shared) (σ : St) (H : Hp) (x y : V) (v u : Value) (Q : VK), Inv X pins σ H s → RelV x v → RelV y u → r x y H Q →
    subscripted slice false v u = operate [v, u] (getItem v u) → wpAny (model X.prog X.w) X.A (subscriptTail value slice v u) (EP X pins σ Q) X.xe s
def MtR (X : Cx) (id : String) (r : V → List V → Hp → VK → Prop) : Prop :=
  ∀ (pins : List (Addr × Obj)) (s : Shared) (σ : St) (H : Hp) (x : V) (xs : List V) (v : Value) (us : List Value) (Q : VK), Inv X pins σ H s → RelV x v → Vals xs us → r x xs H Q →
    wpAny (model X.prog X.w) X.A (call (.builtin id) (v :: us)) (EP X pins σ Q) X.xe s
section
variable {X : Cx} {a b : Expr} {ta tb : TE} {pos : Pos}
theorem IxR.or {r r' : R2} (h : IxR X r) (h' : IxR X r') : IxR X (fun x y H Q => r x y H Q ∨ r' x y H Q) := by
  intro value slice pins s σ H x y v u Q I rx ry q hs
  rcases q with q | q
  · exact h value slice pins s σ H x y v u Q I rx ry q hs
  · exact h' value slice pins s σ H x y v u Q I rx ry q hs
theorem MtR.or {id : String} {r r' : V → List V → Hp → VK → Prop} (h : MtR X id r) (h' : MtR X id r') : MtR X id (fun x xs H Q => r x xs H Q ∨ r' x xs H Q) := by
  intro pins s σ H x xs v us Q I rx rs q
  rcases q with q | q
  · exact h pins s σ H x xs v us Q I rx rs q
  · exact h' pins s σ H x xs v us Q I rx rs q
theorem pe_ix {r : R2} (hr : IxR X r) (ha : PE X a ta) (hb : PE X b tb) (hs : PlainIx b) : PE X (.Subscript a b pos) (tOp r ta tb) := by
  intro pins s σ H Q I h
  exact Subscript_ (binT ha hb I h fun v u s2 x y H2 I2 rx ry q => hr a b pins s2 σ H2 x y v u Q I2 rx ry q (hs _ _))
def rIxL (K : PySem.W.Frag) : R2 := fun x y H Q => ∃ p xs i v, x = .ref p ∧ y = .int i ∧ SqL K H p xs ∧ atI xs i = some v ∧ Q v H
theorem ix_list : IxR X (rIxL X.K) := by
  intro value slice pins s σ H x y v u Q I rx ry h hs
  obtain ⟨p, xs, i, z, rfl, rfl, hq, he, q⟩ := h
  cases rx
  obtain ⟨t, rfl⟩ := ry
  obtain ⟨its, r, pl, hz⟩ := I.list hq
  obtain ⟨j, h1, h2, h3, h4, h5⟩ := atI_get he
  obtain ⟨w, ew, rw'⟩ := r.get h2
  have hl := r.length
  have hn := line63
  have fin : EP X pins σ Q w s := ⟨z, H, I, rw', q⟩
  by_cases h0 : 0 ≤ i
  · have hj : i.toNat = j := by
      rw [seqIndex_of h0 h5] at h1
      exact Option.some.inj h1
    exact item_listR pl.isList h0 (by omega) (by rw [hj]; simpa using ew) fin hs
  · have hj : (i + (its.toArray.size : Int)).toNat = j := by
      rw [seqIndex_neg (by omega) h4] at h1
      rw [List.size_toArray, ← hl]
      exact Option.some.inj h1
    exact subscriptTail_builtinR (x := w) pl.isList.typeIs slot_list_getitem.lookup
      (wpAny_getItem_list_neg (Q := fun r s' => r = w ∧ EP X pins σ Q r s') pl.isList (by omega) (by rw [List.size_toArray] <;> omega) (by omega) (by rw [hj]; simpa using ew) ⟨rfl, fin⟩) hs
theorem mapSeq_set (its : List Value) (n j : Nat) (u : Value) : Obj.mapSeq (·.setIfInBounds j u) { cls := .type "list", data := .seq its.toArray n } = { cls := .type "list", data := .seq (its.set j u).toArray n } := by
  simp [Obj.mapSeq]
theorem Inv.lst {pins : List (Addr × Obj)} {σ : St} {H : Hp} {s : Shared} {p : Addr} {xs : List V} (I : Inv X pins σ H s) (h : H p = some (.lst xs)) :
    ∃ (its : List Value) (n : Nat), Vals xs its ∧ s.heap.get? p = some { cls := .type "list", data := .seq its.toArray n } ∧ xs.length ≤ sizeLine := by
  obtain ⟨z, its, n, r, e⟩ := I.hok p _ h
  exact ⟨its, n, r, e, z⟩
theorem Inv.lstUpd {pins : List (Addr × Obj)} {σ : St} {H : Hp} {s : Shared} {p : Addr} {xs ys : List V} {its its' : List Value} {n n' : Nat} {f : Obj → Obj} (I : Inv X pins σ H s) (h : H p = some (.lst xs))
    (ho : s.heap.get? p = some { cls := .type "list", data := .seq its.toArray n }) (hf : f { cls := .type "list", data := .seq its.toArray n } = { cls := .type "list", data := .seq its'.toArray n' }) (r : Vals ys its') (hz : ys.length ≤ sizeLine) (t : Nat) :
    Inv X pins σ (upd H p (.lst ys)) { s with heap := s.heap.update p f, toks := t } := by
  have e : (s.heap.update p f).get? p = some { cls := .type "list", data := .seq its'.toArray n' } := by
    rw [Heap.get?_update_self f ho (by rw [hf] <;> rfl), hf]
  refine I.write (x := p) (e := p) (by rw [h]; trivial) (.inl rfl) (fun b u hb q => (Heap.get?_update_other _ _ (Ne.symm hb)).trans q) ⟨_, e⟩ ?_
  exact ⟨hz, its', n', r, e⟩
def rSetL : V → V → V → Hp → (Hp → Prop) → Prop := fun o i v H Q => ∃ p xs k j, o = .ref p ∧ i = .int k ∧ H p = some (.lst xs) ∧ ixN xs.length k = some j ∧ Q (upd H p (.lst (xs.set j v)))
theorem set_list : PSet X rSetL := by
  intro pins s σ H o i v ov iv u Q I ro ri rv h
  obtain ⟨p, xs, k, j, rfl, rfl, hp, hj, q⟩ := h
  cases ro
  obtain ⟨t, rfl⟩ := ri
  obtain ⟨its, n, r, ho, hz⟩ := I.lst hp
  obtain ⟨h1, h2, h3, h4⟩ := ixN_seq hj
  have hl := r.length
  have hn := line63
  have I' : Inv X pins σ (upd H p (.lst (xs.set j v))) { s with heap := s.heap.update p (Obj.mapSeq (·.setIfInBounds j u)) } :=
    I.lstUpd hp ho (mapSeq_set its n j u) (r.set rv j) (by rw [List.length_set]; exact hz) s.toks
  by_cases h0 : 0 ≤ k
  · have hk : k.toNat = j := by
      rw [seqIndex_of h0 h4] at h1
      exact Option.some.inj h1
    exact PySem.W.ki_setAt ho h0 (by omega) (by rw [List.size_toArray, ← hl]; exact h4) (by rw [hk]; exact ⟨_, I', q⟩)
  · have hk : (k + (its.toArray.size : Int)).toNat = j := by
      rw [seqIndex_neg (by omega) h3] at h1
      rw [List.size_toArray, ← hl]
      exact Option.some.inj h1
    exact PySem.W.ki_setBack ho (by omega) (by rw [List.size_toArray, ← hl]; exact h3) (by omega) (by rw [hk]; exact ⟨_, I', q⟩)
theorem slice_bounds (lo hi : Option Int) (n : Nat) : (sliceBounds lo hi none n).1 = ((HT.sIx n 0 lo : Nat) : Int) ∧ (sliceBounds lo hi none n).2.1 = ((HT.sIx n n hi : Nat) : Int) ∧ (sliceBounds lo hi none n).2.2 = 1 := by
  refine ⟨?_, ?_, rfl⟩
  · cases lo with
    | none => simp [sliceBounds, HT.sIx]
    | some i =>
      simp only [sliceBounds, HT.sIx, Option.getD_none, show (1 : Int) > 0 by decide, if_true]
      by_cases h : i < 0
      · simp only [h, if_true] <;> omega
      · simp only [h, if_false] <;> omega
  · cases hi with
    | none => simp [sliceBounds, HT.sIx]
    | some i =>
      simp only [sliceBounds, HT.sIx, Option.getD_none, show (1 : Int) > 0 by decide, if_true]
      by_cases h : i < 0
      · simp only [h, if_true] <;> omega
      · simp only [h, if_false] <;> omega
theorem slicePick_cut (its : List Value) (lo hi : Option Int) : slicePick its.toArray lo hi none = ((its.drop (HT.sIx its.length 0 lo)).take (HT.sIx its.length its.length hi - HT.sIx its.length 0 lo)).toArray := by
  obtain ⟨h1, h2, h3⟩ := slice_bounds lo hi its.toArray.size
  unfold slicePick
  rw [h1, h2, h3]
  simp only [sliceRange_one, pick_run, List.size_toArray] <;> rfl
def rSlL (K : PySem.W.Frag) : V → Option Int → Option Int → Hp → VK → Prop := fun x lo hi H Q => ∃ a xs, x = .ref a ∧ SqL K H a xs ∧ ∀ p, H p = none → Q (.ref p) (upd H p (.lst (cutV xs lo hi)))
theorem sl_list : SlR X (rSlL X.K) := by
  intro pins s σ H x v vl vu lo hi sl Q I rx hs pl pu h
  obtain ⟨a, xs, rfl, hx, q⟩ := h
  cases rx
  obtain ⟨its, r, ht, hz⟩ := I.list hx
  have hlen := r.length
  refine ⟨"list", _, slot_list_getitem.lookup, ht.isList.typeIs, ?_⟩
  refine wpAny_getItem_list_slice ht.isList hs pl pu .none (by simp) ?_ (by rw [List.size_toArray] <;> omega)
  rw [slicePick_cut, ← hlen]
  refine ⟨.ref s.heap.objs.size, _, I.laid (t' := s.toks) (o := .lst (cutV xs lo hi)) (fun b ob q => Heap.get?_push_of_some _ q) (Nat.le_refl _) ?_, rfl, q _ (I.hok.fresh (Nat.le_refl _))⟩
  exact ⟨Nat.le_trans (cutV_length xs lo hi) hz, _, 0, (r.drop (HT.sIx xs.length 0 lo)).take (HT.sIx xs.length xs.length hi - HT.sIx xs.length 0 lo), Heap.get?_push_size _ rfl⟩
def flatV : V → Bool
  | .non => true
  | .bl _ => true
  | .int _ => true
  | .str _ => true
  | _ => false
def eqV : V → V → Bool
  | .non, .non => true
  | .bl a, .bl b => a == b
  | .bl a, .int b => (if a then 1 else 0) == b
  | .int a, .bl b => a == (if b then 1 else 0)
  | .int a, .int b => a == b
  | .str a, .str b => a == b
  | _, _ => false
theorem eqAt_V {A : Around} {s : Shared} {y x : V} {u v : Value} (ry : RelV y u) (rx : RelV x v) (fy : flatV y = true) (fx : flatV x = true) : SeqAt.EqAt A s u v (eqV y x) := by
  cases y with
  | non =>
    cases ry
    cases x with
    | non => cases rx; exact SeqAt.EqAt.same _
    | bl b => cases rx; exact SeqAt.EqAt.none_bool b
    | int b => obtain ⟨t, rfl⟩ := rx; exact SeqAt.EqAt.none_int b t
    | str b => obtain ⟨t, rfl⟩ := rx; exact SeqAt.EqAt.none_str b t
    | _ => exact absurd (show false = true from fx) Bool.false_ne_true
  | bl a =>
    cases ry
    cases x with
    | non => cases rx; exact SeqAt.EqAt.bool_none a
    | bl b => cases rx; exact SeqAt.EqAt.bool_bool a b
    | int b => obtain ⟨t, rfl⟩ := rx; exact SeqAt.EqAt.bool_int a b t
    | str b => obtain ⟨t, rfl⟩ := rx; exact SeqAt.EqAt.bool_str a b t
    | _ => exact absurd (show false = true from fx) Bool.false_ne_true
  | int a =>
    obtain ⟨t', rfl⟩ := ry
    cases x with
    | non => cases rx; exact SeqAt.EqAt.int_none a t'
    | bl b => cases rx; exact SeqAt.EqAt.int_bool a t' b
    | int b => obtain ⟨t, rfl⟩ := rx; exact SeqAt.EqAt.int_int a t' b t
    | str b => obtain ⟨t, rfl⟩ := rx; exact SeqAt.EqAt.int_str a t' b t
    | _ => exact absurd (show false = true from fx) Bool.false_ne_true
  | str a =>
    obtain ⟨t', rfl⟩ := ry
    cases x with
    | non => cases rx; exact SeqAt.EqAt.str_none a t'
    | bl b => cases rx; exact SeqAt.EqAt.str_bool a t' b
    | int b => obtain ⟨t, rfl⟩ := rx; exact SeqAt.EqAt.str_int a t' b t
    | str b => obtain ⟨t, rfl⟩ := rx; exact SeqAt.EqAt.str_str a t' b t
    | _ => exact absurd (show false = true from fx) Bool.false_ne_true
  | _ => exact absurd (show false = true from fy) Bool.false_ne_true
def eqU (x : V) (u : Value) : Bool := match u with
  | .none => eqV .non x
  | .bool b => eqV (.bl b) x
  | .int i _ => eqV (.int i) x
  | .str z _ => eqV (.str z) x
  | _ => false
theorem eqU_of {x y : V} {u : Value} (r : RelV y u) (f : flatV y = true) : eqU x u = eqV y x := by
  cases y with
  | non => cases r; rfl
  | bl b => cases r; rfl
  | int i => obtain ⟨t, rfl⟩ := r; rfl
  | str z => obtain ⟨t, rfl⟩ := r; rfl
  | _ => exact absurd (show false = true from f) Bool.false_ne_true
theorem any_eqU {x : V} : ∀ {xs : List V} {us : List Value}, Vals xs us → xs.all flatV = true → us.any (eqU x) = xs.any fun y => eqV y x
  | _, _, .nil, _ => rfl
  | y :: xs, u :: us, .cons r t, f => by
    rw [List.all_cons, Bool.and_eq_true] at f
    rw [List.any_cons, List.any_cons, eqU_of r f.1, any_eqU t f.2]
theorem mem_eqAt {A : Around} {s : Shared} {x : V} {v : Value} (rx : RelV x v) (fx : flatV x = true) : ∀ {xs : List V} {us : List Value}, Vals xs us → xs.all flatV = true → ∀ u ∈ us, SeqAt.EqAt A s u v (eqU x u)
  | _, _, .nil, _ => fun u hu => by cases hu
  | y :: xs, u :: us, .cons r t, f => fun u' hu => by
    rw [List.all_cons, Bool.and_eq_true] at f
    rcases List.mem_cons.mp hu with rfl | hu
    · rw [eqU_of r f.1]; exact eqAt_V r rx f.1 fx
    · exact mem_eqAt rx fx t f.2 u' hu
def inV (x : V) (xs : List V) : Bool := xs.any fun y => eqV y x
def rIn (K : PySem.W.Frag) (neg : Bool) : R2 := fun x y H Q => ∃ p xs, y = .ref p ∧ (SqL K H p xs ∨ SqT K H p xs) ∧ flatV x = true ∧ xs.all flatV = true ∧ Q (.bl (if neg then !inV x xs else inV x xs)) H
theorem op_in_seq : OpR X (compareOp .In) (rIn X.K false) := by
  intro pins s σ H x y v u Q I rx ry h
  obtain ⟨p, xs, rfl, hq, fx, fs, q⟩ := h
  cases ry
  rcases hq with hq | hq
  · obtain ⟨its, r, pl, hz⟩ := I.list hq
    refine SeqAt.in_listAt (eqU x) pl.isList (fun w hw => mem_eqAt rx fx r fs w (by simpa using hw)) ⟨.bl _, H, I, rfl, ?_⟩
    rw [show its.toArray.any (eqU x) = its.any (eqU x) by simp, any_eqU r fs]
    exact q
  · obtain ⟨its, r, pl, hz⟩ := I.tuple hq
    refine SeqAt.in_tupleAt (eqU x) pl (fun w hw => mem_eqAt rx fx r fs w (by simpa using hw)) ⟨.bl _, H, I, rfl, ?_⟩
    rw [show its.toArray.any (eqU x) = its.any (eqU x) by simp, any_eqU r fs]
    exact q
theorem op_notIn_seq : OpR X (compareOp .NotIn) (rIn X.K true) := by
  intro pins s σ H x y v u Q I rx ry h
  obtain ⟨p, xs, rfl, hq, fx, fs, q⟩ := h
  cases ry
  rcases hq with hq | hq
  · obtain ⟨its, r, pl, hz⟩ := I.list hq
    refine SeqAt.notIn_listAt (eqU x) pl.isList (fun w hw => mem_eqAt rx fx r fs w (by simpa using hw)) ⟨.bl _, H, I, rfl, ?_⟩
    rw [show its.toArray.any (eqU x) = its.any (eqU x) by simp, any_eqU r fs]
    exact q
  · obtain ⟨its, r, pl, hz⟩ := I.tuple hq
    refine SeqAt.notIn_tupleAt (eqU x) pl (fun w hw => mem_eqAt rx fx r fs w (by simpa using hw)) ⟨.bl _, H, I, rfl, ?_⟩
    rw [show its.toArray.any (eqU x) = its.any (eqU x) by simp, any_eqU r fs]
    exact q
theorem call_len_seq : CallR X (.builtin "len") (fun xs H Q => ∃ p ys, xs = [.ref p] ∧ (SqL X.K H p ys ∨ SqT X.K H p ys) ∧ Q (.int ys.length) H) := by
  intro pins s σ H xs us Q I r h
  obtain ⟨p, ys, rfl, hq, q⟩ := h
  obtain ⟨u, rfl, rx⟩ := vals1 r
  cases rx
  have hn := line63
  rcases hq with hq | hq
  · obtain ⟨its, r', pl, hz⟩ := I.list hq
    have hlen := r'.length
    exact Calls.call_len_list pl.isList (by simp only [List.size_toArray] <;> omega) ⟨.int ys.length, H, I.tok _, ⟨s.toks + 1, by rw [List.size_toArray, hlen]⟩, q⟩
  · obtain ⟨its, r', pl, hz⟩ := I.tuple hq
    have hlen := r'.length
    exact len_tuple pl (by simp only [List.size_toArray] <;> omega) ⟨.int ys.length, H, I.tok _, ⟨s.toks + 1, by rw [List.size_toArray, hlen]⟩, q⟩
theorem CallR.or {f : Value} {r r' : List V → Hp → VK → Prop} (h : CallR X f r) (h' : CallR X f r') : CallR X f (fun xs H Q => r xs H Q ∨ r' xs H Q) := by
  intro pins s σ H xs us Q I rs q
  rcases q with q | q
  · exact h pins s σ H xs us Q I rs q
  · exact h' pins s σ H xs us Q I rs q
def tyV (K : PySem.W.Frag) (T : String) (x : V) (H : Hp) : Prop := match x with
  | .str _ => T = "str"
  | .int _ => T = "int"
  | .ref p => (T = "list" ∧ ∃ xs, SqL K H p xs) ∨ (T = "tuple" ∧ ∃ o, K.lookup p = some o ∧ o.cls = .type "tuple" ∧ o.dict = none) ∨
      (T = "dict" ∧ ((∃ kvs, H p = some (.dK kvs)) ∨ ∃ kvs, H p = some (.dT kvs))) ∨ (T = "set" ∧ ∃ S n, H p = some (.set S n))
  | _ => False
theorem tyV_is {pins : List (Addr × Obj)} {σ : St} {H : Hp} {s : Shared} {T : String} {x : V} {v : Value} (I : Inv X pins σ H s) (r : RelV x v) (ty : tyV X.K T x H) :
    s.TypeIs v T ∧ ∀ a, v = .ref a → ∃ ob, s.heap.get? a = some ob ∧ ob.dict = none := by
  cases x with
  | str z =>
    obtain ⟨t, rfl⟩ := r
    cases (show T = "str" from ty)
    exact ⟨typeIs_str s z t, fun _ e => nomatch e⟩
  | int i =>
    obtain ⟨t, rfl⟩ := r
    cases (show T = "int" from ty)
    exact ⟨typeIs_int s i t, fun _ e => nomatch e⟩
  | ref p =>
    cases r
    rcases ty with ⟨rfl, xs, hq⟩ | ⟨rfl, o, hk, hc, hd⟩ | ⟨rfl, hk⟩ | ⟨rfl, S, n, hk⟩
    · obtain ⟨its, _, pl, _⟩ := I.list hq
      refine ⟨pl.isList.typeIs, fun a e => ?_⟩
      cases e
      obtain ⟨o, n, e, c, hd, _⟩ := pl
      exact ⟨o, e, hd⟩
    · refine ⟨⟨o, I.kIn p o hk, hc⟩, fun a e => ?_⟩
      cases e
      exact ⟨o, I.kIn _ o hk, hd⟩
    · have z : ∃ o, s.heap.get? p = some o ∧ o.ExactDict := by
        rcases hk with ⟨kvs, hk⟩ | ⟨kvs, hk⟩
        · obtain ⟨_, _, _, _, o, _, _, e, ex, _⟩ := I.hok p _ hk
          exact ⟨o, e, ex⟩
        · obtain ⟨_, _, _, _, o, _, _, e, ex, _⟩ := I.hok p _ hk
          exact ⟨o, e, ex⟩
      obtain ⟨o, e, ex⟩ := z
      refine ⟨⟨o, e, ex.1⟩, fun a e2 => ?_⟩
      cases e2
      exact ⟨o, e, ex.2.1⟩
    · obtain ⟨o, _, _, _, e, ex, _⟩ := I.hok p _ hk
      refine ⟨⟨o, e, ex.1⟩, fun a e2 => ?_⟩
      cases e2
      exact ⟨o, e, ex.2.1⟩
  | _ => exact False.elim ty
def tBM (K : PySem.W.Frag) (T : String) (r : V → List V → Hp → VK → Prop) (to : TE) (t : TA) : TE := fun σ H Q => to σ H fun x H1 => tyV K T x H1 ∧ t σ H1 fun xs H2 => r x xs H2 Q
variable {o e : Expr} {es : List Expr} {to : TE} {t : TA} {name : Str} {apos cpos : Pos} {T id : String} {r : V → List V → Hp → VK → Prop}
theorem pe_bm (pa : PlainAttrs T) (slot : Slot T name id) (hty : typeOf (.builtin id) = pure (.type "method_descriptor")) (hm : MtR X id r) (ho : PE X o to) (ha : PA X (e :: es) t)
    (hbase : attributeBase o name X.env (eval o X.env) = eval o X.env := by rfl)
    (hfew : ((backTo cpos (starEach (e :: es) X.env)).all (fun x => !x.1) && (backToKw cpos (keywordEach [] X.env)).all (fun x => x.1.isSome)
      && decide ((e :: es).length + ([] : List Keyword).length + (if ([] : List Keyword).isEmpty then 0 else 1) < 30)) = true := by rfl)
    (hline : (apos.endLine == cpos.line) = true := by rfl) (hs : starEach (e :: es) X.env = (false, eval e X.env) :: starEach es X.env := by rfl) (hplain : (backTo cpos (starEach es X.env)).any (·.1) = false := by rfl) :
    PE X (.Call (.Attribute o name apos) (e :: es) [] cpos) (tBM X.K T r to t) := by
  intro pins s σ H Q I h
  refine wpAny_Call_method_late hbase hfew hline rfl (thn (ho pins s σ H _ I h) fun v s1 ⟨x, H1, I1, r1, ty, q1⟩ => ?_)
  obtain ⟨h1, h2⟩ := tyV_is I1 r1 ty
  refine ⟨T, id, pa, slot, hty, h1, h2, ?_⟩
  have hA := ha cpos pins s1 σ H1 _ I1 q1
  rw [hs] at hA ⊢
  refine Calls.callWith_builtin (by show (false || (backTo cpos (starEach es X.env)).any (·.1)) = false; rw [hplain] <;> rfl) (Calls.evalArgs_plain ?_)
  exact thn hA fun us s2 ⟨vs, H2, I2, r2, q2⟩ => hm pins s2 σ H2 x vs v us Q I2 r1 r2 q2
end
end L2
namespace L2
open PySem PySem.Spec PyProof.Rows
def MtM (X : Cx) (id : String) (r : V → List V → Hp → VK → Prop) : Prop :=
  ∀ (pins : List (Addr × Obj)) (s : Shared) (σ : St) (H : Hp) (x : V) (xs : List V) (v : Value) (us : List Value) (Q : VK), Inv X pins σ H s → RelV x v → Vals xs us → r x xs H Q →
    wpAny (model X.prog X.w) X.A (call (.builtin id) (v :: us)) (EP X pins σ Q) X.xe s
theorem Vals.one : ∀ {x : V} {us : List Value}, Vals [x] us → ∃ u, us = [u] ∧ RelV x u
  | _, _, .cons r .nil => ⟨_, rfl, r⟩
theorem Vals.two : ∀ {x y : V} {us : List Value}, Vals [x, y] us → ∃ u v, us = [u, v] ∧ RelV x u ∧ RelV y v
  | _, _, _, .cons r (.cons q .nil) => ⟨_, _, rfl, r, q⟩
theorem Vals.zero : ∀ {us : List Value}, Vals [] us → us = []
  | _, .nil => rfl
theorem Vals.rep {xs : List V} {us : List Value} (h : Vals xs us) : ∀ k : Nat, Vals (List.replicate k xs).flatten (List.replicate k us).flatten
  | 0 => .nil
  | k + 1 => by
    rw [List.replicate_succ, List.replicate_succ, List.flatten_cons, List.flatten_cons]
    exact Vals.append h (Vals.rep h k)
theorem foldl_rep (its : List Value) : ∀ (k : Nat) (acc : List Value),
    List.foldl (fun x1 x2 => x1 ++ x2) acc.toArray (List.replicate k its.toArray) = (acc ++ (List.replicate k its).flatten).toArray
  | 0, acc => by simp
  | k + 1, acc => by
    have e : acc.toArray ++ its.toArray = (acc ++ its).toArray := by simp
    have e2 : (acc ++ its) ++ (List.replicate k its).flatten = acc ++ (List.replicate (k + 1) its).flatten := by
      rw [List.replicate_succ, List.flatten_cons, List.append_assoc]
    rw [← e2, ← foldl_rep its k (acc ++ its), ← e, List.replicate_succ, List.foldl_cons]
section
variable {X : Cx} {pins : List (Addr × Obj)} {σ : St} {H : Hp} {s : Shared} {l b : Addr} {xs ys zs : List V}
theorem Inv.lset {its its' : List Value} {n : Nat} {f : Array Value → Array Value} {t' : Nat} (I : Inv X pins σ H s) (hH : H l = some (.lst xs))
    (e : s.heap.get? l = some { cls := .type "list", data := .seq its.toArray n }) (hf : f its.toArray = its'.toArray) (hv : Vals ys its') (hz : ys.length ≤ sizeLine) :
    Inv X pins σ (upd H l (.lst ys)) { s with heap := s.heap.update l (Obj.mapSeq f), toks := t' } := by
  have q := PySem.IsL.update e f
  rw [hf] at q
  refine I.write (x := l) (e := l) (by rw [hH]; exact trivial) (.inl rfl) (fun b' u hb hu => (Heap.get?_update_other s.heap (Obj.mapSeq f) (Ne.symm hb)).trans hu) ⟨_, q⟩ ?_
  exact ⟨hz, its', _, hv, q⟩
theorem Inv.lnew {its : List Value} {t' : Nat} (I : Inv X pins σ H s) (hv : Vals ys its) (hz : ys.length ≤ sizeLine) :
    Inv X pins σ (upd H s.heap.objs.size (.lst ys)) { s with heap := s.heap.push { cls := .type "list", data := .seq its.toArray }, toks := t' } :=
  I.laid (fun _ _ q => Heap.get?_push_of_some _ q) (Nat.le_refl _) ⟨hz, its, 0, hv, Heap.get?_push_size _ rfl⟩
theorem Inv.fresh (I : Inv X pins σ H s) : H s.heap.objs.size = none := I.hok.fresh (Nat.le_refl _)
theorem Inv.lstM (I : Inv X pins σ H s) (hH : H l = some (.lst xs)) : xs.length ≤ sizeLine ∧ ∃ (its : List Value) (n : Nat), Vals xs its ∧ xs.length = its.length ∧ s.heap.get? l = some { cls := .type "list", data := .seq its.toArray n } := by
  obtain ⟨z, its, n, r, e⟩ := I.hok l _ hH
  exact ⟨z, its, n, r, r.length, e⟩
theorem notLongL {n : Nat} (h : n ≤ sizeLine) : Builtin.List.listTooLong n = false := by
  unfold Builtin.List.listTooLong
  exact decide_eq_false (by omega)
end
section
variable {X : Cx}
def rAppend : V → List V → Hp → VK → Prop := fun x vs H Q => ∃ l xs y, x = .ref l ∧ vs = [y] ∧ H l = some (.lst xs) ∧ xs.length < sizeLine ∧ Q .non (upd H l (.lst (xs ++ [y])))
theorem mt_append : MtM X "list.append" rAppend := by
  intro pins s σ H x vs v us Q I rx rv h
  obtain ⟨l, xs, y, rfl, rfl, hH, hz, q⟩ := h
  cases rx
  obtain ⟨u, rfl, ru⟩ := rv.one
  obtain ⟨z, its, n, r, hl, e⟩ := I.lstM hH
  refine call_meets F.slot_list_append ⟨_, e, rfl⟩ F.entry_list_append (F.args_list_append_2 _ _) (PySem.list_append l its.toArray n u (by rw [List.size_toArray]; omega)) ⟨e, ?_⟩
  refine ⟨.non, _, I.lset (its' := its ++ [u]) hH e (by simp) (r.append (.cons ru .nil)) ?_, rfl, q⟩
  rw [List.length_append, List.length_singleton]
  omega
def rExtend : V → List V → Hp → VK → Prop := fun x vs H Q => ∃ l b xs zs, x = .ref l ∧ vs = [.ref b] ∧ H l = some (.lst xs) ∧ H b = some (.lst zs) ∧ xs.length + zs.length ≤ sizeLine ∧ Q .non (upd H l (.lst (xs ++ zs)))
theorem mt_extend : MtM X "list.extend" rExtend := by
  intro pins s σ H x vs v us Q I rx rv h
  obtain ⟨l, b, xs, zs, rfl, rfl, hH, hB, hz, q⟩ := h
  cases rx
  obtain ⟨u, rfl, ru⟩ := rv.one
  cases ru
  obtain ⟨z, its, n, r, hl, e⟩ := I.lstM hH
  obtain ⟨z2, its2, n2, r2, hl2, e2⟩ := I.lstM hB
  have hsz : its.toArray.size + its2.toArray.size ≤ sizeLine := by rw [List.size_toArray, List.size_toArray]; omega
  have hlong : ¬ (!its.toArray.isEmpty && Builtin.List.listTooLong (its.toArray.size + its2.toArray.size)) = true := by
    rw [notLongL hsz, Bool.and_false]
    exact Bool.false_ne_true
  refine call_meets F.slot_list_extend ⟨_, e, rfl⟩ F.entry_list_extend (F.args_list_extend_2 _ _)
    (AutoSeq1.list_extend_list_list_0 l its.toArray n b its2.toArray n2 hlong (by rw [List.size_toArray]; omega) (by omega)) ⟨e, e2, ?_⟩
  refine ⟨.non, _, I.lset (its' := its ++ its2) hH e (by simp) (r.append r2) ?_, rfl, q⟩
  rw [List.length_append]
  omega
def rCat : R2 := fun x y H Q => ∃ l b xs zs, x = .ref l ∧ y = .ref b ∧ H l = some (.lst xs) ∧ H b = some (.lst zs) ∧ xs.length + zs.length ≤ sizeLine ∧ ∀ p, H p = none → Q (.ref p) (upd H p (.lst (xs ++ zs)))
theorem op_cat : OpR X (binaryOp .Add) rCat := by
  intro pins s σ H x y v u Q I rx ry h
  obtain ⟨l, b, xs, zs, rfl, rfl, hH, hB, hz, q⟩ := h
  cases rx
  cases ry
  obtain ⟨z, its, n, r, hl, e⟩ := I.lstM hH
  obtain ⟨z2, its2, n2, r2, hl2, e2⟩ := I.lstM hB
  refine PySem.P.add_list e e2 ?_ (by rw [List.size_toArray, List.size_toArray]; omega)
  have ea : its.toArray ++ its2.toArray = (its ++ its2).toArray := by simp
  rw [ea]
  exact ⟨.ref _, _, I.lnew (t' := s.toks) (r.append r2) (by rw [List.length_append]; omega), rfl, q _ I.fresh⟩
def rRep : R2 := fun x y H Q => ∃ l k xs, x = .ref l ∧ y = .int k ∧ H l = some (.lst xs) ∧ -(2 ^ 63) ≤ k ∧ k < 2 ^ 63 ∧ xs.length * k.toNat ≤ sizeLine ∧
  ∀ p, H p = none → Q (.ref p) (upd H p (.lst (List.replicate k.toNat xs).flatten))
theorem len_rep {α : Type} (xs : List α) (k : Nat) : (List.replicate k xs).flatten.length = k * xs.length := by
  induction k with
  | zero => simp
  | succ k ih => rw [List.replicate_succ, List.flatten_cons, List.length_append, ih, Nat.succ_mul, Nat.add_comm]
theorem op_rep : OpR X (binaryOp .Mult) rRep := by
  intro pins s σ H x y v u Q I rx ry h
  obtain ⟨l, k, xs, rfl, rfl, hH, h1, h2, hz, q⟩ := h
  cases rx
  obtain ⟨t, rfl⟩ := ry
  obtain ⟨z, its, n, r, hl, e⟩ := I.lstM hH
  have hlen : its.toArray.size * k.toNat ≤ sizeLine := by rw [List.size_toArray, ← hl]; exact hz
  have hcap : ¬ its.toArray.size * k.toNat > (2 ^ 63 - 1) / 8 := by
    have : (sizeLine : Nat) ≤ (2 ^ 63 - 1) / 8 := by decide
    omega
  have hfit : ¬ (!Builtin.List.listFitsIndex k) = true := by
    rw [fitsIndex_both h1 h2]
    exact Bool.false_ne_true
  have hlong : ¬ Builtin.List.listTooLong (its.toArray.size * k.toNat) = true := by
    rw [notLongL hlen]
    exact Bool.false_ne_true
  have hnew : List.foldl (fun x1 x2 => x1 ++ x2) #[] (List.replicate (if its.toArray.isEmpty = true then 0 else k.toNat) its.toArray) = (List.replicate k.toNat its).flatten.toArray := by
    have f0 : ∀ m : Nat, List.foldl (fun x1 x2 => x1 ++ x2) #[] (List.replicate m its.toArray) = (List.replicate m its).flatten.toArray := fun m => by
      have := foldl_rep its m []
      rw [List.nil_append] at this
      exact this
    rw [f0]
    cases its with
    | nil => simp
    | cons a r' => rw [if_neg (by simp)]
  refine wpAny_binaryOp_repeat_ref (T := "list") (U := "int") (by decide) ⟨_, e, rfl⟩ (fun s' => typeIs_int s' k t) noFill_list_mul F.fills_int_mul F.slot_int_rmul repeat_list F.slot_int_index.lookup
    (call_meets F.slot_int_rmul (typeIs_int s k t) F.entry_int_rmul (F.args_int_rmul_2 _ _) (int___rmul___int_list k t l its.toArray n)
      ⟨e, rfl, ⟨_, e, rfl⟩, call_meets F.slot_list_mul ⟨_, e, rfl⟩ F.entry_list_mul (F.args_list_mul_2 _ _) (AutoListH.list___mul___list_int_3 l its.toArray n k t hfit hcap hlong) ⟨e, ?_⟩⟩)
  rw [hnew]
  exact ⟨.ref _, _, I.lnew (t' := s.toks) (r.rep k.toNat) (by rw [len_rep, Nat.mul_comm]; exact hz), rfl, q _ I.fresh⟩
end
section
variable {prog : Program} {w : World} {A : Around} {E : Value → Shared → Prop} {s : Shared}
end
section
variable {X : Cx}
end
end L2
namespace L2
open PySem PySem.Spec PyProof.Rows
theorem Vals.ints : ∀ {ns : List Int} {us : List Value}, Vals (ns.map V.int) us → IntsAre us ns
  | [], us, h => by
    rw [List.map_nil] at h
    cases h
    exact IntsAre.nil
  | n :: ns, us, h => by
    rw [List.map_cons] at h
    cases h with
    | cons r t =>
      obtain ⟨k, rfl⟩ := r
      exact IntsAre.cons n k (Vals.ints t)
theorem Vals.strs : ∀ {xs : List Str} {us : List Value}, Vals (xs.map V.str) us → StrsAre us xs
  | [], us, h => by
    rw [List.map_nil] at h
    cases h
    exact StrsAre.nil
  | x :: xs, us, h => by
    rw [List.map_cons] at h
    cases h with
    | cons r t =>
      obtain ⟨k, rfl⟩ := r
      exact StrsAre.cons x k (Vals.strs t)
theorem Vals.bls : ∀ {bs : List Bool} {us : List Value}, Vals (bs.map V.bl) us → us = bs.map Value.bool
  | [], us, h => by
    rw [List.map_nil] at h
    cases h
    rfl
  | b :: bs, us, h => by
    rw [List.map_cons] at h
    cases h with
    | cons r t =>
      cases r
      rw [Vals.bls t, List.map_cons]
theorem Vals.ref1 {a : Addr} {us : List Value} (r : Vals [V.ref a] us) : us = [Value.ref a] := by
  cases r with
  | cons r t =>
    cases t
    cases r
    rfl
section
variable {prog : Program} {w : World} {A : Around} {E : Value → Shared → Prop} {s : Shared} {l : Addr} {its : List Value} {ns : List Int} {Q : Value → Shared → Prop}
theorem sum_raw (hh : A.handled = none) (hl : s.heap.IsList l its.toArray) (hi : IntsAre its ns)
    (h : ∀ h' tk t', (∀ b o, s.heap.get? b = some o → h'.get? b = some o) → Q (.int ns.sum t') { s with heap := h', toks := tk }) : wpAny (model prog w) A (call (.builtin "sum") [.ref l]) Q E s := by
  obtain ⟨xs, e⟩ := hi.allInts.items
  have hn : numsOf (intItems xs).toList = ns := by rw [← e]; exact hi.numsOf
  rw [nums_intItems] at hn
  rw [e] at hl
  refine PySem.sum_intListG hh hl fun h' tk t' hk => ?_
  have := h h' tk t' hk
  rw [preSum_eq, List.take_of_length_le (by simp), hn]; exact this
end
section
variable {X : Cx}
def rSum (K : PySem.W.Frag) : List V → Hp → VK → Prop := fun vs H Q => ∃ (a : Addr) (ns : List Int), vs = [V.ref a] ∧ SqL K H a (ns.map V.int) ∧ Q (.int ns.sum) H
theorem cr_sum (hc : X.calm = true) : CallR X (.builtin "sum") (rSum X.K) := by
  intro pins s σ H vs us Q I r h
  obtain ⟨a, ns, rfl, hs, q⟩ := h
  obtain ⟨its, rv, hl, _⟩ := I.list hs
  rw [Vals.ref1 r]
  exact sum_raw (I.ok.hd hc) hl.isList rv.ints fun h' tk t' hk => ⟨.int _, H, I.kept hk, ⟨_, rfl⟩, q⟩
end
section
variable {X : Cx}
end
section
variable {X : Cx}
end
theorem iter_any {prog : Program} {w : World} {A : Around} {E : Value → Shared → Prop} {s : Shared} {l : Addr} {items : Array Value} {Q : Value → Shared → Prop} (hl : s.heap.IsList l items)
    (h : ∀ s₂ : Shared, s₂ = { s with heap := s.heap.push { cls := .type "list_iterator", data := .fields #[.ref l, .int 0 0] } } →
      (s₂.heap.IsListIter s.heap.objs.size l 0 ∧ s₂.heap.IsList l items) → l ≠ s.heap.objs.size → Q (.ref s.heap.objs.size) s₂) : wpAny (model prog w) A (pyIter (.ref l)) Q E s := by
  have hlt : l < s.heap.objs.size := by obtain ⟨_, e, _⟩ := hl; exact Heap.lt_size e
  exact wpAny_pyIter_list hl (h _ rfl ⟨⟨_, Heap.get?_push_size _ rfl, rfl, rfl⟩, hl.push _⟩ (Nat.ne_of_lt hlt))
theorem truth_bools {prog : Program} {w : World} {A : Around} {bs : List Bool} {its : List Value} (e : its = bs.map Value.bool) :
    TruthOf prog w A (fun i v => its.toArray[i]? = some v) (fun i => bs.getD i false) := fun i v s Q E hv hq => by
  have hv' : its[i]? = some v := by simpa using hv
  rw [e, List.getElem?_map] at hv'
  obtain ⟨b, hb, rfl⟩ := Option.map_eq_some_iff.mp hv'
  have hg : bs.getD i false = b := by rw [List.getD_eq_getElem?_getD, hb] <;> rfl
  have hq' : Q (bs.getD i false) s := hq
  rw [hg] at hq'
  exact wpAny_truthy_bool hq'
theorem any_range : ∀ bs : List Bool, (List.range bs.length).any (fun i => bs.getD i false) = bs.any id
  | [] => rfl
  | b :: bs => by
    rw [List.length_cons, List.range_succ_eq_map, List.any_cons, List.any_map, List.any_cons, ← any_range bs]
    all_goals rfl
theorem all_range : ∀ bs : List Bool, (List.range bs.length).all (fun i => bs.getD i false) = bs.all id
  | [] => rfl
  | b :: bs => by
    rw [List.length_cons, List.range_succ_eq_map, List.all_cons, List.all_map, List.all_cons, ← all_range bs]
    all_goals rfl
section
variable {X : Cx}
def rAny (K : PySem.W.Frag) : List V → Hp → VK → Prop := fun vs H Q => ∃ (a : Addr) (bs : List Bool), vs = [V.ref a] ∧ SqL K H a (bs.map V.bl) ∧ Q (.bl (bs.any id)) H
def rAll (K : PySem.W.Frag) : List V → Hp → VK → Prop := fun vs H Q => ∃ (a : Addr) (bs : List Bool), vs = [V.ref a] ∧ SqL K H a (bs.map V.bl) ∧ Q (.bl (bs.all id)) H
theorem cr_any (hc : X.calm = true) : CallR X (.builtin "any") (rAny X.K) := by
  intro pins s σ H vs us Q I r h
  obtain ⟨a, bs, rfl, hs, q⟩ := h
  obtain ⟨its, rv, hl, _⟩ := I.list hs
  rw [Vals.ref1 r]
  have hb := rv.bls
  refine call_any_walk (iter_any hl.isList fun s₂ e2 st hne => ?_)
  subst e2
  refine ⟨_, _, _, _, _, _, _, rfl, Walks.list (A := X.A.in1) (I.ok.hd hc) _ a hne its.toArray, st, truth_bools hb, fun h' tk hk => ?_⟩
  refine ⟨.bl _, H, I.kept fun b o eo => hk b o (fun hmem => ?_) (Heap.get?_push_of_some _ eo), ?_, q⟩
  · rcases List.mem_cons.mp hmem with e1 | hmem
    · exact absurd (e1 ▸ Heap.lt_size eo) (Nat.lt_irrefl _)
    · cases hmem
  · show Value.bool _ = Value.bool _
    rw [← any_range, hb, List.size_toArray, List.length_map]
theorem cr_all (hc : X.calm = true) : CallR X (.builtin "all") (rAll X.K) := by
  intro pins s σ H vs us Q I r h
  obtain ⟨a, bs, rfl, hs, q⟩ := h
  obtain ⟨its, rv, hl, _⟩ := I.list hs
  rw [Vals.ref1 r]
  have hb := rv.bls
  refine call_all_walk (iter_any hl.isList fun s₂ e2 st hne => ?_)
  subst e2
  refine ⟨_, _, _, _, _, _, _, rfl, Walks.list (A := X.A.in1) (I.ok.hd hc) _ a hne its.toArray, st, truth_bools hb, fun h' tk hk => ?_⟩
  refine ⟨.bl _, H, I.kept fun b o eo => hk b o (fun hmem => ?_) (Heap.get?_push_of_some _ eo), ?_, q⟩
  · rcases List.mem_cons.mp hmem with e1 | hmem
    · exact absurd (e1 ▸ Heap.lt_size eo) (Nat.lt_irrefl _)
    · cases hmem
  · show Value.bool _ = Value.bool _
    rw [← all_range, hb, List.size_toArray, List.length_map]
end
mutual
inductive Dp (K : PySem.W.Frag) (H : Hp) : V → PyData → Prop
  | non : Dp K H .non .none
  | bl (b : Bool) : Dp K H (.bl b) (.bool b)
  | int (i : Int) : Dp K H (.int i) (.int i)
  | str (x : Str) : Dp K H (.str x) (.str x)
  | lst {a : Addr} {xs : List V} {ds : List PyData} : SqL K H a xs → DpAll K H xs ds → Dp K H (.ref a) (.list ds)
  | tup {a : Addr} {xs : List V} {ds : List PyData} : SqT K H a xs → DpAll K H xs ds → Dp K H (.ref a) (.tuple ds)
inductive DpAll (K : PySem.W.Frag) (H : Hp) : List V → List PyData → Prop
  | nil : DpAll K H [] []
  | cons {v : V} {vs : List V} {d : PyData} {ds : List PyData} : Dp K H v d → DpAll K H vs ds → DpAll K H (v :: vs) (d :: ds)
end
section
variable {X : Cx} {pins : List (Addr × Obj)} {σ : St} {H : Hp} {s : Shared}
mutual
theorem Dp.reads (I : Inv X pins σ H s) : ∀ (d : PyData) (v : V) (u : Value), Dp X.K H v d → RelV v u → ∃ as, Reads s.heap u d as
  | .none, _, _, h, r => by
    cases h
    cases r
    exact ⟨_, Reads.none⟩
  | .bool b, _, _, h, r => by
    cases h
    cases r
    exact ⟨_, Reads.bool b⟩
  | .int i, _, _, h, r => by
    cases h
    obtain ⟨t, rfl⟩ := r
    exact ⟨_, Reads.int i t⟩
  | .str x, _, _, h, r => by
    cases h
    obtain ⟨t, rfl⟩ := r
    exact ⟨_, Reads.str x t⟩
  | .list ds, _, _, h, r => by
    cases h with
    | lst hs ha =>
      cases r
      obtain ⟨its, rv, ⟨o, n, ho, hc, _, hd⟩, _⟩ := I.list hs
      obtain ⟨as, hr⟩ := Dp.readsAll I ds _ its ha rv
      exact ⟨_, Reads.list ho hc hd hr⟩
  | .tuple ds, _, _, h, r => by
    cases h with
    | tup hs ha =>
      cases r
      obtain ⟨its, rv, ⟨o, ho, hc, n, hd⟩, _⟩ := I.tuple hs
      obtain ⟨as, hr⟩ := Dp.readsAll I ds _ its ha rv
      exact ⟨_, Reads.tuple ho hc hd hr⟩
  | .dict _, _, _, h, _ => by cases h
theorem Dp.readsAll (I : Inv X pins σ H s) : ∀ (ds : List PyData) (vs : List V) (us : List Value), DpAll X.K H vs ds → Vals vs us → ∃ as, ReadsAll s.heap us ds as
  | [], _, _, h, r => by
    cases h
    cases r
    exact ⟨_, ReadsAll.nil⟩
  | d :: ds, _, _, h, r => by
    cases h with
    | cons h1 h2 =>
      cases r with
      | cons r1 r2 =>
        obtain ⟨as, q1⟩ := Dp.reads I d _ _ h1 r1
        obtain ⟨bs, q2⟩ := Dp.readsAll I ds _ _ h2 r2
        exact ⟨_, ReadsAll.cons q1 q2⟩
end
end
section
variable {X : Cx}
end
end L2
namespace L2
open PySem PySem.Spec PyProof.Rows
abbrev CellAt (h : Heap) (c : Addr) (v : Option Value) : Prop := h.IsCell c v
def relS (scope sc : Scope) : Scope :=
  { scope with names := scope.names.map fun (n, k) => if (k == .free && sc.kind == .function && sc.names.lookup n == some .cell) then (n, .cell) else (n, k) }
def cloFrom (cells : List (Str × Addr)) : List (Str × NameKind) → List (Str × Addr) → List (Str × Addr)
  | [], acc => acc
  | (n, k) :: r, acc => if k == .free then cloFrom cells r ((n, (cells.lookup n).getD 0) :: acc) else cloFrom cells r acc
theorem closure_loop (env : Env) (f : Str × NameKind → List (Str × Addr) → Sem (ForInStep (List (Str × Addr))))
    (hf : ∀ n k c, f (n, k) c = if k == .free then (do let a ← cellOf env n; pure (.yield ((n, a) :: c))) else pure (.yield c)) :
    ∀ (names : List (Str × NameKind)) (acc : List (Str × Addr)), (∀ y ∈ names, y.2 = .free → ∃ c, env.cells.lookup y.1 = some c) → forIn names acc f = pure (cloFrom env.cells names acc)
  | [], acc, _ => by rw [List.forIn_nil]; rfl
  | (n, k) :: r, acc, h => by
    rw [List.forIn_cons, hf]
    have ih := fun acc => closure_loop env f hf r acc fun y hy => h y (List.mem_cons_of_mem _ hy)
    unfold cloFrom
    by_cases hk : (k == NameKind.free) = true
    · rw [if_pos hk, if_pos hk]
      obtain ⟨c, hc⟩ := h (n, k) List.mem_cons_self (by simpa using hk)
      have e : cellOf env n = pure c := by unfold cellOf; rw [hc]
      rw [e]
      have e2 : (env.cells.lookup n).getD 0 = c := by rw [hc]; rfl
      rw [e2]
      exact ih _
    · rw [if_neg hk, if_neg hk]
      exact ih _
theorem closure_ok {scope : Scope} {env : Env} (h : ∀ y ∈ scope.names, y.2 = .free → ∃ c, env.cells.lookup y.1 = some c) : closureFor scope env = pure (cloFrom env.cells scope.names []) := by
  simp only [closureFor]
  rw [closure_loop env _ (fun n k c => rfl) scope.names [] h]
  rfl
theorem mem_lookup {α : Type} : ∀ {l : List (Str × α)} {n : Str} {c : α}, (n, c) ∈ l → ∃ c', l.lookup n = some c'
  | (k, v) :: r, n, c, h => by
    rw [List.lookup_cons]
    cases hb : n == k with
    | true => exact ⟨_, rfl⟩
    | false =>
      rcases List.mem_cons.mp h with e | h
      · cases e; simp at hb
      · exact mem_lookup h
theorem cloFrom_mem {cells : List (Str × Addr)} : ∀ {names : List (Str × NameKind)} {acc : List (Str × Addr)} {n : Str} {c : Addr}, (n, c) ∈ cloFrom cells names acc → (n, c) ∈ acc ∨ ((n, .free) ∈ names ∧ c = (cells.lookup n).getD 0)
  | [], _, _, _, h => .inl h
  | (m, k) :: r, acc, n, c, h => by
    unfold cloFrom at h
    split at h
    · rename_i hk
      have hk : k = .free := by simpa using hk
      rcases cloFrom_mem h with h | ⟨h1, h2⟩
      · rcases List.mem_cons.mp h with e | h
        · cases e; exact .inr ⟨hk ▸ List.mem_cons_self, rfl⟩
        · exact .inl h
      · exact .inr ⟨List.mem_cons_of_mem _ h1, h2⟩
    · rcases cloFrom_mem h with h | ⟨h1, h2⟩
      · exact .inl h
      · exact .inr ⟨List.mem_cons_of_mem _ h1, h2⟩
theorem cloFrom_acc {cells : List (Str × Addr)} : ∀ {names : List (Str × NameKind)} {acc : List (Str × Addr)} {p : Str × Addr}, p ∈ acc → p ∈ cloFrom cells names acc
  | [], _, _, h => h
  | (m, k) :: r, acc, p, h => by
    unfold cloFrom
    split
    · exact cloFrom_acc (List.mem_cons_of_mem _ h)
    · exact cloFrom_acc h
theorem cloFrom_has {cells : List (Str × Addr)} : ∀ {names : List (Str × NameKind)} {acc : List (Str × Addr)} {n : Str}, (n, .free) ∈ names → (n, (cells.lookup n).getD 0) ∈ cloFrom cells names acc
  | (m, k) :: r, acc, n, h => by
    unfold cloFrom
    rcases List.mem_cons.mp h with e | h
    · cases e
      exact cloFrom_acc List.mem_cons_self
    · split
      · exact cloFrom_has h
      · exact cloFrom_has h
theorem cells_mem : ∀ {names : List (Str × NameKind)} {h : Heap} {acc : List (Str × Addr)} {x : Str} {c : Addr}, (x, c) ∈ cellsFrom h.objs.size names acc →
    (x, c) ∈ acc ∨ ((x, .cell) ∈ names ∧ h.objs.size ≤ c ∧ CellAt (pushCells h names) c none)
  | [], _, _, _, _, h => .inl h
  | (n, k) :: r, h, acc, x, c, hm => by
    unfold cellsFrom at hm
    unfold pushCells
    split at hm
    · rename_i hk
      rw [if_pos hk]
      have hk : k = .cell := by simpa using hk
      rw [← Heap.size_push h { cls := .type "cell", data := .cell none }] at hm
      rcases cells_mem hm with hm | ⟨h1, h2, h3⟩
      · rcases List.mem_cons.mp hm with e | hm
        · cases e
          exact .inr ⟨hk ▸ List.mem_cons_self, Nat.le_refl _, _, pushCells_keeps r _ _ _ (Heap.get?_push_size _ rfl), rfl⟩
        · exact .inl hm
      · rw [Heap.size_push] at h2
        exact .inr ⟨List.mem_cons_of_mem _ h1, Nat.le_of_succ_le h2, h3⟩
    · rename_i hk
      rw [if_neg hk]
      rcases cells_mem hm with hm | ⟨h1, h2, h3⟩
      · exact .inl hm
      · exact .inr ⟨List.mem_cons_of_mem _ h1, h2, h3⟩
theorem cells_acc : ∀ {names : List (Str × NameKind)} {n : Nat} {acc : List (Str × Addr)} {p : Str × Addr}, p ∈ acc → p ∈ cellsFrom n names acc
  | [], _, _, _, h => h
  | (m, k) :: r, n, acc, p, h => by
    unfold cellsFrom
    split
    · exact cells_acc (List.mem_cons_of_mem _ h)
    · exact cells_acc h
theorem cells_has : ∀ {names : List (Str × NameKind)} {n : Nat} {acc : List (Str × Addr)} {x : Str}, (x, .cell) ∈ names → ∃ c, (x, c) ∈ cellsFrom n names acc
  | (m, k) :: r, n, acc, x, h => by
    unfold cellsFrom
    rcases List.mem_cons.mp h with e | h
    · cases e
      exact ⟨n, cells_acc List.mem_cons_self⟩
    · split
      · exact cells_has h
      · exact cells_has h
theorem cells_inj : ∀ {names : List (Str × NameKind)} {h : Heap} {acc : List (Str × Addr)} {x y : Str} {c : Addr}, (∀ p ∈ acc, p.2 < h.objs.size) → (∀ x y c, (x, c) ∈ acc → (y, c) ∈ acc → x = y) →
    (x, c) ∈ cellsFrom h.objs.size names acc → (y, c) ∈ cellsFrom h.objs.size names acc → x = y
  | [], _, _, _, _, _, _, hi, h1, h2 => hi _ _ _ h1 h2
  | (n, k) :: r, h, acc, x, y, c, hl, hi, h1, h2 => by
    unfold cellsFrom at h1 h2
    split at h1
    · rename_i hk
      rw [if_pos hk] at h2
      rw [← Heap.size_push h { cls := .type "cell", data := .cell none }] at h1 h2
      refine cells_inj (h := h.push _) (fun p hp => ?_) (fun x y c a b => ?_) h1 h2
      · rw [Heap.size_push]
        rcases List.mem_cons.mp hp with rfl | hp
        · exact Nat.lt_succ_self _
        · exact Nat.lt_succ_of_lt (hl p hp)
      · rcases List.mem_cons.mp a with e | a <;> rcases List.mem_cons.mp b with e' | b
        · cases e; cases e'; rfl
        · cases e; exact absurd (hl _ b) (Nat.lt_irrefl _)
        · cases e'; exact absurd (hl _ a) (Nat.lt_irrefl _)
        · exact hi _ _ _ a b
    · rename_i hk
      rw [if_neg hk] at h2
      exact cells_inj hl hi h1 h2
theorem newEnv_comp {M : Model} {A : Around} {E : Value → Shared → Prop} {s : Shared} {scope : Scope} {globals : Addr} {closure : List (Str × Addr)} {qual : Str} {func : Option Addr} {code : Value} {around : Env} {builtins : Addr} {Q : Env → Shared → Prop}
    (h : Q (newEnv scope s.heap.objs.size globals (cellsFrom (s.heap.objs.size + 1) scope.names closure) qual func code (some around) builtins)
      { s with heap := pushCells (s.heap.push { cls := .type "dict", data := .dict #[] }) scope.names }) :
    wpAny M A (newFunctionEnv scope globals closure [] qual func code (some around) builtins) Q E s := by
  simp only [newFunctionEnv, Option.isSome_some, if_true]
  refine wpAny_bind (wpAny_alloc ?_)
  refine wpAny_bind (wpAny_layCells _ (fun n k c => rfl) scope.names closure _ _ ?_)
  rw [show ({ s with heap := s.heap.push { cls := .type "dict", data := .dict #[] } } : Shared).heap.objs.size = s.heap.objs.size + 1 from Heap.size_push ..]
  rw [List.forIn_nil]
  exact wpAny_bind (wpAny_pure (wpAny_pure h))
theorem lookup_relS {sc : Scope} : ∀ {names : List (Str × NameKind)} {x : Str} {k : NameKind},
    (names.map fun (n, k) => if (k == NameKind.free && sc.kind == .function && sc.names.lookup n == some .cell) then (n, NameKind.cell) else (n, k)).lookup x = some k →
    ∃ k', names.lookup x = some k' ∧ (k = k' ∨ (k' = .free ∧ k = .cell))
  | [], _, _, h => by simp at h
  | (n, k₀) :: r, x, k, h => by
    have ih := @lookup_relS sc r x k
    have h' : List.lookup x ((if (k₀ == NameKind.free && sc.kind == .function && sc.names.lookup n == some .cell) = true then (n, NameKind.cell) else (n, k₀)) :: (r.map _)) = some k := h
    cases hx : x == n with
    | true =>
      simp only [List.lookup_cons, hx]
      by_cases hc : (k₀ == NameKind.free && sc.kind == .function && sc.names.lookup n == some .cell) = true
      · rw [if_pos hc] at h'
        simp only [List.lookup_cons, hx] at h'
        cases h'
        simp only [Bool.and_eq_true, beq_iff_eq] at hc
        exact ⟨k₀, rfl, .inr ⟨hc.1.1, rfl⟩⟩
      · rw [if_neg hc] at h'
        simp only [List.lookup_cons, hx] at h'
        cases h'
        exact ⟨_, rfl, .inl rfl⟩
    | false =>
      simp only [List.lookup_cons, hx]
      by_cases hc : (k₀ == NameKind.free && sc.kind == .function && sc.names.lookup n == some .cell) = true
      · rw [if_pos hc] at h'
        simp only [List.lookup_cons, hx] at h'
        exact ih h'
      · rw [if_neg hc] at h'
        simp only [List.lookup_cons, hx] at h'
        exact ih h'
structure BlkOk (N : List Str) (sc scope : Scope) (own : List (Str × Nat)) : Prop where
  kind : scope.kind = .function
  uniq : ∀ y ∈ scope.names, scope.names.lookup y.1 = some y.2
  ix : ∀ p ∈ own, N[p.2]? = some p.1
  free : ∀ y ∈ scope.names, y.2 = .free → sc.names.lookup y.1 = some .cell ∨ sc.names.lookup y.1 = some .free
  own : ∀ y ∈ scope.names, y.2 = .local ∨ y.2 = .cell → y.1 ∈ own.map (·.1) ∨ y.1 ∉ N
def wipe (σ : St) : List Nat → St
  | [] => σ
  | v :: vs => (wipe σ vs).set v none
theorem wipe_length (σ : St) : ∀ vs : List Nat, (wipe σ vs).length = σ.length
  | [] => rfl
  | v :: vs => by unfold wipe; rw [List.length_set, wipe_length σ vs]
theorem wipe_some {σ : St} {i : Nat} {x : V} : ∀ {vs : List Nat}, (wipe σ vs)[i]? = some (some x) → σ[i]? = some (some x) ∧ i ∉ vs
  | [], h => ⟨h, by simp⟩
  | v :: vs, h => by
    unfold wipe at h
    by_cases hi : v = i
    · subst hi
      by_cases hv : v < (wipe σ vs).length
      · rw [List.getElem?_set_self hv] at h; cases h
      · rw [List.getElem?_eq_none (by simpa using hv)] at h; cases h
    · rw [List.getElem?_set_ne hi] at h
      obtain ⟨h1, h2⟩ := wipe_some h
      exact ⟨h1, by simp only [List.mem_cons, not_or]; exact ⟨fun e => hi e.symm, h2⟩⟩
abbrev Cx.blk (X : Cx) (s : Shared) (H : Hp) (scope : Scope) (cenv : Env) (fp : List Addr) : Cx := { X with s_0 := s, H_0 := H, env := cenv, outer := X.stack, ex := fp, fn := fun x => scope.names.lookup x == some .cell, pn := [], xe := fun _ _ => False }
section
variable {X : Cx} {pins : List (Addr × Obj)} {σ : St} {H : Hp} {s : Shared}
theorem block_start {scope : Scope} {own : List (Str × Nat)} {fp : List Addr} (I : Inv X pins σ H s) (ok : BlkOk X.N X.env.scope scope own) (hN : X.N.Nodup) (hfp : ∀ b ∈ fp, FpOk X pins H b ∧ b < s.heap.objs.size) :
    Inv (X.blk s H scope (compEnvC scope (cellsFrom (s.heap.objs.size + 1) scope.names (cloFrom X.env.cells scope.names [])) s.heap.objs.size X.env) fp) [] (wipe σ (own.map (·.2))) H { s with heap := pushCells (s.heap.push { cls := .type "dict", data := .dict #[] }) scope.names } := by
  have hfree : ∀ y ∈ scope.names, y.2 = .free → ∃ c, X.env.cells.lookup y.1 = some c := fun y hy e => by
    rcases ok.free y hy e with k | k
    · exact I.ok.has _ (.inl k)
    · exact I.ok.has _ (.inr k)
  generalize hcenv : compEnvC scope (cellsFrom (s.heap.objs.size + 1) scope.names (cloFrom X.env.cells scope.names [])) s.heap.objs.size X.env = cenv
  have kp : ∀ b o, s.heap.get? b = some o → (pushCells (s.heap.push { cls := .type "dict", data := .dict #[] }) scope.names).get? b = some o := fun b o e => pushCells_keeps _ _ _ _ (Heap.get?_push_of_some _ e)
  have hL : cenv.locals = s.heap.objs.size := by rw [← hcenv]; rfl
  have hcl : cenv.cells = cellsFrom (s.heap.objs.size + 1) scope.names (cloFrom X.env.cells scope.names []) := by rw [← hcenv]; rfl
  have hsc : cenv.scope = relS scope X.env.scope := by rw [← hcenv]; rfl
  rw [← Heap.size_push s.heap { cls := .type "dict", data := .dict #[] }] at hcl
  have cm : ∀ {y c}, (y, c) ∈ cloFrom X.env.cells scope.names [] → X.env.cells.lookup y = some c ∧ c < s.heap.objs.size := fun {y c} hm => by
    rcases cloFrom_mem hm with hm | ⟨h1, rfl⟩
    · cases hm
    · obtain ⟨c, hc⟩ := hfree _ h1 rfl
      rw [hc]
      obtain ⟨w, z⟩ := I.cell _ _ hc
      exact ⟨rfl, z.lt⟩
  have mem : ∀ {y c}, cenv.cells.lookup y = some c → (X.env.cells.lookup y = some c ∧ c < s.heap.objs.size) ∨ (s.heap.objs.size + 1 ≤ c ∧ CellAt (pushCells (s.heap.push { cls := .type "dict", data := .dict #[] }) scope.names) c none) := fun {y c} e => by
    rw [hcl] at e
    rcases cells_mem (PySem.mem_of_lookup e) with hm | ⟨_, h2, h3⟩
    · exact .inl (cm hm)
    · rw [Heap.size_push] at h2; exact .inr ⟨h2, h3⟩
  have look : ∀ {y}, scope.names.lookup y = some .free → ∃ c, cenv.cells.lookup y = some c ∧ X.env.cells.lookup y = some c := fun {y} hl => by
    have hy : (y, NameKind.free) ∈ scope.names := PySem.mem_of_lookup hl
    obtain ⟨c', e'⟩ := mem_lookup (cells_acc (names := scope.names) (n := (s.heap.push { cls := .type "dict", data := .dict #[] }).objs.size) (cloFrom_has (cells := X.env.cells) (acc := []) hy))
    rw [← hcl] at e'
    refine ⟨c', e', ?_⟩
    rw [hcl] at e'
    rcases cells_mem (PySem.mem_of_lookup e') with hm | ⟨h1, _, _⟩
    · exact (cm hm).1
    · have := ok.uniq _ h1
      rw [hl] at this; cases this
  have okB : (X.blk s H scope cenv fp).Ok := by
    refine ⟨I.ok.mod, by show cenv.scope.kind = _; rw [hsc]; exact ok.kind, by show cenv.globals = _; rw [← hcenv]; exact I.ok.glob, by show cenv.builtins = _; rw [← hcenv]; exact I.ok.blt, by show s.heap.objs.size ≤ cenv.locals; rw [hL]; exact Nat.le_refl _,
      fun y z c e1 e2 => ?_, fun y hy => ?_, fun y c z e => ?_, I.ok.hd, I.ok.frames, .inl rfl, fun b hb => ⟨?_, fun y c e z => ?_⟩, I.bs, Nat.le_trans I.ok.bsz I.sz, fun b o e hb => ?_, fun b hb z => ?_, I.stack, I.stkFree⟩
    · have e1 : cenv.cells.lookup y = some c := e1
      have e2 : cenv.cells.lookup z = some c := e2
      rw [hcl] at e1 e2
      refine cells_inj (fun p hp => ?_) (fun y z c a b => I.ok.inj y z c (cm a).1 (cm b).1) (PySem.mem_of_lookup e1) (PySem.mem_of_lookup e2)
      rw [Heap.size_push]
      exact Nat.lt_succ_of_lt (cm (y := p.1) (c := p.2) hp).2
    · show ∃ c, cenv.cells.lookup y = some c
      have key : ∀ k, cenv.kindOf y = some k → (k = .cell ∨ k = .free) → ∃ c, cenv.cells.lookup y = some c := fun k hk hk' => by
        unfold Env.kindOf at hk
        rw [hsc] at hk
        obtain ⟨k', e, r⟩ := lookup_relS hk
        have : k' = .cell ∨ k' = .free := by
          rcases r with rfl | ⟨rfl, _⟩
          · exact hk'
          · exact .inr rfl
        rcases this with rfl | rfl
        · obtain ⟨c, hm⟩ := cells_has (n := (s.heap.push { cls := .type "dict", data := .dict #[] }).objs.size) (acc := cloFrom X.env.cells scope.names []) (PySem.mem_of_lookup e)
          obtain ⟨c', e'⟩ := mem_lookup hm
          exact ⟨c', by rw [hcl]; exact e'⟩
        · obtain ⟨c, h1, _⟩ := look e
          exact ⟨c, h1⟩
      rcases hy with hy | hy
      · exact key _ hy (.inl rfl)
      · exact key _ hy (.inr rfl)
    · have z : (scope.names.lookup y == some NameKind.cell) = true := z
      have z : scope.names.lookup y = some .cell := by simpa using z
      have e : cenv.cells.lookup y = some c := e
      rw [hcl] at e
      rcases cells_mem (PySem.mem_of_lookup e) with hm | ⟨_, h2, _⟩
      · rcases cloFrom_mem hm with hm | ⟨h1, _⟩
        · cases hm
        · have q := ok.uniq _ h1
          rw [z] at q; cases q
      · rw [Heap.size_push] at h2
        exact Nat.le_of_succ_le h2
    · show b ≠ cenv.locals
      rw [hL]; exact Nat.ne_of_lt (hfp b hb).2
    · have e : cenv.cells.lookup y = some c := e
      rcases mem e with ⟨h1, _⟩ | ⟨h1, _⟩
      · exact (hfp b hb).1.2.2.2.2.1 y c h1 z
      · have h2 : s.heap.objs.size + 1 ≤ b := by rw [← z]; exact h1
        exact absurd (Nat.lt_of_lt_of_le (hfp b hb).2 (Nat.le_of_succ_le h2)) (Nat.lt_irrefl _)
    · rcases (hfp b hb).1.2.2.2.1 with z | z
      · exact I.ok.noex b o e z
      · exact absurd (Nat.lt_of_lt_of_le (Heap.lt_size e) (Nat.le_trans I.ok.bsz z)) (Nat.lt_irrefl _)
    · rcases List.mem_cons.mp (I.stkSub b z) with z | z
      · exact (hfp b hb).1.2.1 z
      · exact (hfp b hb).1.2.2.1 z
  refine ⟨okB, rfl, I.bare, Un.kept kp, ⟨fun _ => none, ?_, fun i y av e1 e2 e3 => ?_⟩, fun y c e => ?_, ?_, fun y c e => ?_, fun p hp => ?_, I.hok.kept kp, by rw [wipe_length]; exact I.len⟩
  · show Heap.Ns _ cenv.locals _
    rw [hL]
    exact Heap.Ns.keeps (Heap.Ns.new ..) fun b o e => pushCells_keeps _ _ _ _ e
  · obtain ⟨e2, hne⟩ := wipe_some e2
    have hfr : scope.names.lookup y = some .free ∧ (cenv.kindOf y = some .cell ∨ cenv.kindOf y = some .free) := by
      have key : ∀ k, cenv.scope.names.lookup y = some k → k = .local ∨ k = .cell ∨ k = .free → scope.names.lookup y = some .free ∧ (cenv.kindOf y = some .cell ∨ cenv.kindOf y = some .free) := fun k hk hk' => by
        have hk0 := hk
        rw [hsc] at hk
        obtain ⟨k', e, r⟩ := lookup_relS hk
        have no : ¬ (k' = .local ∨ k' = .cell) := fun hh => by
          rcases ok.own _ (PySem.mem_of_lookup e) hh with e' | e'
          · obtain ⟨p, hp, hpy⟩ := List.mem_map.mp e'
            have e3 := ok.ix p hp
            have : p.1 = y := hpy
            rw [this] at e3
            exact hne (List.mem_map.mpr ⟨p, hp, nodup_ix hN e3 e1⟩)
          · exact e' (List.mem_of_getElem? e1)
        rcases r with rfl | ⟨rfl, rfl⟩
        · rcases hk' with rfl | rfl | rfl
          · exact absurd (.inl rfl) no
          · exact absurd (.inr rfl) no
          · exact ⟨e, .inr hk0⟩
        · exact ⟨e, .inl hk0⟩
      have e3 : Vis cenv.scope y := e3
      rcases e3 with e3 | e3 | e3
      · exact key _ e3 (.inl rfl)
      · exact key _ e3 (.inr (.inl rfl))
      · exact key _ e3 (.inr (.inr rfl))
    obtain ⟨m, hn, hl⟩ := I.loc
    have hvis : Vis X.env.scope y := (ok.free _ (PySem.mem_of_lookup hfr.1) rfl).elim (fun k => .inr (.inl k)) (fun k => .inr (.inr k))
    obtain ⟨w, r, q⟩ := hl i y av e1 e2 hvis
    refine ⟨w, r, .inr ⟨hfr.2, ?_⟩⟩
    obtain ⟨c, h1, h2⟩ := look hfr.1
    rcases q with ⟨k, _⟩ | ⟨_, c', e', z⟩
    · have k : X.env.scope.names.lookup y = some .local := k
      rcases ok.free _ (PySem.mem_of_lookup hfr.1) rfl with k' | k' <;> rw [show X.env.scope.names.lookup y = _ from k'] at k <;> cases k
    · rw [h2] at e'; cases e'
      exact ⟨c, h1, z.keeps kp⟩
  · have e : cenv.cells.lookup y = some c := e
    rcases mem e with ⟨h1, _⟩ | ⟨_, z⟩
    · obtain ⟨w, z⟩ := I.cell y c h1
      exact ⟨w, z.keeps kp⟩
    · exact ⟨_, z⟩
  · show H cenv.locals = none
    rw [hL]; exact I.hok.fresh (Nat.le_refl _)
  · have e : cenv.cells.lookup y = some c := e
    rcases mem e with ⟨h1, _⟩ | ⟨h1, _⟩
    · exact I.freeC y c h1
    · exact I.hok.fresh (Nat.le_of_succ_le h1)
  · exact absurd (show p ∈ ([] : List (Addr × Obj)) ++ [] from hp) (by simp)
theorem app_ok {E : Value → Shared → Prop} {D : Addr} {xs : List V} {y : V} {v : Value} {Q : Value → Shared → Prop} (I : Inv X pins σ H s) (hD : H D = some (.lst xs)) (hz : xs.length < sizeLine) (r : RelV y v)
    (h : ∀ s', Inv X pins σ (upd H D (.lst (xs ++ [y]))) s' → Q .none s') : wpAny (model X.prog X.w) X.A (call (.builtin "list.append") [.ref D, v]) Q E s := by
  obtain ⟨hz', its, n, ri, e⟩ := I.hok D _ hD
  have hl := ri.length
  refine append_at (hsz := by rw [List.size_toArray]; omega) e fun h' sb ho' => ?_
  refine h { s with heap := h' } (I.write (t' := s.toks) (by rw [hD]; trivial) (.inl rfl) (fun b u hb q => (sb.2 b hb).trans q) ⟨_, ho'⟩ ⟨by rw [List.length_append]; exact hz, its ++ [v], n + 1, ri.append (.cons r .nil), ?_⟩)
  rw [ho']
  simp
def PTs (X : Cx) (ifs : List Expr) (t : TT) : Prop :=
  ∀ (pins : List (Addr × Obj)) (s : Shared) (σ : St) (H : Hp) (Q : Bool → Hp → Prop), Inv X pins σ H s → t σ H Q →
    wpAny (model X.prog X.w) X.A (forIn ifs true fun c r => if r = true then do let ok ← isTrue c X.env (eval c X.env); pure (ForInStep.yield ok) else pure (ForInStep.yield r)) (TP X pins σ Q) X.xe s
def tYes : TT := fun _ H Q => Q true H
theorem pts_nil : PTs X [] tYes := fun _ _ _ H _ I h => wpAny_tests_nil ⟨H, I, h⟩
theorem pts_one {c : Expr} {t : TT} (h : PT X c t) : PTs X [c] t := fun pins s σ H Q I hw => wpAny_tests_one (h pins s σ H Q I hw)
end
theorem thnF {α : Type} {t : Sem α} {Q Q' : α → Shared → Prop} {M : Model} {A : Around} {E : Value → Shared → Prop} {s : Shared} (h : wpAny M A t Q (fun _ _ => False) s) (hQ : ∀ a s, Q a s → Q' a s) : wpAny M A t Q' E s := wpAny_mono h hQ fun _ _ z => False.elim z
theorem compLoop_any {prog : Program} {w : World} {A : Around} {R : Result → Shared → Prop} {s : Shared} {elt target iter : Expr} {ifs : List Expr} {scope : Scope} {pos : Pos} {it acc : Value} {env : Env} (I : Nat → Shared → Prop)
    (turn : ∀ n s, I n s → wpAny (model prog w) A (pyNext it) (fun r s₁ => match r with
      | none => R (.ok .next) s₁
      | some v => wpAny (model prog w) A (letOwnedTupleGo target it v) (fun _ s₁' => wpAny (model prog w) A (assign target env v) (fun _ s₂ =>
          wpAny (model prog w) A (forIn ifs true fun c r => if r = true then do let ok ← isTrue c env (eval c env); pure (ForInStep.yield ok) else pure (ForInStep.yield r)) (fun ok s₃ =>
            if ok = true then wpAny (model prog w) A (eval elt env) (fun x s₄ =>
              wpAny (model prog w) A (call (.builtin "list.append") [acc, x]) (fun _ s₅ => ∃ m, m < n ∧ I m s₅) (notedBy (model prog w) A env fun e s' => R (.error e) s') s₄) (notedBy (model prog w) A env fun e s' => R (.error e) s') s₃
            else ∃ m, m < n ∧ I m s₃) (notedBy (model prog w) A env fun e s' => R (.error e) s') s₂) (notedBy (model prog w) A env fun e s' => R (.error e) s') s₁') (notedBy (model prog w) A env fun e s' => R (.error e) s') s₁) (notedBy (model prog w) A env fun e s' => R (.error e) s') s)
    (n : Nat) (h : I n s) :
    codeAny (model prog w) A (.compLoop (.ListComp elt [⟨target, iter, ifs, 0⟩] scope pos) 0 it acc env) R s := by
  refine codeAny_loop rfl I (fun n s hI => ?_) n h
  show wpAny _ A ((compTurn (.ListComp elt [⟨target, iter, ifs, 0⟩] scope pos) 0 it acc env).onRaise (fun x => do noteFrame x env; theTreesLotGoes x)) _ _ s
  refine wpAny_noted ?_
  rw [compTurn_list]
  refine wpAny_bind (wpAny_standAt (wpAny_bind (wpAny_mono (turn n s hI) (fun r s₁ h₁ => ?_) fun _ _ h' => h')))
  cases r with
  | none => exact wpAny_pure h₁
  | some v =>
    refine wpAny_bind (wpAny_mono h₁ (fun _ s₁' h₁' => ?_) fun _ _ h' => h')
    refine wpAny_bind (wpAny_mono h₁' (fun _ s₂ h₂ => wpAny_bind (wpAny_mono h₂ (fun ok s₃ h₃ => ?_) fun _ _ h' => h')) fun _ _ h' => h')
    cases ok with
    | false => exact wpAny_pure ⟨rfl, h₃⟩
    | true =>
      exact wpAny_bind (wpAny_bind (wpAny_mono h₃ (fun x s₄ h₄ => wpAny_bind (wpAny_mono h₄ (fun _ s₅ h₅ => wpAny_pure (wpAny_pure ⟨rfl, h₅⟩)) fun _ _ h' => h')) fun _ _ h' => h'))
section
variable {X : Cx}
def tLc (wi : TI) (g : TG) (tt : TT) (te : TE) (vs : List Nat) : TE := fun σ H Q => wi σ H fun J H1 => ∀ D, H1 D = none → ∃ W : Nat → Nat → Hp → Prop, (∃ m, W 0 m (upd H1 D (.lst []))) ∧ ∀ i m H, W i m H →
  (J.stop i H ∧ Q (.ref D) H) ∨ (J.go i H ∧ ∃ Nx : Hp → Prop, (∀ H', Nx H' → ∃ m', m' < m ∧ W (i + 1) m' H') ∧ ∀ x H', J.yld i H x H' → g x (wipe σ vs) H' fun σ2 H2 => wipe σ2 vs = wipe σ vs ∧ tt σ2 H2 fun b H3 =>
    if b = true then te σ2 H3 fun y H4 => ∃ acc, H4 D = some (.lst acc) ∧ acc.length < sizeLine ∧ Nx (upd H4 D (.lst (acc ++ [y]))) else Nx H3)
theorem lc_core {pins : List (Addr × Obj)} {s : Shared} {σ : St} {H : Hp} {Q : VK} {elt tg iter : Expr} {ifs : List Expr} {scope : Scope} {own : List (Str × Nat)} {pos pos' : Pos} {wi : TI} {g : TG} {tt : TT} {te : TE} {use : Option (Value → Sem Unit)} {Qf : Value → Shared → Prop}
    (hc : X.calm = true) (hN : X.N.Nodup) (I : Inv X pins σ H s) (hi : PI X tg iter wi) (ok : BlkOk X.N X.env.scope scope own)
    (hg : ∀ (s : Shared) (H : Hp) (C : Addr) (cl : List (Str × Addr)) (fp : List Addr), PG (X.blk s H scope (compEnvC scope cl C X.env) fp) tg g) (ht : ∀ (s : Shared) (H : Hp) (C : Addr) (cl : List (Str × Addr)) (fp : List Addr), PTs (X.blk s H scope (compEnvC scope cl C X.env) fp) ifs tt)
    (he : ∀ (s : Shared) (H : Hp) (C : Addr) (cl : List (Str × Addr)) (fp : List Addr), PE (X.blk s H scope (compEnvC scope cl C X.env) fp) elt te) (hs : ∀ x, foldedSetIterable iter X.env x = pure x)
    (h : tLc wi g tt te (own.map (·.2)) σ H Q)
    (hRR : ∀ D C s' m H', Inv X pins σ H' s' → Q (.ref D) H' → s'.heap.Ns C m → FpOk X pins H' C → compPost (model X.prog X.w) X.A X.xe use Qf (.ref D) C (.ok .next) s') :
    wpAny (model X.prog X.w) X.A (comprehension (.ListComp elt [⟨tg, iter, ifs, 0⟩] scope pos) scope X.env pos' (newList []) false (eval iter X.env) use) Qf X.xe s := by
  have hfree : ∀ y ∈ scope.names, y.2 = .free → ∃ c, X.env.cells.lookup y.1 = some c := fun y hy e => by
    rcases ok.free y hy e with k | k
    · exact I.ok.has _ (.inl k)
    · exact I.ok.has _ (.inr k)
  refine wpAny_comprehension_free (use := use) rfl hs (closure_ok hfree) ok.kind (fun y hy e => by rw [ok.uniq y hy, e])
    (thn (hi pins s σ H _ I h) fun xv s1 hx => thn hx fun itv s2 h2 => ?_)
  obtain ⟨it, fp, tn, J, H2, e, I2, T, st2, f2, q⟩ := h2
  subst e
  refine wpAny_newObj_type (newEnv_comp ?_) (by show 0 ≤ sizeLine; decide)
  generalize hD : s2.heap.objs.size = D
  have hDn : H2 D = none := I2.hok.fresh (Nat.le_of_eq hD)
  obtain ⟨W, ⟨m0, w0⟩, turn⟩ := q D hDn
  -- the new list
  generalize hs3 : ({ s2 with heap := s2.heap.push { cls := .type "list", data := .seq ([] : List Value).toArray } } : Shared) = s3
  have I3 : Inv X pins σ (upd H2 D (.lst [])) s3 := by
    rw [← hs3]
    refine I2.laid (t' := s2.toks) (fun b o e => Heap.get?_push_of_some _ e) (Nat.le_of_eq hD) ⟨Nat.zero_le _, [], 0, .nil, ?_⟩
    rw [← hD]
    exact Heap.get?_push_size _ rfl
  have h3 : s3.heap = s2.heap.push { cls := .type "list", data := .seq ([] : List Value).toArray } := by rw [← hs3]
  have sz : ∀ b ∈ fp, b < s2.heap.objs.size := fun b hb => by
    obtain ⟨o, e, _⟩ := T.obj _ _ st2 b hb
    exact Heap.lt_size e
  have f3 : ∀ b ∈ fp, FpOk X pins (upd H2 D (.lst [])) b ∧ b < s3.heap.objs.size := fun b hb => by
    have hlt := sz b hb
    refine ⟨⟨?_, (f2 b hb).2⟩, by rw [h3, Heap.size_push]; exact Nat.lt_succ_of_lt hlt⟩
    rw [upd_ne (by rw [← hD]; exact Nat.ne_of_lt hlt)]
    exact (f2 b hb).1
  have st3 : tn 0 s3.heap := T.keep _ _ _ st2 fun b _ o e => by rw [h3]; exact Heap.get?_push_of_some _ e
  have I4 := block_start I3 ok hN f3
  have pg := hg s3 (upd H2 D (.lst [])) s3.heap.objs.size (cellsFrom (s3.heap.objs.size + 1) scope.names (cloFrom X.env.cells scope.names [])) fp
  have pt := ht s3 (upd H2 D (.lst [])) s3.heap.objs.size (cellsFrom (s3.heap.objs.size + 1) scope.names (cloFrom X.env.cells scope.names [])) fp
  have pe := he s3 (upd H2 D (.lst [])) s3.heap.objs.size (cellsFrom (s3.heap.objs.size + 1) scope.names (cloFrom X.env.cells scope.names [])) fp
  show codeAny _ _ (.compStart (.ListComp elt [⟨tg, iter, ifs, 0⟩] scope pos) 0 (.ref it) (.ref D) (compEnvC scope (cellsFrom (s3.heap.objs.size + 1) scope.names (cloFrom X.env.cells scope.names [])) s3.heap.objs.size X.env)) (compPost (model X.prog X.w) X.A X.xe use Qf (.ref D) s3.heap.objs.size) { s3 with heap := pushCells (s3.heap.push { cls := .type "dict", data := .dict #[] }) scope.names }
  have nfp : ∀ b ∈ fp, (upd H2 D (.lst [])) b = none := fun b hb => (f3 b hb).1.1
  generalize hce : compEnvC scope (cellsFrom (s3.heap.objs.size + 1) scope.names (cloFrom X.env.cells scope.names [])) s3.heap.objs.size X.env = ce at I4 pg pt pe ⊢
  have cL : ce.locals = s3.heap.objs.size := by subst hce; rfl
  generalize hH3 : upd H2 D (.lst []) = H3 at I3 I4 pg pt pe w0 nfp f3
  generalize hs4 : ({ s3 with heap := pushCells (s3.heap.push { cls := .type "dict", data := .dict #[] }) scope.names } : Shared) = s4 at I4 ⊢
  have st4 : tn 0 s4.heap := T.keep _ _ _ st3 fun b _ o e => by rw [← hs4]; exact pushCells_keeps _ _ _ _ (Heap.get?_push_of_some _ e)
  have stat : ∀ {σ' : St} {H' : Hp} {s' : Shared}, Inv (X.blk s3 H3 scope ce fp) [] σ' H' s' → (∀ b ∈ fp, H' b = none) → ∀ b ∈ fp, FpOk (X.blk s3 H3 scope ce fp) [] H' b := fun {σ' H' s'} I' hn b hb =>
    ⟨hn b hb, (I'.ok.exf b hb).1, I'.ok.exfs b hb, .inl hb, fun x c e => (I'.ok.exf b hb).2 x c e, fun p hp => absurd (show p ∈ ([] : List (Addr × Obj)) ++ [] from hp) (by simp)⟩
  have loop : codeAny (model X.prog X.w) X.A (.compLoop (.ListComp elt [⟨tg, iter, ifs, 0⟩] scope pos) 0 (.ref it) (.ref D) ce) (compPost (model X.prog X.w) X.A X.xe use Qf (.ref D) s3.heap.objs.size) s4 := by
    refine compLoop_any (fun n s' => ∃ i H', Inv (X.blk s3 H3 scope ce fp) [] (wipe σ (own.map (·.2))) H' s' ∧ tn i s'.heap ∧ (∀ b ∈ fp, H' b = none) ∧ W i n H') ?_ m0 ⟨0, H3, I4, st4, nfp, w0⟩
    rintro n s5 ⟨i, H5, I5, st5, n5, w5⟩
    rcases turn i n H5 w5 with ⟨stop, qq⟩ | ⟨go, Nx, hNx, step⟩
    · have td := T.done (X.blk s3 H3 scope ce fp) rfl rfl rfl hc i [] s5 _ H5 (fun _ _ => False) I5 (stat I5 n5) st5 stop
      refine thnF td fun r s6 ⟨hr, I6⟩ => ?_
      subst hr
      -- back in the def's context
      have I7 : Inv X pins σ H5 s6 := I3.call' (ch := fp) I6.os I6.base I6.hok I6.bare fun b hb => ⟨(f3 b hb).1.2.2.2.1, (f3 b hb).1.2.1, (f3 b hb).1.2.2.2.2.1, (f3 b hb).1.2.2.2.2.2⟩
      have nC : H5 s3.heap.objs.size = none := by
        have z : H5 ce.locals = none := I6.free
        rw [cL] at z
        exact z
      obtain ⟨m, hn, _⟩ := I6.loc
      have hn : s6.heap.Ns ce.locals m := hn
      rw [cL] at hn
      exact hRR D s3.heap.objs.size s6 m H5 I7 qq hn (I3.fpOk (Nat.le_refl _) nC)
    · have ti := T.item (X.blk s3 H3 scope ce fp) rfl rfl rfl hc i [] s5 _ H5 (fun _ _ => False) I5 (stat I5 n5) st5 go
      refine thnF ti fun r s6 ⟨u, hr, h6⟩ => ?_
      subst hr
      refine thnF h6 fun _ s7 ⟨x, H7, I7, r7, y7, st7, n7⟩ => ?_
      have I7' := I7.pinned (stat I7 n7) (T.obj _ _ st7)
      refine thnF (pg _ s7 _ H7 x u _ I7' r7 (step x H7 y7)) fun _ s8 ⟨σ8, H8, I8, hw8, q8⟩ => ?_
      refine thnF (pt _ s8 σ8 H8 _ I8 q8) fun b s9 ⟨H9, I9, q9⟩ => ?_
      -- the turn's end
      have fin : ∀ {s' : Shared} {H' : Hp}, Inv (X.blk s3 H3 scope ce fp) ([] ++ pinsAt fp s7.heap) σ8 H' s' → Nx H' → ∃ m, m < n ∧ ∃ i H', Inv (X.blk s3 H3 scope ce fp) [] (wipe σ (own.map (·.2))) H' s' ∧ tn i s'.heap ∧ (∀ b ∈ fp, H' b = none) ∧ W i m H' := fun {s' H'} I' nx => by
        obtain ⟨m', hm, w'⟩ := hNx H' nx
        have pin' : ∀ b ∈ fp, ∀ o, s7.heap.get? b = some o → s'.heap.get? b = some o ∧ H' b = none := fun b hb o e =>
          let z := I'.pin (b, o) (List.mem_append_right _ (List.mem_append_right _ (mem_pinsAt hb e)))
          ⟨z.1, z.2.1⟩
        have hl : (wipe σ (own.map (·.2))).length = σ8.length := by rw [← hw8, wipe_length]
        refine ⟨m', hm, i + 1, H', (I'.unpinned (pins := [])).weak hl (fun j v e => ?_), T.keep _ _ _ st7 fun b hb o e => (pin' b hb o e).1, fun b hb => ?_, w'⟩
        · rw [← hw8] at e
          exact (wipe_some e).1
        · obtain ⟨o, e, _⟩ := T.obj _ _ st7 b hb
          exact (pin' b hb o e).2
      cases b with
      | false =>
        simp only [Bool.false_eq_true, if_false] at q9 ⊢
        exact fin I9 q9
      | true =>
        simp only [if_true] at q9 ⊢
        refine thnF (pe _ s9 σ8 H9 _ I9 q9) fun z s10 ⟨yv, H10, I10, r10, acc, hD10, hz10, nx⟩ => ?_
        exact app_ok (X := X.blk s3 H3 scope ce fp) I10 hD10 hz10 r10 fun s11 I11 => fin I11 nx
  exact codeAny_compStart_list loop (T.self X.A 0 _ _ _ st4 loop)
theorem pe_lc {elt tg iter : Expr} {ifs : List Expr} {scope : Scope} {own : List (Str × Nat)} {pos : Pos} {wi : TI} {g : TG} {tt : TT} {te : TE} (hc : X.calm = true) (hN : X.N.Nodup) (hi : PI X tg iter wi) (ok : BlkOk X.N X.env.scope scope own)
    (hg : ∀ (s : Shared) (H : Hp) (C : Addr) (cl : List (Str × Addr)) (fp : List Addr), PG (X.blk s H scope (compEnvC scope cl C X.env) fp) tg g) (ht : ∀ (s : Shared) (H : Hp) (C : Addr) (cl : List (Str × Addr)) (fp : List Addr), PTs (X.blk s H scope (compEnvC scope cl C X.env) fp) ifs tt)
    (he : ∀ (s : Shared) (H : Hp) (C : Addr) (cl : List (Str × Addr)) (fp : List Addr), PE (X.blk s H scope (compEnvC scope cl C X.env) fp) elt te) (hs : ∀ x, foldedSetIterable iter X.env x = pure x := by intro _; rfl) :
    PE X (.ListComp elt [⟨tg, iter, ifs, 0⟩] scope pos) (tLc wi g tt te (own.map (·.2))) := by
  intro pins s σ H Q I h
  rw [eval_ListComp]
  refine lc_core hc hN I hi ok hg ht he hs h fun D C s' m H' I' q hn f => ⟨m, hn, fun h'' sb => ?_⟩
  obtain ⟨f0, f1, f2, f3, f4, f5⟩ := f
  exact ⟨.ref D, H', I'.turned (t' := s'.toks) (fun b o hb e => (sb.2 b hb).trans e) f0 f1 f3 f4 f5, rfl, q⟩
theorem ps_setLc {i : Nat} {y : Str} {py : Pos} {elt tg iter : Expr} {ifs : List Expr} {scope : Scope} {own : List (Str × Nat)} {pos spos : Pos} {wi : TI} {g : TG} {tt : TT} {te : TE} (hc : X.calm = true) (hN : X.N.Nodup) (hy : X.N[i]? = some y) (hyl : X.env.scope.names.lookup y = some .local)
    (hsw : swapsWith (.ListComp elt [⟨tg, iter, ifs, 0⟩] scope pos) (some (.Name y py)) spos.line X.env = pure true) (hi : PI X tg iter wi) (ok : BlkOk X.N X.env.scope scope own)
    (hg : ∀ (s : Shared) (H : Hp) (C : Addr) (cl : List (Str × Addr)) (fp : List Addr), PG (X.blk s H scope (compEnvC scope cl C X.env) fp) tg g) (ht : ∀ (s : Shared) (H : Hp) (C : Addr) (cl : List (Str × Addr)) (fp : List Addr), PTs (X.blk s H scope (compEnvC scope cl C X.env) fp) ifs tt)
    (he : ∀ (s : Shared) (H : Hp) (C : Addr) (cl : List (Str × Addr)) (fp : List Addr), PE (X.blk s H scope (compEnvC scope cl C X.env) fp) elt te) (hs : ∀ x, foldedSetIterable iter X.env x = pure x := by intro _; rfl) :
    PS X (.Assign [.Name y py] (.ListComp elt [⟨tg, iter, ifs, 0⟩] scope pos) spos) (tAsg (tLc wi g tt te (own.map (·.2))) (gName i)) := by
  intro pins s σ H D I h
  rw [exec_Assign_Name_used _ _ _ _ hsw]
  refine wpAny_bind (wpAny_standAt (wpAny_bind ?_))
  show wpAny _ X.A (do let _ ← comprehension (.ListComp elt [⟨tg, iter, ifs, 0⟩] scope pos) scope X.env (firstIterPos [⟨tg, iter, ifs, 0⟩] pos) (newList []) false (eval iter X.env) (some (assign (.Name y py) X.env))) _ _ s
  have h : tLc wi g tt te (own.map (·.2)) σ H (fun x H1 => gName i x σ H1 D.nx) := h
  refine wpAny_bind (thn (lc_core (Qf := fun _ s' => SP X pins D .next s') hc hN I hi ok hg ht he hs h fun L C s' m H' I' q hn f => ?_) fun _ s' hq => wpAny_pure (wpAny_pure hq))
  show wpAny _ _ (assign (.Name y py) X.env (.ref L)) _ _ _
  refine wpAny_assign_Name (store_ok2 (v := V.ref L) I' hN hy (.inl hyl) rfl (fun s2 I2 ⟨a, sb, ha⟩ => ?_) (.inr hyl))
  obtain ⟨f0, f1, f2, f3, f4, f5⟩ := f
  have haC : C ≠ a := by
    rcases ha with z | z
    · rw [z]; exact f1
    · exact fun e => f4 y a z e.symm
  refine ⟨m, hn.sameBut sb haC, fun h3 sb3 => ?_⟩
  exact ⟨_, H', I2.turned (t' := s2.toks) (fun b o hb e => (sb3.2 b hb).trans e) f0 f1 f3 f4 f5, q⟩
theorem sw_true {elt : Expr} {gs : List Comprehension} {scope : Scope} {pos py : Pos} {y : Str} {l : Nat} {env : Env} (hk : env.scope.kind = .function) (hy : env.scope.names.lookup y = some .local) (hl : (py.line == pos.line) = true)
    (ha : (scope.names.any fun (n, k) => n == y && (k == .local || k == .cell)) = false) : swapsWith (.ListComp elt gs scope pos) (some (.Name y py)) l env = pure true := by
  have ky : env.kindOf y = some .local := hy
  have hb : env.blockKind = .function := by unfold Env.blockKind; rw [hk]; rfl
  unfold swapsWith
  simp only [hb, ky, ha, Expr.pos, hl]
  rfl
end
theorem lc_range {lo : Int} {n : Nat} {g : TG} {tt : TT} {te : TE} {vs : List Nat} {σ : St} {H1 : Hp} {D : Addr} {Qd : Hp → Prop} (Pv : Nat → Hp → Prop) (h0 : Pv 0 (upd H1 D (.lst [])))
    (hs : ∀ i H, i < n → Pv i H → g (.int (lo + i)) (wipe σ vs) H fun σ2 H2 => wipe σ2 vs = wipe σ vs ∧ tt σ2 H2 fun b H3 =>
      if b = true then te σ2 H3 fun y H4 => ∃ acc, H4 D = some (.lst acc) ∧ acc.length < sizeLine ∧ Pv (i + 1) (upd H4 D (.lst (acc ++ [y]))) else Pv (i + 1) H3) (hd : ∀ H, Pv n H → Qd H) :
    ∃ W : Nat → Nat → Hp → Prop, (∃ m, W 0 m (upd H1 D (.lst []))) ∧ ∀ i m H, W i m H →
      ((Itr lo n).stop i H ∧ Qd H) ∨ ((Itr lo n).go i H ∧ ∃ Nx : Hp → Prop, (∀ H', Nx H' → ∃ m', m' < m ∧ W (i + 1) m' H') ∧ ∀ x H', (Itr lo n).yld i H x H' → g x (wipe σ vs) H' fun σ2 H2 => wipe σ2 vs = wipe σ vs ∧ tt σ2 H2 fun b H3 =>
        if b = true then te σ2 H3 fun y H4 => ∃ acc, H4 D = some (.lst acc) ∧ acc.length < sizeLine ∧ Nx (upd H4 D (.lst (acc ++ [y]))) else Nx H3) := by
  refine ⟨fun i m H => m = n - i ∧ i ≤ n ∧ Pv i H, ⟨n, by simp, Nat.zero_le _, h0⟩, ?_⟩
  rintro i m H ⟨rfl, hi, p⟩
  by_cases hlt : i < n
  · refine .inr ⟨hlt, Pv (i + 1), fun H' p' => ⟨n - (i + 1), by omega, rfl, hlt, p'⟩, fun x H' y => ?_⟩
    obtain ⟨e, y⟩ := y
    subst e y
    exact hs i _ hlt p
  · have e : i = n := by omega
    subst e
    exact .inl ⟨Nat.le_refl _, hd H p⟩
theorem lc_list {K : PySem.W.Frag} {a : Addr} {xs : List V} {g : TG} {tt : TT} {te : TE} {vs : List Nat} {σ : St} {H1 : Hp} {D : Addr} {Qd : Hp → Prop} (Pv : Nat → Hp → Prop) (h0 : Pv 0 (upd H1 D (.lst []))) (hl : ∀ i H, i ≤ xs.length → Pv i H → SqL K H a xs)
    (hs : ∀ i x H, xs[i]? = some x → Pv i H → g x (wipe σ vs) H fun σ2 H2 => wipe σ2 vs = wipe σ vs ∧ tt σ2 H2 fun b H3 =>
      if b = true then te σ2 H3 fun y H4 => ∃ acc, H4 D = some (.lst acc) ∧ acc.length < sizeLine ∧ Pv (i + 1) (upd H4 D (.lst (acc ++ [y]))) else Pv (i + 1) H3) (hd : ∀ H, Pv xs.length H → Qd H) :
    ∃ W : Nat → Nat → Hp → Prop, (∃ m, W 0 m (upd H1 D (.lst []))) ∧ ∀ i m H, W i m H →
      ((Itl K a).stop i H ∧ Qd H) ∨ ((Itl K a).go i H ∧ ∃ Nx : Hp → Prop, (∀ H', Nx H' → ∃ m', m' < m ∧ W (i + 1) m' H') ∧ ∀ x H', (Itl K a).yld i H x H' → g x (wipe σ vs) H' fun σ2 H2 => wipe σ2 vs = wipe σ vs ∧ tt σ2 H2 fun b H3 =>
        if b = true then te σ2 H3 fun y H4 => ∃ acc, H4 D = some (.lst acc) ∧ acc.length < sizeLine ∧ Nx (upd H4 D (.lst (acc ++ [y]))) else Nx H3) := by
  refine ⟨fun i m H => m = xs.length - i ∧ i ≤ xs.length ∧ Pv i H, ⟨xs.length, by simp, Nat.zero_le _, h0⟩, ?_⟩
  rintro i m H ⟨rfl, hi, p⟩
  have q := hl i H hi p
  by_cases hlt : i < xs.length
  · refine .inr ⟨⟨xs, xs[i], q, by simp [hlt]⟩, Pv (i + 1), fun H' p' => ⟨xs.length - (i + 1), by omega, rfl, hlt, p'⟩, fun x H' y => ?_⟩
    obtain ⟨e, y⟩ := y
    subst e
    exact hs i x _ (y xs q) p
  · have e : i = xs.length := by omega
    subst e
    exact .inl ⟨⟨xs, q, Nat.le_refl _⟩, hd H p⟩
def blkC (N : List Str) (sc scope : Scope) (own : List (Str × Nat)) : Bool :=
  (match scope.kind with | .function => true | _ => false) && (scope.names.all fun y => decide (scope.names.lookup y.1 = some y.2)) && (own.all fun p => decide (N[p.2]? = some p.1)) &&
    (scope.names.all fun y => match y.2 with
      | .free => (match sc.names.lookup y.1 with | some .cell => true | some .free => true | _ => false)
      | .local => decide (y.1 ∈ own.map (·.1)) || decide (y.1 ∉ N)
      | .cell => decide (y.1 ∈ own.map (·.1)) || decide (y.1 ∉ N)
      | _ => true)
theorem blkOk_by {N : List Str} {sc scope : Scope} {own : List (Str × Nat)} (h : blkC N sc scope own = true) : BlkOk N sc scope own := by
  unfold blkC at h
  simp only [Bool.and_eq_true, List.all_eq_true, decide_eq_true_eq] at h
  obtain ⟨⟨⟨h1, h2⟩, h3⟩, h4⟩ := h
  refine ⟨?_, h2, h3, fun y hy e => ?_, fun y hy e => ?_⟩
  · split at h1
    · assumption
    · cases h1
  · have q := h4 y hy
    simp only [e] at q
    split at q <;> first | exact .inl (by assumption) | exact .inr (by assumption) | cases q
  · have q := h4 y hy
    rcases e with e | e <;> (simp only [e, Bool.or_eq_true, decide_eq_true_eq] at q; exact q)
end L2
namespace L2
open PySem PySem.Spec PyProof.Rows
section
variable {prog : Program} {w : World} {A : Around} {R : Result → Shared → Prop} {s : Shared} {elt t0 i0 t1 i1 : Expr} {ifs0 ifs1 : List Expr} {scope : Scope} {pos : Pos} {it acc : Value} {env : Env}
end
section
variable {X : Cx}
end
end L2
namespace L2
open PySem PySem.Spec PyProof.Rows
section
variable {κ : Type} [DecidableEq κ]
def valV (kvs : List (κ × V)) (k : κ) : Option V := (kvs.find? fun kv => decide (kv.1 = k)).map (·.2)
def putK (kvs : List (κ × V)) (k : κ) (v : V) : List (κ × V) :=
  if (kvs.any fun kv => decide (kv.1 = k)) = true then kvs.map (fun kv => if kv.1 = k then (kv.1, v) else kv) else kvs ++ [(k, v)]
def dropK (kvs : List (κ × V)) (k : κ) : List (κ × V) := kvs.filter fun kv => decide (kv.1 ≠ k)
theorem valV_pos {p : κ × V} {r : List (κ × V)} {k : κ} (e : p.1 = k) : valV (p :: r) k = some p.2 := by simp [valV, List.find?_cons, e]
theorem valV_neg {p : κ × V} {r : List (κ × V)} {k : κ} (e : ¬ p.1 = k) : valV (p :: r) k = valV r k := by simp [valV, List.find?_cons, e]
theorem valV_any (k : κ) : ∀ kvs : List (κ × V), (kvs.any fun kv => decide (kv.1 = k)) = (valV kvs k).isSome
  | [] => rfl
  | p :: r => by
    rw [List.any_cons]
    by_cases e : p.1 = k
    · simp only [valV_pos e, decide_eq_true e, Bool.true_or, Option.isSome_some]
    · rw [valV_neg e, decide_eq_false e, Bool.false_or]; exact valV_any k r
theorem valV_map (k j : κ) (y : V) : ∀ kvs : List (κ × V), valV (kvs.map fun kv => if kv.1 = k then (kv.1, y) else kv) j = (valV kvs j).map fun x => if j = k then y else x
  | [] => rfl
  | p :: r => by
    have ih := valV_map k j y r
    rw [List.map_cons]
    by_cases h : p.1 = k
    · rw [if_pos h]
      by_cases e : p.1 = j
      · rw [valV_pos (p := (p.1, y)) e, valV_pos e, Option.map_some, if_pos (e.symm.trans h)]
      · rw [valV_neg (p := (p.1, y)) e, valV_neg e, ih]
    · rw [if_neg h]
      by_cases e : p.1 = j
      · rw [valV_pos (p := p) e, valV_pos e, Option.map_some, if_neg (fun z => h (e.trans z))]
      · rw [valV_neg (p := p) e, valV_neg e, ih]
theorem valV_snoc (k j : κ) (y : V) : ∀ kvs : List (κ × V), valV kvs k = none → valV (kvs ++ [(k, y)]) j = if j = k then some y else valV kvs j
  | [], _ => by
    by_cases e : k = j
    · rw [if_pos e.symm]; exact valV_pos (p := (k, y)) e
    · rw [if_neg (fun z => e z.symm)]; exact valV_neg (p := (k, y)) e
  | p :: r, hn => by
    rw [List.cons_append]
    have hk : ¬ p.1 = k := fun z => by rw [valV_pos z] at hn; cases hn
    rw [valV_neg hk] at hn
    have ih := valV_snoc k j y r hn
    by_cases e : p.1 = j
    · rw [valV_pos e, valV_pos e, if_neg (fun z => hk (e.trans z))]
    · rw [valV_neg e, valV_neg e, ih]
theorem valV_put (kvs : List (κ × V)) (k j : κ) (y : V) : valV (putK kvs k y) j = if j = k then some y else valV kvs j := by
  unfold putK
  by_cases a : (kvs.any fun kv => decide (kv.1 = k)) = true
  · rw [if_pos a, valV_map]
    rw [valV_any] at a
    by_cases e : j = k
    · obtain ⟨x, hx⟩ := Option.isSome_iff_exists.mp a
      rw [if_pos e, e, hx, Option.map_some, if_pos rfl]
    · rw [if_neg e]
      cases valV kvs j with
      | none => rfl
      | some x => rw [Option.map_some, if_neg e]
  · rw [if_neg a]
    refine valV_snoc k j y kvs ?_
    rw [valV_any] at a
    cases q : valV kvs k with
    | none => rfl
    | some x => rw [q] at a; exact (a rfl).elim
theorem length_putK (kvs : List (κ × V)) (k : κ) (v : V) : (putK kvs k v).length ≤ kvs.length + 1 := by
  unfold putK
  split
  · rw [List.length_map]; omega
  · rw [List.length_append, List.length_cons, List.length_nil]; omega
theorem putK_new {kvs : List (κ × V)} {k : κ} (v : V) (h : valV kvs k = none) : putK kvs k v = kvs ++ [(k, v)] := by
  unfold putK
  rw [valV_any, h]
  exact if_neg (by decide)
theorem RelO.isSome_eq {o : Option V} {u : Option Value} (r : RelO o u) : o.isSome = u.isSome := by
  cases o with
  | none => cases u with
    | none => rfl
    | some _ => exact (show False from r).elim
  | some _ => cases u with
    | none => exact (show False from r).elim
    | some _ => rfl
theorem RelO.getD {o : Option V} {u : Option Value} {d : V} {d' : Value} (r : RelO o u) (rd : RelV d d') : RelV (o.getD d) (u.getD d') := by
  cases o with
  | none => cases u with
    | none => exact rd
    | some _ => exact (show False from r).elim
  | some _ => cases u with
    | none => exact (show False from r).elim
    | some _ => exact r
theorem KV.val {kvs : List (κ × V)} {vs : List (κ × Value)} (r : KV kvs vs) (k : κ) : RelO (valV kvs k) (valueAt vs k) := by
  unfold KV at r
  induction r with
  | nil => exact True.intro
  | @cons p q ps qs h t ih =>
    obtain ⟨h1, h2⟩ := h
    by_cases e : p.1 = k
    · have e' : q.1 = k := h1.symm.trans e
      have b : valueAt (q :: qs) k = some q.2 := by simp [valueAt, List.find?_cons, e']
      rw [valV_pos e, b]; exact h2
    · have e' : ¬ q.1 = k := fun z => e (h1.trans z)
      have b : valueAt (q :: qs) k = valueAt qs k := by simp [valueAt, List.find?_cons, e']
      rw [valV_neg e, b]; exact ih
theorem KV.any {kvs : List (κ × V)} {vs : List (κ × Value)} (r : KV kvs vs) (k : κ) : (kvs.any fun kv => decide (kv.1 = k)) = vs.any fun kv => decide (kv.1 = k) := by
  unfold KV at r
  induction r with
  | nil => rfl
  | cons h t ih => rw [List.any_cons, List.any_cons, ih, h.1]
theorem KV.repl {kvs : List (κ × V)} {vs : List (κ × Value)} (r : KV kvs vs) (k : κ) {y : V} {u : Value} (ry : RelV y u) :
    KV (kvs.map fun kv => if kv.1 = k then (kv.1, y) else kv) (vs.map fun kv => if kv.1 = k then (kv.1, u) else kv) := by
  unfold KV at r ⊢
  induction r with
  | nil => exact .nil
  | @cons p q ps qs h t ih =>
    rw [List.map_cons, List.map_cons]
    refine .cons ?_ ih
    obtain ⟨h1, h2⟩ := h
    by_cases e : p.1 = k
    · rw [if_pos e, if_pos (h1.symm.trans e)]; exact ⟨h1, ry⟩
    · rw [if_neg e, if_neg (fun z => e (h1.trans z))]; exact ⟨h1, h2⟩
theorem KV.put {kvs : List (κ × V)} {vs : List (κ × Value)} (r : KV kvs vs) (k : κ) {y : V} {u : Value} (ry : RelV y u) : KV (putK kvs k y) (stored vs k u) := by
  unfold putK stored
  rw [r.any k]
  by_cases e : (vs.any fun kv => decide (kv.1 = k)) = true
  · rw [if_pos e, if_pos e]; exact r.repl k ry
  · rw [if_neg e, if_neg e]; exact Paired.snoc r ⟨rfl, ry⟩
theorem KV.drop {kvs : List (κ × V)} {vs : List (κ × Value)} (r : KV kvs vs) (k : κ) : KV (dropK kvs k) (without vs k) := by
  unfold KV at r ⊢
  unfold dropK without
  induction r with
  | nil => exact .nil
  | @cons p q ps qs h t ih =>
    obtain ⟨h1, h2⟩ := h
    rw [List.filter_cons, List.filter_cons]
    by_cases e : p.1 = k
    · have a : ¬ decide (p.1 ≠ k) = true := by simp [e]
      have b : ¬ decide (q.1 ≠ k) = true := by simp [h1.symm.trans e]
      rw [if_neg a, if_neg b]; exact ih
    · have e' : ¬ q.1 = k := fun z => e (h1.trans z)
      have a : decide (p.1 ≠ k) = true := by simp [e]
      have b : decide (q.1 ≠ k) = true := by simp [e']
      rw [if_pos a, if_pos b]; exact .cons ⟨h1, h2⟩ ih
theorem KV.keys {kvs : List (κ × V)} {vs : List (κ × Value)} (r : KV kvs vs) : kvs.map (·.1) = vs.map (·.1) := by
  unfold KV at r
  induction r with
  | nil => rfl
  | cons h t ih => rw [List.map_cons, List.map_cons, ih, h.1]
theorem KV.length {kvs : List (κ × V)} {vs : List (κ × Value)} (r : KV kvs vs) : kvs.length = vs.length := Paired.length r
end
theorem kV_is {P : Program} {w : World} {k : Key} {u : Value} (r : RelV (kV k) u) : (mixKind P w).is k u = true := by
  cases k with
  | inl i => obtain ⟨t, e⟩ := (show ∃ t, u = Value.int i t from r); subst e; exact mixKind_int P w i t
  | inr x => obtain ⟨t, e⟩ := (show ∃ t, u = Value.str x t from r); subst e; exact mixKind_str P w x t
theorem items_are {P : Program} {w : World} : ∀ {ks : List Key} {us : List Value}, Vals (ks.map kV) us → ItemsAre (mixKind P w) ks us
  | [], _, r => by rw [List.map_nil] at r; cases r; exact .nil
  | k :: ks, _, r => by
    rw [List.map_cons] at r
    cases r with
    | cons h t => exact .cons (kV_is h) (items_are t)
abbrev KT (H : Hp) : List (List Key × V) → List (List Key × Addr × Value) → Prop := Paired fun p q => p.1 = q.1 ∧ H q.2.1 = some (.tup (p.1.map kV)) ∧ RelV p.2 q.2.2
theorem KT.val {H : Hp} {kvs : List (List Key × V)} {xs : List (List Key × Addr × Value)} (r : KT H kvs xs) (k : List Key) : RelO (valV kvs k) ((atKey xs k).map (·.2)) := by
  induction r with
  | nil => exact True.intro
  | @cons p q ps qs h t ih =>
    obtain ⟨h1, _, h2⟩ := h
    by_cases e : p.1 = k
    · have e' : q.1 = k := h1.symm.trans e
      have b : atKey (q :: qs) k = some q.2 := by simp [atKey, List.find?_cons, e']
      rw [valV_pos e, b]; exact h2
    · have e' : ¬ q.1 = k := fun z => e (h1.trans z)
      have b : atKey (q :: qs) k = atKey qs k := by simp [atKey, List.find?_cons, e']
      rw [valV_neg e, b]; exact ih
theorem KT.repl {H : Hp} {kvs : List (List Key × V)} {xs : List (List Key × Addr × Value)} (r : KT H kvs xs) (k : List Key) {y : V} {u : Value} (ry : RelV y u) :
    KT H (kvs.map fun kv => if kv.1 = k then (kv.1, y) else kv) (xs.map (putAt k u)) := by
  induction r with
  | nil => exact .nil
  | @cons p q ps qs h t ih =>
    rw [List.map_cons, List.map_cons]
    refine .cons ?_ ih
    obtain ⟨h1, h2, h3⟩ := h
    unfold putAt
    by_cases e : p.1 = k
    · rw [if_pos e, if_pos (h1.symm.trans e)]; exact ⟨h1, h2, ry⟩
    · rw [if_neg e, if_neg (fun z => e (h1.trans z))]; exact ⟨h1, h2, h3⟩
theorem KT.put {H : Hp} {kvs : List (List Key × V)} {xs : List (List Key × Addr × Value)} (r : KT H kvs xs) (k : List Key) {b : Addr} {y : V} {u : Value} (hb : H b = some (.tup (k.map kV))) (ry : RelV y u) :
    KT H (putK kvs k y) (storedH xs k b u) := by
  have e : (kvs.any fun kv => decide (kv.1 = k)) = (atKey xs k).isSome := by
    rw [valV_any, (r.val k).isSome_eq, Option.isSome_map]
  unfold putK storedH
  rw [e]
  by_cases q : (atKey xs k).isSome = true
  · rw [if_pos q, if_pos q]; exact r.repl k ry
  · rw [if_neg q, if_neg q]; exact Paired.snoc r ⟨rfl, hb, ry⟩
theorem KT.keeps {H H' : Hp} {kvs : List (List Key × V)} {xs : List (List Key × Addr × Value)} (r : KT H kvs xs) (ht : ∀ b ys, H b = some (.tup ys) → H' b = some (.tup ys)) : KT H' kvs xs :=
  Paired.mapP r fun _ _ z => ⟨z.1, ht _ _ z.2.1, z.2.2⟩
section
variable {P : Program} {w : World} {H : Hp} {h : Heap} {a : Addr}
theorem rd_of {u : HO} (ok : HOk P w H h) (e : Rd H a u) : ObjOk P w H h a u := e.ok ok
theorem dk_rd {kvs : List (Key × V)} (ok : HOk P w H h) (e : Rd H a (.dK kvs)) : kvs.length ≤ sizeLine ∧ (a == sysModules) = false ∧ ∃ vs, KV kvs vs ∧ h.DictOf (mixKind P w) a vs :=
  show ObjOk P w H h a (.dK kvs) from rd_of ok e
theorem dk_of {kvs : List (Key × V)} (ok : HOk P w H h) (e : H a = some (.dK kvs)) : kvs.length ≤ sizeLine ∧ (a == sysModules) = false ∧ ∃ vs, KV kvs vs ∧ h.DictOf (mixKind P w) a vs := dk_rd ok (.inl e)
theorem key_of {ks : List Key} (ok : HOk P w H h) (e : H a = some (.tup (ks.map kV))) : (tupleKind (mixKind P w)).is h ks a := by
  obtain ⟨_, its, r, o, h1, h2, n, h3⟩ := (show ObjOk P w H h a (.tup (ks.map kV)) from ok a _ e)
  exact ⟨o, its.toArray, n, h1, h2, h3, by simpa using items_are r⟩
theorem dt_rd {kvs : List (List Key × V)} (ok : HOk P w H h) (e : Rd H a (.dT kvs)) : kvs.length ≤ sizeLine ∧ (a == sysModules) = false ∧
    ∃ xs, KT H kvs xs ∧ h.DictOfH (tupleKind (mixKind P w)) a xs := by
  obtain ⟨z, y, xs, r, o, es, ep, h1, h2, h3, h4, h5⟩ := (show ObjOk P w H h a (.dT kvs) from rd_of ok e)
  refine ⟨z, y, xs, r, o, es, ep, h1, h2, h3, h4, fun x hx => ?_, h5⟩
  have all : ∀ {l : List (List Key × V)} {m : List (List Key × Addr × Value)}, KT H l m → ∀ x ∈ m, (tupleKind (mixKind P w)).is h x.1 x.2.1 := by
    intro l m q
    induction q with
    | nil => intro x hx; exact nomatch hx
    | @cons p q ps qs hq t ih =>
      intro x hx
      rcases List.mem_cons.mp hx with e | hx
      · subst e
        exact key_of ok (by rw [← hq.1]; exact hq.2.1)
      · exact ih x hx
  exact all r x hx
theorem dt_of {kvs : List (List Key × V)} (ok : HOk P w H h) (e : H a = some (.dT kvs)) : kvs.length ≤ sizeLine ∧ (a == sysModules) = false ∧
    ∃ xs, KT H kvs xs ∧ h.DictOfH (tupleKind (mixKind P w)) a xs := dt_rd ok (.inl e)
end
def DGet (H : Hp) (a : Addr) (y : V) (r : Option V) : Prop :=
  (∃ kvs k, Rd H a (.dK kvs) ∧ y = kV k ∧ r = valV kvs k) ∨ ∃ kvs k b, Rd H a (.dT kvs) ∧ y = .ref b ∧ H b = some (.tup (k.map kV)) ∧ r = valV kvs k
def DPut (H : Hp) (a : Addr) (y v : V) (H' : Hp) : Prop :=
  (∃ kvs k, H a = some (.dK kvs) ∧ y = kV k ∧ kvs.length < sizeLine ∧ H' = upd H a (.dK (putK kvs k v))) ∨
  ∃ kvs k b, H a = some (.dT kvs) ∧ y = .ref b ∧ H b = some (.tup (k.map kV)) ∧ kvs.length < sizeLine ∧ H' = upd H a (.dT (putK kvs k v))
theorem DGet.k {H : Hp} {a : Addr} {kvs : List (Key × V)} {k : Key} (e : H a = some (.dK kvs)) : DGet H a (kV k) (valV kvs k) := .inl ⟨kvs, k, .inl e, rfl, rfl⟩
theorem DGet.t {H : Hp} {a b : Addr} {kvs : List (List Key × V)} {k : List Key} (e : H a = some (.dT kvs)) (eb : H b = some (.tup (k.map kV))) : DGet H a (.ref b) (valV kvs k) := .inr ⟨kvs, k, b, .inl e, rfl, eb, rfl⟩
theorem DPut.k {H : Hp} {a : Addr} {kvs : List (Key × V)} {k : Key} {v : V} (e : H a = some (.dK kvs)) (hl : kvs.length < sizeLine) : DPut H a (kV k) v (upd H a (.dK (putK kvs k v))) := .inl ⟨kvs, k, e, rfl, hl, rfl⟩
theorem DPut.t {H : Hp} {a b : Addr} {kvs : List (List Key × V)} {k : List Key} {v : V} (e : H a = some (.dT kvs)) (eb : H b = some (.tup (k.map kV))) (hl : kvs.length < sizeLine) :
    DPut H a (.ref b) v (upd H a (.dT (putK kvs k v))) := .inr ⟨kvs, k, b, e, rfl, eb, hl, rfl⟩
section
variable {X : Cx} {pins : List (Addr × Obj)} {σ : St} {H : Hp} {s : Shared} {a : Addr} {y v : V} {u r : Value} {o : Option V} {A : Around} {E : Value → Shared → Prop}
theorem Inv.big (I : Inv X pins σ H s) : sysModules < s.heap.objs.size := by
  have h : mainGlobals < s.heap.objs.size := (I.mod.glob.keeps I.bk).lt
  exact Nat.lt_trans (by decide) h
theorem d_getItem {Q : Value → Shared → Prop} (hu : A.units + 1 < cLine) (I : Inv X pins σ H s) (g : DGet H a y (some v)) (ry : RelV y u) (h : ∀ w' s', Inv X pins σ H s' → RelV v w' → Q w' s') :
    wpAny (model X.prog X.w) A (getItem (.ref a) u) Q E s := by
  rcases g with ⟨kvs, k, e, ey, l⟩ | ⟨kvs, k, b, e, ey, eb, l⟩
  · subst ey
    obtain ⟨z, hd, vs, rel, dd⟩ := dk_rd I.hok e
    obtain ⟨w', hw, rw'⟩ := RelO.some_of (v := v) (o := valueAt vs k) (by rw [l]; exact rel.val k)
    exact wpAny_getItem_of (kV_is ry) dd.mapOf hw (h w' _ (I.tok _) rw')
  · subst ey
    cases (show u = Value.ref b from ry)
    obtain ⟨z, hd, xs, rel, dd⟩ := dt_rd I.hok e
    obtain ⟨w', hw, rw'⟩ := RelO.some_of (v := v) (o := (atKey xs k).map (·.2)) (by rw [l]; exact rel.val k)
    obtain ⟨p, hp, hp2⟩ := Option.map_eq_some_iff.mp hw
    refine wpAny_getItem_heap (tupleKind_room_in1 hu) (key_of I.hok eb) dd hp ?_
    rw [hp2]
    exact h w' _ (I.tok _) rw'
theorem d_in {Q : Value → Shared → Prop} (hu : A.units + 1 < cLine) (I : Inv X pins σ H s) (g : DGet H a y o) (ry : RelV y u) (h : ∀ s', Inv X pins σ H s' → Q (.bool o.isSome) s') :
    wpAny (model X.prog X.w) A (compareOp .In u (.ref a)) Q E s := by
  rcases g with ⟨kvs, k, e, ey, l⟩ | ⟨kvs, k, b, e, ey, eb, l⟩
  · subst ey
    obtain ⟨z, hd, vs, rel, dd⟩ := dk_rd I.hok e
    refine wpAny_in_of (kV_is ry) hd dd.mapOf ?_
    rw [← (rel.val k).isSome_eq, ← l]
    exact h _ (I.tok _)
  · subst ey
    cases (show u = Value.ref b from ry)
    obtain ⟨z, hd, xs, rel, dd⟩ := dt_rd I.hok e
    refine wpAny_in_heap (tupleKind_room_in1 hu) (key_of I.hok eb) hd dd ?_
    have q := (rel.val k).isSome_eq
    rw [Option.isSome_map] at q
    rw [← q, ← l]
    exact h _ (I.tok _)
theorem d_write {h' : Heap} {t' : Nat} {ob : HO} (I : Inv X pins σ H s) (mu : Mut (H a)) (hs : Heap.SameBut a s.heap h') (he : ∃ q, h'.get? a = some q) (new : ObjOk X.prog X.w (upd H a ob) h' a ob) :
    Inv X pins σ (upd H a ob) { s with heap := h', toks := t' } :=
  I.write (x := a) (e := a) mu (.inl rfl) (fun b q hb z => (hs.2 b hb).trans z) he new
theorem dk_new {P : Program} {w : World} {H' : Hp} {h' : Heap} {kvs : List (Key × V)} {vs : List (Key × Value)} (z : kvs.length ≤ sizeLine) (hd : (a == sysModules) = false) (rel : KV kvs vs) (dd : h'.DictOf (mixKind P w) a vs) :
    ObjOk P w H' h' a (.dK kvs) := ⟨z, hd, vs, rel, dd⟩
theorem d_setItem {H' : Hp} {Q : Unit → Shared → Prop} (hu : A.units + 1 < cLine) (I : Inv X pins σ H s) (g : DPut H a y v H') (ry : RelV y u) (rv : RelV v r) (h : ∀ s', Inv X pins σ H' s' → Q () s') :
    wpAny (model X.prog X.w) A (setItem (.ref a) u r) Q E s := by
  rcases g with ⟨kvs, k, e, ey, l, eH⟩ | ⟨kvs, k, b, e, ey, eb, l, eH⟩
  · subst ey eH
    obtain ⟨z, hd, vs, rel, dd⟩ := dk_of I.hok e
    have hz : vs.length ≤ sizeLine := by rw [← rel.length]; exact z
    have hl : (putK kvs k v).length ≤ sizeLine := by have := length_putK kvs k v; omega
    refine wpAny_setItem_pairs (hsz := hz) (kV_is ry) dd fun h' dd' hs => h _ ?_
    have he : ∃ q, h'.get? a = some q := let ⟨q, _, _, hq, _⟩ := dd'; ⟨q, hq⟩
    exact d_write I (by rw [e]; exact True.intro) hs he (dk_new hl hd (rel.put k rv) dd')
  · subst ey eH
    cases (show u = Value.ref b from ry)
    obtain ⟨z, hd, xs, rel, dd⟩ := dt_of I.hok e
    have hz : xs.length ≤ sizeLine := by rw [← Paired.length rel]; exact z
    have hl : (putK kvs k v).length ≤ sizeLine := by have := length_putK kvs k v; omega
    refine wpAny_setItem_heap (hsz := hz) (tupleKind_room_in1 hu) (key_of I.hok eb) dd fun h' dd' hs => h _ ?_
    obtain ⟨q, es, ep, hq, h2, h3, h4, _, h5⟩ := dd'
    refine d_write I (by rw [e]; exact True.intro) hs ⟨q, hq⟩ ⟨hl, hd, _, (rel.put k eb rv).keeps fun c ys ec => ?_, q, es, ep, hq, h2, h3, h4, h5⟩
    rw [upd_ne (ne_of ec e (fun z => nomatch z))]
    exact ec
end
section
variable {X : Cx} {pins : List (Addr × Obj)} {σ : St} {H : Hp} {s : Shared} {a : Addr} {kvs : List (Key × V)} {k : Key} {u : Value} {A : Around} {E : Value → Shared → Prop}
theorem d_len {Q : Value → Shared → Prop} (I : Inv X pins σ H s) (e : Rd H a (.dK kvs)) (h : ∀ t s', Inv X pins σ H s' → Q (.int kvs.length t) s') : wpAny (model X.prog X.w) A (call (.builtin "len") [.ref a]) Q E s := by
  obtain ⟨z, hd, vs, rel, dd⟩ := dk_rd I.hok e
  refine call_len_dict hd dd (by rw [← rel.length]; rw [sizeLine_eq] at z; omega) ?_
  rw [← rel.length]
  exact h _ _ (I.tok _)
end
def NoSl (i : Expr) : Prop := ∀ ov iv, subscripted i false ov iv = operate [ov, iv] (getItem ov iv)
theorem subD_of {prog : Program} {w : World} {A : Around} {E : Value → Shared → Prop} {s : Shared} {env : Env} {value slice : Expr} {pos : Pos} {T id : String} {Q : Value → Shared → Prop}
    (hl : typeLookup (.type T) "__getitem__" = pure (some (.builtin id))) (hs : NoSl slice)
    (h : wpAny (model prog w) A (eval value env) (fun o s₁ => wpAny (model prog w) A (eval slice env) (fun i s₂ => s₂.TypeIs o T ∧ wpAny (model prog w) A (getItem o i) Q E s₂) E s₁) E s) :
    wpAny (model prog w) A (eval (.Subscript value slice pos) env) Q E s := by
  refine Subscript_ (wpAny_mono h (fun o s₁ h₁ => wpAny_mono h₁ (fun i s₂ h₂ => ?_) fun _ _ x => x) fun _ _ x => x)
  obtain ⟨hT, h₂⟩ := h₂
  unfold subscriptTail
  refine wpAny_bind ?_
  rw [getitemInPython_of_ne hT.not_modules]
  refine wpAny_bind (wpAny_specialOf hT hl ?_)
  have fin : wpAny (model prog w) A (subscripted slice false o i) (fun r s₃ => wpAny (model prog w) A (letTemporaryGo value o r >>= fun _ => pure r) Q E s₃) E s₂ := by
    rw [hs o i]
    exact wpAny_operating (wpAny_mono h₂ (fun r s₃ h₃ => wpAny_bind (wpAny_letTemporaryGo (wpAny_pure h₃))) fun _ _ x => x)
  first
    | exact wpAny_pure (wpAny_bind fin)
    | exact wpAny_bind (wpAny_pure (wpAny_bind fin))
    | exact wpAny_bind fin
theorem dict_typeIs {X : Cx} {pins : List (Addr × Obj)} {σ : St} {H : Hp} {s : Shared} {a : Addr} {y : V} {o : Option V} (I : Inv X pins σ H s) (g : DGet H a y o) : s.TypeIs (.ref a) "dict" := by
  rcases g with ⟨kvs, k, e, _, _⟩ | ⟨kvs, k, b, e, _, _, _⟩
  · obtain ⟨_, _, vs, _, dd⟩ := dk_rd I.hok e
    exact dd.typeIs
  · obtain ⟨_, _, xs, _, dd⟩ := dt_rd I.hok e
    exact dd.typeIs
def tDGet (td ty : TE) : TE := fun σ H Q => td σ H fun x H1 => ty σ H1 fun y H2 => ∃ a v, x = .ref a ∧ DGet H2 a y (some v) ∧ Q v H2
def tDIn (ty td : TE) : TE := fun σ H Q => ty σ H fun y H1 => td σ H1 fun x H2 => ∃ a o, x = .ref a ∧ DGet H2 a y o ∧ Q (.bl o.isSome) H2
def sDPut (td ty tv : TE) : TS := fun D σ H => tv σ H fun v H1 => td σ H1 fun x H2 => ty σ H2 fun y H3 => ∃ a H4, x = .ref a ∧ DPut H3 a y v H4 ∧ D.nx σ H4
section
variable {X : Cx} {o i e value : Expr} {pos pos' tpos : Pos} {td ty tv : TE}
theorem pe_dget (hu : X.A.units + 1 < cLine) (ho : PE X o td) (hi : PE X i ty) (hs : NoSl i) : PE X (.Subscript o i pos) (tDGet td ty) := by
  intro pins s σ H Q I h
  refine subD_of PySem.F.slot_dict_getitem.lookup hs (thn (ho pins s σ H _ I h) fun u s1 ⟨x, H1, I1, rx, q1⟩ => thn (hi pins s1 σ H1 _ I1 q1) fun iv s2 ⟨y, H2, I2, ry, a, v, ex, g, q2⟩ => ?_)
  subst ex
  obtain rfl : u = Value.ref a := rx
  exact ⟨dict_typeIs I2 g, d_getItem hu I2 g ry fun w' s3 I3 rw' => ⟨v, H2, I3, rw', q2⟩⟩
theorem pc_din (hu : X.A.units + 1 < cLine) (hi : PE X i ty) (ho : PE X o td) : PC X .In i o (tDIn ty td) := by
  intro pins s σ H Q I h
  refine thn (hi pins s σ H _ I h) fun iv s1 ⟨y, H1, I1, ry, q1⟩ => thn (ho pins s1 σ H1 _ I1 q1) fun u s2 ⟨x, H2, I2, rx, a, ov, ex, g, q2⟩ => ?_
  subst ex
  obtain rfl : u = Value.ref a := rx
  exact d_in hu I2 g ry fun s3 I3 => ⟨.bl ov.isSome, H2, I3, rfl, q2⟩
theorem ps_dput (hu : X.A.units + 1 < cLine) (ho : PE X o td) (hi : PE X i ty) (hv : PE X value tv) (hs : swapsWith value (some (.Subscript o i pos')) pos.line X.env = pure false) :
    PS X (.Assign [.Subscript o i pos'] value pos) (sDPut td ty tv) := by
  intro pins s σ H D I h
  refine wpAny_Assign_Subscript (thn (hv pins s σ H _ I h) fun r s1 ⟨v, H1, I1, rv, q1⟩ => thn (ho pins s1 σ H1 _ I1 q1) fun u s2 ⟨x, H2, I2, rx, q2⟩ => thn (hi pins s2 σ H2 _ I2 q2) fun iv s3 ⟨y, H3, I3, ry, a, H4, ex, g, q3⟩ => ?_) hs
  subst ex
  obtain rfl : u = Value.ref a := rx
  exact d_setItem hu I3 g ry rv fun s4 I4 => ⟨σ, H4, I4, q3⟩
end
theorem dk_empty {P : Program} {w : World} {H : Hp} (h : Heap) (hb : sysModules < h.objs.size) : ObjOk P w H (h.push { cls := .type "dict", data := .dict #[] }) h.objs.size (.dK []) :=
  ⟨Nat.zero_le _, beq_eq_false_iff_ne.mpr (Ne.symm (Nat.ne_of_lt hb)), [], .nil, Heap.DictOf.new h⟩
theorem dt_empty {P : Program} {w : World} {H : Hp} (h : Heap) (hb : sysModules < h.objs.size) : ObjOk P w H (h.push { cls := .type "dict", data := .dict #[] }) h.objs.size (.dT []) :=
  ⟨Nat.zero_le _, beq_eq_false_iff_ne.mpr (Ne.symm (Nat.ne_of_lt hb)), [], .nil, _, #[], 0, Heap.get?_push_size _ rfl, ⟨rfl, rfl, rfl⟩, rfl, rfl, List.nodup_nil⟩
def tDNewK : TE := fun _ H Q => ∀ p, H p = none → Q (.ref p) (upd H p (.dK []))
def tDNewT : TE := fun _ H Q => ∀ p, H p = none → Q (.ref p) (upd H p (.dT []))
section
variable {X : Cx} {pos : Pos}
theorem pe_dnewK : PE X (.Dict [] [] pos) tDNewK := fun pins s σ H Q I h =>
  wpAny_Dict_empty ⟨.ref s.heap.objs.size, _, I.laid (a := s.heap.objs.size) (o := .dK []) (t' := s.toks) (fun _ _ q => Heap.get?_push_of_some _ q) (Nat.le_refl _) (dk_empty s.heap I.big), rfl, h _ (I.hok.fresh (Nat.le_refl _))⟩
theorem pe_dnewT : PE X (.Dict [] [] pos) tDNewT := fun pins s σ H Q I h =>
  wpAny_Dict_empty ⟨.ref s.heap.objs.size, _, I.laid (a := s.heap.objs.size) (o := .dT []) (t' := s.toks) (fun _ _ q => Heap.get?_push_of_some _ q) (Nat.le_refl _) (dt_empty s.heap I.big), rfl, h _ (I.hok.fresh (Nat.le_refl _))⟩
end
structure M2 (X : Cx) (o : Expr) (m : Str) (apos : Pos) (e f : Expr) (cpos : Pos) : Prop where
  base : attributeBase o m X.env (eval o X.env) = eval o X.env
  few : ((backTo cpos (starEach [e, f] X.env)).all (fun x => !x.1) && (backToKw cpos (keywordEach [] X.env)).all (fun x => x.1.isSome)
    && decide (([e, f] : List Expr).length + ([] : List Keyword).length + (if ([] : List Keyword).isEmpty then 0 else 1) < 30)) = true
  line : (apos.endLine == cpos.line) = true
  trees : backTo cpos (starEach [e, f] X.env) = [(false, eval e X.env), (false, eval f X.env)]
def IsD (H : Hp) (a : Addr) : Prop := (∃ kvs, Rd H a (.dK kvs)) ∨ ∃ kvs, Rd H a (.dT kvs)
theorem isD_at {X : Cx} {pins : List (Addr × Obj)} {σ : St} {H : Hp} {s : Shared} {a : Addr} (I : Inv X pins σ H s) (d : IsD H a) :
    s.TypeIs (.ref a) "dict" ∧ (∀ b, Value.ref a = .ref b → ∃ ob, s.heap.get? b = some ob ∧ ob.dict = none) ∧ (a == sysModules) = false := by
  rcases d with ⟨kvs, e⟩ | ⟨kvs, e⟩
  · obtain ⟨_, hd, vs, _, dd⟩ := dk_rd I.hok e
    refine ⟨dd.typeIs, fun b q => ?_, hd⟩
    cases q
    obtain ⟨ob, _, _, h1, h2, _⟩ := dd
    exact ⟨ob, h1, h2.2.1⟩
  · obtain ⟨_, hd, xs, _, dd⟩ := dt_rd I.hok e
    refine ⟨dd.typeIs, fun b q => ?_, hd⟩
    cases q
    obtain ⟨ob, _, _, h1, h2, _⟩ := dd
    exact ⟨ob, h1, h2.2.1⟩
section
variable {X : Cx} {pins : List (Addr × Obj)} {σ : St} {H : Hp} {s : Shared} {a : Addr} {y d : V} {u r : Value} {o : Option V} {A : Around} {E : Value → Shared → Prop}
end
section
variable {X : Cx} {o e f : Expr} {apos cpos : Pos} {td ty tx : TE}
end
section
variable {X : Cx} {pins : List (Addr × Obj)} {σ : St} {H : Hp} {s : Shared} {a : Addr} {kvs : List (Key × V)} {A : Around} {E : Value → Shared → Prop}
end
section
variable {X : Cx} {pins : List (Addr × Obj)} {σ : St} {H : Hp} {s : Shared} {a : Addr} {y : V} {u : Value} {A : Around} {E : Value → Shared → Prop}
end
end L2
namespace L2
open PySem PySem.Spec PyProof.Rows
section
variable {prog : Program} {w : World} {A : Around} {E : Value → Shared → Prop}
end
section
variable {X : Cx}
end
end L2
namespace L2
open PySem PySem.Spec PyProof.Rows
section
variable {X : Cx} {pins : List (Addr × Obj)} {σ : St} {H : Hp} {s : Shared} {h' : Heap}
theorem Inv.turnedL {t' : Nat} {ch : List Addr} (I : Inv X pins σ H s) (k : ∀ b o, b ∉ ch → s.heap.get? b = some o → h'.get? b = some o) (hf : ∀ b ∈ ch, FpOk X pins H b) : Inv X pins σ H { s with heap := h', toks := t' } := by
  have nit : ∀ b u, H b = some u → b ∉ ch := fun b u e z => by
    have q := (hf b z).1
    rw [q] at e; cases e
  refine I.step (g' := s.gens) (d' := s.drawn) (ch := ch) (fun b hb => ⟨(hf b hb).2.2.2.1, (hf b hb).2.1, (hf b hb).2.2.2.2.1, (hf b hb).2.2.2.2.2⟩) (fun b o _ _ hc e _ => k b o hc e) (fun b o _ _ hc e _ => ⟨o.slots, k b o hc e⟩)
    (fun _ _ _ _ n => n) (fun b o hc e => ⟨o, k b o hc e⟩) (fun _ _ e => e) (fun _ _ _ e => e) (fun b ps e => ⟨#[], by rw [e]; simp⟩) (fun m hm => ?_) (fun b u e => ?_) I.bare
  · obtain ⟨o, es, ep, ho, r⟩ := hm
    exact ⟨o, es, ep, k _ o (fun z => (hf _ z).2.1 rfl) ho, r⟩
  · refine (I.hok b u e).stay (fun c v hc q => k c v ?_ q) (fun _ q => q) fun _ _ q => q
    rcases hc with z | z
    · rw [z]; exact nit b u e
    · exact nit c _ z
theorem Inv.turnedNew {t' : Nat} {ch : List Addr} {T : Addr} {ob : HO} (I : Inv X pins σ H s) (k : ∀ b o, b ∉ ch → s.heap.get? b = some o → h'.get? b = some o) (hf : ∀ b ∈ ch, FpOk X pins H b) (hT : s.heap.objs.size ≤ T)
    (new : ObjOk X.prog X.w (upd H T ob) h' T ob) : Inv X pins σ (upd H T ob) { s with heap := h', toks := t' } := by
  have hn : H T = none := I.hok.fresh hT
  have nit : ∀ b u, H b = some u → b ∉ ch := fun b u e z => by
    have q := (hf b z).1
    rw [q] at e; cases e
  refine I.step (g' := s.gens) (d' := s.drawn) (ch := ch) (fun b hb => ⟨(hf b hb).2.2.2.1, (hf b hb).2.1, (hf b hb).2.2.2.2.1, (hf b hb).2.2.2.2.2⟩) (fun b o _ _ hc e _ => k b o hc e) (fun b o _ _ hc e _ => ⟨o.slots, k b o hc e⟩)
    (fun b o _ e n => ?_) (fun b o hc e => ⟨o, k b o hc e⟩) (fun b xs e => ?_) (fun b o u e => ?_) (fun b ps e => ⟨#[], ?_⟩) (fun m hm => ?_) (fun b u e => ?_) I.bare
  · rw [upd_ne (Nat.ne_of_lt (Nat.lt_of_lt_of_le (Heap.lt_size e) hT))]; exact n
  · rw [upd_ne (ne_of_none e hn)]; exact e
  · rw [upd_ne (ne_of_none e hn)]; exact e
  · rw [upd_ne (ne_of_none e hn), e]; simp
  · obtain ⟨o, es, ep, ho, r⟩ := hm
    exact ⟨o, es, ep, k _ o (fun z => (hf _ z).2.1 rfl) ho, r⟩
  · by_cases hb : b = T
    · subst hb
      rw [upd_same] at e
      cases e
      exact new
    · rw [upd_ne hb] at e
      refine (I.hok b u e).stay (fun c v hc q => k c v ?_ q) (fun c q => by rw [upd_ne (ne_of_none q hn)]; exact q) fun c xs q => by rw [upd_ne (ne_of_none q hn)]; exact q
      rcases hc with z | z
      · rw [z]; exact nit b u e
      · exact nit c _ z
end
section
variable {X : Cx}
theorem pi_one {tg : Expr} {pins : List (Addr × Obj)} {σ : St} {H : Hp} {s : Shared} {R : It → Hp → Prop} {J : It} {tn : Nat → Heap → Prop} {tk : Nat} (I : Inv X pins σ H s) (o : Obj)
    (T : Turn X.prog X.w X.K tg J [s.heap.objs.size] s.heap.objs.size tn) (st : tn 0 (s.heap.push o)) (q : R J H) : PIE X pins σ tg R (.ref s.heap.objs.size) { s with heap := s.heap.push o, toks := tk } := by
  refine ⟨s.heap.objs.size, [s.heap.objs.size], tn, J, H, rfl, I.kept fun b ob e => Heap.get?_push_of_some _ e, T, st, fun b hb => ?_, q⟩
  have e : b = s.heap.objs.size := by simpa using hb
  subst e
  exact I.fpOk (Nat.le_refl _) (I.hok.fresh (Nat.le_refl _))
end
def Itc (lo c : Int) (n : Nat) : It := ⟨fun i _ => i < n, fun i H x H' => H' = H ∧ x = .int (lo + (i : Nat) * c), fun i _ => n ≤ i⟩
theorem turn_rangeC {P : Program} {w : World} {K : PySem.W.Frag} {tg : Expr} (it : Addr) (lo c : Int) (n : Nat) : Turn P w K tg (Itc lo c n) [it] it (fun i h => IsRangeIter h it (lo + (i : Nat) * c) ((n : Int) - (i : Nat)) c) where
  mem := by simp
  obj := fun i h st b hb => by
    have e : b = it := by simpa using hb
    subst e
    exact ⟨_, st, fun v z => nomatch z⟩
  keep := fun i h h' st k => k it (by simp) _ st
  item := by
    intro X hP hw hK hc i pins s σ H E I hf st hg
    subst hP hw hK
    obtain ⟨f0, f1, f2, f3, f4, f5⟩ := hf it (by simp)
    have W := Walks.range (prog := X.prog) (w := X.w) (I.ok.hd hc) it lo c n
    refine W.item i s _ _ hg st fun v h' tk hv st' kk => ?_
    obtain ⟨t, rfl⟩ := hv
    have I1 : Inv X pins σ H { s with heap := h', toks := tk } := I.turned (fun b o hb e => kk b o (by simpa using hb) e) f0 f1 f3 f4 f5
    exact ⟨_, rfl, go_of (s := { s with heap := h', toks := tk }) (n := "range_iterator") st' rfl rfl (by decide) ⟨.int (lo + (i : Nat) * c), H, I1, ⟨t, rfl⟩, ⟨rfl, rfl⟩, st', fun b hb => (hf b hb).1⟩⟩
  done := by
    intro X hP hw hK hc i pins s σ H E I hf st hg
    subst hP hw hK
    obtain ⟨f0, f1, f2, f3, f4, f5⟩ := hf it (by simp)
    exact wpAny_pyNext_range_end (I.ok.hd hc) st (by have : n ≤ i := hg; omega) fun h' eb => ⟨rfl, I.turned (t' := s.toks) (fun b o hb e => eb b o hb e) f0 f1 f3 f4 f5⟩
  self := fun A i s Q E st h => wpAny_pyIter_rangeiter st h
def RgC (i j c : Int) (n : Nat) : Prop := c ≠ 0 ∧ c.natAbs < 1073741824 ∧ Builtin.Range.small i j c = true ∧ Builtin.Range.rangeSize i j c = n
theorem RgC.neg {i j : Int} (ha : -(2 ^ 62) ≤ i) (ha' : i < 2 ^ 62) (hb : -(2 ^ 62) ≤ j) (hb' : j < 2 ^ 62) : RgC i j (-1) (i - j).toNat :=
  ⟨by decide, by decide, PySem.W.small_down ha ha' hb hb', PySem.W.rangeSize_downNat i j⟩
def iRng3 (ta : TA) : TI := fun σ H R => ta σ H fun vs H1 => ∃ (i j c : Int) (n : Nat), vs = [.int i, .int j, .int c] ∧ RgC i j c n ∧ R (Itc i c n) H1
section
variable {X : Cx} {tg : Expr}
theorem pi_range3 {a b c : Expr} {ta : TA} {p pos : Pos} (hg : Gl X "range") (hm : X.mg "range" = none) (ha : PA X [a, b, c] ta)
    (hs : starEach [a, b, c] X.env = (false, eval a X.env) :: starEach [b, c] X.env := by rfl) (hpl : (backTo pos (starEach [b, c] X.env)).any (·.1) = false := by rfl) :
    PI X tg (.Call (.Name "range" p) [a, b, c] [] pos) (iRng3 ta) := by
  intro pins s σ H R I h
  refine Call_ (ld_blt I hg hm boot_range (PyProof.Rows.callWith_type1 (thn (ha pos pins s σ H _ I h) fun us s1 ⟨vs, H1, I1, r1, q1⟩ => ?_) hs hpl))
  obtain ⟨i, j, k, n, e, ⟨c0, c1, c2, c3⟩, q⟩ := q1
  subst e
  cases r1 with
  | cons r rr =>
    cases rr with
    | cons r' rr =>
      cases rr with
      | cons r'' rr =>
        cases rr
        obtain ⟨t, rfl⟩ := r
        obtain ⟨t', rfl⟩ := r'
        obtain ⟨t'', rfl⟩ := r''
        refine call_range_3 c0 ?_ (.inl (PyProof.noPylong_small c1))
        refine wpAny_pyIter_range (IsRange.new ..) c2 ?_
        have I2 : Inv X pins σ H1 { s1 with heap := s1.heap.push { cls := .type "range", data := .fields #[.int i t, .int j t', .int k t''] } } := I1.kept (t' := s1.toks) fun b o e => Heap.get?_push_of_some _ e
        refine pi_one (tk := s1.toks) I2 _ (turn_rangeC _ i k n) ?_ q
        have e1 : i + ((0 : Nat) : Int) * k = i := by simp
        have e2 : (n : Int) - ((0 : Nat) : Int) = Builtin.Range.rangeSize i j k := by rw [c3]; simp
        show IsRangeIter _ _ (i + ((0 : Nat) : Int) * k) ((n : Int) - ((0 : Nat) : Int)) k
        rw [e1, e2]
        exact Heap.get?_push_size _ rfl
end
section
variable {X : Cx} {tg : Expr}
end
section
variable {prog : Program} {w : World} {A : Around} {E : Value → Shared → Prop} {s : Shared}
end
section
variable {X : Cx} {pins : List (Addr × Obj)} {σ : St} {H : Hp} {s : Shared} {d : Addr} {o : Obj}
end
section
variable {P : Program} {w : World} {K : PySem.W.Frag} {tg : Expr} {d : Addr} {o : Obj} {es : Array DictEntry} {ep : Nat}
end
section
variable {X : Cx} {tg e : Expr} {td : TE} {apos cpos : Pos}
end
def Ite (K : PySem.W.Frag) (a : Addr) : It :=
  ⟨fun i H => ∃ (xs : List V) (x : V), SqL K H a xs ∧ xs[i]? = some x, fun i H v H' => ∃ T x, v = .ref T ∧ H T = none ∧ H' = upd H T (.tup [.int (i : Nat), x]) ∧ ∀ xs, SqL K H a xs → xs[i]? = some x, fun i H => ∃ xs : List V, SqL K H a xs ∧ xs.length ≤ i⟩
theorem turn_enum {P : Program} {w : World} {K : PySem.W.Frag} {elts : List Expr} {kk : Nat} {tpos : Pos} (a e it : Addr) :
    Turn P w K (.Tuple elts kk tpos) (Ite K a) [e, it] e (fun i h => (∃ old, IsEnum h e it ((i : Nat) : Int) old) ∧ h.IsListIter it a i ∧ e ≠ it) where
  mem := by simp
  obj := fun i h st b hb => by
    obtain ⟨⟨old, he⟩, ⟨o, ho, hc, hd⟩, _⟩ := st
    have e' : b = e ∨ b = it := by simpa using hb
    rcases e' with z | z
    · rw [z]; exact ⟨_, he, fun v q => nomatch q⟩
    · rw [z]; exact ⟨o, ho, fun v q => by rw [hd] at q; cases q⟩
  keep := fun i h h' st k => let ⟨⟨old, he⟩, hi, hne⟩ := st; ⟨⟨old, k e (by simp) _ he⟩, hi.at fun o q => k it (by simp) o q, hne⟩
  item := by
    intro X hP hw hK hc i pins s σ H E I hf st hg
    subst hP hw hK
    obtain ⟨⟨old, he⟩, hit, hne⟩ := st
    obtain ⟨xs, x, hq, hx⟩ := hg
    obtain ⟨its, rv, p, hz⟩ := I.list hq
    obtain ⟨u, hu, ru⟩ := rv.get hx
    have hel : e < s.heap.objs.size := Heap.lt_size he
    have hil : it < s.heap.objs.size := by obtain ⟨_, q, _⟩ := hit; exact Heap.lt_size q
    refine wpAny_pyNext_enum_item he hit p.isList (x := u) (by simpa using hu) hne fun h' ho hit' hT hsz hk => ?_
    refine ⟨_, rfl, wpAny_letOwnedTupleGo_enum (s := { s with heap := h', toks := s.toks + 1 }) ho fun h'' he' sb => ?_⟩
    have hT2 : h''.get? s.heap.objs.size = some { cls := .type "tuple", data := .seq #[.int i s.toks, u] } := (sb.2 _ (Nat.ne_of_gt hel)).trans hT
    have new : ObjOk X.prog X.w (upd H s.heap.objs.size (.tup [.int (i : Nat), x])) h'' s.heap.objs.size (.tup [.int (i : Nat), x]) :=
      ⟨by show 2 ≤ sizeLine; decide, [.int i s.toks, u], .cons ⟨_, rfl⟩ (.cons ru .nil), ⟨_, hT2, rfl, _, rfl⟩⟩
    have I1 : Inv X pins σ (upd H s.heap.objs.size (.tup [.int (i : Nat), x])) { s with heap := h'', toks := s.toks + 1 } :=
      I.turnedNew (ch := [e, it]) (fun b ob hb q => (sb.2 b (fun z => hb (by simp [z]))).trans (hk b ob (fun z => hb (by simp [z])) (fun z => hb (by simp [z])) q)) hf (Nat.le_refl _) new
    refine ⟨.ref s.heap.objs.size, _, I1, rfl, ⟨_, x, rfl, I.hok.fresh (Nat.le_refl _), rfl, fun ys hy => by rw [I.list_inj hy hq]; exact hx⟩, ⟨⟨u, ?_⟩, hit'.at fun o q => (sb.2 it (Ne.symm hne)).trans q, hne⟩, fun b hb => ?_⟩
    · have e1 : ((i + 1 : Nat) : Int) = (i : Int) + 1 := by omega
      rw [e1]; exact he'
    · have hb' : b < s.heap.objs.size := by
        have e' : b = e ∨ b = it := by simpa using hb
        rcases e' with z | z
        · rw [z]; exact hel
        · rw [z]; exact hil
      rw [upd_ne (Nat.ne_of_lt hb')]
      exact (hf b hb).1
  done := by
    intro X hP hw hK hc i pins s σ H E I hf st hg
    subst hP hw hK
    obtain ⟨⟨old, he⟩, hit, hne⟩ := st
    obtain ⟨xs, hq, hx⟩ := hg
    obtain ⟨its, rv, p, hz⟩ := I.list hq
    obtain ⟨f0, f1, f2, f3, f4, f5⟩ := hf it (by simp)
    have hl := rv.length
    exact wpAny_pyNext_enum_end (I.ok.hd hc) he hit p.isList (by simp; omega) fun h' eb => ⟨rfl, I.turned (t' := s.toks) (fun b o hb q => eb b o hb q) f0 f1 f3 f4 f5⟩
  self := fun A i s Q E st h => let ⟨⟨_, he⟩, _⟩ := st; wpAny_pyIter_enum he h
def iEnum (K : PySem.W.Frag) (ta : TA) : TI := fun σ H R => ta σ H fun vs H1 => ∃ a xs, vs = [.ref a] ∧ SqL K H1 a xs ∧ R (Ite K a) H1
theorem pi_enum {X : Cx} {e : Expr} {ta : TA} {p pos tpos : Pos} {elts : List Expr} {kk : Nat} (hg : Gl X "enumerate") (hm : X.mg "enumerate" = none) (ha : PA X [e] ta) (hs : starEach [e] X.env = [(false, eval e X.env)] := by rfl) :
    PI X (.Tuple elts kk tpos) (.Call (.Name "enumerate" p) [e] [] pos) (iEnum X.K ta) := by
  intro pins s σ H R I h
  refine Call_ (ld_blt I hg hm boot_enumerate (PyProof.Rows.callWith_type1 (thn (ha pos pins s σ H _ I h) fun us s1 ⟨vs, H1, I1, r1, q1⟩ => ?_) hs rfl))
  obtain ⟨a, xs, ex, hq, q⟩ := q1
  subst ex
  cases r1 with
  | cons r rr =>
    cases rr
    cases r
    obtain ⟨its, rv, p', hz⟩ := I1.list hq
    refine call_enumerate_list p'.isList fun h' he hit hsz hk => wpAny_pyIter_enum he ?_
    have I2 : Inv X pins σ H1 { s1 with heap := h' } := I1.kept (t' := s1.toks) hk
    refine ⟨s1.heap.objs.size + 1, [s1.heap.objs.size + 1, s1.heap.objs.size], _, _, H1, rfl, I2, turn_enum a (s1.heap.objs.size + 1) s1.heap.objs.size, ⟨⟨.none, he⟩, hit, Nat.succ_ne_self _⟩, fun b hb => ?_, q⟩
    have e' : b = s1.heap.objs.size + 1 ∨ b = s1.heap.objs.size := by simpa using hb
    have hle : s1.heap.objs.size ≤ b := by
      rcases e' with z | z
      · rw [z]; exact Nat.le_add_right _ _
      · rw [z]; exact Nat.le_refl _
    exact I1.fpOk hle (I1.hok.fresh hle)
theorem boot_zip5 : bootBuiltins "zip" = some (.type "zip") := by decide +kernel
def Itz (K : PySem.W.Frag) (a b : Addr) : It :=
  ⟨fun i H => ∃ (xs ys : List V) (x y : V), SqL K H a xs ∧ SqL K H b ys ∧ xs[i]? = some x ∧ ys[i]? = some y,
    fun i H v H' => ∃ T x y, v = .ref T ∧ H T = none ∧ H' = upd H T (.tup [x, y]) ∧ (∀ xs, SqL K H a xs → xs[i]? = some x) ∧ ∀ ys, SqL K H b ys → ys[i]? = some y,
    fun i H => ∃ xs ys : List V, SqL K H a xs ∧ SqL K H b ys ∧ (xs.length ≤ i ∨ ys.length ≤ i)⟩
theorem turn_zip {P : Program} {w : World} {K : PySem.W.Frag} {elts : List Expr} {kk : Nat} {tpos : Pos} {a b z TI TO i1 i2 : Addr} (D : ZipApart z TI TO i1 i2 a b) :
    Turn P w K (.Tuple elts kk tpos) (Itz K a b) [z, TI, TO, i1, i2] z (fun i h => IsZip h z TI TO .none ∧ IsPair h TI (.ref i1) (.ref i2) ∧ (∃ x y, IsPair h TO x y) ∧ h.IsListIter i1 a i ∧ h.IsListIter i2 b i) where
  mem := by simp
  obj := fun i h st c hc => by
    obtain ⟨hz, hTI, ⟨x, y, hTO⟩, ⟨o1, e1, _, d1⟩, ⟨o2, e2, _, d2⟩⟩ := st
    have e' : c = z ∨ c = TI ∨ c = TO ∨ c = i1 ∨ c = i2 := by simpa using hc
    rcases e' with q | q | q | q | q
    · rw [q]; exact ⟨_, hz, fun v q => nomatch q⟩
    · rw [q]; exact ⟨_, hTI, fun v q => nomatch q⟩
    · rw [q]; exact ⟨_, hTO, fun v q => nomatch q⟩
    · rw [q]; exact ⟨o1, e1, fun v q => by rw [d1] at q; cases q⟩
    · rw [q]; exact ⟨o2, e2, fun v q => by rw [d2] at q; cases q⟩
  keep := fun i h h' st k => by
    obtain ⟨hz, hTI, ⟨x, y, hTO⟩, h1, h2⟩ := st
    exact ⟨k z (by simp) _ hz, k TI (by simp) _ hTI, ⟨x, y, k TO (by simp) _ hTO⟩, h1.at fun o q => k i1 (by simp) o q, h2.at fun o q => k i2 (by simp) o q⟩
  item := by
    intro X hP hw hK hc i pins s σ H E I hf st hg
    subst hP hw hK
    obtain ⟨hz, hTI, ⟨x0, y0, hTO⟩, h1, h2⟩ := st
    obtain ⟨xs, ys, x, y, hqx, hqy, hx, hy⟩ := hg
    obtain ⟨its, rv, p, _⟩ := I.list hqx
    obtain ⟨its2, rv2, p2, _⟩ := I.list hqy
    obtain ⟨u, hu, ru⟩ := rv.get hx
    obtain ⟨u2, hu2, ru2⟩ := rv2.get hy
    have hzl : z < s.heap.objs.size := Heap.lt_size hz
    refine wpAny_pyNext_zip_item D hz hTI hTO h1 h2 p.isList p2.isList (x := u) (y := u2) (by simpa using hu) (by simpa using hu2) fun h' z' TO' h1' h2' hT hsz hk => ?_
    refine ⟨_, rfl, wpAny_letOwnedTupleGo_zip (s := { s with heap := h' }) z' fun h'' z'' sb => ?_⟩
    have hT2 : h''.get? s.heap.objs.size = some { cls := .type "tuple", data := .seq #[u, u2] } := (sb.2 _ (Nat.ne_of_gt hzl)).trans hT
    have new : ObjOk X.prog X.w (upd H s.heap.objs.size (.tup [x, y])) h'' s.heap.objs.size (.tup [x, y]) :=
      ⟨by show 2 ≤ sizeLine; decide, [u, u2], .cons ru (.cons ru2 .nil), ⟨_, hT2, rfl, _, rfl⟩⟩
    have I1 : Inv X pins σ (upd H s.heap.objs.size (.tup [x, y])) { s with heap := h'' } :=
      I.turnedNew (t' := s.toks) (ch := [z, TI, TO, i1, i2]) (fun c o hb q => (sb.2 c (fun q' => hb (by simp [q']))).trans (hk c o (fun q' => hb (by simp [q'])) (fun q' => hb (by simp [q'])) (fun q' => hb (by simp [q'])) (fun q' => hb (by simp [q'])) q)) hf (Nat.le_refl _) new
    refine ⟨.ref s.heap.objs.size, _, I1, rfl, ⟨_, x, y, rfl, I.hok.fresh (Nat.le_refl _), rfl, fun l hl => by rw [I.list_inj hl hqx]; exact hx, fun l hl => by rw [I.list_inj hl hqy]; exact hy⟩, ⟨z'', ?_, ⟨u, u2, ?_⟩, ?_, ?_⟩, fun c hcm => ?_⟩
    · exact (sb.2 _ D.TIz).trans (hk _ _ D.TIz D.TITO D.TIi1 D.TIi2 hTI)
    · exact (sb.2 _ D.TOz).trans TO'
    · exact h1'.at fun o q => (sb.2 _ D.i1z).trans q
    · exact h2'.at fun o q => (sb.2 _ D.i2z).trans q
    · have hlt : c < s.heap.objs.size := by
        have e' : c = z ∨ c = TI ∨ c = TO ∨ c = i1 ∨ c = i2 := by simpa using hcm
        rcases e' with q | q | q | q | q
        · rw [q]; exact hzl
        · rw [q]; exact Heap.lt_size hTI
        · rw [q]; exact Heap.lt_size hTO
        · rw [q]; obtain ⟨_, e1, _⟩ := h1; exact Heap.lt_size e1
        · rw [q]; obtain ⟨_, e2, _⟩ := h2; exact Heap.lt_size e2
      rw [upd_ne (Nat.ne_of_lt hlt)]
      exact (hf c hcm).1
  done := by
    intro X hP hw hK hc i pins s σ H E I hf st hg
    subst hP hw hK
    obtain ⟨hz, hTI, ⟨x0, y0, hTO⟩, h1, h2⟩ := st
    obtain ⟨xs, ys, hqx, hqy, hend⟩ := hg
    obtain ⟨its, rv, p, _⟩ := I.list hqx
    obtain ⟨its2, rv2, p2, _⟩ := I.list hqy
    have l1 := rv.length
    have l2 := rv2.length
    have he : its.toArray[i]? = none ∨ its2.toArray[i]? = none := by
      rcases hend with q | q
      · exact .inl (by simp; omega)
      · exact .inr (by simp; omega)
    exact wpAny_pyNext_zip_end (I.ok.hd hc) D hz hTI hTO h1 h2 p.isList p2.isList he fun h' hk => ⟨rfl, I.turnedL (t' := s.toks) (ch := [z, TI, TO, i1, i2]) (fun c o hb q =>
      hk c o (fun q' => hb (by simp [q'])) (fun q' => hb (by simp [q'])) (fun q' => hb (by simp [q'])) (fun q' => hb (by simp [q'])) q) hf⟩
  self := fun A i s Q E st h => wpAny_pyIter_zip st.1 h
def iZip (K : PySem.W.Frag) (ta : TA) : TI := fun σ H R => ta σ H fun vs H1 => ∃ a b xs ys, vs = [.ref a, .ref b] ∧ SqL K H1 a xs ∧ SqL K H1 b ys ∧ R (Itz K a b) H1
theorem pi_zip {X : Cx} {e e2 : Expr} {ta : TA} {p pos tpos : Pos} {elts : List Expr} {kk : Nat} (hg : Gl X "zip") (hm : X.mg "zip" = none) (ha : PA X [e, e2] ta)
    (hs : starEach [e, e2] X.env = (false, eval e X.env) :: starEach [e2] X.env := by rfl) (hpl : (backTo pos (starEach [e2] X.env)).any (·.1) = false := by rfl) :
    PI X (.Tuple elts kk tpos) (.Call (.Name "zip" p) [e, e2] [] pos) (iZip X.K ta) := by
  intro pins s σ H R I h
  refine Call_ (ld_blt I hg hm boot_zip5 (PyProof.Rows.callWith_type1 (thn (ha pos pins s σ H _ I h) fun us s1 ⟨vs, H1, I1, r1, q1⟩ => ?_) hs hpl))
  obtain ⟨a, b, xs, ys, ex, hqx, hqy, q⟩ := q1
  subst ex
  cases r1 with
  | cons r rr =>
    cases rr with
    | cons r' rr =>
      cases rr
      cases r
      cases r'
      obtain ⟨its, rv, p1, _⟩ := I1.list hqx
      obtain ⟨its2, rv2, p2, _⟩ := I1.list hqy
      have la : a < s1.heap.objs.size := p1.lt
      have lb : b < s1.heap.objs.size := p2.lt
      refine call_zip_2 p1.isList p2.isList fun h' hz hTI hTO h1 h2 hsz hk => wpAny_pyIter_zip hz ?_
      have I2 : Inv X pins σ H1 { s1 with heap := h' } := I1.kept (t' := s1.toks) hk
      refine ⟨s1.heap.objs.size + 4, [s1.heap.objs.size + 4, s1.heap.objs.size + 2, s1.heap.objs.size + 3, s1.heap.objs.size, s1.heap.objs.size + 1], _, _, H1, rfl, I2, turn_zip (PySem.W.ktu_apart s1.heap.objs.size a b la lb), ⟨hz, hTI, ⟨_, _, hTO⟩, h1, h2⟩, fun c hcm => ?_, q⟩
      have e' : c = s1.heap.objs.size + 4 ∨ c = s1.heap.objs.size + 2 ∨ c = s1.heap.objs.size + 3 ∨ c = s1.heap.objs.size ∨ c = s1.heap.objs.size + 1 := by simpa using hcm
      have hle : s1.heap.objs.size ≤ c := by
        rcases e' with z | z | z | z | z
        · rw [z]; exact Nat.le_add_right _ _
        · rw [z]; exact Nat.le_add_right _ _
        · rw [z]; exact Nat.le_add_right _ _
        · rw [z]; exact Nat.le_refl _
        · rw [z]; exact Nat.le_add_right _ _
      exact I1.fpOk hle (I1.hok.fresh hle)
end L2
section 
namespace Bits
open PySem PyProof.Rows
end Bits
end 
section 
namespace TL
open PySem PySem.Builtin PySem.Builtin.Str PySem.StrLaws
abbrev tl (x : Str) : List Nat := x.cps.toList
def pre (S l : List Nat) : Bool := l.take S.length == S
def par (S : List Nat) : List Nat → List Nat → Option (List Nat × List Nat)
  | _, [] => none
  | acc, c :: r => if pre S (c :: r) = true then some (acc, (c :: r).drop S.length) else par S (acc ++ [c]) r
end TL
end 
namespace L2
open PySem PySem.Spec PyProof.Rows
section
variable {X : Cx} {pins : List (Addr × Obj)} {σ : St} {H : Hp} {s : Shared} {Q : VK}
end
section
variable {X : Cx}
end
section
variable {X : Cx} {o e : Expr} {to te : TE}
end
end L2
namespace L2
open PySem PySem.Spec PyProof.Rows
section
variable {X : Cx}
end
end L2
namespace Att
open PySem PySem.W PySem.Calls PyProof.Rows
section
variable {prog : Program} {w : World} {A : Around} {E : Value → Shared → Prop} {s : Shared} {K : Frag}
end
end Att
namespace L2
open PySem PySem.Spec PyProof.Rows
end L2
namespace L2
open PySem PySem.Spec PyProof.Rows
end L2
namespace L2
open PySem PySem.Spec PyProof.Rows
def inClass (s : Stmt) (j : Nat) : Stmt := match s with
  | .ClassDef _ _ _ body _ _ _ _ _ _ _ => body.getD j (.Pass ⟨0, 0, 0, 0⟩)
  | _ => .Pass ⟨0, 0, 0, 0⟩
def defArgs (s : Stmt) : Arguments := match s with
  | .FunctionDef _ a _ _ _ _ _ _ _ _ => a
  | _ => { posonlyargs := [], args := [], vararg := none, kwonlyargs := [], kw_defaults := [], kwarg := none, defaults := [] }
def defBody (s : Stmt) : List Stmt := match s with
  | .FunctionDef _ _ b _ _ _ _ _ _ _ => b
  | _ => []
def defScope (s : Stmt) : Scope := match s with
  | .FunctionDef _ _ _ _ _ _ sc _ _ _ => sc
  | _ => { kind := .function, names := [], isGenerator := false, isCoroutine := false }
abbrev CX0 : CXT := fun _ _ _ _ _ _ => False
abbrev E0 : XK := fun _ _ _ => False
theorem pass0 {X : Cx} : Passes CX0 X E0 := fun _ _ _ _ _ _ _ h => h.elim
structure Fun (K : PySem.W.Frag) (x qual : Str) (st : Stmt) (f : Addr) (fd : FuncData) : Prop where
  ex : ∃ (oc : Value) (od : Option Addr) (kV doc pm : Value) (an : Option Addr) (cdv ct : Value) (osl : Array (Option Value)),
    fd = PySem.W.fnOf x qual (defArgs st) (defBody st) (defScope st) .none kV doc pm an cdv ct ∧ K.lookup f = some ⟨oc, od, .func fd, osl⟩ ∧ PySem.W.codeIn K cdv qual = true
  kp : PySem.W.keepIn K (.ref f) = true
section
variable {P : Program} {w : World} {K : PySem.W.Frag} {mg : Str → Option Value} {base : Heap}
theorem Fun.ok {x qual : Str} {st : Stmt} {f : Addr} {fd : FuncData} {N ps : List Str} {k : Nat} {sp : Sp} (F : Fun K x qual st f fd) (S : FnScope N ps (defScope st)) (len : ∀ vs H Q E, sp vs H Q E → vs.length = ps.length)
    (hbody : ∀ (cdv : Value) (A : Around) (outer : List Env) (s : Shared) (H : Hp) (vs : List V) (Q : VK) (E : XK), Room k (A.deeper (envOfC qual (defScope st) s.heap.objs.size f cdv)) → sp vs H Q E →
      ∃ t, PSs (cxOf CX0 P w K mg base N qual (defScope st) f cdv A outer s H E).nox (defBody st) t ∧ t { nx := fun _ H' => Q .non H', rt := Q } (start N vs) H) : FnOk P w K mg base CX0 (k + 1) f fd ps sp := by
  obtain ⟨oc, od, kV, doc, pm, an, cdv, ct, osl, rfl, lk, hcd⟩ := F.ex
  refine fn_of lk hcd S len fun A outer s H vs Q E hr hsp => ?_
  obtain ⟨t, h, q⟩ := hbody cdv A outer s H vs Q E hr hsp
  exact ⟨t, h.nox, q⟩
theorem Fun.binds {x qual : Str} {st : Stmt} {f : Addr} {fd : FuncData} {ps : List Str} (F : Fun K x qual st f fd)
    (h : ∀ (kV doc pm : Value) (an : Option Addr) (cdv ct : Value) (us : List Value), us.length = ps.length → bindArgs (PySem.W.fnOf x qual (defArgs st) (defBody st) (defScope st) .none kV doc pm an cdv ct) ⟨us, []⟩ = pure (ps.zip us)) : Binds K fd ps [] := by
  obtain ⟨oc, od, kV, doc, pm, an, cdv, ct, osl, rfl, lk, hcd⟩ := F.ex
  exact .all (h kV doc pm an cdv ct)
theorem fun_mk {x qual : Str} {st : Stmt} {f : Addr} {oc : Value} {od an : Option Addr} {osl : Array (Option Value)} {kV doc pm cdv ct : Value} (l : K.lookup f = some ⟨oc, od, .func (PySem.W.fnOf x qual (defArgs st) (defBody st) (defScope st) .none kV doc pm an cdv ct), osl⟩)
    (c : PySem.W.codeIn K cdv qual = true) (k : PySem.W.keepIn K (.ref f) = true) : Fun K x qual st f (PySem.W.fnOf x qual (defArgs st) (defBody st) (defScope st) .none kV doc pm an cdv ct) := ⟨⟨oc, od, kV, doc, pm, an, cdv, ct, osl, rfl, l, c⟩, k⟩
end
theorem hu_of {A : Around} {k : Nat} (hr : Room k A) : A.units + 1 < cLine := Nat.lt_of_le_of_lt (Nat.add_le_add_left (by decide : 1 ≤ 64) _) hr.units
section
variable {X : Cx}
theorem pv (i : Nat) {x : Str} {pos : Pos} (hN : X.N[i]? = some x := by rfl) (hv : Vis X.env.scope x := by first | exact Or.inl rfl | exact Or.inr (Or.inl rfl) | exact Or.inr (Or.inr rfl)) (hd : (x == ("__debug__" : Str)) = false := by decide)
    (hcd : (x == ("__classdict__" : Str)) = false := by decide) : PE X (.Name x pos) (tVar i) := pe_var hN hv hd hcd
theorem call_lenD : CallR X (.builtin "len") (fun xs H Q => ∃ a kvs, xs = [V.ref a] ∧ H a = some (.dK kvs) ∧ Q (.int kvs.length) H) := by
  intro pins s σ H xs us Q I r h
  obtain ⟨a, kvs, rfl, ha, q⟩ := h
  obtain ⟨u, rfl, ru⟩ := vals1 r
  cases ru
  exact d_len I (.inl ha) fun t s' I' => ⟨.int kvs.length, H, I', ⟨t, rfl⟩, q⟩
end
theorem iteF {A B : Prop} (h : B) : if false = true then A else B := by
  rw [if_neg Bool.false_ne_true]
  exact h
theorem iteT {A B : Prop} (h : A) : if true = true then A else B := by
  rw [if_pos rfl]
  exact h
theorem ite2 {c A B : Prop} [Decidable c] (h1 : c → A) (h2 : ¬ c → B) : if c then A else B := by
  by_cases h : c
  · rw [if_pos h]
    exact h1 h
  · rw [if_neg h]
    exact h2 h
def Same (H H' : Hp) : Prop := ∀ b o, H b = some o → H' b = some o
theorem Same.refl (H : Hp) : Same H H := fun _ _ h => h
theorem Same.trans {H H1 H2 : Hp} (a : Same H H1) (b : Same H1 H2) : Same H H2 := fun c o h => b c o (a c o h)
theorem Same.free {H H' : Hp} (e : Same H H') {l : Addr} (h : H' l = Option.none) : H l = Option.none := by
  cases q : H l with
  | none => rfl
  | some o =>
    rw [e l o q] at h
    cases h
theorem Same.seq {K : PySem.W.Frag} {H H' : Hp} {a : Addr} {xs : List V} (e : Same H H') (h : SqL K H a xs) : SqL K H' a xs := by
  rcases h with (h | ⟨o, h⟩) | h
  · exact .inl (.inl (e _ _ h))
  · exact .inl (.inr ⟨o, e _ _ h⟩)
  · exact .inr h
section
variable {κ : Type} [DecidableEq κ]
end
theorem Same.made {H H1 : Hp} {x dx C : Addr} (nx : H x = Option.none) (nd : H dx = Option.none) (k : ∀ b o, (upd (upd H dx (.own x)) x (.ins C dx [])) b = some o → b ≠ x → H1 b = some o) : Same H H1 := fun b o e =>
  k b o (by rw [upd_ne (ne_of_none e nx), upd_ne (ne_of_none e nd)]; exact e) (ne_of_none e nx)
end L2
section
set_option Elab.async false
set_option linter.all false
set_option maxRecDepth 100000
set_option maxHeartbeats 2000000
namespace L2
open PySem PySem.Spec PyProof.Rows
open PySem.W (WData Codec OpenSpec Well WellAll ReadsW ReadsAllW)
mutual
/-- x stands for the datum d, lists and tuples all the way -/
inductive Dw (K : PySem.W.Frag) (H : Hp) : V → WData → Prop
  | non : Dw K H .non .none
  | bl (b : Bool) : Dw K H (.bl b) (.bool b)
  | int (i : Int) : Dw K H (.int i) (.int i)
  | str (x : Str) : Dw K H (.str x) (.str x)
  | byt (b : Array UInt8) : Dw K H (.byt b) (.bytes b.toList)
  | lst {a : Addr} {xs : List V} {ds : List WData} : SqL K H a xs → DwAll K H xs ds → Dw K H (.ref a) (.list ds)
  | tup {a : Addr} {xs : List V} {ds : List WData} : SqT K H a xs → DwAll K H xs ds → Dw K H (.ref a) (.tuple ds)
inductive DwAll (K : PySem.W.Frag) (H : Hp) : List V → List WData → Prop
  | nil : DwAll K H [] []
  | cons {v : V} {vs : List V} {d : WData} {ds : List WData} : Dw K H v d → DwAll K H vs ds → DwAll K H (v :: vs) (d :: ds)
end
theorem dw_ints {K : PySem.W.Frag} {H : Hp} : ∀ ns : List Int, DwAll K H (ns.map V.int) (ns.map WData.int)
  | [] => .nil
  | n :: r => .cons (.int n) (dw_ints r)
theorem ints_dw {K : PySem.W.Frag} {H : Hp} : ∀ (ns : List Int) (xs : List V), DwAll K H xs (ns.map WData.int) → xs = ns.map V.int
  | [], xs, h => by
    cases h
    rfl
  | n :: r, xs, h => by
    cases h with
    | cons h1 h2 =>
      cases h1
      rw [ints_dw r _ h2] <;> rfl
section
variable {P : Program} {w : World} {K : PySem.W.Frag} {H : Hp} {h : Heap} {R : PySem.W.WRecords} {cl : Str → Option Addr}
theorem sqL_at {a : Addr} {xs : List V} (hok : HOk P w H h) (KX : K.In h) (q : SqL K H a xs) : ∃ (its : List Value) (o : Obj) (n : Nat), Vals xs its ∧ h.get? a = some o ∧ o.cls = .type "list" ∧ o.data = .seq its.toArray n := by
  rcases q with q | ⟨o, its, n, e, hc, _, hd, _, hv⟩
  · obtain ⟨_, its, n, hv, e⟩ := (show ObjOk P w H h a (.lst xs) from q.ok hok)
    exact ⟨its, _, n, hv, e, rfl, rfl⟩
  · exact ⟨its.toList, o, n, hv, KX _ _ e, hc, by simp [hd]⟩
theorem sqT_at {a : Addr} {xs : List V} (hok : HOk P w H h) (KX : K.In h) (q : SqT K H a xs) : ∃ (its : List Value) (o : Obj) (n : Nat), Vals xs its ∧ h.get? a = some o ∧ o.cls = .type "tuple" ∧ o.data = .seq its.toArray n := by
  rcases q with q | ⟨o, its, n, e, hc, hd, _, hv⟩
  · obtain ⟨_, its, hv, o, e, hc, n, hd⟩ := (show ObjOk P w H h a (.tup xs) from q.ok hok)
    exact ⟨its, o, n, hv, e, hc, hd⟩
  · exact ⟨its.toList, o, n, hv, KX _ _ e, hc, by simp [hd]⟩
mutual
theorem Dw.reads (hok : HOk P w H h) (KX : K.In h) : ∀ (d : WData) (v : V) (u : Value), Dw K H v d → RelV v u → ∃ as, ReadsW R cl h u d as
  | .none, _, _, x, r => by
    cases x
    cases r
    exact ⟨_, ReadsW.none⟩
  | .bool b, _, _, x, r => by
    cases x
    cases r
    exact ⟨_, ReadsW.bool b⟩
  | .int i, _, _, x, r => by
    cases x
    obtain ⟨t, rfl⟩ := r
    exact ⟨_, ReadsW.int i t⟩
  | .str s, _, _, x, r => by
    cases x
    obtain ⟨t, rfl⟩ := r
    exact ⟨_, ReadsW.str s t⟩
  | .bytes b, _, _, x, r => by
    cases x
    obtain ⟨t, rfl⟩ := r
    exact ⟨_, ReadsW.bytes _ t⟩
  | .list ds, _, _, x, r => by
    cases x with
    | lst hs ha =>
      cases r
      obtain ⟨its, o, n, rv, ho, hc, hd⟩ := sqL_at hok KX hs
      obtain ⟨as, hr⟩ := Dw.readsAll hok KX ds _ its ha rv
      exact ⟨_, ReadsW.list ho hc hd hr⟩
  | .tuple ds, _, _, x, r => by
    cases x with
    | tup hs ha =>
      cases r
      obtain ⟨its, o, n, rv, ho, hc, hd⟩ := sqT_at hok KX hs
      obtain ⟨as, hr⟩ := Dw.readsAll hok KX ds _ its ha rv
      exact ⟨_, ReadsW.tuple ho hc hd hr⟩
  | .float _, _, _, x, _ => by cases x
  | .dict _, _, _, x, _ => by cases x
  | .bytearray _, _, _, x, _ => by cases x
  | .set _, _, _, x, _ => by cases x
  | .frozenset _, _, _, x, _ => by cases x
  | .obj _ _, _, _, x, _ => by cases x
theorem Dw.readsAll (hok : HOk P w H h) (KX : K.In h) : ∀ (ds : List WData) (vs : List V) (us : List Value), DwAll K H vs ds → Vals vs us → ∃ as, ReadsAllW R cl h us ds as
  | [], _, _, x, r => by
    cases x
    cases r
    exact ⟨_, ReadsAllW.nil⟩
  | d :: ds, _, _, x, r => by
    cases x with
    | cons h1 h2 =>
      cases r with
      | cons r1 r2 =>
        obtain ⟨as, q1⟩ := Dw.reads hok KX d _ _ h1 r1
        obtain ⟨bs, q2⟩ := Dw.readsAll hok KX ds _ _ h2 r2
        exact ⟨_, ReadsAllW.cons q1 q2⟩
end
end
mutual
/-- data that a codec tells -/
def plW : WData → Bool
  | .none => true
  | .bool _ => true
  | .int _ => true
  | .str _ => true
  | .bytes _ => true
  | .list xs => plWs xs
  | .tuple xs => plWs xs
  | _ => false
def plWs : List WData → Bool
  | [] => true
  | x :: r => plW x && plWs r
end
theorem plWs_map {α : Type} {f : α → WData} (h : ∀ a, plW (f a) = true) : ∀ l : List α, plWs (l.map f) = true
  | [] => rfl
  | x :: r => by
    show (plW (f x) && plWs (r.map f)) = true
    rw [h x, plWs_map h r] <;> rfl
theorem pl_enc : ∀ (c : Codec) (a : c.denote), plW (c.enc a) = true
  | .unit, _ => rfl
  | .bool, _ => rfl
  | .int _ _, _ => rfl
  | .nat _ _, _ => rfl
  | .u8, _ => rfl
  | .bytes _ _, _ => rfl
  | .text _ _ _ _, _ => rfl
  | .list _ _ c, a => plWs_map (fun x => pl_enc c x) a
  | .pair c d, a => by
    show (plW (c.enc a.1) && (plW (d.enc a.2) && true)) = true
    rw [pl_enc c a.1, pl_enc d a.2] <;> rfl
  | .triple c d e, a => by
    show (plW (c.enc a.1) && (plW (d.enc a.2.1) && (plW (e.enc a.2.2) && true))) = true
    rw [pl_enc c a.1, pl_enc d a.2.1, pl_enc e a.2.2] <;> rfl
  | .option c, none => rfl
  | .option c, some x => pl_enc c x
theorem pl_encAll : ∀ (cs : List Codec) (a : Codec.denoteAll cs), plWs (Codec.encAll cs a) = true
  | [], _ => rfl
  | c :: cs, a => by
    show (plW (c.enc a.1) && plWs (Codec.encAll cs a.2)) = true
    rw [pl_enc c a.1, pl_encAll cs a.2] <;> rfl
theorem weight_mem : ∀ {xs : List WData} {d : WData}, d ∈ xs → d.weight ≤ WData.weightAll xs
  | [], d, h => absurd h (by simp)
  | x :: r, d, h => by
    show d.weight ≤ x.weight + 1 + WData.weightAll r
    rcases List.mem_cons.mp h with e | m
    · rw [e]
      omega
    · have z := weight_mem m
      omega
def toV : Value → V
  | .none => .non
  | .bool b => .bl b
  | .int i _ => .int i
  | .str x _ => .str x
  | .bytes b _ => .byt b
  | .ref a => .ref a
  | _ => .non
def OkU (A : List Addr) : Value → Prop
  | .none => True
  | .bool _ => True
  | .int _ _ => True
  | .str _ _ => True
  | .bytes _ _ => True
  | .ref a => a ∈ A
  | _ => False
theorem OkU.mono {A B : List Addr} (h : ∀ a ∈ A, a ∈ B) : ∀ {u : Value}, OkU A u → OkU B u := fun {u} x => by
  cases u with
  | ref a => exact h a x
  | none => trivial
  | bool b => trivial
  | int i t => trivial
  | str s t => trivial
  | bytes b t => trivial
  | _ => exact False.elim x
theorem relV_toV {A : List Addr} {u : Value} (x : OkU A u) : RelV (toV u) u := by
  cases u with
  | ref a => rfl
  | none => rfl
  | bool b => rfl
  | int i t => exact ⟨t, rfl⟩
  | str s t => exact ⟨t, rfl⟩
  | bytes b t => exact ⟨t, rfl⟩
  | _ => exact False.elim x
theorem vals_toV {A : List Addr} : ∀ {vs : List Value}, (∀ u ∈ vs, OkU A u) → Vals (vs.map toV) vs
  | [], _ => .nil
  | u :: r, h => .cons (relV_toV (h u (List.mem_cons_self ..))) (vals_toV fun x hx => h x (List.mem_cons_of_mem _ hx))
def ArgOb (h : Heap) (A : List Addr) (a : Addr) : Prop := ∃ vs : List Value, vs.length ≤ sizeLine ∧ (∀ u ∈ vs, OkU A u) ∧
  (h.get? a = some { cls := .type "list", data := .seq vs.toArray } ∨ h.get? a = some { cls := .type "tuple", data := .seq vs.toArray })
theorem ArgOb.mono {h : Heap} {A B : List Addr} {a : Addr} (k : ∀ a ∈ A, a ∈ B) (x : ArgOb h A a) : ArgOb h B a := by
  obtain ⟨vs, h1, h2, h3⟩ := x
  exact ⟨vs, h1, fun u hu => (h2 u hu).mono k, h3⟩
theorem wellAll_len {P : Params} {h : Heap} : ∀ {vs : List Value} {ds : List WData}, WellAll P h vs ds → vs.length = ds.length
  | _, _, .nil => rfl
  | _, _, .cons _ b => by
    show _ + 1 = _ + 1
    rw [wellAll_len b]
theorem well_list {P : Params} {h : Heap} {v : Value} {ds : List WData} (x : Well P h v (.list ds)) : ∃ (a : Addr) (vs : List Value), v = .ref a ∧ h.get? a = some { cls := .type "list", data := .seq vs.toArray } ∧ WellAll P h vs ds := by
  cases x with
  | list ho hall => exact ⟨_, _, rfl, ho, hall⟩
theorem well_tuple {P : Params} {h : Heap} {v : Value} {ds : List WData} (x : Well P h v (.tuple ds)) : ∃ (a : Addr) (vs : List Value), v = .ref a ∧ h.get? a = some { cls := .type "tuple", data := .seq vs.toArray } ∧ WellAll P h vs ds := by
  cases x with
  | tuple ho hall => exact ⟨_, _, rfl, ho, hall⟩
theorem well_cons {P : Params} {h : Heap} {us : List Value} {d : WData} {ds : List WData} (x : WellAll P h us (d :: ds)) : ∃ (v : Value) (vs : List Value), us = v :: vs ∧ Well P h v d ∧ WellAll P h vs ds := by
  cases x with
  | cons a b => exact ⟨_, _, rfl, a, b⟩
theorem line_of {n : Nat} (h : n ≤ 1048576) : n ≤ sizeLine := Nat.le_trans h (by decide)
section
variable {P : Params} {h : Heap}
mutual
theorem area_one : ∀ (d : WData) (v : Value), Well P h v d → plW d = true → d.weight ≤ 1048576 → ∃ A : List Addr, OkU A v ∧ ∀ a ∈ A, ArgOb h A a
  | .none, _, x, _, _ => by
    cases x
    exact ⟨[], trivial, fun a m => absurd m (by simp)⟩
  | .bool b, _, x, _, _ => by
    cases x
    exact ⟨[], trivial, fun a m => absurd m (by simp)⟩
  | .int i, _, x, _, _ => by
    cases x
    exact ⟨[], trivial, fun a m => absurd m (by simp)⟩
  | .str s, _, x, _, _ => by
    cases x
    exact ⟨[], trivial, fun a m => absurd m (by simp)⟩
  | .bytes b, _, x, _, _ => by
    cases x
    exact ⟨[], trivial, fun a m => absurd m (by simp)⟩
  | .list ds, _, x, p, z => by
    obtain ⟨a, vs, rfl, ho, hall⟩ := well_list x
    have z2 : WData.weightAll ds ≤ 1048576 := z
    obtain ⟨A, h1, h2⟩ := area_all ds _ hall p fun d hd => Nat.le_trans (weight_mem hd) z2
    have k : ∀ b ∈ A, b ∈ a :: A := fun b hb => List.mem_cons_of_mem _ hb
    refine ⟨a :: A, List.mem_cons_self .., fun b hb => ?_⟩
    rcases List.mem_cons.mp hb with e | m
    · rw [e]
      exact ⟨vs, line_of (by rw [wellAll_len hall]; exact Nat.le_trans (PySem.W.length_le_weightAllW ds) z2), fun u hu => (h1 u hu).mono k, .inl ho⟩
    · exact (h2 b m).mono k
  | .tuple ds, _, x, p, z => by
    obtain ⟨a, vs, rfl, ho, hall⟩ := well_tuple x
    have z2 : WData.weightAll ds ≤ 1048576 := z
    obtain ⟨A, h1, h2⟩ := area_all ds _ hall p fun d hd => Nat.le_trans (weight_mem hd) z2
    have k : ∀ b ∈ A, b ∈ a :: A := fun b hb => List.mem_cons_of_mem _ hb
    refine ⟨a :: A, List.mem_cons_self .., fun b hb => ?_⟩
    rcases List.mem_cons.mp hb with e | m
    · rw [e]
      exact ⟨vs, line_of (by rw [wellAll_len hall]; exact Nat.le_trans (PySem.W.length_le_weightAllW ds) z2), fun u hu => (h1 u hu).mono k, .inr ho⟩
    · exact (h2 b m).mono k
  | .float _, _, _, p, _ => Bool.noConfusion (show false = true from p)
  | .dict _, _, _, p, _ => Bool.noConfusion (show false = true from p)
  | .bytearray _, _, _, p, _ => Bool.noConfusion (show false = true from p)
  | .set _, _, _, p, _ => Bool.noConfusion (show false = true from p)
  | .frozenset _, _, _, p, _ => Bool.noConfusion (show false = true from p)
  | .obj _ _, _, _, p, _ => Bool.noConfusion (show false = true from p)
theorem area_all : ∀ (ds : List WData) (vs : List Value), WellAll P h vs ds → plWs ds = true → (∀ d ∈ ds, d.weight ≤ 1048576) → ∃ A : List Addr, (∀ u ∈ vs, OkU A u) ∧ ∀ a ∈ A, ArgOb h A a
  | [], _, x, _, _ => by
    cases x
    exact ⟨[], fun u m => absurd m (by simp), fun a m => absurd m (by simp)⟩
  | d :: ds, _, x, p, z => by
    obtain ⟨v, vs, rfl, x1, x2⟩ := well_cons x
    have q : plW d = true ∧ plWs ds = true := Bool.and_eq_true_iff.mp p
    obtain ⟨A, a1, a2⟩ := area_one d v x1 q.1 (z d (List.mem_cons_self ..))
    obtain ⟨B, b1, b2⟩ := area_all ds vs x2 q.2 fun e he => z e (List.mem_cons_of_mem _ he)
    have kA : ∀ b ∈ A, b ∈ A ++ B := fun b hb => List.mem_append.mpr (.inl hb)
    have kB : ∀ b ∈ B, b ∈ A ++ B := fun b hb => List.mem_append.mpr (.inr hb)
    refine ⟨A ++ B, fun u hu => ?_, fun b hb => ?_⟩
    · rcases List.mem_cons.mp hu with e | m
      · rw [e]
        exact a1.mono kA
      · exact (b1 u m).mono kB
    · rcases List.mem_append.mp hb with m | m
      · exact (a2 b m).mono kA
      · exact (b2 b m).mono kB
end
end
def hoOf (o : Obj) : Option HO := match o.data with
  | .seq vs _ => if (o.cls == Value.type "list") = true then some (.frz o (.lst (vs.toList.map toV))) else some (.frz o (.tup (vs.toList.map toV)))
  | _ => none
def argH (K : PySem.W.Frag) (h : Heap) (A : List Addr) : Hp := fun b => if b ∈ A then (if (K.lookup b).isNone = true then (h.get? b).bind hoOf else none) else none
def OnlyF (H : Hp) : Prop := ∀ b, H b = none ∨ ∃ o u, H b = some (.frz o u)
theorem hoOf_lst (vs : List Value) : hoOf { cls := .type "list", data := .seq vs.toArray } = some (.frz { cls := .type "list", data := .seq vs.toArray } (.lst (vs.map toV))) := by
  show (if (Value.type "list" == Value.type "list") = true then some (HO.frz { cls := .type "list", data := .seq vs.toArray } (.lst (vs.toArray.toList.map toV))) else some (HO.frz { cls := .type "list", data := .seq vs.toArray } (.tup (vs.toArray.toList.map toV)))) = _
  rw [if_pos (beq_self_eq_true _)]
theorem hoOf_tup (vs : List Value) : hoOf { cls := .type "tuple", data := .seq vs.toArray } = some (.frz { cls := .type "tuple", data := .seq vs.toArray } (.tup (vs.map toV))) := by
  show (if (Value.type "tuple" == Value.type "list") = true then some (HO.frz { cls := .type "tuple", data := .seq vs.toArray } (.lst (vs.toArray.toList.map toV))) else some (HO.frz { cls := .type "tuple", data := .seq vs.toArray } (.tup (vs.toArray.toList.map toV)))) = _
  rw [if_neg (by decide)]
section
variable {P : Program} {w : World} {K : PySem.W.Frag} {h : Heap} {A : List Addr}
theorem argH_at {b : Addr} {o : Obj} (hb : b ∈ A) (hk : K.lookup b = none) (e : h.get? b = some o) : argH K h A b = hoOf o := by
  unfold argH
  rw [if_pos hb, hk, if_pos (show (none : Option Obj).isNone = true from rfl), e] <;> rfl
theorem of_argH {b : Addr} {u : HO} (q : argH K h A b = some u) : b ∈ A ∧ K.lookup b = none := by
  unfold argH at q
  by_cases hb : b ∈ A
  · rw [if_pos hb] at q
    cases hk : K.lookup b with
    | none => exact ⟨hb, rfl⟩
    | some o =>
      rw [hk, if_neg (by simp)] at q
      cases q
  · rw [if_neg hb] at q
    cases q
theorem argH_is (ar : ∀ a ∈ A, ArgOb h A a) {b : Addr} {u : HO} (q : argH K h A b = some u) : K.lookup b = none ∧ ∃ vs : List Value, vs.length ≤ sizeLine ∧ (∀ u ∈ vs, OkU A u) ∧
    ((h.get? b = some { cls := .type "list", data := .seq vs.toArray } ∧ u = .frz { cls := .type "list", data := .seq vs.toArray } (.lst (vs.map toV))) ∨
     (h.get? b = some { cls := .type "tuple", data := .seq vs.toArray } ∧ u = .frz { cls := .type "tuple", data := .seq vs.toArray } (.tup (vs.map toV)))) := by
  obtain ⟨hb, hk⟩ := of_argH q
  obtain ⟨vs, h1, h2, h3⟩ := ar b hb
  refine ⟨hk, vs, h1, h2, ?_⟩
  rcases h3 with e | e
  · rw [argH_at hb hk e, hoOf_lst] at q
    exact .inl ⟨e, (Option.some.inj q).symm⟩
  · rw [argH_at hb hk e, hoOf_tup] at q
    exact .inr ⟨e, (Option.some.inj q).symm⟩
theorem argH_only (ar : ∀ a ∈ A, ArgOb h A a) : OnlyF (argH K h A) := fun b => by
  cases q : argH K h A b with
  | none => exact .inl rfl
  | some u =>
    obtain ⟨_, vs, _, _, ⟨_, e⟩ | ⟨_, e⟩⟩ := argH_is ar q
    · exact .inr ⟨_, _, by rw [e]⟩
    · exact .inr ⟨_, _, by rw [e]⟩
theorem argH_ok (ar : ∀ a ∈ A, ArgOb h A a) : HOk P w (argH K h A) h := fun b u q => by
  obtain ⟨_, vs, h1, h2, ⟨e, rfl⟩ | ⟨e, rfl⟩⟩ := argH_is ar q
  · exact ⟨e, by rw [List.length_map]; exact h1, vs, _, vals_toV h2, e⟩
  · exact ⟨e, by rw [List.length_map]; exact h1, vs, vals_toV h2, _, e, rfl, _, rfl⟩
theorem seq_inj {c c' : Value} {vs us : List Value} (e : (some { cls := c, data := .seq vs.toArray } : Option Obj) = some { cls := c', data := .seq us.toArray }) : c = c' ∧ vs = us := by
  have e1 := Option.some.inj e
  have e2 : c = c' := congrArg Obj.cls e1
  have e3 : Data.seq vs.toArray = Data.seq us.toArray := congrArg Obj.data e1
  injection e3 with e4
  refine ⟨e2, ?_⟩
  have e5 := congrArg Array.toList e4
  simpa using e5
theorem argL (KX : K.In h) (ar : ∀ a ∈ A, ArgOb h A a) {a : Addr} {vs : List Value} (ha : a ∈ A) (e : h.get? a = some { cls := .type "list", data := .seq vs.toArray }) : (∀ u ∈ vs, OkU A u) ∧ SqL K (argH K h A) a (vs.map toV) := by
  obtain ⟨us, h1, h2, h3⟩ := ar a ha
  have hu : us = vs := by
    rcases h3 with q | q
    · rw [e] at q
      exact (seq_inj q).2.symm
    · rw [e] at q
      exact absurd (Value.type.inj (seq_inj q).1) (by decide)
  subst hu
  refine ⟨h2, ?_⟩
  cases hk : K.lookup a with
  | none => exact .inl (.inr ⟨_, by rw [argH_at ha hk e, hoOf_lst]⟩)
  | some o =>
    have e2 := KX a o hk
    rw [e] at e2
    obtain rfl := Option.some.inj e2
    exact .inr ⟨_, us.toArray, _, hk, rfl, rfl, rfl, by rw [List.size_toArray]; exact h1, by simpa using vals_toV h2⟩
theorem argT (KX : K.In h) (ar : ∀ a ∈ A, ArgOb h A a) {a : Addr} {vs : List Value} (ha : a ∈ A) (e : h.get? a = some { cls := .type "tuple", data := .seq vs.toArray }) : (∀ u ∈ vs, OkU A u) ∧ SqT K (argH K h A) a (vs.map toV) := by
  obtain ⟨us, h1, h2, h3⟩ := ar a ha
  have hu : us = vs := by
    rcases h3 with q | q
    · rw [e] at q
      exact absurd (Value.type.inj (seq_inj q).1) (by decide)
    · rw [e] at q
      exact (seq_inj q).2.symm
  subst hu
  refine ⟨h2, ?_⟩
  cases hk : K.lookup a with
  | none => exact .inl (.inr ⟨_, by rw [argH_at ha hk e, hoOf_tup]⟩)
  | some o =>
    have e2 := KX a o hk
    rw [e] at e2
    obtain rfl := Option.some.inj e2
    exact .inr ⟨_, us.toArray, _, hk, rfl, rfl, by rw [List.size_toArray]; exact h1, by simpa using vals_toV h2⟩
mutual
theorem dw_one {Pm : Params} (KX : K.In h) (ar : ∀ a ∈ A, ArgOb h A a) : ∀ (d : WData) (v : Value), Well Pm h v d → plW d = true → OkU A v → Dw K (argH K h A) (toV v) d
  | .none, _, x, _, _ => by
    cases x
    exact .non
  | .bool b, _, x, _, _ => by
    cases x
    exact .bl b
  | .int i, _, x, _, _ => by
    cases x
    exact .int i
  | .str s, _, x, _, _ => by
    cases x
    exact .str s
  | .bytes b, _, x, _, _ => by
    cases x
    have z := Dw.byt (K := K) (H := argH K h A) b.toArray
    exact z
  | .list ds, _, x, p, hu => by
    obtain ⟨a, vs, rfl, ho, hall⟩ := well_list x
    obtain ⟨h2, hs⟩ := argL KX ar hu ho
    exact .lst hs (dw_all KX ar ds _ hall p h2)
  | .tuple ds, _, x, p, hu => by
    obtain ⟨a, vs, rfl, ho, hall⟩ := well_tuple x
    obtain ⟨h2, hs⟩ := argT KX ar hu ho
    exact .tup hs (dw_all KX ar ds _ hall p h2)
  | .float _, _, _, p, _ => Bool.noConfusion (show false = true from p)
  | .dict _, _, _, p, _ => Bool.noConfusion (show false = true from p)
  | .bytearray _, _, _, p, _ => Bool.noConfusion (show false = true from p)
  | .set _, _, _, p, _ => Bool.noConfusion (show false = true from p)
  | .frozenset _, _, _, p, _ => Bool.noConfusion (show false = true from p)
  | .obj _ _, _, _, p, _ => Bool.noConfusion (show false = true from p)
theorem dw_all {Pm : Params} (KX : K.In h) (ar : ∀ a ∈ A, ArgOb h A a) : ∀ (ds : List WData) (vs : List Value), WellAll Pm h vs ds → plWs ds = true → (∀ u ∈ vs, OkU A u) → DwAll K (argH K h A) (vs.map toV) ds
  | [], _, x, _, _ => by
    cases x
    exact .nil
  | d :: ds, _, x, p, hu => by
    obtain ⟨v, vs, rfl, x1, x2⟩ := well_cons x
    have q : plW d = true ∧ plWs ds = true := Bool.and_eq_true_iff.mp p
    exact .cons (dw_one KX ar d v x1 q.1 (hu _ (List.mem_cons_self ..))) (dw_all KX ar ds vs x2 q.2 fun u m => hu u (List.mem_cons_of_mem _ m))
end
end
theorem spec_call {P : Program} {w : World} {K : PySem.W.Frag} {mg mb : Str → Option Value} {CX : CXT} {k : Nat} {fa : Addr} {fd : FuncData} {ps : List Str} {sp : Sp} {s₁ : Shared} {vals : List Value} {ds : List WData} {R : PySem.W.WRecords} {cl : Str → Option Addr} {d0 : WData}
    (KX : K.In s₁.heap) (hns : s₁.heap.Ns mainGlobals mg) (hb : s₁.heap.Ns builtinsNs mb) (hbb : ∀ x : Str, x ≠ "__name__" → mb x = bootBuiltins x) (hlim : s₁.heap.NoLimit) (hg : s₁.gens = #[])
    (hwl : WellAll w.params s₁.heap vals ds) (hpl : plWs ds = true) (hwt : ∀ d ∈ ds, d.weight ≤ 1048576) (hr : Room k callerA)
    (F : ∀ base : Heap, K.In base → base.Ns mainGlobals mg → FnOk P w K mg base CX k fa fd ps sp) (hbind : ∀ (s : Shared) (us : List Value), us.length = ps.length → BindsTo s fd ⟨us, []⟩ (ps.zip us)) (hlen : ds.length = ps.length)
    (hsp : ∀ (H : Hp) (xs : List V), OnlyF H → DwAll K H xs ds → sp xs H (fun v H' => Dw K H' v d0) fun _ _ _ => False)
    (hCX : ∀ H e s', CX [] H s₁ (fun _ _ _ => False) e s' → False) :
    codeAny (model P w) callerA (.call (.ref fa) ⟨vals, []⟩) (fun r s' => ∃ u as, r = .ok (.ret u) ∧ ReadsW R cl s'.heap u d0 as ∧ OldK s₁.heap s'.heap ∧ s'.os = s₁.os ∧ AllBare s'.gens) s₁ := by
  obtain ⟨A, ho, ar⟩ := area_all ds vals hwl hpl hwt
  have hO : OnlyF (argH K s₁.heap A) := argH_only ar
  have hok : HOk P w (argH K s₁.heap A) s₁.heap := argH_ok ar
  have hS := dw_all KX ar ds vals hwl hpl ho
  have hV := vals_toV ho
  have hK : ∀ b u, argH K s₁.heap A b = some u → K.lookup b = none := fun b u q => (argH_is ar q).1
  have noA : ∀ {b : Addr} {o : Obj} {es : Array DictEntry} {ep : Nat}, s₁.heap.get? b = some o → o.data = .dict es ep → argH K s₁.heap A b = none := fun {b o es ep} e d => by
    cases q : argH K s₁.heap A b with
    | none => rfl
    | some u =>
      obtain ⟨_, vs, _, _, ⟨e2, _⟩ | ⟨e2, _⟩⟩ := argH_is ar q
      · rw [e2] at e
        cases e
        have d' : Data.seq vs.toArray _ = Data.dict es ep := d
        cases d'
      · rw [e2] at e
        cases e
        have d' : Data.seq vs.toArray _ = Data.dict es ep := d
        cases d'
  generalize argH K s₁.heap A = H at hO hok hS hK noA
  have base_of : ∀ {b : Addr} {o : Obj}, s₁.heap.get? b = some o → H b = none → (hidT s₁.heap H).get? b = some o := fun e n => hidT_get e n
  have nsK : ∀ {b : Addr} {m : Str → Option Value}, s₁.heap.Ns b m → (hidT s₁.heap H).Ns b m := fun {b m} ⟨o, es, ep, e, d, r⟩ => ⟨o, es, ep, base_of e (noA e d), d, r⟩
  have nK : ∀ b o, K.lookup b = some o → H b = none := fun b o e => by
    cases q : H b with
    | none => rfl
    | some u =>
      rw [hK b u q] at e
      cases e
  have hKb : K.In (hidT s₁.heap H) := fun b o e => base_of (KX b o e) (nK b o e)
  have hM : Mod K mg (hidT s₁.heap H) := ⟨hKb, nsK hns, ⟨mb, nsK hb, hbb⟩, let ⟨mc, h1, h2⟩ := hlim; ⟨mc, nsK h1, h2⟩⟩
  have e0 : Env0 P w K mg (hidT s₁.heap H) callerA [] s₁ H := ⟨rfl, hM, fun b o e => of_hidT e, Nat.le_of_eq (hidT_size _ _), trivial, fun b hb => absurd (show b ∈ ([] : List Addr) from hb) (by simp), hok, .of_eq hg⟩
  have hl : vals.length = ps.length := by rw [wellAll_len hwl]; exact hlen
  refine codeAny_mono ((F _ hKb (nsK hns)).run callerA [] s₁ H ⟨vals, []⟩ vals (vals.map toV) _ _ hr e0 (hbind s₁ vals hl) hV (hsp H _ hO hS)) fun r s' x => ?_
  cases r with
  | error e => exact (hCX H e s' x).elim
  | ok fl =>
    cases fl with
    | next => exact False.elim x
    | brk => exact False.elim x
    | cont => exact False.elim x
    | ret u =>
      obtain ⟨v, H', os, bare, un, hok', r', q⟩ := x
      have kept : ∀ b o, s₁.heap.get? b = some o → s'.heap.get? b = some o := fun b o e => by
        cases q2 : H b with
        | none => exact un.keep b o e q2 (by intro z; exact absurd (show b ∈ ([] : List Addr) from z) (by simp)) (by simp)
        | some u2 =>
          rcases hO b with z | ⟨ob, u3, z⟩
          · rw [q2] at z
            cases z
          · have z2 := un.frzs b ob _ z
            obtain ⟨e1, _⟩ := hok b _ z
            obtain ⟨e2, _⟩ := hok' b _ z2
            rw [e] at e1
            cases e1
            exact e2
      have KX' : K.In s'.heap := fun b o e => kept b o (KX b o e)
      obtain ⟨as, hrd⟩ := Dw.reads (R := R) (cl := cl) hok' KX' d0 v u q r'
      exact ⟨u, as, rfl, hrd, OldK.of_keep kept, os, bare⟩
theorem layable_weight {ds : List WData} (h : WData.layableAll ds = true) : ∀ d ∈ ds, d.weight ≤ 1048576 := fun d hd =>
  (PySem.W.layableW_iff.mp (List.all_eq_true.mp h d hd)).2.2
theorem encAll_len : ∀ (cs : List Codec) (a : Codec.denoteAll cs), (Codec.encAll cs a).length = cs.length
  | [], _ => rfl
  | c :: cs, a => by
    show (Codec.encAll cs a.2).length + 1 = cs.length + 1
    rw [encAll_len cs a.2]
theorem walk_spec {r : OpenSpec} {k : Nat} {q : Program} {loose : List Str} {XP : (Str → Option Value) → Heap → Prop} {YP : World → Heap → Prop} {d : DefRec} {K : Params → PySem.W.Frag} {CX : World → CXT} {ps : List Str} {sp : World → Sp}
    (hwell : r.wellSaid = true) (hdf : d.params.defaults = []) (hlen : r.args.length = ps.length) (hr : Room k callerA)
    (hY : ∀ (w : World) (h : Heap), YP w h → (K w.params).In h)
    (F : ∀ (w : World) (mg : Str → Option Value) (fa : Addr) (h : Heap), YP w h → (K w.params).In h → h.Ns mainGlobals mg → mg d.name = some (.ref fa) →
      ∃ fd : FuncData, (∀ (s : Shared) (us : List Value), us.length = ps.length → BindsTo s fd ⟨us, []⟩ (ps.zip us)) ∧
        ∀ base : Heap, (K w.params).In base → base.Ns mainGlobals mg → FnOk r.prog w (K w.params) mg base (CX w) k fa fd ps (sp w))
    (hsp : ∀ (w : World) (H : Hp) (xs : List V) (a : Codec.denoteAll r.args), OnlyF H → Codec.withinAll r.args a = true → Codec.app r.args r.asked a = true → DwAll (K w.params) H xs (Codec.encAll r.args a) →
      sp w xs H (fun v H' => Dw (K w.params) H' v (r.ret.enc (Codec.app r.args r.f a))) fun _ _ _ => False)
    (hCX : ∀ (w : World) (H : Hp) (s : Shared) (e : Value) (s' : Shared), CX w [] H s (fun _ _ _ => False) e s' → False) :
    PySem.W.WalkOS q loose XP YP r d [] (fun f vs => PySem.call f vs) := by
  intro w s_0 s₁ mg mb G Y fa o pm cd doc dV kV ho hd hcd hD hmg hg args vals as hpre hlay hrd hwl hlo
  obtain ⟨a, e1, e2⟩ := PySem.W.os_pre_some hpre
  obtain ⟨e3, hwi⟩ := Codec.encAll_of_decAll r.args args a e1
  subst e3
  have KX := hY w _ Y
  obtain ⟨fd, hb, hF⟩ := F w mg fa _ Y KX G.T.g hmg
  refine PySem.W.enter_call (codeAny_mono (spec_call (R := []) (cl := classAt s_0.heap) (d0 := r.ret.enc (Codec.app r.args r.f a)) KX G.T.g G.T.b G.T.builtins G.T.nolimit hg hwl (pl_encAll _ _) (layable_weight hlay) hr hF hb (by rw [encAll_len]; exact hlen)
    (fun H xs hO hS => hsp w H xs a hO hwi e2 hS) fun H e s' => hCX w H s₁ e s') fun r' s' hq => ?_)
  obtain ⟨u, as', rfl, h1, h2, h3, h4⟩ := hq
  exact ⟨.inl ⟨u, _, as', rfl, fun _ => rfl, h1, (OpenSpec.post_iff hwell hwi _ _).mpr rfl, fun z => Bool.noConfusion (show false = true from z)⟩, h2, h3, h4⟩
theorem walk_specK {r : OpenSpec} {k : Nat} {q : Program} {loose : List Str} {XP : (Str → Option Value) → Heap → Prop} {YP : World → Heap → Prop} {d : DefRec} {K : Params → PySem.W.Frag} {CX : CXT} {ps : List Str} {sp : PySem.W.Frag → Sp}
    (hwell : r.wellSaid = true) (hdf : d.params.defaults = []) (hlen : r.args.length = ps.length) (hr : Room k callerA)
    (hY : ∀ (w : World) (h : Heap), YP w h → (K w.params).In h)
    (F : ∀ (w : World) (mg : Str → Option Value) (fa : Addr) (h : Heap), YP w h → (K w.params).In h → h.Ns mainGlobals mg → mg d.name = some (.ref fa) →
      ∃ fd : FuncData, (∀ (s : Shared) (us : List Value), us.length = ps.length → BindsTo s fd ⟨us, []⟩ (ps.zip us)) ∧
        ∀ base : Heap, (K w.params).In base → base.Ns mainGlobals mg → FnOk r.prog w (K w.params) mg base CX k fa fd ps (sp (K w.params)))
    (hsp : ∀ (K : PySem.W.Frag) (H : Hp) (xs : List V) (a : Codec.denoteAll r.args), OnlyF H → Codec.withinAll r.args a = true → Codec.app r.args r.asked a = true → DwAll K H xs (Codec.encAll r.args a) →
      sp K xs H (fun v H' => Dw K H' v (r.ret.enc (Codec.app r.args r.f a))) fun _ _ _ => False)
    (hCX : ∀ (H : Hp) (s : Shared) (e : Value) (s' : Shared), CX [] H s (fun _ _ _ => False) e s' → False) :
    PySem.W.WalkOS q loose XP YP r d [] (fun f vs => PySem.call f vs) :=
  walk_spec (K := K) (CX := fun _ => CX) (sp := fun w => sp (K w.params)) hwell hdf hlen hr hY F (fun w H xs a h1 h2 h3 h4 => hsp (K w.params) H xs a h1 h2 h3 h4) fun _ H s e s' => hCX H s e s'
end L2
end

section
/-! plain mathematics: chunks, bounds -/
namespace Wn
open Kh219
theorem chunks_len {α : Type} (n : Nat) : ∀ (k : Nat) (l : List α), (Kh219Neutral.chunks n k l).length = k
  | 0, _ => rfl
  | k + 1, l => by
    show (Kh219Neutral.chunks n k (l.drop n)).length + 1 = k + 1
    rw [chunks_len n k]
theorem chunks_at {α : Type} (n : Nat) : ∀ (k : Nat) (l : List α) (j : Nat), j < k → (Kh219Neutral.chunks n k l)[j]? = some ((l.drop (n * j)).take n)
  | 0, _, j, h => by omega
  | k + 1, l, 0, _ => by
    show some (l.take n) = _
    rw [Nat.mul_zero, List.drop_zero]
  | k + 1, l, j + 1, h => by
    show (Kh219Neutral.chunks n k (l.drop n))[j]? = _
    rw [chunks_at n k (l.drop n) j (by omega), List.drop_drop]
    congr 3
    rw [Nat.mul_add]
    omega
theorem some_len (ns : List Int) : (Kh219Neutral.some_ ns).length = ns.length / 13 := by
  unfold Kh219Neutral.some_
  rw [List.length_map, chunks_len]
theorem some_at {ns : List Int} {j : Nat} {l : Le} (h : (Kh219Neutral.some_ ns)[j]? = some l) : l = Kh219Neutral.le ((ns.drop (13 * j)).take 13) ∧ j < ns.length / 13 := by
  have hj : j < ns.length / 13 := by
    rw [← some_len]
    exact (List.getElem?_eq_some_iff.mp h).1
  unfold Kh219Neutral.some_ at h
  rw [List.getElem?_map, chunks_at 13 _ ns j hj] at h
  exact ⟨(Option.some.inj h).symm, hj⟩
theorem le_len {ns : List Int} (h : 12 ≤ ns.length) : (Kh219Neutral.le ns).c.length = 12 := by
  show (ns.take 12).length = 12
  rw [List.length_take]
  omega
def OkC (n : Nat) (l : Le) (k : Nat) : Prop := -1000 ≤ l.at_ k ∧ l.at_ k ≤ 1000 ∧ (n ≤ k → l.at_ k = 0)
theorem okLe_iff (n : Nat) (l : Le) : okLe n l = true ↔ (l.c.length = 12 ∧ -1000000 ≤ l.d ∧ l.d ≤ 999999) ∧ ∀ k, k < 12 → OkC n l k := by
  unfold okLe OkC
  rw [Bool.and_eq_true, decide_eq_true_eq, List.all_eq_true]
  constructor
  · rintro ⟨⟨h1, h2, h3⟩, h4⟩
    have h2' : -1000000 ≤ l.d := h2
    have h3' : l.d < 1000000 := h3
    exact ⟨⟨h1, h2', by omega⟩, fun k hk => of_decide_eq_true (h4 k (List.mem_range.mpr hk))⟩
  · rintro ⟨⟨h1, h2, h3⟩, h4⟩
    exact ⟨⟨h1, h2, show l.d < 1000000 by omega⟩, fun k hk => decide_eq_true (h4 k (List.mem_range.mp hk))⟩
theorem okLe_no {n : Nat} {l : Le} {k : Nat} (hk : k < 12) (h : ¬ OkC n l k) : okLe n l = false := by
  cases e : okLe n l with
  | false => rfl
  | true => exact absurd (((okLe_iff n l).mp e).2 k hk) h
theorem okLe_yes {n : Nat} {l : Le} (hc : l.c.length = 12) (h : ∀ k, k < 12 → OkC n l k) : okLe n l = (decide (-1000000 ≤ l.d) && decide (l.d ≤ 999999)) := by
  cases e : okLe n l with
  | true =>
    have := ((okLe_iff n l).mp e).1
    simp [this.2.1, this.2.2]
  | false =>
    cases e2 : (decide (-1000000 ≤ l.d) && decide (l.d ≤ 999999)) with
    | false => rfl
    | true =>
      simp only [Bool.and_eq_true, decide_eq_true_eq] at e2
      rw [(okLe_iff n l).mpr ⟨⟨hc, e2⟩, h⟩] at e
      cases e
theorem at_get {l : Le} {k : Nat} {z : Int} (h : l.c[k]? = some z) : l.at_ k = z := by
  unfold Le.at_
  rw [List.getD_eq_getElem?_getD, h]
  rfl
/-- the sum as the program reckons it -/
theorem foldl_add (f : Nat → Int) : ∀ (l : List Nat) (a : Int), l.foldl (fun s k => s + f k) a = a + (l.map f).sum
  | [], a => by simp
  | x :: r, a => by
    rw [List.foldl_cons, foldl_add f r, List.map_cons, List.sum_cons]
    omega
theorem range_map_zip {c xs : List Int} (hc : c.length = 12) (hx : xs.length = 12) : (List.range 12).map (fun k => c.getD k 0 * xs.getD k 0) = List.zipWith (fun a b => a * b) c xs := by
  apply List.ext_getElem
  · simp [hc, hx]
  · intro i h1 h2
    simp at h1
    simp [List.getElem_zipWith]
    rw [List.getElem?_eq_getElem (by omega), List.getElem?_eq_getElem (by omega)]
    rfl
theorem sum_eq {l : Le} {xs : List Int} (hc : l.c.length = 12) (hx : xs.length = 12) : l.sum (fun k => xs.getD k 0) = (List.zipWith (fun a b => a * b) l.c xs).sum := by
  unfold Le.sum
  rw [foldl_add]
  rw [← range_map_zip hc hx]
  show 0 + _ = _
  rw [Int.zero_add]
  rfl
end Wn
end
section
namespace Wn
open Kh219

/-- the fact that makes table t -/
def mk (p : Plan) (t : Nat) : Option Fact := p.facts.find? fun q => q.kind == 4 && q.f == t
def dec (p : Plan) (x : Numbers) : Nat → Nat → Int → Nat
  | 0, t, _ => t
  | k + 1, t, i => match mk p t with
    | some q => if x q.a = i then t else dec p x k q.b i
    | none => t
def place (p : Plan) (x : Numbers) (q : Fact) : List Int :=
  if q.kind = 1 then [1, q.f, x q.a, 0] else if q.kind = 2 then [2, q.f, x q.a, x q.b] else [3, dec p x 6 q.f (x q.a), x q.a, 0]
def factsHold (p : Plan) (x : Numbers) : Bool := p.facts.all fun q => p.facts.all fun s => decide (place p x q = place p x s → x q.r = x s.r)
def specFacts (p : Plan) (x : Numbers) : Bool := p.facts.all fun q => p.facts.all fun s =>
  if (q.kind == 1 || q.kind == 2) && s.kind == q.kind && s.f == q.f then !(sameArgs x q s) || x q.r == x s.r
  else if q.kind == 3 && s.kind == 3 then (match stands p x q.f (x q.a), stands p x s.f (x s.a) with
    | .inl v, _ => v == x q.r
    | .inr t, .inr u => !(t == u && x q.a == x s.a) || x q.r == x s.r
    | .inr _, .inl _ => true)
  else true
theorem meets_eq (p : Plan) (x : Numbers) : meets p x = (within p x && somesHold p x && specFacts p x) := rfl

structure OkF (p : Plan) : Prop where
  ok : ∀ q ∈ p.facts, okFact p.unknowns q = true
  nd : ((p.facts.filter fun x => x.kind == 4).map Fact.f).Nodup

theorem mk_some {p : Plan} {t : Nat} {q : Fact} (h : mk p t = some q) : q ∈ p.facts ∧ q.kind = 4 ∧ q.f = t := by
  unfold mk at h
  have h1 := List.mem_of_find?_eq_some h
  have h2 := List.find?_some h
  simp at h2
  exact ⟨h1, h2.1, h2.2⟩
theorem ok4 {n : Nat} {q : Fact} (h : okFact n q = true) (hk : q.kind = 4) : q.f < 6 ∧ q.b < q.f := by
  unfold okFact at h
  rw [hk] at h
  simp at h
  exact h.2
theorem ok_kind {n : Nat} {q : Fact} (h : okFact n q = true) : q.kind = 1 ∨ q.kind = 2 ∨ (q.kind = 3 ∧ q.f < 6) ∨ (q.kind = 4 ∧ q.f < 6 ∧ q.b < q.f) := by
  unfold okFact at h
  split at h <;> rename_i hk
  · exact .inl hk
  · exact .inr (.inl hk)
  · refine .inr (.inr (.inl ⟨hk, ?_⟩)); simp at h; exact h.2.1
  · refine .inr (.inr (.inr ⟨hk, ?_⟩)); simp at h; exact h.2
  · simp at h
theorem nd_map_inj {α β : Type} {f : α → β} : ∀ {l : List α}, (l.map f).Nodup → ∀ {a b : α}, a ∈ l → b ∈ l → f a = f b → a = b
  | [], _, _, _, h, _, _ => by cases h
  | c :: l, hn, a, b, ha, hb, e => by
    rw [List.map_cons, List.nodup_cons] at hn
    rcases List.mem_cons.mp ha with rfl | ha'
    · rcases List.mem_cons.mp hb with rfl | hb'
      · rfl
      · exact absurd (List.mem_map.mpr ⟨b, hb', e.symm⟩) hn.1
    · rcases List.mem_cons.mp hb with rfl | hb'
      · exact absurd (List.mem_map.mpr ⟨a, ha', e⟩) hn.1
      · exact nd_map_inj hn.2 ha' hb' e
theorem mk_of {p : Plan} (g : OkF p) {q : Fact} (hq : q ∈ p.facts) (hk : q.kind = 4) : mk p q.f = some q := by
  cases h : mk p q.f with
  | none =>
    unfold mk at h
    rw [List.find?_eq_none] at h
    have := h q hq
    simp [hk] at this
  | some w =>
    obtain ⟨h1, h2, h3⟩ := mk_some h
    have e : w = q := nd_map_inj g.nd (List.mem_filter.mpr ⟨h1, by simp [h2]⟩) (List.mem_filter.mpr ⟨hq, by simp [hk]⟩) h3
    rw [e]
theorem way_zero (p : Plan) (t : Nat) : way p 0 t = [] := rfl
theorem way_some {p : Plan} {k t : Nat} {q : Fact} (h : mk p t = some q) : way p (k + 1) t = q :: way p k q.b := by
  show (match p.facts.find? (fun q => q.kind == 4 && q.f == t) with | some q => q :: way p k q.b | none => []) = _
  unfold mk at h
  rw [h]
theorem way_none {p : Plan} {k t : Nat} (h : mk p t = none) : way p (k + 1) t = [] := by
  show (match p.facts.find? (fun q => q.kind == 4 && q.f == t) with | some q => q :: way p k q.b | none => []) = _
  unfold mk at h
  rw [h]
/-- the way, and where it ends -/
theorem way_dec {p : Plan} (g : OkF p) (x : Numbers) (i : Int) : ∀ (k t : Nat), t ≤ k →
    (∀ q, (way p k t).find? (fun q => x q.a == i) = some q → dec p x k t i = q.f ∧ mk p q.f = some q ∧ x q.a = i) ∧
    ((way p k t).find? (fun q => x q.a == i) = none → ∀ d, dec p x k t i = (t :: (way p k t).map Fact.b).getLastD d ∧ mk p (dec p x k t i) = none)
  | 0, t, ht => by
    have e : t = 0 := by omega
    subst e
    refine ⟨fun q h => by simp [way] at h, fun _ d => ⟨rfl, ?_⟩⟩
    show mk p 0 = none
    cases h : mk p 0 with
    | none => rfl
    | some w =>
      obtain ⟨h1, h2, h3⟩ := mk_some h
      have := (ok4 (g.ok w h1) h2).2
      omega
  | k + 1, t, ht => by
    cases h : mk p t with
    | none =>
      rw [way_none h]
      refine ⟨fun q h => by simp at h, fun _ d => ?_⟩
      have e : dec p x (k + 1) t i = t := by unfold dec; rw [h]
      rw [e]
      exact ⟨rfl, h⟩
    | some w =>
      obtain ⟨h1, h2, h3⟩ := mk_some h
      have hb := (ok4 (g.ok w h1) h2).2
      rw [way_some h]
      by_cases hx : x w.a = i
      · have e : dec p x (k + 1) t i = t := by unfold dec; rw [h]; simp [hx]
        rw [e]
        refine ⟨fun q hq => ?_, fun hq => ?_⟩
        · simp [List.find?_cons, hx] at hq
          subst hq
          exact ⟨h3.symm, by rw [h3]; exact h, hx⟩
        · simp [List.find?_cons, hx] at hq
      · have e : dec p x (k + 1) t i = dec p x k w.b i := by
          show (match mk p t with | some q => if x q.a = i then t else dec p x k q.b i | none => t) = _
          rw [h]; simp [hx]
        have ih := way_dec g x i k w.b (by omega)
        rw [e]
        have ef : (w :: way p k w.b).find? (fun q => x q.a == i) = (way p k w.b).find? (fun q => x q.a == i) := by
          rw [List.find?_cons_of_neg (by simpa using hx)]
        rw [ef]
        refine ⟨ih.1, fun hq d => ?_⟩
        have := ih.2 hq w.b
        refine ⟨?_, this.2⟩
        rw [this.1]
        rw [List.map_cons]
        rfl
theorem stands_dec {p : Plan} (g : OkF p) (x : Numbers) (i : Int) {t : Nat} (ht : t ≤ 6) :
    (∃ w, stands p x t i = .inl (x w.r) ∧ dec p x 6 t i = w.f ∧ mk p w.f = some w ∧ x w.a = i) ∨ (stands p x t i = .inr (dec p x 6 t i) ∧ mk p (dec p x 6 t i) = none) := by
  have h := way_dec g x i 6 t ht
  unfold stands
  cases e : (wayUp p t).find? (fun q => x q.a == i) with
  | some w =>
    obtain ⟨h1, h2, h3⟩ := h.1 w e
    exact .inl ⟨w, rfl, h1, h2, h3⟩
  | none =>
    obtain ⟨h1, h2⟩ := h.2 e t
    refine .inr ⟨?_, h2⟩
    show Sum.inr ((tablesUp p t).getLastD t) = _
    rw [h1]
    rfl
theorem place1 {p : Plan} {x : Numbers} {q : Fact} (h : q.kind = 1) : place p x q = [1, (q.f : Int), x q.a, 0] := by simp [place, h]
theorem place2 {p : Plan} {x : Numbers} {q : Fact} (h : q.kind = 2) : place p x q = [2, (q.f : Int), x q.a, x q.b] := by simp [place, h]
theorem place3 {p : Plan} {x : Numbers} {q : Fact} (h : q.kind = 3) : place p x q = [3, (dec p x 6 q.f (x q.a) : Int), x q.a, 0] := by simp [place, h]
theorem dec4 {p : Plan} (g : OkF p) {x : Numbers} {q : Fact} (hq : q ∈ p.facts) (h : q.kind = 4) : dec p x 6 q.f (x q.a) = q.f := by
  show (match mk p q.f with | some w => if x w.a = x q.a then q.f else dec p x 5 w.b (x q.a) | none => q.f) = _
  rw [mk_of g hq h]
  simp
theorem place4 {p : Plan} (g : OkF p) {x : Numbers} {q : Fact} (hq : q ∈ p.facts) (h : q.kind = 4) : place p x q = [3, (q.f : Int), x q.a, 0] := by
  simp [place, h, dec4 g hq h]
/-- one pair, by the specification -/
def pairOk (p : Plan) (x : Numbers) (q s : Fact) : Bool :=
  if (q.kind == 1 || q.kind == 2) && s.kind == q.kind && s.f == q.f then !(sameArgs x q s) || x q.r == x s.r
  else if q.kind == 3 && s.kind == 3 then (match stands p x q.f (x q.a), stands p x s.f (x s.a) with
    | .inl v, _ => v == x q.r
    | .inr t, .inr u => !(t == u && x q.a == x s.a) || x q.r == x s.r
    | .inr _, .inl _ => true)
  else true
theorem facts_eq {p : Plan} (g : OkF p) (x : Numbers) : factsHold p x = specFacts p x := by
  have key : factsHold p x = true ↔ specFacts p x = true := by
    have e1 : factsHold p x = true ↔ ∀ q ∈ p.facts, ∀ s ∈ p.facts, place p x q = place p x s → x q.r = x s.r := by
      simp only [factsHold, List.all_eq_true, decide_eq_true_eq]
    have e2 : specFacts p x = true ↔ ∀ q ∈ p.facts, ∀ s ∈ p.facts, pairOk p x q s = true := by
      show (p.facts.all fun q => p.facts.all fun s => pairOk p x q s) = true ↔ _
      simp only [List.all_eq_true]
    rw [e1, e2]
    constructor
    · intro h q hq s hs
      rcases ok_kind (g.ok q hq) with kq | kq | ⟨kq, fq⟩ | ⟨kq, fq, _⟩
      · simp only [pairOk, kq]
        by_cases hc : s.kind = 1 ∧ s.f = q.f
        · have := h q hq s hs
          rw [place1 kq, place1 hc.1] at this
          simp [hc.1, hc.2, sameArgs, kq]
          by_cases ha : x q.a = x s.a
          · right; exact this (by simp [hc.2, ha])
          · left; exact ha
        · by_cases h1 : s.kind = 1
          · have h2 : ¬ s.f = q.f := fun e => hc ⟨h1, e⟩
            simp [h1, h2]
          · simp [h1]
      · simp only [pairOk, kq]
        by_cases hc : s.kind = 2 ∧ s.f = q.f
        · have := h q hq s hs
          rw [place2 kq, place2 hc.1] at this
          simp [hc.1, hc.2, sameArgs, kq]
          by_cases ha : x q.a = x s.a
          · by_cases hb : x q.b = x s.b
            · right; exact this (by simp [hc.2, ha, hb])
            · left; exact .inr hb
          · left; exact .inl ha
        · by_cases h1 : s.kind = 2
          · have h2 : ¬ s.f = q.f := fun e => hc ⟨h1, e⟩
            simp [h1, h2]
          · simp [h1]
      · by_cases ks : s.kind = 3
        · have fs : s.f < 6 := by
            rcases ok_kind (g.ok s hs) with k | k | ⟨_, f⟩ | ⟨k, _⟩ <;> omega
          simp only [pairOk, kq, ks]
          rcases stands_dec g x (x q.a) (t := q.f) (by omega) with ⟨w, e, d, m, a⟩ | ⟨e, m⟩
          · rw [e]
            obtain ⟨w1, w2, w3⟩ := mk_some m
            have := h q hq w w1 (by rw [place3 kq, place4 g w1 w2, d, a])
            simp [this]
          · rw [e]
            rcases stands_dec g x (x s.a) (t := s.f) (by omega) with ⟨w, e', d, m', a⟩ | ⟨e', m'⟩
            · rw [e']; simp
            · rw [e']
              have := h q hq s hs
              rw [place3 kq, place3 ks] at this
              simp
              by_cases hd : dec p x 6 q.f (x q.a) = dec p x 6 s.f (x s.a)
              · by_cases ha : x q.a = x s.a
                · right; exact this (by rw [hd, ha])
                · left; exact .inr ha
              · left; exact .inl hd
        · simp [pairOk, kq, ks]
      · simp [pairOk, kq]
    · intro h q hq s hs he
      rcases ok_kind (g.ok q hq) with kq | kq | ⟨kq, fq⟩ | ⟨kq, fq, _⟩
      · rcases ok_kind (g.ok s hs) with ks | ks | ⟨ks, fs⟩ | ⟨ks, fs, _⟩
        · rw [place1 kq, place1 ks] at he
          simp at he
          have he := And.intro (Int.ofNat.inj he.1) he.2
          have := h q hq s hs
          simp [pairOk, kq, ks, he.1, sameArgs, he.2] at this
          exact this
        · rw [place1 kq, place2 ks] at he; simp at he
        · rw [place1 kq, place3 ks] at he; simp at he
        · rw [place1 kq, place4 g hs ks] at he; simp at he
      · rcases ok_kind (g.ok s hs) with ks | ks | ⟨ks, fs⟩ | ⟨ks, fs, _⟩
        · rw [place2 kq, place1 ks] at he; simp at he
        · rw [place2 kq, place2 ks] at he
          simp at he
          have he := And.intro (Int.ofNat.inj he.1) he.2
          have := h q hq s hs
          simp [pairOk, kq, ks, he.1, sameArgs, he.2] at this
          exact this
        · rw [place2 kq, place3 ks] at he; simp at he
        · rw [place2 kq, place4 g hs ks] at he; simp at he
      · rcases ok_kind (g.ok s hs) with ks | ks | ⟨ks, fs⟩ | ⟨ks, fs, _⟩
        · rw [place3 kq, place1 ks] at he; simp at he
        · rw [place3 kq, place2 ks] at he; simp at he
        · rw [place3 kq, place3 ks] at he
          simp at he
          have he := And.intro (Int.ofNat.inj he.1) he.2
          have hqq := h q hq q hq
          have hss := h s hs s hs
          have hqs := h q hq s hs
          simp only [pairOk, kq] at hqq
          simp only [pairOk, ks] at hss
          simp only [pairOk, kq, ks] at hqs
          rcases stands_dec g x (x q.a) (t := q.f) (by omega) with ⟨w, e, d, m, a⟩ | ⟨e, m⟩
          · rcases stands_dec g x (x s.a) (t := s.f) (by omega) with ⟨w', e', d', m', a'⟩ | ⟨e', m'⟩
            · rw [e] at hqq
              rw [e'] at hss
              simp at hqq hss
              have : w.f = w'.f := by rw [← d, ← d']; exact he.1
              rw [this, m'] at m
              cases m
              rw [← hqq, ← hss]
            · rw [← he.1, d, m] at m'
              cases m'
          · rcases stands_dec g x (x s.a) (t := s.f) (by omega) with ⟨w', e', d', m', a'⟩ | ⟨e', m'⟩
            · rw [he.1, d', m'] at m
              cases m
            · rw [e, e'] at hqs
              simp at hqs
              rcases hqs with z | z
              · exact (z.elim (fun z => z he.1) fun z => z he.2).elim
              · exact z
        · rw [place3 kq, place4 g hs ks] at he
          simp at he
          have he := And.intro (Int.ofNat.inj he.1) he.2
          have hqq := h q hq q hq
          simp only [pairOk, kq] at hqq
          have ms := mk_of g hs ks
          rcases stands_dec g x (x q.a) (t := q.f) (by omega) with ⟨w, e, d, m, a⟩ | ⟨e, m⟩
          · rw [e] at hqq
            simp at hqq
            have : w.f = s.f := by rw [← d]; exact he.1
            rw [this, ms] at m
            cases m
            exact hqq.symm
          · rw [he.1, ms] at m
            cases m
      · rcases ok_kind (g.ok s hs) with ks | ks | ⟨ks, fs⟩ | ⟨ks, fs, _⟩
        · rw [place4 g hq kq, place1 ks] at he; simp at he
        · rw [place4 g hq kq, place2 ks] at he; simp at he
        · rw [place4 g hq kq, place3 ks] at he
          simp at he
          have he := And.intro (Int.ofNat.inj he.1) he.2
          have hss := h s hs s hs
          simp only [pairOk, ks] at hss
          have mq := mk_of g hq kq
          rcases stands_dec g x (x s.a) (t := s.f) (by omega) with ⟨w, e, d, m, a⟩ | ⟨e, m⟩
          · rw [e] at hss
            simp at hss
            have : w.f = q.f := by rw [← d]; exact he.1.symm
            rw [this, mq] at m
            cases m
            exact hss
          · rw [← he.1, mq] at m
            cases m
        · rw [place4 g hq kq, place4 g hs ks] at he
          simp at he
          have he := And.intro (Int.ofNat.inj he.1) he.2
          have e1 := mk_of g hq kq
          have e2 := mk_of g hs ks
          rw [he.1, e2] at e1
          cases e1
          rfl
  cases h1 : factsHold p x with
  | true => exact (key.mp h1).symm
  | false =>
    cases h2 : specFacts p x with
    | false => rfl
    | true => rw [key.mpr h2] at h1; cases h1
end Wn
namespace Wn
open Kh219
theorem mk_zero {p : Plan} (g : OkF p) : mk p 0 = none := by
  cases h : mk p 0 with
  | none => rfl
  | some w =>
    obtain ⟨h1, h2, h3⟩ := mk_some h
    have := (ok4 (g.ok w h1) h2).2
    omega
theorem dec_any {p : Plan} (g : OkF p) (x : Numbers) (i : Int) : ∀ (k k' t : Nat), t ≤ k → t ≤ k' → dec p x k t i = dec p x k' t i
  | 0, 0, t, _, _ => rfl
  | 0, k' + 1, t, h, _ => by
    have e : t = 0 := by omega
    subst e
    show 0 = (match mk p 0 with | some q => if x q.a = i then 0 else dec p x k' q.b i | none => 0)
    rw [mk_zero g]
  | k + 1, 0, t, _, h => by
    have e : t = 0 := by omega
    subst e
    show (match mk p 0 with | some q => if x q.a = i then 0 else dec p x k q.b i | none => 0) = 0
    rw [mk_zero g]
  | k + 1, k' + 1, t, h1, h2 => by
    show (match mk p t with | some q => if x q.a = i then t else dec p x k q.b i | none => t) = (match mk p t with | some q => if x q.a = i then t else dec p x k' q.b i | none => t)
    cases h : mk p t with
    | none => rfl
    | some w =>
      obtain ⟨m1, m2, m3⟩ := mk_some h
      have := (ok4 (g.ok w m1) m2).2
      show (if x w.a = i then t else dec p x k w.b i) = (if x w.a = i then t else dec p x k' w.b i)
      rw [dec_any g x i k k' w.b (by omega) (by omega)]
theorem dec_none {p : Plan} {x : Numbers} {i : Int} {t : Nat} (h : mk p t = none) : dec p x 6 t i = t := by
  show (match mk p t with | some q => if x q.a = i then t else dec p x 5 q.b i | none => t) = t
  rw [h]
theorem dec_here {p : Plan} {x : Numbers} {i : Int} {t : Nat} {w : Fact} (h : mk p t = some w) (e : x w.a = i) : dec p x 6 t i = t := by
  show (match mk p t with | some q => if x q.a = i then t else dec p x 5 q.b i | none => t) = t
  rw [h]
  show (if x w.a = i then t else _) = t
  rw [if_pos e]
theorem dec_on {p : Plan} (g : OkF p) {x : Numbers} {i : Int} {t : Nat} {w : Fact} (h : mk p t = some w) (e : ¬ x w.a = i) : dec p x 6 t i = dec p x 6 w.b i := by
  obtain ⟨m1, m2, m3⟩ := mk_some h
  have h4 := ok4 (g.ok w m1) m2
  rw [dec_any g x i 6 5 w.b (by omega) (by omega)]
  show (match mk p t with | some q => if x q.a = i then t else dec p x 5 q.b i | none => t) = _
  rw [h]
  show (if x w.a = i then t else _) = _
  rw [if_neg e]
/-- which f and b a kind wants -/
def fbOk (n : Nat) (x : Fact) : Bool := match x.kind with
  | 1 => decide (x.f < 4 ∧ x.b = 0)
  | 2 => decide (x.f < 4 ∧ x.b < n)
  | 3 => decide (x.f < 6 ∧ x.b = 0)
  | 4 => decide (x.f < 6 ∧ x.b < x.f)
  | _ => false
theorem okFact_eq (n : Nat) (x : Fact) : okFact n x = (decide (x.a < n ∧ x.r < n) && fbOk n x) := rfl
theorem fb1 {n : Nat} {x : Fact} (h : x.kind = 1) : fbOk n x = decide (x.f < 4 ∧ x.b = 0) := by unfold fbOk; rw [h]; rfl
theorem fb2 {n : Nat} {x : Fact} (h : x.kind = 2) : fbOk n x = decide (x.f < 4 ∧ x.b < n) := by unfold fbOk; rw [h]; rfl
theorem fb3 {n : Nat} {x : Fact} (h : x.kind = 3) : fbOk n x = decide (x.f < 6 ∧ x.b = 0) := by unfold fbOk; rw [h]; rfl
theorem fb4 {n : Nat} {x : Fact} (h : x.kind = 4) : fbOk n x = decide (x.f < 6 ∧ x.b < x.f) := by unfold fbOk; rw [h]; rfl
theorem fb0 {n : Nat} {x : Fact} (h1 : ¬ x.kind = 1) (h2 : ¬ x.kind = 2) (h3 : ¬ x.kind = 3) (h4 : ¬ x.kind = 4) : fbOk n x = false := by
  unfold fbOk
  split <;> first | rfl | (rename_i h; exact absurd h (by assumption))
theorem fact_at {ns : List Int} {j : Nat} (h : j < ns.length / 5) : ((Kh219Neutral.chunks 5 (ns.length / 5) ns).map Kh219Neutral.fact)[j]? = some (Kh219Neutral.fact ((ns.drop (5 * j)).take 5)) := by
  have chunks_at : ∀ (k : Nat) (l : List Int) (j : Nat), j < k → (Kh219Neutral.chunks 5 k l)[j]? = some ((l.drop (5 * j)).take 5) := by
    intro k
    induction k with
    | zero => intro l j h; omega
    | succ k ih =>
      intro l j h
      cases j with
      | zero => rfl
      | succ j =>
        show (Kh219Neutral.chunks 5 k (l.drop 5))[j]? = _
        rw [ih (l.drop 5) j (by omega), List.drop_drop]
        congr 3
        omega
  rw [List.getElem?_map, chunks_at _ ns j h]
  rfl
theorem facts_len (ns : List Int) : ((Kh219Neutral.chunks 5 (ns.length / 5) ns).map Kh219Neutral.fact).length = ns.length / 5 := by
  have : ∀ (k : Nat) (l : List Int), (Kh219Neutral.chunks 5 k l).length = k := by
    intro k
    induction k with
    | zero => intro l; rfl
    | succ k ih => intro l; show (Kh219Neutral.chunks 5 k (l.drop 5)).length + 1 = k + 1; rw [ih]
  rw [List.length_map, this]
end Wn
end
section
namespace Wn
theorem drop_cons {l : List Int} {a : Nat} {n : Int} {r : List Int} (h : l.drop a = n :: r) : l[a]? = some n ∧ r = l.drop (a + 1) ∧ a < l.length := by
  have hlt : a < l.length := by
    rcases Nat.lt_or_ge a l.length with h' | h'
    · exact h'
    · rw [List.drop_of_length_le h'] at h; cases h
  have e := List.drop_eq_getElem_cons hlt
  rw [h] at e
  injection e with e1 e2
  exact ⟨by rw [List.getElem?_eq_getElem hlt, e1], e2, hlt⟩
theorem row_parts {l : List Int} {a : Nat} {x t : List Int} (h : PyFlat.row (l.drop a) = some (x, t)) :
    ∃ n : Int, l[a]? = some n ∧ 0 ≤ n ∧ a + 1 + n.toNat ≤ l.length ∧ x = (l.drop (a + 1)).take n.toNat ∧ t = l.drop (a + 1 + n.toNat) ∧ x.length = n.toNat := by
  cases e : l.drop a with
  | nil => rw [e] at h; cases h
  | cons n r =>
    rw [e] at h
    obtain ⟨h1, h2, h3⟩ := drop_cons e
    have h' : (if 0 ≤ n ∧ n.toNat ≤ r.length then some (r.take n.toNat, r.drop n.toNat) else none) = some (x, t) := h
    split at h'
    · rename_i hc
      have hp := Prod.mk.inj (Option.some.inj h')
      have hl : r.length = l.length - (a + 1) := by rw [h2, List.length_drop]
      refine ⟨n, h1, hc.1, by omega, by rw [← h2]; exact hp.1.symm, ?_, ?_⟩
      · rw [← hp.2, h2, List.drop_drop]
      · rw [← hp.1, List.length_take]
        omega
    · cases h'
theorem rows_succ {k : Nat} {r : List Int} {xs : List (List Int)} {t : List Int} (h : PyFlat.rows (k + 1) r = some (xs, t)) :
    ∃ x s ys, PyFlat.row r = some (x, s) ∧ PyFlat.rows k s = some (ys, t) ∧ xs = x :: ys := by
  have h' : (match PyFlat.row r with
    | none => none
    | some (x, s) => match PyFlat.rows k s with
      | none => none
      | some (xs, t) => some (x :: xs, t)) = some (xs, t) := h
  cases e : PyFlat.row r with
  | none => rw [e] at h'; cases h'
  | some p =>
    obtain ⟨x, s⟩ := p
    rw [e] at h'
    cases e2 : PyFlat.rows k s with
    | none =>
      simp only [e2] at h'
      cases h'
    | some q =>
      obtain ⟨ys, t'⟩ := q
      simp only [e2] at h'
      have hp := Prod.mk.inj (Option.some.inj h')
      refine ⟨x, s, ys, rfl, ?_, hp.1.symm⟩
      rw [e2, hp.2]
theorem rows_zero {r : List Int} {xs : List (List Int)} {t : List Int} (h : PyFlat.rows 0 r = some (xs, t)) : xs = [] ∧ t = r := by
  have hp := Prod.mk.inj (Option.some.inj (show some (([] : List (List Int)), r) = some (xs, t) from h))
  exact ⟨hp.1.symm, hp.2.symm⟩
theorem rows_len : ∀ {k : Nat} {r : List Int} {xs : List (List Int)} {t : List Int}, PyFlat.rows k r = some (xs, t) → xs.length = k
  | 0, r, xs, t, h => by rw [(rows_zero h).1]; rfl
  | k + 1, r, xs, t, h => by
    obtain ⟨x, s, ys, _, h2, e⟩ := rows_succ h
    rw [e, List.length_cons, rows_len h2]
theorem row_le {r x s : List Int} (h : PyFlat.row r = some (x, s)) : s.length + 1 ≤ r.length := by
  have h' : PyFlat.row (r.drop 0) = some (x, s) := h
  obtain ⟨n, _, _, h3, _, h5, _⟩ := row_parts h'
  rw [h5, List.length_drop]
  omega
theorem rows_le : ∀ {k : Nat} {r : List Int} {xs : List (List Int)} {t : List Int}, PyFlat.rows k r = some (xs, t) → k + t.length ≤ r.length
  | 0, r, xs, t, h => by rw [(rows_zero h).2]; omega
  | k + 1, r, xs, t, h => by
    obtain ⟨x, s, ys, h1, h2, e⟩ := rows_succ h
    have e1 := row_le h1
    have e2 := rows_le h2
    omega
theorem call_parts {l : List Int} {a : Nat} {c : List (List Int)} {t : List Int} (h : PyWide.call (l.drop a) = some (c, t)) :
    ∃ (p : Int) (ns : List Int) (k : Int) (xs : List (List Int)), l[a]? = some p ∧ PyFlat.row (l.drop (a + 1)) = some (ns, l.drop (a + 2 + ns.length)) ∧ l[a + 2 + ns.length]? = some k ∧ 0 ≤ k ∧
      PyFlat.rows k.toNat (l.drop (a + 3 + ns.length)) = some (xs, t) ∧ c = (p :: ns) :: xs ∧ a + 2 + ns.length < l.length := by
  cases e : l.drop a with
  | nil => rw [e] at h; cases h
  | cons p r =>
    obtain ⟨h1, h2, h3⟩ := drop_cons e
    rw [e] at h
    have h' : (match PyFlat.row r with
      | none => none
      | some (_, []) => none
      | some (ns, k :: t) => if 0 ≤ k then (match PyFlat.rows k.toNat t with
        | none => none
        | some (xs, u) => some ((p :: ns) :: xs, u)) else none) = some (c, t) := h
    cases er : PyFlat.row r with
    | none => rw [er] at h'; cases h'
    | some q =>
      obtain ⟨ns, s⟩ := q
      rw [er] at h'
      cases s with
      | nil => cases h'
      | cons k u =>
        have h'' : (if 0 ≤ k then (match PyFlat.rows k.toNat u with
          | none => none
          | some (xs, u) => some ((p :: ns) :: xs, u)) else none) = some (c, t) := h'
        split at h''
        · rename_i hk
          rw [h2] at er
          obtain ⟨n, n1, n2, n3, n4, n5, n6⟩ := row_parts er
          have en : a + 1 + 1 + n.toNat = a + 2 + ns.length := by rw [n6]
          rw [en] at n5
          have hk2 := drop_cons n5.symm
          cases e2 : PyFlat.rows k.toNat u with
          | none => simp only [e2] at h''; cases h''
          | some z =>
            obtain ⟨xs, u'⟩ := z
            simp only [e2] at h''
            have hp := Prod.mk.inj (Option.some.inj h'')
            refine ⟨p, ns, k, xs, h1, ?_, hk2.1, hk, ?_, hp.1.symm, hk2.2.2⟩
            · rw [er, n5]
            · rw [show a + 3 + ns.length = a + 2 + ns.length + 1 by omega, ← hk2.2.1, e2, hp.2]
        · cases h''
theorem calls_nil {f : Nat} {cs : List (List (List Int))} (h : PyWide.calls f [] = some cs) : cs = [] := by
  cases f <;> exact (Option.some.inj (show some [] = some cs from h)).symm
theorem calls_cons {f : Nat} {p : Int} {r : List Int} {cs : List (List (List Int))} (h : PyWide.calls f (p :: r) = some cs) :
    ∃ g c t ds, f = g + 1 ∧ PyWide.call (p :: r) = some (c, t) ∧ PyWide.calls g t = some ds ∧ cs = c :: ds := by
  cases f with
  | zero => cases h
  | succ g =>
    have h' : (match PyWide.call (p :: r) with
      | none => none
      | some (c, t) => match PyWide.calls g t with
        | none => none
        | some cs => some (c :: cs)) = some cs := h
    cases e : PyWide.call (p :: r) with
    | none => rw [e] at h'; cases h'
    | some q =>
      obtain ⟨c, t⟩ := q
      rw [e] at h'
      cases e2 : PyWide.calls g t with
      | none => simp only [e2] at h'; cases h'
      | some ds =>
        simp only [e2] at h'
        exact ⟨g, c, t, ds, rfl, rfl, e2, (Option.some.inj h').symm⟩
end Wn
end
section
namespace Wn
open Kh219
structure WfPlan (p : Plan) : Prop where
  lo : p.lo.length = 12
  hi : p.hi.length = 12
  fl : p.facts.length ≤ 30000
  sl : p.somes.length ≤ 30000
  each : ∀ s ∈ p.somes, s.length ≤ 30000 ∧ ∀ l ∈ s, l.c.length = 12
def rngOk (p : Plan) (k : Nat) : Bool := if k < p.unknowns then decide (-10000 ≤ p.lo.getD k 0 ∧ p.lo.getD k 0 ≤ p.hi.getD k 0 ∧ p.hi.getD k 0 ≤ 10000) else p.lo.getD k 0 == 0 && p.hi.getD k 0 == 0
def rangesOk (p : Plan) : Bool := (List.range 12).all (rngOk p)
def factsOk (p : Plan) : Bool := decide (p.facts.length ≤ 16) && (p.facts.all (okFact p.unknowns) && decide (((p.facts.filter fun x => x.kind == 4).map Fact.f).Nodup))
def someOk (n : Nat) (s : List Le) : Bool := decide (s.length ≤ 6) && s.all (okLe n)
def somesOk (p : Plan) : Bool := decide (p.somes.length ≤ 32) && p.somes.all (someOk p.unknowns)
theorem good_eq {p : Plan} (w : WfPlan p) : good p = (decide (1 ≤ p.unknowns ∧ p.unknowns ≤ 12) && (rangesOk p && (factsOk p && somesOk p))) := by
  have e : good p = (decide (1 ≤ p.unknowns ∧ p.unknowns ≤ 12 ∧ p.lo.length = 12 ∧ p.hi.length = 12 ∧ p.facts.length ≤ 16 ∧ p.somes.length ≤ 32) && rangesOk p && p.facts.all (okFact p.unknowns) && decide (((p.facts.filter fun x => x.kind == 4).map Fact.f).Nodup) && p.somes.all (someOk p.unknowns)) := rfl
  rw [e, Bool.eq_iff_iff]
  unfold factsOk somesOk
  simp only [Bool.and_eq_true, decide_eq_true_eq, w.lo, w.hi, true_and]
  constructor
  · rintro ⟨⟨⟨⟨⟨h1, h2, h3, h4⟩, h5⟩, h6⟩, h7⟩, h8⟩
    exact ⟨⟨h1, h2⟩, h5, ⟨h3, h6, h7⟩, h4, h8⟩
  · rintro ⟨⟨h1, h2⟩, h5, ⟨h3, h6, h7⟩, h4, h8⟩
    exact ⟨⟨⟨⟨⟨h1, h2, h3, h4⟩, h5⟩, h6⟩, h7⟩, h8⟩
theorem rngOk_eq (p : Plan) (k : Nat) (m : Int) (hm : m = if k < p.unknowns then 10000 else 0) : rngOk p k = (decide (-m ≤ p.lo.getD k 0) && (decide (p.lo.getD k 0 ≤ p.hi.getD k 0) && decide (p.hi.getD k 0 ≤ m))) := by
  unfold rngOk
  by_cases h : k < p.unknowns
  · rw [if_pos h] at hm ⊢
    subst hm
    rw [Bool.eq_iff_iff]
    simp
  · rw [if_neg h] at hm ⊢
    subst hm
    rw [Bool.eq_iff_iff]
    simp
    omega
theorem rangesOk_no {p : Plan} {k : Nat} (hk : k < 12) (h : rngOk p k = false) : rangesOk p = false := by
  unfold rangesOk
  rw [List.all_eq_false]
  exact ⟨k, List.mem_range.mpr hk, by rw [h]; decide⟩
theorem rangesOk_yes {p : Plan} (h : ∀ k, k < 12 → rngOk p k = true) : rangesOk p = true := by
  unfold rangesOk
  rw [List.all_eq_true]
  exact fun k hk => h k (List.mem_range.mp hk)
theorem good_parts {p : Plan} (w : WfPlan p) (h : good p = true) : (1 ≤ p.unknowns ∧ p.unknowns ≤ 12) ∧ p.facts.length ≤ 16 ∧ OkF p ∧ p.somes.length ≤ 32 ∧ ∀ s ∈ p.somes, s.length ≤ 6 ∧ ∀ l ∈ s, okLe p.unknowns l = true := by
  rw [good_eq w] at h
  unfold factsOk somesOk at h
  simp only [Bool.and_eq_true, decide_eq_true_eq, List.all_eq_true] at h
  obtain ⟨h1, h2, ⟨h3, h4, h5⟩, h6, h7⟩ := h
  refine ⟨h1, h3, ⟨h4, h5⟩, h6, fun s hs => ?_⟩
  have := h7 s hs
  unfold someOk at this
  simp only [Bool.and_eq_true, decide_eq_true_eq, List.all_eq_true] at this
  exact this
def withinAt (p : Plan) (xs : List Int) (k : Nat) : Bool := decide (p.lo.getD k 0 ≤ xs.getD k 0) && decide (xs.getD k 0 ≤ p.hi.getD k 0)
theorem within_eq (p : Plan) (xs : List Int) : within p (fun k => xs.getD k 0) = ((List.range p.unknowns).map (withinAt p xs)).all id := by
  unfold within withinAt
  rw [List.all_map]
  congr 1
  funext k
  rw [Bool.eq_iff_iff]
  simp
theorem somesHold_eq (p : Plan) (x : Numbers) : somesHold p x = (p.somes.map fun s => (s.map fun l => l.holds x).any id).all id := by
  unfold somesHold
  rw [List.all_map]
  congr 1
  funext s
  show s.any (fun l => l.holds x) = (s.map fun l => l.holds x).any id
  rw [List.any_map]
  rfl
theorem all_map_id {α : Type} (f : α → Bool) (l : List α) : (l.map f).all id = l.all f := by
  rw [List.all_map]
  rfl
end Wn
end
section
namespace Wn
open Kh219
/-- what a state is like -/
structure WfAbs (s : Abs) : Prop where
  plan : WfPlan s.plan
  good : good s.plan = true
  each : ∀ b ∈ s.branches, b.length ≤ 512 ∧ ∀ l ∈ b, l.c.length = 12
theorem apart_len (i j : Nat) (d : Int) : (apart i j d).c.length = 12 := by
  show ((List.range MOST).map _).length = 12
  rw [List.length_map, List.length_range]
  rfl
theorem same_len (p w : Fact) (b : Bool) : (same p w b).c.length = 12 := by
  unfold same
  split <;> exact apart_len _ _ _
theorem sames_len {p : Fact} {ws : List Fact} {b : Nat} {l : Le} (h : l ∈ sames p ws b) : l.c.length = 12 := by
  unfold sames at h
  obtain ⟨i, _, e⟩ := List.mem_map.mp h
  rw [← e]
  exact same_len _ _ _
theorem sames_length (p : Fact) (ws : List Fact) (b : Nat) : (sames p ws b).length = ws.length := by
  unfold sames
  rw [List.length_map, List.length_range]
theorem way_length (p : Plan) : ∀ (k t : Nat), (way p k t).length ≤ k
  | 0, t => Nat.le_refl _
  | k + 1, t => by
    unfold way
    split
    · rw [List.length_cons]
      have := way_length p k
      rename_i q _
      have := this q.b
      omega
    · exact Nat.zero_le _
theorem takeWhile_length {α : Type} (f : α → Bool) : ∀ l : List α, (l.takeWhile f).length ≤ l.length
  | [] => Nat.le_refl _
  | a :: l => by
    rw [List.takeWhile_cons]
    split
    · rw [List.length_cons, List.length_cons]
      have := takeWhile_length f l
      omega
    · exact Nat.zero_le _
theorem lesson_wf {p : Plan} {k i j b : Nat} {ls : List Le} (h : lesson p k i j b = some ls) : ls.length ≤ 15 ∧ ∀ l ∈ ls, l.c.length = 12 := by
  unfold lesson at h
  split at h
  · rename_i q s _ _
    have hw : ∀ t, (wayUp p t).length ≤ 6 := fun t => way_length p 6 t
    split at h
    · split at h
      · cases h
        split
        · refine ⟨by simp, fun l hl => ?_⟩
          simp at hl
          rcases hl with rfl | rfl | rfl | rfl | rfl <;> exact apart_len _ _ _
        · refine ⟨by simp, fun l hl => ?_⟩
          simp at hl
          rcases hl with rfl | rfl | rfl <;> exact apart_len _ _ _
      · cases h
    · split at h
      · split at h
        · have h' : (if b < 2 ^ ((wayUp p q.f).takeWhile fun z => z != s).length then some ([apart q.a s.a (-1), apart s.a q.a (-1)] ++ sames q ((wayUp p q.f).takeWhile fun z => z != s) b ++ [if k = 2 then apart q.r s.r 0 else apart s.r q.r 0]) else none) = some ls := h
          split at h'
          · cases h'
            have e1 := hw q.f
            have e2 := takeWhile_length (fun z => z != s) (wayUp p q.f)
            refine ⟨by simp [sames_length]; omega, fun l hl => ?_⟩
            simp at hl
            rcases hl with rfl | rfl | hl | rfl
            · exact apart_len _ _ _
            · exact apart_len _ _ _
            · exact sames_len hl
            · split <;> exact apart_len _ _ _
          · cases h'
        · cases h
      · split at h
        · split at h
          · split at h
            · rename_i t _
              have h' : (if b < 2 ^ (((wayUp p q.f).takeWhile fun z => z.f != t) ++ (wayUp p s.f).takeWhile fun z => z.f != t).length then some ([apart q.a s.a (-1), apart s.a q.a (-1)] ++ sames q (((wayUp p q.f).takeWhile fun z => z.f != t) ++ (wayUp p s.f).takeWhile fun z => z.f != t) b ++ [apart q.r s.r 0]) else none) = some ls := h
              split at h'
              · cases h'
                have e1 := hw q.f
                have e2 := takeWhile_length (fun z => z.f != t) (wayUp p q.f)
                have e3 := hw s.f
                have e4 := takeWhile_length (fun z => z.f != t) (wayUp p s.f)
                refine ⟨by simp [sames_length]; omega, fun l hl => ?_⟩
                simp only [List.mem_append, List.mem_cons, List.not_mem_nil, or_false] at hl
                rcases hl with ((rfl | rfl) | hl) | rfl
                · exact apart_len _ _ _
                · exact apart_len _ _ _
                · exact sames_len hl
                · exact apart_len _ _ _
              · cases h'
            · cases h
          · cases h
        · cases h
  · cases h
theorem part_wf {a : Abs} {b : List Le} {rest : List (List Le)} {ls : List Le} (W : WfAbs a) (e : a.branches = b :: rest) (hl : ∀ l ∈ ls, l.c.length = 12) :
    WfAbs (a.part b rest ls).1 ∧ (a.part b rest ls).1.branches.length ≤ a.branches.length + ls.length ∧ (a.part b rest ls).1.plan = a.plan ∧ (a.part b rest ls).2.le = none := by
  unfold Abs.part
  split
  · exact ⟨W, Nat.le_add_right _ _, rfl, rfl⟩
  · rename_i hno
    have hb := W.each b (by rw [e]; exact List.mem_cons_self ..)
    refine ⟨⟨W.plan, W.good, fun c hc => ?_⟩, ?_, rfl, rfl⟩
    · rcases List.mem_append.mp hc with hc | hc
      · obtain ⟨z, hz, rfl⟩ := List.mem_map.mp hc
        have hne : ls ≠ [] := fun q => by rw [q] at hz; cases hz
        have hlt : ¬ 512 ≤ b.length := fun q => hno ⟨q, hne⟩
        refine ⟨by rw [List.length_append]; show b.length + 1 ≤ 512; omega, fun l h => ?_⟩
        rcases List.mem_append.mp h with h | h
        · exact hb.2 l h
        · simp at h
          rw [h]
          exact hl z hz
      · exact W.each c (by rw [e]; exact List.mem_cons_of_mem _ hc)
    · show ((ls.map fun z => b ++ [z]) ++ rest).length ≤ _
      rw [e, List.length_append, List.length_map, List.length_cons]
      omega
theorem opposite_len {l : Le} (h : l.c.length = 12) : l.opposite.c.length = 12 := by
  show (l.c.map _).length = 12
  rw [List.length_map, h]
theorem step_wf {a : Abs} (W : WfAbs a) (l : Line) : WfAbs (step a l).1 ∧ (step a l).1.branches.length ≤ a.branches.length + 15 ∧ (step a l).2.le = none := by
  unfold step
  split
  · exact ⟨W, Nat.le_add_right _ _, rfl⟩
  · rename_i b rest e
    split
    · rename_i z
      split
      · exact ⟨W, Nat.le_add_right _ _, rfl⟩
      · rename_i ho
        have hz : z.c.length = 12 := by
          have : okLe a.plan.unknowns z = true := by
            cases q : okLe a.plan.unknowns z with
            | true => rfl
            | false => exact absurd q ho
          exact ((okLe_iff _ _).mp this).1.1
        have := part_wf W e (ls := [z, z.opposite]) (fun l h => by
          simp at h
          rcases h with rfl | rfl
          · exact hz
          · exact opposite_len hz)
        exact ⟨this.1, by have := this.2.1; simp at this; omega, this.2.2.2⟩
    · rename_i k
      split
      · rename_i s hs
        have hm := List.mem_of_getElem? hs
        have hg := (good_parts W.plan W.good).2.2.2.2 s hm
        have := part_wf W e (ls := s) (fun l h => (W.plan.each s hm).2 l h)
        exact ⟨this.1, by have := this.2.1; have := hg.1; omega, this.2.2.2⟩
      · exact ⟨W, Nat.le_add_right _ _, rfl⟩
    · split
      · rename_i s hs
        have hw := lesson_wf hs
        have := part_wf W e (ls := s) hw.2
        exact ⟨this.1, by have := this.2.1; omega, this.2.2.2⟩
      · exact ⟨W, Nat.le_add_right _ _, rfl⟩
    · rename_i s
      split
      · exact ⟨W, Nat.le_add_right _ _, rfl⟩
      · have gen : ∀ r : Abs × Ans, r = (if never ((s.all a.plan b).divided s.by_) then ({ a with branches := rest }, say (if rest = [] then 1 else 0)) else a.part b rest [(s.all a.plan b).divided s.by_]) → WfAbs r.1 ∧ r.1.branches.length ≤ a.branches.length + 15 ∧ r.2.le = none := ?_
        · exact gen _ rfl
        intro r hr
        rw [hr]
        split
        · refine ⟨⟨W.plan, W.good, fun c hc => W.each c (by rw [e]; exact List.mem_cons_of_mem _ hc)⟩, ?_, rfl⟩
          show rest.length ≤ _
          rw [e, List.length_cons]
          omega
        · have := part_wf W e (ls := [(s.all a.plan b).divided s.by_]) (fun l h => by
            simp at h
            rw [h]
            show (((List.range MOST).map _).map _).length = 12
            rw [List.length_map, List.length_map, List.length_range]
            rfl)
          exact ⟨this.1, by have := this.2.1; simp at this; omega, this.2.2.2⟩
    · exact ⟨W, Nat.le_add_right _ _, rfl⟩
end Wn
end
section
namespace Wn
open Kh219
abbrev NCall := List (List Int)
abbrev NS := Option Abs
def stepS (s : NS) (c : NCall) : NS := (Kh219Neutral.step s c).1
def outS (s : NS) (c : NCall) : List Int := (Kh219Neutral.step s c).2
def runS (s : NS) (l : List NCall) : NS := l.foldl stepS s
theorem runS_snoc (s : NS) (l : List NCall) (c : NCall) : runS s (l ++ [c]) = stepS (runS s l) c := by
  unfold runS
  rw [List.foldl_append]
  rfl
theorem played_snoc : ∀ (l : List NCall) (s : NS) (c : NCall), PyFlat.played Kh219Neutral.step s (l ++ [c]) = PyFlat.played Kh219Neutral.step s l ++ [outS (runS s l) c]
  | [], s, c => rfl
  | d :: l, s, c => by
    show (Kh219Neutral.step s d).2 :: PyFlat.played Kh219Neutral.step (Kh219Neutral.step s d).1 (l ++ [c]) = (Kh219Neutral.step s d).2 :: PyFlat.played Kh219Neutral.step (Kh219Neutral.step s d).1 l ++ [outS (runS s (d :: l)) c]
    rw [played_snoc l]
    rfl
theorem told_snoc (l : List (List Int)) (a : List Int) : PyFlat.told (l ++ [a]) = PyFlat.told l ++ ((a.length : Int) :: a) := by
  unfold PyFlat.told
  rw [List.flatMap_append]
  simp
/-- which calls may be asked in a state -/
def MayAsk (s : NS) (c : NCall) : Prop := s.isSome = true ∨ Kh219Neutral.isMeets c = true ∨ (c.getD 0 []).headD 7 = 1
def Ordered : NS → List NCall → Prop
  | _, [] => True
  | s, c :: r => MayAsk s c ∧ Ordered (stepS s c) r
theorem ordered_of : ∀ (l : List NCall) (b : Bool) (s : NS), (l.foldl (fun (x : Bool × NS) c => let s := (Kh219Neutral.step x.2 c).1
  (x.1 && (x.2.isSome || Kh219Neutral.isMeets c || (c.getD 0 []).headD 7 == 1), s)) (b, s)).1 = true → b = true ∧ Ordered s l
  | [], b, s, h => ⟨h, trivial⟩
  | c :: r, b, s, h => by
    rw [List.foldl_cons] at h
    obtain ⟨h1, h2⟩ := ordered_of r _ _ h
    simp only [Bool.and_eq_true, Bool.or_eq_true, beq_iff_eq] at h1
    refine ⟨h1.1, ?_, h2⟩
    rcases h1.2 with (h3 | h3) | h3
    · exact .inl h3
    · exact .inr (.inl h3)
    · exact .inr (.inr h3)
theorem ordered_at : ∀ {l : List NCall} {s : NS} {i : Nat} {c : NCall}, Ordered s l → l[i]? = some c → MayAsk (runS s (l.take i)) c
  | [], s, i, c, _, h => by simp at h
  | d :: l, s, 0, c, ho, h => by
    simp at h
    subst h
    exact ho.1
  | d :: l, s, i + 1, c, ho, h => by
    rw [List.getElem?_cons_succ] at h
    have := ordered_at (s := stepS s d) ho.2 h
    exact this
/-! ### what is asked of one call -/
/-- no row longer than all there is -/
def Small (c : NCall) : Prop := c.length ≤ 30001 ∧ ∀ r ∈ c, r.length ≤ 30000
theorem rows_small : ∀ {k : Nat} {r : List Int} {xs : List (List Int)} {t : List Int}, PyFlat.rows k r = some (xs, t) → ∀ x ∈ xs, x.length ≤ r.length
  | 0, r, xs, t, h, x, hx => by rw [(rows_zero h).1] at hx; cases hx
  | k + 1, r, xs, t, h, x, hx => by
    obtain ⟨y, s, ys, h1, h2, e⟩ := rows_succ h
    have e1 := row_le h1
    rw [e] at hx
    rcases List.mem_cons.mp hx with rfl | hx
    · have h1' : PyFlat.row (r.drop 0) = some (x, s) := h1
      obtain ⟨n, _, _, h3, _, h5, h6⟩ := row_parts h1'
      omega
    · have := rows_small h2 x hx
      omega
theorem call_small {l : List Int} {a : Nat} {c : List (List Int)} {t : List Int} (h : PyWide.call (l.drop a) = some (c, t)) (hl : l.length ≤ 30000) : Small c := by
  obtain ⟨p, ns, k, xs, h1, h2, h3, h4, h5, h6, h7⟩ := call_parts h
  have e1 := rows_len h5
  have e2 := rows_le h5
  rw [List.length_drop] at e2
  rw [h6]
  refine ⟨by rw [List.length_cons]; omega, fun r hr => ?_⟩
  rcases List.mem_cons.mp hr with rfl | hr
  · rw [List.length_cons]
    omega
  · have := rows_small h5 r hr
    rw [List.length_drop] at this
    omega
theorem calls_small {l : List Int} (hl : l.length ≤ 30000) : ∀ (f a : Nat) (cs : List NCall), PyWide.calls f (l.drop a) = some cs → ∀ c ∈ cs, Small c
  | f, a, cs, h, c, hc => by
    induction f generalizing a cs with
    | zero =>
      cases e : l.drop a with
      | nil =>
        rw [e] at h
        rw [calls_nil h] at hc
        cases hc
      | cons p r =>
        rw [e] at h
        cases h
    | succ f ih =>
      cases e : l.drop a with
      | nil =>
        rw [e] at h
        rw [calls_nil h] at hc
        cases hc
      | cons p r =>
        rw [e] at h
        obtain ⟨g, d, t, ds, hf, h1, h2, h3⟩ := calls_cons h
        rw [h3] at hc
        rw [← e] at h1
        rcases List.mem_cons.mp hc with rfl | hc
        · exact call_small h1 hl
        · obtain ⟨p', ns, k, xs, q1, q2, q3, q4, q5, q6, q7⟩ := call_parts h1
          obtain ⟨b, hb⟩ : ∃ b, t = l.drop b := by
            have : ∀ (k : Nat) (b : Nat) (xs : List (List Int)) (t : List Int), PyFlat.rows k (l.drop b) = some (xs, t) → ∃ b', t = l.drop b' := by
              intro k
              induction k with
              | zero => intro b xs t h; exact ⟨b, (rows_zero h).2⟩
              | succ k ih =>
                intro b xs t h
                obtain ⟨x, s, ys, z1, z2, z3⟩ := rows_succ h
                obtain ⟨n, _, _, _, _, z5, _⟩ := row_parts z1
                rw [z5] at z2
                exact ih _ _ _ z2
            exact this _ _ _ _ q5
          have hg : g = f := by omega
          rw [hb, hg] at h2
          exact ih b ds h2 hc
/-- the rows of a plan, as asked -/
structure PlanRows (h fs : List Int) (ss : List (List Int)) : Prop where
  hl : h.length = 25
  u : ∀ z ∈ h.take 1, 0 ≤ z
  fl : fs.length ≤ 30000
  f5 : fs.length % 5 = 0
  fn : ∀ z ∈ fs, 0 ≤ z
  sl : ss.length ≤ 30000
  s13 : ∀ s ∈ ss, s.length % 13 = 0 ∧ s.length ≤ 30000
theorem u32_nonneg {l : List Int} (h : Kh219Neutral.u32 l = true) : ∀ z ∈ l, 0 ≤ z := fun z hz => by
  unfold Kh219Neutral.u32 at h
  have := List.all_eq_true.mp h z hz
  simp only [Bool.and_eq_true, decide_eq_true_eq] at this
  exact this.1
theorem okPlan_rows {l : List (List Int)} (h : Kh219Neutral.okPlan l = true) (hs : l.length ≤ 30000 ∧ ∀ r ∈ l, r.length ≤ 30000) : ∃ hd fs ss, l = hd :: fs :: ss ∧ PlanRows hd fs ss := by
  unfold Kh219Neutral.okPlan at h
  split at h
  · rename_i hd fs ss
    simp only [Bool.and_eq_true, beq_iff_eq, List.all_eq_true] at h
    obtain ⟨⟨⟨⟨⟨h1, h2⟩, h3⟩, h4⟩, h5⟩, h6⟩ := h
    refine ⟨hd, fs, ss, rfl, h1, u32_nonneg h2, hs.2 fs (by simp), h4, u32_nonneg h5, ?_, fun s hm => ⟨(h6 s hm).1, hs.2 s (by simp [hm])⟩⟩
    have := hs.1
    simp at this
    omega
  · cases h
theorem plan_wf {h fs : List Int} {ss : List (List Int)} (R : PlanRows h fs ss) : WfPlan (Kh219Neutral.plan h fs ss) := by
  refine ⟨?_, ?_, ?_, ?_, fun s hs => ?_⟩
  · show ((h.drop 1).take 12).length = 12
    rw [List.length_take, List.length_drop, R.hl]
    decide
  · show ((h.drop 13).take 12).length = 12
    rw [List.length_take, List.length_drop, R.hl]
    decide
  · show ((Kh219Neutral.chunks 5 (fs.length / 5) fs).map Kh219Neutral.fact).length ≤ 30000
    rw [facts_len]
    have := R.fl
    omega
  · show (ss.map Kh219Neutral.some_).length ≤ 30000
    rw [List.length_map]
    exact R.sl
  · obtain ⟨r, hr, e⟩ := List.mem_map.mp (show s ∈ ss.map Kh219Neutral.some_ from hs)
    have h13 := R.s13 r hr
    rw [← e]
    refine ⟨by rw [some_len]; omega, fun l hl => ?_⟩
    obtain ⟨j, hj⟩ := List.mem_iff_getElem?.mp hl
    obtain ⟨el, hj2⟩ := some_at hj
    rw [el]
    exact le_len (by rw [List.length_take, List.length_drop]; omega)
/-- the eight calls -/
inductive Asked : NCall → Prop
  | meets {x h fs : List Int} {ss : List (List Int)} : x.length = 12 → (∀ z ∈ x, -2147483648 ≤ z ∧ z ≤ 2147483647) → PlanRows h fs ss → Asked ([0] :: x :: h :: fs :: ss)
  | begin_ {h fs : List Int} {ss : List (List Int)} : PlanRows h fs ss → Asked ([1] :: h :: fs :: ss)
  | cases {b : List Int} : b.length = 13 → Asked [[2], b]
  | some_ {p : Int} : 0 ≤ p → Asked [[3, p]]
  | lesson {k p q b : Int} : 0 ≤ k → 0 ≤ p → 0 ≤ q → 0 ≤ b → Asked [[4, k, p, q, b]]
  | sum {b : Int} {low high t : List Int} : 0 ≤ b → low.length = 12 → (∀ z ∈ low, 0 ≤ z) → high.length = 12 → (∀ z ∈ high, 0 ≤ z) → t.length % 2 = 0 → t.length ≤ 30000 → (∀ z ∈ t, 0 ≤ z) → Asked [[5, b], low, high, t]
  | holds {k : Int} : 0 ≤ k → Asked [[6, k]]
  | open_ : Asked [[7]]
theorem nat32 {z : Int} (h : Kh219Neutral.natural z 32 = true) : 0 ≤ z := by
  unfold Kh219Neutral.natural at h
  simp only [Bool.and_eq_true, decide_eq_true_eq] at h
  exact h.1
theorem asked_of {c : NCall} (h : Kh219Neutral.asked1 c = true) (hs : Small c) : Asked c := by
  unfold Kh219Neutral.asked1 at h
  split at h
  · rename_i x p
    simp only [Bool.and_eq_true, beq_iff_eq, List.all_eq_true] at h
    obtain ⟨⟨h1, h2⟩, h3⟩ := h
    obtain ⟨hd, fs, ss, rfl, R⟩ := okPlan_rows h3 ⟨by have := hs.1; simp at this ⊢; omega, fun r hr => hs.2 r (by simp [hr])⟩
    refine .meets h1 (fun z hz => ?_) R
    have := h2 z hz
    unfold Kh219Neutral.whole32 at this
    simp only [Bool.and_eq_true, decide_eq_true_eq] at this
    omega
  · rename_i p
    obtain ⟨hd, fs, ss, rfl, R⟩ := okPlan_rows h ⟨by have := hs.1; simp at this ⊢; omega, fun r hr => hs.2 r (by simp [hr])⟩
    exact .begin_ R
  · simp only [Bool.and_eq_true, beq_iff_eq] at h
    exact .cases h.1
  · exact .some_ (nat32 h)
  · simp only [Bool.and_eq_true] at h
    exact .lesson (nat32 h.1) (nat32 h.2.1) (nat32 h.2.2.1) (nat32 h.2.2.2)
  · rename_i b low high t
    simp only [Bool.and_eq_true, beq_iff_eq, List.all_eq_true] at h
    obtain ⟨⟨⟨⟨⟨⟨h1, h2⟩, h3⟩, h4⟩, h5⟩, h6⟩, h7⟩ := h
    exact .sum (nat32 h1) h2 (fun z hz => nat32 (h3 z hz)) h4 (fun z hz => nat32 (h5 z hz)) h6 (hs.2 t (by simp)) (fun z hz => nat32 (h7 z hz))
  · exact .holds (nat32 h)
  · exact .open_
  · cases h
/-! ### what a state is like, n calls in -/
def WfS (n : Nat) : NS → Prop
  | none => True
  | some a => WfAbs a ∧ a.branches.length ≤ 1 + 15 * n
theorem next_wf {s : NS} {n : Nat} (W : WfS n s) (l : Line) : WfS (n + 1) (doing s (.next l)).1 ∧ (doing s (.next l)).2.le = none := by
  cases s with
  | none => exact ⟨trivial, rfl⟩
  | some a =>
    obtain ⟨w1, w2⟩ := W
    have h := step_wf w1 l
    refine ⟨⟨h.1, ?_⟩, h.2.2⟩
    have := h.2.1
    show (step a l).1.branches.length ≤ _
    omega
theorem wf_mono {n : Nat} : ∀ {s : NS}, WfS n s → WfS (n + 1) s
  | none, _ => trivial
  | some _, h => ⟨h.1, by have := h.2; omega⟩
theorem stepS_wf {s : NS} {n : Nat} {c : NCall} (W : WfS n s) (h : Asked c) : WfS (n + 1) (stepS s c) := by
  cases h with
  | meets h1 h2 R => exact wf_mono W
  | begin_ R =>
    rename_i hd fs ss
    show WfS (n + 1) (doing s (.begin_ (Kh219Neutral.plan hd fs ss))).1
    unfold doing
    show WfS (n + 1) (if good (Kh219Neutral.plan hd fs ss) = false then (s, say (-22)) else (some (begin_ (Kh219Neutral.plan hd fs ss)), say 0)).1
    split
    · exact wf_mono W
    · rename_i hg
      refine ⟨⟨plan_wf R, by cases e : good (Kh219Neutral.plan hd fs ss) with | true => exact e | false => exact absurd e hg, fun b hb => ?_⟩, ?_⟩
      · have : b = [] := by simpa [begin_] using hb
        rw [this]
        exact ⟨by decide, fun l hl => by cases hl⟩
      · show 1 ≤ _
        omega
  | cases h => exact (next_wf W _).1
  | some_ h => exact (next_wf W _).1
  | lesson _ _ _ _ => exact (next_wf W _).1
  | sum _ _ _ _ _ _ _ _ => exact (next_wf W _).1
  | holds _ => exact wf_mono W
  | open_ => exact wf_mono W
theorem run_wf {cs : List NCall} (h : ∀ c ∈ cs, Asked c) : ∀ (i : Nat), i ≤ cs.length → WfS i (runS Kh219Neutral.start (cs.take i))
  | 0, _ => trivial
  | i + 1, hi => by
    have hc : cs[i]? = some cs[i] := List.getElem?_eq_getElem (by omega)
    have e : cs.take (i + 1) = cs.take i ++ [cs[i]] := by
      rw [List.take_add_one, hc]
      rfl
    rw [e, runS_snoc]
    exact stepS_wf (run_wf h i (by omega)) (h _ (List.getElem_mem _))
/-- an answer is short -/
theorem out_len {s : NS} {c : NCall} {n : Nat} (W : WfS n s) (h : Asked c) : (outS s c).length ≤ 14 := by
  have hle : ∀ r : NS × Ans, (r.2.le = none ∨ ∃ l : Le, r.2.le = some l ∧ l.c.length = 12) → (r.2.ret :: (match r.2.le with | some l => l.c ++ [l.d] | none => [])).length ≤ 14 := by
    intro r hr
    rcases hr with e | ⟨l, e, hl⟩
    · rw [e]; simp
    · rw [e]; simp [hl]
  show ((doing s (Kh219Neutral.specCall c)).2.ret :: (match (doing s (Kh219Neutral.specCall c)).2.le with | some l => l.c ++ [l.d] | none => [])).length ≤ 14
  apply hle
  cases h with
  | meets h1 h2 R => exact .inl rfl
  | begin_ R =>
    rename_i hd fs ss
    left
    show (if good (Kh219Neutral.plan hd fs ss) = false then (s, say (-22)) else (some (begin_ (Kh219Neutral.plan hd fs ss)), say 0)).2.le = none
    split <;> rfl
  | cases h => exact .inl (next_wf W _).2
  | some_ h => exact .inl (next_wf W _).2
  | lesson _ _ _ _ => exact .inl (next_wf W _).2
  | sum _ _ _ _ _ _ _ _ => exact .inl (next_wf W _).2
  | holds _ =>
    rename_i k _
    show (match s.bind fun s => s.branches.head?.bind fun b => b[Kh219Neutral.nat k]? with | some l => (⟨0, some l⟩ : Ans) | none => say (-2)).le = none ∨ ∃ l, (match s.bind fun s => s.branches.head?.bind fun b => b[Kh219Neutral.nat k]? with | some l => (⟨0, some l⟩ : Ans) | none => say (-2)).le = some l ∧ l.c.length = 12
    cases e : s.bind fun s => s.branches.head?.bind fun b => b[Kh219Neutral.nat k]? with
    | none => exact .inl rfl
    | some l =>
      refine .inr ⟨l, rfl, ?_⟩
      cases s with
      | none => cases e
      | some a =>
        have e' : (a.branches.head?.bind fun b => b[Kh219Neutral.nat k]?) = some l := e
        cases eb : a.branches with
        | nil => rw [eb] at e'; cases e'
        | cons b rest =>
          rw [eb] at e'
          have e'' : b[Kh219Neutral.nat k]? = some l := e'
          exact (W.1.each b (by rw [eb]; exact List.mem_cons_self ..)).2 l (List.mem_of_getElem? e'')
  | open_ => exact .inl rfl
end Wn
end
section
namespace Wn
open Kh219
/-! ### lessons: plain mathematics -/
def passed (p : Plan) (k : Nat) (q s : Fact) : Option (List Fact) :=
  if k = 1 then (if (q.kind = 1 ∨ q.kind = 2) ∧ s.kind = q.kind ∧ s.f = q.f then some [] else none)
  else if k = 2 ∨ k = 3 then (if q.kind = 3 ∧ s.kind = 4 ∧ s ∈ wayUp p q.f then some ((wayUp p q.f).takeWhile fun z => z != s) else none)
  else if k = 4 then (if q.kind = 3 ∧ s.kind = 3 then (match (tablesUp p q.f).find? fun t => (tablesUp p s.f).contains t with
    | some t => some (((wayUp p q.f).takeWhile fun z => z.f != t) ++ (wayUp p s.f).takeWhile fun z => z.f != t)
    | none => none) else none)
  else none
def apartB (q s : Fact) : List Le := if q.kind = 2 then [apart q.b s.b (-1), apart s.b q.b (-1)] else []
def lastLe (k : Nat) (q s : Fact) : Le := if k = 3 then apart s.r q.r 0 else apart q.r s.r 0
def lessonOf (k : Nat) (q s : Fact) (ws : List Fact) (by_ : Nat) : List Le := [apart q.a s.a (-1), apart s.a q.a (-1)] ++ apartB q s ++ sames q ws by_ ++ [lastLe k q s]
theorem lesson_no {p : Plan} {k i j b : Nat} (h : p.facts[i]? = none ∨ p.facts[j]? = none) : lesson p k i j b = none := by
  unfold lesson
  split
  · rename_i q s h1 h2
    rcases h with h | h
    · rw [h1] at h; cases h
    · rw [h2] at h; cases h
  · rfl
theorem lesson_eq {p : Plan} {k i j b : Nat} {q s : Fact} (hi : p.facts[i]? = some q) (hj : p.facts[j]? = some s) :
    lesson p k i j b = (match passed p k q s with | some ws => if b < 2 ^ ws.length then some (lessonOf k q s ws b) else none | none => none) := by
  unfold lesson passed
  rw [hi, hj]
  simp only []
  by_cases h1 : k = 1
  · rw [if_pos h1, if_pos h1]
    by_cases h2 : (q.kind = 1 ∨ q.kind = 2) ∧ s.kind = q.kind ∧ s.f = q.f
    · rw [if_pos h2]
      by_cases hb : b = 0
      · rw [if_pos ⟨h2.1, h2.2.1, h2.2.2, hb⟩]
        show _ = if b < 2 ^ 0 then _ else _
        rw [if_pos (show b < 2 ^ 0 by rw [hb]; decide)]
        unfold lessonOf apartB lastLe sames
        rw [if_neg (by omega : ¬ k = 3)]
        simp
      · rw [if_neg (fun h => hb h.2.2.2)]
        show _ = if b < 2 ^ 0 then _ else _
        rw [if_neg (show ¬ b < 2 ^ 0 by rw [Nat.pow_zero]; omega)]
    · rw [if_neg h2, if_neg (fun h => h2 ⟨h.1, h.2.1, h.2.2.1⟩)]
  · rw [if_neg h1, if_neg h1]
    by_cases h2 : k = 2 ∨ k = 3
    · rw [if_pos h2, if_pos h2]
      by_cases h3 : q.kind = 3 ∧ s.kind = 4 ∧ s ∈ wayUp p q.f
      · rw [if_pos h3, if_pos h3]
        have e : ([apart q.a s.a (-1), apart s.a q.a (-1)] ++ sames q ((wayUp p q.f).takeWhile fun z => z != s) b ++ [if k = 2 then apart q.r s.r 0 else apart s.r q.r 0]) = lessonOf k q s ((wayUp p q.f).takeWhile fun z => z != s) b := by
          unfold lessonOf apartB lastLe
          rw [if_neg (by omega : ¬ q.kind = 2), List.append_nil]
          congr 2
          rcases h2 with h2 | h2 <;> subst h2 <;> rfl
        rw [e]
      · rw [if_neg h3, if_neg h3]
    · rw [if_neg h2, if_neg h2]
      by_cases h4 : k = 4
      · rw [if_pos h4, if_pos h4]
        by_cases h3 : q.kind = 3 ∧ s.kind = 3
        · rw [if_pos h3, if_pos h3]
          cases e : (tablesUp p q.f).find? fun t => (tablesUp p s.f).contains t with
          | none => rfl
          | some t =>
            have e : ([apart q.a s.a (-1), apart s.a q.a (-1)] ++ sames q (((wayUp p q.f).takeWhile fun z => z.f != t) ++ (wayUp p s.f).takeWhile fun z => z.f != t) b ++ [apart q.r s.r 0]) = lessonOf k q s (((wayUp p q.f).takeWhile fun z => z.f != t) ++ (wayUp p s.f).takeWhile fun z => z.f != t) b := by
              unfold lessonOf apartB lastLe
              rw [if_neg (by omega : ¬ q.kind = 2), List.append_nil, if_neg (by omega : ¬ k = 3)]
            simp only [e]
        · rw [if_neg h3, if_neg h3]
      · rw [if_neg h4, if_neg h4]
/-! ways -/
theorem way_fuel {p : Plan} (g : OkF p) : ∀ (k j t : Nat), t ≤ k → t ≤ j → way p k t = way p j t
  | 0, j, t, h1, h2 => by
    have e : t = 0 := by omega
    subst e
    have hn : mk p 0 = none := by
      cases h : mk p 0 with
      | none => rfl
      | some w =>
        obtain ⟨q1, q2, q3⟩ := mk_some h
        have := (ok4 (g.ok w q1) q2).2
        omega
    cases j with
    | zero => rfl
    | succ j => rw [way_none hn]; rfl
  | k + 1, 0, t, h1, h2 => by
    have e : t = 0 := by omega
    subst e
    have hn : mk p 0 = none := by
      cases h : mk p 0 with
      | none => rfl
      | some w =>
        obtain ⟨q1, q2, q3⟩ := mk_some h
        have := (ok4 (g.ok w q1) q2).2
        omega
    rw [way_none hn]
    rfl
  | k + 1, j + 1, t, h1, h2 => by
    cases h : mk p t with
    | none => rw [way_none h, way_none h]
    | some w =>
      obtain ⟨q1, q2, q3⟩ := mk_some h
      have := (ok4 (g.ok w q1) q2).2
      rw [way_some h, way_some h, way_fuel g k j w.b (by omega) (by omega)]
theorem wayUp_none {p : Plan} {t : Nat} (h : mk p t = none) : wayUp p t = [] := way_none h
theorem wayUp_some {p : Plan} (g : OkF p) {t : Nat} {q : Fact} (ht : t ≤ 6) (h : mk p t = some q) : wayUp p t = q :: wayUp p q.b := by
  obtain ⟨q1, q2, q3⟩ := mk_some h
  have := (ok4 (g.ok q q1) q2).2
  show way p 6 t = q :: way p 6 q.b
  rw [way_some h, way_fuel g 5 6 q.b (by omega) (by omega)]
theorem way_mem {p : Plan} (g : OkF p) : ∀ {k t : Nat} {w : Fact}, w ∈ way p k t → mk p w.f = some w ∧ w ∈ p.facts ∧ w.kind = 4 ∧ w.f ≤ t
  | 0, t, w, h => by cases h
  | k + 1, t, w, h => by
    cases e : mk p t with
    | none => rw [way_none e] at h; cases h
    | some q =>
      obtain ⟨q1, q2, q3⟩ := mk_some e
      have hb := (ok4 (g.ok q q1) q2).2
      rw [way_some e] at h
      rcases List.mem_cons.mp h with rfl | h
      · exact ⟨by rw [q3]; exact e, q1, q2, by omega⟩
      · obtain ⟨h1, h2, h3, h4⟩ := way_mem g h
        exact ⟨h1, h2, h3, by omega⟩
theorem way_sorted {p : Plan} (g : OkF p) : ∀ (k t : Nat), (way p k t).Pairwise fun a b => b.f < a.f
  | 0, t => List.Pairwise.nil
  | k + 1, t => by
    cases e : mk p t with
    | none => rw [way_none e]; exact List.Pairwise.nil
    | some q =>
      obtain ⟨q1, q2, q3⟩ := mk_some e
      have hb := (ok4 (g.ok q q1) q2).2
      rw [way_some e]
      refine List.Pairwise.cons (fun w hw => ?_) (way_sorted g k q.b)
      have := (way_mem g hw).2.2.2
      omega
theorem tables_le {p : Plan} (g : OkF p) : ∀ (k t : Nat) {x : Nat}, x ∈ t :: (way p k t).map Fact.b → x ≤ t
  | 0, t, x, h => by
    simp [way] at h
    omega
  | k + 1, t, x, h => by
    cases e : mk p t with
    | none =>
      rw [way_none e] at h
      simp at h
      omega
    | some q =>
      obtain ⟨q1, q2, q3⟩ := mk_some e
      have hb := (ok4 (g.ok q q1) q2).2
      rw [way_some e, List.map_cons] at h
      rcases List.mem_cons.mp h with rfl | h
      · exact Nat.le_refl _
      · have := tables_le g k q.b h
        omega
theorem tables_at {p : Plan} (g : OkF p) : ∀ (k t : Nat) {x : Nat}, x ∈ t :: (way p k t).map Fact.b → (∃ w ∈ way p k t, w.f = x) ∨ ∀ w ∈ way p k t, x < w.f
  | 0, t, x, h => .inr fun w hw => by cases hw
  | k + 1, t, x, h => by
    cases e : mk p t with
    | none => rw [way_none e]; exact .inr fun w hw => by cases hw
    | some q =>
      obtain ⟨q1, q2, q3⟩ := mk_some e
      have hb := (ok4 (g.ok q q1) q2).2
      rw [way_some e] at h ⊢
      rw [List.map_cons] at h
      rcases List.mem_cons.mp h with rfl | h
      · exact .inl ⟨q, List.mem_cons_self .., q3⟩
      · have hl := tables_le g k q.b h
        rcases tables_at g k q.b h with ⟨w, hw, ew⟩ | hall
        · exact .inl ⟨w, List.mem_cons_of_mem _ hw, ew⟩
        · refine .inr fun w hw => ?_
          rcases List.mem_cons.mp hw with rfl | hw
          · omega
          · exact hall w hw
theorem filter_none {l : List Fact} {n : Nat} (h : ∀ w ∈ l, ¬ n < w.f) : l.filter (fun z => decide (n < z.f)) = [] := by
  rw [List.filter_eq_nil_iff]
  intro w hw
  simpa using h w hw
theorem takeWhile_ne : ∀ {l : List Fact} {s : Fact}, l.Pairwise (fun a b => b.f < a.f) → s ∈ l → (l.takeWhile fun z => z != s) = l.filter fun z => decide (s.f < z.f)
  | [], s, _, h => by cases h
  | a :: r, s, hp, h => by
    rw [List.pairwise_cons] at hp
    by_cases e : a = s
    · subst e
      rw [List.takeWhile_cons_of_neg (by simp), List.filter_cons_of_neg (by simp)]
      exact (filter_none fun w hw => by have := hp.1 w hw; omega).symm
    · have hs : s ∈ r := by
        rcases List.mem_cons.mp h with h | h
        · exact absurd h.symm e
        · exact h
      rw [List.takeWhile_cons_of_pos (by simpa using e), List.filter_cons_of_pos (by simpa using hp.1 s hs), takeWhile_ne hp.2 hs]
theorem takeWhile_f : ∀ {l : List Fact} {t : Nat}, l.Pairwise (fun a b => b.f < a.f) → ((∃ w ∈ l, w.f = t) ∨ ∀ w ∈ l, t < w.f) → (l.takeWhile fun z => z.f != t) = l.filter fun z => decide (t < z.f)
  | [], t, _, h => rfl
  | a :: r, t, hp, h => by
    rw [List.pairwise_cons] at hp
    by_cases e : a.f = t
    · rw [List.takeWhile_cons_of_neg (by simpa using e), List.filter_cons_of_neg (by simp; omega)]
      exact (filter_none fun w hw => by have := hp.1 w hw; omega).symm
    · have two : t < a.f ∧ ((∃ w ∈ r, w.f = t) ∨ ∀ w ∈ r, t < w.f) := by
        rcases h with ⟨w, hw, ew⟩ | h
        · rcases List.mem_cons.mp hw with rfl | hw
          · exact absurd ew e
          · exact ⟨by have := hp.1 w hw; omega, .inl ⟨w, hw, ew⟩⟩
        · exact ⟨h a (List.mem_cons_self ..), .inr fun w hw => h w (List.mem_cons_of_mem _ hw)⟩
      rw [List.takeWhile_cons_of_pos (by simpa using e), List.filter_cons_of_pos (by simpa using two.1), takeWhile_f hp.2 two.2]
/-- what comes before q, as the program finds it -/
theorem before_eq {p : Plan} (g : OkF p) {t : Nat} {s : Fact} (hs : s ∈ wayUp p t) : ((wayUp p t).takeWhile fun z => z != s) = (wayUp p t).filter fun z => decide (s.f < z.f) := takeWhile_ne (way_sorted g 6 t) hs
theorem upto_eq {p : Plan} (g : OkF p) {t x : Nat} (hx : x ∈ tablesUp p t) : ((wayUp p t).takeWhile fun z => z.f != x) = (wayUp p t).filter fun z => decide (x < z.f) := takeWhile_f (way_sorted g 6 t) (tables_at g 6 t hx)
theorem on_way {p : Plan} (g : OkF p) {t : Nat} {s : Fact} (hs : s ∈ p.facts) (hk : s.kind = 4) : s ∈ wayUp p t ↔ s.f ∈ (wayUp p t).map Fact.f := by
  constructor
  · exact fun h => List.mem_map.mpr ⟨s, h, rfl⟩
  · intro h
    obtain ⟨w, hw, e⟩ := List.mem_map.mp h
    have h1 := (way_mem g hw).1
    rw [e, mk_of g hs hk] at h1
    rw [Option.some.inj h1]
    exact hw
theorem wayUp_len (p : Plan) (t : Nat) : (wayUp p t).length ≤ 6 := way_length p 6 t
theorem wayUp_mem {p : Plan} (g : OkF p) {t : Nat} {w : Fact} (h : w ∈ wayUp p t) : w ∈ p.facts ∧ w.kind = 4 := ⟨(way_mem g h).2.1, (way_mem g h).2.2.1⟩
theorem passed_wf {p : Plan} (g : OkF p) {k : Nat} {q s : Fact} {ws : List Fact} (h : passed p k q s = some ws) : ws.length ≤ 12 ∧ ∀ w ∈ ws, w ∈ p.facts := by
  unfold passed at h
  split at h
  · split at h
    · cases h; exact ⟨by decide, fun w hw => by cases hw⟩
    · cases h
  · split at h
    · split at h
      · cases h
        have e1 := wayUp_len p q.f
        have e2 := takeWhile_length (fun z => z != s) (wayUp p q.f)
        exact ⟨by omega, fun w hw => (wayUp_mem g ((List.takeWhile_sublist _).mem hw)).1⟩
      · cases h
    · split at h
      · split at h
        · split at h
          · rename_i t _
            cases h
            have e1 := wayUp_len p q.f
            have e2 := takeWhile_length (fun z => z.f != t) (wayUp p q.f)
            have e3 := wayUp_len p s.f
            have e4 := takeWhile_length (fun z => z.f != t) (wayUp p s.f)
            refine ⟨by rw [List.length_append]; omega, fun w hw => ?_⟩
            rcases List.mem_append.mp hw with hw | hw
            · exact (wayUp_mem g ((List.takeWhile_sublist _).mem hw)).1
            · exact (wayUp_mem g ((List.takeWhile_sublist _).mem hw)).1
          · cases h
        · cases h
      · cases h
/-! bounds of two unknowns -/
theorem gap_list : ∀ i j : Fin 12, ((List.replicate 12 (0 : Int)).set i.1 1).set j.1 ((((List.replicate 12 (0 : Int)).set i.1 1).getD j.1 0) - 1) = (List.range 12).map fun k => (if k = i.1 then 1 else 0) - (if k = j.1 then (1 : Int) else 0) := by decide +kernel
theorem bit_even (b i : Nat) : ((b : Int) / 2 ^ i % 2 = 0) ↔ b.testBit i = false := by
  rw [Nat.testBit_eq_decide_div_mod_eq]
  have : (b : Int) / 2 ^ i % 2 = ((b / 2 ^ i % 2 : Nat) : Int) := by
    rw [Int.natCast_emod, Int.natCast_ediv, Int.natCast_pow]
    rfl
  rw [this, decide_eq_false_iff_not]
  omega
theorem shr_zero (b n : Nat) : ((b : Int) / 2 ^ n = 0) ↔ b < 2 ^ n := by
  have : (b : Int) / 2 ^ n = ((b / 2 ^ n : Nat) : Int) := by
    rw [Int.natCast_ediv, Int.natCast_pow]
    rfl
  rw [this]
  have h2 : 0 < 2 ^ n := Nat.two_pow_pos n
  constructor
  · intro h
    have h' : b / 2 ^ n = 0 := by omega
    exact (Nat.div_eq_zero_iff_lt h2).mp h'
  · intro h
    rw [(Nat.div_eq_zero_iff_lt h2).mpr h]
    rfl
theorem sames_at {q : Fact} {ws : List Fact} {b i : Nat} {w : Fact} (h : ws[i]? = some w) : (sames q ws b)[i]? = some (if b.testBit i = true then apart w.a q.a 0 else apart q.a w.a 0) := by
  have hlt := (List.getElem?_eq_some_iff.mp h).1
  unfold sames
  rw [List.getElem?_map, List.getElem?_range hlt]
  show some (same q (ws.getD i q) (b.testBit i)) = _
  rw [List.getD_eq_getElem?_getD, h]
  rfl
end Wn
end
section
namespace Wn
open Kh219
/-! ### sums: plain mathematics -/
def atN (s : Sum) (b : List Le) (n : Nat) (k : Nat) : Int := (s.times.take n).foldl (fun z t => z + (t.2 : Int) * (b.getD t.1 ⟨[], 0⟩).at_ k) 0 - (s.low.getD k 0 : Int) + (s.high.getD k 0 : Int)
def cN (s : Sum) (b : List Le) (n : Nat) : List Int := (List.range 12).map (atN s b n)
def dN (s : Sum) (p : Plan) (b : List Le) (n : Nat) : Int := (s.times.take n).foldl (fun z t => z + (t.2 : Int) * (b.getD t.1 ⟨[], 0⟩).d) 0 + (List.range 12).foldl (fun z k => z - (s.low.getD k 0 : Int) * p.lo.getD k 0 + (s.high.getD k 0 : Int) * p.hi.getD k 0) 0
theorem all_eq (s : Sum) (p : Plan) (b : List Le) : s.all p b = ⟨cN s b s.times.length, dN s p b s.times.length⟩ := by
  unfold cN dN atN
  rw [List.take_length]
  rfl
theorem cN_len (s : Sum) (b : List Le) (n : Nat) : (cN s b n).length = 12 := by
  unfold cN
  rw [List.length_map, List.length_range]
theorem cN_at {s : Sum} {b : List Le} {n k : Nat} (hk : k < 12) : (cN s b n)[k]? = some (atN s b n k) := by
  unfold cN
  rw [List.getElem?_map, List.getElem?_range hk]
  rfl
theorem cN_zero (s : Sum) (b : List Le) : cN s b 0 = (List.range 12).map fun k => (s.high.getD k 0 : Int) - (s.low.getD k 0 : Int) := by
  unfold cN
  apply List.map_congr_left
  intro k _
  show (0 : Int) - (s.low.getD k 0 : Int) + (s.high.getD k 0 : Int) = _
  omega
theorem foldl_two (f g : Nat → Int) : ∀ (l : List Nat) (a : Int), l.foldl (fun z k => z - f k + g k) a = a + (l.map fun k => g k - f k).sum
  | [], a => by simp
  | x :: r, a => by
    rw [List.foldl_cons, foldl_two f g r, List.map_cons, List.sum_cons]
    omega
theorem dN_zero (s : Sum) (p : Plan) (b : List Le) : dN s p b 0 = ((List.range 12).map fun k => (s.high.getD k 0 : Int) * p.hi.getD k 0 - (s.low.getD k 0 : Int) * p.lo.getD k 0).sum := by
  unfold dN
  rw [foldl_two (fun k => (s.low.getD k 0 : Int) * p.lo.getD k 0) (fun k => (s.high.getD k 0 : Int) * p.hi.getD k 0)]
  show (0 : Int) + (0 + _) = _
  omega
theorem take_snoc' {α : Type} : ∀ {l : List α} {i : Nat} {x : α}, l[i]? = some x → l.take (i + 1) = l.take i ++ [x] := fun {l i x} h => by
  rw [List.take_add_one, h]
  rfl
theorem atN_succ {s : Sum} {b : List Le} {n k : Nat} {t : Nat × Nat} (h : s.times[n]? = some t) : atN s b (n + 1) k = atN s b n k + (t.2 : Int) * (b.getD t.1 ⟨[], 0⟩).at_ k := by
  unfold atN
  rw [take_snoc' h, List.foldl_append]
  simp only [List.foldl_cons, List.foldl_nil]
  omega
theorem dN_succ {s : Sum} {p : Plan} {b : List Le} {n : Nat} {t : Nat × Nat} (h : s.times[n]? = some t) : dN s p b (n + 1) = dN s p b n + (t.2 : Int) * (b.getD t.1 ⟨[], 0⟩).d := by
  unfold dN
  rw [take_snoc' h, List.foldl_append]
  simp only [List.foldl_cons, List.foldl_nil]
  omega
theorem cN_succ {s : Sum} {b : List Le} {n k : Nat} {t : Nat × Nat} {l : Le} {z : Int} (h : s.times[n]? = some t) (hb : b[t.1]? = some l) (hz : l.c[k]? = some z) (hk : k < 12) : (cN s b (n + 1))[k]? = some (atN s b n k + (t.2 : Int) * z) := by
  rw [cN_at hk, atN_succ h, List.getD_eq_getElem?_getD, hb]
  show some (_ + (t.2 : Int) * l.at_ k) = _
  rw [at_get hz]
/-! what is as told -/
def rowOk (n : Nat) (r : List Nat) : Bool := (List.range 12).all fun k => decide (r.getD k 0 ≤ 1000000 ∧ (n ≤ k → r.getD k 0 = 0))
def timesOk (m : Nat) (ts : List (Nat × Nat)) : Bool := decide (ts.length ≤ 24) && ts.all fun t => decide (t.1 < m) && decide (t.2 ≤ 1000000)
def recOk (s : Sum) (n m : Nat) : Bool := decide (1 ≤ s.by_ ∧ s.by_ ≤ 1000000) && (timesOk m s.times && (rowOk n s.low && rowOk n s.high))
def divOk (g : Nat) (c : List Int) : Bool := c.all fun z => z % (g : Int) == 0
theorem okSum_eq {s : Sum} {p : Plan} {b : List Le} (hl : s.low.length = 12) (hh : s.high.length = 12) :
    okSum s p b = (recOk s p.unknowns b.length && (divOk s.by_ (s.all p b).c && okLe p.unknowns ((s.all p b).divided s.by_))) := by
  have e : okSum s p b = (decide (s.low.length = 12 ∧ s.high.length = 12 ∧ s.times.length ≤ 24 ∧ 1 ≤ s.by_ ∧ s.by_ ≤ 1000000) && ((List.range 12).all fun k => decide (s.low.getD k 0 ≤ 1000000 ∧ s.high.getD k 0 ≤ 1000000 ∧ (p.unknowns ≤ k → s.low.getD k 0 = 0 ∧ s.high.getD k 0 = 0))) &&
    (s.times.all fun t => decide (t.1 < b.length ∧ t.2 ≤ 1000000)) && ((s.all p b).c.all fun z => z % (s.by_ : Int) == 0) && okLe p.unknowns ((s.all p b).divided s.by_)) := rfl
  rw [e, Bool.eq_iff_iff]
  unfold recOk timesOk rowOk divOk
  simp only [Bool.and_eq_true, decide_eq_true_eq, List.all_eq_true, hl, hh, true_and]
  constructor
  · rintro ⟨⟨⟨⟨⟨h1, h2⟩, h3⟩, h4⟩, h5⟩, h6⟩
    exact ⟨⟨h2, ⟨h1, h4⟩, fun k hk => ⟨(h3 k hk).1, fun q => ((h3 k hk).2.2 q).1⟩, fun k hk => ⟨(h3 k hk).2.1, fun q => ((h3 k hk).2.2 q).2⟩⟩, h5, h6⟩
  · rintro ⟨⟨h2, ⟨h1, h4⟩, h3, h3'⟩, h5, h6⟩
    exact ⟨⟨⟨⟨⟨h1, h2⟩, fun k hk => ⟨(h3 k hk).1, (h3' k hk).1, fun q => ⟨(h3 k hk).2 q, (h3' k hk).2 q⟩⟩⟩, h4⟩, h5⟩, h6⟩
theorem rowOk_no {n k : Nat} {r : List Nat} (hk : k < 12) (h : ¬ (r.getD k 0 ≤ 1000000 ∧ (n ≤ k → r.getD k 0 = 0))) : rowOk n r = false := by
  unfold rowOk
  rw [List.all_eq_false]
  exact ⟨k, List.mem_range.mpr hk, by rw [decide_eq_false h]; decide⟩
theorem rowOk_yes {n : Nat} {r : List Nat} (h : ∀ k, k < 12 → r.getD k 0 ≤ 1000000 ∧ (n ≤ k → r.getD k 0 = 0)) : rowOk n r = true := by
  unfold rowOk
  rw [List.all_eq_true]
  exact fun k hk => decide_eq_true (h k (List.mem_range.mp hk))
theorem recOk_parts {s : Sum} {n m : Nat} (h : recOk s n m = true) : (1 ≤ s.by_ ∧ s.by_ ≤ 1000000) ∧ s.times.length ≤ 24 ∧ (∀ t ∈ s.times, t.1 < m ∧ t.2 ≤ 1000000) ∧ (∀ k, k < 12 → s.low.getD k 0 ≤ 1000000) ∧ ∀ k, k < 12 → s.high.getD k 0 ≤ 1000000 := by
  unfold recOk timesOk rowOk at h
  simp only [Bool.and_eq_true, decide_eq_true_eq, List.all_eq_true] at h
  obtain ⟨h1, ⟨h2, h3⟩, h4, h5⟩ := h
  exact ⟨h1, h2, h3, fun k hk => (h4 k (List.mem_range.mpr hk)).1, fun k hk => (h5 k (List.mem_range.mpr hk)).1⟩
/-- the recipe of the rows, as asked -/
def sumOf (b : Int) (low high t : List Int) : Sum := ⟨low.map Kh219Neutral.nat, high.map Kh219Neutral.nat, (Kh219Neutral.chunks 2 (t.length / 2) t).map fun t => (Kh219Neutral.nat (t.getD 0 0), Kh219Neutral.nat (t.getD 1 0)), Kh219Neutral.nat b⟩
def pairsOf (t : List Int) : List (Nat × Nat) := (Kh219Neutral.chunks 2 (t.length / 2) t).map fun t => (Kh219Neutral.nat (t.getD 0 0), Kh219Neutral.nat (t.getD 1 0))
theorem pairs_len (t : List Int) : (pairsOf t).length = t.length / 2 := by
  unfold pairsOf
  rw [List.length_map, chunks_len]
theorem pairs_at {t : List Int} {j : Nat} {y : Nat × Nat} (h : (pairsOf t)[j]? = some y) (hn : ∀ z ∈ t, 0 ≤ z) : j < t.length / 2 ∧ t[2 * j]? = some (y.1 : Int) ∧ t[2 * j + 1]? = some (y.2 : Int) := by
  have hj : j < t.length / 2 := by
    rw [← pairs_len]
    exact (List.getElem?_eq_some_iff.mp h).1
  unfold pairsOf at h
  rw [List.getElem?_map, chunks_at 2 _ t j hj] at h
  have e := (Option.some.inj h).symm
  have h0 : 2 * j < t.length := by omega
  have h1 : 2 * j + 1 < t.length := by omega
  have g0 : ((t.drop (2 * j)).take 2).getD 0 0 = t[2 * j] := by
    rw [List.getD_eq_getElem?_getD, List.getElem?_take_of_lt (by decide), List.getElem?_drop, Nat.add_zero, List.getElem?_eq_getElem h0]
    rfl
  have g1 : ((t.drop (2 * j)).take 2).getD 1 0 = t[2 * j + 1] := by
    rw [List.getD_eq_getElem?_getD, List.getElem?_take_of_lt (by decide), List.getElem?_drop, List.getElem?_eq_getElem h1]
    rfl
  have e' : y = (Kh219Neutral.nat (((t.drop (2 * j)).take 2).getD 0 0), Kh219Neutral.nat (((t.drop (2 * j)).take 2).getD 1 0)) := e
  rw [g0, g1] at e'
  rw [e']
  have n0 := hn _ (List.getElem_mem h0)
  have n1 := hn _ (List.getElem_mem h1)
  refine ⟨hj, ?_, ?_⟩
  · rw [List.getElem?_eq_getElem h0]
    show some _ = some ((t[2 * j].toNat : Nat) : Int)
    rw [Int.toNat_of_nonneg n0]
  · rw [List.getElem?_eq_getElem h1]
    show some _ = some ((t[2 * j + 1].toNat : Nat) : Int)
    rw [Int.toNat_of_nonneg n1]
def casts (l : List Nat) : List Int := l.map Int.ofNat
theorem casts_nat {l : List Int} (h : ∀ z ∈ l, 0 ≤ z) : casts (l.map Kh219Neutral.nat) = l := by
  unfold casts
  rw [List.map_map]
  conv => rhs; rw [← List.map_id l]
  apply List.map_congr_left
  intro z hz
  exact Int.toNat_of_nonneg (h z hz)
theorem casts_at {l : List Nat} {k : Nat} (h : k < l.length) : (casts l)[k]? = some ((l.getD k 0 : Nat) : Int) := by
  unfold casts
  rw [List.getElem?_map, List.getElem?_eq_getElem h, List.getD_eq_getElem?_getD, List.getElem?_eq_getElem h]
  rfl
theorem casts_len (l : List Nat) : (casts l).length = l.length := List.length_map ..
end Wn
end
section
set_option maxRecDepth 100000
set_option maxHeartbeats 4000000
/-! What the layer lacks: a chain of three comparisons, dict.setdefault by a key that is a tuple, a comprehension over a step range; and short words for calls. -/
namespace L2
open PySem PySem.Spec PyProof.Rows
section
variable {X : Cx} {a b c d : Expr} {ta tb tc td : TE} {pos : Pos}
def tChain3 (r r' r'' : R2) (ta tb tc td : TE) : TE := fun σ H Q => ta σ H fun x H1 => tb σ H1 fun y H2 => r x y H2 fun z H3 => ∃ k, z = .bl k ∧
  (if k = true then tc σ H3 fun w' H4 => r' y w' H4 fun z' H5 => ∃ k', z' = .bl k' ∧ (if k' = true then td σ H5 fun v' H6 => r'' w' v' H6 Q else Q (.bl false) H5) else Q (.bl false) H3)
theorem pe_chain3 {op op' op'' : CmpOp} {r r' r'' : R2} (ho : OpR X (compareOp op) r) (ho' : OpR X (compareOp op') r') (ho'' : OpR X (compareOp op'') r'') (ha : PE X a ta) (hb : PE X b tb) (hc : PE X c tc) (hd : PE X d td)
    (hm : lastMarks [op, op', op''] [b, c, d] = false := by with_unfolding_all rfl) : PE X (.Compare a [op, op', op''] [b, c, d] pos) (tChain3 r r' r'' ta tb tc td) := by
  intro pins s σ H Q I h
  refine Compare_chain (thn (ha pins s σ H _ I h) fun v s1 ⟨x, H1, I1, r1, q1⟩ => chain_link (thn (hb pins s1 σ H1 _ I1 q1) fun u s2 ⟨y, H2, I2, r2, q2⟩ =>
    thn (ho pins s2 σ H2 x y v u _ I2 r1 r2 q2) fun d s3 ⟨z, H3, I3, r3, k, e, q3⟩ => ?_)) hm
  subst e
  cases r3
  refine wpAny_truthy_bool ?_
  cases k with
  | false => exact ite_ff ⟨.bl false, H3, I3, rfl, q3⟩
  | true =>
    refine ite_tt (chain_link (thn (hc pins s3 σ H3 _ I3 q3) fun w' s4 ⟨z', H4, I4, r4, q4⟩ => thn (ho' pins s4 σ H4 y z' u w' _ I4 r2 r4 q4) fun d' s5 ⟨z2, H5, I5, r5, k2, e2, q5⟩ => ?_))
    subst e2
    cases r5
    refine wpAny_truthy_bool ?_
    cases k2 with
    | false => exact ite_ff ⟨.bl false, H5, I5, rfl, q5⟩
    | true => exact ite_tt (chain_last (thn (hd pins s5 σ H5 _ I5 q5) fun w2 s6 ⟨z3, H6, I6, r6, q6⟩ => ho'' pins s6 σ H6 z' z3 w' w2 Q I6 r4 r6 q6))
end
/-! ### d.setdefault(t, v), t a tuple -/
section
variable {prog : Program} {w : World} {K : Type} [DecidableEq K] {knd : HeapKind prog w K} {A : Around} {E : Value → Shared → Prop} {s : Shared}
theorem sd_heap {d a : Addr} {xs : List (K × Addr × Value)} {k : K} {dflt : Value} {Q : Value → Shared → Prop} (hu : knd.room A) (hkey : knd.is s.heap k a) (hm : s.heap.DictOfH knd d xs)
    (h1 : ∀ v, (atKey xs k).map (·.2) = some v → Q v { s with toks := s.toks + knd.draws k })
    (h2 : atKey xs k = none → ∀ h', h'.DictOfH knd d (storedH xs k a dflt) → Heap.SameBut d s.heap h' → Q dflt { s with heap := h', toks := s.toks + knd.draws k })
    (hsz : xs.length ≤ sizeLine) : wpAny (model prog w) A (dictSetDefault d (.ref a) dflt) Q E s := by
  obtain ⟨o, es, ep, ho, hc, hd, he, his, hn⟩ := hm
  unfold dictSetDefault
  try with_reducible refine wpAny_holding ?_
  refine wpAny_bind (knd.pyHash hu hkey ?_)
  refine wpAny_bind (wpAny_dictFind_heap (s := { s with toks := s.toks + knd.draws k }) hu hkey ho hd he his hn ?_ ?_)
  · intro hno
    have hnot : k ∉ xs.map (·.1) := not_mem_keys_of_get hno
    refine wpAny_bind (wpAny_rule (wpAny_bind (wpAny_updateDictKeys (hz := by have e := size_of_entries he; omega) (s := { s with toks := s.toks + knd.draws k }) ho hd (wpAny_pure (h2 (atKey_none_of_get hno) _ ⟨_, _, ep + 1, Heap.get?_update_self _ ho (Obj.isFreed_of_dict (Obj.data_mapDictKeys hd _)),
      hc.mapDictKeys _, Obj.data_mapDictKeys hd _, ?_, ?_, ?_⟩ (Heap.SameBut.update ..))))))
    · rw [storedH_new (atKey_none_of_get hno)]
      simp [he, entryOfKey]
    · rw [storedH_new (atKey_none_of_get hno)]
      intro x hx
      rcases List.mem_append.mp hx with hx | hx
      · exact knd.keeps (his x hx) ho hd (Heap.SameBut.update ..)
      · simp only [List.mem_singleton] at hx
        subst hx
        exact knd.keeps hkey ho hd (Heap.SameBut.update ..)
    · rw [storedH_new (atKey_none_of_get hno)]
      rw [List.map_append, List.nodup_append]
      refine ⟨hn, by simp, ?_⟩
      intro x hx y hy
      simp only [List.map_cons, List.map_nil, List.mem_singleton] at hy
      subst hy
      exact fun e => hnot (e ▸ hx)
  · intro j p hj
    refine wpAny_bind (wpAny_dictEntries (s := { s with toks := s.toks + knd.draws k }) ho hd ?_)
    rw [entry_at he j, hj]
    exact wpAny_bind (wpAny_rule (wpAny_pure (h1 _ (by rw [atKey_of_get hn hj]; rfl))))
theorem sd_meets (knd : HeapKind prog w K) (d a : Addr) (hd : (d == sysModules) = false) (dflt : Value) :
    MeetsIn prog w (Builtin.«dict.setdefault» ⟨[.ref d, .ref a, dflt], []⟩) (fun A R s => knd.room A.in1 ∧ ∃ k xs, knd.is s.heap k a ∧ s.heap.DictOfH knd d xs ∧ xs.length ≤ sizeLine ∧
      (∀ v, (atKey xs k).map (·.2) = some v → R (.ok (.ret v)) { s with toks := s.toks + knd.draws k }) ∧
      (atKey xs k = none → ∀ h', h'.DictOfH knd d (storedH xs k a dflt) → Heap.SameBut d s.heap h' → R (.ok (.ret dflt)) { s with heap := h', toks := s.toks + knd.draws k })) :=
  .of_wp fun A R s ⟨hu, k, xs, hkey, hm, hz, h1, h2⟩ => by
    unfold Builtin.«dict.setdefault»
    refine wpAny_bind ?_
    unfold Builtin.Dict.keyAndDefault
    refine wpAny_bind (wpAny_notOrdered_dict hm.typeIs ?_)
    show wpAny _ _ (pure (d, Value.ref a, some dflt)) _ _ s
    refine wpAny_pure ?_
    show wpAny _ _ (if (d == sysModules) = true then _ else (dictSetDefault d (.ref a) dflt >>= _)) _ _ s
    rw [if_neg (by rw [hd]; exact Bool.false_ne_true)]
    exact wpAny_bind (sd_heap hu hkey hm (fun v hv => wpAny_pure ⟨v, rfl, h1 v hv⟩) (fun hn h' hm' hs' => wpAny_pure ⟨dflt, rfl, h2 hn h' hm' hs'⟩) hz)
end
section
variable {X : Cx} {pins : List (Addr × Obj)} {σ : St} {H : Hp} {s : Shared} {a b : Addr} {kvs : List (List Key × V)} {k : List Key} {d : V} {r : Value} {A : Around} {E : Value → Shared → Prop}
theorem d_setdef {Q : Value → Shared → Prop} (hu : A.units + 1 < cLine) (I : Inv X pins σ H s) (e : H a = some (.dT kvs)) (eb : H b = some (.tup (k.map kV))) (hl : kvs.length < sizeLine) (rd : RelV d r)
    (h1 : ∀ v w' s', valV kvs k = some v → Inv X pins σ H s' → RelV v w' → Q w' s') (h2 : valV kvs k = none → ∀ s', Inv X pins σ (upd H a (.dT (putK kvs k d))) s' → Q r s') :
    wpAny (model X.prog X.w) A (call (.builtin "dict.setdefault") [.ref a, .ref b, r]) Q E s := by
  obtain ⟨z, hd, xs, rel, dd⟩ := dt_of I.hok e
  have hz : xs.length ≤ sizeLine := by rw [← Paired.length rel]; exact z
  have hlp : (putK kvs k d).length ≤ sizeLine := by have := length_putK kvs k d; omega
  have rv := rel.val k
  refine call_meetsIn PySem.F.slot_dict_setdefault dd.typeIs PySem.F.entry_dict_setdefault (PySem.F.args_dict_setdefault_3 _ _ _) (sd_meets (tupleKind (mixKind X.prog X.w)) a b hd r) ⟨tupleKind_room_in1 hu, k, xs, key_of I.hok eb, dd, hz, fun v hv => ?_, fun hn h' dd' hs => ?_⟩
  · rw [hv] at rv
    cases ev : valV kvs k with
    | none => rw [ev] at rv; exact rv.elim
    | some v' =>
      rw [ev] at rv
      exact h1 v' v _ ev (I.tok _) rv
  · have ev : valV kvs k = none := by
      rw [hn] at rv
      cases ev : valV kvs k with
      | none => rfl
      | some v' => rw [ev] at rv; exact rv.elim
    refine h2 ev _ ?_
    obtain ⟨q, es, ep, hq, g2, g3, g4, _, g5⟩ := dd'
    refine d_write I (by rw [e]; exact True.intro) hs ⟨q, hq⟩ ⟨hlp, hd, _, (rel.put k eb rd).keeps fun c ys ec => ?_, q, es, ep, hq, g2, g3, g4, g5⟩
    rw [upd_ne (ne_of ec e (fun z => nomatch z))]
    exact ec
end
def tDSetD (td ty tx : TE) : TE := fun σ H Q => td σ H fun x H1 => ∃ a, x = .ref a ∧ IsD H1 a ∧ ty σ H1 fun y H2 => tx σ H2 fun z H3 => ∃ kvs k b, H3 a = some (.dT kvs) ∧ y = .ref b ∧ H3 b = some (.tup (k.map kV)) ∧ kvs.length < sizeLine ∧
  (∀ v, valV kvs k = some v → Q v H3) ∧ (valV kvs k = none → Q z (upd H3 a (.dT (putK kvs k z))))
section
variable {X : Cx} {o e f : Expr} {apos cpos : Pos} {td ty tx : TE}
theorem pe_dsetd (hu : X.A.units + 1 < cLine) (ho : PE X o td) (he : PE X e ty) (hf : PE X f tx) (m : M2 X o "setdefault" apos e f cpos) : PE X (.Call (.Attribute o "setdefault" apos) [e, f] [] cpos) (tDSetD td ty tx) := by
  intro pins s σ H Q I h
  refine wpAny_Call_method m.base m.few m.line PySem.F.plainAttrs_dict PySem.F.slot_dict_setdefault PySem.F.type_dict_setdefault (thn (ho pins s σ H _ I h) fun u s1 ⟨x, H1, I1, rx, a, ex, d, q1⟩ => ?_)
  subst ex
  obtain rfl : u = Value.ref a := rx
  obtain ⟨t1, t2, _⟩ := isD_at I1 d
  refine ⟨t1, t2, ?_⟩
  rw [m.trees]
  refine Calls.callWith_builtin rfl (Calls.evalArgs_plain (Calls.spliced_cons (thn (he pins s1 σ H1 _ I1 q1) fun iv s2 ⟨y, H2, I2, ry, q2⟩ =>
    Calls.spliced_cons (thn (hf pins s2 σ H2 _ I2 q2) fun fv s3 ⟨z, H3, I3, rz, kvs, k, b, ea, ey, eb, hl, q3, q4⟩ => Calls.spliced_nil ?_))))
  subst ey
  obtain rfl : iv = Value.ref b := ry
  exact d_setdef hu I3 ea eb hl rz (fun v w' s4 ev I4 rw' => ⟨v, H3, I4, rw', q3 v ev⟩) fun ev s4 I4 => ⟨z, _, I4, rz, q4 ev⟩
end
/-! ### a comprehension over a step range -/
theorem lc_rangeC {lo c : Int} {n : Nat} {g : TG} {tt : TT} {te : TE} {vs : List Nat} {σ : St} {H1 : Hp} {D : Addr} {Qd : Hp → Prop} (Pv : Nat → Hp → Prop) (h0 : Pv 0 (upd H1 D (.lst [])))
    (hs : ∀ i H, i < n → Pv i H → g (.int (lo + (i : Nat) * c)) (wipe σ vs) H fun σ2 H2 => wipe σ2 vs = wipe σ vs ∧ tt σ2 H2 fun b H3 =>
      if b = true then te σ2 H3 fun y H4 => ∃ acc, H4 D = some (.lst acc) ∧ acc.length < sizeLine ∧ Pv (i + 1) (upd H4 D (.lst (acc ++ [y]))) else Pv (i + 1) H3) (hd : ∀ H, Pv n H → Qd H) :
    ∃ W : Nat → Nat → Hp → Prop, (∃ m, W 0 m (upd H1 D (.lst []))) ∧ ∀ i m H, W i m H →
      ((Itc lo c n).stop i H ∧ Qd H) ∨ ((Itc lo c n).go i H ∧ ∃ Nx : Hp → Prop, (∀ H', Nx H' → ∃ m', m' < m ∧ W (i + 1) m' H') ∧ ∀ x H', (Itc lo c n).yld i H x H' → g x (wipe σ vs) H' fun σ2 H2 => wipe σ2 vs = wipe σ vs ∧ tt σ2 H2 fun b H3 =>
        if b = true then te σ2 H3 fun y H4 => ∃ acc, H4 D = some (.lst acc) ∧ acc.length < sizeLine ∧ Nx (upd H4 D (.lst (acc ++ [y]))) else Nx H3) := by
  refine ⟨fun i m H => m = n - i ∧ i ≤ n ∧ Pv i H, ⟨n, by simp, Nat.zero_le _, h0⟩, ?_⟩
  rintro i m H ⟨rfl, hi, p⟩
  by_cases hlt : i < n
  · refine .inr ⟨hlt, Pv (i + 1), fun H' p' => ⟨n - (i + 1), by omega, rfl, hlt, p'⟩, fun x H' y => ?_⟩
    obtain ⟨e, y⟩ := y
    subst e y
    exact hs i _ hlt p
  · have e : i = n := by omega
    subst e
    exact .inl ⟨Nat.le_refl _, hd H p⟩
/-- the steps of range(0, 13 * n, 13), range(0, 5 * n, 5) -/
theorem RgC.by13 {n : Nat} (hn : n ≤ 100000) : RgC 0 ((13 * n : Nat) : Int) 13 n := by
  have e : Builtin.Range.rangeSize 0 ((13 * n : Nat) : Int) 13 = n := by
    unfold Builtin.Range.rangeSize
    simp only [show ((13 : Int) > 0) by decide, if_true]
    split <;> omega
  refine ⟨by decide, by decide, ?_, e⟩
  have fit : ∀ i : Int, 0 ≤ i → i ≤ 10000000 → Builtin.Range.rangeFitsLong i = true := fun i h1 h2 => by
    unfold Builtin.Range.rangeFitsLong
    rw [decide_eq_true (by omega), decide_eq_true (by omega)]
    rfl
  unfold Builtin.Range.small
  rw [e]
  rw [fit 0 (by omega) (by omega), fit _ (by omega) (by omega : (((13 * n : Nat) : Nat) : Int) ≤ 10000000), fit 13 (by omega) (by omega), fit (n : Int) (by omega) (by omega), if_pos (by decide), fit _ (by omega) (by omega)]
  simp
theorem RgC.by5 {n : Nat} (hn : n ≤ 100000) : RgC 0 ((5 * n : Nat) : Int) 5 n := by
  have e : Builtin.Range.rangeSize 0 ((5 * n : Nat) : Int) 5 = n := by
    unfold Builtin.Range.rangeSize
    simp only [show ((5 : Int) > 0) by decide, if_true]
    split <;> omega
  refine ⟨by decide, by decide, ?_, e⟩
  have fit : ∀ i : Int, 0 ≤ i → i ≤ 10000000 → Builtin.Range.rangeFitsLong i = true := fun i h1 h2 => by
    unfold Builtin.Range.rangeFitsLong
    rw [decide_eq_true (by omega), decide_eq_true (by omega)]
    rfl
  unfold Builtin.Range.small
  rw [e]
  rw [fit 0 (by omega) (by omega), fit _ (by omega) (by omega : (((5 * n : Nat) : Nat) : Int) ≤ 10000000), fit 5 (by omega) (by omega), fit (n : Int) (by omega) (by omega), if_pos (by decide), fit _ (by omega) (by omega)]
  simp
end L2
end
section
set_option maxRecDepth 100000
set_option maxHeartbeats 4000000
/-! Short words: calls by their promises; heaps that grow; comprehensions that map. -/
namespace Wn
open PySem PySem.Spec PyProof.Rows L2
abbrev St := L2.St
/-! ### calls by promises -/
/-- the def of the top called x keeps the promise sp -/
def Pr (P : Program) (w : World) (K : PySem.W.Frag) (mg : Str → Option Value) (base : Heap) (k : Nat) (x : Str) (ps : List Str) (sp : Sp) : Prop :=
  ∃ (f : Addr) (fd : FuncData), FnOk P w K mg base CX0 k f fd ps sp ∧ Binds K fd ps [] ∧ mg x = some (.ref f) ∧ PySem.W.keepIn K (.ref f) = true
/-- the class of the top called x, at C, is made by an __init__ that keeps the promise sp -/
def PrC (P : Program) (w : World) (K : PySem.W.Frag) (mg : Str → Option Value) (base : Heap) (k : Nat) (x : Str) (C : Addr) (ps : List Str) (sp : Sp) : Prop :=
  ∃ (f : Addr) (fd : FuncData), FnOk P w K mg base CX0 k f fd ps sp ∧ Binds K fd ps [] ∧ mg x = some (.ref C) ∧ Mk K C f
/-- the method m of the class at C keeps the promise sp -/
def PrM (P : Program) (w : World) (K : PySem.W.Frag) (mg : Str → Option Value) (base : Heap) (k : Nat) (m : Str) (C : Addr) (ps : List Str) (sp : Sp) : Prop :=
  ∃ (f : Addr) (fd : FuncData), FnOk P w K mg base CX0 k f fd ps sp ∧ Binds K fd ps [] ∧ Cls K C ∧ Meth K C m f
section
variable {X : Cx} {k : Nat} {C : Addr} {ps : List Str} {sp : Sp} {x m : Str} {p pos apos : Pos} {e o : Expr} {es : List Expr} {t : TA} {to : TE}
theorem pe_p (F : Pr X.prog X.w X.K X.mg X.base k x ps sp) (hr : Room k X.A) (hg : Gl X x) (ha : PA X (e :: es) t) (hdb : (x == ("__debug__" : Str)) = false := by decide)
    (he : starEach (e :: es) X.env = (false, eval e X.env) :: starEach es X.env := by rfl) (hpl : (backTo pos (starEach es X.env)).any (·.1) = false := by rfl) :
    PE X (.Call (.Name x p) (e :: es) [] pos) (tCall sp [] E0 t) := by
  obtain ⟨f, fd, F, b, m, kp⟩ := F
  exact pe_call F hr hg m kp b .nil pass0 ha hdb he hpl
theorem pe_pc (F : PrC X.prog X.w X.K X.mg X.base k x C ps sp) (hr : Room (k + 1) X.A) (hg : Gl X x) (ha : PA X (e :: es) t) (hdb : (x == ("__debug__" : Str)) = false := by decide)
    (he : starEach (e :: es) X.env = (false, eval e X.env) :: starEach es X.env := by rfl) (hpl : (backTo pos (starEach es X.env)).any (·.1) = false := by rfl) :
    PE X (.Call (.Name x p) (e :: es) [] pos) (tMake C sp [] E0 t) := by
  obtain ⟨f, fd, F, b, m, M⟩ := F
  exact pe_make M F hr hg m b .nil pass0 ha hdb he hpl
theorem pe_pc0 (F : PrC X.prog X.w X.K X.mg X.base k x C ps sp) (hr : Room (k + 1) X.A) (hg : Gl X x) (hdb : (x == ("__debug__" : Str)) = false := by decide) :
    PE X (.Call (.Name x p) [] [] pos) (tMake C sp [] E0 tNil) := by
  obtain ⟨f, fd, F, b, m, M⟩ := F
  exact pe_make0 M F hr hg m b .nil pass0 hdb
theorem pe_pm {pl : Sem Bool} (F : PrM X.prog X.w X.K X.mg X.base k m C ps sp) (he : PE X o to) (hr : Room k X.A) (ha : PA X (e :: es) t)
    (hst : starEach (e :: es) X.env = (false, eval e X.env) :: starEach es X.env := by rfl) (hpl : (backTo pos (starEach es X.env)).any (·.1) = false := by rfl)
    (ht : eval (.Call (.Attribute o m apos) (e :: es) [] pos) X.env = (do
      let ov ← eval o X.env
      standAt apos.atName
      let (f, first) ← holding [ov] (getMethod ov m pl)
      callWith pos f first (backTo pos (starEach (e :: es) X.env)) (backToKw pos (keywordEach [] X.env))) := by rfl) :
    PE X (.Call (.Attribute o m apos) (e :: es) [] pos) (tMeth C m sp [] E0 to t) := by
  obtain ⟨f, fd, F, b, c, M⟩ := F
  exact pe_meth he c M F hr b .nil pass0 ha hst hpl ht
end
theorem Pr.mono {P : Program} {w : World} {K : PySem.W.Frag} {mg : Str → Option Value} {base : Heap} {j k : Nat} {x : Str} {ps : List Str} {sp : Sp} (F : Pr P w K mg base j x ps sp) (h : j ≤ k) : Pr P w K mg base k x ps sp := by
  obtain ⟨f, fd, F, r⟩ := F
  exact ⟨f, fd, F.mono h, r⟩
/-- a field, within a comprehension -/
theorem pe_fldB (K : PySem.W.Frag) {X : Cx} {e : Expr} {f : Str} {pos : Pos} {ta : TE} (hK : X.K = K) (he : PE X e ta) (hb : attributeBase e f X.env (eval e X.env) = eval e X.env) : PE X (.Attribute e f pos) (tFld K ta f) := by
  subst hK
  exact pe_fld he hb
/-- a def of the top, as it stands behind it -/
structure GF (K : PySem.W.Frag) (mg : Str → Option Value) (x : Str) (st : Stmt) (ps : List Str) : Prop where
  ex : ∃ (f : Addr) (fd : FuncData), Fun K x x st f fd ∧ Binds K fd ps [] ∧ mg x = some (.ref f)
/-- a method (or __init__) of the class at C -/
structure GM (K : PySem.W.Frag) (C : Addr) (x qual : Str) (st : Stmt) (ps : List Str) : Prop where
  ex : ∃ (f : Addr) (fd : FuncData), Fun K x qual st f fd ∧ Binds K fd ps [] ∧ PySem.W.findIn K (.ref C) x = some (some (.ref f)) ∧ PySem.W.isFn K (.ref f) = true
section
variable {P : Program} {w : World} {K : PySem.W.Frag} {mg : Str → Option Value} {base : Heap}
theorem GF.pr {x : Str} {st : Stmt} {N ps : List Str} {k : Nat} {sp : Sp} (F : GF K mg x st ps) (S : FnScope N ps (defScope st)) (len : ∀ vs H Q E, sp vs H Q E → vs.length = ps.length)
    (hbody : ∀ (f : Addr) (cdv : Value) (A : Around) (outer : List Env) (s : Shared) (H : Hp) (vs : List V) (Q : VK) (E : XK), Room k (A.deeper (envOfC x (defScope st) s.heap.objs.size f cdv)) → sp vs H Q E →
      ∃ t, PSs (cxOf CX0 P w K mg base N x (defScope st) f cdv A outer s H E).nox (defBody st) t ∧ t { nx := fun _ H' => Q .non H', rt := Q } (start N vs) H) : Pr P w K mg base (k + 1) x ps sp := by
  obtain ⟨f, fd, F, b, m⟩ := F.ex
  exact ⟨f, fd, F.ok S len (fun cdv A outer s H vs Q E hr h => hbody f cdv A outer s H vs Q E hr h), b, m, F.kp⟩
theorem GM.prM {C : Addr} {x qual : Str} {st : Stmt} {N ps : List Str} {k : Nat} {sp : Sp} (F : GM K C x qual st ps) (cl : Cls K C) (S : FnScope N ps (defScope st)) (len : ∀ vs H Q E, sp vs H Q E → vs.length = ps.length)
    (hbody : ∀ (f : Addr) (cdv : Value) (A : Around) (outer : List Env) (s : Shared) (H : Hp) (vs : List V) (Q : VK) (E : XK), Room k (A.deeper (envOfC qual (defScope st) s.heap.objs.size f cdv)) → sp vs H Q E →
      ∃ t, PSs (cxOf CX0 P w K mg base N qual (defScope st) f cdv A outer s H E).nox (defBody st) t ∧ t { nx := fun _ H' => Q .non H', rt := Q } (start N vs) H) : PrM P w K mg base (k + 1) x C ps sp := by
  obtain ⟨f, fd, F, b, a, i⟩ := F.ex
  exact ⟨f, fd, F.ok S len (fun cdv A outer s H vs Q E hr h => hbody f cdv A outer s H vs Q E hr h), b, cl, ⟨a, i, F.kp⟩⟩
theorem GM.prC {C : Addr} {y qual : Str} {st : Stmt} {N ps : List Str} {k : Nat} {sp : Sp} (F : GM K C "__init__" qual st ps) (mk : PySem.W.makesIn K C = true) (kp : PySem.W.keepIn K (.ref C) = true) (my : mg y = some (.ref C)) (S : FnScope N ps (defScope st))
    (len : ∀ vs H Q E, sp vs H Q E → vs.length = ps.length)
    (hbody : ∀ (f : Addr) (cdv : Value) (A : Around) (outer : List Env) (s : Shared) (H : Hp) (vs : List V) (Q : VK) (E : XK), Room k (A.deeper (envOfC qual (defScope st) s.heap.objs.size f cdv)) → sp vs H Q E →
      ∃ t, PSs (cxOf CX0 P w K mg base N qual (defScope st) f cdv A outer s H E).nox (defBody st) t ∧ t { nx := fun _ H' => Q .non H', rt := Q } (start N vs) H) : PrC P w K mg base (k + 1) y C ps sp := by
  obtain ⟨f, fd, F, b, a, i⟩ := F.ex
  exact ⟨f, fd, F.ok S len (fun cdv A outer s H vs Q E hr h => hbody f cdv A outer s H vs Q E hr h), b, my, ⟨mk, a, i, kp⟩⟩
end
/-! ### heaps that grow -/
/-- what H' has beyond H -/
def newp (H H' : Hp) : Hp := fun b => match H b with
  | none => H' b
  | some _ => none
theorem newp_some {H H' : Hp} {b : Addr} {o : HO} (h : newp H H' b = some o) : H b = none ∧ H' b = some o := by
  unfold newp at h
  cases e : H b with
  | none => rw [e] at h; exact ⟨rfl, h⟩
  | some u => rw [e] at h; cases h
theorem newp_of {H H' : Hp} {b : Addr} {o : HO} (h : H b = none) (h' : H' b = some o) : newp H H' b = some o := by
  unfold newp
  rw [h]
  exact h'
theorem newp_le {H H' : Hp} : Same (newp H H') H' := fun b o h => (newp_some h).2
theorem newp_trans {H H1 H2 : Hp} (s : Same H1 H2) : Same (newp H H1) (newp H H2) := fun b o h => newp_of (newp_some h).1 (s b o (newp_some h).2)
theorem newp_old {H H1 H2 : Hp} (s : Same H H1) : Same (newp H1 H2) (newp H H2) := fun b o h => newp_of (s.free (newp_some h).1) (newp_some h).2
theorem same_upd_new {H : Hp} {a : Addr} {o : HO} (h : H a = none) : Same H (upd H a o) := fun b u e => by
  rw [upd_ne (ne_of_none e h)]
  exact e
theorem same_upd_of {G H : Hp} {a : Addr} {o : HO} (s : Same G H) (h : G a = none) : Same G (upd H a o) := fun b u e => by
  rw [upd_ne (ne_of_none e h)]
  exact s b u e
/-- an address that stood ahead stands apart from what is new -/
theorem newp_old_none {H H' : Hp} {b : Addr} {o : HO} (h : H b = some o) : newp H H' b = none := by
  unfold newp
  rw [h]
/-- a fresh instance -/
theorem made_same {H : Hp} {x dx C : Addr} {fs : List (Str × V)} (nx : H x = none) (nd : H dx = none) : Same H (upd (upd (upd H dx (.own x)) x (.ins C dx [])) x (.ins C dx fs)) := fun b o e => by
  rw [upd_ne (ne_of_none e nx), upd_ne (ne_of_none e nx), upd_ne (ne_of_none e nd)]
  exact e
theorem made_new {H : Hp} {x dx C : Addr} {fs : List (Str × V)} (nx : H x = none) : newp H (upd (upd (upd H dx (.own x)) x (.ins C dx [])) x (.ins C dx fs)) x = some (.ins C dx fs) := newp_of nx upd_same
/-! ### pairs -/
theorem paired_mono {α β : Type} {F G : α → β → Prop} {l : List α} {m : List β} (h : Paired F l m) (i : ∀ a b, F a b → G a b) : Paired G l m := Paired.imp' i h
theorem paired_len {α β : Type} {F : α → β → Prop} : ∀ {l : List α} {m : List β}, Paired F l m → l.length = m.length
  | _, _, .nil => rfl
  | _, _, .cons _ t => by rw [List.length_cons, List.length_cons, paired_len t]
theorem paired_at {α β : Type} {F : α → β → Prop} : ∀ {l : List α} {m : List β} {i : Nat} {a : α}, Paired F l m → l[i]? = some a → ∃ b, m[i]? = some b ∧ F a b
  | _, _, _, _, .nil, h => by simp at h
  | _, _, 0, _, .cons h1 _, h => by
    simp at h
    subst h
    exact ⟨_, rfl, h1⟩
  | _, _, i + 1, _, .cons _ t, h => by
    rw [List.getElem?_cons_succ] at h
    obtain ⟨b, e, f⟩ := paired_at t h
    exact ⟨b, by rw [List.getElem?_cons_succ]; exact e, f⟩
theorem paired_at' {α β : Type} {F : α → β → Prop} : ∀ {l : List α} {m : List β} {i : Nat} {b : β}, Paired F l m → m[i]? = some b → ∃ a, l[i]? = some a ∧ F a b
  | _, _, _, _, .nil, h => by simp at h
  | _, _, 0, _, .cons h1 _, h => by
    simp at h
    subst h
    exact ⟨_, rfl, h1⟩
  | _, _, i + 1, _, .cons _ t, h => by
    rw [List.getElem?_cons_succ] at h
    obtain ⟨b, e, f⟩ := paired_at' t h
    exact ⟨b, by rw [List.getElem?_cons_succ]; exact e, f⟩
theorem paired_snoc {α β : Type} {F : α → β → Prop} {l : List α} {m : List β} {a : α} {b : β} (h : Paired F l m) (f : F a b) : Paired F (l ++ [a]) (m ++ [b]) := Paired.snoc h f
theorem paired_refs {β : Type} {R : V → β → Prop} {S : Addr → β → Prop} (hR : ∀ v y, R v y → ∃ a, v = .ref a ∧ S a y) : ∀ {l : List V} {m : List β}, Paired R l m → ∃ as : List Addr, l = as.map V.ref ∧ Paired S as m
  | _, _, .nil => ⟨[], rfl, .nil⟩
  | _, _, .cons h t => by
    obtain ⟨a, e, s⟩ := hR _ _ h
    obtain ⟨as, e', t'⟩ := paired_refs hR t
    exact ⟨a :: as, by rw [e, e']; rfl, .cons s t'⟩
theorem paired_map {β : Type} {f : β → V} : ∀ {l : List V} {m : List β}, Paired (fun v y => v = f y) l m → l = m.map f
  | _, _, .nil => rfl
  | _, _, .cons h t => by rw [h, paired_map t]; rfl
theorem take_snoc {α : Type} : ∀ {l : List α} {i : Nat} {x : α}, l[i]? = some x → l.take (i + 1) = l.take i ++ [x]
  | [], i, x, h => by simp at h
  | a :: l, 0, x, h => by
    have e : a = x := Option.some.inj h
    subst e
    rfl
  | a :: l, i + 1, x, h => by
    have ih := take_snoc (l := l) (i := i) (x := x) h
    show a :: l.take (i + 1) = a :: l.take i ++ [x]
    rw [ih]
    rfl
theorem map_at {α : Type} {f : α → V} {l : List α} {i : Nat} {v : V} (h : (l.map f)[i]? = some v) : ∃ z, l[i]? = some z ∧ v = f z := by
  rw [List.getElem?_map] at h
  cases e : l[i]? with
  | none => rw [e] at h; cases h
  | some z => rw [e] at h; exact ⟨z, rfl, (Option.some.inj h).symm⟩
theorem small_line {n : Nat} (h : n ≤ 1000000) : n ≤ sizeLine := Nat.le_trans h (by decide)
theorem small_lt {n : Nat} (h : n ≤ 1000000) : n < sizeLine := Nat.lt_of_le_of_lt h (by decide)
/-! ### a comprehension [e for x in xs] that only adds objects -/
theorem wipe_one (σ : St) (i : Nat) (x : V) : wipe ((wipe σ [i]).set i (some x)) [i] = wipe σ [i] := by
  show ((σ.set i none).set i (some x)).set i none = σ.set i none
  rw [List.set_set, List.set_set]
/-- what is known of a comprehension's list D and the heap, n items in -/
structure LcI {β : Type} (R : Hp → V → β → Prop) (H1 : Hp) (D : Addr) (ys : List β) (n : Nat) (H : Hp) : Prop where
  same : Same H1 H
  at_ : ∃ acc, H D = some (.lst acc) ∧ Paired (R (newp (upd H1 D (.lst [])) H)) acc (ys.take n)
theorem LcI.start {β : Type} {R : Hp → V → β → Prop} {H1 : Hp} {D : Addr} {ys : List β} (h : H1 D = none) : LcI R H1 D ys 0 (upd H1 D (.lst [])) :=
  ⟨same_upd_new h, [], upd_same, .nil⟩
theorem LcI.next {β : Type} {R : Hp → V → β → Prop} (hR : ∀ G G' v y, Same G G' → R G v y → R G' v y) {H1 H H' : Hp} {D : Addr} {ys : List β} {n : Nat} {v : V} {y : β} (hD : H1 D = none) (hz : ys.length ≤ 1000000) (L : LcI R H1 D ys n H) (hy : ys[n]? = some y)
    (s : Same H H') (hv : R (newp H H') v y) : ∃ acc, H' D = some (.lst acc) ∧ acc.length < sizeLine ∧ LcI R H1 D ys (n + 1) (upd H' D (.lst (acc ++ [v]))) := by
  obtain ⟨s1, acc, e, p⟩ := L
  have hlt : n < ys.length := (List.getElem?_eq_some_iff.mp hy).1
  have hl : acc.length = n := by
    have := paired_len p
    rw [List.length_take] at this
    omega
  have s2 : Same H1 H' := s1.trans s
  refine ⟨acc, s D _ e, small_lt (by omega), same_upd_of s2 hD, _, upd_same, ?_⟩
  rw [take_snoc hy]
  refine paired_snoc (paired_mono p fun a b r => hR _ _ a b (fun c o h => ?_) r) (hR _ _ v y (fun c o h => ?_) hv)
  · obtain ⟨h1, h2⟩ := newp_some h
    have hc : c ≠ D := fun q => by rw [q, upd_same] at h1; cases h1
    exact newp_of h1 (by rw [upd_ne hc]; exact s c o h2)
  · obtain ⟨h1, h2⟩ := newp_some h
    have hc : c ≠ D := fun q => by rw [q, e] at h1; cases h1
    exact newp_of (by rw [upd_ne hc]; exact s1.free h1) (by rw [upd_ne hc]; exact h2)
theorem lc_mapL {β : Type} {R : Hp → V → β → Prop} (hR : ∀ G G' v y, Same G G' → R G v y → R G' v y) {K : PySem.W.Frag} {a D : Addr} {xs : List V} {ys : List β} {te : TE} {i : Nat} {σ : St} {H1 : Hp} {Qd : Hp → Prop}
    (hD : H1 D = none) (hz : ys.length ≤ 1000000) (hlen : xs.length = ys.length) (hl : SqL K H1 a xs)
    (hs : ∀ (n : Nat) (x : V) (y : β) (H : Hp), xs[n]? = some x → ys[n]? = some y → Same H1 H → ∀ Qv : VK, (∀ v H4, Same H H4 → R (newp H H4) v y → Qv v H4) → te ((wipe σ [i]).set i (some x)) H Qv)
    (hd : ∀ H acc, Same H1 H → H D = some (.lst acc) → Paired (R (newp (upd H1 D (.lst [])) H)) acc ys → Qd H) :
    ∃ W : Nat → Nat → Hp → Prop, (∃ m, W 0 m (upd H1 D (.lst []))) ∧ ∀ n m H, W n m H →
      ((Itl K a).stop n H ∧ Qd H) ∨ ((Itl K a).go n H ∧ ∃ Nx : Hp → Prop, (∀ H', Nx H' → ∃ m', m' < m ∧ W (n + 1) m' H') ∧ ∀ x H', (Itl K a).yld n H x H' → gName i x (wipe σ [i]) H' fun σ2 H2 => wipe σ2 [i] = wipe σ [i] ∧ tYes σ2 H2 fun b H3 =>
        if b = true then te σ2 H3 fun y H4 => ∃ acc, H4 D = some (.lst acc) ∧ acc.length < sizeLine ∧ Nx (upd H4 D (.lst (acc ++ [y]))) else Nx H3) := by
  refine lc_list (K := K) (a := a) (xs := xs) (fun n H => LcI R H1 D ys n H) (LcI.start hD) (fun n H _ L => L.same.seq hl) (fun n x H hx L => ?_) (fun H L => ?_)
  · obtain ⟨y, hy⟩ : ∃ y, ys[n]? = some y := by
      have : n < ys.length := by rw [← hlen]; exact (List.getElem?_eq_some_iff.mp hx).1
      exact ⟨_, List.getElem?_eq_getElem this⟩
    refine ⟨wipe_one σ i x, ?_⟩
    exact hs n x y H hx hy L.same _ fun v H4 s hv => L.next hR hD hz hy s hv
  · obtain ⟨s1, acc, e, p⟩ := L
    rw [hlen, List.take_length] at p
    exact hd H acc s1 e p
theorem lc_mapC {β : Type} {R : Hp → V → β → Prop} (hR : ∀ G G' v y, Same G G' → R G v y → R G' v y) {D : Addr} {lo c : Int} {n : Nat} {ys : List β} {te : TE} {i : Nat} {σ : St} {H1 : Hp} {Qd : Hp → Prop}
    (hD : H1 D = none) (hz : ys.length ≤ 1000000) (hlen : n = ys.length)
    (hs : ∀ (j : Nat) (y : β) (H : Hp), ys[j]? = some y → Same H1 H → ∀ Qv : VK, (∀ v H4, Same H H4 → R (newp H H4) v y → Qv v H4) → te ((wipe σ [i]).set i (some (.int (lo + (j : Nat) * c)))) H Qv)
    (hd : ∀ H acc, Same H1 H → H D = some (.lst acc) → Paired (R (newp (upd H1 D (.lst [])) H)) acc ys → Qd H) :
    ∃ W : Nat → Nat → Hp → Prop, (∃ m, W 0 m (upd H1 D (.lst []))) ∧ ∀ j m H, W j m H →
      ((Itc lo c n).stop j H ∧ Qd H) ∨ ((Itc lo c n).go j H ∧ ∃ Nx : Hp → Prop, (∀ H', Nx H' → ∃ m', m' < m ∧ W (j + 1) m' H') ∧ ∀ x H', (Itc lo c n).yld j H x H' → gName i x (wipe σ [i]) H' fun σ2 H2 => wipe σ2 [i] = wipe σ [i] ∧ tYes σ2 H2 fun b H3 =>
        if b = true then te σ2 H3 fun y H4 => ∃ acc, H4 D = some (.lst acc) ∧ acc.length < sizeLine ∧ Nx (upd H4 D (.lst (acc ++ [y]))) else Nx H3) := by
  refine lc_rangeC (fun n H => LcI R H1 D ys n H) (LcI.start hD) (fun j H hj L => ?_) (fun H L => ?_)
  · obtain ⟨y, hy⟩ : ∃ y, ys[j]? = some y := ⟨_, List.getElem?_eq_getElem (by omega)⟩
    refine ⟨wipe_one σ i _, ?_⟩
    exact hs j y H hy L.same _ fun v H4 s hv => L.next hR hD hz hy s hv
  · obtain ⟨s1, acc, e, p⟩ := L
    rw [hlen, List.take_length] at p
    exact hd H acc s1 e p
theorem lc_mapR {β : Type} {R : Hp → V → β → Prop} (hR : ∀ G G' v y, Same G G' → R G v y → R G' v y) {D : Addr} {lo : Int} {n : Nat} {ys : List β} {te : TE} {i : Nat} {σ : St} {H1 : Hp} {Qd : Hp → Prop}
    (hD : H1 D = none) (hz : ys.length ≤ 1000000) (hlen : n = ys.length)
    (hs : ∀ (j : Nat) (y : β) (H : Hp), ys[j]? = some y → Same H1 H → ∀ Qv : VK, (∀ v H4, Same H H4 → R (newp H H4) v y → Qv v H4) → te ((wipe σ [i]).set i (some (.int (lo + (j : Nat))))) H Qv)
    (hd : ∀ H acc, Same H1 H → H D = some (.lst acc) → Paired (R (newp (upd H1 D (.lst [])) H)) acc ys → Qd H) :
    ∃ W : Nat → Nat → Hp → Prop, (∃ m, W 0 m (upd H1 D (.lst []))) ∧ ∀ j m H, W j m H →
      ((Itr lo n).stop j H ∧ Qd H) ∨ ((Itr lo n).go j H ∧ ∃ Nx : Hp → Prop, (∀ H', Nx H' → ∃ m', m' < m ∧ W (j + 1) m' H') ∧ ∀ x H', (Itr lo n).yld j H x H' → gName i x (wipe σ [i]) H' fun σ2 H2 => wipe σ2 [i] = wipe σ [i] ∧ tYes σ2 H2 fun b H3 =>
        if b = true then te σ2 H3 fun y H4 => ∃ acc, H4 D = some (.lst acc) ∧ acc.length < sizeLine ∧ Nx (upd H4 D (.lst (acc ++ [y]))) else Nx H3) := by
  refine lc_range (fun n H => LcI R H1 D ys n H) (LcI.start hD) (fun j H hj L => ?_) (fun H L => ?_)
  · obtain ⟨y, hy⟩ : ∃ y, ys[j]? = some y := ⟨_, List.getElem?_eq_getElem (by omega)⟩
    refine ⟨wipe_one σ i _, ?_⟩
    exact hs j y H hy L.same _ fun v H4 s hv => L.next hR hD hz hy s hv
  · obtain ⟨s1, acc, e, p⟩ := L
    rw [hlen, List.take_length] at p
    exact hd H acc s1 e p
/-! ### loops and comprehensions over any iterator -/
theorem for_it {J : It} {n : Nat} {g : TG} {tb : TS} {D : Ends} {σ : St} {H : Hp} (Pv : Nat → St → Hp → Prop) (h0 : Pv 0 σ H) (hgo : ∀ i σ H, i < n → Pv i σ H → J.go i H) (hst : ∀ σ H, Pv n σ H → J.stop n H)
    (hs : ∀ i x σ H H', i < n → Pv i σ H → J.yld i H x H' → g x σ H' fun σ2 H2 => tb { D with nx := Pv (i + 1), ct := Pv (i + 1), bk := D.nx } σ2 H2) (hd : ∀ σ H, Pv n σ H → D.nx σ H) :
    ∃ W : Nat → Nat → St → Hp → Prop, (∃ m, W 0 m σ H) ∧ ∀ i m σ H, W i m σ H →
      (J.stop i H ∧ D.nx σ H) ∨ (J.go i H ∧ ∃ N : St → Hp → Prop, (∀ σ' H', N σ' H' → ∃ m', m' < m ∧ W (i + 1) m' σ' H') ∧ ∀ x H', J.yld i H x H' → g x σ H' fun σ2 H2 => tb { D with nx := N, ct := N, bk := D.nx } σ2 H2) := by
  refine ⟨fun i m σ H => m = n - i ∧ i ≤ n ∧ Pv i σ H, ⟨n, by simp, Nat.zero_le _, h0⟩, ?_⟩
  rintro i m σ H ⟨rfl, hi, p⟩
  by_cases hlt : i < n
  · exact .inr ⟨hgo i σ H hlt p, Pv (i + 1), fun σ' H' p' => ⟨n - (i + 1), by omega, rfl, hlt, p'⟩, fun x H' y => hs i x σ H H' hlt p y⟩
  · have e : i = n := by omega
    subst e
    exact .inl ⟨hst σ H p, hd σ H p⟩
theorem lc_it {J : It} {n : Nat} {g : TG} {tt : TT} {te : TE} {vs : List Nat} {σ : St} {H1 : Hp} {D : Addr} {Qd : Hp → Prop} (Pv : Nat → Hp → Prop) (h0 : Pv 0 (upd H1 D (.lst []))) (hgo : ∀ i H, i < n → Pv i H → J.go i H) (hst : ∀ H, Pv n H → J.stop n H)
    (hs : ∀ i x H H', i < n → Pv i H → J.yld i H x H' → g x (wipe σ vs) H' fun σ2 H2 => wipe σ2 vs = wipe σ vs ∧ tt σ2 H2 fun b H3 =>
      if b = true then te σ2 H3 fun y H4 => ∃ acc, H4 D = some (.lst acc) ∧ acc.length < sizeLine ∧ Pv (i + 1) (upd H4 D (.lst (acc ++ [y]))) else Pv (i + 1) H3) (hd : ∀ H, Pv n H → Qd H) :
    ∃ W : Nat → Nat → Hp → Prop, (∃ m, W 0 m (upd H1 D (.lst []))) ∧ ∀ i m H, W i m H →
      (J.stop i H ∧ Qd H) ∨ (J.go i H ∧ ∃ Nx : Hp → Prop, (∀ H', Nx H' → ∃ m', m' < m ∧ W (i + 1) m' H') ∧ ∀ x H', J.yld i H x H' → g x (wipe σ vs) H' fun σ2 H2 => wipe σ2 vs = wipe σ vs ∧ tt σ2 H2 fun b H3 =>
        if b = true then te σ2 H3 fun y H4 => ∃ acc, H4 D = some (.lst acc) ∧ acc.length < sizeLine ∧ Nx (upd H4 D (.lst (acc ++ [y]))) else Nx H3) := by
  refine ⟨fun i m H => m = n - i ∧ i ≤ n ∧ Pv i H, ⟨n, by simp, Nat.zero_le _, h0⟩, ?_⟩
  rintro i m H ⟨rfl, hi, p⟩
  by_cases hlt : i < n
  · exact .inr ⟨hgo i H hlt p, Pv (i + 1), fun H' p' => ⟨n - (i + 1), by omega, rfl, hlt, p'⟩, fun x H' y => hs i x H H' hlt p y⟩
  · have e : i = n := by omega
    subst e
    exact .inl ⟨hst H p, hd H p⟩
/-! ### slices -/
theorem cut_to (xs : List V) (j : Nat) : cutV xs none (some (j : Int)) = xs.take j := by
  unfold cutV
  rw [HT.sIx_none, HT.sIx_nat, List.drop_zero, Nat.sub_zero]
  by_cases h : j ≤ xs.length
  · rw [Nat.min_eq_left h]
  · rw [Nat.min_eq_right (by omega), List.take_of_length_le (Nat.le_refl _), List.take_of_length_le (by omega)]
theorem cut_ft (xs : List V) (i j : Nat) (h : i ≤ xs.length) : cutV xs (some (i : Int)) (some (j : Int)) = (xs.drop i).take (j - i) := by
  unfold cutV
  rw [HT.sIx_nat, HT.sIx_nat, Nat.min_eq_left h]
  by_cases h2 : j ≤ xs.length
  · rw [Nat.min_eq_left h2]
  · rw [Nat.min_eq_right (by omega), List.take_of_length_le (by rw [List.length_drop]; exact Nat.le_refl _), List.take_of_length_le (by rw [List.length_drop]; omega)]
theorem cut_from (xs : List V) (i : Nat) (h : i ≤ xs.length) : cutV xs (some (i : Int)) none = xs.drop i := by
  unfold cutV
  rw [HT.sIx_none, HT.sIx_nat, Nat.min_eq_left h]
  exact List.take_of_length_le (by rw [List.length_drop]; exact Nat.le_refl _)
/-! ### globals -/
def GInt (mg : Str → Option Value) (x : Str) (i : Int) : Prop := ∃ t, mg x = some (.int i t)
theorem pe_gi {X : Cx} {x : Str} {i : Int} {pos : Pos} (h : GInt X.mg x i) (hg : Gl X x) (hd : (x == ("__debug__" : Str)) = false := by decide) : PE X (.Name x pos) (tC (.int i)) := by
  obtain ⟨t, e⟩ := h
  exact pe_glob hg e ⟨t, rfl⟩ hd
/-- H' is H but for what stands at p -/
def Set1 (H : Hp) (p : Addr) (o : HO) (H' : Hp) : Prop := H' p = some o ∧ ∀ b, b ≠ p → H' b = H b
theorem Set1.upd {H : Hp} {p : Addr} {o : HO} : Set1 H p o (upd H p o) := ⟨upd_same, fun _ h => upd_ne h⟩
theorem Set1.over {H H1 : Hp} {p : Addr} {o u : HO} (h : Set1 H p o H1) : Set1 H p u (L2.upd H1 p u) := ⟨upd_same, fun b hb => by rw [upd_ne hb]; exact h.2 b hb⟩
theorem Set1.made {H H' : Hp} {x dx C : Addr} {fs : List (Str × V)} (nx : H x = none) (nd : H dx = none) (h : Set1 (L2.upd (L2.upd H dx (.own x)) x (.ins C dx [])) x (.ins C dx fs) H') : Same H H' ∧ newp H H' x = some (.ins C dx fs) := by
  refine ⟨fun b o e => ?_, newp_of nx h.1⟩
  rw [h.2 b (ne_of_none e nx), upd_ne (ne_of_none e nx), upd_ne (ne_of_none e nd)]
  exact e
end Wn
end
section
set_option maxRecDepth 100000
set_option maxHeartbeats 4000000
namespace Wn
open PySem PySem.Spec PyProof.Rows L2
/-! ### the text by places -/
def top (i : Nat) : Stmt := PySem.Challenge.pw_whynone_s01_answers.main.body.getD i (.Pass ⟨0, 0, 0, 0⟩)
abbrev s_Bound_init : Stmt := inClass (top 5) 0
abbrev s_read_bound : Stmt := top 6
abbrev s_read_bounds : Stmt := top 7
abbrev s_opposite : Stmt := top 8
abbrev s_bound_as_told : Stmt := top 9
abbrev s_never_holds : Stmt := top 10
abbrev s_bound_holds : Stmt := top 11
abbrev s_Fact_init : Stmt := inClass (top 20) 0
abbrev s_read_fact : Stmt := top 21
abbrev s_read_facts : Stmt := top 22
abbrev s_f_and_b_as_told : Stmt := top 23
abbrev s_fact_as_told : Stmt := top 24
abbrev s_made_tables : Stmt := top 25
abbrev s_way_up : Stmt := top 26
abbrev s_each_made_once : Stmt := top 27
abbrev s_table_that_decides : Stmt := top 28
abbrev s_place_of : Stmt := top 29
abbrev s_facts_hold : Stmt := top 30
abbrev s_Plan_init : Stmt := inClass (top 36) 0
abbrev s_read_plan : Stmt := top 37
abbrev s_range_as_told : Stmt := top 38
abbrev s_ranges_as_told : Stmt := top 39
abbrev s_facts_as_told : Stmt := top 40
abbrev s_some_as_told : Stmt := top 41
abbrev s_somes_as_told : Stmt := top 42
abbrev s_plan_as_told : Stmt := top 43
abbrev s_within_ranges : Stmt := top 44
abbrev s_some_holds : Stmt := top 45
abbrev s_numbers_meet : Stmt := top 46
abbrev s_Call_init : Stmt := inClass (top 48) 0
abbrev s_read_row : Stmt := top 49
abbrev s_read_call : Stmt := top 50
abbrev s_read_calls : Stmt := top 51
abbrev s_gap_bound : Stmt := top 57
abbrev s_apart : Stmt := top 58
abbrev s_beside : Stmt := top 59
abbrev s_same_function : Stmt := top 60
abbrev s_passed_to_written : Stmt := top 61
abbrev s_tables_up : Stmt := top 62
abbrev s_passed_to_meeting : Stmt := top 63
abbrev s_passed_facts : Stmt := top 64
abbrev s_last_bound : Stmt := top 65
abbrev s_lesson_bounds : Stmt := top 66
abbrev s_Recipe_init : Stmt := inClass (top 74) 0
abbrev s_read_recipe : Stmt := top 75
abbrev s_row_as_told : Stmt := top 76
abbrev s_times_as_told : Stmt := top 77
abbrev s_recipe_as_told : Stmt := top 78
abbrev s_added : Stmt := top 79
abbrev s_divides : Stmt := top 80
abbrev s_divided : Stmt := top 81
abbrev s_sum_bound : Stmt := top 82
abbrev s_Reasons_init : Stmt := inClass (top 85) 0
abbrev s_Reasons_begin : Stmt := inClass (top 85) 1
abbrev s_Reasons_cases : Stmt := inClass (top 85) 2
abbrev s_Reasons_some : Stmt := inClass (top 85) 3
abbrev s_Reasons_lesson : Stmt := inClass (top 85) 4
abbrev s_Reasons_add_up : Stmt := inClass (top 85) 5
abbrev s_Reasons_holds : Stmt := inClass (top 85) 6
abbrev s_Reasons_how_many : Stmt := inClass (top 85) 7
abbrev s_Reasons_branch_out : Stmt := inClass (top 85) 8
abbrev s_meets : Stmt := top 96
abbrev s_answer_line : Stmt := top 97
abbrev s_answer : Stmt := top 98
abbrev s_answers : Stmt := top 99
/-! ### the data -/
structure Ads where
  B : Addr
  F : Addr
  P : Addr
  C : Addr
  R : Addr
  S : Addr
def bndF (c : V) (d : V) : List (Str × V) := putF "d" d (putF "c" c [])
theorem bnd_c (c d : V) : (bndF c d).lookup ("c" : Str) = some c := by
  unfold bndF
  rw [lookup_putF, if_neg (by decide +kernel), lookup_putF, if_pos rfl]
theorem bnd_d (c d : V) : (bndF c d).lookup ("d" : Str) = some d := by
  unfold bndF
  rw [lookup_putF, if_pos rfl]
def IntsAt (G : Hp) (a : Addr) (ns : List Int) : Prop := G a = some (.lst (ns.map V.int))
theorem IntsAt.mono {G G' : Hp} {a : Addr} {ns : List Int} (s : Same G G') (h : IntsAt G a ns) : IntsAt G' a ns := s _ _ h
def BoundAt (A : Ads) (G : Hp) (b : Addr) (l : Kh219.Le) : Prop := ∃ dx ca, G b = some (.ins A.B dx (bndF (.ref ca) (.int l.d))) ∧ IntsAt G ca l.c
theorem BoundAt.mono {A : Ads} {G G' : Hp} {b : Addr} {l : Kh219.Le} (s : Same G G') (h : BoundAt A G b l) : BoundAt A G' b l := by
  obtain ⟨dx, ca, h1, h2⟩ := h
  exact ⟨dx, ca, s _ _ h1, s _ _ h2⟩
def SomeAt (A : Ads) (G : Hp) (a : Addr) (s : List Kh219.Le) : Prop := ∃ bs : List Addr, G a = some (.lst (bs.map V.ref)) ∧ Paired (BoundAt A G) bs s
theorem SomeAt.mono {A : Ads} {G G' : Hp} {b : Addr} {l : List Kh219.Le} (s : Same G G') (h : SomeAt A G b l) : SomeAt A G' b l := by
  obtain ⟨bs, h1, h2⟩ := h
  exact ⟨bs, s _ _ h1, paired_mono h2 fun a b => BoundAt.mono s⟩
/-! ### what the top has: numbers, names that stand for the built-ins -/
structure TxtB (K : PySem.W.Frag) (mg : Str → Option Value) (A : Ads) : Prop where
  cl : Cls K A.B
  nc : NoAttr K A.B "c"
  nd : NoAttr K A.B "d"
  ROW : GInt mg "ROW" 12
  MOST_C : GInt mg "MOST_C" 1000
  LEAST_D : GInt mg "LEAST_D" (-1000000)
  MOST_D : GInt mg "MOST_D" 999999
structure TxtG (mg : Str → Option Value) : Prop where
  range : mg "range" = none
  len : mg "len" = none
  sum : mg "sum" = none
  all : mg "all" = none
  any : mg "any" = none
  abs : mg "abs" = none
  enumerate : mg "enumerate" = none
  zip : mg "zip" = none
/-! ### bounds: the promises -/
def spBoundInit (A : Ads) : Sp := fun vs H Q _ => ∃ (p dx : Addr) (c d : V), vs = [.ref p, c, d] ∧ H p = some (.ins A.B dx []) ∧ ∀ H', Set1 H p (.ins A.B dx (bndF c d)) H' → Q .non H'
def spReadBound (A : Ads) : Sp := fun vs H Q _ => ∃ (a : Addr) (ns : List Int), vs = [.ref a] ∧ IntsAt H a ns ∧ 13 ≤ ns.length ∧ ∀ H' b, Same H H' → BoundAt A (newp H H') b (Kh219Neutral.le ns) → Q (.ref b) H'
def spReadBounds (A : Ads) : Sp := fun vs H Q _ => ∃ (a : Addr) (ns : List Int), vs = [.ref a] ∧ IntsAt H a ns ∧ ns.length % 13 = 0 ∧ ns.length ≤ 30000 ∧ ∀ H' b, Same H H' → SomeAt A (newp H H') b (Kh219Neutral.some_ ns) → Q (.ref b) H'
def spOpposite (A : Ads) : Sp := fun vs H Q _ => ∃ (b : Addr) (l : Kh219.Le), vs = [.ref b] ∧ BoundAt A H b l ∧ l.c.length = 12 ∧ ∀ H' b', Same H H' → BoundAt A (newp H H') b' l.opposite → Q (.ref b') H'
def spBoundAsTold (A : Ads) : Sp := fun vs H Q _ => ∃ (b : Addr) (l : Kh219.Le) (n : Nat), vs = [.ref b, .int n] ∧ BoundAt A H b l ∧ l.c.length = 12 ∧ ∀ H', Same H H' → Q (.bl (Kh219.okLe n l)) H'
def spBoundHolds (A : Ads) : Sp := fun vs H Q _ => ∃ (b a : Addr) (l : Kh219.Le) (xs : List Int), vs = [.ref b, .ref a] ∧ BoundAt A H b l ∧ l.c.length = 12 ∧ IntsAt H a xs ∧ xs.length = 12 ∧ (∀ z ∈ xs, -2147483648 ≤ z ∧ z ≤ 2147483647) ∧
  ∀ H', Same H H' → Q (.bl (l.holds fun k => xs.getD k 0)) H'
section
variable {P : Program} {w : World} {K : PySem.W.Frag} {mg : Str → Option Value} {base : Heap} {A : Ads}
theorem sc_Bound_init : FnScope ["self", "c", "d"] ["self", "c", "d"] (defScope s_Bound_init) := ⟨rfl, rfl, rfl, by decide +kernel, rfl, by decide +kernel, by decide +kernel⟩
theorem ok_Bound_init (F : GM K A.B "__init__" "Bound.__init__" s_Bound_init ["self", "c", "d"]) (mk : PySem.W.makesIn K A.B = true) (kp : PySem.W.keepIn K (.ref A.B) = true) (my : mg "Bound" = some (.ref A.B)) (T : TxtB K mg A) :
    PrC P w K mg base 1 "Bound" A.B ["self", "c", "d"] (spBoundInit A) := by
  refine F.prC mk kp my sc_Bound_init (fun vs H Q E h => ?_) (fun f cdv Ar outer s H vs Q E hr h => ?_)
  · obtain ⟨p, dx, c, d, rfl, _⟩ := h
    rfl
  · obtain ⟨p, dx, c, d, rfl, hp, k⟩ := h
    refine ⟨_, pss_cons (ps_fld (pv 0) (pv 1) rfl) (pss_one (ps_fld (pv 0) (pv 2) rfl)), ?_⟩
    refine ⟨_, rfl, _, rfl, p, A.B, dx, [], rfl, hp, T.cl, T.nc, (by show 0 < 1000; decide), _, rfl, _, rfl, p, A.B, dx, _, rfl, upd_same, T.cl, T.nd, (by show 1 < 1000; decide), ?_⟩
    exact k _ (Set1.over Set1.upd)
theorem sc_read_bound : FnScope ["numbers"] ["numbers"] (defScope s_read_bound) := ⟨rfl, rfl, rfl, by decide +kernel, rfl, by decide +kernel, by decide +kernel⟩
theorem ok_read_bound (F : GF K mg "read_bound" s_read_bound ["numbers"]) (PB : PrC P w K mg base 1 "Bound" A.B ["self", "c", "d"] (spBoundInit A)) (T : TxtB K mg A) :
    Pr P w K mg base 3 "read_bound" ["numbers"] (spReadBound A) := by
  refine F.pr sc_read_bound (fun vs H Q E h => ?_) (fun f cdv Ar outer s H vs Q E hr h => ?_)
  · obtain ⟨a, ns, rfl, _⟩ := h
    rfl
  · obtain ⟨a, ns, rfl, ha, hlen, k⟩ := h
    refine ⟨_, pss_one (ps_ret (pe_pc PB hr rfl (pa_cons (pe_slice sl_list (pv 0) po_none (po_some (pe_gi T.ROW rfl))) (pa_cons (pe_ix ix_list (pv 0) (pe_gi T.ROW rfl) (fun _ _ => rfl)) pa_nil)))), ?_⟩
    refine ⟨_, rfl, 12, rfl, a, _, rfl, SqL.of ha, fun p hp => ?_⟩
    have s1 : Same H (upd H p (.lst (cutV (ns.map V.int) none (some 12)))) := same_upd_new hp
    have h12 : ns[12]? = some (ns.getD 12 0) := by rw [List.getD_eq_getElem?_getD, List.getElem?_eq_getElem (by omega)]; rfl
    refine ⟨_, rfl, a, _, 12, .int (ns.getD 12 0), rfl, rfl, SqL.of (s1 _ _ ha), atI_nat (j := 12) (by rw [List.getElem?_map, h12]; rfl), fun x dx nx ndx ne => ?_⟩
    refine ⟨x, dx, _, _, rfl, upd_same, fun H' hs => ⟨rfl, ?_⟩⟩
    obtain ⟨s2, n2⟩ := Set1.made nx ndx hs
    refine k H' x (s1.trans s2) ⟨dx, p, newp_old s1 _ _ n2, newp_of hp (s2 _ _ ?_)⟩
    rw [upd_same, show (12 : Int) = ((12 : Nat) : Int) from rfl, cut_to (ns.map V.int) 12, ← List.map_take]
    rfl
end
end Wn
end
section
set_option maxRecDepth 100000
set_option maxHeartbeats 4000000
namespace Wn
open PySem PySem.Spec PyProof.Rows L2
section
variable {P : Program} {w : World} {K : PySem.W.Frag} {mg : Str → Option Value} {base : Heap} {A : Ads}
def RBound (A : Ads) : Hp → V → Kh219.Le → Prop := fun G v l => ∃ b, v = .ref b ∧ BoundAt A G b l
theorem RBound.mono {A : Ads} : ∀ G G' v y, Same G G' → RBound A G v y → RBound A G' v y := fun _ _ _ _ s ⟨b, e, h⟩ => ⟨b, e, h.mono s⟩
theorem some_of {A : Ads} {G : Hp} {D : Addr} {acc : List V} {ls : List Kh219.Le} (e : G D = some (.lst acc)) (p : Paired (RBound A G) acc ls) : SomeAt A G D ls := by
  obtain ⟨bs, e2, p2⟩ := paired_refs (fun v y h => h) p
  exact ⟨bs, by rw [e, e2], p2⟩
theorem sc_read_bounds : FnScope ["numbers", "size", "start"] ["numbers"] (defScope s_read_bounds) := ⟨rfl, rfl, rfl, by decide +kernel, rfl, by decide +kernel, by decide +kernel⟩
theorem ok_read_bounds (F : GF K mg "read_bounds" s_read_bounds ["numbers"]) (PR : Pr P w K mg base 3 "read_bound" ["numbers"] (spReadBound A)) (T : TxtB K mg A) (G : TxtG mg) :
    Pr P w K mg base 4 "read_bounds" ["numbers"] (spReadBounds A) := by
  refine F.pr sc_read_bounds (fun vs H Q E h => ?_) (fun f cdv Ar outer s H vs Q E hr h => ?_)
  · obtain ⟨a, ns, rfl, _⟩ := h
    rfl
  · obtain ⟨a, ns, rfl, ha, hm, hlen, k⟩ := h
    refine ⟨_, pss_cons (ps_set (i := 1) sc_read_bounds.nd rfl (Or.inr rfl) (pe_op op_add (pe_gi T.ROW rfl) pe_int))
      (pss_one (ps_ret (pe_lc rfl sc_read_bounds.nd (pi_range3 rfl G.range (pa_cons pe_int (pa_cons (pe_callB call_len_seq rfl G.len boot_len (pa_cons (pv 0) pa_nil)) (pa_cons (pv 1) pa_nil))))
        (blkOk_by (own := [("start", 2)]) (by kernel_rfl)) (fun _ _ _ _ _ => pg_name (i := 2) sc_read_bounds.nd rfl (Or.inl rfl)) (fun _ _ _ _ _ => pts_nil)
        (fun _ _ _ _ _ => pe_p PR hr rfl (pa_cons (pe_slice (r := rSlL K) sl_list (pv 0) (po_some (pv 2)) (po_some (pe_op op_add (pv 2) (pv 1)))) pa_nil))))), ?_⟩
    refine ⟨12, 1, rfl, rfl, _, rfl, a, _, rfl, .inl (SqL.of ha), _, rfl, 0, _, 13, ns.length / 13, rfl, ?_, fun D hD => ?_⟩
    · have e : ns.length = 13 * (ns.length / 13) := by omega
      rw [List.length_map]
      have := RgC.by13 (n := ns.length / 13) (by omega)
      rw [← e] at this
      exact this
    · refine lc_mapC (R := RBound A) RBound.mono (ys := Kh219Neutral.some_ ns) hD (by rw [some_len]; omega) (some_len ns).symm (fun j y H1 hy s1 Qv hq => ?_) (fun H1 acc s1 e p => ?_)
      · obtain ⟨ey, hj⟩ := some_at hy
        have ha1 : IntsAt H1 a ns := ha.mono s1
        have e1 : (0 : Int) + ((j : Nat) : Int) * 13 = ((13 * j : Nat) : Int) := by omega
        have e2 : ((13 * j : Nat) : Int) + (12 + 1) = ((13 * j + 13 : Nat) : Int) := by omega
        refine ⟨_, rfl, _, rfl, _, rfl, _, rfl, _, rfl, _, _, rfl, rfl, _, rfl, a, _, rfl, SqL.of ha1, fun p hp => ?_⟩
        rw [e1, e2, cut_ft _ _ _ (by rw [List.length_map]; omega), ← List.map_drop, ← List.map_take, Nat.add_sub_cancel_left]
        have s2 : Same H1 (upd H1 p (.lst (((ns.drop (13 * j)).take 13).map V.int))) := same_upd_new hp
        refine ⟨p, (ns.drop (13 * j)).take 13, rfl, upd_same, by rw [List.length_take, List.length_drop]; omega, fun H' b s3 hb => ?_⟩
        refine hq _ _ (s2.trans s3) ⟨b, rfl, ?_⟩
        rw [ey]
        exact hb.mono (newp_old s2)
      · have s2 : Same H (upd H D (.lst [])) := same_upd_new hD
        refine k H1 D s1 (some_of (newp_of hD e) (paired_mono p fun v y r => RBound.mono _ _ v y (newp_old s2) r))
theorem sc_opposite : FnScope ["bound", "factor"] ["bound"] (defScope s_opposite) := ⟨rfl, rfl, rfl, by decide +kernel, rfl, by decide +kernel, by decide +kernel⟩
theorem ok_opposite (F : GF K mg "opposite" s_opposite ["bound"]) (PB : PrC P w K mg base 1 "Bound" A.B ["self", "c", "d"] (spBoundInit A)) (T : TxtB K mg A) :
    Pr P w K mg base 3 "opposite" ["bound"] (spOpposite A) := by
  refine F.pr sc_opposite (fun vs H Q E h => ?_) (fun f cdv Ar outer s H vs Q E hr h => ?_)
  · obtain ⟨b, l, rfl, _⟩ := h
    rfl
  · obtain ⟨b, l, rfl, ⟨dx, ca, hb, hc⟩, hlen, k⟩ := h
    refine ⟨_, pss_one (ps_ret (pe_pc PB hr rfl (pa_cons (pe_lc rfl sc_opposite.nd (pi_list (pe_fld (pv 0) rfl)) (blkOk_by (own := [("factor", 1)]) (by kernel_rfl)) (fun _ _ _ _ _ => pg_name (i := 1) sc_opposite.nd rfl (Or.inl rfl)) (fun _ _ _ _ _ => pts_nil)
        (fun _ _ _ _ _ => pe_un un_neg (pv 1)))
      (pa_cons (pe_op op_sub (pe_un un_neg (pe_fld (pv 0) rfl)) pe_int) pa_nil)))), ?_⟩
    refine ⟨_, rfl, b, A.B, dx, _, _, rfl, hb, T.cl, T.nc, bnd_c _ _, ca, rfl, ⟨_, SqL.of hc⟩, fun D hD => ?_⟩
    refine lc_mapL (R := fun _ v (y : Int) => v = .int y) (fun _ _ _ _ _ h => h) (K := K) (a := ca) (xs := l.c.map V.int) (ys := l.c.map fun z => -z) hD (by rw [List.length_map]; omega) (by rw [List.length_map, List.length_map]) (SqL.of hc)
      (fun n x y H1 hx hy s1 Qv hq => ?_) (fun H1 acc s1 e p => ?_)
    · obtain ⟨z, hz, rfl⟩ := map_at hx
      rw [List.getElem?_map, hz] at hy
      have ey : -z = y := Option.some.inj hy
      exact ⟨_, rfl, _, rfl, hq _ _ (Same.refl _) (by show V.int (-z) = V.int y; rw [ey])⟩
    · have ea := paired_map (f := V.int) p
      rw [ea] at e
      refine ⟨_, rfl, b, A.B, dx, _, _, rfl, s1 _ _ hb, T.cl, T.nd, bnd_d _ _, _, rfl, _, _, rfl, rfl, fun x dx2 nx ndx ne => ⟨x, dx2, _, _, rfl, upd_same, fun H' hs => ⟨rfl, ?_⟩⟩⟩
      obtain ⟨s2, n2⟩ := Set1.made nx ndx hs
      exact k H' x (s1.trans s2) ⟨dx2, D, newp_old s1 _ _ n2, newp_of hD (s2 _ _ e)⟩
theorem sc_bound_as_told : FnScope ["bound", "unknowns", "k", "factor", "most"] ["bound", "unknowns"] (defScope s_bound_as_told) := ⟨rfl, rfl, rfl, by decide +kernel, rfl, by decide +kernel, by decide +kernel⟩
theorem ok_bound_as_told (F : GF K mg "bound_as_told" s_bound_as_told ["bound", "unknowns"]) (T : TxtB K mg A) (G : TxtG mg) :
    Pr P w K mg base 1 "bound_as_told" ["bound", "unknowns"] (spBoundAsTold A) := by
  refine F.pr sc_bound_as_told (fun vs H Q E h => ?_) (fun f cdv Ar outer s H vs Q E hr h => ?_)
  · obtain ⟨b, l, n, rfl, _⟩ := h
    rfl
  · obtain ⟨b, l, n, rfl, ⟨dx, ca, hb, hc⟩, hlen, k⟩ := h
    have nd := sc_bound_as_told.nd
    refine ⟨_, pss_cons (ps_for PassesOwn.never rfl (pi_enum rfl G.enumerate (pa_cons (pe_fld (pv 0) rfl) pa_nil)) (pg_tup rfl (pgs_cons (pg_name (i := 2) nd rfl (Or.inl rfl)) (pgs_cons (pg_name (i := 3) nd rfl (Or.inl rfl)) pgs_nil)))
        (pss_cons (ps_set (i := 4) nd rfl (Or.inl rfl) (pe_ifExp (pt_cmpR op_lt (pv 2) (pv 1) (nomark _)) (pe_gi T.MOST_C rfl) pe_int))
        (pss_one (ps_if (pt_cmpR op_gt (pe_callB call_abs rfl G.abs boot_abs (pa_cons (pv 3) pa_nil)) (pv 4) (nomark _)) (pss_one (ps_ret pe_bl)) pss_nil))))
      (pss_one (ps_ret (pe_chain op_le op_le (pe_gi T.LEAST_D rfl) (pe_fld (pv 0) rfl) (pe_gi T.MOST_D rfl)))), ?_⟩
    refine ⟨_, rfl, b, A.B, dx, _, _, rfl, hb, T.cl, T.nc, bnd_c _ _, ca, _, rfl, SqL.of hc, for_it (n := 12) (fun i σ H1 => ∃ v2 v3 v4 : Option V, σ = [some (.ref b), some (.int n), v2, v3, v4] ∧ Same H H1 ∧ ∀ k, k < i → OkC n l k)
      ⟨none, none, none, rfl, Same.refl _, fun k hk => by omega⟩ (fun i σ H1 hi ⟨_, _, _, _, s1, _⟩ => ?_) (fun σ H1 ⟨_, _, _, _, s1, _⟩ => ?_) (fun i x σ H1 H2 hi ⟨v2, v3, v4, es, s1, hk⟩ hy => ?_) (fun σ H1 ⟨v2, v3, v4, es, s1, hk⟩ => ?_)⟩
    · exact ⟨_, _, s1.seq (SqL.of hc), List.getElem?_eq_getElem (by rw [List.length_map]; omega)⟩
    · exact ⟨_, s1.seq (SqL.of hc), by rw [List.length_map]; omega⟩
    · subst es
      obtain ⟨t, z, rfl, ht, rfl, hz⟩ := hy
      obtain ⟨c, hcz, rfl⟩ := map_at (hz _ (s1.seq (SqL.of hc)))
      have s2 : Same H (upd H1 t (.tup [.int (i : Nat), .int c])) := s1.trans (same_upd_new ht)
      have eat := at_get hcz
      refine ⟨t, _, rfl, SqT.of upd_same, rfl, _, _, rfl, _, _, rfl, rfl, ?_⟩
      refine ⟨_, rfl, _, rfl, _, _, rfl, rfl, _, rfl, ite2 (fun hlt => ?_) (fun hlt => ?_)⟩
      · have hlt := of_decide_eq_true hlt
        refine ⟨_, rfl, _, rfl, _, rfl, _, _, rfl, rfl, _, rfl, ite2 (fun hg => ?_) (fun hg => ?_)⟩
        · have hg := of_decide_eq_true hg
          have e : Kh219.okLe n l = false := okLe_no (k := i) hi (fun ⟨q1, q2, _⟩ => by rw [eat] at q1 q2; split at hg <;> omega)
          have q := k _ s2
          rw [e] at q
          exact q
        · have hg := of_decide_eq_false (Bool.eq_false_iff.mpr hg)
          refine ⟨_, _, _, rfl, s2, fun k' hk' => ?_⟩
          by_cases hki : k' = i
          · subst hki
            refine ⟨?_, ?_, fun h => by omega⟩ <;> rw [eat] <;> split at hg <;> omega
          · exact hk k' (by omega)
      · have hlt := of_decide_eq_false (Bool.eq_false_iff.mpr hlt)
        refine ⟨_, rfl, _, rfl, _, rfl, _, _, rfl, rfl, _, rfl, ite2 (fun hg => ?_) (fun hg => ?_)⟩
        · have hg := of_decide_eq_true hg
          have e : Kh219.okLe n l = false := okLe_no (k := i) hi (fun ⟨q1, q2, q3⟩ => by
            have := q3 (by omega)
            rw [eat] at this
            split at hg <;> omega)
          have q := k _ s2
          rw [e] at q
          exact q
        · have hg := of_decide_eq_false (Bool.eq_false_iff.mpr hg)
          refine ⟨_, _, _, rfl, s2, fun k' hk' => ?_⟩
          by_cases hki : k' = i
          · subst hki
            have e0 : c = 0 := by split at hg <;> omega
            refine ⟨?_, ?_, fun _ => ?_⟩ <;> rw [eat, e0] <;> decide
          · exact hk k' (by omega)
    · subst es
      have q := k _ s1
      rw [okLe_yes hlen hk] at q
      refine ⟨_, rfl, b, A.B, dx, _, _, rfl, s1 _ _ hb, T.cl, T.nd, bnd_d _ _, _, _, rfl, rfl, _, rfl, ite2 (fun c1 => ?_) (fun c1 => ?_)⟩
      · rw [c1, Bool.true_and] at q
        exact ⟨_, _, rfl, rfl, q⟩
      · rw [Bool.eq_false_iff.mpr c1, Bool.false_and] at q
        exact q
theorem sc_bound_holds : FnScope ["bound", "x", "factor", "number"] ["bound", "x"] (defScope s_bound_holds) := ⟨rfl, rfl, rfl, by decide +kernel, rfl, by decide +kernel, by decide +kernel⟩
theorem ok_bound_holds (F : GF K mg "bound_holds" s_bound_holds ["bound", "x"]) (T : TxtB K mg A) (G : TxtG mg) :
    Pr P w K mg base 1 "bound_holds" ["bound", "x"] (spBoundHolds A) := by
  refine F.pr sc_bound_holds (fun vs H Q E h => ?_) (fun f cdv Ar outer s H vs Q E hr h => ?_)
  · obtain ⟨b, a, l, xs, rfl, _⟩ := h
    rfl
  · obtain ⟨b, a, l, xs, rfl, ⟨dx, ca, hb, hc⟩, hlen, hx, hxl, hxb, k⟩ := h
    have nd := sc_bound_holds.nd
    refine ⟨_, pss_one (ps_ret (pe_cmpR op_le (pe_callB (cr_sum rfl) rfl G.sum boot_sum (pa_cons (pe_lc rfl nd (pi_zip rfl G.zip (pa_cons (pe_fld (pv 0) rfl) (pa_cons (pv 1) pa_nil)))
        (blkOk_by (own := [("factor", 2), ("number", 3)]) (by kernel_rfl)) (fun _ _ _ _ _ => (pg_tup rfl (pgs_cons (pg_name (i := 2) nd rfl (Or.inl rfl)) (pgs_cons (pg_name (i := 3) nd rfl (Or.inl rfl)) pgs_nil)) : PG _ _ (gTup K 2 (gCons (gName 2) (gCons (gName 3) gNil))))) (fun _ _ _ _ _ => pts_nil)
        (fun _ _ _ _ _ => pe_op op_mul (pv 2) (pv 3))) pa_nil)) (pe_fld (pv 0) rfl) (nomark _))), ?_⟩
    refine ⟨_, rfl, b, A.B, dx, _, _, rfl, hb, T.cl, T.nc, bnd_c _ _, _, rfl, ca, a, _, _, rfl, SqL.of hc, SqL.of hx, fun D hD => ?_⟩
    refine lc_it (n := 12) (fun i H1 => Same H H1 ∧ H1 D = some (.lst (((List.zipWith (fun a b => a * b) l.c xs).take i).map V.int))) ⟨same_upd_new hD, upd_same⟩ (fun i H1 hi ⟨s1, _⟩ => ?_) (fun H1 ⟨s1, _⟩ => ?_) (fun i v H1 H2 hi ⟨s1, e⟩ hy => ?_) (fun H1 ⟨s1, e⟩ => ?_)
    · exact ⟨_, _, _, _, s1.seq (SqL.of hc), s1.seq (SqL.of hx), List.getElem?_eq_getElem (by rw [List.length_map]; omega), List.getElem?_eq_getElem (by rw [List.length_map]; omega)⟩
    · exact ⟨_, _, s1.seq (SqL.of hc), s1.seq (SqL.of hx), .inl (by rw [List.length_map]; omega)⟩
    · obtain ⟨t, c, z, rfl, ht, rfl, hc1, hz1⟩ := hy
      obtain ⟨c, hcc, rfl⟩ := map_at (hc1 _ (s1.seq (SqL.of hc)))
      obtain ⟨z, hzz, rfl⟩ := map_at (hz1 _ (s1.seq (SqL.of hx)))
      have hzb := hxb z (List.mem_of_getElem? hzz)
      have s2 : Same H1 (upd H1 t (.tup [.int c, .int z])) := same_upd_new ht
      have ez : (List.zipWith (fun a b => a * b) l.c xs)[i]? = some (c * z) := by rw [List.getElem?_zipWith, hcc, hzz]
      refine ⟨t, _, rfl, SqT.of upd_same, rfl, _, _, rfl, _, _, rfl, rfl, ?_, ?_⟩
      · rfl
      · refine ⟨_, rfl, _, rfl, _, _, rfl, rfl, .inr ⟨by omega, by omega⟩, _, s2 _ _ e, ?_, ?_, ?_⟩
        · rw [List.length_map, List.length_take]
          exact Nat.lt_of_le_of_lt (Nat.min_le_left _ _) (small_lt (by omega))
        · exact same_upd_of (s1.trans s2) hD
        · rw [upd_same, take_snoc ez, List.map_append]
          rfl
    · have ef : (List.zipWith (fun a b => a * b) l.c xs).take 12 = List.zipWith (fun a b => a * b) l.c xs := List.take_of_length_le (by rw [List.length_zipWith]; omega)
      rw [ef] at e
      refine ⟨D, _, rfl, SqL.of e, _, rfl, b, A.B, dx, _, _, rfl, s1 _ _ hb, T.cl, T.nd, bnd_d _ _, _, _, rfl, rfl, ?_⟩
      have q := k _ s1
      unfold Kh219.Le.holds at q
      rw [sum_eq hlen hxl] at q
      exact q
end
end Wn
end
section
set_option maxRecDepth 100000
set_option maxHeartbeats 4000000
namespace Wn
open PySem PySem.Spec PyProof.Rows L2
/-! ### facts: the data -/
def fctF (k f a b r : V) : List (Str × V) := putF "r" r (putF "b" b (putF "a" a (putF "f" f (putF "kind" k []))))
theorem fct_kind (k f a b r : V) : (fctF k f a b r).lookup ("kind" : Str) = some k := by
  unfold fctF
  rw [lookup_putF, if_neg (by decide +kernel), lookup_putF, if_neg (by decide +kernel), lookup_putF, if_neg (by decide +kernel), lookup_putF, if_neg (by decide +kernel), lookup_putF, if_pos rfl]
theorem fct_f (k f a b r : V) : (fctF k f a b r).lookup ("f" : Str) = some f := by
  unfold fctF
  rw [lookup_putF, if_neg (by decide +kernel), lookup_putF, if_neg (by decide +kernel), lookup_putF, if_neg (by decide +kernel), lookup_putF, if_pos rfl]
theorem fct_a (k f a b r : V) : (fctF k f a b r).lookup ("a" : Str) = some a := by
  unfold fctF
  rw [lookup_putF, if_neg (by decide +kernel), lookup_putF, if_neg (by decide +kernel), lookup_putF, if_pos rfl]
theorem fct_b (k f a b r : V) : (fctF k f a b r).lookup ("b" : Str) = some b := by
  unfold fctF
  rw [lookup_putF, if_neg (by decide +kernel), lookup_putF, if_pos rfl]
theorem fct_r (k f a b r : V) : (fctF k f a b r).lookup ("r" : Str) = some r := by
  unfold fctF
  rw [lookup_putF, if_pos rfl]
def FactAt (A : Ads) (G : Hp) (a : Addr) (q : Kh219.Fact) : Prop := ∃ dx, G a = some (.ins A.F dx (fctF (.int q.kind) (.int q.f) (.int q.a) (.int q.b) (.int q.r)))
theorem FactAt.mono {A : Ads} {G G' : Hp} {a : Addr} {q : Kh219.Fact} (s : Same G G') (h : FactAt A G a q) : FactAt A G' a q := by
  obtain ⟨dx, h⟩ := h
  exact ⟨dx, s _ _ h⟩
def FactsAt (A : Ads) (G : Hp) (a : Addr) (as : List Addr) (qs : List Kh219.Fact) : Prop := G a = some (.lst (as.map V.ref)) ∧ Paired (FactAt A G) as qs
theorem FactsAt.mono {A : Ads} {G G' : Hp} {a : Addr} {as : List Addr} {qs : List Kh219.Fact} (s : Same G G') (h : FactsAt A G a as qs) : FactsAt A G' a as qs := ⟨s _ _ h.1, paired_mono h.2 fun _ _ => FactAt.mono s⟩
structure TxtF (K : PySem.W.Frag) (mg : Str → Option Value) (A : Ads) : Prop where
  cl : Cls K A.F
  nk : NoAttr K A.F "kind"
  nf : NoAttr K A.F "f"
  na : NoAttr K A.F "a"
  nb : NoAttr K A.F "b"
  nr : NoAttr K A.F "r"
  OF_ONE : GInt mg "OF_ONE" 1
  OF_TWO : GInt mg "OF_TWO" 2
  STANDS : GInt mg "STANDS" 3
  MADE : GInt mg "MADE" 4
  FACT_SIZE : GInt mg "FACT_SIZE" 5
  FUNCTIONS : GInt mg "FUNCTIONS" 4
  TABLES : GInt mg "TABLES" 6
/-- what a dict of made tables is worth -/
structure Made (kvs : List (Key × V)) (as : List Addr) (qs : List Kh219.Fact) : Prop where
  le : kvs.length ≤ (qs.filter fun x => x.kind == 4).length
  nd : kvs.length = (qs.filter fun x => x.kind == 4).length ↔ ((qs.filter fun x => x.kind == 4).map Kh219.Fact.f).Nodup
  has : ∀ (t : Int) (v : V), valV kvs (.inl t) = some v → ∃ (i : Nat) (a : Addr) (q : Kh219.Fact), as[i]? = some a ∧ qs[i]? = some q ∧ q.kind = 4 ∧ (q.f : Int) = t ∧ v = .ref a
  no : ∀ t : Int, valV kvs (.inl t) = none → ∀ q ∈ qs, q.kind = 4 → (q.f : Int) ≠ t
theorem Made.nil : Made [] [] [] := ⟨Nat.le_refl _, ⟨fun _ => by simp, fun _ => rfl⟩, fun t v h => (by cases h), fun t _ q h => (by cases h)⟩
theorem Made.skip {kvs : List (Key × V)} {as : List Addr} {qs : List Kh219.Fact} {a : Addr} {q : Kh219.Fact} (h : Made kvs as qs) (hl : as.length = qs.length) (hk : ¬ q.kind = 4) : Made kvs (as ++ [a]) (qs ++ [q]) := by
  have ef : (qs ++ [q]).filter (fun x => x.kind == 4) = qs.filter fun x => x.kind == 4 := by
    rw [List.filter_append]
    simp [hk]
  refine ⟨by rw [ef]; exact h.le, by rw [ef]; exact h.nd, fun t v e => ?_, fun t e q' hq hk' => ?_⟩
  · obtain ⟨i, a', q', h1, h2, r⟩ := h.has t v e
    exact ⟨i, a', q', by rw [List.getElem?_append_left (List.getElem?_eq_some_iff.mp h1).1]; exact h1, by rw [List.getElem?_append_left (List.getElem?_eq_some_iff.mp h2).1]; exact h2, r⟩
  · rcases List.mem_append.mp hq with hq | hq
    · exact h.no t e q' hq hk'
    · simp at hq
      subst hq
      exact absurd hk' hk
theorem nodup_snoc {l : List Nat} {f : Nat} : (l ++ [f]).Nodup ↔ l.Nodup ∧ f ∉ l := by
  rw [List.nodup_append]
  constructor
  · rintro ⟨h1, _, h3⟩
    exact ⟨h1, fun hm => h3 f hm f (by simp) rfl⟩
  · rintro ⟨h1, h2⟩
    refine ⟨h1, by simp, fun a ha b hb e => ?_⟩
    simp at hb
    subst hb
    subst e
    exact h2 ha
theorem Made.put {kvs : List (Key × V)} {as : List Addr} {qs : List Kh219.Fact} {a : Addr} {q : Kh219.Fact} (h : Made kvs as qs) (hl : as.length = qs.length) (hk : q.kind = 4) : Made (putK kvs (.inl (q.f : Int)) (.ref a)) (as ++ [a]) (qs ++ [q]) := by
  have ef : (qs ++ [q]).filter (fun x => x.kind == 4) = (qs.filter fun x => x.kind == 4) ++ [q] := by
    rw [List.filter_append]
    simp [hk]
  have hle := h.le
  have hlen : ((qs.filter fun x => x.kind == 4) ++ [q]).length = (qs.filter fun x => x.kind == 4).length + 1 := by simp
  have two : (valV kvs (.inl (q.f : Int)) = none ∧ (putK kvs (.inl (q.f : Int)) (.ref a)).length = kvs.length + 1 ∧ q.f ∉ (qs.filter fun x => x.kind == 4).map Kh219.Fact.f) ∨
      ((putK kvs (.inl (q.f : Int)) (.ref a)).length = kvs.length ∧ q.f ∈ (qs.filter fun x => x.kind == 4).map Kh219.Fact.f) := by
    cases e : valV kvs (.inl (q.f : Int)) with
    | none =>
      refine .inl ⟨rfl, by rw [putK_new _ e]; simp, fun hm => ?_⟩
      obtain ⟨q', hq', ee⟩ := List.mem_map.mp hm
      obtain ⟨m1, m2⟩ := List.mem_filter.mp hq'
      exact h.no _ e q' m1 (by simpa using m2) (by rw [ee])
    | some v =>
      refine .inr ⟨?_, ?_⟩
      · unfold putK
        rw [if_pos (by rw [valV_any, e]; rfl), List.length_map]
      · obtain ⟨i, a', q', _, h2, h3, h4, _⟩ := h.has _ v e
        exact List.mem_map.mpr ⟨q', List.mem_filter.mpr ⟨List.mem_of_getElem? h2, by simp [h3]⟩, by omega⟩
  refine ⟨?_, ?_, fun t v e => ?_, fun t e q' hq hk' => ?_⟩
  · rw [ef, hlen]
    rcases two with ⟨_, e, _⟩ | ⟨e, _⟩ <;> omega
  · rw [ef, hlen, List.map_append, List.map_cons, List.map_nil, nodup_snoc]
    rcases two with ⟨_, e, hn⟩ | ⟨e, hn⟩
    · rw [e]
      constructor
      · intro z
        exact ⟨h.nd.mp (by omega), hn⟩
      · intro z
        have := h.nd.mpr z.1
        omega
    · constructor
      · intro z; omega
      · intro z; exact absurd hn z.2
  · rw [valV_put] at e
    by_cases et : (Sum.inl t : Key) = Sum.inl (q.f : Int)
    · rw [if_pos et] at e
      refine ⟨as.length, a, q, by simp, by rw [hl]; simp, hk, (Sum.inl.inj et).symm, (Option.some.inj e).symm⟩
    · rw [if_neg et] at e
      obtain ⟨i, a', q', h1, h2, r⟩ := h.has t v e
      exact ⟨i, a', q', by rw [List.getElem?_append_left (List.getElem?_eq_some_iff.mp h1).1]; exact h1, by rw [List.getElem?_append_left (List.getElem?_eq_some_iff.mp h2).1]; exact h2, r⟩
  · rw [valV_put] at e
    by_cases et : (Sum.inl t : Key) = Sum.inl (q.f : Int)
    · rw [if_pos et] at e
      cases e
    · rw [if_neg et] at e
      rcases List.mem_append.mp hq with hq | hq
      · exact h.no t e q' hq hk'
      · simp at hq
        subst hq
        exact fun z => et (by rw [z])
/-! ### facts: the promises -/
def spFactInit (A : Ads) : Sp := fun vs H Q _ => ∃ (p dx : Addr) (k f a b r : V), vs = [.ref p, k, f, a, b, r] ∧ H p = some (.ins A.F dx []) ∧ ∀ H', Set1 H p (.ins A.F dx (fctF k f a b r)) H' → Q .non H'
def spReadFact (A : Ads) : Sp := fun vs H Q _ => ∃ (a : Addr) (ns : List Int), vs = [.ref a] ∧ IntsAt H a ns ∧ ns.length = 5 ∧ (∀ z ∈ ns, 0 ≤ z) ∧ ∀ H' b, Same H H' → FactAt A (newp H H') b (Kh219Neutral.fact ns) → Q (.ref b) H'
def factsOf (ns : List Int) : List Kh219.Fact := (Kh219Neutral.chunks 5 (ns.length / 5) ns).map Kh219Neutral.fact
def spReadFacts (A : Ads) : Sp := fun vs H Q _ => ∃ (a : Addr) (ns : List Int), vs = [.ref a] ∧ IntsAt H a ns ∧ ns.length % 5 = 0 ∧ ns.length ≤ 30000 ∧ (∀ z ∈ ns, 0 ≤ z) ∧ ∀ H' b as, Same H H' → FactsAt A (newp H H') b as (factsOf ns) → Q (.ref b) H'
def spFb (A : Ads) : Sp := fun vs H Q _ => ∃ (a : Addr) (q : Kh219.Fact) (n : Nat), vs = [.ref a, .int n] ∧ FactAt A H a q ∧ Q (.bl (fbOk n q)) H
def spFactAsTold (A : Ads) : Sp := fun vs H Q _ => ∃ (a : Addr) (q : Kh219.Fact) (n : Nat), vs = [.ref a, .int n] ∧ FactAt A H a q ∧ Q (.bl (Kh219.okFact n q)) H
def spMade (A : Ads) : Sp := fun vs H Q _ => ∃ (a : Addr) (as : List Addr) (qs : List Kh219.Fact), vs = [.ref a] ∧ FactsAt A H a as qs ∧ qs.length ≤ 30000 ∧ ∀ H' d kvs, Same H H' → newp H H' d = some (.dK kvs) → Made kvs as qs → Q (.ref d) H'
def spOnce (A : Ads) : Sp := fun vs H Q _ => ∃ (a : Addr) (as : List Addr) (qs : List Kh219.Fact), vs = [.ref a] ∧ FactsAt A H a as qs ∧ qs.length ≤ 30000 ∧
  ∀ H', Same H H' → Q (.bl (decide (((qs.filter fun x => x.kind == 4).map Kh219.Fact.f).Nodup))) H'
/-- the numbers of a list, by place -/
def nums (xs : List Int) : Kh219.Numbers := fun k => xs.getD k 0
def spDecides (A : Ads) : Sp := fun vs H Q _ => ∃ (d a : Addr) (t : Nat) (i : Int) (kvs : List (Key × V)) (as : List Addr) (p : Kh219.Plan) (xs : List Int), vs = [.ref d, .int t, .int i, .ref a] ∧ H d = some (.dK kvs) ∧ Made kvs as p.facts ∧ Paired (FactAt A H) as p.facts ∧
  OkF p ∧ p.unknowns ≤ 12 ∧ t ≤ 6 ∧ IntsAt H a xs ∧ xs.length = 12 ∧ Q (.int (dec p (nums xs) 6 t i)) H
def spPlace (A : Ads) : Sp := fun vs H Q _ => ∃ (f d a : Addr) (q : Kh219.Fact) (kvs : List (Key × V)) (as : List Addr) (p : Kh219.Plan) (xs : List Int), vs = [.ref f, .ref d, .ref a] ∧ FactAt A H f q ∧ Kh219.okFact p.unknowns q = true ∧ H d = some (.dK kvs) ∧ Made kvs as p.facts ∧ Paired (FactAt A H) as p.facts ∧
  OkF p ∧ p.unknowns ≤ 12 ∧ IntsAt H a xs ∧ xs.length = 12 ∧ ∀ H' t, Same H H' → newp H H' t = some (.tup ((place p (nums xs) q).map V.int)) → Q (.ref t) H'
def spFactsHold (A : Ads) : Sp := fun vs H Q _ => ∃ (f a : Addr) (as : List Addr) (p : Kh219.Plan) (xs : List Int), vs = [.ref f, .ref a] ∧ FactsAt A H f as p.facts ∧ OkF p ∧ p.facts.length ≤ 16 ∧ p.unknowns ≤ 12 ∧ IntsAt H a xs ∧ xs.length = 12 ∧
  ∀ H', Same H H' → Q (.bl (factsHold p (nums xs))) H'
section
variable {P : Program} {w : World} {K : PySem.W.Frag} {mg : Str → Option Value} {base : Heap} {A : Ads}
theorem sc_Fact_init : FnScope ["self", "kind", "f", "a", "b", "r"] ["self", "kind", "f", "a", "b", "r"] (defScope s_Fact_init) := ⟨rfl, rfl, rfl, by decide +kernel, rfl, by decide +kernel, by decide +kernel⟩
theorem ok_Fact_init (F : GM K A.F "__init__" "Fact.__init__" s_Fact_init ["self", "kind", "f", "a", "b", "r"]) (mk : PySem.W.makesIn K A.F = true) (kp : PySem.W.keepIn K (.ref A.F) = true) (my : mg "Fact" = some (.ref A.F)) (T : TxtF K mg A) :
    PrC P w K mg base 1 "Fact" A.F ["self", "kind", "f", "a", "b", "r"] (spFactInit A) := by
  refine F.prC mk kp my sc_Fact_init (fun vs H Q E h => ?_) (fun f cdv Ar outer s H vs Q E hr h => ?_)
  · obtain ⟨p, dx, k, f, a, b, r, rfl, _⟩ := h
    rfl
  · obtain ⟨p, dx, kd, f, a, b, r, rfl, hp, k⟩ := h
    refine ⟨_, pss_cons (ps_fld (pv 0) (pv 1) rfl) (pss_cons (ps_fld (pv 0) (pv 2) rfl) (pss_cons (ps_fld (pv 0) (pv 3) rfl) (pss_cons (ps_fld (pv 0) (pv 4) rfl) (pss_one (ps_fld (pv 0) (pv 5) rfl))))), ?_⟩
    have l1 := length_putF "kind" kd []
    have l2 := length_putF "f" f (putF "kind" kd [])
    have l3 := length_putF "a" a (putF "f" f (putF "kind" kd []))
    have l4 := length_putF "b" b (putF "a" a (putF "f" f (putF "kind" kd [])))
    simp only [List.length_nil] at l1
    refine ⟨_, rfl, _, rfl, p, A.F, dx, [], rfl, hp, T.cl, T.nk, (by show 0 < 1000; decide), _, rfl, _, rfl, p, A.F, dx, _, rfl, upd_same, T.cl, T.nf, by omega, _, rfl, _, rfl, p, A.F, dx, _, rfl, upd_same, T.cl, T.na, by omega,
      _, rfl, _, rfl, p, A.F, dx, _, rfl, upd_same, T.cl, T.nb, by omega, _, rfl, _, rfl, p, A.F, dx, _, rfl, upd_same, T.cl, T.nr, by omega, ?_⟩
    exact k _ (Set1.over (Set1.over (Set1.over (Set1.over Set1.upd))))
theorem sc_read_fact : FnScope ["numbers"] ["numbers"] (defScope s_read_fact) := ⟨rfl, rfl, rfl, by decide +kernel, rfl, by decide +kernel, by decide +kernel⟩
theorem ok_read_fact (F : GF K mg "read_fact" s_read_fact ["numbers"]) (PF : PrC P w K mg base 1 "Fact" A.F ["self", "kind", "f", "a", "b", "r"] (spFactInit A)) :
    Pr P w K mg base 3 "read_fact" ["numbers"] (spReadFact A) := by
  refine F.pr sc_read_fact (fun vs H Q E h => ?_) (fun f cdv Ar outer s H vs Q E hr h => ?_)
  · obtain ⟨a, ns, rfl, _⟩ := h
    rfl
  · obtain ⟨a, ns, rfl, ha, hlen, hnn, k⟩ := h
    refine ⟨_, pss_one (ps_ret (pe_pc PF hr rfl (pa_cons (pe_ix ix_list (pv 0) pe_int (fun _ _ => rfl)) (pa_cons (pe_ix ix_list (pv 0) pe_int (fun _ _ => rfl)) (pa_cons (pe_ix ix_list (pv 0) pe_int (fun _ _ => rfl))
      (pa_cons (pe_ix ix_list (pv 0) pe_int (fun _ _ => rfl)) (pa_cons (pe_ix ix_list (pv 0) pe_int (fun _ _ => rfl)) pa_nil))))))), ?_⟩
    obtain ⟨z0, z1, z2, z3, z4, rfl⟩ : ∃ z0 z1 z2 z3 z4, ns = [z0, z1, z2, z3, z4] := by
      match ns, hlen with
      | [z0, z1, z2, z3, z4], _ => exact ⟨z0, z1, z2, z3, z4, rfl⟩
    have g0 := hnn z0 (by simp)
    have g1 := hnn z1 (by simp)
    have g2 := hnn z2 (by simp)
    have g3 := hnn z3 (by simp)
    have g4 := hnn z4 (by simp)
    refine ⟨_, rfl, a, _, _, _, rfl, rfl, SqL.of ha, atI_nat (j := 0) rfl, _, rfl, a, _, _, _, rfl, rfl, SqL.of ha, atI_nat (j := 1) rfl, _, rfl, a, _, _, _, rfl, rfl, SqL.of ha, atI_nat (j := 2) rfl,
      _, rfl, a, _, _, _, rfl, rfl, SqL.of ha, atI_nat (j := 3) rfl, _, rfl, a, _, _, _, rfl, rfl, SqL.of ha, atI_nat (j := 4) rfl, fun x dx nx ndx ne => ⟨x, dx, _, _, _, _, _, rfl, upd_same, fun H' hs => ⟨rfl, ?_⟩⟩⟩
    obtain ⟨s2, n2⟩ := Set1.made nx ndx hs
    refine k H' x s2 ⟨dx, ?_⟩
    have t0 : ((Kh219Neutral.nat z0 : Nat) : Int) = z0 := Int.toNat_of_nonneg g0
    have t1 : ((Kh219Neutral.nat z1 : Nat) : Int) = z1 := Int.toNat_of_nonneg g1
    have t2 : ((Kh219Neutral.nat z2 : Nat) : Int) = z2 := Int.toNat_of_nonneg g2
    have t3 : ((Kh219Neutral.nat z3 : Nat) : Int) = z3 := Int.toNat_of_nonneg g3
    have t4 : ((Kh219Neutral.nat z4 : Nat) : Int) = z4 := Int.toNat_of_nonneg g4
    show newp H H' x = some (.ins A.F dx (fctF (.int ((Kh219Neutral.nat z0 : Nat) : Int)) (.int ((Kh219Neutral.nat z1 : Nat) : Int)) (.int ((Kh219Neutral.nat z2 : Nat) : Int)) (.int ((Kh219Neutral.nat z3 : Nat) : Int)) (.int ((Kh219Neutral.nat z4 : Nat) : Int))))
    rw [t0, t1, t2, t3, t4]
    exact n2
def RFact (A : Ads) : Hp → V → Kh219.Fact → Prop := fun G v l => ∃ b, v = .ref b ∧ FactAt A G b l
theorem RFact.mono {A : Ads} : ∀ G G' v y, Same G G' → RFact A G v y → RFact A G' v y := fun _ _ _ _ s ⟨b, e, h⟩ => ⟨b, e, h.mono s⟩
theorem sc_read_facts : FnScope ["numbers", "start"] ["numbers"] (defScope s_read_facts) := ⟨rfl, rfl, rfl, by decide +kernel, rfl, by decide +kernel, by decide +kernel⟩
theorem ok_read_facts (F : GF K mg "read_facts" s_read_facts ["numbers"]) (PR : Pr P w K mg base 3 "read_fact" ["numbers"] (spReadFact A)) (T : TxtF K mg A) (G : TxtG mg) :
    Pr P w K mg base 4 "read_facts" ["numbers"] (spReadFacts A) := by
  refine F.pr sc_read_facts (fun vs H Q E h => ?_) (fun f cdv Ar outer s H vs Q E hr h => ?_)
  · obtain ⟨a, ns, rfl, _⟩ := h
    rfl
  · obtain ⟨a, ns, rfl, ha, hm, hlen, hnn, k⟩ := h
    refine ⟨_, pss_one (ps_ret (pe_lc rfl sc_read_facts.nd (pi_range3 rfl G.range (pa_cons pe_int (pa_cons (pe_callB call_len_seq rfl G.len boot_len (pa_cons (pv 0) pa_nil)) (pa_cons (pe_gi T.FACT_SIZE rfl) pa_nil))))
        (blkOk_by (own := [("start", 1)]) (by kernel_rfl)) (fun _ _ _ _ _ => pg_name (i := 1) sc_read_facts.nd rfl (Or.inl rfl)) (fun _ _ _ _ _ => pts_nil)
        (fun _ _ _ _ _ => pe_p PR hr rfl (pa_cons (pe_slice (r := rSlL K) sl_list (pv 0) (po_some (pv 1)) (po_some (pe_op op_add (pv 1) (pe_gi T.FACT_SIZE rfl)))) pa_nil)))), ?_⟩
    refine ⟨_, rfl, a, _, rfl, .inl (SqL.of ha), 0, _, 5, ns.length / 5, rfl, ?_, fun D hD => ?_⟩
    · have e : ns.length = 5 * (ns.length / 5) := by omega
      rw [List.length_map]
      have := RgC.by5 (n := ns.length / 5) (by omega)
      rw [← e] at this
      exact this
    · refine lc_mapC (R := RFact A) RFact.mono (ys := factsOf ns) hD (by unfold factsOf; rw [facts_len]; omega) (facts_len ns).symm (fun j y H1 hy s1 Qv hq => ?_) (fun H1 acc s1 e p => ?_)
      · have hj : j < ns.length / 5 := by
          rw [← facts_len ns]
          exact (List.getElem?_eq_some_iff.mp hy).1
        have ey : Kh219Neutral.fact ((ns.drop (5 * j)).take 5) = y := Option.some.inj ((fact_at hj).symm.trans hy)
        have ha1 : IntsAt H1 a ns := ha.mono s1
        have e1 : (0 : Int) + ((j : Nat) : Int) * 5 = ((5 * j : Nat) : Int) := by omega
        have e2 : ((5 * j : Nat) : Int) + 5 = ((5 * j + 5 : Nat) : Int) := by omega
        refine ⟨_, rfl, _, rfl, _, rfl, _, rfl, _, _, rfl, rfl, _, rfl, a, _, rfl, SqL.of ha1, fun p hp => ?_⟩
        rw [e1, e2, cut_ft _ _ _ (by rw [List.length_map]; omega), ← List.map_drop, ← List.map_take, Nat.add_sub_cancel_left]
        have s2 : Same H1 (upd H1 p (.lst (((ns.drop (5 * j)).take 5).map V.int))) := same_upd_new hp
        refine ⟨p, (ns.drop (5 * j)).take 5, rfl, upd_same, by rw [List.length_take, List.length_drop]; omega, fun z hz => hnn z (List.mem_of_mem_drop (List.mem_of_mem_take hz)), fun H' b s3 hb => ?_⟩
        refine hq _ _ (s2.trans s3) ⟨b, rfl, ?_⟩
        rw [← ey]
        exact hb.mono (newp_old s2)
      · have s2 : Same H (upd H D (.lst [])) := same_upd_new hD
        obtain ⟨bs, e2, p2⟩ := paired_refs (fun v y h => h) (paired_mono p fun v y r => RFact.mono _ _ v y (newp_old s2) r)
        exact k H1 D bs s1 ⟨by rw [newp_of hD e, e2], p2⟩
end
end Wn
end
section
set_option maxRecDepth 100000
set_option maxHeartbeats 4000000
namespace Wn
open PySem PySem.Spec PyProof.Rows L2
theorem q_bl {Q : VK} {H : Hp} {b c : Bool} (q : Q (.bl b) H) (e : b = c) : Q (.bl c) H := e ▸ q
theorem dec_v {a b : Int} : decide (V.int a = V.int b) = decide (a = b) := by
  by_cases h : a = b
  · subst h; simp
  · rw [decide_eq_false h, decide_eq_false (fun q => h (V.int.inj q))]
section
variable {P : Program} {w : World} {K : PySem.W.Frag} {mg : Str → Option Value} {base : Heap} {A : Ads}
theorem sc_f_and_b_as_told : FnScope ["fact", "unknowns"] ["fact", "unknowns"] (defScope s_f_and_b_as_told) := ⟨rfl, rfl, rfl, by decide +kernel, rfl, by decide +kernel, by decide +kernel⟩
theorem ok_f_and_b_as_told (F : GF K mg "f_and_b_as_told" s_f_and_b_as_told ["fact", "unknowns"]) (T : TxtF K mg A) :
    Pr P w K mg base 1 "f_and_b_as_told" ["fact", "unknowns"] (spFb A) := by
  refine F.pr sc_f_and_b_as_told (fun vs H Q E h => ?_) (fun f cdv Ar outer s H vs Q E hr h => ?_)
  · obtain ⟨a, q, n, rfl, _⟩ := h
    rfl
  · obtain ⟨a, q, n, rfl, ⟨dx, ha⟩, k⟩ := h
    refine ⟨_, pss_cons (ps_if (pt_cmpR op_eq (pe_fld (pv 0) rfl) (pe_gi T.OF_ONE rfl) (nomark _)) (pss_one (ps_ret (pe_and (pe_cmpR op_lt (pe_fld (pv 0) rfl) (pe_gi T.FUNCTIONS rfl) (nomark _)) (pe_one (pe_cmpR op_eq (pe_fld (pv 0) rfl) pe_int (nomark _)))))) pss_nil)
      (pss_cons (ps_if (pt_cmpR op_eq (pe_fld (pv 0) rfl) (pe_gi T.OF_TWO rfl) (nomark _)) (pss_one (ps_ret (pe_and (pe_cmpR op_lt (pe_fld (pv 0) rfl) (pe_gi T.FUNCTIONS rfl) (nomark _)) (pe_one (pe_cmpR op_lt (pe_fld (pv 0) rfl) (pv 1) (nomark _)))))) pss_nil)
      (pss_cons (ps_if (pt_cmpR op_eq (pe_fld (pv 0) rfl) (pe_gi T.STANDS rfl) (nomark _)) (pss_one (ps_ret (pe_and (pe_cmpR op_lt (pe_fld (pv 0) rfl) (pe_gi T.TABLES rfl) (nomark _)) (pe_one (pe_cmpR op_eq (pe_fld (pv 0) rfl) pe_int (nomark _)))))) pss_nil)
      (pss_cons (ps_if (pt_cmpR op_eq (pe_fld (pv 0) rfl) (pe_gi T.MADE rfl) (nomark _)) (pss_one (ps_ret (pe_and (pe_cmpR op_lt (pe_fld (pv 0) rfl) (pe_gi T.TABLES rfl) (nomark _)) (pe_one (pe_cmpR op_lt (pe_fld (pv 0) rfl) (pe_fld (pv 0) rfl) (nomark _)))))) pss_nil)
      (pss_one (ps_ret pe_bl))))), ?_⟩
    have kd : ∀ {B : Prop} (i : Int), (decide (V.int (q.kind : Int) = V.int i) = true → B) → (¬ (q.kind : Int) = i → B) → B := fun i h1 h2 => by
      by_cases e : (q.kind : Int) = i
      · exact h1 (by rw [e]; simp)
      · exact h2 e
    refine ⟨_, rfl, a, A.F, dx, _, _, rfl, ha, T.cl, T.nk, fct_kind _ _ _ _ _, rfl, _, rfl, ite2 (fun h1 => ?_) (fun h1 => ?_)⟩
    · rw [dec_v] at h1
      have h1 := of_decide_eq_true h1
      refine ⟨_, rfl, a, A.F, dx, _, _, rfl, ha, T.cl, T.nf, fct_f _ _ _ _ _, _, _, rfl, rfl, _, rfl, ite2 (fun h2 => ?_) (fun h2 => ?_)⟩
      · have h2 := of_decide_eq_true h2
        refine ⟨_, rfl, a, A.F, dx, _, _, rfl, ha, T.cl, T.nb, fct_b _ _ _ _ _, rfl, q_bl k ?_⟩
        rw [dec_v, fb1 (by omega)]
        simp
        omega
      · have h2 := of_decide_eq_false (Bool.eq_false_iff.mpr h2)
        refine q_bl k ?_
        rw [fb1 (by omega)]
        simp
        omega
    · rw [dec_v] at h1
      have h1 := of_decide_eq_false (Bool.eq_false_iff.mpr h1)
      refine ⟨_, rfl, a, A.F, dx, _, _, rfl, ha, T.cl, T.nk, fct_kind _ _ _ _ _, rfl, _, rfl, ite2 (fun h3 => ?_) (fun h3 => ?_)⟩
      · rw [dec_v] at h3
        have h3 := of_decide_eq_true h3
        refine ⟨_, rfl, a, A.F, dx, _, _, rfl, ha, T.cl, T.nf, fct_f _ _ _ _ _, _, _, rfl, rfl, _, rfl, ite2 (fun h2 => ?_) (fun h2 => ?_)⟩
        · have h2 := of_decide_eq_true h2
          refine ⟨_, rfl, a, A.F, dx, _, _, rfl, ha, T.cl, T.nb, fct_b _ _ _ _ _, _, rfl, _, _, rfl, rfl, q_bl k ?_⟩
          rw [fb2 (by omega)]
          simp
          omega
        · have h2 := of_decide_eq_false (Bool.eq_false_iff.mpr h2)
          refine q_bl k ?_
          rw [fb2 (by omega)]
          simp
          omega
      · rw [dec_v] at h3
        have h3 := of_decide_eq_false (Bool.eq_false_iff.mpr h3)
        refine ⟨_, rfl, a, A.F, dx, _, _, rfl, ha, T.cl, T.nk, fct_kind _ _ _ _ _, rfl, _, rfl, ite2 (fun h4 => ?_) (fun h4 => ?_)⟩
        · rw [dec_v] at h4
          have h4 := of_decide_eq_true h4
          refine ⟨_, rfl, a, A.F, dx, _, _, rfl, ha, T.cl, T.nf, fct_f _ _ _ _ _, _, _, rfl, rfl, _, rfl, ite2 (fun h2 => ?_) (fun h2 => ?_)⟩
          · have h2 := of_decide_eq_true h2
            refine ⟨_, rfl, a, A.F, dx, _, _, rfl, ha, T.cl, T.nb, fct_b _ _ _ _ _, rfl, q_bl k ?_⟩
            rw [dec_v, fb3 (by omega)]
            simp
            omega
          · have h2 := of_decide_eq_false (Bool.eq_false_iff.mpr h2)
            refine q_bl k ?_
            rw [fb3 (by omega)]
            simp
            omega
        · rw [dec_v] at h4
          have h4 := of_decide_eq_false (Bool.eq_false_iff.mpr h4)
          refine ⟨_, rfl, a, A.F, dx, _, _, rfl, ha, T.cl, T.nk, fct_kind _ _ _ _ _, rfl, _, rfl, ite2 (fun h5 => ?_) (fun h5 => ?_)⟩
          · rw [dec_v] at h5
            have h5 := of_decide_eq_true h5
            refine ⟨_, rfl, a, A.F, dx, _, _, rfl, ha, T.cl, T.nf, fct_f _ _ _ _ _, _, _, rfl, rfl, _, rfl, ite2 (fun h2 => ?_) (fun h2 => ?_)⟩
            · have h2 := of_decide_eq_true h2
              refine ⟨_, rfl, a, A.F, dx, _, _, rfl, ha, T.cl, T.nb, fct_b _ _ _ _ _, _, rfl, a, A.F, dx, _, _, rfl, ha, T.cl, T.nf, fct_f _ _ _ _ _, _, _, rfl, rfl, q_bl k ?_⟩
              rw [fb4 (by omega)]
              simp
              omega
            · have h2 := of_decide_eq_false (Bool.eq_false_iff.mpr h2)
              refine q_bl k ?_
              rw [fb4 (by omega)]
              simp
              omega
          · rw [dec_v] at h5
            have h5 := of_decide_eq_false (Bool.eq_false_iff.mpr h5)
            exact q_bl k (fb0 (by omega) (by omega) (by omega) (by omega))
theorem sc_fact_as_told : FnScope ["fact", "unknowns"] ["fact", "unknowns"] (defScope s_fact_as_told) := ⟨rfl, rfl, rfl, by decide +kernel, rfl, by decide +kernel, by decide +kernel⟩
theorem ok_fact_as_told (F : GF K mg "fact_as_told" s_fact_as_told ["fact", "unknowns"]) (PF : Pr P w K mg base 1 "f_and_b_as_told" ["fact", "unknowns"] (spFb A)) (T : TxtF K mg A) :
    Pr P w K mg base 2 "fact_as_told" ["fact", "unknowns"] (spFactAsTold A) := by
  refine F.pr sc_fact_as_told (fun vs H Q E h => ?_) (fun f cdv Ar outer s H vs Q E hr h => ?_)
  · obtain ⟨a, q, n, rfl, _⟩ := h
    rfl
  · obtain ⟨a, q, n, rfl, ⟨dx, ha⟩, k⟩ := h
    refine ⟨_, pss_one (ps_ret (pe_and (pe_cmpR op_lt (pe_fld (pv 0) rfl) (pv 1) (nomark _)) (pe_and (pe_cmpR op_lt (pe_fld (pv 0) rfl) (pv 1) (nomark _)) (pe_one (pe_p PF hr rfl (pa_cons (pv 0) (pa_cons (pv 1) pa_nil))))))), ?_⟩
    rw [okFact_eq] at k
    refine ⟨_, rfl, a, A.F, dx, _, _, rfl, ha, T.cl, T.na, fct_a _ _ _ _ _, _, rfl, _, _, rfl, rfl, _, rfl, ite2 (fun h1 => ?_) (fun h1 => ?_)⟩
    · have h1 := of_decide_eq_true h1
      refine ⟨_, rfl, a, A.F, dx, _, _, rfl, ha, T.cl, T.nr, fct_r _ _ _ _ _, _, rfl, _, _, rfl, rfl, _, rfl, ite2 (fun h2 => ?_) (fun h2 => ?_)⟩
      · have h2 := of_decide_eq_true h2
        refine ⟨_, rfl, _, rfl, a, q, n, rfl, ⟨dx, ha⟩, q_bl k ?_⟩
        rw [decide_eq_true (by omega), Bool.true_and]
      · have h2 := of_decide_eq_false (Bool.eq_false_iff.mpr h2)
        refine q_bl k ?_
        rw [decide_eq_false (by omega), Bool.false_and]
    · have h1 := of_decide_eq_false (Bool.eq_false_iff.mpr h1)
      refine q_bl k ?_
      rw [decide_eq_false (by omega), Bool.false_and]
theorem sc_made_tables : FnScope ["facts", "made", "fact"] ["facts"] (defScope s_made_tables) := ⟨rfl, rfl, rfl, by decide +kernel, rfl, by decide +kernel, by decide +kernel⟩
theorem ok_made_tables (F : GF K mg "made_tables" s_made_tables ["facts"]) (T : TxtF K mg A) :
    Pr P w K mg base 1 "made_tables" ["facts"] (spMade A) := by
  refine F.pr sc_made_tables (fun vs H Q E h => ?_) (fun f cdv Ar outer s H vs Q E hr h => ?_)
  · obtain ⟨a, as, qs, rfl, _⟩ := h
    rfl
  · obtain ⟨a, as, qs, rfl, ⟨ha, hp⟩, hlen, k⟩ := h
    have nd := sc_made_tables.nd
    have hu := hu_of hr
    have hl := paired_len hp
    refine ⟨_, pss_cons (ps_set (i := 1) nd rfl (Or.inl rfl) pe_dnewK)
      (pss_cons (ps_for PassesOwn.never rfl (pi_list (pv 0)) (pg_name (i := 2) nd rfl (Or.inl rfl))
        (pss_one (ps_if (pt_cmpR op_eq (pe_fld (pv 2) rfl) (pe_gi T.MADE rfl) (nomark _)) (pss_one (ps_dput hu (pv 1) (pe_fld (pv 2) rfl) (pv 2) rfl)) pss_nil)))
      (pss_one (ps_ret (pv 1)))), ?_⟩
    intro d hd
    refine ⟨_, rfl, a, rfl, ⟨_, (same_upd_new hd).seq (SqL.of ha)⟩, for_list (K := K) (a := a) (xs := as.map V.ref) (fun i σ H1 => ∃ (v : Option V) (kvs : List (Key × V)), σ = [some (.ref a), some (.ref d), v] ∧ Same H H1 ∧ H1 d = some (.dK kvs) ∧ Made kvs (as.take i) (qs.take i))
      ⟨none, [], rfl, same_upd_new hd, upd_same, Made.nil⟩ (fun i σ H1 _ ⟨_, _, _, s1, _⟩ => s1.seq (SqL.of ha)) ?_ ?_⟩
    · rintro i y σ H1 hi ⟨v, kvs, rfl, s1, hdk, M⟩
      obtain ⟨c, hc, rfl⟩ := map_at hi
      obtain ⟨q, hq, dx, hcc⟩ := paired_at hp hc
      have ht : (as.take i).length = (qs.take i).length := by rw [List.length_take, List.length_take, hl]
      refine ⟨_, rfl, c, A.F, dx, _, _, rfl, s1 _ _ hcc, T.cl, T.nk, fct_kind _ _ _ _ _, rfl, _, rfl, ite2 (fun h1 => ?_) (fun h1 => ?_)⟩
      · rw [dec_v] at h1
        have h1 := of_decide_eq_true h1
        have hlt : kvs.length < sizeLine := by
          have e1 := M.le
          have e2 : ((qs.take i).filter fun x => x.kind == 4).length ≤ (qs.take i).length := List.length_filter_le _ _
          rw [List.length_take] at e2
          exact small_lt (by omega)
        refine ⟨_, rfl, _, rfl, _, rfl, c, A.F, dx, _, _, rfl, s1 _ _ hcc, T.cl, T.nf, fct_f _ _ _ _ _, d, _, rfl, DPut.k (k := Sum.inl (q.f : Int)) hdk hlt, ?_⟩
        refine ⟨_, _, rfl, same_upd_of s1 hd, upd_same, ?_⟩
        rw [take_snoc hc, take_snoc hq]
        exact M.put ht (by omega)
      · rw [dec_v] at h1
        have h1 := of_decide_eq_false (Bool.eq_false_iff.mpr h1)
        refine ⟨_, _, rfl, s1, hdk, ?_⟩
        rw [take_snoc hc, take_snoc hq]
        exact M.skip ht (by omega)
    · rintro σ H1 ⟨v, kvs, rfl, s1, hdk, M⟩
      rw [List.length_map, List.take_length, hl, List.take_length] at M
      exact ⟨_, rfl, k H1 d kvs s1 (newp_of hd hdk) M⟩
theorem sc_each_made_once : FnScope ["facts", "fact"] ["facts"] (defScope s_each_made_once) := ⟨rfl, rfl, rfl, by decide +kernel, rfl, by decide +kernel, by decide +kernel⟩
theorem ok_each_made_once (F : GF K mg "each_made_once" s_each_made_once ["facts"]) (PM : Pr P w K mg base 1 "made_tables" ["facts"] (spMade A)) (T : TxtF K mg A) (G : TxtG mg) :
    Pr P w K mg base 2 "each_made_once" ["facts"] (spOnce A) := by
  refine F.pr sc_each_made_once (fun vs H Q E h => ?_) (fun f cdv Ar outer s H vs Q E hr h => ?_)
  · obtain ⟨a, as, qs, rfl, _⟩ := h
    rfl
  · obtain ⟨a, as, qs, rfl, ⟨ha, hp⟩, hlen, k⟩ := h
    have nd := sc_each_made_once.nd
    have hl := paired_len hp
    refine ⟨_, pss_one (ps_ret (pe_cmpR op_eq (pe_callB call_lenD rfl G.len boot_len (pa_cons (pe_p PM hr rfl (pa_cons (pv 0) pa_nil)) pa_nil))
      (pe_callB call_len_seq rfl G.len boot_len (pa_cons (pe_lc rfl nd (pi_list (pv 0)) (blkOk_by (own := [("fact", 1)]) (by kernel_rfl)) (fun _ _ _ _ _ => pg_name (i := 1) nd rfl (Or.inl rfl))
        (fun _ _ _ _ _ => pts_one (pt_cmpR op_eq (pe_fldB K rfl (pv 1) rfl) (pe_gi T.MADE rfl) (nomark _))) (fun _ _ _ _ _ => pv 1)) pa_nil)) (nomark _))), ?_⟩
    refine ⟨_, rfl, a, as, qs, rfl, ⟨ha, hp⟩, hlen, fun H1 d kvs s1 hd M => ?_⟩
    have hd1 := newp_le _ _ hd
    refine ⟨d, kvs, rfl, hd1, _, rfl, a, rfl, ⟨_, s1.seq (SqL.of ha)⟩, fun D hD => ?_⟩
    refine lc_list (K := K) (a := a) (xs := as.map V.ref) (fun i H2 => Same H1 H2 ∧ ∃ acc, H2 D = some (.lst acc) ∧ acc.length = ((qs.take i).filter fun x => x.kind == 4).length) ⟨same_upd_new hD, [], upd_same, rfl⟩ (fun i H2 _ ⟨s2, _⟩ => (s1.trans s2).seq (SqL.of ha)) (fun i x H2 hi ⟨s2, acc, e, el⟩ => ?_) (fun H2 ⟨s2, acc, e, el⟩ => ?_)
    · obtain ⟨c, hc, rfl⟩ := map_at hi
      obtain ⟨q, hq, dx, hcc⟩ := paired_at hp hc
      have hcc2 := s2 _ _ (s1 _ _ hcc)
      refine ⟨wipe_one _ 1 _, ⟨_, rfl, c, A.F, dx, _, _, rfl, hcc2, T.cl, T.nk, fct_kind _ _ _ _ _, rfl, _, rfl, ite2 (fun h1 => ?_) (fun h1 => ?_)⟩⟩
      · rw [dec_v] at h1
        have h1 := of_decide_eq_true h1
        refine ⟨_, rfl, acc, e, ?_, same_upd_of s2 hD, _, upd_same, ?_⟩
        · have e2 : ((qs.take i).filter fun x => x.kind == 4).length ≤ (qs.take i).length := List.length_filter_le _ _
          rw [List.length_take] at e2
          exact small_lt (by omega)
        · rw [take_snoc hq, List.filter_append, List.length_append, List.length_append, el]
          have : q.kind = 4 := by omega
          simp [this]
      · rw [dec_v] at h1
        have h1 := of_decide_eq_false (Bool.eq_false_iff.mpr h1)
        refine ⟨s2, acc, e, ?_⟩
        rw [take_snoc hq, List.filter_append, List.length_append, el]
        have : ¬ q.kind = 4 := by omega
        simp [this]
    · rw [List.length_map, hl, List.take_length] at el
      refine ⟨D, acc, rfl, .inl (SqL.of e), rfl, q_bl (k H2 (s1.trans s2)) ?_⟩
      rw [dec_v, el]
      by_cases hn : ((qs.filter fun x => x.kind == 4).map Kh219.Fact.f).Nodup
      · rw [decide_eq_true hn, decide_eq_true (by rw [M.nd.mpr hn])]
      · rw [decide_eq_false hn, decide_eq_false (fun z => hn (M.nd.mp (by omega)))]
end
end Wn
end
section
set_option maxRecDepth 100000
set_option maxHeartbeats 4000000
namespace Wn
open PySem PySem.Spec PyProof.Rows L2
theorem made_tab {kvs : List (Key × V)} {as : List Addr} {p : Kh219.Plan} (M : Made kvs as p.facts) (g : OkF p) {t : Nat} {v : V} (e : valV kvs (.inl (t : Int)) = some v) : ∃ (i : Nat) (a : Addr) (q : Kh219.Fact), as[i]? = some a ∧ p.facts[i]? = some q ∧ v = .ref a ∧ mk p t = some q := by
  obtain ⟨i, a, q, h1, h2, h3, h4, h5⟩ := M.has _ v e
  have ef : q.f = t := by omega
  exact ⟨i, a, q, h1, h2, h5, by rw [← ef]; exact mk_of g (List.mem_of_getElem? h2) h3⟩
theorem made_no {kvs : List (Key × V)} {as : List Addr} {p : Kh219.Plan} (M : Made kvs as p.facts) {t : Nat} (e : valV kvs (.inl (t : Int)) = none) : mk p t = none := by
  cases h : mk p t with
  | none => rfl
  | some q =>
    obtain ⟨h1, h2, h3⟩ := mk_some h
    exact absurd (by rw [h3]) (M.no _ e q h1 h2)
theorem nums_at {xs : List Int} {k : Nat} (h : k < xs.length) : (xs.map V.int)[k]? = some (.int (nums xs k)) := by
  rw [List.getElem?_map, List.getElem?_eq_getElem h]
  unfold nums
  rw [List.getD_eq_getElem?_getD, List.getElem?_eq_getElem h]
  rfl
theorem ok_a {n : Nat} {q : Kh219.Fact} (h : Kh219.okFact n q = true) : q.a < n ∧ q.r < n := by
  rw [okFact_eq, Bool.and_eq_true] at h
  exact of_decide_eq_true h.1
theorem ok_b2 {n : Nat} {q : Kh219.Fact} (h : Kh219.okFact n q = true) (hk : q.kind = 2) : q.b < n := by
  rw [okFact_eq, Bool.and_eq_true, fb2 hk] at h
  exact (of_decide_eq_true h.2).2
theorem ok_f6 {n : Nat} {q : Kh219.Fact} (h : Kh219.okFact n q = true) : q.f ≤ 6 := by
  rw [okFact_eq, Bool.and_eq_true] at h
  have h2 := h.2
  unfold fbOk at h2
  split at h2
  · have := (of_decide_eq_true h2).1; omega
  · have := (of_decide_eq_true h2).1; omega
  · have := (of_decide_eq_true h2).1; omega
  · have := (of_decide_eq_true h2).1; omega
  · cases h2
section
variable {P : Program} {w : World} {K : PySem.W.Frag} {mg : Str → Option Value} {base : Heap} {A : Ads}
theorem sc_table_that_decides : FnScope ["made", "table", "at", "x"] ["made", "table", "at", "x"] (defScope s_table_that_decides) := ⟨rfl, rfl, rfl, by decide +kernel, rfl, by decide +kernel, by decide +kernel⟩
theorem ok_table_that_decides (F : GF K mg "table_that_decides" s_table_that_decides ["made", "table", "at", "x"]) (T : TxtF K mg A) :
    Pr P w K mg base 1 "table_that_decides" ["made", "table", "at", "x"] (spDecides A) := by
  refine F.pr sc_table_that_decides (fun vs H Q E h => ?_) (fun f cdv Ar outer s H vs Q E hr h => ?_)
  · obtain ⟨d, a, t, i, kvs, as, p, xs, rfl, _⟩ := h
    rfl
  · obtain ⟨d, a, t, i, kvs, as, p, xs, rfl, hd, M, hp, g, hun, ht, hx, hxl, k⟩ := h
    have nd := sc_table_that_decides.nd
    have hu := hu_of hr
    refine ⟨_, pss_cons (ps_while PassesOwn.never (PW.pt (pw_and (pt_cmp (pc_din hu (pv 1) (pv 0))) (pw_and1 (pt_cmpR op_ne (pe_ix ix_list (pv 3) (pe_fld (pe_dget hu (pv 0) (pv 1) (fun _ _ => rfl)) rfl) (fun _ _ => rfl)) (pv 2) (nomark _)))))
        (pss_one (ps_set (i := 1) nd rfl (Or.inl rfl) (pe_fld (pe_dget hu (pv 0) (pv 1) (fun _ _ => rfl)) rfl)))) (pss_one (ps_ret (pv 1))), ?_⟩
    refine ⟨fun m σ H1 => H1 = H ∧ ∃ t' : Nat, m = t' ∧ t' ≤ 6 ∧ dec p (nums xs) 6 t' i = dec p (nums xs) 6 t i ∧ σ = [some (.ref d), some (.int t'), some (.int i), some (.ref a)], ⟨t, rfl, t, rfl, ht, rfl, rfl⟩, ?_⟩
    rintro m σ H1 ⟨rfl, t', em, ht', he, rfl⟩
    refine ⟨_, rfl, _, rfl, d, _, rfl, DGet.k (k := Sum.inl (t' : Int)) hd, _, rfl, ?_⟩
    cases e : valV kvs (.inl (t' : Int)) with
    | none =>
      refine iteF ?_
      show if false = true then _ else _
      refine iteF ⟨_, rfl, ?_⟩
      rw [← dec_none (x := nums xs) (i := i) (made_no M e), he]
      exact k
    | some v =>
      obtain ⟨j, b, q, h1, h2, rfl, hm⟩ := made_tab M g e
      obtain ⟨q', hq', dx, hb⟩ := paired_at hp h1
      obtain rfl : q' = q := Option.some.inj (hq'.symm.trans h2)
      obtain ⟨m1, m2, m3⟩ := mk_some hm
      have h4 := ok4 (g.ok q' m1) m2
      have ha := ok_a (g.ok q' m1)
      refine iteT ⟨_, rfl, _, rfl, _, rfl, d, _, rfl, by rw [← e]; exact DGet.k (k := Sum.inl (t' : Int)) hd, b, A.F, dx, _, _, rfl, hb, T.cl, T.na, fct_a _ _ _ _ _, a, _, _, _, rfl, rfl, SqL.of hx, atI_nat (nums_at (k := q'.a) (by omega)), _, rfl, rfl, _, rfl, ?_⟩
      by_cases hc : nums xs q'.a = i
      · have ec : (!decide (V.int (nums xs q'.a) = V.int i)) = false := by rw [hc]; simp
        rw [ec]
        refine iteF ⟨_, rfl, ?_⟩
        rw [← dec_here (x := nums xs) (i := i) hm hc, he]
        exact k
      · have ec : (!decide (V.int (nums xs q'.a) = V.int i)) = true := by rw [dec_v, decide_eq_false hc]; rfl
        rw [ec]
        refine iteT ⟨fun σ' H' => H' = H1 ∧ σ' = [some (.ref d), some (.int q'.b), some (.int i), some (.ref a)], fun σ' H' ⟨h1, h2⟩ => ⟨q'.b, by omega, h1, q'.b, rfl, by omega, ?_, h2⟩, _, rfl, _, rfl, d, _, rfl, by rw [← e]; exact DGet.k (k := Sum.inl (t' : Int)) hd, b, A.F, dx, _, _, rfl, hb, T.cl, T.nb, fct_b _ _ _ _ _, rfl, rfl⟩
        rw [← dec_on g hm hc, he]
theorem sc_place_of : FnScope ["fact", "made", "x", "at"] ["fact", "made", "x"] (defScope s_place_of) := ⟨rfl, rfl, rfl, by decide +kernel, rfl, by decide +kernel, by decide +kernel⟩
theorem ok_place_of (F : GF K mg "place_of" s_place_of ["fact", "made", "x"]) (PD : Pr P w K mg base 1 "table_that_decides" ["made", "table", "at", "x"] (spDecides A)) (T : TxtF K mg A) :
    Pr P w K mg base 2 "place_of" ["fact", "made", "x"] (spPlace A) := by
  refine F.pr sc_place_of (fun vs H Q E h => ?_) (fun f cdv Ar outer s H vs Q E hr h => ?_)
  · obtain ⟨f, d, a, q, kvs, as, p, xs, rfl, _⟩ := h
    rfl
  · obtain ⟨f, d, a, q, kvs, as, p, xs, rfl, ⟨dx, hf⟩, ok, hd, M, hp, g, hun, hx, hxl, k⟩ := h
    have nd := sc_place_of.nd
    have ha := ok_a ok
    have h6 := ok_f6 ok
    refine ⟨_, pss_cons (ps_set (i := 3) nd rfl (Or.inl rfl) (pe_ix ix_list (pv 2) (pe_fld (pv 0) rfl) (fun _ _ => rfl)))
      (pss_cons (ps_if (pt_cmpR op_eq (pe_fld (pv 0) rfl) (pe_gi T.OF_ONE rfl) (nomark _)) (pss_one (ps_ret (pe_tup (pa_cons (pe_gi T.OF_ONE rfl) (pa_cons (pe_fld (pv 0) rfl) (pa_cons (pv 3) (pa_cons pe_int pa_nil))))))) pss_nil)
      (pss_cons (ps_if (pt_cmpR op_eq (pe_fld (pv 0) rfl) (pe_gi T.OF_TWO rfl) (nomark _)) (pss_one (ps_ret (pe_tup (pa_cons (pe_gi T.OF_TWO rfl) (pa_cons (pe_fld (pv 0) rfl) (pa_cons (pv 3) (pa_cons (pe_ix ix_list (pv 2) (pe_fld (pv 0) rfl) (fun _ _ => rfl)) pa_nil))))))) pss_nil)
      (pss_one (ps_ret (pe_tup (pa_cons (pe_gi T.STANDS rfl) (pa_cons (pe_p PD hr rfl (pa_cons (pv 1) (pa_cons (pe_fld (pv 0) rfl) (pa_cons (pv 3) (pa_cons (pv 2) pa_nil))))) (pa_cons (pv 3) (pa_cons pe_int pa_nil))))))))), ?_⟩
    refine ⟨_, rfl, _, rfl, f, A.F, dx, _, _, rfl, hf, T.cl, T.na, fct_a _ _ _ _ _, a, _, _, _, rfl, rfl, SqL.of hx, atI_nat (nums_at (k := q.a) (by omega)), ?_⟩
    refine ⟨_, rfl, f, A.F, dx, _, _, rfl, hf, T.cl, T.nk, fct_kind _ _ _ _ _, rfl, _, rfl, ite2 (fun h1 => ?_) (fun h1 => ?_)⟩
    · rw [dec_v] at h1
      have h1 := of_decide_eq_true h1
      have hk : q.kind = 1 := by omega
      refine ⟨_, rfl, f, A.F, dx, _, _, rfl, hf, T.cl, T.nf, fct_f _ _ _ _ _, _, rfl, (by show 4 ≤ sizeLine; decide), fun t ht => k _ t (same_upd_new ht) (newp_of ht ?_)⟩
      rw [upd_same, place1 hk]
      rfl
    · rw [dec_v] at h1
      have h1 := of_decide_eq_false (Bool.eq_false_iff.mpr h1)
      refine ⟨_, rfl, f, A.F, dx, _, _, rfl, hf, T.cl, T.nk, fct_kind _ _ _ _ _, rfl, _, rfl, ite2 (fun h2 => ?_) (fun h2 => ?_)⟩
      · rw [dec_v] at h2
        have h2 := of_decide_eq_true h2
        have hk : q.kind = 2 := by omega
        have hb := ok_b2 ok hk
        refine ⟨_, rfl, f, A.F, dx, _, _, rfl, hf, T.cl, T.nf, fct_f _ _ _ _ _, _, rfl, _, rfl, _, rfl, f, A.F, dx, _, _, rfl, hf, T.cl, T.nb, fct_b _ _ _ _ _, a, _, _, _, rfl, rfl, SqL.of hx, atI_nat (nums_at (k := q.b) (by omega)), (by show 4 ≤ sizeLine; decide), fun t ht => k _ t (same_upd_new ht) (newp_of ht ?_)⟩
        rw [upd_same, place2 hk]
        rfl
      · rw [dec_v] at h2
        have h2 := of_decide_eq_false (Bool.eq_false_iff.mpr h2)
        refine ⟨_, rfl, _, rfl, f, A.F, dx, _, _, rfl, hf, T.cl, T.nf, fct_f _ _ _ _ _, _, rfl, _, rfl, d, a, q.f, _, kvs, as, p, xs, rfl, hd, M, hp, g, hun, h6, hx, hxl, _, rfl, (by show 4 ≤ sizeLine; decide), fun t ht => k _ t (same_upd_new ht) (newp_of ht ?_)⟩
        rw [upd_same]
        unfold place
        rw [if_neg (by omega), if_neg (by omega)]
        rfl
/-- what is told of the places so far -/
structure Told (p : Kh219.Plan) (x : Kh219.Numbers) (kvs : List (List Key × V)) (qs : List Kh219.Fact) : Prop where
  le : kvs.length ≤ qs.length
  all : ∀ q ∈ qs, valV kvs ((place p x q).map Sum.inl) = some (.int (x q.r))
  of : ∀ k v, valV kvs k = some v → ∃ q ∈ qs, (place p x q).map Sum.inl = k ∧ v = .int (x q.r)
theorem inl_inj : ∀ {l m : List Int}, l.map (Sum.inl : Int → Key) = m.map Sum.inl → l = m
  | [], [], _ => rfl
  | [], _ :: _, h => by cases h
  | _ :: _, [], h => by cases h
  | a :: l, b :: m, h => by
    rw [List.map_cons, List.map_cons, List.cons.injEq] at h
    rw [Sum.inl.inj h.1, inl_inj h.2]
theorem kv_map (l : List Int) : (l.map (Sum.inl : Int → Key)).map kV = l.map V.int := by
  rw [List.map_map]
  rfl
theorem Told.keep {p : Kh219.Plan} {x : Kh219.Numbers} {kvs : List (List Key × V)} {qs : List Kh219.Fact} {q : Kh219.Fact} (h : Told p x kvs qs) (e : valV kvs ((place p x q).map Sum.inl) = some (.int (x q.r))) : Told p x kvs (qs ++ [q]) := by
  refine ⟨by rw [List.length_append]; have := h.le; omega, fun q' hq => ?_, fun k v ek => ?_⟩
  · rcases List.mem_append.mp hq with hq | hq
    · exact h.all q' hq
    · simp at hq
      subst hq
      exact e
  · obtain ⟨q', h1, h2⟩ := h.of k v ek
    exact ⟨q', List.mem_append_left _ h1, h2⟩
theorem Told.put {p : Kh219.Plan} {x : Kh219.Numbers} {kvs : List (List Key × V)} {qs : List Kh219.Fact} {q : Kh219.Fact} (h : Told p x kvs qs) (e : valV kvs ((place p x q).map Sum.inl) = none) : Told p x (putK kvs ((place p x q).map Sum.inl) (.int (x q.r))) (qs ++ [q]) := by
  refine ⟨?_, fun q' hq => ?_, fun k v ek => ?_⟩
  · have := length_putK kvs ((place p x q).map Sum.inl) (.int (x q.r))
    rw [List.length_append]
    have := h.le
    simp
    omega
  · rw [valV_put]
    rcases List.mem_append.mp hq with hq | hq
    · have h1 := h.all q' hq
      rw [if_neg (fun z => by rw [z, e] at h1; cases h1)]
      exact h1
    · simp at hq
      subst hq
      rw [if_pos rfl]
  · rw [valV_put] at ek
    by_cases hk : k = (place p x q).map Sum.inl
    · rw [if_pos hk] at ek
      exact ⟨q, List.mem_append_right _ (by simp), hk.symm, (Option.some.inj ek).symm⟩
    · rw [if_neg hk] at ek
      obtain ⟨q', h1, h2⟩ := h.of k v ek
      exact ⟨q', List.mem_append_left _ h1, h2⟩
theorem sc_facts_hold : FnScope ["facts", "x", "made", "told", "fact", "number"] ["facts", "x"] (defScope s_facts_hold) := ⟨rfl, rfl, rfl, by decide +kernel, rfl, by decide +kernel, by decide +kernel⟩
theorem ok_facts_hold (F : GF K mg "facts_hold" s_facts_hold ["facts", "x"]) (PM : Pr P w K mg base 1 "made_tables" ["facts"] (spMade A)) (PP : Pr P w K mg base 2 "place_of" ["fact", "made", "x"] (spPlace A)) (T : TxtF K mg A) :
    Pr P w K mg base 3 "facts_hold" ["facts", "x"] (spFactsHold A) := by
  refine F.pr sc_facts_hold (fun vs H Q E h => ?_) (fun f cdv Ar outer s H vs Q E hr h => ?_)
  · obtain ⟨f, a, as, p, xs, rfl, _⟩ := h
    rfl
  · obtain ⟨f, a, as, p, xs, rfl, ⟨hf, hp⟩, g, hl16, hun, hx, hxl, k⟩ := h
    have nd := sc_facts_hold.nd
    have hu := hu_of hr
    have hl := paired_len hp
    refine ⟨_, pss_cons (ps_set (i := 2) nd rfl (Or.inl rfl) (pe_p PM (hr.mono (by decide)) rfl (pa_cons (pv 0) pa_nil)))
      (pss_cons (ps_set (i := 3) nd rfl (Or.inl rfl) pe_dnewT)
      (pss_cons (ps_for PassesOwn.never rfl (pi_list (pv 0)) (pg_name (i := 4) nd rfl (Or.inl rfl))
        (pss_cons (ps_set (i := 5) nd rfl (Or.inl rfl) (pe_ix ix_list (pv 1) (pe_fld (pv 4) rfl) (fun _ _ => rfl)))
        (pss_one (ps_if (pt_cmpR op_ne (pe_dsetd hu (pv 3) (pe_p PP hr rfl (pa_cons (pv 4) (pa_cons (pv 2) (pa_cons (pv 1) pa_nil)))) (pv 5) ⟨rfl, rfl, rfl, rfl⟩) (pv 5) (nomark _)) (pss_one (ps_ret pe_bl)) pss_nil))))
      (pss_one (ps_ret pe_bl)))), ?_⟩
    refine ⟨_, rfl, f, as, p.facts, rfl, ⟨hf, hp⟩, by omega, fun H0 d kvs0 s0 hd0 M => ?_⟩
    intro e he
    have hd1 := newp_le _ _ hd0
    have hed : d ≠ e := ne_of_none hd1 he
    have s01 : Same H (upd H0 e (.dT [])) := s0.trans (same_upd_new he)
    refine ⟨_, rfl, f, rfl, ⟨_, s01.seq (SqL.of hf)⟩, for_list (K := K) (a := f) (xs := as.map V.ref) (fun i σ H1 => ∃ (v w' : Option V) (kvs : List (List Key × V)), σ = [some (.ref f), some (.ref a), some (.ref d), some (.ref e), v, w'] ∧ Same H0 H1 ∧ H1 e = some (.dT kvs) ∧ Told p (nums xs) kvs (p.facts.take i))
      ⟨none, none, [], rfl, same_upd_new he, upd_same, ⟨Nat.le_refl _, fun q h => (by simp at h), fun k v h => (by cases h)⟩⟩ (fun i σ H1 _ ⟨_, _, _, _, s1, _⟩ => (s0.trans s1).seq (SqL.of hf)) ?_ ?_⟩
    · rintro i y σ H1 hi ⟨v, w', kvs, rfl, s1, hek, TL⟩
      obtain ⟨c, hc, rfl⟩ := map_at hi
      obtain ⟨q, hq, dx, hcc⟩ := paired_at hp hc
      have sH : Same H H1 := s0.trans s1
      have hm : q ∈ p.facts := List.mem_of_getElem? hq
      have ha := ok_a (g.ok q hm)
      refine ⟨_, rfl, _, rfl, c, A.F, dx, _, _, rfl, sH _ _ hcc, T.cl, T.nr, fct_r _ _ _ _ _, a, _, _, _, rfl, rfl, SqL.of (sH _ _ hx), atI_nat (nums_at (k := q.r) (by omega)), ?_⟩
      refine ⟨_, rfl, e, rfl, .inr ⟨_, Rd.of hek⟩, _, rfl, _, rfl, _, rfl, c, d, a, q, kvs0, as, p, xs, rfl, ⟨dx, sH _ _ hcc⟩, g.ok q hm, s1 _ _ hd1, M, paired_mono hp (fun _ _ => FactAt.mono sH), g, hun, sH _ _ hx, hxl, fun H2 t s2 ht => ?_⟩
      have htn := newp_some ht
      have hek2 := s2 _ _ hek
      refine ⟨_, rfl, kvs, (place p (nums xs) q).map Sum.inl, t, hek2, rfl, by rw [kv_map]; exact htn.2, ?_, fun v ev => ?_, fun ev => ?_⟩
      · have := TL.le
        rw [List.length_take] at this
        exact small_lt (by omega)
      · obtain ⟨q', hq1, hq2, rfl⟩ := TL.of _ v ev
        have hq1m : q' ∈ p.facts := List.mem_of_mem_take hq1
        refine ⟨_, rfl, rfl, _, rfl, ?_⟩
        by_cases hc2 : nums xs q'.r = nums xs q.r
        · have ec : (!decide (V.int (nums xs q'.r) = V.int (nums xs q.r))) = false := by rw [hc2]; simp
          rw [ec]
          refine iteF ⟨_, _, kvs, rfl, s1.trans s2, hek2, ?_⟩
          rw [take_snoc hq]
          exact TL.keep (by rw [ev, hc2])
        · have ec : (!decide (V.int (nums xs q'.r) = V.int (nums xs q.r))) = true := by rw [dec_v, decide_eq_false hc2]; rfl
          rw [ec]
          refine iteT (q_bl (k _ (sH.trans s2)) ?_)
          unfold factsHold
          rw [List.all_eq_false]
          refine ⟨q', hq1m, ?_⟩
          rw [Bool.not_eq_true, List.all_eq_false]
          refine ⟨q, hm, ?_⟩
          rw [Bool.not_eq_true]
          exact decide_eq_false (fun z => hc2 (z (inl_inj hq2)))
      · refine ⟨_, rfl, rfl, _, rfl, ?_⟩
        have ec : (!decide (V.int (nums xs q.r) = V.int (nums xs q.r))) = false := by simp
        rw [ec]
        refine iteF ⟨_, _, _, rfl, same_upd_of (s1.trans s2) he, upd_same, ?_⟩
        rw [take_snoc hq]
        exact TL.put ev
    · rintro σ H1 ⟨v, w', kvs, rfl, s1, hek, TL⟩
      rw [List.length_map, hl, List.take_length] at TL
      refine q_bl (k H1 (s0.trans s1)) ?_
      unfold factsHold
      rw [List.all_eq_true]
      intro q hq
      rw [List.all_eq_true]
      intro q' hq'
      refine decide_eq_true fun z => ?_
      have e1 := TL.all q hq
      have e2 := TL.all q' hq'
      rw [z, e2] at e1
      exact (V.int.inj (Option.some.inj e1)).symm
end
end Wn
end
section
set_option maxRecDepth 100000
set_option maxHeartbeats 4000000
namespace Wn
open PySem PySem.Spec PyProof.Rows L2
/-! ### plans: the data -/
def plnF (u lo hi f s : V) : List (Str × V) := putF "somes" s (putF "facts" f (putF "hi" hi (putF "lo" lo (putF "unknowns" u []))))
theorem pln_u (u lo hi f s : V) : (plnF u lo hi f s).lookup ("unknowns" : Str) = some u := by
  unfold plnF
  rw [lookup_putF, if_neg (by decide +kernel), lookup_putF, if_neg (by decide +kernel), lookup_putF, if_neg (by decide +kernel), lookup_putF, if_neg (by decide +kernel), lookup_putF, if_pos rfl]
theorem pln_lo (u lo hi f s : V) : (plnF u lo hi f s).lookup ("lo" : Str) = some lo := by
  unfold plnF
  rw [lookup_putF, if_neg (by decide +kernel), lookup_putF, if_neg (by decide +kernel), lookup_putF, if_neg (by decide +kernel), lookup_putF, if_pos rfl]
theorem pln_hi (u lo hi f s : V) : (plnF u lo hi f s).lookup ("hi" : Str) = some hi := by
  unfold plnF
  rw [lookup_putF, if_neg (by decide +kernel), lookup_putF, if_neg (by decide +kernel), lookup_putF, if_pos rfl]
theorem pln_facts (u lo hi f s : V) : (plnF u lo hi f s).lookup ("facts" : Str) = some f := by
  unfold plnF
  rw [lookup_putF, if_neg (by decide +kernel), lookup_putF, if_pos rfl]
theorem pln_somes (u lo hi f s : V) : (plnF u lo hi f s).lookup ("somes" : Str) = some s := by
  unfold plnF
  rw [lookup_putF, if_pos rfl]
structure PlanIs (A : Ads) (G : Hp) (p dx lo hi fa so : Addr) (as ss : List Addr) (q : Kh219.Plan) : Prop where
  ob : G p = some (.ins A.P dx (plnF (.int q.unknowns) (.ref lo) (.ref hi) (.ref fa) (.ref so)))
  lo : IntsAt G lo q.lo
  hi : IntsAt G hi q.hi
  facts : FactsAt A G fa as q.facts
  somes : G so = some (.lst (ss.map V.ref))
  each : Paired (SomeAt A G) ss q.somes
def PlanAt (A : Ads) (G : Hp) (p : Addr) (q : Kh219.Plan) : Prop := ∃ dx lo hi fa so as ss, PlanIs A G p dx lo hi fa so as ss q
theorem PlanIs.mono {A : Ads} {G G' : Hp} {p dx lo hi fa so : Addr} {as ss : List Addr} {q : Kh219.Plan} (s : Same G G') (h : PlanIs A G p dx lo hi fa so as ss q) : PlanIs A G' p dx lo hi fa so as ss q :=
  ⟨s _ _ h.ob, h.lo.mono s, h.hi.mono s, h.facts.mono s, s _ _ h.somes, paired_mono h.each fun _ _ => SomeAt.mono s⟩
theorem PlanAt.mono {A : Ads} {G G' : Hp} {p : Addr} {q : Kh219.Plan} (s : Same G G') (h : PlanAt A G p q) : PlanAt A G' p q := by
  obtain ⟨dx, lo, hi, fa, so, as, ss, h⟩ := h
  exact ⟨dx, lo, hi, fa, so, as, ss, h.mono s⟩
/-- a list of lists of ints -/
def RowsAt (G : Hp) (a : Addr) (rows : List (List Int)) : Prop := ∃ as : List Addr, G a = some (.lst (as.map V.ref)) ∧ Paired (IntsAt G) as rows
theorem RowsAt.mono {G G' : Hp} {a : Addr} {rows : List (List Int)} (s : Same G G') (h : RowsAt G a rows) : RowsAt G' a rows := by
  obtain ⟨as, h1, h2⟩ := h
  exact ⟨as, s _ _ h1, paired_mono h2 fun _ _ => IntsAt.mono s⟩
structure TxtP (K : PySem.W.Frag) (mg : Str → Option Value) (A : Ads) : Prop where
  cl : Cls K A.P
  nu : NoAttr K A.P "unknowns"
  nlo : NoAttr K A.P "lo"
  nhi : NoAttr K A.P "hi"
  nf : NoAttr K A.P "facts"
  ns : NoAttr K A.P "somes"
  MOST_NUMBER : GInt mg "MOST_NUMBER" 10000
  MOST_FACTS : GInt mg "MOST_FACTS" 16
  MOST_SOMES : GInt mg "MOST_SOMES" 32
  MOST_B : GInt mg "MOST_BOUNDS_OF_SOME" 6
/-! ### plans: the promises -/
def spPlanInit (A : Ads) : Sp := fun vs H Q _ => ∃ (p dx : Addr) (u lo hi f s : V), vs = [.ref p, u, lo, hi, f, s] ∧ H p = some (.ins A.P dx []) ∧ ∀ H', Set1 H p (.ins A.P dx (plnF u lo hi f s)) H' → Q .non H'
def spReadPlan (A : Ads) : Sp := fun vs H Q _ => ∃ (a : Addr) (h fs : List Int) (ss : List (List Int)), vs = [.ref a] ∧ RowsAt H a (h :: fs :: ss) ∧ PlanRows h fs ss ∧ ∀ H' p, Same H H' → PlanAt A (newp H H') p (Kh219Neutral.plan h fs ss) → Q (.ref p) H'
def spRange : Sp := fun vs H Q _ => ∃ (lo hi m : Int), vs = [.int lo, .int hi, .int m] ∧ Q (.bl (decide (-m ≤ lo) && (decide (lo ≤ hi) && decide (hi ≤ m)))) H
def spOfPlan (A : Ads) (f : Kh219.Plan → Bool) : Sp := fun vs H Q _ => ∃ (p : Addr) (q : Kh219.Plan), vs = [.ref p] ∧ PlanAt A H p q ∧ WfPlan q ∧ ∀ H', Same H H' → Q (.bl (f q)) H'
def spSomeAsTold (A : Ads) : Sp := fun vs H Q _ => ∃ (a : Addr) (s : List Kh219.Le) (n : Nat), vs = [.ref a, .int n] ∧ SomeAt A H a s ∧ s.length ≤ 30000 ∧ (∀ l ∈ s, l.c.length = 12) ∧ ∀ H', Same H H' → Q (.bl (someOk n s)) H'
def XsOk (xs : List Int) : Prop := xs.length = 12 ∧ ∀ z ∈ xs, -2147483648 ≤ z ∧ z ≤ 2147483647
def spWithin (A : Ads) : Sp := fun vs H Q _ => ∃ (p a : Addr) (q : Kh219.Plan) (xs : List Int), vs = [.ref p, .ref a] ∧ PlanAt A H p q ∧ WfPlan q ∧ q.unknowns ≤ 12 ∧ IntsAt H a xs ∧ XsOk xs ∧ ∀ H', Same H H' → Q (.bl (Kh219.within q (nums xs))) H'
def spSomeHolds (A : Ads) : Sp := fun vs H Q _ => ∃ (b a : Addr) (s : List Kh219.Le) (xs : List Int), vs = [.ref b, .ref a] ∧ SomeAt A H b s ∧ s.length ≤ 30000 ∧ (∀ l ∈ s, l.c.length = 12) ∧ IntsAt H a xs ∧ XsOk xs ∧ ∀ H', Same H H' → Q (.bl (s.any fun l => l.holds (nums xs))) H'
def spMeet (A : Ads) : Sp := fun vs H Q _ => ∃ (p a : Addr) (q : Kh219.Plan) (xs : List Int), vs = [.ref p, .ref a] ∧ PlanAt A H p q ∧ WfPlan q ∧ Kh219.good q = true ∧ IntsAt H a xs ∧ XsOk xs ∧ ∀ H', Same H H' → Q (.bl (Kh219.meets q (nums xs))) H'
def RBl : Hp → V → Bool → Prop := fun _ v y => v = .bl y
theorem RBl.mono : ∀ G G' v y, Same G G' → RBl G v y → RBl G' v y := fun _ _ _ _ _ h => h
section
variable {P : Program} {w : World} {K : PySem.W.Frag} {mg : Str → Option Value} {base : Heap} {A : Ads}
theorem sc_Plan_init : FnScope ["self", "unknowns", "lo", "hi", "facts", "somes"] ["self", "unknowns", "lo", "hi", "facts", "somes"] (defScope s_Plan_init) := ⟨rfl, rfl, rfl, by decide +kernel, rfl, by decide +kernel, by decide +kernel⟩
theorem ok_Plan_init (F : GM K A.P "__init__" "Plan.__init__" s_Plan_init ["self", "unknowns", "lo", "hi", "facts", "somes"]) (mk : PySem.W.makesIn K A.P = true) (kp : PySem.W.keepIn K (.ref A.P) = true) (my : mg "Plan" = some (.ref A.P)) (T : TxtP K mg A) :
    PrC P w K mg base 1 "Plan" A.P ["self", "unknowns", "lo", "hi", "facts", "somes"] (spPlanInit A) := by
  refine F.prC mk kp my sc_Plan_init (fun vs H Q E h => ?_) (fun f cdv Ar outer s H vs Q E hr h => ?_)
  · obtain ⟨p, dx, u, lo, hi, f, s, rfl, _⟩ := h
    rfl
  · obtain ⟨p, dx, u, lo, hi, f, so, rfl, hp, k⟩ := h
    refine ⟨_, pss_cons (ps_fld (pv 0) (pv 1) rfl) (pss_cons (ps_fld (pv 0) (pv 2) rfl) (pss_cons (ps_fld (pv 0) (pv 3) rfl) (pss_cons (ps_fld (pv 0) (pv 4) rfl) (pss_one (ps_fld (pv 0) (pv 5) rfl))))), ?_⟩
    have l1 := length_putF "unknowns" u []
    have l2 := length_putF "lo" lo (putF "unknowns" u [])
    have l3 := length_putF "hi" hi (putF "lo" lo (putF "unknowns" u []))
    have l4 := length_putF "facts" f (putF "hi" hi (putF "lo" lo (putF "unknowns" u [])))
    simp only [List.length_nil] at l1
    refine ⟨_, rfl, _, rfl, p, A.P, dx, [], rfl, hp, T.cl, T.nu, (by show 0 < 1000; decide), _, rfl, _, rfl, p, A.P, dx, _, rfl, upd_same, T.cl, T.nlo, by omega, _, rfl, _, rfl, p, A.P, dx, _, rfl, upd_same, T.cl, T.nhi, by omega,
      _, rfl, _, rfl, p, A.P, dx, _, rfl, upd_same, T.cl, T.nf, by omega, _, rfl, _, rfl, p, A.P, dx, _, rfl, upd_same, T.cl, T.ns, by omega, ?_⟩
    exact k _ (Set1.over (Set1.over (Set1.over (Set1.over Set1.upd))))
def RSome (A : Ads) : Hp → V → List Kh219.Le → Prop := fun G v s => ∃ b, v = .ref b ∧ SomeAt A G b s
theorem RSome.mono {A : Ads} : ∀ G G' v y, Same G G' → RSome A G v y → RSome A G' v y := fun _ _ _ _ s ⟨b, e, h⟩ => ⟨b, e, h.mono s⟩
theorem sc_read_plan : FnScope ["lists", "numbers", "lo", "hi", "somes", "some"] ["lists"] (defScope s_read_plan) := ⟨rfl, rfl, rfl, by decide +kernel, rfl, by decide +kernel, by decide +kernel⟩
theorem ok_read_plan (F : GF K mg "read_plan" s_read_plan ["lists"]) (PP : PrC P w K mg base 1 "Plan" A.P ["self", "unknowns", "lo", "hi", "facts", "somes"] (spPlanInit A)) (PRB : Pr P w K mg base 4 "read_bounds" ["numbers"] (spReadBounds A))
    (PRF : Pr P w K mg base 4 "read_facts" ["numbers"] (spReadFacts A)) (TB : TxtB K mg A) : Pr P w K mg base 5 "read_plan" ["lists"] (spReadPlan A) := by
  refine F.pr sc_read_plan (fun vs H Q E h => ?_) (fun f cdv Ar outer s H vs Q E hr h => ?_)
  · obtain ⟨a, h, fs, ss, rfl, _⟩ := h
    rfl
  · obtain ⟨a, h, fs, ss, rfl, ⟨as, ha, hp⟩, R, k⟩ := h
    have nd := sc_read_plan.nd
    refine ⟨_, pss_cons (ps_set (i := 1) nd rfl (Or.inl rfl) (pe_ix ix_list (pv 0) pe_int (fun _ _ => rfl)))
      (pss_cons (ps_set (i := 2) nd rfl (Or.inl rfl) (pe_slice sl_list (pv 1) (po_some pe_int) (po_some (pe_op op_add pe_int (pe_gi TB.ROW rfl)))))
      (pss_cons (ps_set (i := 3) nd rfl (Or.inl rfl) (pe_slice sl_list (pv 1) (po_some (pe_op op_add pe_int (pe_gi TB.ROW rfl))) (po_some (pe_op op_add (pe_op op_add pe_int (pe_gi TB.ROW rfl)) (pe_gi TB.ROW rfl)))))
      (pss_cons (ps_setLc (i := 4) rfl nd rfl rfl (sw_true rfl rfl rfl rfl) (pi_list (pe_slice sl_list (pv 0) (po_some pe_int) po_none)) (blkOk_by (own := [("some", 5)]) (by kernel_rfl)) (fun _ _ _ _ _ => pg_name (i := 5) nd rfl (Or.inl rfl)) (fun _ _ _ _ _ => pts_nil)
        (fun _ _ _ _ _ => pe_p PRB hr rfl (pa_cons (pv 5) pa_nil)))
      (pss_one (ps_ret (pe_pc PP (hr.mono (by decide)) rfl (pa_cons (pe_ix ix_list (pv 1) pe_int (fun _ _ => rfl)) (pa_cons (pv 2) (pa_cons (pv 3) (pa_cons (pe_p PRF hr rfl (pa_cons (pe_ix ix_list (pv 0) pe_int (fun _ _ => rfl)) pa_nil)) (pa_cons (pv 4) pa_nil))))))))))), ?_⟩
    cases hp with
    | @cons a0 _ as0 _ p0 hp =>
      cases hp with
      | @cons a1 _ as2 _ p1 hp =>
        have hl := paired_len hp
        refine ⟨_, rfl, a, _, _, _, rfl, rfl, SqL.of ha, atI_nat (j := 0) rfl, ?_⟩
        refine ⟨_, rfl, 1, rfl, _, _, rfl, rfl, _, rfl, a0, _, rfl, SqL.of p0, fun lo hlo => ?_⟩
        have e1 : cutV (h.map V.int) (some 1) (some (1 + 12)) = ((h.drop 1).take 12).map V.int := by
          rw [show ((1 : Int) + 12) = ((13 : Nat) : Int) from rfl, show (1 : Int) = ((1 : Nat) : Int) from rfl, cut_ft _ _ _ (by rw [List.length_map, R.hl]; omega), List.map_take, List.map_drop]
        rw [e1]
        have s1 : Same H (upd H lo (.lst (((h.drop 1).take 12).map V.int))) := same_upd_new hlo
        have hlo1 : IntsAt (upd H lo (.lst (((h.drop 1).take 12).map V.int))) lo ((h.drop 1).take 12) := upd_same
        generalize upd H lo (.lst (((h.drop 1).take 12).map V.int)) = H1 at s1 hlo1
        refine ⟨_, rfl, _, _, rfl, rfl, _, rfl, _, _, rfl, rfl, _, _, rfl, rfl, _, rfl, a0, _, rfl, SqL.of (s1 _ _ p0), fun hi hhi => ?_⟩
        have e2 : cutV (h.map V.int) (some (1 + 12)) (some (1 + 12 + 12)) = ((h.drop 13).take 12).map V.int := by
          rw [show ((1 : Int) + 12 + 12) = ((25 : Nat) : Int) from rfl, show ((1 : Int) + 12) = ((13 : Nat) : Int) from rfl, cut_ft _ _ _ (by rw [List.length_map, R.hl]; omega), List.map_take, List.map_drop]
        rw [e2]
        have s2 : Same H1 (upd H1 hi (.lst (((h.drop 13).take 12).map V.int))) := same_upd_new hhi
        have hhi1 : IntsAt (upd H1 hi (.lst (((h.drop 13).take 12).map V.int))) hi ((h.drop 13).take 12) := upd_same
        generalize upd H1 hi (.lst (((h.drop 13).take 12).map V.int)) = H2 at s2 hhi1
        have sH2 : Same H H2 := s1.trans s2
        refine ⟨_, rfl, 2, rfl, a, _, rfl, SqL.of (sH2 _ _ ha), fun q hq => ?_⟩
        have e3 : cutV ((a0 :: a1 :: as2).map V.ref) (some 2) none = as2.map V.ref := by
          rw [show (2 : Int) = ((2 : Nat) : Int) from rfl, cut_from _ _ (by rw [List.length_map, List.length_cons, List.length_cons]; omega)]
          rfl
        rw [e3]
        have s3 : Same H2 (upd H2 q (.lst (as2.map V.ref))) := same_upd_new hq
        have hq3 : upd H2 q (.lst (as2.map V.ref)) q = some (.lst (as2.map V.ref)) := upd_same
        generalize upd H2 q (.lst (as2.map V.ref)) = H3 at s3 hq3
        have sH3 : Same H H3 := sH2.trans s3
        refine ⟨q, rfl, ⟨_, SqL.of hq3⟩, fun D hD => ?_⟩
        refine lc_mapL (R := RSome A) RSome.mono (K := K) (a := q) (xs := as2.map V.ref) (ys := ss.map Kh219Neutral.some_) hD (by rw [List.length_map]; have := R.sl; omega) (by rw [List.length_map, List.length_map, hl]) (SqL.of hq3)
          (fun n x y H4 hx hy s4 Qv hqv => ?_) (fun H4 acc s4 e p => ?_)
        · obtain ⟨c, hc, rfl⟩ := map_at hx
          obtain ⟨r, hr1, hc1⟩ := paired_at hp hc
          rw [List.getElem?_map, hr1] at hy
          have ey : Kh219Neutral.some_ r = y := Option.some.inj hy
          have hr2 := R.s13 r (List.mem_of_getElem? hr1)
          refine ⟨_, rfl, c, r, rfl, hc1.mono (sH3.trans s4), hr2.1, hr2.2, fun H5 b s5 hb => hqv _ _ s5 ⟨b, rfl, by rw [← ey]; exact hb⟩⟩
        · have sH4 : Same H H4 := sH3.trans s4
          obtain ⟨bs, eb, pb⟩ := paired_refs (fun v y h => h) p
          have nD : newp H H4 D = some (.lst (bs.map V.ref)) := newp_of (sH3.free hD) (by rw [e, eb])
          have pb' : Paired (SomeAt A (newp H H4)) bs (ss.map Kh219Neutral.some_) := paired_mono pb fun b y r => r.mono (newp_old (sH3.trans (same_upd_new hD)))
          have h0 : h[0]? = some (h.getD 0 0) := by rw [List.getD_eq_getElem?_getD, List.getElem?_eq_getElem (by rw [R.hl]; decide)]; rfl
          refine ⟨_, rfl, a0, _, _, .int (h.getD 0 0), rfl, rfl, SqL.of (sH4 _ _ p0), atI_nat (j := 0) (by rw [List.getElem?_map, h0]; rfl), _, rfl, _, rfl, _, rfl, a, _, _, _, rfl, rfl, SqL.of (sH4 _ _ ha), atI_nat (j := 1) rfl,
            a1, fs, rfl, p1.mono sH4, R.f5, R.fl, R.fn, fun H5 fa fas s5 hfa => ?_⟩
          refine ⟨_, rfl, fun x dx nx ndx ne => ⟨x, dx, _, _, _, _, _, rfl, upd_same, fun H' hs => ⟨rfl, ?_⟩⟩⟩
          obtain ⟨s6, n6⟩ := Set1.made nx ndx hs
          have sH5 : Same H H5 := sH4.trans s5
          have f5 : Same (newp H H5) (newp H H') := newp_trans s6
          have hu : ((Kh219Neutral.nat (h.getD 0 0) : Nat) : Int) = h.getD 0 0 := Int.toNat_of_nonneg (R.u _ (by
            rw [List.mem_take_iff_getElem]
            exact ⟨0, by rw [R.hl]; decide, by rw [List.getD_eq_getElem?_getD, List.getElem?_eq_getElem (by rw [R.hl]; decide)]; rfl⟩))
          refine k H' x (sH5.trans s6) ⟨dx, lo, hi, fa, D, fas, bs, ?_, ?_, ?_, ?_, ?_, ?_⟩
          · show newp H H' x = some (.ins A.P dx (plnF (.int ((Kh219Neutral.nat (h.getD 0 0) : Nat) : Int)) (.ref lo) (.ref hi) (.ref fa) (.ref D)))
            rw [hu]
            exact newp_old sH5 _ _ n6
          · exact newp_of hlo ((((s2.trans s3).trans s4).trans s5).trans s6 _ _ hlo1)
          · exact newp_of (s1.free hhi) (((s3.trans s4).trans s5).trans s6 _ _ hhi1)
          · exact (hfa.mono (newp_old sH4)).mono f5
          · exact newp_trans (s5.trans s6) _ _ nD
          · exact paired_mono pb' fun b y r => r.mono (newp_trans (s5.trans s6))
end
end Wn
end
section
set_option maxRecDepth 100000
set_option maxHeartbeats 4000000
namespace Wn
open PySem PySem.Spec PyProof.Rows L2
theorem getD_at {xs : List Int} {k : Nat} (h : k < xs.length) : (xs.map V.int)[k]? = some (.int (xs.getD k 0)) := nums_at h
theorem getD_all {α : Type} {l : List α} {n : Nat} {x : α} (h : l[n]? = some x) {p : α → Prop} (hp : ∀ y ∈ l, p y) : p x := hp x (List.mem_of_getElem? h)
section
variable {P : Program} {w : World} {K : PySem.W.Frag} {mg : Str → Option Value} {base : Heap} {A : Ads}
theorem sc_range_as_told : FnScope ["low", "high", "most"] ["low", "high", "most"] (defScope s_range_as_told) := ⟨rfl, rfl, rfl, by decide +kernel, rfl, by decide +kernel, by decide +kernel⟩
theorem ok_range_as_told (F : GF K mg "range_as_told" s_range_as_told ["low", "high", "most"]) : Pr P w K mg base 1 "range_as_told" ["low", "high", "most"] spRange := by
  refine F.pr sc_range_as_told (fun vs H Q E h => ?_) (fun f cdv Ar outer s H vs Q E hr h => ?_)
  · obtain ⟨lo, hi, m, rfl, _⟩ := h
    rfl
  · obtain ⟨lo, hi, m, rfl, k⟩ := h
    refine ⟨_, pss_one (ps_ret (pe_chain3 op_le op_le op_le (pe_un un_neg (pv 2)) (pv 0) (pv 1) (pv 2))), ?_⟩
    refine ⟨_, rfl, _, rfl, _, rfl, _, _, rfl, rfl, _, rfl, ite2 (fun h1 => ?_) (fun h1 => ?_)⟩
    · refine ⟨_, rfl, _, _, rfl, rfl, _, rfl, ite2 (fun h2 => ?_) (fun h2 => ?_)⟩
      · refine ⟨_, rfl, _, _, rfl, rfl, q_bl k ?_⟩
        rw [h1, h2, Bool.true_and, Bool.true_and]
      · refine q_bl k ?_
        rw [Bool.eq_false_iff.mpr h2, Bool.false_and, Bool.and_false]
    · refine q_bl k ?_
      rw [Bool.eq_false_iff.mpr h1, Bool.false_and]
theorem sc_ranges_as_told : FnScope ["plan", "k", "most"] ["plan"] (defScope s_ranges_as_told) := ⟨rfl, rfl, rfl, by decide +kernel, rfl, by decide +kernel, by decide +kernel⟩
theorem ok_ranges_as_told (F : GF K mg "ranges_as_told" s_ranges_as_told ["plan"]) (PR : Pr P w K mg base 1 "range_as_told" ["low", "high", "most"] spRange) (T : TxtP K mg A) (TB : TxtB K mg A) (G : TxtG mg) :
    Pr P w K mg base 2 "ranges_as_told" ["plan"] (spOfPlan A rangesOk) := by
  refine F.pr sc_ranges_as_told (fun vs H Q E h => ?_) (fun f cdv Ar outer s H vs Q E hr h => ?_)
  · obtain ⟨p, q, rfl, _⟩ := h
    rfl
  · obtain ⟨p, q, rfl, ⟨dx, lo, hi, fa, so, as, ss, I⟩, W, k⟩ := h
    have nd := sc_ranges_as_told.nd
    refine ⟨_, pss_cons (ps_for PassesOwn.never rfl (pi_range1 rfl G.range (pa_cons (pe_gi TB.ROW rfl) pa_nil)) (pg_name (i := 1) nd rfl (Or.inl rfl))
        (pss_cons (ps_set (i := 2) nd rfl (Or.inl rfl) (pe_ifExp (pt_cmpR op_lt (pv 1) (pe_fld (pv 0) rfl) (nomark _)) (pe_gi T.MOST_NUMBER rfl) pe_int))
        (pss_one (ps_if (pt_not (pt_val (pe_p PR hr rfl (pa_cons (pe_ix ix_list (pe_fld (pv 0) rfl) (pv 1) (fun _ _ => rfl)) (pa_cons (pe_ix ix_list (pe_fld (pv 0) rfl) (pv 1) (fun _ _ => rfl)) (pa_cons (pv 2) pa_nil)))))) (pss_one (ps_ret pe_bl)) pss_nil))))
      (pss_one (ps_ret pe_bl)), ?_⟩
    have k := k H (Same.refl _)
    refine ⟨12, rfl, by decide, by decide, for_range (n := 12) (fun i σ H1 => H1 = H ∧ ∃ v1 v2 : Option V, σ = [some (.ref p), v1, v2] ∧ ∀ j, j < i → rngOk q j = true) ⟨rfl, none, none, rfl, fun j hj => by omega⟩ ?_ ?_⟩
    · rintro i σ H1 hi12 ⟨rfl, v1, v2, rfl, hk⟩
      refine ⟨_, rfl, _, rfl, p, A.P, dx, _, _, rfl, I.ob, T.cl, T.nu, pln_u _ _ _ _ _, _, _, rfl, rfl, _, rfl, ?_⟩
      have go : ∀ m : Int, m = (if i < q.unknowns then 10000 else 0) → (rngOk q i = true → ∀ v2', (H1 = H1 ∧ ∃ v1 v2 : Option V, ([some (.ref p), some (.int ((0 : Int) + i)), v2'] : St) = [some (.ref p), v1, v2] ∧ ∀ j, j < i + 1 → rngOk q j = true)) := fun m _ h v2' => ⟨rfl, _, _, rfl, fun j hj => by
        by_cases e : j = i
        · rw [e]; exact h
        · exact hk j (by omega)⟩
      have lo0 := getD_at (xs := q.lo) (k := i) (by rw [W.lo]; exact hi12)
      have hi0 := getD_at (xs := q.hi) (k := i) (by rw [W.hi]; exact hi12)
      have e0 : (0 : Int) + (i : Int) = (i : Int) := Int.zero_add _
      refine ite2 (fun h1 => ?_) (fun h1 => ?_)
      · have h1 := of_decide_eq_true h1
        have hm : (10000 : Int) = if i < q.unknowns then 10000 else 0 := by rw [if_pos (by omega)]
        refine ⟨_, rfl, p, A.P, dx, _, _, rfl, I.ob, T.cl, T.nlo, pln_lo _ _ _ _ _, _, rfl, lo, _, _, _, rfl, rfl, SqL.of I.lo, by rw [e0]; exact atI_nat lo0, _, rfl, p, A.P, dx, _, _, rfl, I.ob, T.cl, T.nhi, pln_hi _ _ _ _ _, _, rfl, hi, _, _, _, rfl, rfl, SqL.of I.hi, by rw [e0]; exact atI_nat hi0, _, rfl, _, _, _, rfl, _, rfl, ?_⟩
        rw [← rngOk_eq q i 10000 hm]
        cases e : rngOk q i with
        | true => exact iteF (go 10000 hm e _)
        | false => exact iteT (q_bl k (rangesOk_no hi12 e))
      · have h1 := of_decide_eq_false (Bool.eq_false_iff.mpr h1)
        have hm : (0 : Int) = if i < q.unknowns then 10000 else 0 := by rw [if_neg (by omega)]
        refine ⟨_, rfl, p, A.P, dx, _, _, rfl, I.ob, T.cl, T.nlo, pln_lo _ _ _ _ _, _, rfl, lo, _, _, _, rfl, rfl, SqL.of I.lo, by rw [e0]; exact atI_nat lo0, _, rfl, p, A.P, dx, _, _, rfl, I.ob, T.cl, T.nhi, pln_hi _ _ _ _ _, _, rfl, hi, _, _, _, rfl, rfl, SqL.of I.hi, by rw [e0]; exact atI_nat hi0, _, rfl, _, _, _, rfl, _, rfl, ?_⟩
        rw [← rngOk_eq q i 0 hm]
        cases e : rngOk q i with
        | true => exact iteF (go 0 hm e _)
        | false => exact iteT (q_bl k (rangesOk_no hi12 e))
    · rintro σ H1 ⟨rfl, v1, v2, rfl, hk⟩
      exact q_bl k (rangesOk_yes hk)
theorem sc_facts_as_told : FnScope ["plan", "fact"] ["plan"] (defScope s_facts_as_told) := ⟨rfl, rfl, rfl, by decide +kernel, rfl, by decide +kernel, by decide +kernel⟩
theorem ok_facts_as_told (F : GF K mg "facts_as_told" s_facts_as_told ["plan"]) (PF : Pr P w K mg base 2 "fact_as_told" ["fact", "unknowns"] (spFactAsTold A)) (PO : Pr P w K mg base 2 "each_made_once" ["facts"] (spOnce A)) (T : TxtP K mg A) (G : TxtG mg) :
    Pr P w K mg base 3 "facts_as_told" ["plan"] (spOfPlan A factsOk) := by
  refine F.pr sc_facts_as_told (fun vs H Q E h => ?_) (fun f cdv Ar outer s H vs Q E hr h => ?_)
  · obtain ⟨p, q, rfl, _⟩ := h
    rfl
  · obtain ⟨p, q, rfl, ⟨dx, lo, hi, fa, so, as, ss, I⟩, W, k⟩ := h
    have nd := sc_facts_as_told.nd
    have hl := paired_len I.facts.2
    refine ⟨_, pss_cons (ps_if (pt_cmpR op_gt (pe_callB call_len_seq rfl G.len boot_len (pa_cons (pe_fld (pv 0) rfl) pa_nil)) (pe_gi T.MOST_FACTS rfl) (nomark _)) (pss_one (ps_ret pe_bl)) pss_nil)
      (pss_one (ps_ret (pe_and (pe_callB (cr_all rfl) rfl G.all boot_all (pa_cons (pe_lc rfl nd (pi_list (pe_fld (pv 0) rfl)) (blkOk_by (own := [("fact", 1)]) (by kernel_rfl)) (fun _ _ _ _ _ => pg_name (i := 1) nd rfl (Or.inl rfl)) (fun _ _ _ _ _ => pts_nil)
        (fun _ _ _ _ _ => pe_p PF hr rfl (pa_cons (pv 1) (pa_cons (pe_fldB K rfl (pv 0) rfl) pa_nil)))) pa_nil)) (pe_one (pe_p PO hr rfl (pa_cons (pe_fld (pv 0) rfl) pa_nil)))))), ?_⟩
    have ef : ∀ H', Same H H' → Q (.bl (factsOk q)) H' := k
    refine ⟨_, rfl, p, A.P, dx, _, _, rfl, I.ob, T.cl, T.nf, pln_facts _ _ _ _ _, fa, _, rfl, .inl (SqL.of I.facts.1), _, _, rfl, rfl, _, rfl, ite2 (fun h1 => ?_) (fun h1 => ?_)⟩
    · have h1 := of_decide_eq_true h1
      rw [List.length_map] at h1
      refine q_bl (k H (Same.refl _)) ?_
      unfold factsOk
      rw [decide_eq_false (by omega), Bool.false_and]
    · have h1 := of_decide_eq_false (Bool.eq_false_iff.mpr h1)
      rw [List.length_map] at h1
      refine ⟨_, rfl, p, A.P, dx, _, _, rfl, I.ob, T.cl, T.nf, pln_facts _ _ _ _ _, fa, rfl, ⟨_, SqL.of I.facts.1⟩, fun D hD => ?_⟩
      refine lc_mapL (R := RBl) RBl.mono (K := K) (a := fa) (xs := as.map V.ref) (ys := q.facts.map (Kh219.okFact q.unknowns)) hD (by rw [List.length_map]; have := W.fl; omega) (by rw [List.length_map, List.length_map, hl]) (SqL.of I.facts.1)
        (fun n x y H1 hx hy s1 Qv hqv => ?_) (fun H1 acc s1 e pa => ?_)
      · obtain ⟨c, hc, rfl⟩ := map_at hx
        obtain ⟨r, hr1, hc1⟩ := paired_at I.facts.2 hc
        rw [List.getElem?_map, hr1] at hy
        have ey : Kh219.okFact q.unknowns r = y := Option.some.inj hy
        exact ⟨_, rfl, _, rfl, p, A.P, dx, _, _, rfl, s1 _ _ I.ob, T.cl, T.nu, pln_u _ _ _ _ _, c, r, q.unknowns, rfl, hc1.mono s1, hqv _ _ (Same.refl _) (by rw [ey]; rfl)⟩
      · have ea := paired_map (f := V.bl) pa
        rw [ea] at e
        refine ⟨D, _, rfl, SqL.of e, _, rfl, ?_⟩
        rw [all_map_id]
        cases ec : q.facts.all (Kh219.okFact q.unknowns) with
        | false =>
          refine iteF (q_bl (k H1 s1) ?_)
          unfold factsOk
          rw [ec, Bool.false_and, Bool.and_false]
        | true =>
          refine iteT ⟨_, rfl, p, A.P, dx, _, _, rfl, s1 _ _ I.ob, T.cl, T.nf, pln_facts _ _ _ _ _, fa, as, q.facts, rfl, I.facts.mono s1, W.fl, fun H2 s2 => q_bl (k H2 (s1.trans s2)) ?_⟩
          unfold factsOk
          rw [ec, Bool.true_and, decide_eq_true (by omega), Bool.true_and]
theorem sc_some_as_told : FnScope ["some", "unknowns", "bound"] ["some", "unknowns"] (defScope s_some_as_told) := ⟨rfl, rfl, rfl, by decide +kernel, rfl, by decide +kernel, by decide +kernel⟩
theorem ok_some_as_told (F : GF K mg "some_as_told" s_some_as_told ["some", "unknowns"]) (PB : Pr P w K mg base 1 "bound_as_told" ["bound", "unknowns"] (spBoundAsTold A)) (T : TxtP K mg A) (G : TxtG mg) :
    Pr P w K mg base 2 "some_as_told" ["some", "unknowns"] (spSomeAsTold A) := by
  refine F.pr sc_some_as_told (fun vs H Q E h => ?_) (fun f cdv Ar outer s H vs Q E hr h => ?_)
  · obtain ⟨a, s, n, rfl, _⟩ := h
    rfl
  · obtain ⟨a, ls, n, rfl, ⟨bs, ha, hp⟩, hlen, hc12, k⟩ := h
    have nd := sc_some_as_told.nd
    have hl := paired_len hp
    refine ⟨_, pss_one (ps_ret (pe_and (pe_cmpR op_le (pe_callB call_len_seq rfl G.len boot_len (pa_cons (pv 0) pa_nil)) (pe_gi T.MOST_B rfl) (nomark _))
      (pe_one (pe_callB (cr_all rfl) rfl G.all boot_all (pa_cons (pe_lc rfl nd (pi_list (pv 0)) (blkOk_by (own := [("bound", 2)]) (by kernel_rfl)) (fun _ _ _ _ _ => pg_name (i := 2) nd rfl (Or.inl rfl)) (fun _ _ _ _ _ => pts_nil)
        (fun _ _ _ _ _ => pe_p PB hr rfl (pa_cons (pv 2) (pa_cons (pv 1) pa_nil)))) pa_nil))))), ?_⟩
    refine ⟨_, rfl, a, _, rfl, .inl (SqL.of ha), _, _, rfl, rfl, _, rfl, ?_⟩
    rw [List.length_map, hl]
    refine ite2 (fun h1 => ?_) (fun h1 => ?_)
    · have h1 := of_decide_eq_true h1
      refine ⟨_, rfl, a, rfl, ⟨_, SqL.of ha⟩, fun D hD => ?_⟩
      refine lc_mapL (R := RBl) RBl.mono (K := K) (a := a) (xs := bs.map V.ref) (ys := ls.map (Kh219.okLe n)) hD (by rw [List.length_map]; omega) (by rw [List.length_map, List.length_map, hl]) (SqL.of ha)
        (fun j x y H1 hx hy s1 Qv hqv => ?_) (fun H1 acc s1 e pa => ?_)
      · obtain ⟨c, hc, rfl⟩ := map_at hx
        obtain ⟨r, hr1, hc1⟩ := paired_at hp hc
        rw [List.getElem?_map, hr1] at hy
        have ey : Kh219.okLe n r = y := Option.some.inj hy
        exact ⟨_, rfl, _, rfl, c, r, n, rfl, hc1.mono s1, hc12 r (List.mem_of_getElem? hr1), fun H2 s2 => hqv _ _ s2 (by rw [ey]; rfl)⟩
      · have ea := paired_map (f := V.bl) pa
        rw [ea] at e
        refine ⟨D, _, rfl, SqL.of e, q_bl (k H1 s1) ?_⟩
        unfold someOk
        rw [all_map_id, decide_eq_true (by omega), Bool.true_and]
    · have h1 := of_decide_eq_false (Bool.eq_false_iff.mpr h1)
      refine q_bl (k H (Same.refl _)) ?_
      unfold someOk
      rw [decide_eq_false (by omega), Bool.false_and]
theorem sc_somes_as_told : FnScope ["plan", "some"] ["plan"] (defScope s_somes_as_told) := ⟨rfl, rfl, rfl, by decide +kernel, rfl, by decide +kernel, by decide +kernel⟩
theorem ok_somes_as_told (F : GF K mg "somes_as_told" s_somes_as_told ["plan"]) (PS : Pr P w K mg base 2 "some_as_told" ["some", "unknowns"] (spSomeAsTold A)) (T : TxtP K mg A) (G : TxtG mg) :
    Pr P w K mg base 3 "somes_as_told" ["plan"] (spOfPlan A somesOk) := by
  refine F.pr sc_somes_as_told (fun vs H Q E h => ?_) (fun f cdv Ar outer s H vs Q E hr h => ?_)
  · obtain ⟨p, q, rfl, _⟩ := h
    rfl
  · obtain ⟨p, q, rfl, ⟨dx, lo, hi, fa, so, as, ss, I⟩, W, k⟩ := h
    have nd := sc_somes_as_told.nd
    have hl := paired_len I.each
    refine ⟨_, pss_one (ps_ret (pe_and (pe_cmpR op_le (pe_callB call_len_seq rfl G.len boot_len (pa_cons (pe_fld (pv 0) rfl) pa_nil)) (pe_gi T.MOST_SOMES rfl) (nomark _))
      (pe_one (pe_callB (cr_all rfl) rfl G.all boot_all (pa_cons (pe_lc rfl nd (pi_list (pe_fld (pv 0) rfl)) (blkOk_by (own := [("some", 1)]) (by kernel_rfl)) (fun _ _ _ _ _ => pg_name (i := 1) nd rfl (Or.inl rfl)) (fun _ _ _ _ _ => pts_nil)
        (fun _ _ _ _ _ => pe_p PS hr rfl (pa_cons (pv 1) (pa_cons (pe_fldB K rfl (pv 0) rfl) pa_nil)))) pa_nil))))), ?_⟩
    refine ⟨_, rfl, p, A.P, dx, _, _, rfl, I.ob, T.cl, T.ns, pln_somes _ _ _ _ _, so, _, rfl, .inl (SqL.of I.somes), _, _, rfl, rfl, _, rfl, ?_⟩
    rw [List.length_map, hl]
    refine ite2 (fun h1 => ?_) (fun h1 => ?_)
    · have h1 := of_decide_eq_true h1
      refine ⟨_, rfl, p, A.P, dx, _, _, rfl, I.ob, T.cl, T.ns, pln_somes _ _ _ _ _, so, rfl, ⟨_, SqL.of I.somes⟩, fun D hD => ?_⟩
      refine lc_mapL (R := RBl) RBl.mono (K := K) (a := so) (xs := ss.map V.ref) (ys := q.somes.map (someOk q.unknowns)) hD (by rw [List.length_map]; omega) (by rw [List.length_map, List.length_map, hl]) (SqL.of I.somes)
        (fun j x y H1 hx hy s1 Qv hqv => ?_) (fun H1 acc s1 e pa => ?_)
      · obtain ⟨c, hc, rfl⟩ := map_at hx
        obtain ⟨r, hr1, hc1⟩ := paired_at I.each hc
        rw [List.getElem?_map, hr1] at hy
        have ey : someOk q.unknowns r = y := Option.some.inj hy
        have hw := W.each r (List.mem_of_getElem? hr1)
        exact ⟨_, rfl, _, rfl, p, A.P, dx, _, _, rfl, s1 _ _ I.ob, T.cl, T.nu, pln_u _ _ _ _ _, c, r, q.unknowns, rfl, hc1.mono s1, hw.1, hw.2, fun H2 s2 => hqv _ _ s2 (by rw [ey]; rfl)⟩
      · have ea := paired_map (f := V.bl) pa
        rw [ea] at e
        refine ⟨D, _, rfl, SqL.of e, q_bl (k H1 s1) ?_⟩
        unfold somesOk
        rw [all_map_id, decide_eq_true (by omega), Bool.true_and]
    · have h1 := of_decide_eq_false (Bool.eq_false_iff.mpr h1)
      refine q_bl (k H (Same.refl _)) ?_
      unfold somesOk
      rw [decide_eq_false (by omega), Bool.false_and]
theorem sc_plan_as_told : FnScope ["plan"] ["plan"] (defScope s_plan_as_told) := ⟨rfl, rfl, rfl, by decide +kernel, rfl, by decide +kernel, by decide +kernel⟩
theorem ok_plan_as_told (F : GF K mg "plan_as_told" s_plan_as_told ["plan"]) (P1 : Pr P w K mg base 2 "ranges_as_told" ["plan"] (spOfPlan A rangesOk)) (P2 : Pr P w K mg base 3 "facts_as_told" ["plan"] (spOfPlan A factsOk)) (P3 : Pr P w K mg base 3 "somes_as_told" ["plan"] (spOfPlan A somesOk))
    (T : TxtP K mg A) (TB : TxtB K mg A) : Pr P w K mg base 4 "plan_as_told" ["plan"] (spOfPlan A Kh219.good) := by
  refine F.pr sc_plan_as_told (fun vs H Q E h => ?_) (fun f cdv Ar outer s H vs Q E hr h => ?_)
  · obtain ⟨p, q, rfl, _⟩ := h
    rfl
  · obtain ⟨p, q, rfl, hP, W, k⟩ := h
    obtain ⟨dx, lo, hi, fa, so, as, ss, I⟩ := id hP
    rw [good_eq W] at k
    refine ⟨_, pss_cons (ps_if (pt_not (pt_chain op_le op_le pe_int (pe_fld (pv 0) rfl) (pe_gi TB.ROW rfl))) (pss_one (ps_ret pe_bl)) pss_nil)
      (pss_one (ps_ret (pe_and (pe_p P1 (hr.mono (by decide)) rfl (pa_cons (pv 0) pa_nil)) (pe_and (pe_p P2 hr rfl (pa_cons (pv 0) pa_nil)) (pe_one (pe_p P3 hr rfl (pa_cons (pv 0) pa_nil))))))), ?_⟩
    refine ⟨_, rfl, p, A.P, dx, _, _, rfl, I.ob, T.cl, T.nu, pln_u _ _ _ _ _, _, _, rfl, rfl, _, rfl, ?_⟩
    have no : ¬ (1 ≤ q.unknowns ∧ q.unknowns ≤ 12) → Q (.bl false) H := fun h => q_bl (k H (Same.refl _)) (by rw [decide_eq_false h, Bool.false_and])
    refine ite2 (fun h1 => ?_) (fun h1 => ?_)
    · have h1 := of_decide_eq_true h1
      refine ⟨_, _, rfl, rfl, _, rfl, ?_⟩
      by_cases h2 : (q.unknowns : Int) ≤ 12
      · rw [decide_eq_true h2]
        refine iteF ⟨_, rfl, p, q, rfl, hP, W, fun H1 s1 => ⟨_, rfl, ?_⟩⟩
        have ok : decide (1 ≤ q.unknowns ∧ q.unknowns ≤ 12) = true := decide_eq_true (by omega)
        rw [ok, Bool.true_and] at k
        cases e1 : rangesOk q with
        | false => exact iteF (q_bl (k H1 s1) (by rw [e1, Bool.false_and]))
        | true =>
          rw [e1, Bool.true_and] at k
          refine iteT ⟨_, rfl, p, q, rfl, hP.mono s1, W, fun H2 s2 => ⟨_, rfl, ?_⟩⟩
          cases e2 : factsOk q with
          | false => exact iteF (q_bl (k H2 (s1.trans s2)) (by rw [e2, Bool.false_and]))
          | true =>
            rw [e2, Bool.true_and] at k
            exact iteT ⟨_, rfl, p, q, rfl, hP.mono (s1.trans s2), W, fun H3 s3 => k H3 ((s1.trans s2).trans s3)⟩
      · rw [decide_eq_false h2]
        exact iteT (no (by omega))
    · have h1 := of_decide_eq_false (Bool.eq_false_iff.mpr h1)
      exact ⟨_, rfl, iteT (no (by omega))⟩
theorem sc_within_ranges : FnScope ["plan", "x", "k"] ["plan", "x"] (defScope s_within_ranges) := ⟨rfl, rfl, rfl, by decide +kernel, rfl, by decide +kernel, by decide +kernel⟩
theorem ok_within_ranges (F : GF K mg "within_ranges" s_within_ranges ["plan", "x"]) (T : TxtP K mg A) (G : TxtG mg) : Pr P w K mg base 1 "within_ranges" ["plan", "x"] (spWithin A) := by
  refine F.pr sc_within_ranges (fun vs H Q E h => ?_) (fun f cdv Ar outer s H vs Q E hr h => ?_)
  · obtain ⟨p, a, q, xs, rfl, _⟩ := h
    rfl
  · obtain ⟨p, a, q, xs, rfl, ⟨dx, lo, hi, fa, so, as, ss, I⟩, W, hun, hx, hxs, k⟩ := h
    have nd := sc_within_ranges.nd
    refine ⟨_, pss_one (ps_ret (pe_callB (cr_all rfl) rfl G.all boot_all (pa_cons (pe_lc rfl nd (pi_range1 rfl G.range (pa_cons (pe_fld (pv 0) rfl) pa_nil)) (blkOk_by (own := [("k", 2)]) (by kernel_rfl)) (fun _ _ _ _ _ => pg_name (i := 2) nd rfl (Or.inl rfl)) (fun _ _ _ _ _ => pts_nil)
        (fun _ _ _ _ _ => pe_chain op_le op_le (pe_ix (r := rIxL K) ix_list (pe_fldB K rfl (pv 0) rfl) (pv 2) (fun _ _ => rfl)) (pe_ix (r := rIxL K) ix_list (pv 1) (pv 2) (fun _ _ => rfl)) (pe_ix (r := rIxL K) ix_list (pe_fldB K rfl (pv 0) rfl) (pv 2) (fun _ _ => rfl)))) pa_nil))), ?_⟩
    refine ⟨_, rfl, p, A.P, dx, _, _, rfl, I.ob, T.cl, T.nu, pln_u _ _ _ _ _, _, rfl, by omega, by omega, fun D hD => ?_⟩
    refine lc_mapR (R := RBl) RBl.mono (ys := (List.range q.unknowns).map (withinAt q xs)) hD (by rw [List.length_map, List.length_range]; omega) (by rw [List.length_map, List.length_range]; rfl)
      (fun j y H1 hy s1 Qv hqv => ?_) (fun H1 acc s1 e pa => ?_)
    · have hj : j < q.unknowns := by
        have := (List.getElem?_eq_some_iff.mp hy).1
        rw [List.length_map, List.length_range] at this
        exact this
      have ey : withinAt q xs j = y := by
        rw [List.getElem?_map, List.getElem?_range hj] at hy
        exact Option.some.inj hy
      have e0 : (0 : Int) + (j : Int) = (j : Int) := Int.zero_add _
      have lo0 := getD_at (xs := q.lo) (k := j) (by rw [W.lo]; omega)
      have hi0 := getD_at (xs := q.hi) (k := j) (by rw [W.hi]; omega)
      have x0 := getD_at (xs := xs) (k := j) (by rw [hxs.1]; omega)
      refine ⟨_, rfl, p, A.P, dx, _, _, rfl, s1 _ _ I.ob, T.cl, T.nlo, pln_lo _ _ _ _ _, _, rfl, lo, _, _, _, rfl, rfl, SqL.of (s1 _ _ I.lo), by rw [e0]; exact atI_nat lo0, _, rfl, _, rfl, a, _, _, _, rfl, rfl, SqL.of (s1 _ _ hx), by rw [e0]; exact atI_nat x0, _, _, rfl, rfl, _, rfl, ?_⟩
      unfold withinAt at ey
      refine ite2 (fun h1 => ?_) (fun h1 => ?_)
      · refine ⟨_, rfl, p, A.P, dx, _, _, rfl, s1 _ _ I.ob, T.cl, T.nhi, pln_hi _ _ _ _ _, _, rfl, hi, _, _, _, rfl, rfl, SqL.of (s1 _ _ I.hi), by rw [e0]; exact atI_nat hi0, _, _, rfl, rfl, hqv _ _ (Same.refl _) ?_⟩
        rw [← ey, h1, Bool.true_and]
        rfl
      · refine hqv _ _ (Same.refl _) ?_
        rw [← ey, Bool.eq_false_iff.mpr h1, Bool.false_and]
        rfl
    · have ea := paired_map (f := V.bl) pa
      rw [ea] at e
      exact ⟨D, _, rfl, SqL.of e, q_bl (k H1 s1) (within_eq q xs)⟩
theorem sc_some_holds : FnScope ["some", "x", "bound"] ["some", "x"] (defScope s_some_holds) := ⟨rfl, rfl, rfl, by decide +kernel, rfl, by decide +kernel, by decide +kernel⟩
theorem ok_some_holds (F : GF K mg "some_holds" s_some_holds ["some", "x"]) (PB : Pr P w K mg base 1 "bound_holds" ["bound", "x"] (spBoundHolds A)) (G : TxtG mg) : Pr P w K mg base 2 "some_holds" ["some", "x"] (spSomeHolds A) := by
  refine F.pr sc_some_holds (fun vs H Q E h => ?_) (fun f cdv Ar outer s H vs Q E hr h => ?_)
  · obtain ⟨b, a, ls, xs, rfl, _⟩ := h
    rfl
  · obtain ⟨b, a, ls, xs, rfl, ⟨bs, hb, hp⟩, hlen, hc12, hx, hxs, k⟩ := h
    have nd := sc_some_holds.nd
    have hl := paired_len hp
    refine ⟨_, pss_one (ps_ret (pe_callB (cr_any rfl) rfl G.any boot_any (pa_cons (pe_lc rfl nd (pi_list (pv 0)) (blkOk_by (own := [("bound", 2)]) (by kernel_rfl)) (fun _ _ _ _ _ => pg_name (i := 2) nd rfl (Or.inl rfl)) (fun _ _ _ _ _ => pts_nil)
        (fun _ _ _ _ _ => pe_p PB hr rfl (pa_cons (pv 2) (pa_cons (pv 1) pa_nil)))) pa_nil))), ?_⟩
    refine ⟨_, rfl, b, rfl, ⟨_, SqL.of hb⟩, fun D hD => ?_⟩
    refine lc_mapL (R := RBl) RBl.mono (K := K) (a := b) (xs := bs.map V.ref) (ys := ls.map fun l => l.holds (nums xs)) hD (by rw [List.length_map]; omega) (by rw [List.length_map, List.length_map, hl]) (SqL.of hb)
      (fun j x y H1 hx1 hy s1 Qv hqv => ?_) (fun H1 acc s1 e pa => ?_)
    · obtain ⟨c, hc, rfl⟩ := map_at hx1
      obtain ⟨r, hr1, hc1⟩ := paired_at hp hc
      rw [List.getElem?_map, hr1] at hy
      have ey : r.holds (nums xs) = y := Option.some.inj hy
      exact ⟨_, rfl, _, rfl, c, a, r, xs, rfl, hc1.mono s1, hc12 r (List.mem_of_getElem? hr1), hx.mono s1, hxs.1, hxs.2, fun H2 s2 => hqv _ _ s2 (by rw [← ey]; rfl)⟩
    · have ea := paired_map (f := V.bl) pa
      rw [ea] at e
      refine ⟨D, _, rfl, SqL.of e, q_bl (k H1 s1) ?_⟩
      rw [List.any_map]
      rfl
theorem sc_numbers_meet : FnScope ["plan", "x", "some"] ["plan", "x"] (defScope s_numbers_meet) := ⟨rfl, rfl, rfl, by decide +kernel, rfl, by decide +kernel, by decide +kernel⟩
theorem ok_numbers_meet (F : GF K mg "numbers_meet" s_numbers_meet ["plan", "x"]) (P1 : Pr P w K mg base 1 "within_ranges" ["plan", "x"] (spWithin A)) (P2 : Pr P w K mg base 2 "some_holds" ["some", "x"] (spSomeHolds A)) (P3 : Pr P w K mg base 3 "facts_hold" ["facts", "x"] (spFactsHold A))
    (T : TxtP K mg A) (G : TxtG mg) : Pr P w K mg base 4 "numbers_meet" ["plan", "x"] (spMeet A) := by
  refine F.pr sc_numbers_meet (fun vs H Q E h => ?_) (fun f cdv Ar outer s H vs Q E hr h => ?_)
  · obtain ⟨p, a, q, xs, rfl, _⟩ := h
    rfl
  · obtain ⟨p, a, q, xs, rfl, hP, W, hg, hx, hxs, k⟩ := h
    obtain ⟨dx, lo, hi, fa, so, as, ss, I⟩ := id hP
    obtain ⟨⟨_, hun⟩, hl16, okf, hsl, hsm⟩ := good_parts W hg
    have nd := sc_numbers_meet.nd
    have hl := paired_len I.each
    rw [meets_eq, ← facts_eq okf] at k
    refine ⟨_, pss_cons (ps_if (pt_not (pt_val (pe_p P1 (hr.mono (by decide)) rfl (pa_cons (pv 0) (pa_cons (pv 1) pa_nil))))) (pss_one (ps_ret pe_bl)) pss_nil)
      (pss_one (ps_ret (pe_and (pe_callB (cr_all rfl) rfl G.all boot_all (pa_cons (pe_lc rfl nd (pi_list (pe_fld (pv 0) rfl)) (blkOk_by (own := [("some", 2)]) (by kernel_rfl)) (fun _ _ _ _ _ => pg_name (i := 2) nd rfl (Or.inl rfl)) (fun _ _ _ _ _ => pts_nil)
        (fun _ _ _ _ _ => pe_p P2 (hr.mono (by decide)) rfl (pa_cons (pv 2) (pa_cons (pv 1) pa_nil)))) pa_nil)) (pe_one (pe_p P3 hr rfl (pa_cons (pe_fld (pv 0) rfl) (pa_cons (pv 1) pa_nil))))))), ?_⟩
    refine ⟨_, rfl, _, rfl, p, a, q, xs, rfl, hP, W, hun, hx, hxs, fun H1 s1 => ⟨_, rfl, ?_⟩⟩
    cases e1 : Kh219.within q (nums xs) with
    | false => exact iteT (q_bl (k H1 s1) (by rw [e1, Bool.false_and, Bool.false_and]))
    | true =>
      rw [e1, Bool.true_and] at k
      refine iteF ⟨_, rfl, p, A.P, dx, _, _, rfl, s1 _ _ I.ob, T.cl, T.ns, pln_somes _ _ _ _ _, so, rfl, ⟨_, SqL.of (s1 _ _ I.somes)⟩, fun D hD => ?_⟩
      refine lc_mapL (R := RBl) RBl.mono (K := K) (a := so) (xs := ss.map V.ref) (ys := q.somes.map fun s => s.any fun l => l.holds (nums xs)) hD (by rw [List.length_map]; omega) (by rw [List.length_map, List.length_map, hl]) (SqL.of (s1 _ _ I.somes))
        (fun j x y H2 hx1 hy s2 Qv hqv => ?_) (fun H2 acc s2 e pa => ?_)
      · obtain ⟨c, hc, rfl⟩ := map_at hx1
        obtain ⟨r, hr1, hc1⟩ := paired_at I.each hc
        rw [List.getElem?_map, hr1] at hy
        have ey : (r.any fun l => l.holds (nums xs)) = y := Option.some.inj hy
        have hw := W.each r (List.mem_of_getElem? hr1)
        exact ⟨_, rfl, _, rfl, c, a, r, xs, rfl, hc1.mono (s1.trans s2), hw.1, hw.2, hx.mono (s1.trans s2), hxs, fun H3 s3 => hqv _ _ s3 (by rw [← ey]; rfl)⟩
      · have ea := paired_map (f := V.bl) pa
        rw [ea] at e
        refine ⟨D, _, rfl, SqL.of e, _, rfl, ?_⟩
        rw [all_map_id]
        have es : (q.somes.all fun s => s.any fun l => l.holds (nums xs)) = Kh219.somesHold q (nums xs) := rfl
        rw [es]
        cases e2 : Kh219.somesHold q (nums xs) with
        | false => exact iteF (q_bl (k H2 (s1.trans s2)) (by rw [e2, Bool.false_and]))
        | true =>
          rw [e2, Bool.true_and] at k
          exact iteT ⟨_, rfl, p, A.P, dx, _, _, rfl, (s1.trans s2) _ _ I.ob, T.cl, T.nf, pln_facts _ _ _ _ _, _, rfl, fa, a, as, q, xs, rfl, I.facts.mono (s1.trans s2), okf, hl16, hun, hx.mono (s1.trans s2), hxs.1, fun H3 s3 => k H3 ((s1.trans s2).trans s3)⟩
end
end Wn
end
section
set_option maxRecDepth 100000
set_option maxHeartbeats 4000000
namespace Wn
open PySem PySem.Spec PyProof.Rows L2
theorem paired_app {α β : Type} {F : α → β → Prop} : ∀ {l l' : List α} {m m' : List β}, Paired F l m → Paired F l' m' → Paired F (l ++ l') (m ++ m')
  | _, _, _, _, .nil, h => h
  | _, _, _, _, .cons h1 t, h => .cons h1 (paired_app t h)
/-- xs[j], by values -/
def rGetL : V → V → Hp → VK → Prop := fun x y H Q => ∃ (p : Addr) (xs : List V) (j : Nat) (v : V), x = .ref p ∧ y = .int j ∧ H p = some (.lst xs) ∧ xs[j]? = some v ∧ Q v H
theorem get_list {X : Cx} : PGet X rGetL := by
  intro pins s σ H o i ov iv Q I ro ri h
  obtain ⟨p, xs, j, v, rfl, rfl, hp, hj, q⟩ := h
  cases ro
  obtain ⟨t, rfl⟩ := ri
  obtain ⟨its, r, pl, hz⟩ := I.list (SqL.of hp)
  obtain ⟨w, ew, rw'⟩ := r.get hj
  have hl := r.length
  have hn := line63
  have hlt := (List.getElem?_eq_some_iff.mp hj).1
  exact getItem_listL pl.isList (by omega) (by omega) (by simpa using ew) ⟨v, H, I, rw', q⟩
theorem ixN_nat {n j : Nat} (h : j < n) : ixN n (j : Int) = some j := by
  unfold ixN
  rw [if_pos (by omega), if_pos (by omega)]
  rfl
structure TxtL (mg : Str → Option Value) : Prop where
  SAME_FUNCTION : GInt mg "SAME_FUNCTION" 1
  AT_MOST : GInt mg "AT_MOST_WRITTEN" 2
  AT_LEAST : GInt mg "AT_LEAST_WRITTEN" 3
  SAME_TABLE : GInt mg "SAME_TABLE" 4
/-! ### lessons: the promises -/
def spNever (A : Ads) : Sp := fun vs H Q _ => ∃ (b : Addr) (l : Kh219.Le), vs = [.ref b] ∧ BoundAt A H b l ∧ l.c.length = 12 ∧ ∀ H', Same H H' → Q (.bl (Kh219.never l)) H'
def spGap (A : Ads) : Sp := fun vs H Q _ => ∃ (i j : Nat) (d : Int), vs = [.int i, .int j, .int d] ∧ i < 12 ∧ j < 12 ∧ ∀ H' b, Same H H' → BoundAt A (newp H H') b (Kh219.apart i j d) → Q (.ref b) H'
def spApart (A : Ads) : Sp := fun vs H Q _ => ∃ (i j : Nat), vs = [.int i, .int j] ∧ i < 12 ∧ j < 12 ∧ ∀ H' b, Same H H' → SomeAt A (newp H H') b [Kh219.apart i j (-1), Kh219.apart j i (-1)] → Q (.ref b) H'
def spBeside (A : Ads) : Sp := fun vs H Q _ => ∃ (q : Kh219.Fact) (a : Addr) (as : List Addr) (ws : List Kh219.Fact) (b : Nat), vs = [.int q.a, .ref a, .int b] ∧ q.a < 12 ∧ FactsAt A H a as ws ∧ ws.length ≤ 100 ∧ (∀ w ∈ ws, w.a < 12) ∧ ∀ H' D, Same H H' → SomeAt A (newp H H') D (Kh219.sames q ws b) → Q (.ref D) H'
def sameFn (q s : Kh219.Fact) : Bool := decide ((q.kind = 1 ∨ q.kind = 2) ∧ s.kind = q.kind ∧ s.f = q.f)
def spSameFn (A : Ads) : Sp := fun vs H Q _ => ∃ (a b : Addr) (q s : Kh219.Fact), vs = [.ref a, .ref b] ∧ FactAt A H a q ∧ FactAt A H b s ∧ ∀ H', Same H H' → Q (.bl (sameFn q s)) H'
/-- the dict of made tables and the facts -/
structure MadeAt (A : Ads) (H : Hp) (d : Addr) (p : Kh219.Plan) : Prop where
  ex : ∃ (kvs : List (Key × V)) (as : List Addr), H d = some (.dK kvs) ∧ Made kvs as p.facts ∧ Paired (FactAt A H) as p.facts
theorem MadeAt.mono {A : Ads} {H H' : Hp} {d : Addr} {p : Kh219.Plan} (s : Same H H') (h : MadeAt A H d p) : MadeAt A H' d p := by
  obtain ⟨kvs, as, h1, h2, h3⟩ := h.ex
  exact ⟨kvs, as, s _ _ h1, h2, paired_mono h3 fun _ _ => FactAt.mono s⟩
def spWay (A : Ads) : Sp := fun vs H Q _ => ∃ (d : Addr) (t : Nat) (p : Kh219.Plan), vs = [.ref d, .int t] ∧ MadeAt A H d p ∧ OkF p ∧ t ≤ 6 ∧ ∀ H' D as, Same H H' → H D = none → FactsAt A H' D as (Kh219.wayUp p t) → Q (.ref D) H'
section
variable {P : Program} {w : World} {K : PySem.W.Frag} {mg : Str → Option Value} {base : Heap} {A : Ads}
theorem sc_never_holds : FnScope ["bound", "factor"] ["bound"] (defScope s_never_holds) := ⟨rfl, rfl, rfl, by decide +kernel, rfl, by decide +kernel, by decide +kernel⟩
theorem ok_never_holds (F : GF K mg "never_holds" s_never_holds ["bound"]) (T : TxtB K mg A) (G : TxtG mg) : Pr P w K mg base 1 "never_holds" ["bound"] (spNever A) := by
  refine F.pr sc_never_holds (fun vs H Q E h => ?_) (fun f cdv Ar outer s H vs Q E hr h => ?_)
  · obtain ⟨b, l, rfl, _⟩ := h
    rfl
  · obtain ⟨b, l, rfl, ⟨dx, ca, hb, hc⟩, hlen, k⟩ := h
    have nd := sc_never_holds.nd
    refine ⟨_, pss_one (ps_ret (pe_and (pe_cmpR op_lt (pe_fld (pv 0) rfl) pe_int (nomark _)) (pe_one (pe_callB (cr_all rfl) rfl G.all boot_all (pa_cons (pe_lc rfl nd (pi_list (pe_fld (pv 0) rfl)) (blkOk_by (own := [("factor", 1)]) (by kernel_rfl))
      (fun _ _ _ _ _ => pg_name (i := 1) nd rfl (Or.inl rfl)) (fun _ _ _ _ _ => pts_nil) (fun _ _ _ _ _ => pe_cmpR op_eq (pv 1) pe_int (nomark _))) pa_nil))))), ?_⟩
    refine ⟨_, rfl, b, A.B, dx, _, _, rfl, hb, T.cl, T.nd, bnd_d _ _, _, _, rfl, rfl, _, rfl, ite2 (fun h1 => ?_) (fun h1 => ?_)⟩
    · have h1 := of_decide_eq_true h1
      refine ⟨_, rfl, b, A.B, dx, _, _, rfl, hb, T.cl, T.nc, bnd_c _ _, ca, rfl, ⟨_, SqL.of hc⟩, fun D hD => ?_⟩
      refine lc_mapL (R := fun _ v (y : Bool) => v = .bl y) (fun _ _ _ _ _ h => h) (K := K) (a := ca) (xs := l.c.map V.int) (ys := l.c.map fun z => decide (z = 0)) hD (by rw [List.length_map]; omega) (by rw [List.length_map, List.length_map]) (SqL.of hc)
        (fun n x y H1 hx hy s1 Qv hq => ?_) (fun H1 acc s1 e p => ?_)
      · obtain ⟨z, hz, rfl⟩ := map_at hx
        rw [List.getElem?_map, hz] at hy
        have ey : decide (z = 0) = y := Option.some.inj hy
        exact ⟨_, rfl, rfl, hq _ _ (Same.refl _) (by rw [dec_v, ey])⟩
      · have ea := paired_map (f := V.bl) p
        rw [ea] at e
        refine ⟨D, _, rfl, SqL.of e, q_bl (k H1 s1) ?_⟩
        unfold Kh219.never
        rw [decide_eq_true h1, Bool.and_true, List.all_map]
        congr 1
    · have h1 := of_decide_eq_false (Bool.eq_false_iff.mpr h1)
      refine q_bl (k H (Same.refl _)) ?_
      unfold Kh219.never
      rw [decide_eq_false h1, Bool.and_false]
theorem sc_gap_bound : FnScope ["first", "second", "d", "c"] ["first", "second", "d"] (defScope s_gap_bound) := ⟨rfl, rfl, rfl, by decide +kernel, rfl, by decide +kernel, by decide +kernel⟩
theorem ok_gap_bound (F : GF K mg "gap_bound" s_gap_bound ["first", "second", "d"]) (PB : PrC P w K mg base 1 "Bound" A.B ["self", "c", "d"] (spBoundInit A)) (T : TxtB K mg A) :
    Pr P w K mg base 3 "gap_bound" ["first", "second", "d"] (spGap A) := by
  refine F.pr sc_gap_bound (fun vs H Q E h => ?_) (fun f cdv Ar outer s H vs Q E hr h => ?_)
  · obtain ⟨i, j, d, rfl, _⟩ := h
    rfl
  · obtain ⟨i, j, d, rfl, hi, hj, k⟩ := h
    have nd := sc_gap_bound.nd
    refine ⟨_, pss_cons (ps_set (i := 3) nd rfl (Or.inl rfl) (pe_op op_rep (pe_lst (pa_cons pe_int pa_nil)) (pe_gi T.ROW rfl)))
      (pss_cons (ps_augS (pv 3) (pv 0) get_list pe_int ip_add set_list)
      (pss_cons (ps_augS (pv 3) (pv 1) get_list pe_int ip_sub set_list)
      (pss_one (ps_ret (pe_pc PB hr rfl (pa_cons (pv 3) (pa_cons (pv 2) pa_nil))))))), ?_⟩
    refine ⟨(by show 1 ≤ sizeLine; decide), fun a0 ha0 => ⟨a0, 12, [.int 0], rfl, rfl, upd_same, by decide, by decide, (by show 1 * 12 ≤ sizeLine; decide), fun c hc => ?_⟩⟩
    have s1 : Same H (upd H a0 (.lst [.int 0])) := same_upd_new ha0
    have hcH : H c = none := s1.free hc
    have e0 : (List.replicate (12 : Int).toNat [V.int 0]).flatten = (List.replicate 12 (0 : Int)).map V.int := rfl
    have ei : ((List.replicate 12 (0 : Int)).map V.int)[i]? = some (.int 0) := by
      rw [List.getElem?_map, List.getElem?_replicate, if_pos hi]
      rfl
    have e1 : ((List.replicate 12 (0 : Int)).map V.int).set i (.int (0 + 1)) = ((List.replicate 12 (0 : Int)).set i 1).map V.int := by
      rw [List.map_set]
      rfl
    have ej : (((List.replicate 12 (0 : Int)).set i 1).map V.int)[j]? = some (.int (((List.replicate 12 (0 : Int)).set i 1).getD j 0)) := by
      rw [List.getElem?_map, List.getD_eq_getElem?_getD, List.getElem?_eq_getElem (by rw [List.length_set, List.length_replicate]; exact hj)]
      rfl
    rw [e0]
    refine ⟨_, rfl, _, rfl, c, _, i, _, rfl, rfl, upd_same, ei, 0, 1, rfl, rfl, c, _, _, i, rfl, rfl, upd_same, ixN_nat (by rw [List.length_map, List.length_replicate]; exact hi), ?_⟩
    rw [e1]
    refine ⟨_, rfl, _, rfl, c, _, j, _, rfl, rfl, upd_same, ej, _, 1, rfl, rfl, c, _, _, j, rfl, rfl, upd_same, ixN_nat (by rw [List.length_map, List.length_set, List.length_replicate]; exact hj), ?_⟩
    refine ⟨_, rfl, _, rfl, fun x dx nx ndx ne => ⟨x, dx, _, _, rfl, upd_same, fun H' hs => ⟨rfl, ?_⟩⟩⟩
    obtain ⟨s2, n2⟩ := Set1.made nx ndx hs
    have e2 : (((List.replicate 12 (0 : Int)).set i 1).map V.int).set j (.int (((List.replicate 12 (0 : Int)).set i 1).getD j 0 - 1)) = (Kh219.apart i j d).c.map V.int := by
      rw [← List.map_set]
      exact congrArg (fun z => z.map V.int) (gap_list ⟨i, hi⟩ ⟨j, hj⟩)
    rw [e2] at s2 n2
    have sA : Same H (upd (upd (upd (upd H a0 (.lst [.int 0])) c (.lst ((List.replicate 12 (0 : Int)).map V.int))) c (.lst (((List.replicate 12 (0 : Int)).set i 1).map V.int))) c (.lst ((Kh219.apart i j d).c.map V.int))) := same_upd_of (same_upd_of (same_upd_of s1 hcH) hcH) hcH
    exact k H' x (sA.trans s2) ⟨dx, c, newp_old sA _ _ n2, newp_of hcH (s2 _ _ upd_same)⟩
theorem sc_apart : FnScope ["first", "second"] ["first", "second"] (defScope s_apart) := ⟨rfl, rfl, rfl, by decide +kernel, rfl, by decide +kernel, by decide +kernel⟩
theorem ok_apart (F : GF K mg "apart" s_apart ["first", "second"]) (PG : Pr P w K mg base 3 "gap_bound" ["first", "second", "d"] (spGap A)) :
    Pr P w K mg base 4 "apart" ["first", "second"] (spApart A) := by
  refine F.pr sc_apart (fun vs H Q E h => ?_) (fun f cdv Ar outer s H vs Q E hr h => ?_)
  · obtain ⟨i, j, rfl, _⟩ := h
    rfl
  · obtain ⟨i, j, rfl, hi, hj, k⟩ := h
    refine ⟨_, pss_one (ps_ret (pe_lst (pa_cons (pe_p PG hr rfl (pa_cons (pv 0) (pa_cons (pv 1) (pa_cons (pe_un un_neg pe_int) pa_nil)))) (pa_cons (pe_p PG hr rfl (pa_cons (pv 1) (pa_cons (pv 0) (pa_cons (pe_un un_neg pe_int) pa_nil)))) pa_nil)))), ?_⟩
    refine ⟨_, rfl, _, rfl, _, rfl, i, j, _, rfl, hi, hj, fun H1 b1 s1 h1 => ⟨_, rfl, _, rfl, _, rfl, j, i, _, rfl, hj, hi, fun H2 b2 s2 h2 => ⟨(by show 2 ≤ sizeLine; decide), fun D hD => ?_⟩⟩⟩
    have s3 : Same H2 (upd H2 D (.lst [.ref b1, .ref b2])) := same_upd_new hD
    refine k _ D ((s1.trans s2).trans s3) ⟨[b1, b2], newp_of ((s1.trans s2).free hD) upd_same, .cons ((h1.mono (newp_trans s2)).mono (newp_trans s3)) (.cons ((h2.mono (newp_old s1)).mono (newp_trans s3)) .nil)⟩
end
end Wn
end
section
set_option maxRecDepth 100000
set_option maxHeartbeats 4000000
namespace Wn
open PySem PySem.Spec PyProof.Rows L2
/-- a promise of something or None -/
def Opt {α : Type} (At : Hp → Hp → Addr → α → Prop) (H : Hp) (r : Option α) (Q : VK) : Prop := (r = none → ∀ H', Same H H' → Q .non H') ∧ ∀ x, r = some x → ∀ H' D, Same H H' → At H H' D x → Q (.ref D) H'
def FactsX (A : Ads) : Hp → Hp → Addr → List Kh219.Fact → Prop := fun _ H' D ws => ∃ as, FactsAt A H' D as ws
/-- what the ways need -/
structure PlOk (p : Kh219.Plan) : Prop where
  g : OkF p
  un : p.unknowns ≤ 12
def written (p : Kh219.Plan) (q s : Kh219.Fact) : Option (List Kh219.Fact) := if q.kind = 3 ∧ s.kind = 4 ∧ s ∈ Kh219.wayUp p q.f then some ((Kh219.wayUp p q.f).takeWhile fun z => z != s) else none
def meeting (p : Kh219.Plan) (q s : Kh219.Fact) : Option (List Kh219.Fact) := if q.kind = 3 ∧ s.kind = 3 then (match (Kh219.tablesUp p q.f).find? fun t => (Kh219.tablesUp p s.f).contains t with
    | some t => some (((Kh219.wayUp p q.f).takeWhile fun z => z.f != t) ++ (Kh219.wayUp p s.f).takeWhile fun z => z.f != t)
    | none => none) else none
def spOfTwo (A : Ads) (f : Kh219.Plan → Kh219.Fact → Kh219.Fact → Option (List Kh219.Fact)) : Sp := fun vs H Q _ => ∃ (d a b : Addr) (p : Kh219.Plan) (q s : Kh219.Fact), vs = [.ref d, .ref a, .ref b] ∧ MadeAt A H d p ∧ OkF p ∧ FactAt A H a q ∧ FactAt A H b s ∧ q.f ≤ 6 ∧ s.f ≤ 6 ∧ s ∈ p.facts ∧ Opt (FactsX A) H (f p q s) Q
def spTables (A : Ads) : Sp := fun vs H Q _ => ∃ (d : Addr) (t : Nat) (p : Kh219.Plan), vs = [.ref d, .int t] ∧ MadeAt A H d p ∧ OkF p ∧ t ≤ 6 ∧ ∀ H' D, Same H H' → IntsAt (newp H H') D ((Kh219.tablesUp p t).map Int.ofNat) → Q (.ref D) H'
def spPassed (A : Ads) : Sp := fun vs H Q _ => ∃ (fa a b : Addr) (k : Nat) (p : Kh219.Plan) (as : List Addr) (q s : Kh219.Fact), vs = [.ref fa, .int k, .ref a, .ref b] ∧ FactsAt A H fa as p.facts ∧ p.facts.length ≤ 16 ∧ OkF p ∧ FactAt A H a q ∧ FactAt A H b s ∧ q.f ≤ 6 ∧ s.f ≤ 6 ∧ s ∈ p.facts ∧ Opt (FactsX A) H (passed p k q s) Q
def spLast (A : Ads) : Sp := fun vs H Q _ => ∃ (a b : Addr) (k : Nat) (q s : Kh219.Fact), vs = [.int k, .ref a, .ref b] ∧ FactAt A H a q ∧ FactAt A H b s ∧ q.r < 12 ∧ s.r < 12 ∧ ∀ H' D, Same H H' → BoundAt A (newp H H') D (lastLe k q s) → Q (.ref D) H'
def spLesson (A : Ads) : Sp := fun vs H Q _ => ∃ (fa : Addr) (k i j b : Nat) (p : Kh219.Plan) (as : List Addr), vs = [.ref fa, .int k, .int i, .int j, .int b] ∧ FactsAt A H fa as p.facts ∧ p.facts.length ≤ 16 ∧ OkF p ∧ p.unknowns ≤ 12 ∧ Opt (fun H H' D ls => SomeAt A (newp H H') D ls) H (Kh219.lesson p k i j b) Q
theorem inV_nat (t : Nat) (l : List Nat) : inV (.int (t : Int)) ((l.map Int.ofNat).map V.int) = l.contains t := by
  unfold inV
  rw [List.any_map, List.any_map]
  induction l with
  | nil => rfl
  | cons a l ih =>
    rw [List.any_cons, ih, List.contains_cons]
    congr 1
    show ((a : Int) == (t : Int)) = (t == a)
    rw [Bool.eq_iff_iff, beq_iff_eq, beq_iff_eq]
    omega
theorem flat_ints (l : List Int) : (l.map V.int).all flatV = true := by
  rw [List.all_map, List.all_eq_true]
  exact fun _ _ => rfl
section
variable {P : Program} {w : World} {K : PySem.W.Frag} {mg : Str → Option Value} {base : Heap} {A : Ads}
theorem sc_way_up : FnScope ["made", "table", "way"] ["made", "table"] (defScope s_way_up) := ⟨rfl, rfl, rfl, by decide +kernel, rfl, by decide +kernel, by decide +kernel⟩
theorem ok_way_up (F : GF K mg "way_up" s_way_up ["made", "table"]) (T : TxtF K mg A) : Pr P w K mg base 1 "way_up" ["made", "table"] (spWay A) := by
  refine F.pr sc_way_up (fun vs H Q E h => ?_) (fun f cdv Ar outer s H vs Q E hr h => ?_)
  · obtain ⟨d, t, p, rfl, _⟩ := h
    rfl
  · obtain ⟨d, t, p, rfl, ⟨kvs, as, hd, M, hp⟩, g, ht, k⟩ := h
    have nd := sc_way_up.nd
    have hu := hu_of hr
    refine ⟨_, pss_cons (ps_set (i := 2) nd rfl (Or.inl rfl) (pe_lst pa_nil))
      (pss_cons (ps_while PassesOwn.never (pt_cmp (pc_din hu (pv 1) (pv 0)))
        (pss_cons (ps_expr (pe_bm PySem.F.plainAttrs_list PySem.F.slot_list_append PySem.F.type_list_append mt_append (pv 2) (pa_cons (pe_dget hu (pv 0) (pv 1) (fun _ _ => rfl)) pa_nil)))
        (pss_one (ps_set (i := 1) nd rfl (Or.inl rfl) (pe_fld (pe_dget hu (pv 0) (pv 1) (fun _ _ => rfl)) rfl)))))
      (pss_one (ps_ret (pv 2)))), ?_⟩
    refine ⟨Nat.zero_le _, fun D hD => ?_⟩
    refine ⟨fun m σ H1 => ∃ (t' : Nat) (bs : List Addr) (done : List Kh219.Fact), m = t' ∧ t' ≤ 6 ∧ σ = [some (.ref d), some (.int t'), some (.ref D)] ∧ Same H H1 ∧ H1 D = some (.lst (bs.map V.ref)) ∧ Paired (FactAt A H) bs done ∧ done ++ Kh219.wayUp p t' = Kh219.wayUp p t,
      ⟨t, t, [], [], rfl, ht, rfl, same_upd_new hD, upd_same, .nil, rfl⟩, ?_⟩
    rintro m σ H1 ⟨t', bs, done, em, ht', rfl, s1, hD1, hbs, he⟩
    have hd1 := s1 _ _ hd
    refine ⟨_, rfl, _, rfl, d, _, rfl, DGet.k (k := Sum.inl (t' : Int)) hd1, _, rfl, ?_⟩
    cases e : valV kvs (.inl (t' : Int)) with
    | none =>
      refine iteF ⟨_, rfl, ?_⟩
      rw [wayUp_none (made_no M e), List.append_nil] at he
      refine k H1 D bs s1 hD ⟨hD1, ?_⟩
      rw [← he]
      exact paired_mono hbs fun _ _ => FactAt.mono s1
    | some v =>
      obtain ⟨j, b, q, h1, h2, rfl, hm⟩ := made_tab M g e
      obtain ⟨q', hq', dx, hb⟩ := paired_at hp h1
      obtain rfl : q' = q := Option.some.inj (hq'.symm.trans h2)
      obtain ⟨m1, m2, m3⟩ := mk_some hm
      have h4 := ok4 (g.ok q' m1) m2
      rw [wayUp_some g ht' hm] at he
      have hbl : bs.length < 1000000 := by
        have e1 := paired_len hbs
        have e2 := congrArg List.length he
        rw [List.length_append, List.length_cons] at e2
        have e3 := wayUp_len p t
        omega
      refine iteT ⟨fun σ' H' => ∃ (bs : List Addr) (done : List Kh219.Fact), σ' = [some (.ref d), some (.int q'.b), some (.ref D)] ∧ Same H H' ∧ H' D = some (.lst (bs.map V.ref)) ∧ Paired (FactAt A H) bs done ∧ done ++ Kh219.wayUp p q'.b = Kh219.wayUp p t,
        fun σ' H' ⟨bs, done, h1, h2, h3, h4', h5⟩ => ⟨q'.b, by omega, q'.b, bs, done, rfl, by omega, h1, h2, h3, h4', h5⟩, ?_⟩
      have s2 : Same H (upd H1 D (.lst (bs.map V.ref ++ [.ref b]))) := same_upd_of s1 hD
      refine ⟨_, rfl, .inl ⟨rfl, _, SqL.of hD1⟩, _, rfl, _, rfl, d, _, rfl, by rw [← e]; exact DGet.k (k := Sum.inl (t' : Int)) hd1, D, _, _, rfl, rfl, hD1, by rw [List.length_map]; exact small_lt (by omega), ?_⟩
      refine ⟨_, rfl, _, rfl, d, _, rfl, by rw [← e]; exact DGet.k (k := Sum.inl (t' : Int)) (s2 _ _ hd), b, A.F, dx, _, _, rfl, s2 _ _ hb, T.cl, T.nb, fct_b _ _ _ _ _, bs ++ [b], done ++ [q'], rfl, s2, by rw [upd_same, List.map_append]; rfl, paired_snoc hbs ⟨dx, hb⟩, ?_⟩
      rw [← he, List.append_assoc]
      rfl
theorem sc_beside : FnScope ["at", "passed", "by", "bounds", "i", "fact"] ["at", "passed", "by"] (defScope s_beside) := ⟨rfl, rfl, rfl, by decide +kernel, rfl, by decide +kernel, by decide +kernel⟩
theorem ok_beside (F : GF K mg "beside" s_beside ["at", "passed", "by"]) (PG : Pr P w K mg base 3 "gap_bound" ["first", "second", "d"] (spGap A)) (T : TxtF K mg A) (G : TxtG mg) :
    Pr P w K mg base 4 "beside" ["at", "passed", "by"] (spBeside A) := by
  refine F.pr sc_beside (fun vs H Q E h => ?_) (fun f cdv Ar outer s H vs Q E hr h => ?_)
  · obtain ⟨q, a, as, ws, b, rfl, _⟩ := h
    rfl
  · obtain ⟨q, a, as, ws, b, rfl, hqa, ⟨ha, hp⟩, hlen, hwa, k⟩ := h
    have nd := sc_beside.nd
    have hl := paired_len hp
    refine ⟨_, pss_cons (ps_set (i := 3) nd rfl (Or.inl rfl) (pe_lst pa_nil))
      (pss_cons (ps_for PassesOwn.never rfl (pi_enum rfl G.enumerate (pa_cons (pv 1) pa_nil)) (pg_tup rfl (pgs_cons (pg_name (i := 4) nd rfl (Or.inl rfl)) (pgs_cons (pg_name (i := 5) nd rfl (Or.inl rfl)) pgs_nil)))
        (pss_one (ps_if (pt_cmpR op_eq (pe_op op_mod (pe_op op_shr (pv 2) (pv 4)) pe_int) pe_int (nomark _))
          (pss_one (ps_expr (pe_bm PySem.F.plainAttrs_list PySem.F.slot_list_append PySem.F.type_list_append mt_append (pv 3) (pa_cons (pe_p PG hr rfl (pa_cons (pv 0) (pa_cons (pe_fld (pv 5) rfl) (pa_cons pe_int pa_nil)))) pa_nil))))
          (pss_one (ps_expr (pe_bm PySem.F.plainAttrs_list PySem.F.slot_list_append PySem.F.type_list_append mt_append (pv 3) (pa_cons (pe_p PG hr rfl (pa_cons (pe_fld (pv 5) rfl) (pa_cons (pv 0) (pa_cons pe_int pa_nil)))) pa_nil)))))))
      (pss_one (ps_ret (pv 3)))), ?_⟩
    refine ⟨Nat.zero_le _, fun D hD => ?_⟩
    have hsl : (Kh219.sames q ws b).length = ws.length := sames_length q ws b
    refine ⟨_, rfl, a, _, rfl, (same_upd_new hD).seq (SqL.of ha), for_it (n := ws.length) (fun i σ H1 => ∃ v4 v5 : Option V, σ = [some (.int q.a), some (.ref a), some (.int b), some (.ref D), v4, v5] ∧ LcI (RBound A) H D (Kh219.sames q ws b) i H1)
      ⟨none, none, rfl, LcI.start hD⟩ (fun i σ H1 hi ⟨_, _, _, L⟩ => ?_) (fun σ H1 ⟨_, _, _, L⟩ => ?_) (fun i x σ H1 H2 hi ⟨v4, v5, es, L⟩ hy => ?_) (fun σ H1 ⟨v4, v5, es, L⟩ => ?_)⟩
    · exact ⟨_, _, L.same.seq (SqL.of ha), List.getElem?_eq_getElem (by rw [List.length_map]; omega)⟩
    · exact ⟨_, L.same.seq (SqL.of ha), by rw [List.length_map]; omega⟩
    · subst es
      obtain ⟨t, z, rfl, ht, rfl, hz⟩ := hy
      obtain ⟨c, hc, rfl⟩ := map_at (hz _ (L.same.seq (SqL.of ha)))
      obtain ⟨fw, hfw, dx, hcc⟩ := paired_at hp hc
      have s2 : Same H1 (upd H1 t (.tup [.int (i : Nat), .ref c])) := same_upd_new ht
      have hcc2 := s2 _ _ (L.same _ _ hcc)
      have hw12 := hwa fw (List.mem_of_getElem? hfw)
      have hat := sames_at (q := q) (b := b) hfw
      have eb := bit_even b i
      obtain ⟨acc0, hacc0, _⟩ := L.at_
      refine ⟨t, _, rfl, SqT.of upd_same, rfl, _, _, rfl, _, _, rfl, rfl, ?_⟩
      have en : ∀ (b1 : Addr) (H3 : Hp), Same (upd H1 t (.tup [.int (i : Nat), .ref c])) H3 → BoundAt A (newp (upd H1 t (.tup [.int (i : Nat), .ref c])) H3) b1 (if b.testBit i = true then Kh219.apart fw.a q.a 0 else Kh219.apart q.a fw.a 0) →
          ∃ acc, H3 D = some (.lst acc) ∧ acc.length < sizeLine ∧ LcI (RBound A) H D (Kh219.sames q ws b) (i + 1) (upd H3 D (.lst (acc ++ [.ref b1]))) := fun b1 H3 s3 hb1 =>
        L.next RBound.mono hD (by omega) hat (s2.trans s3) ⟨b1, rfl, hb1.mono (newp_old s2)⟩
      refine ⟨_, rfl, _, rfl, _, _, rfl, rfl, (by show (0 : Int) ≤ ((i : Nat) : Int); omega), _, _, rfl, rfl, (by show (0 : Int) < 2; decide), rfl, _, rfl, ite2 (fun h1 => ?_) (fun h1 => ?_)⟩
      · rw [dec_v] at h1
        have h1 : (b : Int) / 2 ^ i % 2 = 0 := of_decide_eq_true h1
        have ebit := eb.mp h1
        refine ⟨_, rfl, .inl ⟨rfl, _, SqL.of (s2 _ _ hacc0)⟩, _, rfl, _, rfl, c, A.F, dx, _, _, rfl, hcc2, T.cl, T.na, fct_a _ _ _ _ _, q.a, fw.a, 0, rfl, hqa, hw12, fun H3 b1 s3 hb1 => ?_⟩
        obtain ⟨acc, e1, e2, L'⟩ := en b1 H3 s3 (by rw [ebit]; exact hb1)
        exact ⟨D, acc, _, rfl, rfl, e1, e2, _, _, rfl, L'⟩
      · rw [dec_v] at h1
        have h1 : ¬ (b : Int) / 2 ^ i % 2 = 0 := of_decide_eq_false (Bool.eq_false_iff.mpr h1)
        have ebit : b.testBit i = true := by
          cases e : b.testBit i with
          | true => rfl
          | false => exact absurd (eb.mpr e) h1
        refine ⟨_, rfl, .inl ⟨rfl, _, SqL.of (s2 _ _ hacc0)⟩, _, rfl, c, A.F, dx, _, _, rfl, hcc2, T.cl, T.na, fct_a _ _ _ _ _, _, rfl, fw.a, q.a, 0, rfl, hw12, hqa, fun H3 b1 s3 hb1 => ?_⟩
        obtain ⟨acc, e1, e2, L'⟩ := en b1 H3 s3 (by rw [ebit]; exact hb1)
        exact ⟨D, acc, _, rfl, rfl, e1, e2, _, _, rfl, L'⟩
    · subst es
      obtain ⟨s1, acc, e, p⟩ := L
      rw [← hsl, List.take_length] at p
      exact ⟨_, rfl, k H1 D s1 (some_of (newp_of hD e) (paired_mono p fun v y r => RBound.mono _ _ v y (newp_old (same_upd_new hD)) r))⟩
theorem sc_same_function : FnScope ["p", "q"] ["p", "q"] (defScope s_same_function) := ⟨rfl, rfl, rfl, by decide +kernel, rfl, by decide +kernel, by decide +kernel⟩
theorem ok_same_function (F : GF K mg "same_function" s_same_function ["p", "q"]) (T : TxtF K mg A) : Pr P w K mg base 1 "same_function" ["p", "q"] (spSameFn A) := by
  refine F.pr sc_same_function (fun vs H Q E h => ?_) (fun f cdv Ar outer s H vs Q E hr h => ?_)
  · obtain ⟨a, b, q, s, rfl, _⟩ := h
    rfl
  · obtain ⟨a, b, q, z, rfl, ⟨dx, ha⟩, ⟨dy, hb⟩, k⟩ := h
    refine ⟨_, pss_one (ps_ret (pe_and (pe_cmpR op_in_seq (pe_fld (pv 0) rfl) (pe_tup (pa_cons (pe_gi T.OF_ONE rfl) (pa_cons (pe_gi T.OF_TWO rfl) pa_nil))) (by with_unfolding_all rfl))
      (pe_and (pe_cmpR op_eq (pe_fld (pv 0) rfl) (pe_fld (pv 1) rfl) (nomark _)) (pe_one (pe_cmpR op_eq (pe_fld (pv 0) rfl) (pe_fld (pv 1) rfl) (nomark _)))))), ?_⟩
    refine ⟨_, rfl, a, A.F, dx, _, _, rfl, ha, T.cl, T.nk, fct_kind _ _ _ _ _, (by show 2 ≤ sizeLine; decide), fun t ht => ?_⟩
    have s1 : Same H (upd H t (.tup [.int 1, .int 2])) := same_upd_new ht
    refine ⟨t, _, rfl, .inr (SqT.of upd_same), rfl, rfl, _, rfl, ?_⟩
    have ein : inV (.int (q.kind : Int)) [.int 1, .int 2] = decide (q.kind = 1 ∨ q.kind = 2) := by
      show ((1 : Int) == (q.kind : Int) || ((2 : Int) == (q.kind : Int) || false)) = _
      rw [Bool.eq_iff_iff]
      simp only [Bool.or_eq_true, beq_iff_eq, decide_eq_true_eq, Bool.false_eq_true, or_false]
      omega
    show if inV (.int (q.kind : Int)) [.int 1, .int 2] = true then _ else _
    rw [ein]
    refine ite2 (fun h1 => ?_) (fun h1 => ?_)
    · have h1 := of_decide_eq_true h1
      refine ⟨_, rfl, a, A.F, dx, _, _, rfl, s1 _ _ ha, T.cl, T.nk, fct_kind _ _ _ _ _, _, rfl, b, A.F, dy, _, _, rfl, s1 _ _ hb, T.cl, T.nk, fct_kind _ _ _ _ _, rfl, _, rfl, ite2 (fun h2 => ?_) (fun h2 => ?_)⟩
      · rw [dec_v] at h2
        have h2 := of_decide_eq_true h2
        refine ⟨_, rfl, a, A.F, dx, _, _, rfl, s1 _ _ ha, T.cl, T.nf, fct_f _ _ _ _ _, _, rfl, b, A.F, dy, _, _, rfl, s1 _ _ hb, T.cl, T.nf, fct_f _ _ _ _ _, rfl, q_bl (k _ s1) ?_⟩
        rw [dec_v]
        unfold sameFn
        rw [Bool.eq_iff_iff, decide_eq_true_eq, decide_eq_true_eq]
        omega
      · rw [dec_v] at h2
        have h2 := of_decide_eq_false (Bool.eq_false_iff.mpr h2)
        refine q_bl (k _ s1) ?_
        unfold sameFn
        rw [decide_eq_false (by omega)]
    · have h1 := of_decide_eq_false (Bool.eq_false_iff.mpr h1)
      refine q_bl (k _ s1) ?_
      unfold sameFn
      rw [decide_eq_false (fun z => h1 z.1)]
end
end Wn
end
section
set_option maxRecDepth 100000
set_option maxHeartbeats 4000000
namespace Wn
open PySem PySem.Spec PyProof.Rows L2
theorem dec_nv {a b : Int} : (!decide (V.int a = V.int b)) = decide (¬ a = b) := by
  rw [dec_v]
  by_cases h : a = b
  · rw [decide_eq_true h, decide_eq_false (fun z => z h)]; rfl
  · rw [decide_eq_false h, decide_eq_true h]; rfl
section
variable {P : Program} {w : World} {K : PySem.W.Frag} {mg : Str → Option Value} {base : Heap} {A : Ads}
theorem sc_passed_to_written : FnScope ["made", "p", "q", "way", "fact"] ["made", "p", "q"] (defScope s_passed_to_written) := ⟨rfl, rfl, rfl, by decide +kernel, rfl, by decide +kernel, by decide +kernel⟩
theorem ok_passed_to_written (F : GF K mg "passed_to_written" s_passed_to_written ["made", "p", "q"]) (PW' : Pr P w K mg base 1 "way_up" ["made", "table"] (spWay A)) (T : TxtF K mg A) :
    Pr P w K mg base 2 "passed_to_written" ["made", "p", "q"] (spOfTwo A written) := by
  refine F.pr sc_passed_to_written (fun vs H Q E h => ?_) (fun f cdv Ar outer s H vs Q E hr h => ?_)
  · obtain ⟨d, a, b, p, q, z, rfl, _⟩ := h
    rfl
  · obtain ⟨d, a, b, p, q, z, rfl, hM, g, ⟨dx, ha⟩, ⟨dy, hb⟩, hq6, hs6, hz, k1, k2⟩ := h
    have nd := sc_passed_to_written.nd
    refine ⟨_, pss_cons (ps_if (PW.pt (pw_or (pt_cmpR op_ne (pe_fld (pv 1) rfl) (pe_gi T.STANDS rfl) (nomark _)) (pw_or1 (pt_cmpR op_ne (pe_fld (pv 2) rfl) (pe_gi T.MADE rfl) (nomark _))))) (pss_one (ps_ret pe_non)) pss_nil)
      (pss_cons (ps_set (i := 3) nd rfl (Or.inl rfl) (pe_p PW' hr rfl (pa_cons (pv 0) (pa_cons (pe_fld (pv 1) rfl) pa_nil))))
      (pss_cons (ps_if (pt_cmpR op_notIn_seq (pe_fld (pv 2) rfl) (pe_lc rfl nd (pi_list (pv 3)) (blkOk_by (own := [("fact", 4)]) (by kernel_rfl)) (fun _ _ _ _ _ => pg_name (i := 4) nd rfl (Or.inl rfl)) (fun _ _ _ _ _ => pts_nil) (fun _ _ _ _ _ => pe_fldB K rfl (pv 4) rfl)) (by with_unfolding_all rfl)) (pss_one (ps_ret pe_non)) pss_nil)
      (pss_one (ps_ret (pe_lc rfl nd (pi_list (pv 3)) (blkOk_by (own := [("fact", 4)]) (by kernel_rfl)) (fun _ _ _ _ _ => pg_name (i := 4) nd rfl (Or.inl rfl)) (fun _ _ _ _ _ => pts_one (pt_cmpR op_gt (pe_fldB K rfl (pv 4) rfl) (pe_fldB K rfl (pv 2) rfl) (nomark _))) (fun _ _ _ _ _ => pv 4)))))), ?_⟩
    have no : ¬ (q.kind = 3 ∧ z.kind = 4 ∧ z ∈ Kh219.wayUp p q.f) → ∀ H', Same H H' → Q .non H' := fun h => k1 (by unfold written; rw [if_neg h])
    refine ⟨_, rfl, a, A.F, dx, _, _, rfl, ha, T.cl, T.nk, fct_kind _ _ _ _ _, rfl, _, rfl, ite2 (fun h1 => ?_) (fun h1 => ?_)⟩
    · rw [dec_nv] at h1
      have h1 := of_decide_eq_true h1
      exact iteT (no (by omega) H (Same.refl _))
    · rw [dec_nv] at h1
      have h1 := of_decide_eq_false (Bool.eq_false_iff.mpr h1)
      refine ⟨_, rfl, b, A.F, dy, _, _, rfl, hb, T.cl, T.nk, fct_kind _ _ _ _ _, rfl, _, rfl, ite2 (fun h2 => ?_) (fun h2 => ?_)⟩
      · rw [dec_nv] at h2
        have h2 := of_decide_eq_true h2
        exact no (by omega) H (Same.refl _)
      · rw [dec_nv] at h2
        have h2 := of_decide_eq_false (Bool.eq_false_iff.mpr h2)
        have hk3 : q.kind = 3 := by omega
        have hk4 : z.kind = 4 := by omega
        refine ⟨_, rfl, _, rfl, a, A.F, dx, _, _, rfl, ha, T.cl, T.nf, fct_f _ _ _ _ _, d, q.f, p, rfl, hM, g, hq6, fun H1 W as s1 _ hW => ?_⟩
        obtain ⟨hW1, hp⟩ := hW
        have hl := paired_len hp
        have hw6 := wayUp_len p q.f
        refine ⟨_, rfl, b, A.F, dy, _, _, rfl, s1 _ _ hb, T.cl, T.nf, fct_f _ _ _ _ _, _, rfl, W, rfl, ⟨_, SqL.of hW1⟩, fun D hD => ?_⟩
        refine lc_mapL (R := fun _ v (y : Int) => v = .int y) (fun _ _ _ _ _ h => h) (K := K) (a := W) (xs := as.map V.ref) (ys := ((Kh219.wayUp p q.f).map Kh219.Fact.f).map Int.ofNat) hD (by rw [List.length_map, List.length_map]; omega) (by rw [List.length_map, List.length_map, List.length_map, hl]) (SqL.of hW1)
          (fun n x y H2 hx hy s2 Qv hq => ?_) (fun H2 acc s2 e pr => ?_)
        · obtain ⟨c, hc, rfl⟩ := map_at hx
          obtain ⟨fw, hfw, dz, hcc⟩ := paired_at hp hc
          rw [List.getElem?_map, List.getElem?_map, hfw] at hy
          have ey : (fw.f : Int) = y := Option.some.inj hy
          exact ⟨_, rfl, c, A.F, dz, _, _, rfl, s2 _ _ hcc, T.cl, T.nf, fct_f _ _ _ _ _, hq _ _ (Same.refl _) (by rw [ey])⟩
        · have ea := paired_map (f := V.int) pr
          rw [ea] at e
          refine ⟨D, _, rfl, .inl (SqL.of e), rfl, flat_ints _, _, rfl, ?_⟩
          show if (!inV (.int (z.f : Int)) ((((Kh219.wayUp p q.f).map Kh219.Fact.f).map Int.ofNat).map V.int)) = true then _ else _
          rw [inV_nat]
          have s12 : Same H H2 := s1.trans s2
          by_cases hon : z ∈ Kh219.wayUp p q.f
          · have hc : ((Kh219.wayUp p q.f).map Kh219.Fact.f).contains z.f = true := List.contains_iff_mem.mpr ((on_way g hz hk4).mp hon)
            rw [hc]
            refine iteF ⟨_, rfl, W, rfl, ⟨_, SqL.of (s2 _ _ hW1)⟩, fun D2 hD2 => ?_⟩
            refine lc_list (K := K) (a := W) (xs := as.map V.ref) (fun i H3 => Same H2 H3 ∧ ∃ bs : List Addr, H3 D2 = some (.lst (bs.map V.ref)) ∧ Paired (FactAt A H1) bs (((Kh219.wayUp p q.f).take i).filter fun y => decide (z.f < y.f)) ∧ bs.length ≤ i) ⟨same_upd_new hD2, [], upd_same, .nil, Nat.le_refl _⟩
              (fun i H3 _ ⟨s3, _⟩ => (s2.trans s3).seq (SqL.of hW1)) (fun i x H3 hi ⟨s3, bs, e3, p3, l3⟩ => ?_) (fun H3 ⟨s3, bs, e3, p3, l3⟩ => ?_)
            · obtain ⟨c, hc, rfl⟩ := map_at hi
              obtain ⟨fw, hfw, dz, hcc⟩ := paired_at hp hc
              have hlt := (List.getElem?_eq_some_iff.mp hfw).1
              refine ⟨wipe_one _ 4 _, ⟨_, rfl, c, A.F, dz, _, _, rfl, s3 _ _ (s2 _ _ hcc), T.cl, T.nf, fct_f _ _ _ _ _, _, rfl, b, A.F, dy, _, _, rfl, s3 _ _ (s12 _ _ hb), T.cl, T.nf, fct_f _ _ _ _ _, _, _, rfl, rfl, _, rfl, ite2 (fun h3 => ?_) (fun h3 => ?_)⟩⟩
              · have h3 := of_decide_eq_true h3
                refine ⟨_, rfl, _, e3, by rw [List.length_map]; exact small_lt (by omega), same_upd_of s3 hD2, bs ++ [c], by rw [upd_same, List.map_append]; rfl, ?_, by rw [List.length_append]; show bs.length + 1 ≤ i + 1; omega⟩
                rw [take_snoc hfw, List.filter_append, List.filter_cons_of_pos (by simp; omega)]
                exact paired_snoc p3 ⟨dz, hcc⟩
              · have h3 := of_decide_eq_false (Bool.eq_false_iff.mpr h3)
                refine ⟨s3, bs, e3, ?_, by omega⟩
                rw [take_snoc hfw, List.filter_append, List.filter_cons_of_neg (by simp; omega), List.filter_nil, List.append_nil]
                exact p3
            · rw [List.length_map, hl, List.take_length, ← before_eq g hon] at p3
              refine k2 _ (by unfold written; rw [if_pos ⟨hk3, hk4, hon⟩]) H3 D2 (s12.trans s3) ⟨bs, e3, paired_mono p3 fun _ _ => FactAt.mono (s2.trans s3)⟩
          · have hc : ((Kh219.wayUp p q.f).map Kh219.Fact.f).contains z.f = false := by
              cases e : ((Kh219.wayUp p q.f).map Kh219.Fact.f).contains z.f with
              | false => rfl
              | true => exact absurd ((on_way g hz hk4).mpr (List.contains_iff_mem.mp e)) hon
            rw [hc]
            exact iteT (no (fun h => hon h.2.2) H2 s12)
theorem sc_tables_up : FnScope ["made", "table", "fact"] ["made", "table"] (defScope s_tables_up) := ⟨rfl, rfl, rfl, by decide +kernel, rfl, by decide +kernel, by decide +kernel⟩
theorem ok_tables_up (F : GF K mg "tables_up" s_tables_up ["made", "table"]) (PW' : Pr P w K mg base 1 "way_up" ["made", "table"] (spWay A)) (T : TxtF K mg A) :
    Pr P w K mg base 2 "tables_up" ["made", "table"] (spTables A) := by
  refine F.pr sc_tables_up (fun vs H Q E h => ?_) (fun f cdv Ar outer s H vs Q E hr h => ?_)
  · obtain ⟨d, t, p, rfl, _⟩ := h
    rfl
  · obtain ⟨d, t, p, rfl, hM, g, ht, k⟩ := h
    have nd := sc_tables_up.nd
    refine ⟨_, pss_one (ps_ret (pe_op op_cat (pe_lst (pa_cons (pv 1) pa_nil)) (pe_lc rfl nd (pi_list (pe_p PW' hr rfl (pa_cons (pv 0) (pa_cons (pv 1) pa_nil)))) (blkOk_by (own := [("fact", 2)]) (by kernel_rfl)) (fun _ _ _ _ _ => pg_name (i := 2) nd rfl (Or.inl rfl)) (fun _ _ _ _ _ => pts_nil) (fun _ _ _ _ _ => pe_fldB K rfl (pv 2) rfl)))), ?_⟩
    refine ⟨_, rfl, (by show 1 ≤ sizeLine; decide), fun l hl0 => ⟨_, rfl, _, rfl, d, t, p, rfl, hM.mono (same_upd_new hl0), g, ht, fun H1 W as s1 _ hW => ?_⟩⟩
    obtain ⟨hW1, hp⟩ := hW
    have s0 : Same H (upd H l (.lst [.int t])) := same_upd_new hl0
    have hl := paired_len hp
    have hw6 := wayUp_len p t
    refine ⟨W, rfl, ⟨_, SqL.of hW1⟩, fun D hD => ?_⟩
    refine lc_mapL (R := fun _ v (y : Int) => v = .int y) (fun _ _ _ _ _ h => h) (K := K) (a := W) (xs := as.map V.ref) (ys := ((Kh219.wayUp p t).map Kh219.Fact.b).map Int.ofNat) hD (by rw [List.length_map, List.length_map]; omega) (by rw [List.length_map, List.length_map, List.length_map, hl]) (SqL.of hW1)
      (fun n x y H2 hx hy s2 Qv hq => ?_) (fun H2 acc s2 e pr => ?_)
    · obtain ⟨c, hc, rfl⟩ := map_at hx
      obtain ⟨fw, hfw, dz, hcc⟩ := paired_at hp hc
      rw [List.getElem?_map, List.getElem?_map, hfw] at hy
      have ey : (fw.b : Int) = y := Option.some.inj hy
      exact ⟨_, rfl, c, A.F, dz, _, _, rfl, s2 _ _ hcc, T.cl, T.nb, fct_b _ _ _ _ _, hq _ _ (Same.refl _) (by rw [ey])⟩
    · have ea := paired_map (f := V.int) pr
      rw [ea] at e
      refine ⟨l, D, _, _, rfl, rfl, s2 _ _ (s1 _ _ upd_same), e, ?_, fun R hR => ?_⟩
      · rw [List.length_map, List.length_map, List.length_map]
        exact small_line (by show 1 + _ ≤ 1000000; omega)
      · have s3 := (s0.trans s1).trans s2
        exact k _ R (s3.trans (same_upd_new hR)) (newp_of (s3.free hR) upd_same)
end
end Wn
end
section
set_option maxRecDepth 100000
set_option maxHeartbeats 4000000
namespace Wn
open PySem PySem.Spec PyProof.Rows L2
theorem newp_upd {H H' : Hp} {B : Addr} {o : HO} (h : H B = none) : newp H (upd H' B o) = upd (newp H H') B o := by
  funext b
  by_cases e : b = B
  · subst e
    rw [upd_same]
    exact newp_of h upd_same
  · rw [upd_ne e]
    unfold newp
    rw [upd_ne e]
/-- a bound stays where a list of refs is written -/
theorem BoundAt.upd {A : Ads} {G : Hp} {b B : Addr} {l : Kh219.Le} {bs : List Addr} {o : HO} (h : BoundAt A G b l) (hB : G B = some (.lst (bs.map V.ref))) (hne : bs ≠ []) : BoundAt A (L2.upd G B o) b l := by
  obtain ⟨dx, ca, h1, h2⟩ := h
  have n1 : b ≠ B := fun e => by
    rw [e, hB] at h1
    cases h1
  have n2 : ca ≠ B := fun e => by
    have h2' : G ca = some (.lst (l.c.map V.int)) := h2
    rw [e, hB] at h2'
    have e2 : bs.map V.ref = l.c.map V.int := HO.lst.inj (Option.some.inj h2')
    cases bs with
    | nil => exact hne rfl
    | cons x xs =>
      cases hc : l.c with
      | nil => rw [hc] at e2; cases e2
      | cons y ys => rw [hc] at e2; cases e2
  exact ⟨dx, ca, by rw [upd_ne n1]; exact h1, by show L2.upd G B o ca = _; rw [upd_ne n2]; exact h2⟩
section
variable {P : Program} {w : World} {K : PySem.W.Frag} {mg : Str → Option Value} {base : Heap} {A : Ads}
theorem sc_passed_to_meeting : FnScope ["made", "p", "q", "tables_of_q", "shared", "table", "fact"] ["made", "p", "q"] (defScope s_passed_to_meeting) := ⟨rfl, rfl, rfl, by decide +kernel, rfl, by decide +kernel, by decide +kernel⟩
theorem ok_passed_to_meeting (F : GF K mg "passed_to_meeting" s_passed_to_meeting ["made", "p", "q"]) (PW' : Pr P w K mg base 1 "way_up" ["made", "table"] (spWay A)) (PT' : Pr P w K mg base 2 "tables_up" ["made", "table"] (spTables A)) (T : TxtF K mg A) :
    Pr P w K mg base 3 "passed_to_meeting" ["made", "p", "q"] (spOfTwo A meeting) := by
  refine F.pr sc_passed_to_meeting (fun vs H Q E h => ?_) (fun f cdv Ar outer s H vs Q E hr h => ?_)
  · obtain ⟨d, a, b, p, q, z, rfl, _⟩ := h
    rfl
  · obtain ⟨d, a, b, p, q, z, rfl, hM, g, ⟨dx, ha⟩, ⟨dy, hb⟩, hq6, hs6, hz, k1, k2⟩ := h
    have nd := sc_passed_to_meeting.nd
    have hr1 := hr.mono (j := 1) (by decide)
    refine ⟨_, pss_cons (ps_if (PW.pt (pw_or (pt_cmpR op_ne (pe_fld (pv 1) rfl) (pe_gi T.STANDS rfl) (nomark _)) (pw_or1 (pt_cmpR op_ne (pe_fld (pv 2) rfl) (pe_gi T.STANDS rfl) (nomark _))))) (pss_one (ps_ret pe_non)) pss_nil)
      (pss_cons (ps_set (i := 3) nd rfl (Or.inr rfl) (pe_p PT' hr rfl (pa_cons (pv 0) (pa_cons (pe_fld (pv 2) rfl) pa_nil))))
      (pss_cons (ps_set (i := 4) nd rfl (Or.inr rfl) (pe_lc rfl nd (pi_list (pe_p PT' hr rfl (pa_cons (pv 0) (pa_cons (pe_fld (pv 1) rfl) pa_nil)))) (blkOk_by (own := [("table", 5)]) (by kernel_rfl)) (fun _ _ _ _ _ => pg_name (i := 5) nd rfl (Or.inl rfl))
        (fun _ _ _ _ _ => pts_one (pt_cmpR (r := rIn K false) op_in_seq (pv 5) (pv 3) (by with_unfolding_all rfl))) (fun _ _ _ _ _ => pv 5)))
      (pss_cons (ps_if (pt_not (pt_truth (pv 4) (fun _ => rfl))) (pss_one (ps_ret pe_non)) pss_nil)
      (pss_one (ps_ret (pe_lc rfl nd (pi_list (pe_op op_cat (pe_p PW' hr1 rfl (pa_cons (pv 0) (pa_cons (pe_fld (pv 1) rfl) pa_nil))) (pe_p PW' hr1 rfl (pa_cons (pv 0) (pa_cons (pe_fld (pv 2) rfl) pa_nil))))) (blkOk_by (own := [("fact", 6)]) (by kernel_rfl)) (fun _ _ _ _ _ => pg_name (i := 6) nd rfl (Or.inl rfl))
        (fun _ _ _ _ _ => pts_one (pt_cmpR op_gt (pe_fldB K rfl (pv 6) rfl) (pe_ix (r := rIxL K) ix_list (pv 4) pe_int (fun _ _ => rfl)) (nomark _))) (fun _ _ _ _ _ => pv 6))))))), ?_⟩
    have no : ¬ (q.kind = 3 ∧ z.kind = 3) → ∀ H', Same H H' → Q .non H' := fun h => k1 (by unfold meeting; rw [if_neg h])
    refine ⟨_, rfl, a, A.F, dx, _, _, rfl, ha, T.cl, T.nk, fct_kind _ _ _ _ _, rfl, _, rfl, ite2 (fun h1 => ?_) (fun h1 => ?_)⟩
    · rw [dec_nv] at h1
      have h1 := of_decide_eq_true h1
      exact iteT (no (by omega) H (Same.refl _))
    · rw [dec_nv] at h1
      have h1 := of_decide_eq_false (Bool.eq_false_iff.mpr h1)
      refine ⟨_, rfl, b, A.F, dy, _, _, rfl, hb, T.cl, T.nk, fct_kind _ _ _ _ _, rfl, _, rfl, ite2 (fun h2 => ?_) (fun h2 => ?_)⟩
      · rw [dec_nv] at h2
        have h2 := of_decide_eq_true h2
        exact no (by omega) H (Same.refl _)
      · rw [dec_nv] at h2
        have h2 := of_decide_eq_false (Bool.eq_false_iff.mpr h2)
        have hk3 : q.kind = 3 := by omega
        have hk4 : z.kind = 3 := by omega
        have tl : ∀ t, (Kh219.tablesUp p t).length ≤ 7 := fun t => by
          show (t :: (Kh219.wayUp p t).map Kh219.Fact.b).length ≤ 7
          rw [List.length_cons, List.length_map]
          have := wayUp_len p t
          omega
        refine ⟨_, rfl, _, rfl, b, A.F, dy, _, _, rfl, hb, T.cl, T.nf, fct_f _ _ _ _ _, d, z.f, p, rfl, hM, g, hs6, fun H1 TQ s1 hTQ => ?_⟩
        have hTQ1 := newp_le _ _ hTQ
        refine ⟨_, rfl, _, rfl, a, A.F, dx, _, _, rfl, s1 _ _ ha, T.cl, T.nf, fct_f _ _ _ _ _, d, q.f, p, rfl, hM.mono s1, g, hq6, fun H2 TP s2 hTP => ?_⟩
        have hTP2 := newp_le _ _ hTP
        have s12 := s1.trans s2
        refine ⟨TP, rfl, ⟨_, SqL.of hTP2⟩, fun D hD => ?_⟩
        refine lc_list (K := K) (a := TP) (xs := ((Kh219.tablesUp p q.f).map Int.ofNat).map V.int) (fun i H3 => Same H2 H3 ∧ H3 D = some (.lst (((((Kh219.tablesUp p q.f).take i).filter fun t => (Kh219.tablesUp p z.f).contains t).map Int.ofNat).map V.int))) ⟨same_upd_new hD, upd_same⟩
          (fun i H3 _ ⟨s3, _⟩ => s3.seq (SqL.of hTP2)) (fun i x H3 hi ⟨s3, e3⟩ => ?_) (fun H3 ⟨s3, e3⟩ => ?_)
        · obtain ⟨t', ht', rfl⟩ := map_at hi
          rw [List.getElem?_map] at ht'
          obtain ⟨t, ht, et⟩ : ∃ t, (Kh219.tablesUp p q.f)[i]? = some t ∧ (t : Int) = t' := by
            cases e : (Kh219.tablesUp p q.f)[i]? with
            | none => rw [e] at ht'; cases ht'
            | some t => rw [e] at ht'; exact ⟨t, rfl, Option.some.inj ht'⟩
          subst et
          have ht7 := (List.getElem?_eq_some_iff.mp ht).1
          have h7 := tl q.f
          refine ⟨wipe_one _ 5 _, ⟨_, rfl, _, rfl, TQ, _, rfl, .inl (SqL.of (s3 _ _ (s2 _ _ hTQ1))), rfl, flat_ints _, _, rfl, ?_⟩⟩
          show if inV (.int (t : Int)) (((Kh219.tablesUp p z.f).map Int.ofNat).map V.int) = true then _ else _
          rw [inV_nat]
          refine ite2 (fun h3 => ?_) (fun h3 => ?_)
          · refine ⟨_, rfl, _, e3, ?_, same_upd_of s3 hD, ?_⟩
            · rw [List.length_map, List.length_map]
              have e1 := List.length_filter_le (fun t => (Kh219.tablesUp p z.f).contains t) ((Kh219.tablesUp p q.f).take i)
              rw [List.length_take] at e1
              exact small_lt (by omega)
            · rw [upd_same, take_snoc ht, List.filter_append, List.filter_cons_of_pos h3, List.map_append, List.map_append]
              rfl
          · refine ⟨s3, ?_⟩
            rw [take_snoc ht, List.filter_append, List.filter_cons_of_neg h3, List.filter_nil, List.append_nil]
            exact e3
        · rw [List.length_map, List.length_map, List.take_length] at e3
          have s13 := s12.trans s3
          refine ⟨_, rfl, _, .inl ⟨_, SqL.of e3, rfl⟩, ?_⟩
          have efind : (Kh219.tablesUp p q.f).find? (fun t => (Kh219.tablesUp p z.f).contains t) = ((Kh219.tablesUp p q.f).filter fun t => (Kh219.tablesUp p z.f).contains t).head? := List.head?_filter.symm
          cases ef : (Kh219.tablesUp p q.f).filter (fun t => (Kh219.tablesUp p z.f).contains t) with
          | nil =>
            refine iteT (k1 ?_ H3 s13)
            unfold meeting
            rw [if_pos ⟨hk3, hk4⟩, efind, ef]
            rfl
          | cons t ts =>
            rw [ef] at e3 efind
            have hmem : t ∈ (Kh219.tablesUp p q.f).filter fun t => (Kh219.tablesUp p z.f).contains t := by rw [ef]; exact List.mem_cons_self ..
            have hm1 := (List.mem_filter.mp hmem).1
            have hm2 : t ∈ Kh219.tablesUp p z.f := List.contains_iff_mem.mp (List.mem_filter.mp hmem).2
            refine iteF ⟨_, rfl, _, rfl, a, A.F, dx, _, _, rfl, s13 _ _ ha, T.cl, T.nf, fct_f _ _ _ _ _, d, q.f, p, rfl, hM.mono s13, g, hq6, fun H4 W1 as1 s4 _ hW1 => ?_⟩
            have s14 := s13.trans s4
            refine ⟨_, rfl, _, rfl, b, A.F, dy, _, _, rfl, s14 _ _ hb, T.cl, T.nf, fct_f _ _ _ _ _, d, z.f, p, rfl, hM.mono s14, g, hs6, fun H5 W2 as2 s5 _ hW2 => ?_⟩
            obtain ⟨hW1a, hp1⟩ := hW1.mono s5
            obtain ⟨hW2a, hp2⟩ := hW2
            have l1 := paired_len hp1
            have l2 := paired_len hp2
            have w1 := wayUp_len p q.f
            have w2 := wayUp_len p z.f
            refine ⟨W1, W2, _, _, rfl, rfl, hW1a, hW2a, by rw [List.length_map, List.length_map]; exact small_line (by omega), fun W hW => ?_⟩
            have s6 : Same H5 (upd H5 W (.lst (as1.map V.ref ++ as2.map V.ref))) := same_upd_new hW
            have hp := paired_app hp1 hp2
            have hl := paired_len hp
            have hWl : upd H5 W (.lst (as1.map V.ref ++ as2.map V.ref)) W = some (.lst ((as1 ++ as2).map V.ref)) := by rw [upd_same, List.map_append]
            have e5 := s6 _ _ (s5 _ _ (s4 _ _ e3))
            refine ⟨W, rfl, ⟨_, SqL.of hWl⟩, fun D2 hD2 => ?_⟩
            refine lc_list (K := K) (a := W) (xs := (as1 ++ as2).map V.ref) (fun i H6 => Same (upd H5 W (.lst (as1.map V.ref ++ as2.map V.ref))) H6 ∧ ∃ bs : List Addr, H6 D2 = some (.lst (bs.map V.ref)) ∧ Paired (FactAt A H5) bs (((Kh219.wayUp p q.f ++ Kh219.wayUp p z.f).take i).filter fun y => decide (t < y.f)) ∧ bs.length ≤ i) ⟨same_upd_new hD2, [], upd_same, .nil, Nat.le_refl _⟩
              (fun i H6 _ ⟨s7, _⟩ => s7.seq (SqL.of hWl)) (fun i x H6 hi ⟨s7, bs, e7, p7, l7⟩ => ?_) (fun H6 ⟨s7, bs, e7, p7, l7⟩ => ?_)
            · obtain ⟨c, hc, rfl⟩ := map_at hi
              obtain ⟨fw, hfw, dz, hcc⟩ := paired_at hp hc
              have hlt := (List.getElem?_eq_some_iff.mp hfw).1
              rw [List.length_append] at hlt
              refine ⟨wipe_one _ 6 _, ⟨_, rfl, c, A.F, dz, _, _, rfl, s7 _ _ (s6 _ _ hcc), T.cl, T.nf, fct_f _ _ _ _ _, _, rfl, D, _, _, _, rfl, rfl, SqL.of (s7 _ _ e5), atI_nat (j := 0) rfl, _, _, rfl, rfl, _, rfl, ite2 (fun h3 => ?_) (fun h3 => ?_)⟩⟩
              · have h3 := of_decide_eq_true h3
                have h3 : t < fw.f := by have h3' : (t : Int) < (fw.f : Int) := h3; omega
                refine ⟨_, rfl, _, e7, by rw [List.length_map]; exact small_lt (by omega), same_upd_of s7 hD2, bs ++ [c], by rw [upd_same, List.map_append]; rfl, ?_, by rw [List.length_append]; show bs.length + 1 ≤ i + 1; omega⟩
                rw [take_snoc hfw, List.filter_append, List.filter_cons_of_pos (by simpa using h3)]
                exact paired_snoc p7 ⟨dz, hcc⟩
              · have h3 := of_decide_eq_false (Bool.eq_false_iff.mpr h3)
                have h3 : ¬ t < fw.f := by have h3' : ¬ (t : Int) < (fw.f : Int) := h3; omega
                refine ⟨s7, bs, e7, ?_, by omega⟩
                rw [take_snoc hfw, List.filter_append, List.filter_cons_of_neg (by simpa using h3), List.filter_nil, List.append_nil]
                exact p7
            · rw [List.length_map, hl, List.take_length, List.filter_append, ← upto_eq g hm1, ← upto_eq g hm2] at p7
              refine k2 _ ?_ H6 D2 (((s14.trans s5).trans s6).trans s7) ⟨bs, e7, paired_mono p7 fun _ _ => FactAt.mono (s6.trans s7)⟩
              unfold meeting
              rw [if_pos ⟨hk3, hk4⟩, efind]
              rfl
end
end Wn
end
section
set_option maxRecDepth 100000
set_option maxHeartbeats 4000000
namespace Wn
open PySem PySem.Spec PyProof.Rows L2
section
variable {P : Program} {w : World} {K : PySem.W.Frag} {mg : Str → Option Value} {base : Heap} {A : Ads}
theorem sc_passed_facts : FnScope ["facts", "kind", "p", "q"] ["facts", "kind", "p", "q"] (defScope s_passed_facts) := ⟨rfl, rfl, rfl, by decide +kernel, rfl, by decide +kernel, by decide +kernel⟩
theorem ok_passed_facts (F : GF K mg "passed_facts" s_passed_facts ["facts", "kind", "p", "q"]) (PS' : Pr P w K mg base 1 "same_function" ["p", "q"] (spSameFn A)) (PM : Pr P w K mg base 1 "made_tables" ["facts"] (spMade A))
    (PW' : Pr P w K mg base 2 "passed_to_written" ["made", "p", "q"] (spOfTwo A written)) (PE' : Pr P w K mg base 3 "passed_to_meeting" ["made", "p", "q"] (spOfTwo A meeting)) (T : TxtL mg) :
    Pr P w K mg base 4 "passed_facts" ["facts", "kind", "p", "q"] (spPassed A) := by
  refine F.pr sc_passed_facts (fun vs H Q E h => ?_) (fun f cdv Ar outer s H vs Q E hr h => ?_)
  · obtain ⟨fa, a, b, k, p, as, q, z, rfl, _⟩ := h
    rfl
  · obtain ⟨fa, a, b, k, p, as, q, z, rfl, hF, hlen, g, ha, hb, hq6, hs6, hz, k1, k2⟩ := h
    have hr1 := hr.mono (j := 1) (by decide)
    have hr2 := hr.mono (j := 2) (by decide)
    refine ⟨_, pss_cons (ps_if (pt_cmpR op_eq (pv 1) (pe_gi T.SAME_FUNCTION rfl) (nomark _)) (pss_one (ps_ret (pe_ifExp (pt_val (pe_p PS' hr1 rfl (pa_cons (pv 2) (pa_cons (pv 3) pa_nil)))) (pe_lst pa_nil) pe_non))) pss_nil)
      (pss_cons (ps_if (pt_cmpR op_in_seq (pv 1) (pe_tup (pa_cons (pe_gi T.AT_MOST rfl) (pa_cons (pe_gi T.AT_LEAST rfl) pa_nil))) (by with_unfolding_all rfl)) (pss_one (ps_ret (pe_p PW' hr2 rfl (pa_cons (pe_p PM hr1 rfl (pa_cons (pv 0) pa_nil)) (pa_cons (pv 2) (pa_cons (pv 3) pa_nil)))))) pss_nil)
      (pss_cons (ps_if (pt_cmpR op_eq (pv 1) (pe_gi T.SAME_TABLE rfl) (nomark _)) (pss_one (ps_ret (pe_p PE' hr rfl (pa_cons (pe_p PM hr1 rfl (pa_cons (pv 0) pa_nil)) (pa_cons (pv 2) (pa_cons (pv 3) pa_nil)))))) pss_nil)
      (pss_one (ps_ret pe_non)))), ?_⟩
    refine ⟨_, rfl, rfl, _, rfl, ite2 (fun h1 => ?_) (fun h1 => ?_)⟩
    · rw [dec_v] at h1
      have h1 := of_decide_eq_true h1
      have hk : k = 1 := by omega
      refine ⟨_, rfl, _, rfl, a, b, q, z, rfl, ha, hb, fun H1 s1 => ⟨_, rfl, ?_⟩⟩
      have ep : passed p k q z = if (q.kind = 1 ∨ q.kind = 2) ∧ z.kind = q.kind ∧ z.f = q.f then some [] else none := by
        unfold passed
        rw [if_pos hk]
      unfold sameFn
      by_cases hc : (q.kind = 1 ∨ q.kind = 2) ∧ z.kind = q.kind ∧ z.f = q.f
      · rw [decide_eq_true hc]
        rw [if_pos hc] at ep
        exact iteT ⟨Nat.zero_le _, fun D hD => k2 [] ep _ D (s1.trans (same_upd_new hD)) ⟨[], upd_same, .nil⟩⟩
      · rw [decide_eq_false hc]
        rw [if_neg hc] at ep
        exact iteF (k1 ep H1 s1)
    · rw [dec_v] at h1
      have h1 := of_decide_eq_false (Bool.eq_false_iff.mpr h1)
      have hk1 : ¬ k = 1 := by omega
      refine ⟨_, rfl, (by show 2 ≤ sizeLine; decide), fun t ht => ?_⟩
      have s1 : Same H (upd H t (.tup [.int 2, .int 3])) := same_upd_new ht
      refine ⟨t, _, rfl, .inr (SqT.of upd_same), rfl, rfl, _, rfl, ?_⟩
      have ein : inV (.int (k : Int)) [.int 2, .int 3] = decide (k = 2 ∨ k = 3) := by
        show ((2 : Int) == (k : Int) || ((3 : Int) == (k : Int) || false)) = _
        rw [Bool.eq_iff_iff]
        simp only [Bool.or_eq_true, beq_iff_eq, decide_eq_true_eq, Bool.false_eq_true, or_false]
        omega
      show if inV (.int (k : Int)) [.int 2, .int 3] = true then _ else _
      rw [ein]
      refine ite2 (fun h2 => ?_) (fun h2 => ?_)
      · have h2 := of_decide_eq_true h2
        have ep : passed p k q z = written p q z := by
          unfold passed written
          rw [if_neg hk1, if_pos h2]
        rw [ep] at k1 k2
        refine ⟨_, rfl, fa, as, p.facts, rfl, hF.mono s1, by omega, fun H1 d kvs s2 hd M => ?_⟩
        have s12 := s1.trans s2
        refine ⟨_, rfl, _, rfl, d, a, b, p, q, z, rfl, ⟨kvs, as, newp_le _ _ hd, M, paired_mono hF.2 fun _ _ => FactAt.mono s12⟩, g, ha.mono s12, hb.mono s12, hq6, hs6, hz, fun e H' s' => k1 e H' (s12.trans s'), fun x e H' D s' hx => k2 x e H' D (s12.trans s') hx⟩
      · have h2 := of_decide_eq_false (Bool.eq_false_iff.mpr h2)
        refine ⟨_, rfl, rfl, _, rfl, ite2 (fun h3 => ?_) (fun h3 => ?_)⟩
        · rw [dec_v] at h3
          have h3 := of_decide_eq_true h3
          have ep : passed p k q z = meeting p q z := by
            unfold passed meeting
            rw [if_neg hk1, if_neg h2]
            exact if_pos (by omega : k = 4)
          rw [ep] at k1 k2
          refine ⟨_, rfl, fa, as, p.facts, rfl, hF.mono s1, by omega, fun H1 d kvs s2 hd M => ?_⟩
          have s12 := s1.trans s2
          refine ⟨_, rfl, _, rfl, d, a, b, p, q, z, rfl, ⟨kvs, as, newp_le _ _ hd, M, paired_mono hF.2 fun _ _ => FactAt.mono s12⟩, g, ha.mono s12, hb.mono s12, hq6, hs6, hz, fun e H' s' => k1 e H' (s12.trans s'), fun x e H' D s' hx => k2 x e H' D (s12.trans s') hx⟩
        · rw [dec_v] at h3
          have h3 := of_decide_eq_false (Bool.eq_false_iff.mpr h3)
          refine k1 ?_ _ s1
          unfold passed
          rw [if_neg hk1, if_neg h2, if_neg (by omega : ¬ k = 4)]
theorem sc_last_bound : FnScope ["kind", "p", "q"] ["kind", "p", "q"] (defScope s_last_bound) := ⟨rfl, rfl, rfl, by decide +kernel, rfl, by decide +kernel, by decide +kernel⟩
theorem ok_last_bound (F : GF K mg "last_bound" s_last_bound ["kind", "p", "q"]) (PG : Pr P w K mg base 3 "gap_bound" ["first", "second", "d"] (spGap A)) (T : TxtF K mg A) (TL : TxtL mg) :
    Pr P w K mg base 4 "last_bound" ["kind", "p", "q"] (spLast A) := by
  refine F.pr sc_last_bound (fun vs H Q E h => ?_) (fun f cdv Ar outer s H vs Q E hr h => ?_)
  · obtain ⟨a, b, k, q, z, rfl, _⟩ := h
    rfl
  · obtain ⟨a, b, k, q, z, rfl, ⟨dx, ha⟩, ⟨dy, hb⟩, hq, hz, kk⟩ := h
    refine ⟨_, pss_cons (ps_if (pt_cmpR op_eq (pv 0) (pe_gi TL.AT_LEAST rfl) (nomark _)) (pss_one (ps_ret (pe_p PG hr rfl (pa_cons (pe_fld (pv 2) rfl) (pa_cons (pe_fld (pv 1) rfl) (pa_cons pe_int pa_nil)))))) pss_nil)
      (pss_one (ps_ret (pe_p PG hr rfl (pa_cons (pe_fld (pv 1) rfl) (pa_cons (pe_fld (pv 2) rfl) (pa_cons pe_int pa_nil)))))), ?_⟩
    refine ⟨_, rfl, rfl, _, rfl, ite2 (fun h1 => ?_) (fun h1 => ?_)⟩
    · rw [dec_v] at h1
      have h1 := of_decide_eq_true h1
      refine ⟨_, rfl, b, A.F, dy, _, _, rfl, hb, T.cl, T.nr, fct_r _ _ _ _ _, _, rfl, a, A.F, dx, _, _, rfl, ha, T.cl, T.nr, fct_r _ _ _ _ _, z.r, q.r, 0, rfl, hz, hq, fun H1 D s1 h => kk H1 D s1 ?_⟩
      unfold lastLe
      rw [if_pos (by omega : k = 3)]
      exact h
    · rw [dec_v] at h1
      have h1 := of_decide_eq_false (Bool.eq_false_iff.mpr h1)
      refine ⟨_, rfl, a, A.F, dx, _, _, rfl, ha, T.cl, T.nr, fct_r _ _ _ _ _, _, rfl, b, A.F, dy, _, _, rfl, hb, T.cl, T.nr, fct_r _ _ _ _ _, q.r, z.r, 0, rfl, hq, hz, fun H1 D s1 h => kk H1 D s1 ?_⟩
      unfold lastLe
      rw [if_neg (by omega : ¬ k = 3)]
      exact h
theorem sc_lesson_bounds : FnScope ["facts", "kind", "which_p", "which_q", "by", "p", "q", "passed", "bounds"] ["facts", "kind", "which_p", "which_q", "by"] (defScope s_lesson_bounds) := ⟨rfl, rfl, rfl, by decide +kernel, rfl, by decide +kernel, by decide +kernel⟩
theorem ok_lesson_bounds (F : GF K mg "lesson_bounds" s_lesson_bounds ["facts", "kind", "which_p", "which_q", "by"]) (PP : Pr P w K mg base 4 "passed_facts" ["facts", "kind", "p", "q"] (spPassed A)) (PA0 : Pr P w K mg base 4 "apart" ["first", "second"] (spApart A))
    (PB : Pr P w K mg base 4 "beside" ["at", "passed", "by"] (spBeside A)) (PL : Pr P w K mg base 4 "last_bound" ["kind", "p", "q"] (spLast A)) (T : TxtF K mg A) (G : TxtG mg) :
    Pr P w K mg base 5 "lesson_bounds" ["facts", "kind", "which_p", "which_q", "by"] (spLesson A) := by
  refine F.pr sc_lesson_bounds (fun vs H Q E h => ?_) (fun f cdv Ar outer s H vs Q E hr h => ?_)
  · obtain ⟨fa, k, i, j, b, p, as, rfl, _⟩ := h
    rfl
  · obtain ⟨fa, k, i, j, b, p, as, rfl, ⟨hfa, hp⟩, hlen, g, hun, k1, k2⟩ := h
    have nd := sc_lesson_bounds.nd
    have hl := paired_len hp
    refine ⟨_, pss_cons (ps_if (PW.pt (pw_or (pt_cmpR op_ge (pv 2) (pe_callB call_len_seq rfl G.len boot_len (pa_cons (pv 0) pa_nil)) (nomark _)) (pw_or1 (pt_cmpR op_ge (pv 3) (pe_callB call_len_seq rfl G.len boot_len (pa_cons (pv 0) pa_nil)) (nomark _))))) (pss_one (ps_ret pe_non)) pss_nil)
      (pss_cons (ps_set (i := 5) nd rfl (Or.inl rfl) (pe_ix ix_list (pv 0) (pv 2) (fun _ _ => rfl)))
      (pss_cons (ps_set (i := 6) nd rfl (Or.inl rfl) (pe_ix ix_list (pv 0) (pv 3) (fun _ _ => rfl)))
      (pss_cons (ps_set (i := 7) nd rfl (Or.inl rfl) (pe_p PP hr rfl (pa_cons (pv 0) (pa_cons (pv 1) (pa_cons (pv 5) (pa_cons (pv 6) pa_nil))))))
      (pss_cons (ps_if (PW.pt (pw_or (pt_cmpR op_isN (pv 7) pe_non (nomark _)) (pw_or1 (pt_cmpR op_ne (pe_op op_shr (pv 4) (pe_callB call_len_seq rfl G.len boot_len (pa_cons (pv 7) pa_nil))) pe_int (nomark _))))) (pss_one (ps_ret pe_non)) pss_nil)
      (pss_cons (ps_set (i := 8) nd rfl (Or.inl rfl) (pe_p PA0 hr rfl (pa_cons (pe_fld (pv 5) rfl) (pa_cons (pe_fld (pv 6) rfl) pa_nil))))
      (pss_cons (ps_if (pt_cmpR op_eq (pe_fld (pv 5) rfl) (pe_gi T.OF_TWO rfl) (nomark _)) (pss_one (ps_expr (pe_bm PySem.F.plainAttrs_list PySem.F.slot_list_extend PySem.F.type_list_extend mt_extend (pv 8) (pa_cons (pe_p PA0 hr rfl (pa_cons (pe_fld (pv 5) rfl) (pa_cons (pe_fld (pv 6) rfl) pa_nil))) pa_nil)))) pss_nil)
      (pss_one (ps_ret (pe_op op_cat (pe_op op_cat (pv 8) (pe_p PB hr rfl (pa_cons (pe_fld (pv 5) rfl) (pa_cons (pv 7) (pa_cons (pv 4) pa_nil))))) (pe_lst (pa_cons (pe_p PL hr rfl (pa_cons (pv 1) (pa_cons (pv 5) (pa_cons (pv 6) pa_nil)))) pa_nil))))))))))), ?_⟩
    refine ⟨_, rfl, _, rfl, fa, _, rfl, .inl (SqL.of hfa), _, _, rfl, rfl, _, rfl, ?_⟩
    rw [List.length_map, hl]
    refine ite2 (fun h1 => ?_) (fun h1 => ?_)
    · have h1 := of_decide_eq_true h1
      exact iteT (k1 (lesson_no (.inl (List.getElem?_eq_none_iff.mpr (by omega)))) H (Same.refl _))
    have h1 := of_decide_eq_false (Bool.eq_false_iff.mpr h1)
    refine ⟨_, rfl, _, rfl, fa, _, rfl, .inl (SqL.of hfa), _, _, rfl, rfl, _, rfl, ?_⟩
    rw [List.length_map, hl]
    refine ite2 (fun h2 => ?_) (fun h2 => ?_)
    · have h2 := of_decide_eq_true h2
      exact k1 (lesson_no (.inr (List.getElem?_eq_none_iff.mpr (by omega)))) H (Same.refl _)
    have h2 := of_decide_eq_false (Bool.eq_false_iff.mpr h2)
    obtain ⟨q, hi⟩ : ∃ q, p.facts[i]? = some q := ⟨_, List.getElem?_eq_getElem (by omega)⟩
    obtain ⟨z, hj⟩ : ∃ z, p.facts[j]? = some z := ⟨_, List.getElem?_eq_getElem (by omega)⟩
    obtain ⟨a, hai, dx, ha⟩ := paired_at' hp hi
    obtain ⟨b', hbj, dy, hb⟩ := paired_at' hp hj
    have okq := g.ok q (List.mem_of_getElem? hi)
    have okz := g.ok z (List.mem_of_getElem? hj)
    have aq := ok_a okq
    have az := ok_a okz
    refine ⟨_, rfl, _, rfl, fa, _, _, _, rfl, rfl, SqL.of hfa, atI_nat (j := i) (by rw [List.getElem?_map, hai]; rfl), ?_⟩
    refine ⟨_, rfl, _, rfl, fa, _, _, _, rfl, rfl, SqL.of hfa, atI_nat (j := j) (by rw [List.getElem?_map, hbj]; rfl), ?_⟩
    refine ⟨_, rfl, _, rfl, _, rfl, _, rfl, fa, a, b', k, p, as, q, z, rfl, ⟨hfa, hp⟩, hlen, g, ⟨dx, ha⟩, ⟨dy, hb⟩, ok_f6 okq, ok_f6 okz, List.mem_of_getElem? hj, fun epass H1 s1 => ?_, fun ws epass H1 PA' s1 hws => ?_⟩
    · refine ⟨_, rfl, rfl, _, rfl, iteT (iteT (k1 ?_ H1 s1))⟩
      rw [lesson_eq hi hj, epass]
    · obtain ⟨asw, hws1⟩ := hws
      have hwf := passed_wf g epass
      have hlw := paired_len hws1.2
      refine ⟨_, rfl, rfl, _, rfl, iteF ⟨_, rfl, _, rfl, PA', _, rfl, .inl (SqL.of hws1.1), _, _, rfl, rfl, (by show (0 : Int) ≤ ((_ : Nat) : Int); omega), rfl, _, rfl, ?_⟩⟩
      rw [List.length_map, hlw, dec_nv]
      have ez : ((b : Int) / 2 ^ ((ws.length : Nat) : Int).toNat = 0) ↔ b < 2 ^ ws.length := shr_zero b ws.length
      refine ite2 (fun h3 => ?_) (fun h3 => ?_)
      · have h3 := of_decide_eq_true h3
        refine k1 ?_ H1 s1
        rw [lesson_eq hi hj, epass]
        show (if b < 2 ^ ws.length then _ else _) = _
        rw [if_neg (fun hh => h3 (ez.mpr hh))]
      have h3 := of_decide_eq_false (Bool.eq_false_iff.mpr h3)
      have hby : b < 2 ^ ws.length := by
        rcases Nat.lt_or_ge b (2 ^ ws.length) with hh | hh
        · exact hh
        · exact absurd (fun e => absurd (ez.mp e) (by omega)) h3
      refine ⟨_, rfl, a, A.F, dx, _, _, rfl, s1 _ _ ha, T.cl, T.na, fct_a _ _ _ _ _, _, rfl, b', A.F, dy, _, _, rfl, s1 _ _ hb, T.cl, T.na, fct_a _ _ _ _ _, q.a, z.a, rfl, by omega, by omega, fun H2 B s2 hB => ?_⟩
      obtain ⟨bs2, eB, pB⟩ := hB
      have s12 := s1.trans s2
      have hBn := (newp_some eB).1
      have hBH : H B = none := s1.free hBn
      have pB' : Paired (BoundAt A (newp H H2)) bs2 [Kh219.apart q.a z.a (-1), Kh219.apart z.a q.a (-1)] := paired_mono pB fun _ _ h => h.mono (newp_old s1)
      refine ⟨_, rfl, a, A.F, dx, _, _, rfl, s12 _ _ ha, T.cl, T.nk, fct_kind _ _ _ _ _, rfl, _, rfl, ite2 (fun h4 => ?_) (fun h4 => ?_)⟩
      · rw [dec_v] at h4
        have h4 := of_decide_eq_true h4
        have hk2 : q.kind = 2 := by omega
        have bq := ok_b2 okq hk2
        have bz : z.b < p.unknowns := by
          have hz2 : z.kind = 2 := by
            by_cases hk1 : k = 1
            · unfold passed at epass
              rw [if_pos hk1] at epass
              split at epass
              · rename_i hc; omega
              · cases epass
            · unfold passed at epass
              rw [if_neg hk1] at epass
              split at epass
              · rw [if_neg (by omega)] at epass; cases epass
              · split at epass
                · rw [if_neg (by omega)] at epass; cases epass
                · cases epass
          exact ok_b2 okz hz2
        refine ⟨_, rfl, .inl ⟨rfl, _, SqL.of (newp_le _ _ eB)⟩, _, rfl, a, A.F, dx, _, _, rfl, s12 _ _ ha, T.cl, T.nb, fct_b _ _ _ _ _, _, rfl, b', A.F, dy, _, _, rfl, s12 _ _ hb, T.cl, T.nb, fct_b _ _ _ _ _, q.b, z.b, rfl, by omega, by omega, fun H3 B2 s3 hB2 => ?_⟩
        obtain ⟨bs3, eB2, pB2⟩ := hB2
        have eB3 : H3 B = some (.lst (bs2.map V.ref)) := s3 _ _ (newp_le _ _ eB)
        have l2 := paired_len pB
        have l3 := paired_len pB2
        have l2' : bs2.length = 2 := l2
        have l3' : bs3.length = 2 := l3
        refine ⟨B, B2, _, _, rfl, rfl, eB3, newp_le _ _ eB2, by rw [List.length_map, List.length_map]; exact small_line (by omega), ?_⟩
        have s13 := s12.trans s3
        have s4 : Same H (upd H3 B (.lst (bs2.map V.ref ++ bs3.map V.ref))) := same_upd_of s13 hBH
        have s14 : Same H1 (upd H3 B (.lst (bs2.map V.ref ++ bs3.map V.ref))) := same_upd_of (s2.trans s3) hBn
        have hne : bs2 ≠ [] := fun e => by rw [e] at l2'; cases l2'
        have eG : newp H H3 B = some (.lst (bs2.map V.ref)) := newp_of hBH eB3
        have eBU : upd H3 B (.lst (bs2.map V.ref ++ bs3.map V.ref)) B = some (.lst ((bs2 ++ bs3).map V.ref)) := by rw [upd_same, List.map_append]
        have PREE : Paired (BoundAt A (newp H (upd H3 B (.lst (bs2.map V.ref ++ bs3.map V.ref))))) (bs2 ++ bs3) ([Kh219.apart q.a z.a (-1), Kh219.apart z.a q.a (-1)] ++ apartB q z) := by
          rw [newp_upd hBH]
          unfold apartB
          rw [if_pos hk2]
          exact paired_app (paired_mono pB' fun _ _ h => (h.mono (newp_trans s3)).upd eG hne) (paired_mono pB2 fun _ _ h => (h.mono (newp_old s12)).upd eG hne)
        refine ⟨_, rfl, _, rfl, a, A.F, dx, _, _, rfl, s4 _ _ ha, T.cl, T.na, fct_a _ _ _ _ _, _, rfl, _, rfl, q, PA', asw, ws, b, rfl, by omega, ⟨s14 _ _ hws1.1, paired_mono hws1.2 fun _ _ => FactAt.mono s14⟩, by omega, fun x hx => ?_, fun H5 D5 s5 h5 => ?_⟩
        · have := (ok_a (g.ok x (hwf.2 x hx))).1
          omega
        · obtain ⟨bs5, e5, p5⟩ := h5
          have l5 := paired_len p5
          rw [sames_length] at l5
          have lb := paired_len PREE
          have lab : ([Kh219.apart q.a z.a (-1), Kh219.apart z.a q.a (-1)] ++ apartB q z).length ≤ 4 := by
            unfold apartB
            split <;> simp
          have sH5 := s4.trans s5
          refine ⟨B, D5, _, _, rfl, rfl, s5 _ _ eBU, newp_le _ _ e5, by rw [List.length_map, List.length_map]; exact small_line (by omega), fun C hC => ?_⟩
          have s6 : Same H5 (upd H5 C (.lst ((bs2 ++ bs3).map V.ref ++ bs5.map V.ref))) := same_upd_new hC
          refine ⟨_, rfl, _, rfl, _, rfl, a, b', k, q, z, rfl, ⟨dx, s6 _ _ (s5 _ _ (s4 _ _ ha))⟩, ⟨dy, s6 _ _ (s5 _ _ (s4 _ _ hb))⟩, by omega, by omega, fun H7 L7 s7 h7 => ⟨(by show 1 ≤ sizeLine; decide), fun M hM => ?_⟩⟩
          have s8 : Same H7 (upd H7 M (.lst [.ref L7])) := same_upd_new hM
          refine ⟨C, M, _, _, rfl, rfl, s8 _ _ (s7 _ _ upd_same), upd_same, ?_, fun R hR => ?_⟩
          · rw [List.length_append, List.length_map, List.length_map]
            exact small_line (by show _ + 1 ≤ 1000000; omega)
          · have s9 : Same (upd H7 M (.lst [.ref L7])) (upd (upd H7 M (.lst [.ref L7])) R (.lst ((bs2 ++ bs3).map V.ref ++ bs5.map V.ref ++ [.ref L7]))) := same_upd_new hR
            have s58 : Same H5 (upd (upd H7 M (.lst [.ref L7])) R (.lst ((bs2 ++ bs3).map V.ref ++ bs5.map V.ref ++ [.ref L7]))) := ((s6.trans s7).trans s8).trans s9
            have sAll := sH5.trans s58
            refine k2 _ (by rw [lesson_eq hi hj, epass]; show (if b < 2 ^ ws.length then _ else _) = _; rw [if_pos hby]) _ R sAll ⟨(bs2 ++ bs3) ++ bs5 ++ [L7], newp_of ((sH5.trans ((s6.trans s7).trans s8)).free hR) (by rw [upd_same]; simp only [List.map_append, List.map_cons, List.map_nil]), ?_⟩
            unfold lessonOf
            refine paired_snoc (paired_app (paired_mono PREE fun _ _ h => h.mono (newp_trans (s5.trans s58))) (paired_mono p5 fun _ _ h => (h.mono (newp_old s4)).mono (newp_trans s58))) ((h7.mono (newp_old (sH5.trans s6))).mono (newp_trans (s8.trans s9)))
      · rw [dec_v] at h4
        have h4 := of_decide_eq_false (Bool.eq_false_iff.mpr h4)
        have hk2 : ¬ q.kind = 2 := by omega
        have PREE : Paired (BoundAt A (newp H H2)) bs2 ([Kh219.apart q.a z.a (-1), Kh219.apart z.a q.a (-1)] ++ apartB q z) := by
          unfold apartB
          rw [if_neg hk2, List.append_nil]
          exact pB'
        have eBU : H2 B = some (.lst (bs2.map V.ref)) := newp_le _ _ eB
        refine ⟨_, rfl, _, rfl, a, A.F, dx, _, _, rfl, s12 _ _ ha, T.cl, T.na, fct_a _ _ _ _ _, _, rfl, _, rfl, q, PA', asw, ws, b, rfl, by omega, ⟨s2 _ _ hws1.1, paired_mono hws1.2 fun _ _ => FactAt.mono s2⟩, by omega, fun x hx => ?_, fun H5 D5 s5 h5 => ?_⟩
        · have := (ok_a (g.ok x (hwf.2 x hx))).1
          omega
        · obtain ⟨bs5, e5, p5⟩ := h5
          have l5 := paired_len p5
          rw [sames_length] at l5
          have lb := paired_len PREE
          have lab : ([Kh219.apart q.a z.a (-1), Kh219.apart z.a q.a (-1)] ++ apartB q z).length ≤ 4 := by
            unfold apartB
            split <;> simp
          have sH5 := s12.trans s5
          refine ⟨B, D5, _, _, rfl, rfl, s5 _ _ eBU, newp_le _ _ e5, by rw [List.length_map, List.length_map]; exact small_line (by omega), fun C hC => ?_⟩
          have s6 : Same H5 (upd H5 C (.lst (bs2.map V.ref ++ bs5.map V.ref))) := same_upd_new hC
          refine ⟨_, rfl, _, rfl, _, rfl, a, b', k, q, z, rfl, ⟨dx, s6 _ _ (s5 _ _ (s12 _ _ ha))⟩, ⟨dy, s6 _ _ (s5 _ _ (s12 _ _ hb))⟩, by omega, by omega, fun H7 L7 s7 h7 => ⟨(by show 1 ≤ sizeLine; decide), fun M hM => ?_⟩⟩
          have s8 : Same H7 (upd H7 M (.lst [.ref L7])) := same_upd_new hM
          refine ⟨C, M, _, _, rfl, rfl, s8 _ _ (s7 _ _ upd_same), upd_same, ?_, fun R hR => ?_⟩
          · rw [List.length_append, List.length_map, List.length_map]
            exact small_line (by show _ + 1 ≤ 1000000; omega)
          · have s9 : Same (upd H7 M (.lst [.ref L7])) (upd (upd H7 M (.lst [.ref L7])) R (.lst (bs2.map V.ref ++ bs5.map V.ref ++ [.ref L7]))) := same_upd_new hR
            have s58 : Same H5 (upd (upd H7 M (.lst [.ref L7])) R (.lst (bs2.map V.ref ++ bs5.map V.ref ++ [.ref L7]))) := ((s6.trans s7).trans s8).trans s9
            have sAll := sH5.trans s58
            refine k2 _ (by rw [lesson_eq hi hj, epass]; show (if b < 2 ^ ws.length then _ else _) = _; rw [if_pos hby]) _ R sAll ⟨bs2 ++ bs5 ++ [L7], newp_of ((sH5.trans ((s6.trans s7).trans s8)).free hR) (by rw [upd_same]; simp only [List.map_append, List.map_cons, List.map_nil]), ?_⟩
            unfold lessonOf
            refine paired_snoc (paired_app (paired_mono PREE fun _ _ h => h.mono (newp_trans (s5.trans s58))) (paired_mono p5 fun _ _ h => (h.mono (newp_old s12)).mono (newp_trans s58))) ((h7.mono (newp_old (sH5.trans s6))).mono (newp_trans (s8.trans s9)))
end
end Wn
end
section
set_option maxRecDepth 100000
set_option maxHeartbeats 4000000
namespace L2
open PySem PySem.Spec PyProof.Rows
theorem RgC.by2 {n : Nat} (hn : n ≤ 100000) : RgC 0 ((2 * n : Nat) : Int) 2 n := by
  have e : Builtin.Range.rangeSize 0 ((2 * n : Nat) : Int) 2 = n := by
    unfold Builtin.Range.rangeSize
    simp only [show ((2 : Int) > 0) by decide, if_true]
    split <;> omega
  refine ⟨by decide, by decide, ?_, e⟩
  have fit : ∀ i : Int, 0 ≤ i → i ≤ 10000000 → Builtin.Range.rangeFitsLong i = true := fun i h1 h2 => by
    unfold Builtin.Range.rangeFitsLong
    rw [decide_eq_true (by omega), decide_eq_true (by omega)]
    rfl
  unfold Builtin.Range.small
  rw [e]
  rw [fit 0 (by omega) (by omega), fit _ (by omega) (by omega : (((2 * n : Nat) : Nat) : Int) ≤ 10000000), fit 2 (by omega) (by omega), fit (n : Int) (by omega) (by omega), if_pos (by decide), fit _ (by omega) (by omega)]
  simp
end L2
namespace Wn
open PySem PySem.Spec PyProof.Rows L2
/-! ### recipes: the data -/
def recF (b l h t : V) : List (Str × V) := putF "times" t (putF "high" h (putF "low" l (putF "by" b [])))
theorem rec_by (b l h t : V) : (recF b l h t).lookup ("by" : Str) = some b := by
  unfold recF
  rw [lookup_putF, if_neg (by decide +kernel), lookup_putF, if_neg (by decide +kernel), lookup_putF, if_neg (by decide +kernel), lookup_putF, if_pos rfl]
theorem rec_low (b l h t : V) : (recF b l h t).lookup ("low" : Str) = some l := by
  unfold recF
  rw [lookup_putF, if_neg (by decide +kernel), lookup_putF, if_neg (by decide +kernel), lookup_putF, if_pos rfl]
theorem rec_high (b l h t : V) : (recF b l h t).lookup ("high" : Str) = some h := by
  unfold recF
  rw [lookup_putF, if_neg (by decide +kernel), lookup_putF, if_pos rfl]
theorem rec_times (b l h t : V) : (recF b l h t).lookup ("times" : Str) = some t := by
  unfold recF
  rw [lookup_putF, if_pos rfl]
def PairAt (G : Hp) (a : Addr) (t : Nat × Nat) : Prop := G a = some (.tup [.int (t.1 : Int), .int (t.2 : Int)])
structure RecIs (A : Ads) (G : Hp) (a dx la ha ta : Addr) (ts : List Addr) (s : Kh219.Sum) : Prop where
  ob : G a = some (.ins A.S dx (recF (.int s.by_) (.ref la) (.ref ha) (.ref ta)))
  low : IntsAt G la (casts s.low)
  high : IntsAt G ha (casts s.high)
  times : G ta = some (.lst (ts.map V.ref))
  each : Paired (PairAt G) ts s.times
def RecAt (A : Ads) (G : Hp) (a : Addr) (s : Kh219.Sum) : Prop := ∃ dx la ha ta ts, RecIs A G a dx la ha ta ts s
theorem RecIs.mono {A : Ads} {G G' : Hp} {a dx la ha ta : Addr} {ts : List Addr} {s : Kh219.Sum} (m : Same G G') (h : RecIs A G a dx la ha ta ts s) : RecIs A G' a dx la ha ta ts s :=
  ⟨m _ _ h.ob, h.low.mono m, h.high.mono m, m _ _ h.times, paired_mono h.each fun _ _ h => m _ _ h⟩
theorem RecAt.mono {A : Ads} {G G' : Hp} {a : Addr} {s : Kh219.Sum} (m : Same G G') (h : RecAt A G a s) : RecAt A G' a s := by
  obtain ⟨dx, la, ha, ta, ts, h⟩ := h
  exact ⟨dx, la, ha, ta, ts, h.mono m⟩
structure TxtT (K : PySem.W.Frag) (mg : Str → Option Value) (A : Ads) : Prop where
  cl : Cls K A.S
  nb : NoAttr K A.S "by"
  nl : NoAttr K A.S "low"
  nh : NoAttr K A.S "high"
  nt : NoAttr K A.S "times"
  MOST_PAIRS : GInt mg "MOST_PAIRS" 24
  MOST_TIMES : GInt mg "MOST_TIMES" 1000000
  MOST_BY : GInt mg "MOST_BY" 1000000
/-! ### sums: the promises -/
def spRecInit (A : Ads) : Sp := fun vs H Q _ => ∃ (p dx : Addr) (b l h t : V), vs = [.ref p, b, l, h, t] ∧ H p = some (.ins A.S dx []) ∧ ∀ H', Set1 H p (.ins A.S dx (recF b l h t)) H' → Q .non H'
structure SumRows (b : Int) (low high t : List Int) : Prop where
  b0 : 0 ≤ b
  ll : low.length = 12
  ln : ∀ z ∈ low, 0 ≤ z
  hl : high.length = 12
  hn : ∀ z ∈ high, 0 ≤ z
  t2 : t.length % 2 = 0
  tl : t.length ≤ 30000
  tn : ∀ z ∈ t, 0 ≤ z
def gone (Z : Addr) (H : Hp) (r : Addr) : Hp := fun b => if b = r then none else if b = Z then none else H b
def spReadRec (A : Ads) : Sp := fun vs H Q _ => ∃ (b : Int) (a r Z : Addr) (o oz : HO) (low high t : List Int), vs = [.int b, .ref a] ∧ H r = some o ∧ H Z = some oz ∧ RowsAt (gone Z H r) a [low, high, t] ∧ SumRows b low high t ∧ ∀ H' x, Same H H' → RecAt A (gone Z H' r) x (sumOf b low high t) → Q (.ref x) H'
def spRow : Sp := fun vs H Q _ => ∃ (a : Addr) (r : List Nat) (n : Nat), vs = [.ref a, .int n] ∧ IntsAt H a (casts r) ∧ r.length = 12 ∧ ∀ H', Same H H' → Q (.bl (rowOk n r)) H'
def spTimes : Sp := fun vs H Q _ => ∃ (a : Addr) (ts : List Addr) (tm : List (Nat × Nat)) (m : Nat), vs = [.ref a, .int m] ∧ H a = some (.lst (ts.map V.ref)) ∧ Paired (PairAt H) ts tm ∧ ∀ H', Same H H' → Q (.bl (timesOk m tm)) H'
def spRecOk (A : Ads) : Sp := fun vs H Q _ => ∃ (a : Addr) (s : Kh219.Sum) (n m : Nat), vs = [.ref a, .int n, .int m] ∧ RecAt A H a s ∧ s.low.length = 12 ∧ s.high.length = 12 ∧ ∀ H', Same H H' → Q (.bl (recOk s n m)) H'
def spAdded (A : Ads) : Sp := fun vs H Q _ => ∃ (a p b : Addr) (s : Kh219.Sum) (q : Kh219.Plan) (br : List Kh219.Le), vs = [.ref a, .ref p, .ref b] ∧ RecAt A H a s ∧ PlanAt A H p q ∧ WfPlan q ∧ SomeAt A H b br ∧ (∀ l ∈ br, l.c.length = 12) ∧ s.low.length = 12 ∧ s.high.length = 12 ∧ recOk s q.unknowns br.length = true ∧ ∀ H' x, Same H H' → BoundAt A (newp H H') x (s.all q br) → Q (.ref x) H'
def spDivides (A : Ads) : Sp := fun vs H Q _ => ∃ (g : Nat) (b : Addr) (l : Kh219.Le), vs = [.int g, .ref b] ∧ 1 ≤ g ∧ BoundAt A H b l ∧ l.c.length = 12 ∧ ∀ H', Same H H' → Q (.bl (divOk g l.c)) H'
def spDivided (A : Ads) : Sp := fun vs H Q _ => ∃ (g : Nat) (b : Addr) (l : Kh219.Le), vs = [.ref b, .int g] ∧ 1 ≤ g ∧ g ≤ 1000000 ∧ BoundAt A H b l ∧ l.c.length = 12 ∧ ∀ H' x, Same H H' → BoundAt A (newp H H') x (l.divided g) → Q (.ref x) H'
theorem gone_of {Z : Addr} {H : Hp} {r b : Addr} (h : b ≠ r) (hz : b ≠ Z) : gone Z H r b = H b := by
  unfold gone
  rw [if_neg h, if_neg hz]
theorem gone_ne {Z : Addr} {H : Hp} {r b : Addr} {o : HO} (h : gone Z H r b = some o) : b ≠ r ∧ b ≠ Z := by
  unfold gone at h
  by_cases h1 : b = r
  · rw [if_pos h1] at h
    cases h
  · rw [if_neg h1] at h
    by_cases h2 : b = Z
    · rw [if_pos h2] at h
      cases h
    · exact ⟨h1, h2⟩
theorem gone_le {Z : Addr} {H : Hp} {r : Addr} : Same (gone Z H r) H := fun b o h => by
  rw [gone_of (gone_ne h).1 (gone_ne h).2] at h
  exact h
theorem gone_mono {Z : Addr} {H H' : Hp} {r : Addr} (s : Same H H') : Same (gone Z H r) (gone Z H' r) := fun b o h => by
  have hn := gone_ne h
  rw [gone_of hn.1 hn.2] at h ⊢
  exact s b o h
theorem gone_new {Z : Addr} {H H' : Hp} {r : Addr} {o oz : HO} (h : H r = some o) (hz : H Z = some oz) : Same (newp H H') (gone Z H' r) := fun b u e => by
  obtain ⟨h1, h2⟩ := newp_some e
  rw [gone_of (fun q => by rw [q, h] at h1; cases h1) (fun q => by rw [q, hz] at h1; cases h1)]
  exact h2
def RPair : Hp → V → Nat × Nat → Prop := fun G v y => ∃ t, v = .ref t ∧ PairAt G t y
theorem RPair.mono : ∀ G G' v y, Same G G' → RPair G v y → RPair G' v y := fun _ _ _ _ s ⟨t, e, h⟩ => ⟨t, e, s _ _ h⟩
section
variable {P : Program} {w : World} {K : PySem.W.Frag} {mg : Str → Option Value} {base : Heap} {A : Ads}
theorem sc_Recipe_init : FnScope ["self", "by", "low", "high", "times"] ["self", "by", "low", "high", "times"] (defScope s_Recipe_init) := ⟨rfl, rfl, rfl, by decide +kernel, rfl, by decide +kernel, by decide +kernel⟩
theorem ok_Recipe_init (F : GM K A.S "__init__" "Recipe.__init__" s_Recipe_init ["self", "by", "low", "high", "times"]) (mk : PySem.W.makesIn K A.S = true) (kp : PySem.W.keepIn K (.ref A.S) = true) (my : mg "Recipe" = some (.ref A.S)) (T : TxtT K mg A) :
    PrC P w K mg base 1 "Recipe" A.S ["self", "by", "low", "high", "times"] (spRecInit A) := by
  refine F.prC mk kp my sc_Recipe_init (fun vs H Q E h => ?_) (fun f cdv Ar outer s H vs Q E hr h => ?_)
  · obtain ⟨p, dx, n, w, l, b, rfl, _⟩ := h
    rfl
  · obtain ⟨p, dx, n, wh, l, b, rfl, hp, k⟩ := h
    refine ⟨_, pss_cons (ps_fld (pv 0) (pv 1) rfl) (pss_cons (ps_fld (pv 0) (pv 2) rfl) (pss_cons (ps_fld (pv 0) (pv 3) rfl) (pss_one (ps_fld (pv 0) (pv 4) rfl)))), ?_⟩
    have l1 := length_putF "by" n []
    have l2 := length_putF "low" wh (putF "by" n [])
    have l3 := length_putF "high" l (putF "low" wh (putF "by" n []))
    simp only [List.length_nil] at l1
    refine ⟨_, rfl, _, rfl, p, A.S, dx, [], rfl, hp, T.cl, T.nb, (by show 0 < 1000; decide), _, rfl, _, rfl, p, A.S, dx, _, rfl, upd_same, T.cl, T.nl, by omega, _, rfl, _, rfl, p, A.S, dx, _, rfl, upd_same, T.cl, T.nh, by omega,
      _, rfl, _, rfl, p, A.S, dx, _, rfl, upd_same, T.cl, T.nt, by omega, ?_⟩
    exact k _ (Set1.over (Set1.over (Set1.over Set1.upd)))
theorem sc_read_recipe : FnScope ["by", "lists", "flat", "times", "at"] ["by", "lists"] (defScope s_read_recipe) := ⟨rfl, rfl, rfl, by decide +kernel, rfl, by decide +kernel, by decide +kernel⟩
theorem ok_read_recipe (F : GF K mg "read_recipe" s_read_recipe ["by", "lists"]) (PC : PrC P w K mg base 1 "Recipe" A.S ["self", "by", "low", "high", "times"] (spRecInit A)) (G : TxtG mg) :
    Pr P w K mg base 3 "read_recipe" ["by", "lists"] (spReadRec A) := by
  refine F.pr sc_read_recipe (fun vs H Q E h => ?_) (fun f cdv Ar outer s H vs Q E hr h => ?_)
  · obtain ⟨b, a, r, Z, o, oz, low, high, t, rfl, _⟩ := h
    rfl
  · obtain ⟨b, a, r, Z, o, oz, low, high, t, rfl, hro, hzo, ⟨as, ha, hp⟩, R, k⟩ := h
    have nd := sc_read_recipe.nd
    cases hp with
    | @cons a0 _ as0 _ h0 hp =>
      cases hp with
      | @cons a1 _ as1 _ h1 hp =>
        cases hp with
        | @cons a2 _ as2 _ h2 hp =>
          cases hp
          have ha' := gone_le _ _ ha
          have h2' : IntsAt H a2 t := gone_le _ _ h2
          have tl := R.tl
          have t2 := R.t2
          refine ⟨_, pss_cons (ps_set (i := 2) nd rfl (Or.inr rfl) (pe_ix ix_list (pv 1) pe_int (fun _ _ => rfl)))
            (pss_cons (ps_setLc (i := 3) rfl nd rfl rfl (by rfl) (pi_range3 rfl G.range (pa_cons pe_int (pa_cons (pe_callB call_len_seq rfl G.len boot_len (pa_cons (pv 2) pa_nil)) (pa_cons pe_int pa_nil))))
              (blkOk_by (own := [("at", 4)]) (by kernel_rfl)) (fun _ _ _ _ _ => pg_name (i := 4) nd rfl (Or.inl rfl)) (fun _ _ _ _ _ => pts_nil)
              (fun _ _ _ _ _ => pe_tup (pa_cons (pe_ix (r := rIxL K) ix_list (pv 2) (pv 4) (fun _ _ => rfl)) (pa_cons (pe_ix (r := rIxL K) ix_list (pv 2) (pe_op op_add (pv 4) pe_int) (fun _ _ => rfl)) pa_nil))))
            (pss_one (ps_ret (pe_pc PC hr rfl (pa_cons (pv 0) (pa_cons (pe_ix ix_list (pv 1) pe_int (fun _ _ => rfl)) (pa_cons (pe_ix ix_list (pv 1) pe_int (fun _ _ => rfl)) (pa_cons (pv 3) pa_nil)))))))), ?_⟩
          refine ⟨_, rfl, a, _, _, _, rfl, rfl, SqL.of ha', atI_nat (j := 2) rfl, _, rfl, a2, _, rfl, .inl (SqL.of h2'), 0, _, 2, t.length / 2, rfl, ?_, fun D hD => ?_⟩
          · have e : t.length = 2 * (t.length / 2) := by omega
            rw [List.length_map]
            have := RgC.by2 (n := t.length / 2) (by omega)
            rw [← e] at this
            exact this
          · refine lc_mapC (R := RPair) RPair.mono (ys := pairsOf t) hD (by rw [pairs_len]; omega) (pairs_len t).symm (fun j y H1 hy s1 Qv hq => ?_) (fun H1 acc s1 e p => ?_)
            · obtain ⟨hj, e0, e1⟩ := pairs_at hy R.tn
              have h21 : IntsAt H1 a2 t := h2'.mono s1
              have ea : (0 : Int) + ((j : Nat) : Int) * 2 = ((2 * j : Nat) : Int) := by omega
              have g0 : atI (t.map V.int) ((0 : Int) + ((j : Nat) : Int) * 2) = some (.int (y.1 : Int)) := by
                rw [ea]
                exact atI_nat (by rw [List.getElem?_map, e0]; rfl)
              have g1 : atI (t.map V.int) ((0 : Int) + ((j : Nat) : Int) * 2 + 1) = some (.int (y.2 : Int)) := by
                rw [ea, show ((2 * j : Nat) : Int) + 1 = ((2 * j + 1 : Nat) : Int) by omega]
                exact atI_nat (by rw [List.getElem?_map, e1]; rfl)
              refine ⟨_, rfl, _, rfl, a2, _, _, _, rfl, rfl, SqL.of h21, g0, _, rfl, _, rfl, _, _, rfl, rfl, a2, _, _, _, rfl, rfl, SqL.of h21, g1, (by show 2 ≤ sizeLine; decide), fun x hx => ?_⟩
              exact hq _ _ (same_upd_new hx) ⟨x, rfl, newp_of hx upd_same⟩
            · obtain ⟨ts, ets, pts⟩ := paired_refs (S := fun a y => PairAt (newp (upd H D (.lst [])) H1) a y) (fun v y h => h) p
              refine ⟨_, rfl, _, rfl, a, _, _, _, rfl, rfl, SqL.of (s1 _ _ ha'), atI_nat (j := 0) rfl, _, rfl, a, _, _, _, rfl, rfl, SqL.of (s1 _ _ ha'), atI_nat (j := 1) rfl, _, rfl, fun x dx nx ndx ne => ⟨x, dx, _, _, _, _, rfl, upd_same, fun H' hs => ⟨rfl, ?_⟩⟩⟩
              obtain ⟨s2, n2⟩ := Set1.made nx ndx hs
              have s12 := s1.trans s2
              have eb : ((Kh219Neutral.nat b : Nat) : Int) = b := Int.toNat_of_nonneg R.b0
              refine k H' x s12 ⟨dx, a0, a1, D, ts, ?_, ?_, ?_, ?_, ?_⟩
              · show gone Z H' r x = some (.ins A.S dx (recF (.int ((Kh219Neutral.nat b : Nat) : Int)) (.ref a0) (.ref a1) (.ref D)))
                rw [eb]
                exact gone_new hro hzo _ _ (newp_old s1 _ _ n2)
              · show IntsAt _ a0 (casts (low.map Kh219Neutral.nat))
                rw [casts_nat R.ln]
                exact h0.mono (gone_mono s12)
              · show IntsAt _ a1 (casts (high.map Kh219Neutral.nat))
                rw [casts_nat R.hn]
                exact h1.mono (gone_mono s12)
              · rw [ets] at e
                exact gone_new hro hzo _ _ (newp_of hD (s2 _ _ e))
              · exact paired_mono pts fun a y h => gone_new hro hzo _ _ (newp_trans s2 _ _ (newp_old (same_upd_new hD) _ _ h))
theorem sc_row_as_told : FnScope ["row", "unknowns", "k", "count", "most"] ["row", "unknowns"] (defScope s_row_as_told) := ⟨rfl, rfl, rfl, by decide +kernel, rfl, by decide +kernel, by decide +kernel⟩
theorem ok_row_as_told (F : GF K mg "row_as_told" s_row_as_told ["row", "unknowns"]) (T : TxtT K mg A) (G : TxtG mg) :
    Pr P w K mg base 1 "row_as_told" ["row", "unknowns"] spRow := by
  refine F.pr sc_row_as_told (fun vs H Q E h => ?_) (fun f cdv Ar outer s H vs Q E hr h => ?_)
  · obtain ⟨a, r, n, rfl, _⟩ := h
    rfl
  · obtain ⟨a, r, n, rfl, ha, hlen, k⟩ := h
    have nd := sc_row_as_told.nd
    have hcl : ((casts r).map V.int).length = 12 := by rw [List.length_map, casts_len, hlen]
    refine ⟨_, pss_cons (ps_for PassesOwn.never rfl (pi_enum rfl G.enumerate (pa_cons (pv 0) pa_nil)) (pg_tup rfl (pgs_cons (pg_name (i := 2) nd rfl (Or.inl rfl)) (pgs_cons (pg_name (i := 3) nd rfl (Or.inl rfl)) pgs_nil)))
        (pss_cons (ps_set (i := 4) nd rfl (Or.inl rfl) (pe_ifExp (pt_cmpR op_lt (pv 2) (pv 1) (nomark _)) (pe_gi T.MOST_TIMES rfl) pe_int))
        (pss_one (ps_if (pt_cmpR op_gt (pv 3) (pv 4) (nomark _)) (pss_one (ps_ret pe_bl)) pss_nil))))
      (pss_one (ps_ret pe_bl)), ?_⟩
    refine ⟨_, rfl, a, _, rfl, SqL.of ha, for_it (n := 12) (fun i σ H1 => ∃ v2 v3 v4 : Option V, σ = [some (.ref a), some (.int n), v2, v3, v4] ∧ Same H H1 ∧ ∀ k, k < i → r.getD k 0 ≤ 1000000 ∧ (n ≤ k → r.getD k 0 = 0))
      ⟨none, none, none, rfl, Same.refl _, fun k hk => by omega⟩ (fun i σ H1 hi ⟨_, _, _, _, s1, _⟩ => ?_) (fun σ H1 ⟨_, _, _, _, s1, _⟩ => ?_) (fun i x σ H1 H2 hi ⟨v2, v3, v4, es, s1, hk⟩ hy => ?_) (fun σ H1 ⟨v2, v3, v4, es, s1, hk⟩ => ?_)⟩
    · exact ⟨_, _, s1.seq (SqL.of ha), List.getElem?_eq_getElem (by omega)⟩
    · exact ⟨_, s1.seq (SqL.of ha), by omega⟩
    · subst es
      obtain ⟨t, z, rfl, ht, rfl, hz⟩ := hy
      obtain ⟨c, hcz, rfl⟩ := map_at (hz _ (s1.seq (SqL.of ha)))
      have s2 : Same H (upd H1 t (.tup [.int (i : Nat), .int c])) := s1.trans (same_upd_new ht)
      rw [casts_at (by omega)] at hcz
      have eat : ((r.getD i 0 : Nat) : Int) = c := Option.some.inj hcz
      refine ⟨t, _, rfl, SqT.of upd_same, rfl, _, _, rfl, _, _, rfl, rfl, ?_⟩
      refine ⟨_, rfl, _, rfl, _, _, rfl, rfl, _, rfl, ite2 (fun hlt => ?_) (fun hlt => ?_)⟩
      · have hlt := of_decide_eq_true hlt
        refine ⟨_, rfl, _, rfl, _, _, rfl, rfl, _, rfl, ite2 (fun hg => ?_) (fun hg => ?_)⟩
        · have hg := of_decide_eq_true hg
          exact q_bl (k _ s2) (rowOk_no (k := i) hi (fun ⟨q1, _⟩ => by omega))
        · have hg := of_decide_eq_false (Bool.eq_false_iff.mpr hg)
          refine ⟨_, _, _, rfl, s2, fun k' hk' => ?_⟩
          by_cases hki : k' = i
          · subst hki
            exact ⟨by omega, fun h => by omega⟩
          · exact hk k' (by omega)
      · have hlt := of_decide_eq_false (Bool.eq_false_iff.mpr hlt)
        refine ⟨_, rfl, _, rfl, _, _, rfl, rfl, _, rfl, ite2 (fun hg => ?_) (fun hg => ?_)⟩
        · have hg := of_decide_eq_true hg
          exact q_bl (k _ s2) (rowOk_no (k := i) hi (fun ⟨_, q2⟩ => by have := q2 (by omega); omega))
        · have hg := of_decide_eq_false (Bool.eq_false_iff.mpr hg)
          refine ⟨_, _, _, rfl, s2, fun k' hk' => ?_⟩
          by_cases hki : k' = i
          · subst hki
            exact ⟨by omega, fun h => by omega⟩
          · exact hk k' (by omega)
    · subst es
      exact q_bl (k _ s1) (rowOk_yes hk)
theorem sc_times_as_told : FnScope ["times", "size", "which", "count"] ["times", "size"] (defScope s_times_as_told) := ⟨rfl, rfl, rfl, by decide +kernel, rfl, by decide +kernel, by decide +kernel⟩
theorem ok_times_as_told (F : GF K mg "times_as_told" s_times_as_told ["times", "size"]) (T : TxtT K mg A) (G : TxtG mg) :
    Pr P w K mg base 1 "times_as_told" ["times", "size"] spTimes := by
  refine F.pr sc_times_as_told (fun vs H Q E h => ?_) (fun f cdv Ar outer s H vs Q E hr h => ?_)
  · obtain ⟨a, ts, tm, m, rfl, _⟩ := h
    rfl
  · obtain ⟨a, ts, tm, m, rfl, ha, hp, k⟩ := h
    have nd := sc_times_as_told.nd
    have hl := paired_len hp
    refine ⟨_, pss_cons (ps_if (pt_cmpR op_gt (pe_callB call_len_seq rfl G.len boot_len (pa_cons (pv 0) pa_nil)) (pe_gi T.MOST_PAIRS rfl) (nomark _)) (pss_one (ps_ret pe_bl)) pss_nil)
      (pss_one (ps_ret (pe_callB (cr_all rfl) rfl G.all boot_all (pa_cons (pe_lc rfl nd (pi_list (pv 0)) (blkOk_by (own := [("which", 2), ("count", 3)]) (by kernel_rfl))
        (fun _ _ _ _ _ => (pg_tup rfl (pgs_cons (pg_name (i := 2) nd rfl (Or.inl rfl)) (pgs_cons (pg_name (i := 3) nd rfl (Or.inl rfl)) pgs_nil)) : PG _ _ (gTup K 2 (gCons (gName 2) (gCons (gName 3) gNil))))) (fun _ _ _ _ _ => pts_nil)
        (fun _ _ _ _ _ => pe_and (pe_cmpR op_lt (pv 2) (pv 1) (nomark _)) (pe_one (pe_cmpR op_le (pv 3) (pe_gi T.MOST_TIMES rfl) (nomark _))))) pa_nil)))), ?_⟩
    refine ⟨_, rfl, a, _, rfl, .inl (SqL.of ha), _, _, rfl, rfl, _, rfl, ?_⟩
    rw [List.length_map, hl]
    refine ite2 (fun h1 => ?_) (fun h1 => ?_)
    · have h1 := of_decide_eq_true h1
      refine q_bl (k H (Same.refl _)) ?_
      unfold timesOk
      rw [decide_eq_false (by omega), Bool.false_and]
    · have h1 := of_decide_eq_false (Bool.eq_false_iff.mpr h1)
      refine ⟨_, rfl, a, rfl, ⟨_, SqL.of ha⟩, fun D hD => ?_⟩
      refine lc_list (K := K) (a := a) (xs := ts.map V.ref) (fun i H1 => Same H H1 ∧ H1 D = some (.lst (((tm.map fun t => decide (t.1 < m) && decide (t.2 ≤ 1000000)).take i).map V.bl))) ⟨same_upd_new hD, upd_same⟩
        (fun i H1 _ ⟨s1, _⟩ => s1.seq (SqL.of ha)) (fun i x H1 hi ⟨s1, e1⟩ => ?_) (fun H1 ⟨s1, e1⟩ => ?_)
      · obtain ⟨c, hc, rfl⟩ := map_at hi
        obtain ⟨t, ht, hcc⟩ := paired_at hp hc
        have hlt := (List.getElem?_eq_some_iff.mp ht).1
        have em : (tm.map fun t => decide (t.1 < m) && decide (t.2 ≤ 1000000))[i]? = some (decide (t.1 < m) && decide (t.2 ≤ 1000000)) := by rw [List.getElem?_map, ht]; rfl
        have fin : ∀ v : Bool, v = (decide (t.1 < m) && decide (t.2 ≤ 1000000)) → ∃ acc, H1 D = some (.lst acc) ∧ acc.length < sizeLine ∧ Same H (upd H1 D (.lst (acc ++ [.bl v]))) ∧ upd H1 D (.lst (acc ++ [.bl v])) D = some (.lst (((tm.map fun t => decide (t.1 < m) && decide (t.2 ≤ 1000000)).take (i + 1)).map V.bl)) := fun v hv => by
          refine ⟨_, e1, ?_, same_upd_of s1 hD, ?_⟩
          · rw [List.length_map, List.length_take, List.length_map]
            exact small_lt (by omega)
          · rw [upd_same, take_snoc em, List.map_append, hv]
            rfl
        refine ⟨c, _, rfl, SqT.of (s1 _ _ hcc), rfl, _, _, rfl, _, _, rfl, rfl, rfl, ?_⟩
        refine ⟨_, rfl, _, rfl, _, _, rfl, rfl, _, rfl, ite2 (fun h2 => ?_) (fun h2 => ?_)⟩
        · have h2 := of_decide_eq_true h2
          refine ⟨_, rfl, _, _, rfl, rfl, fin _ ?_⟩
          rw [decide_eq_true (by omega : t.1 < m), Bool.true_and, Bool.eq_iff_iff, decide_eq_true_eq, decide_eq_true_eq]
          omega
        · have h2 := of_decide_eq_false (Bool.eq_false_iff.mpr h2)
          refine fin _ ?_
          rw [decide_eq_false (by omega : ¬ t.1 < m), Bool.false_and]
      · rw [List.length_map, hl, List.take_of_length_le (by rw [List.length_map]; exact Nat.le_refl _)] at e1
        refine ⟨D, _, rfl, SqL.of e1, q_bl (k H1 s1) ?_⟩
        unfold timesOk
        rw [decide_eq_true (by omega), Bool.true_and, all_map_id]
end
end Wn
end
section
set_option maxRecDepth 100000
set_option maxHeartbeats 4000000
namespace Wn
open PySem PySem.Spec PyProof.Rows L2
def sumRes (s : Kh219.Sum) (q : Kh219.Plan) (br : List Kh219.Le) : Option Kh219.Le := if Kh219.okSum s q br = true then some ((s.all q br).divided s.by_) else none
def spSumBound (A : Ads) : Sp := fun vs H Q _ => ∃ (a p b : Addr) (s : Kh219.Sum) (q : Kh219.Plan) (br : List Kh219.Le), vs = [.ref a, .ref p, .ref b] ∧ RecAt A H a s ∧ PlanAt A H p q ∧ WfPlan q ∧ SomeAt A H b br ∧ (∀ l ∈ br, l.c.length = 12) ∧ s.low.length = 12 ∧ s.high.length = 12 ∧
  Opt (fun H H' D l => BoundAt A (newp H H') D l) H (sumRes s q br) Q
section
variable {P : Program} {w : World} {K : PySem.W.Frag} {mg : Str → Option Value} {base : Heap} {A : Ads}
theorem sc_recipe_as_told : FnScope ["recipe", "unknowns", "size"] ["recipe", "unknowns", "size"] (defScope s_recipe_as_told) := ⟨rfl, rfl, rfl, by decide +kernel, rfl, by decide +kernel, by decide +kernel⟩
theorem ok_recipe_as_told (F : GF K mg "recipe_as_told" s_recipe_as_told ["recipe", "unknowns", "size"]) (PR : Pr P w K mg base 1 "row_as_told" ["row", "unknowns"] spRow) (PT' : Pr P w K mg base 1 "times_as_told" ["times", "size"] spTimes) (T : TxtT K mg A) :
    Pr P w K mg base 2 "recipe_as_told" ["recipe", "unknowns", "size"] (spRecOk A) := by
  refine F.pr sc_recipe_as_told (fun vs H Q E h => ?_) (fun f cdv Ar outer s H vs Q E hr h => ?_)
  · obtain ⟨a, z, n, m, rfl, _⟩ := h
    rfl
  · obtain ⟨a, z, n, m, rfl, ⟨dx, la, ha, ta, ts, I⟩, hl, hh, k⟩ := h
    refine ⟨_, pss_cons (ps_if (pt_not (pt_chain op_le op_le pe_int (pe_fld (pv 0) rfl) (pe_gi T.MOST_BY rfl))) (pss_one (ps_ret pe_bl)) pss_nil)
      (pss_cons (ps_if (pt_not (pt_val (pe_p PT' hr rfl (pa_cons (pe_fld (pv 0) rfl) (pa_cons (pv 2) pa_nil))))) (pss_one (ps_ret pe_bl)) pss_nil)
      (pss_one (ps_ret (pe_and (pe_p PR hr rfl (pa_cons (pe_fld (pv 0) rfl) (pa_cons (pv 1) pa_nil))) (pe_one (pe_p PR hr rfl (pa_cons (pe_fld (pv 0) rfl) (pa_cons (pv 1) pa_nil)))))))), ?_⟩
    unfold recOk at k
    refine ⟨_, rfl, a, A.S, dx, _, _, rfl, I.ob, T.cl, T.nb, rec_by _ _ _ _, _, _, rfl, rfl, _, rfl, ?_⟩
    have no : ¬ (1 ≤ z.by_ ∧ z.by_ ≤ 1000000) → Q (.bl false) H := fun h => q_bl (k H (Same.refl _)) (by rw [decide_eq_false h, Bool.false_and])
    refine ite2 (fun h1 => ?_) (fun h1 => ?_)
    · have h1 := of_decide_eq_true h1
      refine ⟨_, _, rfl, rfl, _, rfl, ?_⟩
      by_cases h2 : (z.by_ : Int) ≤ 1000000
      · rw [decide_eq_true h2]
        refine iteF ⟨_, rfl, a, A.S, dx, _, _, rfl, I.ob, T.cl, T.nt, rec_times _ _ _ _, _, rfl, ta, ts, z.times, m, rfl, I.times, I.each, fun H1 s1 => ⟨_, rfl, ?_⟩⟩
        rw [decide_eq_true (by omega : 1 ≤ z.by_ ∧ z.by_ ≤ 1000000), Bool.true_and] at k
        cases e1 : timesOk m z.times with
        | false => exact iteT (q_bl (k H1 s1) (by rw [e1, Bool.false_and]))
        | true =>
          refine iteF ⟨_, rfl, a, A.S, dx, _, _, rfl, s1 _ _ I.ob, T.cl, T.nl, rec_low _ _ _ _, _, rfl, la, z.low, n, rfl, I.low.mono s1, hl, fun H2 s2 => ⟨_, rfl, ?_⟩⟩
          rw [e1, Bool.true_and] at k
          have s12 := s1.trans s2
          cases e2 : rowOk n z.low with
          | false => exact iteF (q_bl (k H2 s12) (by rw [e2, Bool.false_and]))
          | true =>
            rw [e2, Bool.true_and] at k
            exact iteT ⟨_, rfl, a, A.S, dx, _, _, rfl, s12 _ _ I.ob, T.cl, T.nh, rec_high _ _ _ _, _, rfl, ha, z.high, n, rfl, I.high.mono s12, hh, fun H3 s3 => k H3 (s12.trans s3)⟩
      · rw [decide_eq_false h2]
        exact iteT (no (by omega))
    · have h1 := of_decide_eq_false (Bool.eq_false_iff.mpr h1)
      exact ⟨_, rfl, iteT (no (by omega))⟩
theorem sc_divides : FnScope ["by", "bound", "factor"] ["by", "bound"] (defScope s_divides) := ⟨rfl, rfl, rfl, by decide +kernel, rfl, by decide +kernel, by decide +kernel⟩
theorem ok_divides (F : GF K mg "divides" s_divides ["by", "bound"]) (T : TxtB K mg A) (G : TxtG mg) : Pr P w K mg base 1 "divides" ["by", "bound"] (spDivides A) := by
  refine F.pr sc_divides (fun vs H Q E h => ?_) (fun f cdv Ar outer s H vs Q E hr h => ?_)
  · obtain ⟨g, b, l, rfl, _⟩ := h
    rfl
  · obtain ⟨g, b, l, rfl, hg, ⟨dx, ca, hb, hc⟩, hlen, k⟩ := h
    have nd := sc_divides.nd
    refine ⟨_, pss_one (ps_ret (pe_callB (cr_all rfl) rfl G.all boot_all (pa_cons (pe_lc rfl nd (pi_list (pe_fld (pv 1) rfl)) (blkOk_by (own := [("factor", 2)]) (by kernel_rfl))
      (fun _ _ _ _ _ => pg_name (i := 2) nd rfl (Or.inl rfl)) (fun _ _ _ _ _ => pts_nil) (fun _ _ _ _ _ => pe_cmpR op_eq (pe_op op_mod (pv 2) (pv 0)) pe_int (nomark _))) pa_nil))), ?_⟩
    refine ⟨_, rfl, b, A.B, dx, _, _, rfl, hb, T.cl, T.nc, bnd_c _ _, ca, rfl, ⟨_, SqL.of hc⟩, fun D hD => ?_⟩
    refine lc_mapL (R := fun _ v (y : Bool) => v = .bl y) (fun _ _ _ _ _ h => h) (K := K) (a := ca) (xs := l.c.map V.int) (ys := l.c.map fun z => z % (g : Int) == 0) hD (by rw [List.length_map]; omega) (by rw [List.length_map, List.length_map]) (SqL.of hc)
      (fun n x y H1 hx hy s1 Qv hq => ?_) (fun H1 acc s1 e p => ?_)
    · obtain ⟨z, hz, rfl⟩ := map_at hx
      rw [List.getElem?_map, hz] at hy
      have ey : (z % (g : Int) == 0) = y := Option.some.inj hy
      refine ⟨_, rfl, _, rfl, _, _, rfl, rfl, (by show (0 : Int) < (g : Int); omega), rfl, hq _ _ (Same.refl _) ?_⟩
      rw [dec_v, ← ey]
      congr 1
    · have ea := paired_map (f := V.bl) p
      rw [ea] at e
      refine ⟨D, _, rfl, SqL.of e, q_bl (k H1 s1) ?_⟩
      unfold divOk
      rw [all_map_id]
theorem sc_divided : FnScope ["bound", "by", "factor"] ["bound", "by"] (defScope s_divided) := ⟨rfl, rfl, rfl, by decide +kernel, rfl, by decide +kernel, by decide +kernel⟩
theorem ok_divided (F : GF K mg "divided" s_divided ["bound", "by"]) (PB : PrC P w K mg base 1 "Bound" A.B ["self", "c", "d"] (spBoundInit A)) (T : TxtB K mg A) : Pr P w K mg base 3 "divided" ["bound", "by"] (spDivided A) := by
  refine F.pr sc_divided (fun vs H Q E h => ?_) (fun f cdv Ar outer s H vs Q E hr h => ?_)
  · obtain ⟨g, b, l, rfl, _⟩ := h
    rfl
  · obtain ⟨g, b, l, rfl, hg, hg2, ⟨dx, ca, hb, hc⟩, hlen, k⟩ := h
    have nd := sc_divided.nd
    have hdiv : CDiv 0 (g : Int) := ⟨by omega, by omega⟩
    refine ⟨_, pss_one (ps_ret (pe_pc PB hr rfl (pa_cons (pe_lc rfl nd (pi_list (pe_fld (pv 0) rfl)) (blkOk_by (own := [("factor", 2)]) (by kernel_rfl)) (fun _ _ _ _ _ => pg_name (i := 2) nd rfl (Or.inl rfl)) (fun _ _ _ _ _ => pts_nil)
        (fun _ _ _ _ _ => pe_op op_fdiv (pv 2) (pv 1)))
      (pa_cons (pe_op op_fdiv (pe_fld (pv 0) rfl) (pv 1)) pa_nil)))), ?_⟩
    refine ⟨_, rfl, b, A.B, dx, _, _, rfl, hb, T.cl, T.nc, bnd_c _ _, ca, rfl, ⟨_, SqL.of hc⟩, fun D hD => ?_⟩
    refine lc_mapL (R := fun _ v (y : Int) => v = .int y) (fun _ _ _ _ _ h => h) (K := K) (a := ca) (xs := l.c.map V.int) (ys := l.c.map fun z => z / (g : Int)) hD (by rw [List.length_map]; omega) (by rw [List.length_map, List.length_map]) (SqL.of hc)
      (fun n x y H1 hx hy s1 Qv hq => ?_) (fun H1 acc s1 e p => ?_)
    · obtain ⟨z, hz, rfl⟩ := map_at hx
      rw [List.getElem?_map, hz] at hy
      have ey : z / (g : Int) = y := Option.some.inj hy
      exact ⟨_, rfl, _, rfl, _, _, rfl, rfl, hdiv, hq _ _ (Same.refl _) (by show V.int (z / (g : Int)) = V.int y; rw [ey])⟩
    · have ea := paired_map (f := V.int) p
      rw [ea] at e
      refine ⟨_, rfl, b, A.B, dx, _, _, rfl, s1 _ _ hb, T.cl, T.nd, bnd_d _ _, _, rfl, _, _, rfl, rfl, hdiv, fun x dx2 nx ndx ne => ⟨x, dx2, _, _, rfl, upd_same, fun H' hs => ⟨rfl, ?_⟩⟩⟩
      obtain ⟨s2, n2⟩ := Set1.made nx ndx hs
      exact k H' x (s1.trans s2) ⟨dx2, D, newp_old s1 _ _ n2, newp_of hD (s2 _ _ e)⟩
theorem cast_at {l : List Nat} {k : Nat} (h : l.length = 12) (hk : k < 12) : ((casts l).map V.int)[k]? = some (.int ((l.getD k 0 : Nat) : Int)) := by
  rw [List.getElem?_map, casts_at (by omega)]
  rfl
theorem ints_at {l : List Int} {k : Nat} (h : l.length = 12) (hk : k < 12) : (l.map V.int)[k]? = some (.int (l.getD k 0)) := by
  rw [List.getElem?_map, List.getD_eq_getElem?_getD, List.getElem?_eq_getElem (by omega)]
  rfl
theorem sc_added : FnScope ["recipe", "plan", "branch", "c", "d", "which", "count", "bound", "k", "total", "factor"] ["recipe", "plan", "branch"] (defScope s_added) := ⟨rfl, rfl, rfl, by decide +kernel, rfl, by decide +kernel, by decide +kernel⟩
theorem ok_added (F : GF K mg "added" s_added ["recipe", "plan", "branch"]) (PB : PrC P w K mg base 1 "Bound" A.B ["self", "c", "d"] (spBoundInit A)) (T : TxtT K mg A) (TP : TxtP K mg A) (TB : TxtB K mg A) (G : TxtG mg) :
    Pr P w K mg base 3 "added" ["recipe", "plan", "branch"] (spAdded A) := by
  refine F.pr sc_added (fun vs H Q E h => ?_) (fun f cdv Ar outer s H vs Q E hr h => ?_)
  · obtain ⟨a, p, b, z, q, br, rfl, _⟩ := h
    rfl
  · obtain ⟨a, p, b, z, q, br, rfl, ⟨dx, la, ha, ta, ts, I⟩, ⟨dp, lo, hi, fa, so, as, ss, J⟩, W, ⟨bs, hb, hpb⟩, hbr, hl, hh, hok, k⟩ := h
    have nd := sc_added.nd
    obtain ⟨o1, o2, o3, o4, o5⟩ := recOk_parts hok
    have hlt := paired_len I.each
    have hlb := paired_len hpb
    refine ⟨_, pss_cons (ps_setLc (i := 3) rfl nd rfl rfl (by rfl) (pi_range1 rfl G.range (pa_cons (pe_gi TB.ROW rfl) pa_nil)) (blkOk_by (own := [("k", 8)]) (by kernel_rfl)) (fun _ _ _ _ _ => pg_name (i := 8) nd rfl (Or.inl rfl)) (fun _ _ _ _ _ => pts_nil)
        (fun _ _ _ _ _ => pe_op op_sub (pe_ix (r := rIxL K) ix_list (pe_fldB K rfl (pv 0) rfl) (pv 8) (fun _ _ => rfl)) (pe_ix (r := rIxL K) ix_list (pe_fldB K rfl (pv 0) rfl) (pv 8) (fun _ _ => rfl))))
      (pss_cons (ps_set (i := 4) nd rfl (Or.inl rfl) (pe_callB (cr_sum rfl) rfl G.sum boot_sum (pa_cons (pe_lc rfl nd (pi_range1 rfl G.range (pa_cons (pe_gi TB.ROW rfl) pa_nil)) (blkOk_by (own := [("k", 8)]) (by kernel_rfl)) (fun _ _ _ _ _ => pg_name (i := 8) nd rfl (Or.inl rfl)) (fun _ _ _ _ _ => pts_nil)
        (fun _ _ _ _ _ => pe_op op_sub (pe_op op_mul (pe_ix (r := rIxL K) ix_list (pe_fldB K rfl (pv 0) rfl) (pv 8) (fun _ _ => rfl)) (pe_ix (r := rIxL K) ix_list (pe_fldB K rfl (pv 1) rfl) (pv 8) (fun _ _ => rfl)))
          (pe_op op_mul (pe_ix (r := rIxL K) ix_list (pe_fldB K rfl (pv 0) rfl) (pv 8) (fun _ _ => rfl)) (pe_ix (r := rIxL K) ix_list (pe_fldB K rfl (pv 1) rfl) (pv 8) (fun _ _ => rfl))))) pa_nil)))
      (pss_cons (ps_for PassesOwn.never rfl (pi_list (pe_fld (pv 0) rfl)) (pg_tup rfl (pgs_cons (pg_name (i := 5) nd rfl (Or.inl rfl)) (pgs_cons (pg_name (i := 6) nd rfl (Or.inr rfl)) pgs_nil)))
        (pss_cons (ps_set (i := 7) nd rfl (Or.inl rfl) (pe_ix ix_list (pv 2) (pv 5) (fun _ _ => rfl)))
        (pss_cons (ps_setLc (i := 3) rfl nd rfl rfl (by rfl) (pi_zip rfl G.zip (pa_cons (pv 3) (pa_cons (pe_fld (pv 7) rfl) pa_nil))) (blkOk_by (own := [("total", 9), ("factor", 10)]) (by kernel_rfl))
          (fun _ _ _ _ _ => (pg_tup rfl (pgs_cons (pg_name (i := 9) nd rfl (Or.inl rfl)) (pgs_cons (pg_name (i := 10) nd rfl (Or.inl rfl)) pgs_nil)) : PG _ _ (gTup K 2 (gCons (gName 9) (gCons (gName 10) gNil))))) (fun _ _ _ _ _ => pts_nil)
          (fun _ _ _ _ _ => pe_op op_add (pv 9) (pe_op op_mul (pv 6) (pv 10))))
        (pss_one (ps_aug nd rfl (Or.inl rfl) (i := 4) (pe_op op_mul (pv 6) (pe_fld (pv 7) rfl)) ip_add)))))
      (pss_one (ps_ret (pe_pc PB hr rfl (pa_cons (pv 3) (pa_cons (pv 4) pa_nil))))))), ?_⟩
    have e0 : ∀ j : Nat, (0 : Int) + (j : Int) = (j : Int) := fun j => Int.zero_add _
    refine ⟨12, rfl, by decide, by decide, fun D hD => ?_⟩
    refine lc_mapR (R := fun _ v (y : Int) => v = .int y) (fun _ _ _ _ _ h => h) (ys := cN z br 0) hD (by rw [cN_len]; decide) (by rw [cN_len]; rfl)
      (fun j y H1 hy s1 Qv hqv => ?_) (fun H1 acc s1 e pa => ?_)
    · have hj : j < 12 := by
        have := (List.getElem?_eq_some_iff.mp hy).1
        rw [cN_len] at this
        exact this
      rw [cN_zero, List.getElem?_map, List.getElem?_range hj] at hy
      have ey : (z.high.getD j 0 : Int) - (z.low.getD j 0 : Int) = y := Option.some.inj hy
      have I1 := I.mono s1
      exact ⟨_, rfl, a, A.S, dx, _, _, rfl, I1.ob, T.cl, T.nh, rec_high _ _ _ _, _, rfl, ha, _, _, _, rfl, rfl, SqL.of I1.high, by rw [e0]; exact atI_nat (cast_at hh hj), _, rfl, a, A.S, dx, _, _, rfl, I1.ob, T.cl, T.nl, rec_low _ _ _ _, _, rfl, la, _, _, _, rfl, rfl, SqL.of I1.low, by rw [e0]; exact atI_nat (cast_at hl hj), _, _, rfl, rfl,
        hqv _ _ (Same.refl _) (by show V.int ((z.high.getD j 0 : Int) - (z.low.getD j 0 : Int)) = V.int y; rw [ey])⟩
    · have ea := paired_map (f := V.int) pa
      rw [ea] at e
      have I1 := I.mono s1
      have J1 := J.mono s1
      refine ⟨12, rfl, by decide, by decide, fun D2 hD2 => ?_⟩
      refine lc_mapR (R := fun _ v (y : Int) => v = .int y) (fun _ _ _ _ _ h => h) (ys := (List.range 12).map fun k => (z.high.getD k 0 : Int) * q.hi.getD k 0 - (z.low.getD k 0 : Int) * q.lo.getD k 0) hD2 (by rw [List.length_map, List.length_range]; decide) (by rw [List.length_map, List.length_range]; rfl)
        (fun j y H2 hy s2 Qv hqv => ?_) (fun H2 acc2 s2 e2 pa2 => ?_)
      · have hj : j < 12 := by
          have := (List.getElem?_eq_some_iff.mp hy).1
          rw [List.length_map, List.length_range] at this
          exact this
        rw [List.getElem?_map, List.getElem?_range hj] at hy
        have ey : (z.high.getD j 0 : Int) * q.hi.getD j 0 - (z.low.getD j 0 : Int) * q.lo.getD j 0 = y := Option.some.inj hy
        have I2 := I1.mono s2
        have J2 := J1.mono s2
        have b1 := o4 j hj
        have b2 := o5 j hj
        refine ⟨_, rfl, a, A.S, dx, _, _, rfl, I2.ob, T.cl, T.nh, rec_high _ _ _ _, _, rfl, ha, _, _, _, rfl, rfl, SqL.of I2.high, by rw [e0]; exact atI_nat (cast_at hh hj), _, rfl, p, A.P, dp, _, _, rfl, J2.ob, TP.cl, TP.nhi, pln_hi _ _ _ _ _, _, rfl, hi, _, _, _, rfl, rfl, SqL.of J2.hi, by rw [e0]; exact atI_nat (ints_at W.hi hj), _, _, rfl, rfl, .inl ⟨by omega, by omega⟩,
          _, rfl, a, A.S, dx, _, _, rfl, I2.ob, T.cl, T.nl, rec_low _ _ _ _, _, rfl, la, _, _, _, rfl, rfl, SqL.of I2.low, by rw [e0]; exact atI_nat (cast_at hl hj), _, rfl, p, A.P, dp, _, _, rfl, J2.ob, TP.cl, TP.nlo, pln_lo _ _ _ _ _, _, rfl, lo, _, _, _, rfl, rfl, SqL.of J2.lo, by rw [e0]; exact atI_nat (ints_at W.lo hj), _, _, rfl, rfl, .inl ⟨by omega, by omega⟩, _, _, rfl, rfl,
          hqv _ _ (Same.refl _) ?_⟩
        show V.int ((z.high.getD j 0 : Int) * q.hi.getD j 0 - (z.low.getD j 0 : Int) * q.lo.getD j 0) = V.int y
        rw [ey]
      · have ea2 := paired_map (f := V.int) pa2
        rw [ea2] at e2
        refine ⟨D2, _, rfl, SqL.of e2, ?_⟩
        rw [← dN_zero z q br]
        have s12 := s1.trans s2
        have I2 := I.mono s12
        refine ⟨_, rfl, a, A.S, dx, _, _, rfl, I2.ob, T.cl, T.nt, rec_times _ _ _ _, ta, rfl, ⟨_, SqL.of I2.times⟩, for_list (K := K) (a := ta) (xs := ts.map V.ref) (fun i σ H3 => ∃ (C : Addr) (v5 v6 v7 v8 v9 v10 : Option V), σ = [some (.ref a), some (.ref p), some (.ref b), some (.ref C), some (.int (dN z q br i)), v5, v6, v7, v8, v9, v10] ∧ Same H H3 ∧ H C = none ∧ H3 C = some (.lst ((cN z br i).map V.int)))
          ⟨D, _, _, _, _, _, _, rfl, s12, hD, s2 _ _ e⟩ (fun i σ H3 _ ⟨_, _, _, _, _, _, _, _, s3, _⟩ => s3.seq (SqL.of I.times)) ?_ ?_⟩
        · rintro i y σ H3 hi' ⟨C, v5, v6, v7, v8, v9, v10, rfl, s3, hC, hC3⟩
          obtain ⟨c, hc, rfl⟩ := map_at hi'
          obtain ⟨t, ht, hcc⟩ := paired_at I.each hc
          have hto := o3 t (List.mem_of_getElem? ht)
          obtain ⟨l, hbl⟩ : ∃ l, br[t.1]? = some l := ⟨_, List.getElem?_eq_getElem hto.1⟩
          obtain ⟨ba, hba, db, cb, hbb, hcb⟩ := paired_at' hpb hbl
          have hll := hbr l (List.mem_of_getElem? hbl)
          refine ⟨c, _, rfl, SqT.of (s3 _ _ hcc), rfl, _, _, rfl, _, _, rfl, rfl, ?_⟩
          refine ⟨_, rfl, _, rfl, b, _, _, _, rfl, rfl, SqL.of (s3 _ _ hb), atI_nat (j := t.1) (by rw [List.getElem?_map, hba]; rfl), ?_⟩
          refine ⟨_, rfl, _, rfl, ba, A.B, db, _, _, rfl, s3 _ _ hbb, TB.cl, TB.nc, bnd_c _ _, C, cb, _, _, rfl, SqL.of hC3, SqL.of (s3 _ _ hcb), fun D3 hD3 => ?_⟩
          refine lc_it (n := 12) (fun j H4 => Same H3 H4 ∧ H4 D3 = some (.lst (((cN z br (i + 1)).take j).map V.int))) ⟨same_upd_new hD3, upd_same⟩ (fun j H4 hj ⟨s4, _⟩ => ?_) (fun H4 ⟨s4, _⟩ => ?_) (fun j v H4 H5 hj ⟨s4, e4⟩ hy => ?_) (fun H4 ⟨s4, e4⟩ => ?_)
          · exact ⟨_, _, _, _, s4.seq (SqL.of hC3), s4.seq (SqL.of (s3 _ _ hcb)), List.getElem?_eq_getElem (by rw [List.length_map, cN_len]; omega), List.getElem?_eq_getElem (by rw [List.length_map]; omega)⟩
          · exact ⟨_, _, s4.seq (SqL.of hC3), s4.seq (SqL.of (s3 _ _ hcb)), .inl (by rw [List.length_map, cN_len]; exact Nat.le_refl _)⟩
          · obtain ⟨tt, cc, zz, rfl, htt, rfl, hc1, hz1⟩ := hy
            obtain ⟨cc, hcc1, rfl⟩ := map_at (hc1 _ (s4.seq (SqL.of hC3)))
            obtain ⟨zz, hzz1, rfl⟩ := map_at (hz1 _ (s4.seq (SqL.of (s3 _ _ hcb))))
            rw [cN_at hj] at hcc1
            have ecc : atN z br i j = cc := Option.some.inj hcc1
            have en := cN_succ ht hbl hzz1 hj
            rw [ecc] at en
            have s5 : Same H4 (upd H4 tt (.tup [.int cc, .int zz])) := same_upd_new htt
            refine ⟨tt, _, rfl, SqT.of upd_same, rfl, _, _, rfl, _, _, rfl, rfl, rfl, ?_⟩
            refine ⟨_, rfl, _, rfl, _, rfl, _, _, rfl, rfl, .inl ⟨by omega, by omega⟩, _, _, rfl, rfl, _, s5 _ _ e4, ?_, same_upd_of (s4.trans s5) hD3, ?_⟩
            · rw [List.length_map, List.length_take]
              exact Nat.lt_of_le_of_lt (Nat.min_le_left _ _) (small_lt (by omega))
            · rw [upd_same, take_snoc en, List.map_append]
              rfl
          · rw [List.take_of_length_le (by rw [cN_len]; exact Nat.le_refl _)] at e4
            have s34 := s3.trans s4
            have ed : dN z q br (i + 1) = dN z q br i + (t.2 : Int) * l.d := by rw [dN_succ ht, List.getD_eq_getElem?_getD, hbl]; rfl
            refine ⟨_, rfl, _, rfl, _, rfl, ba, A.B, db, _, _, rfl, s34 _ _ hbb, TB.cl, TB.nd, bnd_d _ _, _, _, rfl, rfl, .inl ⟨by omega, by omega⟩, _, _, rfl, rfl, D3, some (.int (t.1 : Int)), some (.int (t.2 : Int)), some (.ref ba), v8, v9, v10, by rw [ed]; rfl, s34, s3.free hD3, e4⟩
        · rintro σ H3 ⟨C, v5, v6, v7, v8, v9, v10, rfl, s3, hC, hC3⟩
          rw [List.length_map, hlt] at hC3
          refine ⟨_, rfl, _, rfl, fun x dx2 nx ndx ne => ⟨x, dx2, _, _, rfl, upd_same, fun H' hs => ⟨rfl, ?_⟩⟩⟩
          obtain ⟨s4, n4⟩ := Set1.made nx ndx hs
          rw [List.length_map, hlt] at n4
          refine k H' x (s3.trans s4) ?_
          rw [all_eq]
          exact ⟨dx2, C, newp_old s3 _ _ n4, newp_of hC (s4 _ _ hC3)⟩
end
end Wn
end
section
set_option maxRecDepth 100000
set_option maxHeartbeats 4000000
namespace Wn
open PySem PySem.Spec PyProof.Rows L2
/-! ### reading: the data -/
def calF (n w l b : V) : List (Str × V) := putF "behind" b (putF "lists" l (putF "wholes" w (putF "number" n [])))
theorem cal_n (n w l b : V) : (calF n w l b).lookup ("number" : Str) = some n := by
  unfold calF
  rw [lookup_putF, if_neg (by decide +kernel), lookup_putF, if_neg (by decide +kernel), lookup_putF, if_neg (by decide +kernel), lookup_putF, if_pos rfl]
theorem cal_w (n w l b : V) : (calF n w l b).lookup ("wholes" : Str) = some w := by
  unfold calF
  rw [lookup_putF, if_neg (by decide +kernel), lookup_putF, if_neg (by decide +kernel), lookup_putF, if_pos rfl]
theorem cal_l (n w l b : V) : (calF n w l b).lookup ("lists" : Str) = some l := by
  unfold calF
  rw [lookup_putF, if_neg (by decide +kernel), lookup_putF, if_pos rfl]
theorem cal_b (n w l b : V) : (calF n w l b).lookup ("behind" : Str) = some b := by
  unfold calF
  rw [lookup_putF, if_pos rfl]
def CallAt (A : Ads) (G : Hp) (a : Addr) (p : Int) (ns : List Int) (xs : List (List Int)) (bh : Nat) : Prop :=
  ∃ dx w l, G a = some (.ins A.C dx (calF (.int p) (.ref w) (.ref l) (.int bh))) ∧ IntsAt G w ns ∧ RowsAt G l xs
theorem CallAt.mono {A : Ads} {G G' : Hp} {a : Addr} {p : Int} {ns : List Int} {xs : List (List Int)} {bh : Nat} (s : Same G G') (h : CallAt A G a p ns xs bh) : CallAt A G' a p ns xs bh := by
  obtain ⟨dx, w, l, h1, h2, h3⟩ := h
  exact ⟨dx, w, l, s _ _ h1, h2.mono s, h3.mono s⟩
structure TxtR (K : PySem.W.Frag) (A : Ads) : Prop where
  cl : Cls K A.C
  nn : NoAttr K A.C "number"
  nw : NoAttr K A.C "wholes"
  nl : NoAttr K A.C "lists"
  nb : NoAttr K A.C "behind"
def spCallInit (A : Ads) : Sp := fun vs H Q _ => ∃ (p dx : Addr) (n w l b : V), vs = [.ref p, n, w, l, b] ∧ H p = some (.ins A.C dx []) ∧ ∀ H', Set1 H p (.ins A.C dx (calF n w l b)) H' → Q .non H'
def spReadRow (K : PySem.W.Frag) : Sp := fun vs H Q _ => ∃ (a : Addr) (l : List Int) (i : Nat) (x t : List Int), vs = [.ref a, .int i] ∧ SqL K H a (l.map V.int) ∧ PyFlat.row (l.drop i) = some (x, t) ∧ ∀ H' p, Same H H' → IntsAt (newp H H') p x → Q (.ref p) H'
def spReadCall (K : PySem.W.Frag) (A : Ads) : Sp := fun vs H Q _ => ∃ (a : Addr) (l : List Int) (i : Nat) (c : List (List Int)) (t : List Int), vs = [.ref a, .int i] ∧ SqL K H a (l.map V.int) ∧ l.length ≤ 30000 ∧ PyWide.call (l.drop i) = some (c, t) ∧
  ∀ H' x p ns xs b, Same H H' → c = (p :: ns) :: xs → CallAt A (newp H H') x p ns xs b → t = l.drop b → i < b → b ≤ l.length → Q (.ref x) H'
/-- a call's object -/
def RCall (A : Ads) : Hp → V → List (List Int) → Prop := fun G v c => ∃ (x : Addr) (p : Int) (ns : List Int) (xs : List (List Int)) (b : Nat), v = .ref x ∧ c = (p :: ns) :: xs ∧ CallAt A G x p ns xs b
theorem RCall.mono {A : Ads} : ∀ G G' v y, Same G G' → RCall A G v y → RCall A G' v y := fun _ _ _ _ s ⟨x, p, ns, xs, b, e1, e2, h⟩ => ⟨x, p, ns, xs, b, e1, e2, h.mono s⟩
def CallsAt (A : Ads) (G : Hp) (a : Addr) (cs : List (List (List Int))) : Prop := ∃ vs : List V, G a = some (.lst vs) ∧ Paired (RCall A G) vs cs
def spReadCalls (K : PySem.W.Frag) (A : Ads) : Sp := fun vs H Q _ => ∃ (a : Addr) (l : List Int) (cs : List (List (List Int))), vs = [.ref a] ∧ SqL K H a (l.map V.int) ∧ l.length ≤ 30000 ∧ cs.length ≤ 700 ∧ PyWide.calls l.length l = some cs ∧
  ∀ H' b, Same H H' → CallsAt A (newp H H') b cs → Q (.ref b) H'
def RInts : Hp → V → List Int → Prop := fun G v y => ∃ b, v = .ref b ∧ IntsAt G b y
theorem RInts.mono : ∀ G G' v y, Same G G' → RInts G v y → RInts G' v y := fun _ _ _ _ s ⟨b, e, h⟩ => ⟨b, e, h.mono s⟩
section
variable {P : Program} {w : World} {K : PySem.W.Frag} {mg : Str → Option Value} {base : Heap} {A : Ads}
theorem sc_Call_init : FnScope ["self", "number", "wholes", "lists", "behind"] ["self", "number", "wholes", "lists", "behind"] (defScope s_Call_init) := ⟨rfl, rfl, rfl, by decide +kernel, rfl, by decide +kernel, by decide +kernel⟩
theorem ok_Call_init (F : GM K A.C "__init__" "Call.__init__" s_Call_init ["self", "number", "wholes", "lists", "behind"]) (mk : PySem.W.makesIn K A.C = true) (kp : PySem.W.keepIn K (.ref A.C) = true) (my : mg "Call" = some (.ref A.C)) (T : TxtR K A) :
    PrC P w K mg base 1 "Call" A.C ["self", "number", "wholes", "lists", "behind"] (spCallInit A) := by
  refine F.prC mk kp my sc_Call_init (fun vs H Q E h => ?_) (fun f cdv Ar outer s H vs Q E hr h => ?_)
  · obtain ⟨p, dx, n, w, l, b, rfl, _⟩ := h
    rfl
  · obtain ⟨p, dx, n, wh, l, b, rfl, hp, k⟩ := h
    refine ⟨_, pss_cons (ps_fld (pv 0) (pv 1) rfl) (pss_cons (ps_fld (pv 0) (pv 2) rfl) (pss_cons (ps_fld (pv 0) (pv 3) rfl) (pss_one (ps_fld (pv 0) (pv 4) rfl)))), ?_⟩
    have l1 := length_putF "number" n []
    have l2 := length_putF "wholes" wh (putF "number" n [])
    have l3 := length_putF "lists" l (putF "wholes" wh (putF "number" n []))
    simp only [List.length_nil] at l1
    refine ⟨_, rfl, _, rfl, p, A.C, dx, [], rfl, hp, T.cl, T.nn, (by show 0 < 1000; decide), _, rfl, _, rfl, p, A.C, dx, _, rfl, upd_same, T.cl, T.nw, by omega, _, rfl, _, rfl, p, A.C, dx, _, rfl, upd_same, T.cl, T.nl, by omega,
      _, rfl, _, rfl, p, A.C, dx, _, rfl, upd_same, T.cl, T.nb, by omega, ?_⟩
    exact k _ (Set1.over (Set1.over (Set1.over Set1.upd)))
theorem sc_read_row : FnScope ["calls", "at", "start"] ["calls", "at"] (defScope s_read_row) := ⟨rfl, rfl, rfl, by decide +kernel, rfl, by decide +kernel, by decide +kernel⟩
theorem ok_read_row (F : GF K mg "read_row" s_read_row ["calls", "at"]) : Pr P w K mg base 1 "read_row" ["calls", "at"] (spReadRow K) := by
  refine F.pr sc_read_row (fun vs H Q E h => ?_) (fun f cdv Ar outer s H vs Q E hr h => ?_)
  · obtain ⟨a, l, i, x, t, rfl, _⟩ := h
    rfl
  · obtain ⟨a, l, i, x, t, rfl, ha, hrow, k⟩ := h
    have nd := sc_read_row.nd
    obtain ⟨n, n1, n2, n3, n4, n5, n6⟩ := row_parts hrow
    refine ⟨_, pss_cons (ps_set (i := 2) nd rfl (Or.inl rfl) (pe_op op_add (pv 1) pe_int))
      (pss_one (ps_ret (pe_slice sl_list (pv 0) (po_some (pv 2)) (po_some (pe_op op_add (pv 2) (pe_ix ix_list (pv 0) (pv 1) (fun _ _ => rfl))))))), ?_⟩
    refine ⟨_, rfl, _, _, rfl, rfl, _, rfl, _, rfl, _, rfl, _, rfl, _, rfl, _, rfl, a, _, _, _, rfl, rfl, ha, atI_nat (j := i) (by rw [List.getElem?_map, n1]; rfl), _, _, rfl, rfl, _, rfl, a, _, rfl, ha, fun p hp => ?_⟩
    have e1 : ((i : Int) + 1) = ((i + 1 : Nat) : Int) := by omega
    have e2 : ((i : Int) + 1 + n) = ((i + 1 + n.toNat : Nat) : Int) := by omega
    rw [e2, e1, cut_ft _ _ _ (by rw [List.length_map]; omega), Nat.add_sub_cancel_left, ← List.map_drop, ← List.map_take, ← n4]
    exact k _ p (same_upd_new hp) (newp_of hp upd_same)
theorem sc_read_call : FnScope ["calls", "at", "wholes", "count_at", "lists", "behind", "row"] ["calls", "at"] (defScope s_read_call) := ⟨rfl, rfl, rfl, by decide +kernel, rfl, by decide +kernel, by decide +kernel⟩
theorem ok_read_call (F : GF K mg "read_call" s_read_call ["calls", "at"]) (PR : Pr P w K mg base 1 "read_row" ["calls", "at"] (spReadRow K)) (PC : PrC P w K mg base 1 "Call" A.C ["self", "number", "wholes", "lists", "behind"] (spCallInit A)) (G : TxtG mg) :
    Pr P w K mg base 3 "read_call" ["calls", "at"] (spReadCall K A) := by
  refine F.pr sc_read_call (fun vs H Q E h => ?_) (fun f cdv Ar outer s H vs Q E hr h => ?_)
  · obtain ⟨a, l, i, c, t, rfl, _⟩ := h
    rfl
  · obtain ⟨a, l, i, c, t, rfl, ha, hl3, hcall, k⟩ := h
    have nd := sc_read_call.nd
    obtain ⟨p, ns, kk, xs, hp, hrow, hk, hk0, hrows, ec, hlt⟩ := call_parts hcall
    have hxl := rows_len hrows
    have hxle := rows_le hrows
    rw [List.length_drop] at hxle
    have hr1 := hr.mono (j := 1) (by decide)
    refine ⟨_, pss_cons (ps_set (i := 2) nd rfl (Or.inl rfl) (pe_p PR hr1 rfl (pa_cons (pv 0) (pa_cons (pe_op op_add (pv 1) pe_int) pa_nil))))
      (pss_cons (ps_set (i := 3) nd rfl (Or.inl rfl) (pe_op op_add (pe_op op_add (pv 1) pe_int) (pe_callB call_len_seq rfl G.len boot_len (pa_cons (pv 2) pa_nil))))
      (pss_cons (ps_set (i := 4) nd rfl (Or.inl rfl) (pe_lst pa_nil))
      (pss_cons (ps_set (i := 5) nd rfl (Or.inl rfl) (pe_op op_add (pv 3) pe_int))
      (pss_cons (ps_while PassesOwn.never (pt_cmpR op_lt (pe_callB call_len_seq rfl G.len boot_len (pa_cons (pv 4) pa_nil)) (pe_ix ix_list (pv 0) (pv 3) (fun _ _ => rfl)) (nomark _))
        (pss_cons (ps_set (i := 6) nd rfl (Or.inl rfl) (pe_p PR hr1 rfl (pa_cons (pv 0) (pa_cons (pv 5) pa_nil))))
        (pss_cons (ps_expr (pe_bm PySem.F.plainAttrs_list PySem.F.slot_list_append PySem.F.type_list_append mt_append (pv 4) (pa_cons (pv 6) pa_nil)))
        (pss_one (ps_aug nd rfl (Or.inl rfl) (i := 5) (pe_op op_add pe_int (pe_callB call_len_seq rfl G.len boot_len (pa_cons (pv 6) pa_nil))) ip_add)))))
      (pss_one (ps_ret (pe_pc PC hr rfl (pa_cons (pe_ix ix_list (pv 0) (pv 1) (fun _ _ => rfl)) (pa_cons (pv 2) (pa_cons (pv 4) (pa_cons (pv 5) pa_nil))))))))))), ?_⟩
    have e1 : ((i : Int) + 1) = ((i + 1 : Nat) : Int) := by omega
    refine ⟨_, rfl, _, rfl, _, _, rfl, rfl, a, l, i + 1, ns, _, by show ([V.ref a, V.int ((i : Int) + 1)] : List V) = [V.ref a, V.int ((i + 1 : Nat) : Int)]; rw [e1], ha, hrow, fun H1 wa s1 hw => ?_⟩
    have hw1 := newp_le _ _ hw
    have e2 : ((i : Int) + 2 + ((ns.map V.int).length : Int)) = ((i + 2 + ns.length : Nat) : Int) := by rw [List.length_map]; omega
    refine ⟨_, rfl, _, _, rfl, rfl, _, rfl, wa, _, rfl, .inl (SqL.of hw1), _, _, rfl, rfl, Nat.zero_le _, fun L hL => ⟨_, rfl, _, _, rfl, rfl, ?_⟩⟩
    refine ⟨fun m σ H2 => ∃ (n b : Nat) (z : Int) (v6 : Option V), σ = [some (.ref a), some (.int i), some (.ref wa), some (.int ((i : Int) + 2 + ((ns.map V.int).length : Int))), some (.ref L), some (.int z), v6] ∧ z = (b : Int) ∧ n + m = kk.toNat ∧ LcI RInts H1 L xs n H2 ∧ PyFlat.rows m (l.drop b) = some (xs.drop n, t) ∧ i < b ∧ b ≤ l.length,
      ⟨kk.toNat, 0, i + 3 + ns.length, _, none, rfl, by omega, by omega, LcI.start hL, hrows, by omega, by omega⟩, ?_⟩
    rintro m σ H2 ⟨n, b, z0, v6, rfl, ez, hnm, LI, hrs, hib, hbl⟩
    subst ez
    have ha2 : SqL K H2 a (l.map V.int) := (s1.trans LI.same).seq ha
    obtain ⟨acc, hacc, hpa⟩ := LI.at_
    have hal : acc.length = n := by
      have := paired_len hpa
      rw [List.length_take] at this
      omega
    refine ⟨_, rfl, L, _, rfl, .inl (SqL.of hacc), _, rfl, _, rfl, a, _, _, _, rfl, rfl, ha2, (by rw [e2]; exact atI_nat (by rw [List.getElem?_map, hk]; rfl)), _, _, rfl, rfl, _, rfl, ?_⟩
    rw [hal]
    refine ite2 (fun hc => ?_) (fun hc => ?_)
    · have hc := of_decide_eq_true hc
      obtain ⟨m', rfl⟩ : ∃ m', m = m' + 1 := ⟨m - 1, by omega⟩
      obtain ⟨x, s', ys, hx1, hx2, hx3⟩ := rows_succ hrs
      obtain ⟨z, z1, z2, z3, z4, z5, z6⟩ := row_parts hx1
      have hy : xs[n]? = some x := by
        have := congrArg (fun q => q[0]?) hx3
        simpa using this
      have hys : xs.drop (n + 1) = ys := by
        have := congrArg (fun q => q.drop 1) hx3
        simpa [List.drop_drop] using this
      refine ⟨fun σ' H' => ∃ (b' : Nat) (z' : Int) (v6 : Option V), σ' = [some (.ref a), some (.int i), some (.ref wa), some (.int ((i : Int) + 2 + ((ns.map V.int).length : Int))), some (.ref L), some (.int z'), v6] ∧ z' = (b' : Int) ∧ LcI RInts H1 L xs (n + 1) H' ∧ PyFlat.rows m' (l.drop b') = some (xs.drop (n + 1), t) ∧ i < b' ∧ b' ≤ l.length,
        fun σ' H' ⟨b', z', v6, h1, h1', h2, h3, h4, h5⟩ => ⟨m', by omega, n + 1, b', z', v6, h1, h1', by omega, h2, h3, h4, h5⟩, ?_⟩
      refine ⟨_, rfl, _, rfl, a, l, b, x, s', rfl, ha2, hx1, fun H3 ra s3 hra => ?_⟩
      have hra3 := newp_le _ _ hra
      obtain ⟨acc', ea', hlt', LI'⟩ := LI.next RInts.mono hL (by omega) hy s3 ⟨ra, rfl, hra⟩
      refine ⟨_, rfl, .inl ⟨rfl, _, SqL.of ea'⟩, _, rfl, L, acc', _, rfl, rfl, ea', hlt', ?_⟩
      have hraL : ra ≠ L := fun q => by
        have := (newp_some hra).1
        rw [q, hacc] at this
        cases this
      refine ⟨_, rfl, _, rfl, ra, _, rfl, .inl (SqL.of (by rw [upd_ne hraL]; exact hra3)), _, _, rfl, rfl, _, _, rfl, rfl, b + 1 + z.toNat, _, _, rfl, ?_, LI', ?_, by omega, z3⟩
      · show (b : Int) + (1 + ((x.map V.int).length : Int)) = ((b + 1 + z.toNat : Nat) : Int)
        rw [List.length_map, z6]
        omega
      · rw [hys, ← z5]
        exact hx2
    · have hc := of_decide_eq_false (Bool.eq_false_iff.mpr hc)
      have hm0 : m = 0 := by omega
      subst hm0
      obtain ⟨hx0, ht⟩ := rows_zero hrs
      have hn : n = xs.length := by
        have := congrArg List.length hx0
        rw [List.length_drop, List.length_nil] at this
        omega
      subst hn
      rw [List.take_length] at hpa
      have sH2 : Same H H2 := s1.trans LI.same
      refine ⟨_, rfl, _, rfl, a, _, _, _, rfl, rfl, ha2, atI_nat (j := i) (by rw [List.getElem?_map, hp]; rfl), _, rfl, _, rfl, _, rfl, fun x dx nx ndx ne => ⟨x, dx, _, _, _, _, rfl, upd_same, fun H' hs => ⟨rfl, ?_⟩⟩⟩
      obtain ⟨s3, n3⟩ := Set1.made nx ndx hs
      obtain ⟨bs, eb, pb⟩ := paired_refs (fun v y h => h) hpa
      refine k H' x p ns xs b (sH2.trans s3) ec ⟨dx, wa, L, newp_old sH2 _ _ n3, (hw.mono (newp_trans LI.same)).mono (newp_trans s3), bs, ?_, ?_⟩ ht hib hbl
      · exact newp_of (s1.free hL) (s3 _ _ (by rw [hacc, eb]))
      · exact paired_mono pb fun c y r => (r.mono (newp_old (s1.trans (same_upd_new hL)))).mono (newp_trans s3)
theorem sc_read_calls : FnScope ["calls", "found", "at", "call"] ["calls"] (defScope s_read_calls) := ⟨rfl, rfl, rfl, by decide +kernel, rfl, by decide +kernel, by decide +kernel⟩
theorem ok_read_calls (F : GF K mg "read_calls" s_read_calls ["calls"]) (PR : Pr P w K mg base 3 "read_call" ["calls", "at"] (spReadCall K A)) (T : TxtR K A) (G : TxtG mg) :
    Pr P w K mg base 4 "read_calls" ["calls"] (spReadCalls K A) := by
  refine F.pr sc_read_calls (fun vs H Q E h => ?_) (fun f cdv Ar outer s H vs Q E hr h => ?_)
  · obtain ⟨a, l, cs, rfl, _⟩ := h
    rfl
  · obtain ⟨a, l, cs, rfl, ha, hl3, hcs, hcalls, k⟩ := h
    have nd := sc_read_calls.nd
    refine ⟨_, pss_cons (ps_set (i := 1) nd rfl (Or.inl rfl) (pe_lst pa_nil))
      (pss_cons (ps_set (i := 2) nd rfl (Or.inl rfl) pe_int)
      (pss_cons (ps_while PassesOwn.never (pt_cmpR op_lt (pv 2) (pe_callB call_len_seq rfl G.len boot_len (pa_cons (pv 0) pa_nil)) (nomark _))
        (pss_cons (ps_set (i := 3) nd rfl (Or.inl rfl) (pe_p PR hr rfl (pa_cons (pv 0) (pa_cons (pv 2) pa_nil))))
        (pss_cons (ps_expr (pe_bm PySem.F.plainAttrs_list PySem.F.slot_list_append PySem.F.type_list_append mt_append (pv 1) (pa_cons (pv 3) pa_nil)))
        (pss_one (ps_set (i := 2) nd rfl (Or.inl rfl) (pe_fld (pv 3) rfl))))))
      (pss_one (ps_ret (pv 1))))), ?_⟩
    refine ⟨Nat.zero_le _, fun D hD => ?_⟩
    refine ⟨fun m σ H1 => ∃ (n b : Nat) (v3 : Option V) (g : Nat), σ = [some (.ref a), some (.ref D), some (.int (b : Int)), v3] ∧ m = l.length - b ∧ b ≤ l.length ∧ LcI (RCall A) H D cs n H1 ∧ PyWide.calls g (l.drop b) = some (cs.drop n),
      ⟨l.length, 0, 0, none, l.length, rfl, rfl, Nat.zero_le _, LcI.start hD, hcalls⟩, ?_⟩
    rintro m σ H1 ⟨n, b, v3, g, rfl, rfl, hbl, LI, hc⟩
    have ha1 : SqL K H1 a (l.map V.int) := LI.same.seq ha
    obtain ⟨acc, hacc, hpa⟩ := LI.at_
    refine ⟨_, rfl, _, rfl, a, _, rfl, .inl ha1, _, _, rfl, rfl, _, rfl, ?_⟩
    rw [List.length_map]
    refine ite2 (fun hlt => ?_) (fun hlt => ?_)
    · have hlt := of_decide_eq_true hlt
      have hlt : b < l.length := by omega
      cases e : l.drop b with
      | nil =>
        have := congrArg List.length e
        rw [List.length_drop, List.length_nil] at this
        omega
      | cons z r =>
        rw [e] at hc
        obtain ⟨g', c, t, ds, rfl, hc1, hc2, hc3⟩ := calls_cons hc
        have hy : cs[n]? = some c := by
          have := congrArg (fun q => q[0]?) hc3
          simpa using this
        have hds : cs.drop (n + 1) = ds := by
          have := congrArg (fun q => q.drop 1) hc3
          simpa [List.drop_drop] using this
        refine ⟨fun σ' H' => ∃ (b' : Nat) (v3 : Option V), σ' = [some (.ref a), some (.ref D), some (.int (b' : Int)), v3] ∧ b < b' ∧ b' ≤ l.length ∧ LcI (RCall A) H D cs (n + 1) H' ∧ PyWide.calls g' (l.drop b') = some (cs.drop (n + 1)),
          fun σ' H' ⟨b', v3, h1, h2, h3, h4, h5⟩ => ⟨l.length - b', by omega, n + 1, b', v3, g', h1, rfl, h3, h4, h5⟩, ?_⟩
        rw [← e] at hc1
        refine ⟨_, rfl, _, rfl, a, l, b, c, t, rfl, ha1, hl3, hc1, fun H2 x p ns xs b' s2 ec hx ht hb1 hb2 => ?_⟩
        obtain ⟨dx, w', l', hx1, hx2, hx3⟩ := id hx
        obtain ⟨acc', ea', hlt', LI'⟩ := LI.next RCall.mono hD (by omega) hy s2 ⟨x, p, ns, xs, b', rfl, ec, hx⟩
        have hxD : x ≠ D := fun q => by
          have := (newp_some hx1).1
          rw [q, hacc] at this
          cases this
        refine ⟨_, rfl, .inl ⟨rfl, _, SqL.of ea'⟩, _, rfl, D, acc', _, rfl, rfl, ea', hlt', _, rfl, x, A.C, dx, _, _, rfl, by rw [upd_ne hxD]; exact newp_le _ _ hx1, T.cl, T.nb, cal_b _ _ _ _, b', _, rfl, hb1, hb2, LI', ?_⟩
        rw [← ht, hds]
        exact hc2
    · have hlt := of_decide_eq_false (Bool.eq_false_iff.mpr hlt)
      have e : l.drop b = [] := List.drop_of_length_le (by omega)
      rw [e] at hc
      have hn := calls_nil hc
      have hn2 : cs.length ≤ n := by
        have := congrArg List.length hn
        rw [List.length_drop, List.length_nil] at this
        omega
      rw [List.take_of_length_le hn2] at hpa
      refine ⟨_, rfl, k H1 D LI.same ⟨acc, newp_of hD hacc, paired_mono hpa fun v y r => RCall.mono _ _ v y (newp_old (same_upd_new hD)) r⟩⟩
end
end Wn
end
section
set_option maxRecDepth 100000
set_option maxHeartbeats 4000000
namespace Wn
open PySem PySem.Spec PyProof.Rows L2
/-! ### reasons: the data -/
theorem pb_ne : ¬ (("plan" : Str) = "branches") := by decide +kernel
theorem bp_ne : ¬ (("branches" : Str) = "plan") := by decide +kernel
def rsnF (p b : V) : List (Str × V) := putF "branches" b (putF "plan" p [])
theorem rsn_eq (p b : V) : rsnF p b = ([("plan", p), ("branches", b)] : List (Str × V)) := by
  show (if ("plan" : Str) = "branches" then [(("plan" : Str), b)] else (("plan" : Str), p) :: putF "branches" b []) = _
  rw [if_neg pb_ne]
  rfl
theorem rsn_p (p b : V) : (rsnF p b).lookup ("plan" : Str) = some p := by
  unfold rsnF
  rw [lookup_putF, if_neg pb_ne, lookup_putF, if_pos rfl]
theorem rsn_b (p b : V) : (rsnF p b).lookup ("branches" : Str) = some b := by
  unfold rsnF
  rw [lookup_putF, if_pos rfl]
theorem rsn_no (p b : V) {m : Str} (h1 : ¬ m = "branches") (h2 : ¬ m = "plan") : (rsnF p b).lookup m = none := by
  unfold rsnF
  rw [lookup_putF, if_neg h1, lookup_putF, if_neg h2]
  all_goals rfl
theorem rsn_put_b (p b c : V) : putF "branches" c (rsnF p b) = rsnF p c := by
  rw [rsn_eq, rsn_eq]
  show (if ("plan" : Str) = "branches" then _ else (("plan" : Str), p) :: (if ("branches" : Str) = "branches" then [(("branches" : Str), c)] else _)) = _
  rw [if_neg pb_ne, if_pos rfl]
theorem rsn_put_p (p b c : V) : putF "plan" c (rsnF p b) = rsnF c b := by
  rw [rsn_eq, rsn_eq]
  show (if ("plan" : Str) = "plan" then [(("plan" : Str), c), ("branches", b)] else _) = _
  rw [if_pos rfl]
/-- the heap without what stands at r -/
def but (H : Hp) (r : Addr) : Hp := fun b => if b = r then none else H b
theorem but_of {H : Hp} {r b : Addr} (h : b ≠ r) : but H r b = H b := by
  unfold but
  rw [if_neg h]
theorem but_self {H : Hp} {r : Addr} : but H r r = none := by
  unfold but
  rw [if_pos rfl]
theorem but_ne {H : Hp} {r b : Addr} {o : HO} (h : but H r b = some o) : b ≠ r := fun e => by
  rw [e, but_self] at h
  cases h
theorem but_le {H : Hp} {r : Addr} : Same (but H r) H := fun b o h => by
  rw [but_of (but_ne h)] at h
  exact h
theorem but_mono {H H' : Hp} {r : Addr} (s : Same H H') : Same (but H r) (but H' r) := fun b o h => by
  have hn := but_ne h
  rw [but_of hn] at h ⊢
  exact s b o h
/-- the heap without what stands at r, and at Z -/
def del (Z : Addr) (H : Hp) (r : Addr) : Hp := fun b => if b = r then none else if b = Z then none else H b
theorem del_of {Z : Addr} {H : Hp} {r b : Addr} (h : b ≠ r) (hz : b ≠ Z) : del Z H r b = H b := by
  unfold del
  rw [if_neg h, if_neg hz]
theorem del_self {Z : Addr} {H : Hp} {r : Addr} : del Z H r r = none := by
  unfold del
  rw [if_pos rfl]
theorem del_ne {Z : Addr} {H : Hp} {r b : Addr} {o : HO} (h : del Z H r b = some o) : b ≠ r := fun e => by
  rw [e, del_self] at h
  cases h
theorem del_nz {Z : Addr} {H : Hp} {r b : Addr} {o : HO} (h : del Z H r b = some o) : b ≠ Z := fun e => by
  have hn := del_ne h
  unfold del at h
  rw [if_neg hn, if_pos e] at h
  cases h
theorem del_le {Z : Addr} {H : Hp} {r : Addr} : Same (del Z H r) H := fun b o h => by
  rw [del_of (del_ne h) (del_nz h)] at h
  exact h
theorem del_mono {Z : Addr} {H H' : Hp} {r : Addr} (s : Same H H') : Same (del Z H r) (del Z H' r) := fun b o h => by
  have hn := del_ne h
  have hz := del_nz h
  rw [del_of hn hz] at h ⊢
  exact s b o h
theorem del_upd {Z : Addr} {H : Hp} {r : Addr} {o : HO} : del Z (upd H r o) r = del Z H r := by
  funext b
  by_cases h : b = r
  · rw [h, del_self, del_self]
  · unfold del
    rw [if_neg h, if_neg h, upd_ne h]
theorem del_new {Z : Addr} {H H' : Hp} {r : Addr} {o oz : HO} (h : H r = some o) (hz : H Z = some oz) : Same (newp H H') (del Z H' r) := fun b u e => by
  obtain ⟨h1, h2⟩ := newp_some e
  rw [del_of (fun q => by rw [q, h] at h1; cases h1) (fun q => by rw [q, hz] at h1; cases h1)]
  exact h2
/-- rows of branches -/
def BrsAt (A : Ads) (G : Hp) (b : Addr) (bss : List (List Kh219.Le)) : Prop := ∃ as : List Addr, G b = some (.lst (as.map V.ref)) ∧ Paired (SomeAt A G) as bss
theorem BrsAt.mono {A : Ads} {G G' : Hp} {b : Addr} {l : List (List Kh219.Le)} (s : Same G G') (h : BrsAt A G b l) : BrsAt A G' b l := by
  obtain ⟨bs, h1, h2⟩ := h
  exact ⟨bs, s _ _ h1, paired_mono h2 fun a b => SomeAt.mono s⟩
def StIs (A : Ads) (G : Hp) (p b : V) : Option Kh219.Abs → Prop
  | none => p = .non ∧ ∃ c, b = .ref c ∧ G c = some (.lst [])
  | some s => ∃ q c, p = .ref q ∧ b = .ref c ∧ PlanAt A G q s.plan ∧ BrsAt A G c s.branches
theorem StIs.mono {A : Ads} {G G' : Hp} {p b : V} {S : Option Kh219.Abs} (s : Same G G') (h : StIs A G p b S) : StIs A G' p b S := by
  cases S with
  | none =>
    obtain ⟨h1, c, h2, h3⟩ := h
    exact ⟨h1, c, h2, s _ _ h3⟩
  | some z =>
    obtain ⟨q, c, h1, h2, h3, h4⟩ := h
    exact ⟨q, c, h1, h2, h3.mono s, h4.mono s⟩
/-- a Reasons stands at r, in state S -/
def StAt (A : Ads) (Z : Addr) (H : Hp) (r : Addr) (S : Option Kh219.Abs) : Prop := ∃ dx p b, H r = some (.ins A.R dx (rsnF p b)) ∧ StIs A (del Z H r) p b S
theorem StAt.mono {A : Ads} {Z : Addr} {H H' : Hp} {r : Addr} {S : Option Kh219.Abs} (s : Same H H') (h : StAt A Z H r S) : StAt A Z H' r S := by
  obtain ⟨dx, p, b, h1, h2⟩ := h
  exact ⟨dx, p, b, s _ _ h1, h2.mono (del_mono s)⟩
structure TxtS (K : PySem.W.Frag) (mg : Str → Option Value) (A : Ads) : Prop where
  cl : Cls K A.R
  np : NoAttr K A.R "plan"
  nb : NoAttr K A.R "branches"
  NOT_THERE : GInt mg "NOT_THERE" (-2)
  NOT_AS_TOLD : GInt mg "NOT_AS_TOLD" (-22)
  TOO_MANY : GInt mg "TOO_MANY_BOUNDS" (-28)
  MOST_BOUNDS : GInt mg "MOST_BOUNDS" 512
/-- the promise's end: what was there stays, but for r; the object is in the new state; the number is the step's -/
def Done (A : Ads) (Z : Addr) (H : Hp) (r : Addr) (S : Option Kh219.Abs) (z : Int) (Q : VK) : Prop := ∀ H', Same (but H r) H' → StAt A Z H' r S → Q (.int z) H'
def spReasonsInit (A : Ads) : Sp := fun vs H Q _ => ∃ (r dx : Addr), vs = [.ref r] ∧ H r = some (.ins A.R dx []) ∧ ∀ H' c, Same (but H r) H' → c ≠ r → H' r = some (.ins A.R dx (rsnF .non (.ref c))) → H' c = some (.lst []) → H c = none → Q .non H'
def spBegin (A : Ads) : Sp := fun vs H Q _ => ∃ (r p Z : Addr) (oz : HO) (S : Option Kh219.Abs) (q : Kh219.Plan), vs = [.ref r, .ref p] ∧ H Z = some oz ∧ StAt A Z H r S ∧ PlanAt A (del Z H r) p q ∧ WfPlan q ∧
  Done A Z H r (if Kh219.good q = true then some (Kh219.begin_ q) else S) (if Kh219.good q = true then 0 else -22) Q
def spLine (A : Ads) (args : Hp → List V → Kh219.Line → Prop) : Sp := fun vs H Q _ => ∃ (r Z : Addr) (oz : HO) (s : Kh219.Abs) (l : Kh219.Line) (as : List V), vs = .ref r :: as ∧ as.length = 1 ∧ H Z = some oz ∧ StAt A Z H r (some s) ∧ WfAbs s ∧ s.branches.length ≤ 20000 ∧ args (del Z H r) as l ∧
  Done A Z H r (some (Kh219.step s l).1) (Kh219.step s l).2.ret Q
def spBranchOut (A : Ads) : Sp := fun vs H Q _ => ∃ (r a Z : Addr) (oz : HO) (s : Kh219.Abs) (b : List Kh219.Le) (rest : List (List Kh219.Le)) (ls : List Kh219.Le), vs = [.ref r, .ref a] ∧ H Z = some oz ∧ StAt A Z H r (some s) ∧ WfAbs s ∧ s.branches.length ≤ 20000 ∧ s.branches = b :: rest ∧ SomeAt A (del Z H r) a ls ∧ ls.length ≤ 100 ∧
  Done A Z H r (some (s.part b rest ls).1) (s.part b rest ls).2.ret Q
section
variable {P : Program} {w : World} {K : PySem.W.Frag} {mg : Str → Option Value} {base : Heap} {A : Ads}
theorem sc_Reasons_init : FnScope ["self"] ["self"] (defScope s_Reasons_init) := ⟨rfl, rfl, rfl, by decide +kernel, rfl, by decide +kernel, by decide +kernel⟩
theorem ok_Reasons_init (F : GM K A.R "__init__" "Reasons.__init__" s_Reasons_init ["self"]) (mk : PySem.W.makesIn K A.R = true) (kp : PySem.W.keepIn K (.ref A.R) = true) (my : mg "Reasons" = some (.ref A.R)) (T : TxtS K mg A) :
    PrC P w K mg base 1 "Reasons" A.R ["self"] (spReasonsInit A) := by
  refine F.prC mk kp my sc_Reasons_init (fun vs H Q E h => ?_) (fun f cdv Ar outer s H vs Q E hr h => ?_)
  · obtain ⟨r, dx, rfl, _⟩ := h
    rfl
  · obtain ⟨r, dx, rfl, hp, k⟩ := h
    refine ⟨_, pss_cons (ps_fld (pv 0) pe_non rfl) (pss_one (ps_fld (pv 0) (pe_lst pa_nil) rfl)), ?_⟩
    refine ⟨_, rfl, r, A.R, dx, [], rfl, hp, T.cl, T.np, (by show 0 < 1000; decide), Nat.zero_le _, fun c hc => ⟨_, rfl, r, A.R, dx, putF "plan" .non [], rfl, ?_, T.cl, T.nb, (by show 1 < 1000; decide), ?_⟩⟩
    · rw [upd_ne (fun q => by rw [← q, upd_same] at hc; cases hc), upd_same]
    · have hcr : c ≠ r := fun q => by rw [q, upd_same] at hc; cases hc
      refine k _ c (fun b o e => ?_) hcr upd_same (by rw [upd_ne hcr, upd_same]) (by rw [upd_ne hcr] at hc; exact hc)
      have hb := but_ne e
      rw [but_of hb] at e
      have hbc : b ≠ c := fun q => by rw [q] at e; rw [upd_ne hcr, e] at hc; cases hc
      rw [upd_ne hb, upd_ne hbc, upd_ne hb]
      exact e
theorem sc_Reasons_begin : FnScope ["self", "plan"] ["self", "plan"] (defScope s_Reasons_begin) := ⟨rfl, rfl, rfl, by decide +kernel, rfl, by decide +kernel, by decide +kernel⟩
theorem ok_Reasons_begin (F : GM K A.R "begin" "Reasons.begin" s_Reasons_begin ["self", "plan"]) (PT : Pr P w K mg base 4 "plan_as_told" ["plan"] (spOfPlan A Kh219.good)) (T : TxtS K mg A) :
    PrM P w K mg base 5 "begin" A.R ["self", "plan"] (spBegin A) := by
  refine F.prM T.cl sc_Reasons_begin (fun vs H Q E h => ?_) (fun f cdv Ar outer s H vs Q E hr h => ?_)
  · obtain ⟨r, p, Z, oz, S, q, rfl, _⟩ := h
    rfl
  · obtain ⟨r, p, Z, oz, S, q, rfl, hZ, ⟨dx, pv0, bv0, hr0, hst⟩, hP, W, k⟩ := h
    refine ⟨_, pss_cons (ps_if (pt_not (pt_val (pe_p PT hr rfl (pa_cons (pv 1) pa_nil)))) (pss_one (ps_ret (pe_gi T.NOT_AS_TOLD rfl))) pss_nil)
      (pss_cons (ps_fld (pv 0) (pv 1) rfl) (pss_cons (ps_fld (pv 0) (pe_lst (pa_cons (pe_lst pa_nil) pa_nil)) rfl) (pss_one (ps_ret pe_int)))), ?_⟩
    refine ⟨_, rfl, p, q, rfl, hP.mono del_le, W, fun H1 s1 => ⟨_, rfl, ?_⟩⟩
    have hr1 := s1 _ _ hr0
    cases e : Kh219.good q with
    | false =>
      rw [e] at k
      exact iteT (k H1 (fun b o h => s1 _ _ (but_le _ _ h)) ⟨dx, pv0, bv0, hr1, hst.mono (del_mono s1)⟩)
    | true =>
      rw [e] at k
      have l2 : (rsnF (.ref p) bv0).length < 1000 := by rw [rsn_eq]; show 2 < 1000; decide
      refine iteF ⟨_, rfl, _, rfl, r, A.R, dx, _, rfl, hr1, T.cl, T.np, by rw [rsn_eq]; show 2 < 1000; decide, ?_⟩
      rw [rsn_put_p]
      refine ⟨Nat.zero_le _, fun c hc => ⟨(by show 1 ≤ sizeLine; decide), fun d hd => ?_⟩⟩
      have hcr : c ≠ r := fun z => by rw [z, upd_same] at hc; cases hc
      have hdr : d ≠ r := fun z => by rw [z, upd_ne (fun z => hcr z.symm), upd_same] at hd; cases hd
      have hdc : d ≠ c := fun z => by rw [z, upd_same] at hd; cases hd
      refine ⟨_, rfl, r, A.R, dx, _, rfl, by rw [upd_ne hdr.symm, upd_ne hcr.symm, upd_same], T.cl, T.nb, l2, ?_⟩
      rw [rsn_put_b]
      have sB : ∀ b o, b ≠ r → H1 b = some o → upd (upd (upd (upd H1 r (.ins A.R dx (rsnF (.ref p) bv0))) c (.lst [])) d (.lst [.ref c])) r (.ins A.R dx (rsnF (.ref p) (.ref d))) b = some o := fun b o hb h => by
        have hbc : b ≠ c := fun z => by rw [z] at h; rw [upd_ne hcr, h] at hc; cases hc
        have hbd : b ≠ d := fun z => by rw [z] at h; rw [upd_ne hdc, upd_ne hdr, h] at hd; cases hd
        rw [upd_ne hb, upd_ne hbd, upd_ne hbc, upd_ne hb]
        exact h
      have s2 : Same (del Z H1 r) (del Z (upd (upd (upd (upd H1 r (.ins A.R dx (rsnF (.ref p) bv0))) c (.lst [])) d (.lst [.ref c])) r (.ins A.R dx (rsnF (.ref p) (.ref d)))) r) := fun b o h => by
        have hb := del_ne h
        have hz := del_nz h
        rw [del_of hb hz] at h ⊢
        exact sB b o hb h
      have hZ1 := s1 _ _ hZ
      have hcZ : c ≠ Z := fun z => by rw [z] at hc; rw [upd_ne (fun q => hcr (by rw [z, q])), hZ1] at hc; cases hc
      have hdZ : d ≠ Z := fun z => by rw [z] at hd; rw [upd_ne (fun q => hdc (by rw [z, q])), upd_ne (fun q => hdr (by rw [z, q])), hZ1] at hd; cases hd
      refine k _ (fun b o h => sB b o (but_ne h) (s1 _ _ (but_le _ _ h))) ⟨dx, _, _, upd_same, p, d, rfl, rfl, (hP.mono (del_mono s1)).mono s2, [c], ?_, .cons ⟨[], ?_, .nil⟩ .nil⟩
      · rw [del_of hdr hdZ, upd_ne hdr, upd_same]
        rfl
      · rw [del_of hcr hcZ, upd_ne hcr, upd_ne hdc.symm, upd_same]
        rfl
/-- a branch and one bound more -/
def RBr (A : Ads) (G0 : Hp) : Hp → V → List Kh219.Le → Prop := fun G v y => ∃ (p : Addr) (bs : List Addr), v = .ref p ∧ G p = some (.lst (bs.map V.ref)) ∧ Paired (BoundAt A G0) bs y
theorem RBr.mono {A : Ads} {G0 : Hp} : ∀ G G' v y, Same G G' → RBr A G0 G v y → RBr A G0 G' v y := fun _ _ _ _ s ⟨p, bs, e, h, q⟩ => ⟨p, bs, e, s _ _ h, q⟩
theorem sc_Reasons_branch_out : FnScope ["self", "bounds", "first", "bound"] ["self", "bounds"] (defScope s_Reasons_branch_out) := ⟨rfl, rfl, rfl, by decide +kernel, rfl, by decide +kernel, by decide +kernel⟩
theorem ok_Reasons_branch_out (F : GM K A.R "branch_out" "Reasons.branch_out" s_Reasons_branch_out ["self", "bounds"]) (T : TxtS K mg A) (G : TxtG mg) :
    PrM P w K mg base 1 "branch_out" A.R ["self", "bounds"] (spBranchOut A) := by
  refine F.prM T.cl sc_Reasons_branch_out (fun vs H Q E h => ?_) (fun f cdv Ar outer s H vs Q E hr h => ?_)
  · obtain ⟨r, a, Z, oz, s, b, rest, ls, rfl, _⟩ := h
    rfl
  · obtain ⟨r, a, Z, oz, z, b, rest, ls, rfl, hZ, ⟨dx, pv0, bv0, hr0, hst⟩, W, wf, eb, hs, hls, k⟩ := h
    obtain ⟨q, c, rfl, rfl, hP, as, hc, hp⟩ := hst
    rw [eb] at hp
    cases hp with
    | @cons a0 _ as0 _ h0 hp =>
      obtain ⟨bs0, hb0, hpb0⟩ := h0
      obtain ⟨bs, ha, hpb⟩ := hs
      have nd := sc_Reasons_branch_out.nd
      have hl := paired_len hpb
      have hl0 := paired_len hpb0
      have hlr := paired_len hp
      have wb := (W.each b (by rw [eb]; exact List.mem_cons_self ..)).1
      rw [eb, List.length_cons] at wf
      refine ⟨_, pss_cons (ps_set (i := 2) nd rfl (Or.inr rfl) (pe_ix ix_list (pe_fld (pv 0) rfl) pe_int (fun _ _ => rfl)))
        (pss_cons (ps_if (PW.pt (pw_and (pt_truth (pv 1) (fun _ => rfl)) (pw_and1 (pt_cmpR op_ge (pe_callB call_len_seq rfl G.len boot_len (pa_cons (pv 2) pa_nil)) (pe_gi T.MOST_BOUNDS rfl) (nomark _))))) (pss_one (ps_ret (pe_gi T.TOO_MANY rfl))) pss_nil)
        (pss_cons (ps_fld (pv 0) (pe_op op_cat (pe_lc rfl nd (pi_list (pv 1)) (blkOk_by (own := [("bound", 3)]) (by kernel_rfl)) (fun _ _ _ _ _ => pg_name (i := 3) nd rfl (Or.inl rfl)) (fun _ _ _ _ _ => pts_nil)
          (fun _ _ _ _ _ => pe_op op_cat (pv 2) (pe_lst (pa_cons (pv 3) pa_nil)))) (pe_slice sl_list (pe_fld (pv 0) rfl) (po_some pe_int) po_none)) rfl)
        (pss_one (ps_ret (pe_ifExp (pt_truth (pe_fld (pv 0) rfl) (fun _ => rfl)) pe_int pe_int))))), ?_⟩
      have hc1 := del_le _ _ hc
      have ha1 := del_le _ _ ha
      have hb1 := del_le _ _ hb0
      refine ⟨_, rfl, r, A.R, dx, _, _, rfl, hr0, T.cl, T.nb, rsn_b _ _, c, _, _, _, rfl, rfl, SqL.of hc1, atI_nat (j := 0) rfl, ?_⟩
      -- the way on: the branches are parted
      have go : ¬ (512 ≤ b.length ∧ ls ≠ []) → (tSeq (sFld K (tVar 0) (tOp rCat (tLc (iList K (tVar 1)) (gName 3) tYes (tOp rCat (tVar 2) (tLst (tCons (tVar 3) tNil))) [3]) (tSl (rSlL K) (tFld K (tVar 0) "branches") (tPart (tC (.int 1))) tNoPart)) "branches")
          (tRet (tIf (fun σ H Q => tFld K (tVar 0) "branches" σ H fun x H' => ∃ k, TruV K x H' k ∧ Q k H') (tC (.int 0)) (tC (.int 1))))) { nx := fun _ H' => Q .non H', rt := Q } [some (.ref r), some (.ref a), some (.ref a0), none] H := by
        intro hno
        have ep : z.part b rest ls = ({ z with branches := (ls.map fun y => b ++ [y]) ++ rest }, Kh219.say (if (ls.map fun y => b ++ [y]) ++ rest = [] then 1 else 0)) := by
          exact if_neg (c := Kh219.DEEP ≤ b.length ∧ ls ≠ []) hno
        rw [ep] at k
        refine ⟨_, rfl, a, rfl, ⟨_, SqL.of ha1⟩, fun D hD => ?_⟩
        refine lc_mapL (R := RBr A (del Z H r)) RBr.mono (K := K) (a := a) (xs := bs.map V.ref) (ys := ls.map fun y => b ++ [y]) hD (by rw [List.length_map]; omega) (by rw [List.length_map, List.length_map, hl]) (SqL.of ha1)
          (fun j x y H1 hx hy s1 Qv hqv => ?_) (fun H1 acc s1 e p => ?_)
        · obtain ⟨d, hd, rfl⟩ := map_at hx
          obtain ⟨l, hl1, hd1⟩ := paired_at hpb hd
          rw [List.getElem?_map, hl1] at hy
          have ey : b ++ [l] = y := Option.some.inj hy
          refine ⟨_, rfl, _, rfl, (by show 1 ≤ sizeLine; decide), fun t ht => ?_⟩
          have s2 : Same H1 (upd H1 t (.lst [.ref d])) := same_upd_new ht
          refine ⟨a0, t, _, _, rfl, rfl, s2 _ _ (s1 _ _ hb1), upd_same, small_line (by rw [List.length_map, hl0]; show b.length + 1 ≤ 1000000; omega), fun u hu => ?_⟩
          refine hqv _ _ (s2.trans (same_upd_new hu)) ⟨u, bs0 ++ [d], rfl, newp_of (s2.free hu) (by rw [upd_same, List.map_append]; rfl), ?_⟩
          rw [← ey]
          exact paired_snoc hpb0 hd1
        · have hlacc := paired_len p
          rw [List.length_map] at hlacc
          have hr1 := s1 _ _ hr0
          refine ⟨_, rfl, r, A.R, dx, _, _, rfl, hr1, T.cl, T.nb, rsn_b _ _, 1, rfl, c, _, rfl, SqL.of (s1 _ _ hc1), fun t ht => ?_⟩
          have e3 : cutV ((a0 :: as0).map V.ref) (some 1) none = as0.map V.ref := by
            rw [show (1 : Int) = ((1 : Nat) : Int) from rfl, cut_from _ _ (by rw [List.length_map, List.length_cons]; omega)]
            rfl
          rw [e3]
          have hDt : D ≠ t := ne_of_none e ht
          refine ⟨D, t, _, _, rfl, rfl, by rw [upd_ne hDt]; exact e, upd_same, small_line (by rw [List.length_map]; omega), fun u hu => ?_⟩
          have hrt : r ≠ t := ne_of_none hr1 ht
          have hur : u ≠ r := fun q => by rw [q, upd_ne hrt, hr1] at hu; cases hu
          refine ⟨_, rfl, r, A.R, dx, _, rfl, by rw [upd_ne hur.symm, upd_ne hrt]; exact hr1, T.cl, T.nb, by rw [rsn_eq]; show 2 < 1000; decide, ?_⟩
          rw [rsn_put_b]
          refine ⟨_, rfl, r, A.R, dx, _, _, rfl, upd_same, T.cl, T.nb, rsn_b _ _, _, .inl ⟨_, SqL.of (by rw [upd_ne hur, upd_same]), rfl⟩, ?_⟩
          obtain ⟨ps, eps, pps⟩ := paired_refs (S := fun p y => ∃ bs : List Addr, newp (upd H D (.lst [])) H1 p = some (.lst (bs.map V.ref)) ∧ Paired (BoundAt A (del Z H r)) bs y) (fun v y ⟨p, bs, h1, h2, h3⟩ => ⟨p, h1, bs, h2, h3⟩) p
          have sB : ∀ d o, d ≠ r → H1 d = some o → upd (upd (upd H1 t (.lst (as0.map V.ref))) u (.lst (acc ++ as0.map V.ref))) r (.ins A.R dx (rsnF (.ref q) (.ref u))) d = some o := fun d o hd h1 => by
            have hdt : d ≠ t := ne_of_none h1 ht
            have hdu : d ≠ u := fun z => by rw [z] at h1; rw [z] at hdt; rw [upd_ne hdt, h1] at hu; cases hu
            rw [upd_ne hd, upd_ne hdu, upd_ne hdt]
            exact h1
          have sG : Same (del Z H r) (del Z (upd (upd (upd H1 t (.lst (as0.map V.ref))) u (.lst (acc ++ as0.map V.ref))) r (.ins A.R dx (rsnF (.ref q) (.ref u)))) r) := fun d o h => by
            have h1 := del_mono s1 _ _ h
            have hd := del_ne h1
            have hz := del_nz h1
            rw [del_of hd hz] at h1 ⊢
            exact sB d o hd h1
          have sN : ∀ d o, newp (upd H D (.lst [])) H1 d = some o → del Z (upd (upd (upd H1 t (.lst (as0.map V.ref))) u (.lst (acc ++ as0.map V.ref))) r (.ins A.R dx (rsnF (.ref q) (.ref u)))) r d = some o := fun d o h => by
            obtain ⟨h1, h2⟩ := newp_some h
            have hd : d ≠ r := fun z => by
              rw [z, upd_ne (ne_of_none hr0 hD), hr0] at h1
              cases h1
            have hz : d ≠ Z := fun z => by
              rw [z, upd_ne (ne_of_none hZ hD), hZ] at h1
              cases h1
            rw [del_of hd hz]
            exact sB d o hd h2
          have huZ : u ≠ Z := fun z => by
            have hZ1 := s1 _ _ hZ
            rw [z, upd_ne (ne_of_none hZ1 ht), hZ1] at hu
            cases hu
          have fin : ∀ i : Int, i = (if (ls.map fun y => b ++ [y]) ++ rest = [] then 1 else 0) → Q (.int i) (upd (upd (upd H1 t (.lst (as0.map V.ref))) u (.lst (acc ++ as0.map V.ref))) r (.ins A.R dx (rsnF (.ref q) (.ref u)))) := by
            intro i ei
            rw [ei]
            refine k _ (fun d o h => sB d o (but_ne h) (s1 _ _ (but_le _ _ h))) ⟨dx, _, _, upd_same, q, u, rfl, rfl, hP.mono sG, ps ++ as0, ?_, ?_⟩
            · rw [del_upd, del_of hur huZ, upd_same, eps, List.map_append]
            · exact paired_app (paired_mono pps fun p y ⟨bs, h1, h2⟩ => ⟨bs, sN _ _ h1, paired_mono h2 fun _ _ => BoundAt.mono sG⟩) (paired_mono hp fun _ _ => SomeAt.mono sG)
          have hem : (acc ++ as0.map V.ref).isEmpty = decide ((ls.map fun y => b ++ [y]) ++ rest = []) := by
            have e1 : (acc ++ as0.map V.ref).length = ((ls.map fun y => b ++ [y]) ++ rest).length := by
              rw [List.length_append, List.length_append, List.length_map, List.length_map, hlacc, hlr]
            cases h1 : acc ++ as0.map V.ref with
            | nil =>
              rw [h1] at e1
              rw [decide_eq_true (List.eq_nil_of_length_eq_zero e1.symm)]
              rfl
            | cons v vs =>
              rw [h1] at e1
              rw [decide_eq_false (fun z => by rw [z] at e1; cases e1)]
              rfl
          rw [hem]
          by_cases hn : (ls.map fun y => b ++ [y]) ++ rest = []
          · rw [decide_eq_true hn]
            exact iteF (fin 1 (by rw [if_pos hn]))
          · rw [decide_eq_false hn]
            exact iteT (fin 0 (by rw [if_neg hn]))
      -- bounds and len(first) >= MOST_BOUNDS
      refine ⟨_, rfl, _, .inl ⟨_, SqL.of ha1, rfl⟩, ?_⟩
      cases els : ls with
      | nil =>
        have : bs = [] := List.eq_nil_of_length_eq_zero (by rw [hl, els]; rfl)
        rw [this]
        exact iteF (go (fun h => h.2 els))
      | cons y ys =>
        obtain ⟨d, ds, ed⟩ : ∃ d ds, bs = d :: ds := by
          cases bs with
          | nil => rw [els] at hl; cases hl
          | cons d ds => exact ⟨d, ds, rfl⟩
        rw [ed]
        refine iteT ⟨_, rfl, a0, _, rfl, .inl (SqL.of hb1), _, _, rfl, rfl, _, rfl, ?_⟩
        rw [List.length_map, hl0]
        by_cases h5 : 512 ≤ b.length
        · rw [decide_eq_true (by omega)]
          have ep : z.part b rest ls = (z, Kh219.say (-28)) := by
            exact if_pos (c := Kh219.DEEP ≤ b.length ∧ ls ≠ []) ⟨h5, by rw [els]; exact List.cons_ne_nil _ _⟩
          rw [ep] at k
          exact iteT (k H but_le ⟨dx, _, _, hr0, q, c, rfl, rfl, hP, by rw [eb]; exact ⟨_, hc, .cons ⟨bs0, hb0, hpb0⟩ hp⟩⟩)
        · rw [decide_eq_false (by omega)]
          exact iteF (go (fun h => h5 h.1))
end
end Wn
end
section
set_option maxRecDepth 100000
set_option maxHeartbeats 4000000
namespace Wn
open PySem PySem.Spec PyProof.Rows L2
section
variable {P : Program} {w : World} {K : PySem.W.Frag} {mg : Str → Option Value} {base : Heap} {A : Ads}
/-- what cases and some are handed -/
def ArgCases (A : Ads) : Hp → List V → Kh219.Line → Prop := fun G as l => ∃ (b : Addr) (z : Kh219.Le), as = [.ref b] ∧ BoundAt A G b z ∧ z.c.length = 12 ∧ l = .cases z
def ArgSome : Hp → List V → Kh219.Line → Prop := fun _ as l => ∃ p : Nat, as = [.int p] ∧ l = .some_ p
theorem sc_Reasons_cases : FnScope ["self", "le"] ["self", "le"] (defScope s_Reasons_cases) := ⟨rfl, rfl, rfl, by decide +kernel, rfl, by decide +kernel, by decide +kernel⟩
theorem ok_Reasons_cases (F : GM K A.R "cases" "Reasons.cases" s_Reasons_cases ["self", "le"]) (PB : Pr P w K mg base 1 "bound_as_told" ["bound", "unknowns"] (spBoundAsTold A)) (PO : Pr P w K mg base 3 "opposite" ["bound"] (spOpposite A)) (PM : PrM P w K mg base 1 "branch_out" A.R ["self", "bounds"] (spBranchOut A))
    (T : TxtS K mg A) (TP : TxtP K mg A) : PrM P w K mg base 4 "cases" A.R ["self", "le"] (spLine A (ArgCases A)) := by
  refine F.prM T.cl sc_Reasons_cases (fun vs H Q E h => ?_) (fun f cdv Ar outer s H vs Q E hr h => ?_)
  · obtain ⟨r, Z, oz, s, l, as, rfl, h1, _⟩ := h
    rw [List.length_cons, h1]
    rfl
  · obtain ⟨r, Z, oz, z, l, as, rfl, _, hZ, hS, W, wf, ⟨b, y, rfl, hb, hy, rfl⟩, k⟩ := h
    obtain ⟨dx, pv0, bv0, hr0, hst⟩ := id hS
    obtain ⟨q, c, rfl, rfl, hP, as, hc, hp⟩ := hst
    obtain ⟨dp, lo, hi, fa, so, fas, ss, I⟩ := id hP
    have hl := paired_len hp
    refine ⟨_, pss_cons (ps_if (pt_not (pt_truth (pe_fld (pv 0) rfl) (fun _ => rfl))) (pss_one (ps_ret (pe_gi T.NOT_THERE rfl))) pss_nil)
      (pss_cons (ps_if (pt_not (pt_val (pe_p PB (hr.mono (by decide)) rfl (pa_cons (pv 1) (pa_cons (pe_fld (pe_fld (pv 0) rfl) rfl) pa_nil))))) (pss_one (ps_ret (pe_gi T.NOT_AS_TOLD rfl))) pss_nil)
      (pss_one (ps_ret (pe_pm PM (pv 0) (hr.mono (by decide)) (pa_cons (pe_lst (pa_cons (pv 1) (pa_cons (pe_p PO hr rfl (pa_cons (pv 1) pa_nil)) pa_nil))) pa_nil))))), ?_⟩
    refine ⟨_, rfl, r, A.R, dx, _, _, rfl, hr0, T.cl, T.nb, rsn_b _ _, _, .inl ⟨_, SqL.of (del_le _ _ hc), rfl⟩, ?_⟩
    cases eb : z.branches with
    | nil =>
      rw [eb] at hp
      cases hp
      have es : Kh219.step z (.cases y) = (z, Kh219.say (-2)) := by unfold Kh219.step; rw [eb]
      rw [es] at k
      exact iteT (k H but_le hS)
    | cons b0 rest =>
      obtain ⟨a0, as0, rfl⟩ : ∃ a0 as0, as = a0 :: as0 := by
        rw [eb] at hl
        cases as with
        | nil => cases hl
        | cons a0 as0 => exact ⟨a0, as0, rfl⟩
      refine iteF ⟨_, rfl, _, rfl, r, A.R, dx, _, _, rfl, hr0, T.cl, T.np, rsn_p _ _, q, A.P, dp, _, _, rfl, del_le _ _ I.ob, TP.cl, TP.nu, pln_u _ _ _ _ _, b, y, z.plan.unknowns, rfl, hb.mono del_le, hy, fun H1 s1 => ⟨_, rfl, ?_⟩⟩
      cases eo : Kh219.okLe z.plan.unknowns y with
      | false =>
        have es : Kh219.step z (.cases y) = (z, Kh219.say (-22)) := by unfold Kh219.step; rw [eb]; show (if Kh219.okLe z.plan.unknowns y = false then _ else _) = _; rw [if_pos eo]
        rw [es] at k
        exact iteT (k H1 (fun d o h => s1 _ _ (but_le _ _ h)) (hS.mono s1))
      | true =>
        have es : Kh219.step z (.cases y) = z.part b0 rest [y, y.opposite] := by unfold Kh219.step; rw [eb]; show (if Kh219.okLe z.plan.unknowns y = false then _ else _) = _; rw [if_neg (by rw [eo]; decide)]
        rw [es] at k
        have hr1 := s1 _ _ hr0
        refine iteF ⟨_, rfl, r, dx, _, rfl, hr1, rsn_no _ _ (by decide +kernel) (by decide +kernel), _, rfl, _, rfl, b, y, rfl, (hb.mono del_le).mono s1, hy, fun H2 o s2 ho => ⟨(by show 2 ≤ sizeLine; decide), fun t ht => ?_⟩⟩
        have s12 : Same H H2 := s1.trans s2
        have s3 : Same H2 (upd H2 t (.lst [.ref b, .ref o])) := same_upd_new ht
        have s13 : Same H (upd H2 t (.lst [.ref b, .ref o])) := s12.trans s3
        have hr2 := s2 _ _ hr1
        have htr : t ≠ r := (ne_of_none hr2 ht).symm
        have htZ : t ≠ Z := (ne_of_none (s12 _ _ hZ) ht).symm
        refine ⟨r, t, Z, oz, z, b0, rest, [y, y.opposite], rfl, s13 _ _ hZ, hS.mono s13, W, wf, eb, ⟨[b, o], by rw [del_of htr htZ, upd_same]; rfl, .cons (hb.mono (del_mono s13)) (.cons ((ho.mono (del_new hr1 (s1 _ _ hZ))).mono (del_mono s3)) .nil)⟩, by simp, fun H' sH hS' => k H' (fun d u h => sH _ _ (but_mono s13 _ _ h)) hS'⟩
theorem sc_Reasons_some : FnScope ["self", "p"] ["self", "p"] (defScope s_Reasons_some) := ⟨rfl, rfl, rfl, by decide +kernel, rfl, by decide +kernel, by decide +kernel⟩
theorem ok_Reasons_some (F : GM K A.R "some" "Reasons.some" s_Reasons_some ["self", "p"]) (PM : PrM P w K mg base 1 "branch_out" A.R ["self", "bounds"] (spBranchOut A))
    (T : TxtS K mg A) (TP : TxtP K mg A) (G : TxtG mg) : PrM P w K mg base 2 "some" A.R ["self", "p"] (spLine A ArgSome) := by
  refine F.prM T.cl sc_Reasons_some (fun vs H Q E h => ?_) (fun f cdv Ar outer s H vs Q E hr h => ?_)
  · obtain ⟨r, Z, oz, s, l, as, rfl, h1, _⟩ := h
    rw [List.length_cons, h1]
    rfl
  · obtain ⟨r, Z, oz, z, l, as, rfl, _, hZ, hS, W, wf, ⟨p, rfl, rfl⟩, k⟩ := h
    obtain ⟨dx, pv0, bv0, hr0, hst⟩ := id hS
    obtain ⟨q, c, rfl, rfl, hP, as, hc, hp⟩ := hst
    obtain ⟨dp, lo, hi, fa, so, fas, ss, I⟩ := id hP
    have hl := paired_len hp
    have hls := paired_len I.each
    refine ⟨_, pss_cons (ps_if (pt_not (pt_truth (pe_fld (pv 0) rfl) (fun _ => rfl))) (pss_one (ps_ret (pe_gi T.NOT_THERE rfl))) pss_nil)
      (pss_cons (ps_if (pt_cmpR op_ge (pv 1) (pe_callB call_len_seq rfl G.len boot_len (pa_cons (pe_fld (pe_fld (pv 0) rfl) rfl) pa_nil)) (nomark _)) (pss_one (ps_ret (pe_gi T.NOT_AS_TOLD rfl))) pss_nil)
      (pss_one (ps_ret (pe_pm PM (pv 0) hr (pa_cons (pe_ix ix_list (pe_fld (pe_fld (pv 0) rfl) rfl) (pv 1) (fun _ _ => rfl)) pa_nil))))), ?_⟩
    refine ⟨_, rfl, r, A.R, dx, _, _, rfl, hr0, T.cl, T.nb, rsn_b _ _, _, .inl ⟨_, SqL.of (del_le _ _ hc), rfl⟩, ?_⟩
    cases eb : z.branches with
    | nil =>
      rw [eb] at hp
      cases hp
      have es : Kh219.step z (.some_ p) = (z, Kh219.say (-2)) := by unfold Kh219.step; rw [eb]
      rw [es] at k
      exact iteT (k H but_le hS)
    | cons b0 rest =>
      obtain ⟨a0, as0, rfl⟩ : ∃ a0 as0, as = a0 :: as0 := by
        rw [eb] at hl
        cases as with
        | nil => cases hl
        | cons a0 as0 => exact ⟨a0, as0, rfl⟩
      refine iteF ⟨_, rfl, _, rfl, r, A.R, dx, _, _, rfl, hr0, T.cl, T.np, rsn_p _ _, q, A.P, dp, _, _, rfl, del_le _ _ I.ob, TP.cl, TP.ns, pln_somes _ _ _ _ _, so, _, rfl, .inl (SqL.of (del_le _ _ I.somes)), _, _, rfl, rfl, _, rfl, ?_⟩
      rw [List.length_map, hls]
      cases ep : z.plan.somes[p]? with
      | none =>
        have hn : z.plan.somes.length ≤ p := List.getElem?_eq_none_iff.mp ep
        have es : Kh219.step z (.some_ p) = (z, Kh219.say (-22)) := by unfold Kh219.step; rw [eb]; show (match z.plan.somes[p]? with | some s => z.part b0 rest s | none => (z, Kh219.say (-22))) = _; rw [ep]
        rw [es] at k
        rw [decide_eq_true (by omega)]
        exact iteT (k H but_le hS)
      | some sm =>
        have hn : p < z.plan.somes.length := (List.getElem?_eq_some_iff.mp ep).1
        have es : Kh219.step z (.some_ p) = z.part b0 rest sm := by unfold Kh219.step; rw [eb]; show (match z.plan.somes[p]? with | some s => z.part b0 rest s | none => (z, Kh219.say (-22))) = _; rw [ep]
        rw [es] at k
        rw [decide_eq_false (by omega)]
        obtain ⟨sa, hsa, hsm⟩ := paired_at' I.each ep
        have hg := (good_parts W.plan W.good).2.2.2.2 sm (List.mem_of_getElem? ep)
        exact iteF ⟨_, rfl, r, dx, _, rfl, hr0, rsn_no _ _ (by decide +kernel) (by decide +kernel), _, rfl, r, A.R, dx, _, _, rfl, hr0, T.cl, T.np, rsn_p _ _, q, A.P, dp, _, _, rfl, del_le _ _ I.ob, TP.cl, TP.ns, pln_somes _ _ _ _ _, _, rfl, so, _, _, _, rfl, rfl, SqL.of (del_le _ _ I.somes), atI_nat (j := p) (by rw [List.getElem?_map, hsa]; rfl),
          r, sa, Z, oz, z, b0, rest, sm, rfl, hZ, hS, W, wf, eb, hsm, by omega, k⟩
end
end Wn
end
section
set_option maxRecDepth 100000
set_option maxHeartbeats 4000000
namespace Wn
open PySem PySem.Spec PyProof.Rows L2
theorem divided_len {l : Kh219.Le} {g : Nat} (h : l.c.length = 12) : (l.divided g).c.length = 12 := by
  show (l.c.map _).length = 12
  rw [List.length_map, h]
theorem all_len (s : Kh219.Sum) (q : Kh219.Plan) (br : List Kh219.Le) : (s.all q br).c.length = 12 := by
  rw [all_eq]
  exact cN_len _ _ _
def spLessonM (A : Ads) : Sp := fun vs H Q _ => ∃ (r Z : Addr) (oz : HO) (s : Kh219.Abs) (k i j b : Nat), vs = [.ref r, .int k, .int i, .int j, .int b] ∧ H Z = some oz ∧ StAt A Z H r (some s) ∧ WfAbs s ∧ s.branches.length ≤ 20000 ∧
  Done A Z H r (some (Kh219.step s (.lesson k i j b)).1) (Kh219.step s (.lesson k i j b)).2.ret Q
def spAddUp (A : Ads) : Sp := fun vs H Q _ => ∃ (r a Z : Addr) (oz : HO) (s : Kh219.Abs) (z : Kh219.Sum), vs = [.ref r, .ref a] ∧ H Z = some oz ∧ StAt A Z H r (some s) ∧ WfAbs s ∧ s.branches.length ≤ 20000 ∧ RecAt A (del Z H r) a z ∧ z.low.length = 12 ∧ z.high.length = 12 ∧
  Done A Z H r (some (Kh219.step s (.sum z)).1) (Kh219.step s (.sum z)).2.ret Q
def holdsOut (s : Kh219.Abs) (k : Nat) : List Int := match s.branches.head?.bind fun b => b[k]? with
  | some l => 0 :: (l.c ++ [l.d])
  | none => [-2]
def spHolds (A : Ads) : Sp := fun vs H Q _ => ∃ (r Z : Addr) (s : Kh219.Abs) (k : Nat), vs = [.ref r, .int k] ∧ StAt A Z H r (some s) ∧ WfAbs s ∧ s.branches.length ≤ 20000 ∧ ∀ H' D, Same H H' → IntsAt (newp H H') D (holdsOut s k) → Q (.ref D) H'
def spHowMany (A : Ads) : Sp := fun vs H Q _ => ∃ (r Z : Addr) (s : Kh219.Abs), vs = [.ref r] ∧ StAt A Z H r (some s) ∧ Q (.int (s.branches.length : Int)) H
section
variable {P : Program} {w : World} {K : PySem.W.Frag} {mg : Str → Option Value} {base : Heap} {A : Ads}
theorem sc_sum_bound : FnScope ["recipe", "plan", "branch", "whole", "bound"] ["recipe", "plan", "branch"] (defScope s_sum_bound) := ⟨rfl, rfl, rfl, by decide +kernel, rfl, by decide +kernel, by decide +kernel⟩
theorem ok_sum_bound (F : GF K mg "sum_bound" s_sum_bound ["recipe", "plan", "branch"]) (PR : Pr P w K mg base 2 "recipe_as_told" ["recipe", "unknowns", "size"] (spRecOk A)) (PA0 : Pr P w K mg base 3 "added" ["recipe", "plan", "branch"] (spAdded A))
    (PD : Pr P w K mg base 1 "divides" ["by", "bound"] (spDivides A)) (PV : Pr P w K mg base 3 "divided" ["bound", "by"] (spDivided A)) (PB : Pr P w K mg base 1 "bound_as_told" ["bound", "unknowns"] (spBoundAsTold A)) (T : TxtT K mg A) (TP : TxtP K mg A) (G : TxtG mg) :
    Pr P w K mg base 4 "sum_bound" ["recipe", "plan", "branch"] (spSumBound A) := by
  refine F.pr sc_sum_bound (fun vs H Q E h => ?_) (fun f cdv Ar outer s H vs Q E hr h => ?_)
  · obtain ⟨a, p, b, z, q, br, rfl, _⟩ := h
    rfl
  · obtain ⟨a, p, b, z, q, br, rfl, hR, hP, W, hS, hbr, hl, hh, k1, k2⟩ := h
    have nd := sc_sum_bound.nd
    obtain ⟨dx, la, ha, ta, ts, I⟩ := id hR
    obtain ⟨dp, lo, hi, fa, so, as, ss, J⟩ := id hP
    obtain ⟨bs, hb, hpb⟩ := id hS
    have hlb := paired_len hpb
    have hr1 := hr.mono (j := 1) (by decide)
    have hr2 := hr.mono (j := 2) (by decide)
    refine ⟨_, pss_cons (ps_if (pt_not (pt_val (pe_p PR hr2 rfl (pa_cons (pv 0) (pa_cons (pe_fld (pv 1) rfl) (pa_cons (pe_callB call_len_seq rfl G.len boot_len (pa_cons (pv 2) pa_nil)) pa_nil)))))) (pss_one (ps_ret pe_non)) pss_nil)
      (pss_cons (ps_set (i := 3) nd rfl (Or.inl rfl) (pe_p PA0 hr rfl (pa_cons (pv 0) (pa_cons (pv 1) (pa_cons (pv 2) pa_nil)))))
      (pss_cons (ps_if (pt_not (pt_val (pe_p PD hr1 rfl (pa_cons (pe_fld (pv 0) rfl) (pa_cons (pv 3) pa_nil))))) (pss_one (ps_ret pe_non)) pss_nil)
      (pss_cons (ps_set (i := 4) nd rfl (Or.inl rfl) (pe_p PV hr rfl (pa_cons (pv 3) (pa_cons (pe_fld (pv 0) rfl) pa_nil))))
      (pss_one (ps_ret (pe_ifExp (pt_val (pe_p PB hr1 rfl (pa_cons (pv 4) (pa_cons (pe_fld (pv 1) rfl) pa_nil)))) (pv 4) pe_non)))))), ?_⟩
    have eok := okSum_eq (p := q) (b := br) hl hh
    have no : Kh219.okSum z q br = false → ∀ H', Same H H' → Q .non H' := fun h => k1 (by unfold sumRes; rw [h]; rfl)
    refine ⟨_, rfl, _, rfl, p, A.P, dp, _, _, rfl, J.ob, TP.cl, TP.nu, pln_u _ _ _ _ _, _, rfl, b, _, rfl, .inl (SqL.of hb), a, z, q.unknowns, br.length, by rw [List.length_map, hlb]; rfl, hR, hl, hh, fun H1 s1 => ⟨_, rfl, ?_⟩⟩
    cases e1 : recOk z q.unknowns br.length with
    | false => exact iteT (no (by rw [eok, e1, Bool.false_and]) H1 s1)
    | true =>
      rw [e1, Bool.true_and] at eok
      obtain ⟨o1, _⟩ := recOk_parts e1
      refine iteF ⟨_, rfl, _, rfl, _, rfl, a, p, b, z, q, br, rfl, hR.mono s1, hP.mono s1, W, hS.mono s1, hbr, hl, hh, e1, fun H2 x s2 hx => ?_⟩
      have s12 := s1.trans s2
      have hx2 : BoundAt A H2 x (z.all q br) := hx.mono newp_le
      refine ⟨_, rfl, a, A.S, dx, _, _, rfl, s12 _ _ I.ob, T.cl, T.nb, rec_by _ _ _ _, _, rfl, z.by_, x, z.all q br, rfl, o1.1, hx2, all_len _ _ _, fun H3 s3 => ⟨_, rfl, ?_⟩⟩
      have s13 := s12.trans s3
      cases e2 : divOk z.by_ (z.all q br).c with
      | false => exact iteT (no (by rw [eok, e2, Bool.false_and]) H3 s13)
      | true =>
        rw [e2, Bool.true_and] at eok
        refine iteF ⟨_, rfl, _, rfl, a, A.S, dx, _, _, rfl, s13 _ _ I.ob, T.cl, T.nb, rec_by _ _ _ _, z.by_, x, z.all q br, rfl, o1.1, o1.2, hx2.mono s3, all_len _ _ _, fun H4 y s4 hy => ?_⟩
        have s14 := s13.trans s4
        refine ⟨_, rfl, _, rfl, p, A.P, dp, _, _, rfl, s14 _ _ J.ob, TP.cl, TP.nu, pln_u _ _ _ _ _, y, _, q.unknowns, rfl, hy.mono newp_le, divided_len (all_len _ _ _), fun H5 s5 => ⟨_, rfl, ?_⟩⟩
        cases e3 : Kh219.okLe q.unknowns ((z.all q br).divided z.by_) with
        | false => exact iteF (no (by rw [eok, e3]) H5 (s14.trans s5))
        | true => exact iteT ⟨_, rfl, k2 _ (by unfold sumRes; rw [eok, e3]; rfl) H5 y (s14.trans s5) ((hy.mono (newp_old s13)).mono (newp_trans s5))⟩
theorem sc_Reasons_lesson : FnScope ["self", "kind", "p", "q", "by", "bounds"] ["self", "kind", "p", "q", "by"] (defScope s_Reasons_lesson) := ⟨rfl, rfl, rfl, by decide +kernel, rfl, by decide +kernel, by decide +kernel⟩
theorem ok_Reasons_lesson (F : GM K A.R "lesson" "Reasons.lesson" s_Reasons_lesson ["self", "kind", "p", "q", "by"]) (PL : Pr P w K mg base 5 "lesson_bounds" ["facts", "kind", "which_p", "which_q", "by"] (spLesson A)) (PM : PrM P w K mg base 1 "branch_out" A.R ["self", "bounds"] (spBranchOut A))
    (T : TxtS K mg A) (TP : TxtP K mg A) : PrM P w K mg base 6 "lesson" A.R ["self", "kind", "p", "q", "by"] (spLessonM A) := by
  refine F.prM T.cl sc_Reasons_lesson (fun vs H Q E h => ?_) (fun f cdv Ar outer s H vs Q E hr h => ?_)
  · obtain ⟨r, Z, oz, z, k, i, j, b, rfl, _⟩ := h
    rfl
  · obtain ⟨r, Z, oz, z, kd, i, j, by0, rfl, hZ, hS, W, wf, k⟩ := h
    have nd := sc_Reasons_lesson.nd
    obtain ⟨dx, pv0, bv0, hr0, hst⟩ := id hS
    obtain ⟨q, c, rfl, rfl, hP, as, hc, hp⟩ := hst
    obtain ⟨dp, lo, hi, fa, so, fas, ss, I⟩ := id hP
    have hl := paired_len hp
    refine ⟨_, pss_cons (ps_if (pt_not (pt_truth (pe_fld (pv 0) rfl) (fun _ => rfl))) (pss_one (ps_ret (pe_gi T.NOT_THERE rfl))) pss_nil)
      (pss_cons (ps_set (i := 5) nd rfl (Or.inl rfl) (pe_p PL hr rfl (pa_cons (pe_fld (pe_fld (pv 0) rfl) rfl) (pa_cons (pv 1) (pa_cons (pv 2) (pa_cons (pv 3) (pa_cons (pv 4) pa_nil)))))))
      (pss_cons (ps_if (pt_cmpR op_isN (pv 5) pe_non (nomark _)) (pss_one (ps_ret (pe_gi T.NOT_AS_TOLD rfl))) pss_nil)
      (pss_one (ps_ret (pe_pm PM (pv 0) (hr.mono (by decide)) (pa_cons (pv 5) pa_nil)))))), ?_⟩
    refine ⟨_, rfl, r, A.R, dx, _, _, rfl, hr0, T.cl, T.nb, rsn_b _ _, _, .inl ⟨_, SqL.of (del_le _ _ hc), rfl⟩, ?_⟩
    cases eb : z.branches with
    | nil =>
      rw [eb] at hp
      cases hp
      have es : Kh219.step z (.lesson kd i j by0) = (z, Kh219.say (-2)) := by unfold Kh219.step; rw [eb]
      rw [es] at k
      exact iteT (k H but_le hS)
    | cons b0 rest =>
      obtain ⟨a0, as0, rfl⟩ : ∃ a0 as0, as = a0 :: as0 := by
        rw [eb] at hl
        cases as with
        | nil => cases hl
        | cons a0 as0 => exact ⟨a0, as0, rfl⟩
      have gp := good_parts W.plan W.good
      have hfacts : FactsAt A H fa fas z.plan.facts := I.facts.mono del_le
      refine iteF ⟨_, rfl, r, A.R, dx, _, _, rfl, hr0, T.cl, T.np, rsn_p _ _, q, A.P, dp, _, _, rfl, del_le _ _ I.ob, TP.cl, TP.nf, pln_facts _ _ _ _ _, _, rfl, _, rfl, _, rfl, _, rfl, fa, kd, i, j, by0, z.plan, fas, rfl, hfacts, gp.2.1, gp.2.2.1, gp.1.2, fun en H1 s1 => ?_, fun ls el H1 D s1 hD => ?_⟩
      · have es : Kh219.step z (.lesson kd i j by0) = (z, Kh219.say (-22)) := by unfold Kh219.step; rw [eb]; show (match Kh219.lesson z.plan kd i j by0 with | some s => z.part b0 rest s | none => (z, Kh219.say (-22))) = _; rw [en]
        rw [es] at k
        exact ⟨_, rfl, rfl, _, rfl, iteT (k H1 (fun d o h => s1 _ _ (but_le _ _ h)) (hS.mono s1))⟩
      · have es : Kh219.step z (.lesson kd i j by0) = z.part b0 rest ls := by unfold Kh219.step; rw [eb]; show (match Kh219.lesson z.plan kd i j by0 with | some s => z.part b0 rest s | none => (z, Kh219.say (-22))) = _; rw [el]
        rw [es] at k
        have hwf := lesson_wf el
        exact ⟨_, rfl, rfl, _, rfl, iteF ⟨_, rfl, r, dx, _, rfl, s1 _ _ hr0, rsn_no _ _ (by decide +kernel) (by decide +kernel), _, rfl, r, D, Z, oz, z, b0, rest, ls, rfl, s1 _ _ hZ, hS.mono s1, W, wf, eb, hD.mono (del_new hr0 hZ), by omega, fun H' sH hS' => k H' (fun d u h => sH _ _ (but_mono s1 _ _ h)) hS'⟩⟩
theorem sc_Reasons_add_up : FnScope ["self", "recipe", "bound"] ["self", "recipe"] (defScope s_Reasons_add_up) := ⟨rfl, rfl, rfl, by decide +kernel, rfl, by decide +kernel, by decide +kernel⟩
theorem ok_Reasons_add_up (F : GM K A.R "add_up" "Reasons.add_up" s_Reasons_add_up ["self", "recipe"]) (PS' : Pr P w K mg base 4 "sum_bound" ["recipe", "plan", "branch"] (spSumBound A)) (PN : Pr P w K mg base 1 "never_holds" ["bound"] (spNever A)) (PM : PrM P w K mg base 1 "branch_out" A.R ["self", "bounds"] (spBranchOut A))
    (T : TxtS K mg A) : PrM P w K mg base 5 "add_up" A.R ["self", "recipe"] (spAddUp A) := by
  refine F.prM T.cl sc_Reasons_add_up (fun vs H Q E h => ?_) (fun f cdv Ar outer s H vs Q E hr h => ?_)
  · obtain ⟨r, a, Z, oz, z, y, rfl, _⟩ := h
    rfl
  · obtain ⟨r, a, Z, oz, z, y, rfl, hZ, hS, W, wf, hR, hyl, hyh, k⟩ := h
    have nd := sc_Reasons_add_up.nd
    obtain ⟨dx, pv0, bv0, hr0, hst⟩ := id hS
    obtain ⟨q, c, rfl, rfl, hP, as, hc, hp⟩ := hst
    have hl := paired_len hp
    have hr1 := hr.mono (j := 1) (by decide)
    refine ⟨_, pss_cons (ps_if (pt_not (pt_truth (pe_fld (pv 0) rfl) (fun _ => rfl))) (pss_one (ps_ret (pe_gi T.NOT_THERE rfl))) pss_nil)
      (pss_cons (ps_set (i := 2) nd rfl (Or.inl rfl) (pe_p PS' hr rfl (pa_cons (pv 1) (pa_cons (pe_fld (pv 0) rfl) (pa_cons (pe_ix ix_list (pe_fld (pv 0) rfl) pe_int (fun _ _ => rfl)) pa_nil)))))
      (pss_cons (ps_if (pt_cmpR op_isN (pv 2) pe_non (nomark _)) (pss_one (ps_ret (pe_gi T.NOT_AS_TOLD rfl))) pss_nil)
      (pss_one (ps_ret (pe_pm PM (pv 0) hr1 (pa_cons (pe_ifExp (pt_val (pe_p PN hr1 rfl (pa_cons (pv 2) pa_nil))) (pe_lst pa_nil) (pe_lst (pa_cons (pv 2) pa_nil))) pa_nil)))))), ?_⟩
    refine ⟨_, rfl, r, A.R, dx, _, _, rfl, hr0, T.cl, T.nb, rsn_b _ _, _, .inl ⟨_, SqL.of (del_le _ _ hc), rfl⟩, ?_⟩
    cases eb : z.branches with
    | nil =>
      rw [eb] at hp
      cases hp
      have es : Kh219.step z (.sum y) = (z, Kh219.say (-2)) := by unfold Kh219.step; rw [eb]
      rw [es] at k
      exact iteT (k H but_le hS)
    | cons b0 rest =>
      rw [eb] at hp
      cases hp with
      | @cons a0 _ as0 _ h0 hp =>
        have hb0 := W.each b0 (by rw [eb]; exact List.mem_cons_self ..)
        have es : Kh219.step z (.sum y) = (if Kh219.okSum y z.plan b0 = false then (z, Kh219.say (-22)) else if Kh219.never ((y.all z.plan b0).divided y.by_) then ({ z with branches := rest }, Kh219.say (if rest = [] then 1 else 0)) else z.part b0 rest [(y.all z.plan b0).divided y.by_]) := by
          unfold Kh219.step
          rw [eb]
        refine iteF ⟨_, rfl, _, rfl, r, A.R, dx, _, _, rfl, hr0, T.cl, T.np, rsn_p _ _, _, rfl, r, A.R, dx, _, _, rfl, hr0, T.cl, T.nb, rsn_b _ _, c, _, _, _, rfl, rfl, SqL.of (del_le _ _ hc), atI_nat (j := 0) rfl, a, q, a0, y, z.plan, b0, rfl, hR.mono del_le, hP.mono del_le, W.plan, h0.mono del_le, hb0.2, hyl, hyh, fun en H1 s1 => ?_, fun l el H1 D s1 hD => ?_⟩
        · have eo : Kh219.okSum y z.plan b0 = false := by
            unfold sumRes at en
            split at en
            · cases en
            · rename_i hn
              exact Bool.eq_false_iff.mpr hn
          rw [es, if_pos eo] at k
          exact ⟨_, rfl, rfl, _, rfl, iteT (k H1 (fun d o h => s1 _ _ (but_le _ _ h)) (hS.mono s1))⟩
        · have eo : Kh219.okSum y z.plan b0 = true ∧ (y.all z.plan b0).divided y.by_ = l := by
            unfold sumRes at el
            split at el
            · rename_i hy
              exact ⟨hy, Option.some.inj el⟩
            · cases el
          rw [es, if_neg (by rw [eo.1]; decide), eo.2] at k
          have hl12 : l.c.length = 12 := by rw [← eo.2]; exact divided_len (all_len _ _ _)
          have hr1' := s1 _ _ hr0
          refine ⟨_, rfl, rfl, _, rfl, iteF ⟨_, rfl, r, dx, _, rfl, hr1', rsn_no _ _ (by decide +kernel) (by decide +kernel), _, rfl, D, l, rfl, hD.mono newp_le, hl12, fun H2 s2 => ⟨_, rfl, ?_⟩⟩⟩
          have s12 := s1.trans s2
          have hr2 := s2 _ _ hr1'
          cases en : Kh219.never l with
          | true =>
            rw [en] at k
            have ep : z.part b0 rest [] = ({ z with branches := rest }, Kh219.say (if rest = [] then 1 else 0)) := by
              exact if_neg (c := Kh219.DEEP ≤ b0.length ∧ ([] : List Kh219.Le) ≠ []) (fun h => h.2 rfl)
            have k' : Done A Z H r (some (z.part b0 rest []).1) (z.part b0 rest []).2.ret Q := by
              rw [ep]
              exact k
            refine iteT ⟨Nat.zero_le _, fun L hL => ?_⟩
            have s3 : Same H2 (upd H2 L (.lst [])) := same_upd_new hL
            have s13 := s12.trans s3
            have hLr : L ≠ r := (ne_of_none hr2 hL).symm
            have hLZ : L ≠ Z := (ne_of_none (s12 _ _ hZ) hL).symm
            exact ⟨r, L, Z, oz, z, b0, rest, [], rfl, s13 _ _ hZ, hS.mono s13, W, wf, eb, ⟨[], by rw [del_of hLr hLZ, upd_same]; rfl, .nil⟩, by decide, fun H' sH hS' => k' H' (fun d u h => sH _ _ (but_mono s13 _ _ h)) hS'⟩
          | false =>
            rw [en] at k
            have k' : Done A Z H r (some (z.part b0 rest [l]).1) (z.part b0 rest [l]).2.ret Q := k
            refine iteF ⟨_, rfl, (by show 1 ≤ sizeLine; decide), fun L hL => ?_⟩
            have s3 : Same H2 (upd H2 L (.lst [.ref D])) := same_upd_new hL
            have s13 := s12.trans s3
            have hLr : L ≠ r := (ne_of_none hr2 hL).symm
            have hLZ : L ≠ Z := (ne_of_none (s12 _ _ hZ) hL).symm
            exact ⟨r, L, Z, oz, z, b0, rest, [l], rfl, s13 _ _ hZ, hS.mono s13, W, wf, eb, ⟨[D], by rw [del_of hLr hLZ, upd_same]; rfl, .cons ((hD.mono (del_new hr0 hZ)).mono (del_mono (s2.trans s3))) .nil⟩, (by show 1 ≤ 100; decide), fun H' sH hS' => k' H' (fun d u h => sH _ _ (but_mono s13 _ _ h)) hS'⟩
theorem sc_Reasons_holds : FnScope ["self", "k", "bound"] ["self", "k"] (defScope s_Reasons_holds) := ⟨rfl, rfl, rfl, by decide +kernel, rfl, by decide +kernel, by decide +kernel⟩
theorem ok_Reasons_holds (F : GM K A.R "holds" "Reasons.holds" s_Reasons_holds ["self", "k"]) (T : TxtS K mg A) (TB : TxtB K mg A) (G : TxtG mg) : PrM P w K mg base 1 "holds" A.R ["self", "k"] (spHolds A) := by
  refine F.prM T.cl sc_Reasons_holds (fun vs H Q E h => ?_) (fun f cdv Ar outer s H vs Q E hr h => ?_)
  · obtain ⟨r, Z, z, k, rfl, _⟩ := h
    rfl
  · obtain ⟨r, Z, z, n, rfl, hS, W, wf, k⟩ := h
    have nd := sc_Reasons_holds.nd
    obtain ⟨dx, pv0, bv0, hr0, hst⟩ := id hS
    obtain ⟨q, c, rfl, rfl, hP, as, hc, hp⟩ := hst
    have hl := paired_len hp
    have hc1 := del_le _ _ hc
    refine ⟨_, pss_cons (ps_if (PW.pt (pw_or (pt_not (pt_truth (pe_fld (pv 0) rfl) (fun _ => rfl))) (pw_or1 (pt_cmpR op_ge (pv 1) (pe_callB call_len_seq rfl G.len boot_len (pa_cons (pe_ix ix_list (pe_fld (pv 0) rfl) pe_int (fun _ _ => rfl)) pa_nil)) (nomark _))))) (pss_one (ps_ret (pe_lst (pa_cons (pe_gi T.NOT_THERE rfl) pa_nil)))) pss_nil)
      (pss_cons (ps_set (i := 2) nd rfl (Or.inl rfl) (pe_ix ix_list (pe_ix ix_list (pe_fld (pv 0) rfl) pe_int (fun _ _ => rfl)) (pv 1) (fun _ _ => rfl)))
      (pss_one (ps_ret (pe_op op_cat (pe_op op_cat (pe_lst (pa_cons pe_int pa_nil)) (pe_fld (pv 2) rfl)) (pe_lst (pa_cons (pe_fld (pv 2) rfl) pa_nil)))))), ?_⟩
    have no : holdsOut z n = [-2] → (1 ≤ sizeLine ∧ ∀ p, H p = none → Q (.ref p) (upd H p (.lst [.int (-2)]))) := fun e => ⟨by decide, fun L hL => k _ L (same_upd_new hL) (by rw [e]; exact newp_of hL upd_same)⟩
    refine ⟨_, rfl, r, A.R, dx, _, _, rfl, hr0, T.cl, T.nb, rsn_b _ _, _, .inl ⟨_, SqL.of hc1, rfl⟩, ?_⟩
    cases eb : z.branches with
    | nil =>
      rw [eb] at hp
      cases hp
      exact iteT (iteT (no (by unfold holdsOut; rw [eb]; rfl)))
    | cons b0 rest =>
      rw [eb] at hp
      cases hp with
      | @cons a0 _ as0 _ h0 hp =>
        obtain ⟨bs0, hb0, hpb0⟩ := h0
        have hl0 := paired_len hpb0
        have hb1 := del_le _ _ hb0
        refine iteF ⟨_, rfl, _, rfl, r, A.R, dx, _, _, rfl, hr0, T.cl, T.nb, rsn_b _ _, c, _, _, _, rfl, rfl, SqL.of hc1, atI_nat (j := 0) rfl, a0, _, rfl, .inl (SqL.of hb1), _, _, rfl, rfl, _, rfl, ?_⟩
        rw [List.length_map, hl0]
        refine ite2 (fun h1 => ?_) (fun h1 => ?_)
        · have h1 := of_decide_eq_true h1
          refine no ?_
          unfold holdsOut
          rw [eb]
          show (match b0[n]? with | some l => _ | none => _) = _
          rw [List.getElem?_eq_none_iff.mpr (by omega)]
        · have h1 := of_decide_eq_false (Bool.eq_false_iff.mpr h1)
          obtain ⟨l, hl1⟩ : ∃ l, b0[n]? = some l := ⟨_, List.getElem?_eq_getElem (by omega)⟩
          obtain ⟨ba, hba, db, cb, hbb, hcb⟩ := paired_at' hpb0 hl1
          have hl12 := (W.each b0 (by rw [eb]; exact List.mem_cons_self ..)).2 l (List.mem_of_getElem? hl1)
          have eo : holdsOut z n = 0 :: (l.c ++ [l.d]) := by
            unfold holdsOut
            rw [eb]
            show (match b0[n]? with | some l => _ | none => _) = _
            rw [hl1]
          have hbb1 := del_le _ _ hbb
          have hcb1 : IntsAt H cb l.c := hcb.mono del_le
          refine ⟨_, rfl, r, A.R, dx, _, _, rfl, hr0, T.cl, T.nb, rsn_b _ _, c, _, _, _, rfl, rfl, SqL.of hc1, atI_nat (j := 0) rfl, _, rfl, a0, _, _, _, rfl, rfl, SqL.of hb1, atI_nat (j := n) (by rw [List.getElem?_map, hba]; rfl), ?_⟩
          refine ⟨(by show 1 ≤ sizeLine; decide), fun L1 hL1 => ?_⟩
          have s1 : Same H (upd H L1 (.lst [.int 0])) := same_upd_new hL1
          refine ⟨_, rfl, ba, A.B, db, _, _, rfl, s1 _ _ hbb1, TB.cl, TB.nc, bnd_c _ _, L1, cb, _, _, rfl, rfl, upd_same, s1 _ _ hcb1, by rw [List.length_map, hl12]; decide, fun L2' hL2 => ?_⟩
          have s2 : Same (upd H L1 (.lst [.int 0])) (upd (upd H L1 (.lst [.int 0])) L2' (.lst ([.int 0] ++ l.c.map V.int))) := same_upd_new hL2
          have s12 := s1.trans s2
          refine ⟨_, rfl, ba, A.B, db, _, _, rfl, s12 _ _ hbb1, TB.cl, TB.nd, bnd_d _ _, (by show 1 ≤ sizeLine; decide), fun L3 hL3 => ?_⟩
          have s3 := same_upd_new (o := .lst [.int l.d]) hL3
          refine ⟨L2', L3, _, _, rfl, rfl, s3 _ _ upd_same, upd_same, by rw [List.length_append, List.length_map, hl12]; exact small_line (by show 1 + 12 + 1 ≤ 1000000; decide), fun L4 hL4 => ?_⟩
          have s4 := same_upd_new (o := .lst ([.int 0] ++ l.c.map V.int ++ [.int l.d])) hL4
          refine k _ L4 ((s12.trans s3).trans s4) ?_
          rw [eo]
          refine newp_of ((s12.trans s3).free hL4) ?_
          rw [upd_same, List.map_cons, List.map_append]
          rfl
theorem sc_Reasons_how_many : FnScope ["self"] ["self"] (defScope s_Reasons_how_many) := ⟨rfl, rfl, rfl, by decide +kernel, rfl, by decide +kernel, by decide +kernel⟩
theorem ok_Reasons_how_many (F : GM K A.R "how_many" "Reasons.how_many" s_Reasons_how_many ["self"]) (T : TxtS K mg A) (G : TxtG mg) : PrM P w K mg base 1 "how_many" A.R ["self"] (spHowMany A) := by
  refine F.prM T.cl sc_Reasons_how_many (fun vs H Q E h => ?_) (fun f cdv Ar outer s H vs Q E hr h => ?_)
  · obtain ⟨r, Z, z, rfl, _⟩ := h
    rfl
  · obtain ⟨r, Z, z, rfl, ⟨dx, pv0, bv0, hr0, hst⟩, k⟩ := h
    obtain ⟨q, c, rfl, rfl, hP, as, hc, hp⟩ := hst
    have hl := paired_len hp
    refine ⟨_, pss_one (ps_ret (pe_callB call_len_seq rfl G.len boot_len (pa_cons (pe_fld (pv 0) rfl) pa_nil))), ?_⟩
    refine ⟨_, rfl, r, A.R, dx, _, _, rfl, hr0, T.cl, T.nb, rsn_b _ _, c, _, rfl, .inl (SqL.of (del_le _ _ hc)), ?_⟩
    rw [List.length_map, hl]
    exact k
end
end Wn
end
section
set_option maxRecDepth 100000
set_option maxHeartbeats 4000000
namespace Wn
open PySem PySem.Spec PyProof.Rows L2
section
variable {P : Program} {w : World} {K : PySem.W.Frag} {mg : Str → Option Value} {base : Heap} {A : Ads}
def spMeets (A : Ads) : Sp := fun vs H Q _ => ∃ (p a : Addr) (q : Kh219.Plan) (xs : List Int), vs = [.ref p, .ref a] ∧ PlanAt A H p q ∧ WfPlan q ∧ IntsAt H a xs ∧ XsOk xs ∧ ∀ H', Same H H' → Q (.int (if Kh219.good q = false then -22 else if Kh219.meets q (nums xs) then 1 else 0)) H'
theorem sc_meets : FnScope ["plan", "x"] ["plan", "x"] (defScope s_meets) := ⟨rfl, rfl, rfl, by decide +kernel, rfl, by decide +kernel, by decide +kernel⟩
theorem ok_meets (F : GF K mg "meets" s_meets ["plan", "x"]) (PT : Pr P w K mg base 4 "plan_as_told" ["plan"] (spOfPlan A Kh219.good)) (PN : Pr P w K mg base 4 "numbers_meet" ["plan", "x"] (spMeet A)) (T : TxtS K mg A) :
    Pr P w K mg base 5 "meets" ["plan", "x"] (spMeets A) := by
  refine F.pr sc_meets (fun vs H Q E h => ?_) (fun f cdv Ar outer s H vs Q E hr h => ?_)
  · obtain ⟨p, a, q, xs, rfl, _⟩ := h
    rfl
  · obtain ⟨p, a, q, xs, rfl, hP, W, hx, hxs, k⟩ := h
    refine ⟨_, pss_cons (ps_if (pt_not (pt_val (pe_p PT hr rfl (pa_cons (pv 0) pa_nil)))) (pss_one (ps_ret (pe_gi T.NOT_AS_TOLD rfl))) pss_nil)
      (pss_one (ps_ret (pe_ifExp (pt_val (pe_p PN hr rfl (pa_cons (pv 0) (pa_cons (pv 1) pa_nil)))) pe_int pe_int))), ?_⟩
    refine ⟨_, rfl, p, q, rfl, hP, W, fun H1 s1 => ⟨_, rfl, ?_⟩⟩
    cases e : Kh219.good q with
    | false =>
      rw [e] at k
      exact iteT (k H1 s1)
    | true =>
      rw [e] at k
      refine iteF ⟨_, rfl, _, rfl, p, a, q, xs, rfl, hP.mono s1, W, e, hx.mono s1, hxs, fun H2 s2 => ⟨_, rfl, ?_⟩⟩
      have k := k H2 (s1.trans s2)
      rw [if_neg (by decide)] at k
      cases e2 : Kh219.meets q (nums xs) with
      | false =>
        rw [e2] at k
        exact iteF k
      | true =>
        rw [e2] at k
        exact iteT k
end
end Wn
end
section
set_option maxRecDepth 100000
set_option maxHeartbeats 4000000
namespace Wn
open PySem PySem.Spec PyProof.Rows L2
theorem pe_pm0 {X : Cx} {k : Nat} {C : Addr} {ps : List Str} {sp : Sp} {m : Str} {pos apos : Pos} {o : Expr} {to : TE} {pl : Sem Bool} (F : PrM X.prog X.w X.K X.mg X.base k m C ps sp) (he : PE X o to) (hr : Room k X.A)
    (ht : eval (.Call (.Attribute o m apos) [] [] pos) X.env = (do
      let ov ← eval o X.env
      standAt apos.atName
      let (f, first) ← holding [ov] (getMethod ov m pl)
      callWith pos f first (backTo pos (starEach [] X.env)) (backToKw pos (keywordEach [] X.env))) := by rfl) :
    PE X (.Call (.Attribute o m apos) [] [] pos) (tMeth C m sp [] E0 to tNil) := by
  obtain ⟨f, fd, F, b, c, M⟩ := F
  exact pe_meth0 he c M F hr b .nil pass0 ht
theorem num_eq {a b : Int} (h : a = b) : decide (V.int a = V.int b) = true := by rw [dec_v, decide_eq_true h]
theorem num_ne {a b : Int} (h : ¬ a = b) : decide (V.int a = V.int b) = false := by rw [dec_v, decide_eq_false h]
theorem nat_cast {z : Int} (h : 0 ≤ z) : ((Kh219Neutral.nat z : Nat) : Int) = z := Int.toNat_of_nonneg h
structure TxtD (mg : Str → Option Value) : Prop where
  MEETS : GInt mg "MEETS" 0
  BEGIN : GInt mg "BEGIN" 1
  CASES : GInt mg "CASES" 2
  SOME : GInt mg "SOME" 3
  LESSON : GInt mg "LESSON" 4
  SUM : GInt mg "SUM" 5
  HOLDS : GInt mg "HOLDS" 6
  OPEN : GInt mg "OPEN" 7
def spAnsLine (A : Ads) : Sp := fun vs H Q _ => ∃ (r ca Z : Addr) (oz : HO) (s : Kh219.Abs) (n : Int) (ns : List Int) (xs : List (List Int)) (bh : Nat) (l : Kh219.Line), vs = [.ref r, .ref ca] ∧ H Z = some oz ∧ StAt A Z H r (some s) ∧ WfAbs s ∧ s.branches.length ≤ 20000 ∧ CallAt A (del Z H r) ca n ns xs bh ∧
  Asked ((n :: ns) :: xs) ∧ Kh219Neutral.specCall ((n :: ns) :: xs) = .next l ∧ Done A Z H r (some (Kh219.step s l).1) (Kh219.step s l).2.ret Q
section
variable {P : Program} {w : World} {K : PySem.W.Frag} {mg : Str → Option Value} {base : Heap} {A : Ads}
theorem sc_answer_line : FnScope ["reasons", "call", "wholes"] ["reasons", "call"] (defScope s_answer_line) := ⟨rfl, rfl, rfl, by decide +kernel, rfl, by decide +kernel, by decide +kernel⟩
theorem ok_answer_line (F : GF K mg "answer_line" s_answer_line ["reasons", "call"]) (PRB : Pr P w K mg base 3 "read_bound" ["numbers"] (spReadBound A)) (PRR : Pr P w K mg base 3 "read_recipe" ["by", "lists"] (spReadRec A))
    (PC : PrM P w K mg base 4 "cases" A.R ["self", "le"] (spLine A (ArgCases A))) (PS' : PrM P w K mg base 2 "some" A.R ["self", "p"] (spLine A ArgSome)) (PL : PrM P w K mg base 6 "lesson" A.R ["self", "kind", "p", "q", "by"] (spLessonM A)) (PU : PrM P w K mg base 5 "add_up" A.R ["self", "recipe"] (spAddUp A))
    (TD : TxtD mg) (TR : TxtR K A) : Pr P w K mg base 7 "answer_line" ["reasons", "call"] (spAnsLine A) := by
  refine F.pr sc_answer_line (fun vs H Q E h => ?_) (fun f cdv Ar outer s H vs Q E hr h => ?_)
  · obtain ⟨r, ca, Z, oz, z, n, ns, xs, bh, l, rfl, _⟩ := h
    rfl
  · obtain ⟨r, ca, Z, oz, z, n, ns, xs, bh, l, rfl, hZ, hS, W, wf, ⟨dc, wa, la, hca, hw, hls⟩, hA, hspec, k⟩ := h
    have nd := sc_answer_line.nd
    obtain ⟨dx, pv0, bv0, hr0, hst⟩ := id hS
    obtain ⟨q, c, rfl, rfl, hP, as, hc, hp⟩ := hst
    have hca1 := del_le _ _ hca
    have hw1 : IntsAt H wa ns := hw.mono del_le
    obtain ⟨ls, hla, hrows⟩ := id hls
    have hla1 := del_le _ _ hla
    refine ⟨_, pss_cons (ps_set (i := 2) nd rfl (Or.inl rfl) (pe_fld (pv 1) rfl))
      (pss_cons (ps_if (pt_cmpR op_eq (pe_fld (pv 1) rfl) (pe_gi TD.CASES rfl) (nomark _)) (pss_one (ps_ret (pe_pm PC (pv 0) (hr.mono (by decide)) (pa_cons (pe_p PRB (hr.mono (by decide)) rfl (pa_cons (pe_ix ix_list (pe_fld (pv 1) rfl) pe_int (fun _ _ => rfl)) pa_nil)) pa_nil)))) pss_nil)
      (pss_cons (ps_if (pt_cmpR op_eq (pe_fld (pv 1) rfl) (pe_gi TD.SOME rfl) (nomark _)) (pss_one (ps_ret (pe_pm PS' (pv 0) (hr.mono (by decide)) (pa_cons (pe_ix ix_list (pv 2) pe_int (fun _ _ => rfl)) pa_nil)))) pss_nil)
      (pss_cons (ps_if (pt_cmpR op_eq (pe_fld (pv 1) rfl) (pe_gi TD.LESSON rfl) (nomark _)) (pss_one (ps_ret (pe_pm PL (pv 0) hr (pa_cons (pe_ix ix_list (pv 2) pe_int (fun _ _ => rfl)) (pa_cons (pe_ix ix_list (pv 2) pe_int (fun _ _ => rfl)) (pa_cons (pe_ix ix_list (pv 2) pe_int (fun _ _ => rfl)) (pa_cons (pe_ix ix_list (pv 2) pe_int (fun _ _ => rfl)) pa_nil))))))) pss_nil)
      (pss_cons (ps_if (pt_cmpR op_eq (pe_fld (pv 1) rfl) (pe_gi TD.SUM rfl) (nomark _)) (pss_one (ps_ret (pe_pm PU (pv 0) (hr.mono (by decide)) (pa_cons (pe_p PRR (hr.mono (by decide)) rfl (pa_cons (pe_ix ix_list (pv 2) pe_int (fun _ _ => rfl)) (pa_cons (pe_fld (pv 1) rfl) pa_nil))) pa_nil)))) pss_nil)
      pss_never)))), ?_⟩
    refine ⟨_, rfl, ca, A.C, dc, _, _, rfl, hca1, TR.cl, TR.nw, cal_w _ _ _ _, _, rfl, ca, A.C, dc, _, _, rfl, hca1, TR.cl, TR.nn, cal_n _ _ _ _, rfl, _, rfl, ?_⟩
    have nm : ∀ m : Str, ¬ m = "branches" → ¬ m = "plan" → (rsnF (.ref q) (.ref c)).lookup m = none := fun m h1 h2 => rsn_no _ _ h1 h2
    cases hA with
    | meets h1 h2 R => cases hspec
    | begin_ R => cases hspec
    | holds h => cases hspec
    | open_ => cases hspec
    | @cases b hb =>
      have el : Kh219.Line.cases (Kh219Neutral.le b) = l := Kh219.Call.next.inj hspec
      subst el
      rw [num_eq rfl]
      cases hrows with
      | @cons a0 _ as0 _ h0 ht =>
        have h0' : IntsAt H a0 b := h0.mono del_le
        refine iteT ⟨_, rfl, r, dx, _, rfl, hr0, nm _ (by decide +kernel) (by decide +kernel), _, rfl, ca, A.C, dc, _, _, rfl, hca1, TR.cl, TR.nl, cal_l _ _ _ _, la, _, _, _, rfl, rfl, SqL.of hla1, atI_nat (j := 0) rfl, a0, b, rfl, h0', by omega, fun H1 x s1 hx => ?_⟩
        exact ⟨r, Z, oz, z, _, _, rfl, rfl, s1 _ _ hZ, hS.mono s1, W, wf, ⟨x, _, rfl, hx.mono (del_new hr0 hZ), le_len (by omega), rfl⟩, fun H' sH hS' => k H' (fun d u h => sH _ _ (but_mono s1 _ _ h)) hS'⟩
    | @some_ p hp0 =>
      have el : Kh219.Line.some_ (Kh219Neutral.nat p) = l := Kh219.Call.next.inj hspec
      subst el
      rw [num_ne (by decide)]
      refine iteF ⟨_, rfl, ca, A.C, dc, _, _, rfl, hca1, TR.cl, TR.nn, cal_n _ _ _ _, rfl, _, rfl, ?_⟩
      rw [num_eq rfl]
      refine iteT ⟨_, rfl, r, dx, _, rfl, hr0, nm _ (by decide +kernel) (by decide +kernel), _, rfl, wa, _, _, _, rfl, rfl, SqL.of hw1, atI_nat (j := 0) rfl, r, Z, oz, z, _, _, rfl, rfl, hZ, hS, W, wf, ⟨Kh219Neutral.nat p, ?_, rfl⟩, k⟩
      rw [nat_cast hp0]
      rfl
    | @lesson kd p q' b' g1 g2 g3 g4 =>
      have el : Kh219.Line.lesson (Kh219Neutral.nat kd) (Kh219Neutral.nat p) (Kh219Neutral.nat q') (Kh219Neutral.nat b') = l := Kh219.Call.next.inj hspec
      subst el
      rw [num_ne (by decide)]
      refine iteF ⟨_, rfl, ca, A.C, dc, _, _, rfl, hca1, TR.cl, TR.nn, cal_n _ _ _ _, rfl, _, rfl, ?_⟩
      rw [num_ne (by decide)]
      refine iteF ⟨_, rfl, ca, A.C, dc, _, _, rfl, hca1, TR.cl, TR.nn, cal_n _ _ _ _, rfl, _, rfl, ?_⟩
      rw [num_eq rfl]
      refine iteT ⟨_, rfl, r, dx, _, rfl, hr0, nm _ (by decide +kernel) (by decide +kernel), _, rfl, wa, _, _, _, rfl, rfl, SqL.of hw1, atI_nat (j := 0) rfl, _, rfl, wa, _, _, _, rfl, rfl, SqL.of hw1, atI_nat (j := 1) rfl, _, rfl, wa, _, _, _, rfl, rfl, SqL.of hw1, atI_nat (j := 2) rfl, _, rfl, wa, _, _, _, rfl, rfl, SqL.of hw1, atI_nat (j := 3) rfl,
        r, Z, oz, z, Kh219Neutral.nat kd, Kh219Neutral.nat p, Kh219Neutral.nat q', Kh219Neutral.nat b', ?_, hZ, hS, W, wf, k⟩
      rw [nat_cast g1, nat_cast g2, nat_cast g3, nat_cast g4]
      rfl
    | @sum b0 low high t g1 g2 g3 g4 g5 g6 g7 g8 =>
      have el : Kh219.Line.sum (sumOf b0 low high t) = l := Kh219.Call.next.inj hspec
      subst el
      rw [num_ne (by decide)]
      refine iteF ⟨_, rfl, ca, A.C, dc, _, _, rfl, hca1, TR.cl, TR.nn, cal_n _ _ _ _, rfl, _, rfl, ?_⟩
      rw [num_ne (by decide)]
      refine iteF ⟨_, rfl, ca, A.C, dc, _, _, rfl, hca1, TR.cl, TR.nn, cal_n _ _ _ _, rfl, _, rfl, ?_⟩
      rw [num_ne (by decide)]
      refine iteF ⟨_, rfl, ca, A.C, dc, _, _, rfl, hca1, TR.cl, TR.nn, cal_n _ _ _ _, rfl, _, rfl, ?_⟩
      rw [num_eq rfl]
      refine iteT ⟨_, rfl, r, dx, _, rfl, hr0, nm _ (by decide +kernel) (by decide +kernel), _, rfl, wa, _, _, _, rfl, rfl, SqL.of hw1, atI_nat (j := 0) rfl, _, rfl, ca, A.C, dc, _, _, rfl, hca1, TR.cl, TR.nl, cal_l _ _ _ _, b0, la, r, Z, _, oz, low, high, t, rfl, hr0, hZ, hls, ⟨g1, g2, g3, g4, g5, g6, g7, g8⟩, fun H1 x s1 hx => ?_⟩
      exact ⟨r, x, Z, oz, z, sumOf b0 low high t, rfl, s1 _ _ hZ, hS.mono s1, W, wf, hx, by show (low.map _).length = 12; rw [List.length_map, g2], by show (high.map _).length = 12; rw [List.length_map, g4], fun H' sH hS' => k H' (fun d u h => sH _ _ (but_mono s1 _ _ h)) hS'⟩
end
end Wn
end
section
set_option maxRecDepth 100000
set_option maxHeartbeats 4000000
namespace Wn
open PySem PySem.Spec PyProof.Rows L2
/-! ### what is answered, in plain words -/
theorem out_line {s : Kh219.Abs} {c : NCall} {l : Kh219.Line} (W : WfAbs s) (h : Kh219Neutral.specCall c = .next l) : outS (some s) c = [(Kh219.step s l).2.ret] ∧ stepS (some s) c = some (Kh219.step s l).1 := by
  unfold outS stepS Kh219Neutral.step
  rw [h]
  refine ⟨?_, rfl⟩
  show (Kh219.step s l).2.ret :: (match (Kh219.step s l).2.le with | some l => l.c ++ [l.d] | none => []) = _
  rw [(step_wf W l).2.2]
theorem out_holds (s : Kh219.Abs) (k : Int) : outS (some s) [[6, k]] = holdsOut s (Kh219Neutral.nat k) ∧ stepS (some s) [[6, k]] = some s := by
  refine ⟨?_, rfl⟩
  show (match s.branches.head?.bind fun b => b[Kh219Neutral.nat k]? with | some l => (⟨0, some l⟩ : Kh219.Ans) | none => Kh219.say (-2)).ret :: (match (match s.branches.head?.bind fun b => b[Kh219Neutral.nat k]? with | some l => (⟨0, some l⟩ : Kh219.Ans) | none => Kh219.say (-2)).le with | some l => l.c ++ [l.d] | none => []) = _
  unfold holdsOut
  cases s.branches.head?.bind fun b => b[Kh219Neutral.nat k]? with
  | none => rfl
  | some l => rfl
theorem out_begin (S : NS) (h fs : List Int) (ss : List (List Int)) : outS S ([1] :: h :: fs :: ss) = [if Kh219.good (Kh219Neutral.plan h fs ss) = true then 0 else -22] ∧
    stepS S ([1] :: h :: fs :: ss) = if Kh219.good (Kh219Neutral.plan h fs ss) = true then some (Kh219.begin_ (Kh219Neutral.plan h fs ss)) else S := by
  have e : Kh219.doing S (.begin_ (Kh219Neutral.plan h fs ss)) = if Kh219.good (Kh219Neutral.plan h fs ss) = false then (S, Kh219.say (-22)) else (some (Kh219.begin_ (Kh219Neutral.plan h fs ss)), Kh219.say 0) := rfl
  have e1 : outS S ([1] :: h :: fs :: ss) = (Kh219.doing S (.begin_ (Kh219Neutral.plan h fs ss))).2.ret :: (match (Kh219.doing S (.begin_ (Kh219Neutral.plan h fs ss))).2.le with | some l => l.c ++ [l.d] | none => []) := rfl
  have e2 : stepS S ([1] :: h :: fs :: ss) = (Kh219.doing S (.begin_ (Kh219Neutral.plan h fs ss))).1 := rfl
  rw [e1, e2, e]
  cases Kh219.good (Kh219Neutral.plan h fs ss) with
  | true => exact ⟨rfl, rfl⟩
  | false => exact ⟨rfl, rfl⟩
theorem out_meets (S : NS) (x h fs : List Int) (ss : List (List Int)) : outS S ([0] :: x :: h :: fs :: ss) = [if Kh219.good (Kh219Neutral.plan h fs ss) = false then -22 else if Kh219.meets (Kh219Neutral.plan h fs ss) (nums x) then 1 else 0] ∧ stepS S ([0] :: x :: h :: fs :: ss) = S := ⟨rfl, rfl⟩
theorem out_open (s : Kh219.Abs) : outS (some s) [[7]] = [(s.branches.length : Int)] ∧ stepS (some s) [[7]] = some s := ⟨rfl, rfl⟩
theorem may_some {S : NS} {c : NCall} (h : MayAsk S c) (h1 : Kh219Neutral.isMeets c = false) (h2 : ¬ (c.getD 0 []).headD 7 = 1) : ∃ s, S = some s := by
  rcases h with h | h | h
  · cases S with
    | none => cases h
    | some s => exact ⟨s, rfl⟩
  · rw [h1] at h; cases h
  · exact absurd h h2
def spAnswer (A : Ads) : Sp := fun vs H Q _ => ∃ (r ca Z : Addr) (oz : HO) (S : NS) (n : Int) (ns : List Int) (xs : List (List Int)) (bh m : Nat), vs = [.ref r, .ref ca] ∧ H Z = some oz ∧ Z ≠ r ∧ StAt A Z H r S ∧ WfS m S ∧ m ≤ 1000 ∧ CallAt A (del Z H r) ca n ns xs bh ∧
  Asked ((n :: ns) :: xs) ∧ MayAsk S ((n :: ns) :: xs) ∧ ∀ H' D, Same (but H r) H' → StAt A Z H' r (stepS S ((n :: ns) :: xs)) → D ≠ Z → IntsAt H' D (outS S ((n :: ns) :: xs)) → Q (.ref D) H'
section
variable {P : Program} {w : World} {K : PySem.W.Frag} {mg : Str → Option Value} {base : Heap} {A : Ads}
theorem sc_answer : FnScope ["reasons", "call"] ["reasons", "call"] (defScope s_answer) := ⟨rfl, rfl, rfl, by decide +kernel, rfl, by decide +kernel, by decide +kernel⟩
theorem ok_answer (F : GF K mg "answer" s_answer ["reasons", "call"]) (PRP : Pr P w K mg base 5 "read_plan" ["lists"] (spReadPlan A)) (PMt : Pr P w K mg base 5 "meets" ["plan", "x"] (spMeets A)) (PB : PrM P w K mg base 5 "begin" A.R ["self", "plan"] (spBegin A))
    (PH : PrM P w K mg base 1 "holds" A.R ["self", "k"] (spHolds A)) (PO : PrM P w K mg base 1 "how_many" A.R ["self"] (spHowMany A)) (PL : Pr P w K mg base 7 "answer_line" ["reasons", "call"] (spAnsLine A))
    (TD : TxtD mg) (TR : TxtR K A) : Pr P w K mg base 8 "answer" ["reasons", "call"] (spAnswer A) := by
  refine F.pr sc_answer (fun vs H Q E h => ?_) (fun f cdv Ar outer s H vs Q E hr h => ?_)
  · obtain ⟨r, ca, Z, oz, S, n, ns, xs, bh, m, rfl, _⟩ := h
    rfl
  · obtain ⟨r, ca, Z, oz, S, n, ns, xs, bh, m, rfl, hZ, hZr, hS, WS, hm, hCA, hA, hMay, k⟩ := h
    obtain ⟨dc, wa, la, hca, hw, hls⟩ := id hCA
    obtain ⟨dx, pv0, bv0, hr0, hst⟩ := id hS
    have hca1 := del_le _ _ hca
    have hw1 : IntsAt H wa ns := hw.mono del_le
    obtain ⟨ls, hla, hrows⟩ := id hls
    have hla1 := del_le _ _ hla
    have hr5 := hr.mono (j := 5) (by decide)
    have hr1 := hr.mono (j := 1) (by decide)
    refine ⟨_, pss_cons (ps_if (pt_cmpR op_eq (pe_fld (pv 1) rfl) (pe_gi TD.MEETS rfl) (nomark _)) (pss_one (ps_ret (pe_lst (pa_cons (pe_p PMt hr5 rfl (pa_cons (pe_p PRP hr5 rfl (pa_cons (pe_slice sl_list (pe_fld (pv 1) rfl) (po_some pe_int) po_none) pa_nil)) (pa_cons (pe_ix ix_list (pe_fld (pv 1) rfl) pe_int (fun _ _ => rfl)) pa_nil))) pa_nil)))) pss_nil)
      (pss_cons (ps_if (pt_cmpR op_eq (pe_fld (pv 1) rfl) (pe_gi TD.BEGIN rfl) (nomark _)) (pss_one (ps_ret (pe_lst (pa_cons (pe_pm PB (pv 0) hr5 (pa_cons (pe_p PRP hr5 rfl (pa_cons (pe_fld (pv 1) rfl) pa_nil)) pa_nil)) pa_nil)))) pss_nil)
      (pss_cons (ps_if (pt_cmpR op_eq (pe_fld (pv 1) rfl) (pe_gi TD.HOLDS rfl) (nomark _)) (pss_one (ps_ret (pe_pm PH (pv 0) hr1 (pa_cons (pe_ix ix_list (pe_fld (pv 1) rfl) pe_int (fun _ _ => rfl)) pa_nil)))) pss_nil)
      (pss_cons (ps_if (pt_cmpR op_eq (pe_fld (pv 1) rfl) (pe_gi TD.OPEN rfl) (nomark _)) (pss_one (ps_ret (pe_lst (pa_cons (pe_pm0 PO (pv 0) hr1) pa_nil)))) pss_nil)
      (pss_one (ps_ret (pe_lst (pa_cons (pe_p PL hr rfl (pa_cons (pv 0) (pa_cons (pv 1) pa_nil))) pa_nil))))))), ?_⟩
    refine ⟨_, rfl, ca, A.C, dc, _, _, rfl, hca1, TR.cl, TR.nn, cal_n _ _ _ _, rfl, _, rfl, ?_⟩
    have nm : ∀ m : Str, ¬ m = "branches" → ¬ m = "plan" → (rsnF pv0 bv0).lookup m = none := fun m h1 h2 => rsn_no _ _ h1 h2
    -- a list of one number
    have one : ∀ (H1 : Hp) (v : Int) (S' : NS), Same (but H r) H1 → StAt A Z H1 r S' → S' = stepS S ((n :: ns) :: xs) → outS S ((n :: ns) :: xs) = [v] → (1 ≤ sizeLine ∧ ∀ p, H1 p = none → Q (.ref p) (upd H1 p (.lst [.int v]))) := fun H1 v S' sB hS' eS eo =>
      ⟨by decide, fun p hp => k _ p (sB.trans (same_upd_new hp)) (by rw [← eS]; exact hS'.mono (same_upd_new hp)) (fun q => by rw [q, sB _ _ (by rw [but_of hZr]; exact hZ)] at hp; cases hp) (by rw [eo]; exact upd_same)⟩
    have hA' := hA
    cases hA with
    | @meets x h fs ss hx1 hx2 R =>
      obtain ⟨eo, es⟩ := out_meets S x h fs ss
      cases hrows with
      | @cons a0 _ as0 _ h0 ht =>
        have h0' : IntsAt H a0 x := h0.mono del_le
        rw [num_eq rfl]
        refine iteT ⟨_, rfl, ca, A.C, dc, _, _, rfl, hca1, TR.cl, TR.nl, cal_l _ _ _ _, 1, rfl, la, _, rfl, SqL.of hla1, fun t ht' => ?_⟩
        have e3 : cutV ((a0 :: as0).map V.ref) (some 1) none = as0.map V.ref := by
          rw [show (1 : Int) = ((1 : Nat) : Int) from rfl, cut_from _ _ (by rw [List.length_map, List.length_cons]; omega)]
          rfl
        rw [e3]
        have s0 : Same H (upd H t (.lst (as0.map V.ref))) := same_upd_new ht'
        refine ⟨t, h, fs, ss, rfl, ⟨as0, upd_same, paired_mono ht fun _ _ q => (q.mono del_le).mono s0⟩, R, fun H1 p s1 hp => ?_⟩
        have s01 := s0.trans s1
        exact ⟨_, rfl, ca, A.C, dc, _, _, rfl, s01 _ _ hca1, TR.cl, TR.nl, cal_l _ _ _ _, la, _, _, _, rfl, rfl, SqL.of (s01 _ _ hla1), atI_nat (j := 0) rfl, p, a0, _, x, rfl, hp.mono newp_le, plan_wf R, h0'.mono s01, ⟨hx1, hx2⟩, fun H2 s2 => one H2 _ S (fun d u q => (s01.trans s2) _ _ (but_le _ _ q)) (hS.mono (s01.trans s2)) es.symm eo⟩
    | @begin_ h fs ss R =>
      obtain ⟨eo, es⟩ := out_begin S h fs ss
      rw [num_ne (by decide)]
      refine iteF ⟨_, rfl, ca, A.C, dc, _, _, rfl, hca1, TR.cl, TR.nn, cal_n _ _ _ _, rfl, _, rfl, ?_⟩
      rw [num_eq rfl]
      refine iteT ⟨_, rfl, r, dx, _, rfl, hr0, nm _ (by decide +kernel) (by decide +kernel), _, rfl, ca, A.C, dc, _, _, rfl, hca1, TR.cl, TR.nl, cal_l _ _ _ _, la, h, fs, ss, rfl, hls.mono del_le, R, fun H1 p s1 hp => ?_⟩
      exact ⟨r, p, Z, oz, S, _, rfl, s1 _ _ hZ, hS.mono s1, hp.mono (del_new hr0 hZ), plan_wf R, fun H' sH hS' => one H' _ _ (fun d u q => sH _ _ (but_mono s1 _ _ q)) hS' es.symm eo⟩
    | @holds kk hk =>
      obtain ⟨s0, rfl⟩ := may_some hMay rfl (show ¬ (6 : Int) = 1 by decide)
      obtain ⟨eo, es⟩ := out_holds s0 kk
      have wl := WS.2
      rw [num_ne (by decide)]
      refine iteF ⟨_, rfl, ca, A.C, dc, _, _, rfl, hca1, TR.cl, TR.nn, cal_n _ _ _ _, rfl, _, rfl, ?_⟩
      rw [num_ne (by decide)]
      refine iteF ⟨_, rfl, ca, A.C, dc, _, _, rfl, hca1, TR.cl, TR.nn, cal_n _ _ _ _, rfl, _, rfl, ?_⟩
      rw [num_eq rfl]
      refine iteT ⟨_, rfl, r, dx, _, rfl, hr0, nm _ (by decide +kernel) (by decide +kernel), _, rfl, ca, A.C, dc, _, _, rfl, hca1, TR.cl, TR.nw, cal_w _ _ _ _, wa, _, _, _, rfl, rfl, SqL.of hw1, atI_nat (j := 0) rfl, r, Z, s0, Kh219Neutral.nat kk, ?_, hS, WS.1, by omega, fun H' D s' hD => k H' D (fun d u q => s' _ _ (but_le _ _ q)) (by rw [es]; exact hS.mono s') (fun q => by have := (newp_some hD).1; rw [q, hZ] at this; cases this) (by rw [eo]; exact hD.mono newp_le)⟩
      rw [nat_cast hk]
      rfl
    | open_ =>
      obtain ⟨s0, rfl⟩ := may_some hMay rfl (by decide)
      obtain ⟨eo, es⟩ := out_open s0
      rw [num_ne (by decide)]
      refine iteF ⟨_, rfl, ca, A.C, dc, _, _, rfl, hca1, TR.cl, TR.nn, cal_n _ _ _ _, rfl, _, rfl, ?_⟩
      rw [num_ne (by decide)]
      refine iteF ⟨_, rfl, ca, A.C, dc, _, _, rfl, hca1, TR.cl, TR.nn, cal_n _ _ _ _, rfl, _, rfl, ?_⟩
      rw [num_ne (by decide)]
      refine iteF ⟨_, rfl, ca, A.C, dc, _, _, rfl, hca1, TR.cl, TR.nn, cal_n _ _ _ _, rfl, _, rfl, ?_⟩
      rw [num_eq rfl]
      exact iteT ⟨_, rfl, r, dx, _, rfl, hr0, nm _ (by decide +kernel) (by decide +kernel), r, Z, s0, rfl, hS, one H _ _ but_le hS es.symm eo⟩
    | @cases b hb =>
      obtain ⟨s0, rfl⟩ := may_some hMay rfl (show ¬ (2 : Int) = 1 by decide)
      obtain ⟨eo, es⟩ := out_line WS.1 (show Kh219Neutral.specCall [[2], b] = Kh219.Call.next (.cases (Kh219Neutral.le b)) from rfl)
      have wl := WS.2
      rw [num_ne (by decide)]
      refine iteF ⟨_, rfl, ca, A.C, dc, _, _, rfl, hca1, TR.cl, TR.nn, cal_n _ _ _ _, rfl, _, rfl, ?_⟩
      rw [num_ne (by decide)]
      refine iteF ⟨_, rfl, ca, A.C, dc, _, _, rfl, hca1, TR.cl, TR.nn, cal_n _ _ _ _, rfl, _, rfl, ?_⟩
      rw [num_ne (by decide)]
      refine iteF ⟨_, rfl, ca, A.C, dc, _, _, rfl, hca1, TR.cl, TR.nn, cal_n _ _ _ _, rfl, _, rfl, ?_⟩
      rw [num_ne (by decide)]
      exact iteF ⟨_, rfl, _, rfl, r, ca, Z, oz, s0, _, _, _, bh, .cases (Kh219Neutral.le b), rfl, hZ, hS, WS.1, by omega, hCA, hA', rfl, fun H1 sB hS1 => one H1 _ _ sB hS1 es.symm eo⟩
    | @some_ p hp0 =>
      obtain ⟨s0, rfl⟩ := may_some hMay rfl (show ¬ (3 : Int) = 1 by decide)
      obtain ⟨eo, es⟩ := out_line WS.1 (show Kh219Neutral.specCall [[3, p]] = Kh219.Call.next (.some_ (Kh219Neutral.nat p)) from rfl)
      have wl := WS.2
      rw [num_ne (by decide)]
      refine iteF ⟨_, rfl, ca, A.C, dc, _, _, rfl, hca1, TR.cl, TR.nn, cal_n _ _ _ _, rfl, _, rfl, ?_⟩
      rw [num_ne (by decide)]
      refine iteF ⟨_, rfl, ca, A.C, dc, _, _, rfl, hca1, TR.cl, TR.nn, cal_n _ _ _ _, rfl, _, rfl, ?_⟩
      rw [num_ne (by decide)]
      refine iteF ⟨_, rfl, ca, A.C, dc, _, _, rfl, hca1, TR.cl, TR.nn, cal_n _ _ _ _, rfl, _, rfl, ?_⟩
      rw [num_ne (by decide)]
      exact iteF ⟨_, rfl, _, rfl, r, ca, Z, oz, s0, _, _, _, bh, .some_ (Kh219Neutral.nat p), rfl, hZ, hS, WS.1, by omega, hCA, hA', rfl, fun H1 sB hS1 => one H1 _ _ sB hS1 es.symm eo⟩
    | @lesson kd p q' b' g1 g2 g3 g4 =>
      obtain ⟨s0, rfl⟩ := may_some hMay rfl (show ¬ (4 : Int) = 1 by decide)
      obtain ⟨eo, es⟩ := out_line WS.1 (show Kh219Neutral.specCall [[4, kd, p, q', b']] = Kh219.Call.next (.lesson (Kh219Neutral.nat kd) (Kh219Neutral.nat p) (Kh219Neutral.nat q') (Kh219Neutral.nat b')) from rfl)
      have wl := WS.2
      rw [num_ne (by decide)]
      refine iteF ⟨_, rfl, ca, A.C, dc, _, _, rfl, hca1, TR.cl, TR.nn, cal_n _ _ _ _, rfl, _, rfl, ?_⟩
      rw [num_ne (by decide)]
      refine iteF ⟨_, rfl, ca, A.C, dc, _, _, rfl, hca1, TR.cl, TR.nn, cal_n _ _ _ _, rfl, _, rfl, ?_⟩
      rw [num_ne (by decide)]
      refine iteF ⟨_, rfl, ca, A.C, dc, _, _, rfl, hca1, TR.cl, TR.nn, cal_n _ _ _ _, rfl, _, rfl, ?_⟩
      rw [num_ne (by decide)]
      exact iteF ⟨_, rfl, _, rfl, r, ca, Z, oz, s0, _, _, _, bh, .lesson (Kh219Neutral.nat kd) (Kh219Neutral.nat p) (Kh219Neutral.nat q') (Kh219Neutral.nat b'), rfl, hZ, hS, WS.1, by omega, hCA, hA', rfl, fun H1 sB hS1 => one H1 _ _ sB hS1 es.symm eo⟩
    | @sum b0 low high t g1 g2 g3 g4 g5 g6 g7 g8 =>
      obtain ⟨s0, rfl⟩ := may_some hMay rfl (show ¬ (5 : Int) = 1 by decide)
      obtain ⟨eo, es⟩ := out_line WS.1 (show Kh219Neutral.specCall [[5, b0], low, high, t] = Kh219.Call.next (.sum (sumOf b0 low high t)) from rfl)
      have wl := WS.2
      rw [num_ne (by decide)]
      refine iteF ⟨_, rfl, ca, A.C, dc, _, _, rfl, hca1, TR.cl, TR.nn, cal_n _ _ _ _, rfl, _, rfl, ?_⟩
      rw [num_ne (by decide)]
      refine iteF ⟨_, rfl, ca, A.C, dc, _, _, rfl, hca1, TR.cl, TR.nn, cal_n _ _ _ _, rfl, _, rfl, ?_⟩
      rw [num_ne (by decide)]
      refine iteF ⟨_, rfl, ca, A.C, dc, _, _, rfl, hca1, TR.cl, TR.nn, cal_n _ _ _ _, rfl, _, rfl, ?_⟩
      rw [num_ne (by decide)]
      exact iteF ⟨_, rfl, _, rfl, r, ca, Z, oz, s0, _, _, _, bh, .sum (sumOf b0 low high t), rfl, hZ, hS, WS.1, by omega, hCA, hA', rfl, fun H1 sB hS1 => one H1 _ _ sB hS1 es.symm eo⟩
end
theorem StAt.updZ {A : Ads} {Z : Addr} {H : Hp} {r : Addr} {S : NS} {o : HO} (h : StAt A Z H r S) (hz : Z ≠ r) : StAt A Z (upd H Z o) r S := by
  obtain ⟨dx, p, b, h1, h2⟩ := h
  refine ⟨dx, p, b, by rw [upd_ne hz.symm]; exact h1, ?_⟩
  have e : del Z (upd H Z o) r = del Z H r := by
    funext c
    unfold del
    by_cases h : c = Z
    · rw [if_pos h, if_pos h]
    · rw [if_neg h, if_neg h, upd_ne h]
  rw [e]
  exact h2
/-- what is told, n calls in -/
def toldN (cs : List NCall) (n : Nat) : List Int := PyFlat.told (PyFlat.played Kh219Neutral.step Kh219Neutral.start (cs.take n))
theorem toldN_succ {cs : List NCall} {n : Nat} {c : NCall} (h : cs[n]? = some c) : toldN cs (n + 1) = toldN cs n ++ (((outS (runS Kh219Neutral.start (cs.take n)) c).length : Int) :: outS (runS Kh219Neutral.start (cs.take n)) c) := by
  unfold toldN
  rw [take_snoc h, played_snoc, told_snoc]
def spAnswers (K : PySem.W.Frag) : Sp := fun vs H Q _ => ∃ (a : Addr) (l : List Int), vs = [.ref a] ∧ SqL K H a (l.map V.int) ∧ l.length ≤ 30000 ∧ PyKh219.answers_asked l = true ∧ ∀ (H' : Hp) (p : Addr), H' p = some (.lst ((PyKh219.answers l).map V.int)) → Q (.ref p) H'
theorem asked_parts {l : List Int} (hl : l.length ≤ 30000) (h : PyKh219.answers_asked l = true) : ∃ cs, PyWide.calls l.length l = some cs ∧ cs.length ≤ 700 ∧ (∀ c ∈ cs, Asked c) ∧ Ordered Kh219Neutral.start cs ∧ PyKh219.answers l = PyFlat.told (PyFlat.played Kh219Neutral.step Kh219Neutral.start cs) := by
  unfold PyKh219.answers_asked at h
  unfold PyKh219.answers
  cases e : PyKh219.calls l with
  | none => rw [e] at h; cases h
  | some cs =>
    rw [e] at h
    have h' : (PyFlat.atMost 700 cs && Kh219Neutral.asked cs) = true := h
    rw [Bool.and_eq_true] at h'
    have h2 := h'.2
    unfold Kh219Neutral.asked at h2
    rw [Bool.and_eq_true, Bool.and_eq_true] at h2
    obtain ⟨⟨h3, h4⟩, h5⟩ := h2
    have e' : PyWide.calls l.length (l.drop 0) = some cs := e
    refine ⟨cs, e, of_decide_eq_true h3, fun c hc => asked_of (List.all_eq_true.mp h4 c hc) (calls_small hl _ 0 cs e' c hc), (ordered_of cs true Kh219Neutral.start h5).2, rfl⟩
section
variable {P : Program} {w : World} {K : PySem.W.Frag} {mg : Str → Option Value} {base : Heap} {A : Ads}
theorem sc_answers : FnScope ["calls", "reasons", "told", "call", "numbers"] ["calls"] (defScope s_answers) := ⟨rfl, rfl, rfl, by decide +kernel, rfl, by decide +kernel, by decide +kernel⟩
theorem ok_answers {f : Addr} {fd : FuncData} (F : Fun K "answers" "answers" s_answers f fd) (PCR : PrC P w K mg base 1 "Reasons" A.R ["self"] (spReasonsInit A)) (PRC : Pr P w K mg base 4 "read_calls" ["calls"] (spReadCalls K A)) (PAn : Pr P w K mg base 8 "answer" ["reasons", "call"] (spAnswer A)) (G : TxtG mg) :
    FnOk P w K mg base CX0 9 f fd ["calls"] (spAnswers K) := by
  refine F.ok sc_answers (fun vs H Q E h => ?_) (fun cdv Ar outer s H vs Q E hr h => ?_)
  · obtain ⟨a, l, rfl, _⟩ := h
    rfl
  · obtain ⟨a, l, rfl, ha, hl, hask, k⟩ := h
    have nd := sc_answers.nd
    obtain ⟨cs, hcalls, hcs, hall, hord, eans⟩ := asked_parts hl hask
    refine ⟨_, pss_cons (ps_set (i := 1) nd rfl (Or.inl rfl) (pe_pc0 PCR (hr.mono (by decide)) rfl))
      (pss_cons (ps_set (i := 2) nd rfl (Or.inl rfl) (pe_lst pa_nil))
      (pss_cons (ps_for PassesOwn.never rfl (pi_list (pe_p PRC (hr.mono (by decide)) rfl (pa_cons (pv 0) pa_nil))) (pg_name (i := 3) nd rfl (Or.inl rfl))
        (pss_cons (ps_set (i := 4) nd rfl (Or.inl rfl) (pe_p PAn hr rfl (pa_cons (pv 1) (pa_cons (pv 3) pa_nil))))
        (pss_cons (ps_expr (pe_bm PySem.F.plainAttrs_list PySem.F.slot_list_append PySem.F.type_list_append mt_append (pv 2) (pa_cons (pe_callB call_len_seq rfl G.len boot_len (pa_cons (pv 4) pa_nil)) pa_nil)))
        (pss_one (ps_expr (pe_bm PySem.F.plainAttrs_list PySem.F.slot_list_extend PySem.F.type_list_extend mt_extend (pv 2) (pa_cons (pv 4) pa_nil)))))))
      (pss_one (ps_ret (pv 2))))), ?_⟩
    intro r dx nr ndx ne
    refine ⟨r, dx, rfl, upd_same, fun H1 c sB hcr h1 h2 h3 => ⟨rfl, ?_⟩⟩
    have s1 : Same H H1 := fun b o e => sB _ _ (by
      have n1 : b ≠ r := ne_of_none e nr
      have n2 : b ≠ dx := ne_of_none e ndx
      rw [but_of n1, upd_ne n1, upd_ne n2]
      exact e)
    refine ⟨Nat.zero_le _, fun Z hZ => ?_⟩
    have hrZ : Z ≠ r := (ne_of_none h1 hZ).symm
    have hcZ : c ≠ Z := ne_of_none h2 hZ
    have s2 : Same H1 (upd H1 Z (.lst [])) := same_upd_new hZ
    refine ⟨_, rfl, a, l, cs, rfl, (s1.trans s2).seq ha, hl, hcs, hcalls, fun H3 b s3 hb => ?_⟩
    obtain ⟨vs, hb1, hp⟩ := hb
    have hlen := paired_len hp
    have hr2 := s2 _ _ h1
    have hr3 := s3 _ _ hr2
    have sN : Same (newp (upd H1 Z (.lst [])) H3) (del Z H3 r) := del_new hr2 upd_same
    refine ⟨b, rfl, ⟨_, SqL.of (newp_le _ _ hb1)⟩, for_list (K := K) (a := b) (xs := vs) (fun i σ H4 => ∃ (v3 v4 : Option V), σ = [some (.ref a), some (.ref r), some (.ref Z), v3, v4] ∧ H4 Z = some (.lst ((toldN cs i).map V.int)) ∧ (toldN cs i).length ≤ 15 * i ∧ StAt A Z H4 r (runS Kh219Neutral.start (cs.take i)) ∧ Same (newp (upd H1 Z (.lst [])) H3) (del Z H4 r))
      ⟨none, none, rfl, s3 _ _ upd_same, Nat.le_refl _, ⟨dx, _, _, hr3, rfl, c, rfl, ?_⟩, sN⟩ (fun i σ H4 _ ⟨_, _, _, _, _, _, sC⟩ => SqL.of (del_le _ _ (sC _ _ hb1))) ?_ ?_⟩
    · rw [del_of hcr hcZ]
      exact s3 _ _ (s2 _ _ h2)
    · rintro i y σ H4 hi ⟨v3, v4, rfl, hZ4, hl4, hS4, sC⟩
      obtain ⟨cl, hcl, x, p, ns, xs, bh, rfl, ecl, hCA⟩ := paired_at hp hi
      subst ecl
      have hi7 : i < cs.length := (List.getElem?_eq_some_iff.mp hcl).1
      have hA := hall _ (List.mem_of_getElem? hcl)
      have hW := run_wf hall i (by omega)
      have hO := out_len hW hA
      refine ⟨_, rfl, _, rfl, r, x, Z, _, _, p, ns, xs, bh, i, rfl, hZ4, hrZ, hS4, hW, by omega, hCA.mono sC, hA, ordered_at hord hcl, fun H5 D sB5 hS5 hDZ hD => ?_⟩
      have hZ5 : H5 Z = some (.lst ((toldN cs i).map V.int)) := sB5 _ _ (by rw [but_of hrZ]; exact hZ4)
      refine ⟨_, rfl, .inl ⟨rfl, _, SqL.of hZ5⟩, _, rfl, D, _, rfl, .inl (SqL.of hD), Z, _, _, rfl, rfl, hZ5, by rw [List.length_map]; exact small_lt (by omega), ?_⟩
      refine ⟨_, rfl, .inl ⟨rfl, _, SqL.of upd_same⟩, _, rfl, Z, D, _, _, rfl, rfl, upd_same, by rw [upd_ne hDZ]; exact hD, ?_, ?_⟩
      · rw [List.length_append, List.length_map, List.length_map]
        exact small_line (by show _ + 1 + _ ≤ 1000000; omega)
      · have eT := toldN_succ hcl
        have eR : runS Kh219Neutral.start (cs.take (i + 1)) = stepS (runS Kh219Neutral.start (cs.take i)) ((p :: ns) :: xs) := by rw [take_snoc hcl, runS_snoc]
        refine ⟨_, _, rfl, ?_, ?_, ?_, fun d o h => ?_⟩
        · rw [upd_same, eT, List.map_append, List.map_cons, List.length_map, List.append_assoc]
          rfl
        · rw [eT, List.length_append, List.length_cons]
          omega
        · rw [eR]
          exact (hS5.updZ hrZ).updZ hrZ
        · have h4 := sC _ _ h
          have n1 := del_ne h4
          have n2 := del_nz h4
          rw [del_of n1 n2] at h4 ⊢
          rw [upd_ne n2, upd_ne n2]
          exact sB5 _ _ (by rw [but_of n1]; exact h4)
    · rintro σ H4 ⟨v3, v4, rfl, hZ4, hl4, hS4, sC⟩
      refine ⟨_, rfl, k H4 Z ?_⟩
      rw [eans, hZ4, hlen]
      unfold toldN
      rw [List.take_length]
end
end Wn
end
section
set_option maxRecDepth 100000
set_option maxHeartbeats 4000000
namespace Wn
open PySem PySem.Spec PyProof.Rows L2
/-- how a def binds its arguments -/
def BindOk (x qual : Str) (st : Stmt) (ps : List Str) : Prop := ∀ (kV doc pm : Value) (an : Option Addr) (cdv ct : Value) (us : List Value), us.length = ps.length → bindArgs (PySem.W.fnOf x qual (defArgs st) (defBody st) (defScope st) .none kV doc pm an cdv ct) ⟨us, []⟩ = pure (ps.zip us)
theorem bd_Bound_init : BindOk "__init__" "Bound.__init__" s_Bound_init ["self", "c", "d"] := fun _ _ _ _ _ _ us hl => match us, hl with | [_, _, _], _ => rfl
theorem bd_read_bound : BindOk "read_bound" "read_bound" s_read_bound ["numbers"] := fun _ _ _ _ _ _ us hl => match us, hl with | [_], _ => rfl
theorem bd_read_bounds : BindOk "read_bounds" "read_bounds" s_read_bounds ["numbers"] := fun _ _ _ _ _ _ us hl => match us, hl with | [_], _ => rfl
theorem bd_opposite : BindOk "opposite" "opposite" s_opposite ["bound"] := fun _ _ _ _ _ _ us hl => match us, hl with | [_], _ => rfl
theorem bd_bound_as_told : BindOk "bound_as_told" "bound_as_told" s_bound_as_told ["bound", "unknowns"] := fun _ _ _ _ _ _ us hl => match us, hl with | [_, _], _ => rfl
theorem bd_never_holds : BindOk "never_holds" "never_holds" s_never_holds ["bound"] := fun _ _ _ _ _ _ us hl => match us, hl with | [_], _ => rfl
theorem bd_bound_holds : BindOk "bound_holds" "bound_holds" s_bound_holds ["bound", "x"] := fun _ _ _ _ _ _ us hl => match us, hl with | [_, _], _ => rfl
theorem bd_Fact_init : BindOk "__init__" "Fact.__init__" s_Fact_init ["self", "kind", "f", "a", "b", "r"] := fun _ _ _ _ _ _ us hl => match us, hl with | [_, _, _, _, _, _], _ => rfl
theorem bd_read_fact : BindOk "read_fact" "read_fact" s_read_fact ["numbers"] := fun _ _ _ _ _ _ us hl => match us, hl with | [_], _ => rfl
theorem bd_read_facts : BindOk "read_facts" "read_facts" s_read_facts ["numbers"] := fun _ _ _ _ _ _ us hl => match us, hl with | [_], _ => rfl
theorem bd_f_and_b_as_told : BindOk "f_and_b_as_told" "f_and_b_as_told" s_f_and_b_as_told ["fact", "unknowns"] := fun _ _ _ _ _ _ us hl => match us, hl with | [_, _], _ => rfl
theorem bd_fact_as_told : BindOk "fact_as_told" "fact_as_told" s_fact_as_told ["fact", "unknowns"] := fun _ _ _ _ _ _ us hl => match us, hl with | [_, _], _ => rfl
theorem bd_made_tables : BindOk "made_tables" "made_tables" s_made_tables ["facts"] := fun _ _ _ _ _ _ us hl => match us, hl with | [_], _ => rfl
theorem bd_way_up : BindOk "way_up" "way_up" s_way_up ["made", "table"] := fun _ _ _ _ _ _ us hl => match us, hl with | [_, _], _ => rfl
theorem bd_each_made_once : BindOk "each_made_once" "each_made_once" s_each_made_once ["facts"] := fun _ _ _ _ _ _ us hl => match us, hl with | [_], _ => rfl
theorem bd_table_that_decides : BindOk "table_that_decides" "table_that_decides" s_table_that_decides ["made", "table", "at", "x"] := fun _ _ _ _ _ _ us hl => match us, hl with | [_, _, _, _], _ => rfl
theorem bd_place_of : BindOk "place_of" "place_of" s_place_of ["fact", "made", "x"] := fun _ _ _ _ _ _ us hl => match us, hl with | [_, _, _], _ => rfl
theorem bd_facts_hold : BindOk "facts_hold" "facts_hold" s_facts_hold ["facts", "x"] := fun _ _ _ _ _ _ us hl => match us, hl with | [_, _], _ => rfl
theorem bd_Plan_init : BindOk "__init__" "Plan.__init__" s_Plan_init ["self", "unknowns", "lo", "hi", "facts", "somes"] := fun _ _ _ _ _ _ us hl => match us, hl with | [_, _, _, _, _, _], _ => rfl
theorem bd_read_plan : BindOk "read_plan" "read_plan" s_read_plan ["lists"] := fun _ _ _ _ _ _ us hl => match us, hl with | [_], _ => rfl
theorem bd_range_as_told : BindOk "range_as_told" "range_as_told" s_range_as_told ["low", "high", "most"] := fun _ _ _ _ _ _ us hl => match us, hl with | [_, _, _], _ => rfl
theorem bd_ranges_as_told : BindOk "ranges_as_told" "ranges_as_told" s_ranges_as_told ["plan"] := fun _ _ _ _ _ _ us hl => match us, hl with | [_], _ => rfl
theorem bd_facts_as_told : BindOk "facts_as_told" "facts_as_told" s_facts_as_told ["plan"] := fun _ _ _ _ _ _ us hl => match us, hl with | [_], _ => rfl
theorem bd_some_as_told : BindOk "some_as_told" "some_as_told" s_some_as_told ["some", "unknowns"] := fun _ _ _ _ _ _ us hl => match us, hl with | [_, _], _ => rfl
theorem bd_somes_as_told : BindOk "somes_as_told" "somes_as_told" s_somes_as_told ["plan"] := fun _ _ _ _ _ _ us hl => match us, hl with | [_], _ => rfl
theorem bd_plan_as_told : BindOk "plan_as_told" "plan_as_told" s_plan_as_told ["plan"] := fun _ _ _ _ _ _ us hl => match us, hl with | [_], _ => rfl
theorem bd_within_ranges : BindOk "within_ranges" "within_ranges" s_within_ranges ["plan", "x"] := fun _ _ _ _ _ _ us hl => match us, hl with | [_, _], _ => rfl
theorem bd_some_holds : BindOk "some_holds" "some_holds" s_some_holds ["some", "x"] := fun _ _ _ _ _ _ us hl => match us, hl with | [_, _], _ => rfl
theorem bd_numbers_meet : BindOk "numbers_meet" "numbers_meet" s_numbers_meet ["plan", "x"] := fun _ _ _ _ _ _ us hl => match us, hl with | [_, _], _ => rfl
theorem bd_Call_init : BindOk "__init__" "Call.__init__" s_Call_init ["self", "number", "wholes", "lists", "behind"] := fun _ _ _ _ _ _ us hl => match us, hl with | [_, _, _, _, _], _ => rfl
theorem bd_read_row : BindOk "read_row" "read_row" s_read_row ["calls", "at"] := fun _ _ _ _ _ _ us hl => match us, hl with | [_, _], _ => rfl
theorem bd_read_call : BindOk "read_call" "read_call" s_read_call ["calls", "at"] := fun _ _ _ _ _ _ us hl => match us, hl with | [_, _], _ => rfl
theorem bd_read_calls : BindOk "read_calls" "read_calls" s_read_calls ["calls"] := fun _ _ _ _ _ _ us hl => match us, hl with | [_], _ => rfl
theorem bd_gap_bound : BindOk "gap_bound" "gap_bound" s_gap_bound ["first", "second", "d"] := fun _ _ _ _ _ _ us hl => match us, hl with | [_, _, _], _ => rfl
theorem bd_apart : BindOk "apart" "apart" s_apart ["first", "second"] := fun _ _ _ _ _ _ us hl => match us, hl with | [_, _], _ => rfl
theorem bd_beside : BindOk "beside" "beside" s_beside ["at", "passed", "by"] := fun _ _ _ _ _ _ us hl => match us, hl with | [_, _, _], _ => rfl
theorem bd_same_function : BindOk "same_function" "same_function" s_same_function ["p", "q"] := fun _ _ _ _ _ _ us hl => match us, hl with | [_, _], _ => rfl
theorem bd_passed_to_written : BindOk "passed_to_written" "passed_to_written" s_passed_to_written ["made", "p", "q"] := fun _ _ _ _ _ _ us hl => match us, hl with | [_, _, _], _ => rfl
theorem bd_tables_up : BindOk "tables_up" "tables_up" s_tables_up ["made", "table"] := fun _ _ _ _ _ _ us hl => match us, hl with | [_, _], _ => rfl
theorem bd_passed_to_meeting : BindOk "passed_to_meeting" "passed_to_meeting" s_passed_to_meeting ["made", "p", "q"] := fun _ _ _ _ _ _ us hl => match us, hl with | [_, _, _], _ => rfl
theorem bd_passed_facts : BindOk "passed_facts" "passed_facts" s_passed_facts ["facts", "kind", "p", "q"] := fun _ _ _ _ _ _ us hl => match us, hl with | [_, _, _, _], _ => rfl
theorem bd_last_bound : BindOk "last_bound" "last_bound" s_last_bound ["kind", "p", "q"] := fun _ _ _ _ _ _ us hl => match us, hl with | [_, _, _], _ => rfl
theorem bd_lesson_bounds : BindOk "lesson_bounds" "lesson_bounds" s_lesson_bounds ["facts", "kind", "which_p", "which_q", "by"] := fun _ _ _ _ _ _ us hl => match us, hl with | [_, _, _, _, _], _ => rfl
theorem bd_Recipe_init : BindOk "__init__" "Recipe.__init__" s_Recipe_init ["self", "by", "low", "high", "times"] := fun _ _ _ _ _ _ us hl => match us, hl with | [_, _, _, _, _], _ => rfl
theorem bd_read_recipe : BindOk "read_recipe" "read_recipe" s_read_recipe ["by", "lists"] := fun _ _ _ _ _ _ us hl => match us, hl with | [_, _], _ => rfl
theorem bd_row_as_told : BindOk "row_as_told" "row_as_told" s_row_as_told ["row", "unknowns"] := fun _ _ _ _ _ _ us hl => match us, hl with | [_, _], _ => rfl
theorem bd_times_as_told : BindOk "times_as_told" "times_as_told" s_times_as_told ["times", "size"] := fun _ _ _ _ _ _ us hl => match us, hl with | [_, _], _ => rfl
theorem bd_recipe_as_told : BindOk "recipe_as_told" "recipe_as_told" s_recipe_as_told ["recipe", "unknowns", "size"] := fun _ _ _ _ _ _ us hl => match us, hl with | [_, _, _], _ => rfl
theorem bd_added : BindOk "added" "added" s_added ["recipe", "plan", "branch"] := fun _ _ _ _ _ _ us hl => match us, hl with | [_, _, _], _ => rfl
theorem bd_divides : BindOk "divides" "divides" s_divides ["by", "bound"] := fun _ _ _ _ _ _ us hl => match us, hl with | [_, _], _ => rfl
theorem bd_divided : BindOk "divided" "divided" s_divided ["bound", "by"] := fun _ _ _ _ _ _ us hl => match us, hl with | [_, _], _ => rfl
theorem bd_sum_bound : BindOk "sum_bound" "sum_bound" s_sum_bound ["recipe", "plan", "branch"] := fun _ _ _ _ _ _ us hl => match us, hl with | [_, _, _], _ => rfl
theorem bd_Reasons_init : BindOk "__init__" "Reasons.__init__" s_Reasons_init ["self"] := fun _ _ _ _ _ _ us hl => match us, hl with | [_], _ => rfl
theorem bd_Reasons_begin : BindOk "begin" "Reasons.begin" s_Reasons_begin ["self", "plan"] := fun _ _ _ _ _ _ us hl => match us, hl with | [_, _], _ => rfl
theorem bd_Reasons_cases : BindOk "cases" "Reasons.cases" s_Reasons_cases ["self", "le"] := fun _ _ _ _ _ _ us hl => match us, hl with | [_, _], _ => rfl
theorem bd_Reasons_some : BindOk "some" "Reasons.some" s_Reasons_some ["self", "p"] := fun _ _ _ _ _ _ us hl => match us, hl with | [_, _], _ => rfl
theorem bd_Reasons_lesson : BindOk "lesson" "Reasons.lesson" s_Reasons_lesson ["self", "kind", "p", "q", "by"] := fun _ _ _ _ _ _ us hl => match us, hl with | [_, _, _, _, _], _ => rfl
theorem bd_Reasons_add_up : BindOk "add_up" "Reasons.add_up" s_Reasons_add_up ["self", "recipe"] := fun _ _ _ _ _ _ us hl => match us, hl with | [_, _], _ => rfl
theorem bd_Reasons_holds : BindOk "holds" "Reasons.holds" s_Reasons_holds ["self", "k"] := fun _ _ _ _ _ _ us hl => match us, hl with | [_, _], _ => rfl
theorem bd_Reasons_how_many : BindOk "how_many" "Reasons.how_many" s_Reasons_how_many ["self"] := fun _ _ _ _ _ _ us hl => match us, hl with | [_], _ => rfl
theorem bd_Reasons_branch_out : BindOk "branch_out" "Reasons.branch_out" s_Reasons_branch_out ["self", "bounds"] := fun _ _ _ _ _ _ us hl => match us, hl with | [_, _], _ => rfl
theorem bd_meets : BindOk "meets" "meets" s_meets ["plan", "x"] := fun _ _ _ _ _ _ us hl => match us, hl with | [_, _], _ => rfl
theorem bd_answer_line : BindOk "answer_line" "answer_line" s_answer_line ["reasons", "call"] := fun _ _ _ _ _ _ us hl => match us, hl with | [_, _], _ => rfl
theorem bd_answer : BindOk "answer" "answer" s_answer ["reasons", "call"] := fun _ _ _ _ _ _ us hl => match us, hl with | [_, _], _ => rfl
theorem bd_answers : BindOk "answers" "answers" s_answers ["calls"] := fun _ _ _ _ _ _ us hl => match us, hl with | [_], _ => rfl
section
variable {K : PySem.W.Frag} {mg : Str → Option Value} {h : Heap}
theorem gf_mk {x : Str} {st : Stmt} {ps : List Str} {f : Addr} {oc : Value} {od an : Option Addr} {osl : Array (Option Value)} {kV doc pm cdv ct : Value} (X : K.In h) (G : h.Ns mainGlobals mg) (b : BindOk x x st ps) (a : PySem.W.nsIn K mainGlobals x = some (some (.ref f)))
    (l : K.lookup f = some ⟨oc, od, .func (PySem.W.fnOf x x (defArgs st) (defBody st) (defScope st) .none kV doc pm an cdv ct), osl⟩) (c : PySem.W.codeIn K cdv x = true) (k : PySem.W.keepIn K (.ref f) = true) : GF K mg x st ps := by
  have F := fun_mk (st := st) l c k
  exact ⟨f, _, F, F.binds b, PySem.W.mg_of X G a⟩
theorem gm_mk {C : Addr} {x qual : Str} {st : Stmt} {ps : List Str} {f : Addr} {oc : Value} {od an : Option Addr} {osl : Array (Option Value)} {kV doc pm cdv ct : Value} (b : BindOk x qual st ps) (a : PySem.W.findIn K (.ref C) x = some (some (.ref f))) (i : PySem.W.isFn K (.ref f) = true)
    (l : K.lookup f = some ⟨oc, od, .func (PySem.W.fnOf x qual (defArgs st) (defBody st) (defScope st) .none kV doc pm an cdv ct), osl⟩) (c : PySem.W.codeIn K cdv qual = true) (k : PySem.W.keepIn K (.ref f) = true) : GM K C x qual st ps := by
  have F := fun_mk (st := st) l c k
  exact ⟨f, _, F, F.binds b, a, i⟩
theorem gi_mk {x : Str} {i : Int} {t : Tok} (X : K.In h) (G : h.Ns mainGlobals mg) (a : PySem.W.nsIn K mainGlobals x = some (some (.int i t))) : GInt mg x i := ⟨t, PySem.W.mg_of X G a⟩
theorem gn_mk {x : Str} (X : K.In h) (G : h.Ns mainGlobals mg) (a : PySem.W.nsIn K mainGlobals x = some none) : mg x = none := PySem.W.mg_none_of X G a
theorem na_mk {C : Addr} {x : Str} (a : PySem.W.findIn K (.ref C) x = some none) : NoAttr K C x := a
theorem cls_mk {C : Addr} (pg : PySem.W.plainGet K C Str.empty = true) (hd : PySem.W.hasDictIn K C = true) (po : PySem.W.plainOver K C = true) (sa : PySem.W.findIn K (.ref C) "__setattr__" = some (some (.builtin "object.__setattr__"))) : Cls K C := ⟨pg, hd, po, sa⟩
end
/-- all that the top leaves behind -/
structure Defs (K : PySem.W.Frag) (mg : Str → Option Value) (A : Ads) : Prop where
  g_Bound_init : GM K A.B "__init__" "Bound.__init__" s_Bound_init ["self", "c", "d"]
  g_read_bound : GF K mg "read_bound" s_read_bound ["numbers"]
  g_read_bounds : GF K mg "read_bounds" s_read_bounds ["numbers"]
  g_opposite : GF K mg "opposite" s_opposite ["bound"]
  g_bound_as_told : GF K mg "bound_as_told" s_bound_as_told ["bound", "unknowns"]
  g_never_holds : GF K mg "never_holds" s_never_holds ["bound"]
  g_bound_holds : GF K mg "bound_holds" s_bound_holds ["bound", "x"]
  g_Fact_init : GM K A.F "__init__" "Fact.__init__" s_Fact_init ["self", "kind", "f", "a", "b", "r"]
  g_read_fact : GF K mg "read_fact" s_read_fact ["numbers"]
  g_read_facts : GF K mg "read_facts" s_read_facts ["numbers"]
  g_f_and_b_as_told : GF K mg "f_and_b_as_told" s_f_and_b_as_told ["fact", "unknowns"]
  g_fact_as_told : GF K mg "fact_as_told" s_fact_as_told ["fact", "unknowns"]
  g_made_tables : GF K mg "made_tables" s_made_tables ["facts"]
  g_way_up : GF K mg "way_up" s_way_up ["made", "table"]
  g_each_made_once : GF K mg "each_made_once" s_each_made_once ["facts"]
  g_table_that_decides : GF K mg "table_that_decides" s_table_that_decides ["made", "table", "at", "x"]
  g_place_of : GF K mg "place_of" s_place_of ["fact", "made", "x"]
  g_facts_hold : GF K mg "facts_hold" s_facts_hold ["facts", "x"]
  g_Plan_init : GM K A.P "__init__" "Plan.__init__" s_Plan_init ["self", "unknowns", "lo", "hi", "facts", "somes"]
  g_read_plan : GF K mg "read_plan" s_read_plan ["lists"]
  g_range_as_told : GF K mg "range_as_told" s_range_as_told ["low", "high", "most"]
  g_ranges_as_told : GF K mg "ranges_as_told" s_ranges_as_told ["plan"]
  g_facts_as_told : GF K mg "facts_as_told" s_facts_as_told ["plan"]
  g_some_as_told : GF K mg "some_as_told" s_some_as_told ["some", "unknowns"]
  g_somes_as_told : GF K mg "somes_as_told" s_somes_as_told ["plan"]
  g_plan_as_told : GF K mg "plan_as_told" s_plan_as_told ["plan"]
  g_within_ranges : GF K mg "within_ranges" s_within_ranges ["plan", "x"]
  g_some_holds : GF K mg "some_holds" s_some_holds ["some", "x"]
  g_numbers_meet : GF K mg "numbers_meet" s_numbers_meet ["plan", "x"]
  g_Call_init : GM K A.C "__init__" "Call.__init__" s_Call_init ["self", "number", "wholes", "lists", "behind"]
  g_read_row : GF K mg "read_row" s_read_row ["calls", "at"]
  g_read_call : GF K mg "read_call" s_read_call ["calls", "at"]
  g_read_calls : GF K mg "read_calls" s_read_calls ["calls"]
  g_gap_bound : GF K mg "gap_bound" s_gap_bound ["first", "second", "d"]
  g_apart : GF K mg "apart" s_apart ["first", "second"]
  g_beside : GF K mg "beside" s_beside ["at", "passed", "by"]
  g_same_function : GF K mg "same_function" s_same_function ["p", "q"]
  g_passed_to_written : GF K mg "passed_to_written" s_passed_to_written ["made", "p", "q"]
  g_tables_up : GF K mg "tables_up" s_tables_up ["made", "table"]
  g_passed_to_meeting : GF K mg "passed_to_meeting" s_passed_to_meeting ["made", "p", "q"]
  g_passed_facts : GF K mg "passed_facts" s_passed_facts ["facts", "kind", "p", "q"]
  g_last_bound : GF K mg "last_bound" s_last_bound ["kind", "p", "q"]
  g_lesson_bounds : GF K mg "lesson_bounds" s_lesson_bounds ["facts", "kind", "which_p", "which_q", "by"]
  g_Recipe_init : GM K A.S "__init__" "Recipe.__init__" s_Recipe_init ["self", "by", "low", "high", "times"]
  g_read_recipe : GF K mg "read_recipe" s_read_recipe ["by", "lists"]
  g_row_as_told : GF K mg "row_as_told" s_row_as_told ["row", "unknowns"]
  g_times_as_told : GF K mg "times_as_told" s_times_as_told ["times", "size"]
  g_recipe_as_told : GF K mg "recipe_as_told" s_recipe_as_told ["recipe", "unknowns", "size"]
  g_added : GF K mg "added" s_added ["recipe", "plan", "branch"]
  g_divides : GF K mg "divides" s_divides ["by", "bound"]
  g_divided : GF K mg "divided" s_divided ["bound", "by"]
  g_sum_bound : GF K mg "sum_bound" s_sum_bound ["recipe", "plan", "branch"]
  g_Reasons_init : GM K A.R "__init__" "Reasons.__init__" s_Reasons_init ["self"]
  g_Reasons_begin : GM K A.R "begin" "Reasons.begin" s_Reasons_begin ["self", "plan"]
  g_Reasons_cases : GM K A.R "cases" "Reasons.cases" s_Reasons_cases ["self", "le"]
  g_Reasons_some : GM K A.R "some" "Reasons.some" s_Reasons_some ["self", "p"]
  g_Reasons_lesson : GM K A.R "lesson" "Reasons.lesson" s_Reasons_lesson ["self", "kind", "p", "q", "by"]
  g_Reasons_add_up : GM K A.R "add_up" "Reasons.add_up" s_Reasons_add_up ["self", "recipe"]
  g_Reasons_holds : GM K A.R "holds" "Reasons.holds" s_Reasons_holds ["self", "k"]
  g_Reasons_how_many : GM K A.R "how_many" "Reasons.how_many" s_Reasons_how_many ["self"]
  g_Reasons_branch_out : GM K A.R "branch_out" "Reasons.branch_out" s_Reasons_branch_out ["self", "bounds"]
  g_meets : GF K mg "meets" s_meets ["plan", "x"]
  g_answer_line : GF K mg "answer_line" s_answer_line ["reasons", "call"]
  g_answer : GF K mg "answer" s_answer ["reasons", "call"]
  mk_Bound : PySem.W.makesIn K A.B = true
  kp_Bound : PySem.W.keepIn K (.ref A.B) = true
  my_Bound : mg "Bound" = some (.ref A.B)
  mk_Fact : PySem.W.makesIn K A.F = true
  kp_Fact : PySem.W.keepIn K (.ref A.F) = true
  my_Fact : mg "Fact" = some (.ref A.F)
  mk_Plan : PySem.W.makesIn K A.P = true
  kp_Plan : PySem.W.keepIn K (.ref A.P) = true
  my_Plan : mg "Plan" = some (.ref A.P)
  mk_Call : PySem.W.makesIn K A.C = true
  kp_Call : PySem.W.keepIn K (.ref A.C) = true
  my_Call : mg "Call" = some (.ref A.C)
  mk_Recipe : PySem.W.makesIn K A.S = true
  kp_Recipe : PySem.W.keepIn K (.ref A.S) = true
  my_Recipe : mg "Recipe" = some (.ref A.S)
  mk_Reasons : PySem.W.makesIn K A.R = true
  kp_Reasons : PySem.W.keepIn K (.ref A.R) = true
  my_Reasons : mg "Reasons" = some (.ref A.R)
  tB : TxtB K mg A
  tF : TxtF K mg A
  tP : TxtP K mg A
  tR : TxtR K A
  tS : TxtS K mg A
  tT : TxtT K mg A
  tL : TxtL mg
  tD : TxtD mg
  tG : TxtG mg
theorem all_ok {P : Program} {w : World} {K : PySem.W.Frag} {mg : Str → Option Value} {base : Heap} {A : Ads} {f : Addr} {fd : FuncData} (D : Defs K mg A) (F : Fun K "answers" "answers" s_answers f fd) : FnOk P w K mg base CX0 9 f fd ["calls"] (spAnswers K) := by
  have tB := D.tB
  have tF := D.tF
  have tP := D.tP
  have tR := D.tR
  have tS := D.tS
  have tT := D.tT
  have tL := D.tL
  have tD := D.tD
  have tG := D.tG
  have mk_Bound := D.mk_Bound
  have kp_Bound := D.kp_Bound
  have my_Bound := D.my_Bound
  have mk_Fact := D.mk_Fact
  have kp_Fact := D.kp_Fact
  have my_Fact := D.my_Fact
  have mk_Plan := D.mk_Plan
  have kp_Plan := D.kp_Plan
  have my_Plan := D.my_Plan
  have mk_Call := D.mk_Call
  have kp_Call := D.kp_Call
  have my_Call := D.my_Call
  have mk_Recipe := D.mk_Recipe
  have kp_Recipe := D.kp_Recipe
  have my_Recipe := D.my_Recipe
  have mk_Reasons := D.mk_Reasons
  have kp_Reasons := D.kp_Reasons
  have my_Reasons := D.my_Reasons
  have p_Bound_init := ok_Bound_init (P := P) (w := w) (base := base) (A := A) D.g_Bound_init (by assumption) (by assumption) (by assumption) (by assumption)
  have p_read_bound := ok_read_bound (P := P) (w := w) (base := base) (A := A) D.g_read_bound (by assumption) (by assumption)
  have p_read_bounds := ok_read_bounds (P := P) (w := w) (base := base) (A := A) D.g_read_bounds (by assumption) (by assumption) (by assumption)
  have p_opposite := ok_opposite (P := P) (w := w) (base := base) (A := A) D.g_opposite (by assumption) (by assumption)
  have p_bound_as_told := ok_bound_as_told (P := P) (w := w) (base := base) (A := A) D.g_bound_as_told (by assumption) (by assumption)
  have p_bound_holds := ok_bound_holds (P := P) (w := w) (base := base) (A := A) D.g_bound_holds (by assumption) (by assumption)
  have p_Fact_init := ok_Fact_init (P := P) (w := w) (base := base) (A := A) D.g_Fact_init (by assumption) (by assumption) (by assumption) (by assumption)
  have p_read_fact := ok_read_fact (P := P) (w := w) (base := base) (A := A) D.g_read_fact (by assumption)
  have p_read_facts := ok_read_facts (P := P) (w := w) (base := base) (A := A) D.g_read_facts (by assumption) (by assumption) (by assumption)
  have p_f_and_b_as_told := ok_f_and_b_as_told (P := P) (w := w) (base := base) (A := A) D.g_f_and_b_as_told (by assumption)
  have p_fact_as_told := ok_fact_as_told (P := P) (w := w) (base := base) (A := A) D.g_fact_as_told (by assumption) (by assumption)
  have p_made_tables := ok_made_tables (P := P) (w := w) (base := base) (A := A) D.g_made_tables (by assumption)
  have p_each_made_once := ok_each_made_once (P := P) (w := w) (base := base) (A := A) D.g_each_made_once (by assumption) (by assumption) (by assumption)
  have p_table_that_decides := ok_table_that_decides (P := P) (w := w) (base := base) (A := A) D.g_table_that_decides (by assumption)
  have p_place_of := ok_place_of (P := P) (w := w) (base := base) (A := A) D.g_place_of (by assumption) (by assumption)
  have p_facts_hold := ok_facts_hold (P := P) (w := w) (base := base) (A := A) D.g_facts_hold (by assumption) (by assumption) (by assumption)
  have p_Plan_init := ok_Plan_init (P := P) (w := w) (base := base) (A := A) D.g_Plan_init (by assumption) (by assumption) (by assumption) (by assumption)
  have p_read_plan := ok_read_plan (P := P) (w := w) (base := base) (A := A) D.g_read_plan (by assumption) (by assumption) (by assumption) (by assumption)
  have p_range_as_told := ok_range_as_told (P := P) (w := w) (base := base) D.g_range_as_told
  have p_ranges_as_told := ok_ranges_as_told (P := P) (w := w) (base := base) (A := A) D.g_ranges_as_told (by assumption) (by assumption) (by assumption) (by assumption)
  have p_facts_as_told := ok_facts_as_told (P := P) (w := w) (base := base) (A := A) D.g_facts_as_told (by assumption) (by assumption) (by assumption) (by assumption)
  have p_some_as_told := ok_some_as_told (P := P) (w := w) (base := base) (A := A) D.g_some_as_told (by assumption) (by assumption) (by assumption)
  have p_somes_as_told := ok_somes_as_told (P := P) (w := w) (base := base) (A := A) D.g_somes_as_told (by assumption) (by assumption) (by assumption)
  have p_plan_as_told := ok_plan_as_told (P := P) (w := w) (base := base) (A := A) D.g_plan_as_told (by assumption) (by assumption) (by assumption) (by assumption) (by assumption)
  have p_within_ranges := ok_within_ranges (P := P) (w := w) (base := base) (A := A) D.g_within_ranges (by assumption) (by assumption)
  have p_some_holds := ok_some_holds (P := P) (w := w) (base := base) (A := A) D.g_some_holds (by assumption) (by assumption)
  have p_numbers_meet := ok_numbers_meet (P := P) (w := w) (base := base) (A := A) D.g_numbers_meet (by assumption) (by assumption) (by assumption) (by assumption) (by assumption)
  have p_Call_init := ok_Call_init (P := P) (w := w) (base := base) (A := A) D.g_Call_init (by assumption) (by assumption) (by assumption) (by assumption)
  have p_read_row := ok_read_row (P := P) (w := w) (base := base) D.g_read_row
  have p_read_call := ok_read_call (P := P) (w := w) (base := base) (A := A) D.g_read_call (by assumption) (by assumption) (by assumption)
  have p_read_calls := ok_read_calls (P := P) (w := w) (base := base) (A := A) D.g_read_calls (by assumption) (by assumption) (by assumption)
  have p_Reasons_init := ok_Reasons_init (P := P) (w := w) (base := base) (A := A) D.g_Reasons_init (by assumption) (by assumption) (by assumption) (by assumption)
  have p_Reasons_begin := ok_Reasons_begin (P := P) (w := w) (base := base) (A := A) D.g_Reasons_begin (by assumption) (by assumption)
  have p_Reasons_branch_out := ok_Reasons_branch_out (P := P) (w := w) (base := base) (A := A) D.g_Reasons_branch_out (by assumption) (by assumption)
  have p_Reasons_cases := ok_Reasons_cases (P := P) (w := w) (base := base) (A := A) D.g_Reasons_cases (by assumption) (by assumption) (by assumption) (by assumption) (by assumption)
  have p_Reasons_some := ok_Reasons_some (P := P) (w := w) (base := base) (A := A) D.g_Reasons_some (by assumption) (by assumption) (by assumption) (by assumption)
  have p_meets := ok_meets (P := P) (w := w) (base := base) (A := A) D.g_meets (by assumption) (by assumption) (by assumption)
  have p_never_holds := ok_never_holds (P := P) (w := w) (base := base) (A := A) D.g_never_holds (by assumption) (by assumption)
  have p_gap_bound := ok_gap_bound (P := P) (w := w) (base := base) (A := A) D.g_gap_bound (by assumption) (by assumption)
  have p_apart := ok_apart (P := P) (w := w) (base := base) (A := A) D.g_apart (by assumption)
  have p_way_up := ok_way_up (P := P) (w := w) (base := base) (A := A) D.g_way_up (by assumption)
  have p_beside := ok_beside (P := P) (w := w) (base := base) (A := A) D.g_beside (by assumption) (by assumption) (by assumption)
  have p_same_function := ok_same_function (P := P) (w := w) (base := base) (A := A) D.g_same_function (by assumption)
  have p_passed_to_written := ok_passed_to_written (P := P) (w := w) (base := base) (A := A) D.g_passed_to_written (by assumption) (by assumption)
  have p_tables_up := ok_tables_up (P := P) (w := w) (base := base) (A := A) D.g_tables_up (by assumption) (by assumption)
  have p_passed_to_meeting := ok_passed_to_meeting (P := P) (w := w) (base := base) (A := A) D.g_passed_to_meeting (by assumption) (by assumption) (by assumption)
  have p_passed_facts := ok_passed_facts (P := P) (w := w) (base := base) (A := A) D.g_passed_facts (by assumption) (by assumption) (by assumption) (by assumption) (by assumption)
  have p_last_bound := ok_last_bound (P := P) (w := w) (base := base) (A := A) D.g_last_bound (by assumption) (by assumption) (by assumption)
  have p_lesson_bounds := ok_lesson_bounds (P := P) (w := w) (base := base) (A := A) D.g_lesson_bounds (by assumption) (by assumption) (by assumption) (by assumption) (by assumption) (by assumption)
  have p_Recipe_init := ok_Recipe_init (P := P) (w := w) (base := base) (A := A) D.g_Recipe_init (by assumption) (by assumption) (by assumption) (by assumption)
  have p_read_recipe := ok_read_recipe (P := P) (w := w) (base := base) (A := A) D.g_read_recipe (by assumption) (by assumption)
  have p_row_as_told := ok_row_as_told (P := P) (w := w) (base := base) (A := A) D.g_row_as_told (by assumption) (by assumption)
  have p_times_as_told := ok_times_as_told (P := P) (w := w) (base := base) (A := A) D.g_times_as_told (by assumption) (by assumption)
  have p_recipe_as_told := ok_recipe_as_told (P := P) (w := w) (base := base) (A := A) D.g_recipe_as_told (by assumption) (by assumption) (by assumption)
  have p_divides := ok_divides (P := P) (w := w) (base := base) (A := A) D.g_divides (by assumption) (by assumption)
  have p_divided := ok_divided (P := P) (w := w) (base := base) (A := A) D.g_divided (by assumption) (by assumption)
  have p_added := ok_added (P := P) (w := w) (base := base) (A := A) D.g_added (by assumption) (by assumption) (by assumption) (by assumption) (by assumption)
  have p_sum_bound := ok_sum_bound (P := P) (w := w) (base := base) (A := A) D.g_sum_bound (by assumption) (by assumption) (by assumption) (by assumption) (by assumption) (by assumption) (by assumption) (by assumption)
  have p_Reasons_lesson := ok_Reasons_lesson (P := P) (w := w) (base := base) (A := A) D.g_Reasons_lesson (by assumption) (by assumption) (by assumption) (by assumption)
  have p_Reasons_add_up := ok_Reasons_add_up (P := P) (w := w) (base := base) (A := A) D.g_Reasons_add_up (by assumption) (by assumption) (by assumption) (by assumption)
  have p_Reasons_holds := ok_Reasons_holds (P := P) (w := w) (base := base) (A := A) D.g_Reasons_holds (by assumption) (by assumption) (by assumption)
  have p_Reasons_how_many := ok_Reasons_how_many (P := P) (w := w) (base := base) (A := A) D.g_Reasons_how_many (by assumption) (by assumption)
  have p_answer_line := ok_answer_line (P := P) (w := w) (base := base) (A := A) D.g_answer_line (by assumption) (by assumption) (by assumption) (by assumption) (by assumption) (by assumption) (by assumption) (by assumption)
  have p_answer := ok_answer (P := P) (w := w) (base := base) (A := A) D.g_answer (by assumption) (by assumption) (by assumption) (by assumption) (by assumption) (by assumption) (by assumption) (by assumption)
  exact ok_answers (P := P) (w := w) (base := base) (A := A) F (by assumption) (by assumption) (by assumption) (by assumption)
theorem all_mk {P : Program} {w : World} {K : PySem.W.Frag} {h : Heap} {mg : Str → Option Value} {fa f : Addr} {B F Pl C R S : Addr} {oc : Value} {od an : Option Addr} {osl : Array (Option Value)} {kV doc pm cdv ct : Value} (X : K.In h) (G : h.Ns mainGlobals mg) (hfa : mg "answers" = some (.ref fa))
    (a : PySem.W.nsIn K mainGlobals "answers" = some (some (.ref f))) (l : K.lookup f = some ⟨oc, od, .func (PySem.W.fnOf "answers" "answers" (defArgs s_answers) (defBody s_answers) (defScope s_answers) .none kV doc pm an cdv ct), osl⟩) (c : PySem.W.codeIn K cdv "answers" = true) (k : PySem.W.keepIn K (.ref f) = true)
    (aB : PySem.W.nsIn K mainGlobals "Bound" = some (some (.ref B)))
    (aF : PySem.W.nsIn K mainGlobals "Fact" = some (some (.ref F)))
    (aP : PySem.W.nsIn K mainGlobals "Plan" = some (some (.ref Pl)))
    (aC : PySem.W.nsIn K mainGlobals "Call" = some (some (.ref C)))
    (aS : PySem.W.nsIn K mainGlobals "Recipe" = some (some (.ref S)))
    (aR : PySem.W.nsIn K mainGlobals "Reasons" = some (some (.ref R)))
    (D : Defs K mg ⟨B, F, Pl, C, R, S⟩) :
    ∃ fd : FuncData, (∀ (s : Shared) (us : List Value), us.length = (["calls"] : List Str).length → BindsTo s fd ⟨us, []⟩ ((["calls"] : List Str).zip us)) ∧ ∀ base : Heap, K.In base → base.Ns mainGlobals mg → FnOk P w K mg base CX0 9 fa fd ["calls"] (spAnswers K) := by
  have e := hfa.symm.trans (PySem.W.mg_of X G a)
  cases e
  have F1 := fun_mk (st := s_answers) l c k
  exact ⟨_, fun s us hu => match us, hu with | [_], _ => .of_eq rfl, fun base _ _ => all_ok D F1⟩
end Wn
end
/-! names that stand already: so the head makes no second spelling of its own words (with them the compiled text is of 136 MB, without of some 51) -/
def PySem.W.Fast.tw3250813513709291387 : Unit := ()
def PySem.W.Fast.tw13393531767470396350 : Unit := ()
def PySem.W.Fast.tw4883135037224884346 : Unit := ()
def PySem.W.Fast.tw12390174999329317819 : Unit := ()
def PySem.W.Fast.tw15225224624881603108 : Unit := ()
def PySem.W.Fast.tw2055494461094951890 : Unit := ()
def PySem.W.Fast.tw759694186803125224 : Unit := ()
def PySem.W.Fast.tw7442740024454121942 : Unit := ()
def PySem.W.Fast.tw10468047806541391306 : Unit := ()
def PySem.W.Fast.tw4545573715814859969 : Unit := ()
def PySem.W.Fast.tw4674085656407113620 : Unit := ()
def PySem.W.Fast.tw15070408066066469474 : Unit := ()
def PySem.W.Fast.tw1053919552807970271 : Unit := ()
def PySem.W.Fast.tw12097257783691278847 : Unit := ()
def PySem.W.Fast.tw10998238810187376859 : Unit := ()
def PySem.W.Fast.tw1958191358674466006 : Unit := ()
def PySem.W.Fast.tw14703598144773167995 : Unit := ()
def PySem.W.Fast.tw15766675876270198743 : Unit := ()
def PySem.W.Fast.tw3956355541256176851 : Unit := ()
def PySem.W.Fast.tw15622535420338340004 : Unit := ()
def PySem.W.Fast.tw2044244397864252638 : Unit := ()
def PySem.W.Fast.tw5509659055752332523 : Unit := ()
def PySem.W.Fast.tw17238423690280535526 : Unit := ()
def PySem.W.Fast.tw2309700200042730089 : Unit := ()
def PySem.W.Fast.tw1607302319878362955 : Unit := ()
def PySem.W.Fast.tw10397300047090701604 : Unit := ()
def PySem.W.Fast.tw9985481027031531697 : Unit := ()
def PySem.W.Fast.tw1677737215629017848 : Unit := ()
def PySem.W.Fast.tw1255859739257451913 : Unit := ()
def PySem.W.Fast.tw18036194063629020524 : Unit := ()
def PySem.W.Fast.tw5827044193880662535 : Unit := ()
def PySem.W.Fast.tw15602334085526314143 : Unit := ()
def PySem.W.Fast.tw30382814915666436 : Unit := ()
def PySem.W.Fast.tw15279241537749234766 : Unit := ()
def PySem.W.Fast.tw10951222485028835117 : Unit := ()
def PySem.W.Fast.tw1698758014924507877 : Unit := ()
def PySem.W.Fast.tw6037811644502349655 : Unit := ()
def PySem.W.Fast.tw8201424101596142014 : Unit := ()
def PySem.W.Fast.tw8346421300362377617 : Unit := ()
def PySem.W.Fast.tw10837311595691655086 : Unit := ()
def PySem.W.Fast.tw13367771998795889346 : Unit := ()
def PySem.W.Fast.tw2875012913824198415 : Unit := ()
def PySem.W.Fast.tw16368254545652349765 : Unit := ()
def PySem.W.Fast.tw9438495282453295302 : Unit := ()
def PySem.W.Fast.tw7825535020268646781 : Unit := ()
def PySem.W.Fast.tw661221590136560868 : Unit := ()
def PySem.W.Fast.tw15676891685846675795 : Unit := ()
def PySem.W.Fast.tw4142631518113740714 : Unit := ()
def PySem.W.Fast.tw16749927957751091013 : Unit := ()
def PySem.W.Fast.tw1487311061473196625 : Unit := ()
def PySem.W.Fast.tw17964026538774575061 : Unit := ()
def PySem.W.Fast.tw5519498304824669851 : Unit := ()
def PySem.W.Fast.tw14838396400487984634 : Unit := ()
def PySem.W.Fast.tw12939774703621620187 : Unit := ()
def PySem.W.Fast.tw11733843458280650210 : Unit := ()
def PySem.W.Fast.tw5284083047424221269 : Unit := ()
def PySem.W.Fast.tw345684641099860048 : Unit := ()
def PySem.W.Fast.tw15156679427130515270 : Unit := ()
def PySem.W.Fast.tw2110694044146258925 : Unit := ()
def PySem.W.Fast.tw12431512142047695834 : Unit := ()
def PySem.W.Fast.tw9810983049508146066 : Unit := ()
def PySem.W.Fast.tw1704994886078117083 : Unit := ()
def PySem.W.Fast.tw2041889630350803492 : Unit := ()
def PySem.W.Fast.tw11916922044839676731 : Unit := ()
def PySem.W.Fast.tw6171592067363829293 : Unit := ()
def PySem.W.Fast.tw3330919599954910402 : Unit := ()
def PySem.W.Fast.tw1522346851946554130 : Unit := ()
def PySem.W.Fast.tw13252943522632805869 : Unit := ()
def PySem.W.Fast.tw14472596592598070465 : Unit := ()
def PySem.W.Fast.tw16040211475430367654 : Unit := ()
def PySem.W.Fast.tw15116138206715082459 : Unit := ()
def PySem.W.Fast.tw13700903178816369416 : Unit := ()
def PySem.W.Fast.tw14729370154877125053 : Unit := ()
def PySem.W.Fast.tw11325903254076357278 : Unit := ()
def PySem.W.Fast.tw1920660767351589189 : Unit := ()
def PySem.W.Fast.tw16115498650242756936 : Unit := ()
def PySem.W.Fast.tw1621713395159871460 : Unit := ()
def PySem.W.Fast.tw12426722313367268704 : Unit := ()
def PySem.W.Fast.tw8591073382299162285 : Unit := ()
def PySem.W.Fast.tw14484248382739338958 : Unit := ()
def PySem.W.Fast.tw6609157401584391304 : Unit := ()
def PySem.W.Fast.tw8490876957962556154 : Unit := ()
def PySem.W.Fast.tw2964932204243398232 : Unit := ()
def PySem.W.Fast.tw1568277682044017878 : Unit := ()
def PySem.W.Fast.tw6959376296850128348 : Unit := ()
def PySem.W.Fast.tw17453076602485807020 : Unit := ()
def PySem.W.Fast.tw13200590855879947638 : Unit := ()
def PySem.W.Fast.tw8959153355690149613 : Unit := ()
def PySem.W.Fast.tw788868480528151870 : Unit := ()
def PySem.W.Fast.tw11207276357918555335 : Unit := ()
def PySem.W.Fast.tw8979691452876352364 : Unit := ()
def PySem.W.Fast.tw3630680106188240987 : Unit := ()
def PySem.W.Fast.tw1437172436309076645 : Unit := ()
def PySem.W.Fast.tw13446474784342953192 : Unit := ()
def PySem.W.Fast.tw12249967575425275776 : Unit := ()
def PySem.W.Fast.tw17862934737506254724 : Unit := ()
def PySem.W.Fast.tw1160599719495709872 : Unit := ()
def PySem.W.Fast.tw4560785740477630203 : Unit := ()
def PySem.W.Fast.tw11288943793258039577 : Unit := ()
def PySem.W.Fast.tw17449058569028611543 : Unit := ()
def PySem.W.Fast.tw13259497061951180003 : Unit := ()
def PySem.W.Fast.tw14717470673245284726 : Unit := ()
def PySem.W.Fast.tw8915749376287332882 : Unit := ()
def PySem.W.Fast.tw8673339592128642291 : Unit := ()
def PySem.W.Fast.tw15108730382791700992 : Unit := ()
def PySem.W.Fast.tw16545969366786945389 : Unit := ()
def PySem.W.Fast.tw7233126721361187270 : Unit := ()
def PySem.W.Fast.tw286958796017171901 : Unit := ()
def PySem.W.Fast.tw15261385971490760889 : Unit := ()
def PySem.W.Fast.tw11497307407138882616 : Unit := ()
def PySem.W.Fast.tw7720047173363559961 : Unit := ()
def PySem.W.Fast.tw5252887759604851395 : Unit := ()
def PySem.W.Fast.tw17542440428082116771 : Unit := ()
def PySem.W.Fast.tw11163190077315244980 : Unit := ()
def PySem.W.Fast.tw9560875105277354730 : Unit := ()
def PySem.W.Fast.tw1139262623856515402 : Unit := ()
def PySem.W.Fast.tw15095476003663888676 : Unit := ()
def PySem.W.Fast.tw9371515488588715604 : Unit := ()
def PySem.W.Fast.tw11350201333663639535 : Unit := ()
def PySem.W.Fast.tw8346476747185393076 : Unit := ()
def PySem.W.Fast.tw8284273511586153297 : Unit := ()
def PySem.W.Fast.tw18405825881212056942 : Unit := ()
def PySem.W.Fast.tw218886680539113414 : Unit := ()
def PySem.W.Fast.tw13489857008219032135 : Unit := ()
def PySem.W.Fast.tw1511133513670624068 : Unit := ()
def PySem.W.Fast.tw6986788290171455556 : Unit := ()
def PySem.W.Fast.tw13482690710435364246 : Unit := ()
def PySem.W.Fast.tw2863845611701857757 : Unit := ()
def PySem.W.Fast.tw16696763858765255840 : Unit := ()
def PySem.W.Fast.tw16368297942980066381 : Unit := ()
def PySem.W.Fast.tw1783938405136214014 : Unit := ()
def PySem.W.Fast.tw13475000423055566697 : Unit := ()
def PySem.W.Fast.tw3486440767443688281 : Unit := ()
def PySem.W.Fast.tw17471492054189421846 : Unit := ()
def PySem.W.Fast.tw5065846626838685347 : Unit := ()
def PySem.W.Fast.tw12665552294701817091 : Unit := ()
def PySem.W.Fast.tw3096207493621707720 : Unit := ()
def PySem.W.Fast.tw3335583155298003215 : Unit := ()
def PySem.W.Fast.tw15319387560225505941 : Unit := ()
def PySem.W.Fast.tw11112796943711945951 : Unit := ()
def PySem.W.Fast.tw8353919142095209663 : Unit := ()
def PySem.W.Fast.tw7298537549076743932 : Unit := ()
def PySem.W.Fast.tw6412249294027253127 : Unit := ()
def PySem.W.Fast.tw9963002252366014192 : Unit := ()
def PySem.W.Fast.tw2095243836950686040 : Unit := ()
def PySem.W.Fast.tw13318805836078580229 : Unit := ()
def PySem.W.Fast.tw7086249829932959949 : Unit := ()
def PySem.W.Fast.tw17518029442744011243 : Unit := ()
def PySem.W.Fast.tw10214203536279311119 : Unit := ()
def PySem.W.Fast.tw11336478369833284987 : Unit := ()
def PySem.W.Fast.tw15521034165706711329 : Unit := ()
def PySem.W.Fast.tw10931245185065167737 : Unit := ()
def PySem.W.Fast.tw751574937303902896 : Unit := ()
def PySem.W.Fast.tw3842326537562379882 : Unit := ()
def PySem.W.Fast.tw18431860087748547535 : Unit := ()
def PySem.W.Fast.tw10326272546660816082 : Unit := ()
def PySem.W.Fast.tw16457465379268494920 : Unit := ()
def PySem.W.Fast.tw10211082020132446310 : Unit := ()
def PySem.W.Fast.tw7809932111643920415 : Unit := ()
def PySem.W.Fast.tw10610710209582975814 : Unit := ()
def PySem.W.Fast.tw10449730513486275799 : Unit := ()
def PySem.W.Fast.tw13094709831932075733 : Unit := ()
def PySem.W.Fast.tw16763156988735014191 : Unit := ()
def PySem.W.Fast.tw12823817171711211472 : Unit := ()
def PySem.W.Fast.tw3275268842960586759 : Unit := ()
def PySem.W.Fast.tw1124436831927554960 : Unit := ()
def PySem.W.Fast.tw9332904969399350807 : Unit := ()
def PySem.W.Fast.tw18086030470123635544 : Unit := ()
def PySem.W.Fast.tw178864652361173571 : Unit := ()
def PySem.W.Fast.tw4930784346672262557 : Unit := ()
def PySem.W.Fast.tw17753275847204231103 : Unit := ()
def PySem.W.Fast.tw1833151353457166228 : Unit := ()
def PySem.W.Fast.tw7133280154334129660 : Unit := ()
def PySem.W.Fast.tw17181605286090298840 : Unit := ()
def PySem.W.Fast.tw8766769289082689612 : Unit := ()
def PySem.W.Fast.tw8793457610565215044 : Unit := ()
def PySem.W.Fast.tw8632396583496208196 : Unit := ()
def PySem.W.Fast.tw12462012264137069485 : Unit := ()
def PySem.W.Fast.tw2057930745791908505 : Unit := ()
def PySem.W.Fast.tw12338254782293872507 : Unit := ()
def PySem.W.Fast.tw15683267711227765446 : Unit := ()
def PySem.W.Fast.tw2911653623704384066 : Unit := ()
def PySem.W.Fast.tw16107814431489755134 : Unit := ()
def PySem.W.Fast.tw4299868500560623832 : Unit := ()
def PySem.W.Fast.tw9318001601057285581 : Unit := ()
def PySem.W.Fast.tw10171602412241921849 : Unit := ()
def PySem.W.Fast.tw5879523163934382728 : Unit := ()
def PySem.W.Fast.tw6169049656585284702 : Unit := ()
def PySem.W.Fast.tw13585075850280964337 : Unit := ()
def PySem.W.Fast.tw11537974313591003408 : Unit := ()
def PySem.W.Fast.tw903618362597167087 : Unit := ()
def PySem.W.Fast.tw2969342104651709619 : Unit := ()
def PySem.W.Fast.tw12366726603815248560 : Unit := ()
def PySem.W.Fast.tw18288527723227122308 : Unit := ()
def PySem.W.Fast.tw7742027266268001075 : Unit := ()
def PySem.W.Fast.tw4797537117853248861 : Unit := ()
def PySem.W.Fast.tw3563103958466739141 : Unit := ()
def PySem.W.Fast.tw5329923452017427598 : Unit := ()
def PySem.W.Fast.tw10030144800445190231 : Unit := ()
def PySem.W.Fast.tw9721115436767410841 : Unit := ()
def PySem.W.Fast.tw6603109325506543012 : Unit := ()
def PySem.W.Fast.tw6720270270456022831 : Unit := ()
def PySem.W.Fast.tw3987157293751062232 : Unit := ()
def PySem.W.Fast.tw14223787058013405970 : Unit := ()
def PySem.W.Fast.tw6705650973173425161 : Unit := ()
def PySem.W.Fast.tw15358130241816780044 : Unit := ()
def PySem.W.Fast.tw850450778136682276 : Unit := ()
def PySem.W.Fast.tw14304678059109315194 : Unit := ()
def PySem.W.Fast.tw15360380550027502625 : Unit := ()
def PySem.W.Fast.tw1020864696391718932 : Unit := ()
def PySem.W.Fast.tw4578052456047712551 : Unit := ()
def PySem.W.Fast.tw15614556317238623837 : Unit := ()
def PySem.W.Fast.tw1897230086581492110 : Unit := ()
def PySem.W.Fast.tw1365089842450924949 : Unit := ()
def PySem.W.Fast.tw1449461818822665537 : Unit := ()
def PySem.W.Fast.tw4440787044337212552 : Unit := ()
def PySem.W.Fast.tw4840269486782611579 : Unit := ()
def PySem.W.Fast.tw9524703822322173448 : Unit := ()
def PySem.W.Fast.tw4438766935685658043 : Unit := ()
def PySem.W.Fast.tw12760193686477518100 : Unit := ()
def PySem.W.Fast.tw8459660331462377564 : Unit := ()
def PySem.W.Fast.tw6177626709678951147 : Unit := ()
def PySem.W.Fast.tw4494495759093475082 : Unit := ()
def PySem.W.Fast.tw8591362115732049254 : Unit := ()
def PySem.W.Fast.tw9064794818728875421 : Unit := ()
def PySem.W.Fast.tw12317893955524071315 : Unit := ()
def PySem.W.Fast.tw13177391492018252939 : Unit := ()
def PySem.W.Fast.tw8173869630405719542 : Unit := ()
def PySem.W.Fast.tw16298251913949678816 : Unit := ()
def PySem.W.Fast.tw10025216280540451914 : Unit := ()
def PySem.W.Fast.tw4259501228060428297 : Unit := ()
def PySem.W.Fast.tw16630181522928261860 : Unit := ()
def PySem.W.Fast.tw16585378646318016833 : Unit := ()
def PySem.W.Fast.tw11482392037837169913 : Unit := ()
def PySem.W.Fast.tw4551615341016742471 : Unit := ()
def PySem.W.Fast.tw11691443350327956783 : Unit := ()
def PySem.W.Fast.tw1472843410652730616 : Unit := ()
def PySem.W.Fast.tw13449081979346219272 : Unit := ()
def PySem.W.Fast.tw837296765724795247 : Unit := ()
def PySem.W.Fast.tw891596310311238562 : Unit := ()
def PySem.W.Fast.tw6370375905334635875 : Unit := ()
def PySem.W.Fast.tw15258389838300232070 : Unit := ()
def PySem.W.Fast.tw13586065673783307227 : Unit := ()
def PySem.W.Fast.tw102081762128281960 : Unit := ()
def PySem.W.Fast.tw17158085243248338371 : Unit := ()
def PySem.W.Fast.tw8871515265755744800 : Unit := ()
def PySem.W.Fast.tw17561204758832980199 : Unit := ()
def PySem.W.Fast.tw1230725049186745227 : Unit := ()
def PySem.W.Fast.tw16913031612792845020 : Unit := ()
def PySem.W.Fast.tw9851324463477796411 : Unit := ()
def PySem.W.Fast.tw11459399045903054585 : Unit := ()
def PySem.W.Fast.tw8802645464805120685 : Unit := ()
def PySem.W.Fast.tw12196053967260044859 : Unit := ()
def PySem.W.Fast.tw2497894759521818354 : Unit := ()
def PySem.W.Fast.tw18091493931181816369 : Unit := ()
def PySem.W.Fast.tw1235918103652071515 : Unit := ()
def PySem.W.Fast.tw2924797974572146 : Unit := ()
def PySem.W.Fast.tw11752303394386165379 : Unit := ()
def PySem.W.Fast.tw10313533359977438467 : Unit := ()
def PySem.W.Fast.tw4374775698700659556 : Unit := ()
def PySem.W.Fast.tw7839696106710007977 : Unit := ()
def PySem.W.Fast.tw7903150043924207521 : Unit := ()
def PySem.W.Fast.tw5334728438371418390 : Unit := ()
def PySem.W.Fast.tw3267274594548046822 : Unit := ()
def PySem.W.Fast.tw12573686198572503899 : Unit := ()
def PySem.W.Fast.tw6035191666850691133 : Unit := ()
def PySem.W.Fast.tw1881693129371055613 : Unit := ()
def PySem.W.Fast.tw17178633167893029979 : Unit := ()
def PySem.W.Fast.tw14465795797838109702 : Unit := ()
def PySem.W.Fast.tw2217046454800672285 : Unit := ()
def PySem.W.Fast.tw8744611718626427994 : Unit := ()
def PySem.W.Fast.tw7075091368868246572 : Unit := ()
def PySem.W.Fast.tw3026902182340582275 : Unit := ()
def PySem.W.Fast.tw15093864151925935722 : Unit := ()
def PySem.W.Fast.tw863474303009065627 : Unit := ()
def PySem.W.Fast.tw11308063794858707739 : Unit := ()
def PySem.W.Fast.tw15301352374433143394 : Unit := ()
def PySem.W.Fast.tw10403693077297537012 : Unit := ()
def PySem.W.Fast.tw10334872721438743414 : Unit := ()
def PySem.W.Fast.tw4418393400795285107 : Unit := ()
def PySem.W.Fast.tw4106909301144819075 : Unit := ()
def PySem.W.Fast.tw13809604233531911280 : Unit := ()
def PySem.W.Fast.tw10513006536992333789 : Unit := ()
def PySem.W.Fast.tw2871966644786386527 : Unit := ()
def PySem.W.Fast.tw16757950989765667483 : Unit := ()
def PySem.W.Fast.tw2859084135640808493 : Unit := ()
def PySem.W.Fast.tw16356000783646342835 : Unit := ()
def PySem.W.Fast.tw12481387626648265036 : Unit := ()
def PySem.W.Fast.tw17740959982654114443 : Unit := ()
def PySem.W.Fast.tw347631866215895539 : Unit := ()
def PySem.W.Fast.tw1077704382896463728 : Unit := ()
def PySem.W.Fast.tw16721116013307744194 : Unit := ()
def PySem.W.Fast.tw17359805675262549918 : Unit := ()
def PySem.W.Fast.tw12026400842132253942 : Unit := ()
def PySem.W.Fast.tw15199571134723481049 : Unit := ()
def PySem.W.Fast.tw16446563249475646611 : Unit := ()
def PySem.W.Fast.tw6230295422303146928 : Unit := ()
def PySem.W.Fast.tw17892472001133624029 : Unit := ()
def PySem.W.Fast.tw32770529020248152 : Unit := ()
def PySem.W.Fast.tw5911524139112400446 : Unit := ()
def PySem.W.Fast.tw13006367186347584741 : Unit := ()
def PySem.W.Fast.tw9039292013834729836 : Unit := ()
def PySem.W.Fast.tw15925516235839577026 : Unit := ()
def PySem.W.Fast.tw2635949267769933813 : Unit := ()
def PySem.W.Fast.tw12019113706993579050 : Unit := ()
def PySem.W.Fast.tw8585517679305678234 : Unit := ()
def PySem.W.Fast.tw4409802394590285946 : Unit := ()
def PySem.W.Fast.tw4759188878782001781 : Unit := ()
def PySem.W.Fast.tw3428018281976008110 : Unit := ()
def PySem.W.Fast.tw11302717432163972242 : Unit := ()
def PySem.W.Fast.tw18083468322683419284 : Unit := ()
def PySem.W.Fast.tw9625560948798973078 : Unit := ()
def PySem.W.Fast.tw10558439492243460471 : Unit := ()
def PySem.W.Fast.tw916164083049735938 : Unit := ()
def PySem.W.Fast.tw9561290314397339946 : Unit := ()
def PySem.W.Fast.tw3764041214856213533 : Unit := ()
def PySem.W.Fast.tw10692798072492314787 : Unit := ()
def PySem.W.Fast.tw657343518055946663 : Unit := ()
def PySem.W.Fast.tw9282475347193319461 : Unit := ()
def PySem.W.Fast.tw14096370906086331116 : Unit := ()
def PySem.W.Fast.tw12961838700423360163 : Unit := ()
def PySem.W.Fast.tw9755326649776839000 : Unit := ()
def PySem.W.Fast.tw390505429828144262 : Unit := ()
def PySem.W.Fast.tw8238871420766867994 : Unit := ()
def PySem.W.Fast.tw517170076797558253 : Unit := ()
def PySem.W.Fast.tw1651865107432468620 : Unit := ()
def PySem.W.Fast.tw5368846621801863882 : Unit := ()
def PySem.W.Fast.tw598487421689040258 : Unit := ()
def PySem.W.Fast.tw17057662721129174654 : Unit := ()
def PySem.W.Fast.tw473801091667514542 : Unit := ()
def PySem.W.Fast.tw10421511835738345554 : Unit := ()
def PySem.W.Fast.tw7696096446347110062 : Unit := ()
def PySem.W.Fast.tw1975303464423465024 : Unit := ()
def PySem.W.Fast.tw6054714493654975224 : Unit := ()
def PySem.W.Fast.tw348874075275017954 : Unit := ()
def PySem.W.Fast.tw8394425452089372418 : Unit := ()
def PySem.W.Fast.tw2902711247644242303 : Unit := ()
def PySem.W.Fast.tw18140549048588573718 : Unit := ()
def PySem.W.Fast.tw8433920670288850059 : Unit := ()
def PySem.W.Fast.tw15193463699000856775 : Unit := ()
def PySem.W.Fast.tw17374062709940293120 : Unit := ()
def PySem.W.Fast.tw18015757018208656736 : Unit := ()
def PySem.W.Fast.tw38592632980539502 : Unit := ()
def PySem.W.Fast.tw16250123023889378293 : Unit := ()
def PySem.W.Fast.tw937877244025305744 : Unit := ()
def PySem.W.Fast.tw9682149950012190654 : Unit := ()
def PySem.W.Fast.tw16149140813225767466 : Unit := ()
def PySem.W.Fast.tw10811426481411588504 : Unit := ()
def PySem.W.Fast.tw13381063784268848711 : Unit := ()
def PySem.W.Fast.tw284059951722272236 : Unit := ()
def PySem.W.Fast.tw10691643856922346571 : Unit := ()
def PySem.W.Fast.tw4465100608792251530 : Unit := ()
def PySem.W.Fast.tw5390019857530851845 : Unit := ()
def PySem.W.Fast.tw17278806293999193793 : Unit := ()
def PySem.W.Fast.tw16015017851730204596 : Unit := ()
def PySem.W.Fast.tw9452459873738219442 : Unit := ()
def PySem.W.Fast.tw17789497752646944786 : Unit := ()
def PySem.W.Fast.tw8999379851028672312 : Unit := ()
def PySem.W.Fast.tw12982357471919749867 : Unit := ()
def PySem.W.Fast.tw16628528040018470796 : Unit := ()
def PySem.W.Fast.tw575597034924728433 : Unit := ()
def PySem.W.Fast.tw1618989251762649355 : Unit := ()
def PySem.W.Fast.tw8412002657103827894 : Unit := ()
def PySem.W.Fast.tw16215935849469999929 : Unit := ()
def PySem.W.Fast.tw9873780131796073441 : Unit := ()
def PySem.W.Fast.tw14543311436790925165 : Unit := ()
def PySem.W.Fast.tw12666464774563016554 : Unit := ()
def PySem.W.Fast.tw17304075399106864402 : Unit := ()
def PySem.W.Fast.tw12743047169296898829 : Unit := ()
def PySem.W.Fast.tw7268058702081603604 : Unit := ()
def PySem.W.Fast.tw4456517745711841138 : Unit := ()
def PySem.W.Fast.tw6671852700082719606 : Unit := ()
def PySem.W.Fast.tw8826940427898311700 : Unit := ()
def PySem.W.Fast.tw7673790746693995174 : Unit := ()
def PySem.W.Fast.tw8511037536989068083 : Unit := ()
def PySem.W.Fast.tw2712826286322068403 : Unit := ()
def PySem.W.Fast.tw1435203517939365807 : Unit := ()
def PySem.W.Fast.tw13815220039956583684 : Unit := ()
def PySem.W.Fast.tw16887602374491930281 : Unit := ()
def PySem.W.Fast.tw12317127556068667914 : Unit := ()
def PySem.W.Fast.tw16982521762701624963 : Unit := ()
def PySem.W.Fast.tw3497940113852640043 : Unit := ()
def PySem.W.Fast.tw8598099229538994290 : Unit := ()
def PySem.W.Fast.tw3463041991838508224 : Unit := ()
def PySem.W.Fast.tw10336632393474693138 : Unit := ()
def PySem.W.Fast.tw3019059289752152807 : Unit := ()
def PySem.W.Fast.tw16093866795543677383 : Unit := ()
def PySem.W.Fast.tw17903848633908509805 : Unit := ()
def PySem.W.Fast.tw11700802396402787625 : Unit := ()
def PySem.W.Fast.tw8840016113205314812 : Unit := ()
def PySem.W.Fast.tw15266196123680762660 : Unit := ()
def PySem.W.Fast.tw17583356724781657798 : Unit := ()
def PySem.W.Fast.tw6483837757192008802 : Unit := ()
def PySem.W.Fast.tw16831595500226115752 : Unit := ()
def PySem.W.Fast.tw3989358397591397381 : Unit := ()
def PySem.W.Fast.tw6457197164799238245 : Unit := ()
def PySem.W.Fast.tw10463669684488901415 : Unit := ()
def PySem.W.Fast.tw5494371949467806261 : Unit := ()
def PySem.W.Fast.tw10700987003094801218 : Unit := ()
def PySem.W.Fast.tw13367690110800700845 : Unit := ()
def PySem.W.Fast.tw12200809305727496959 : Unit := ()
def PySem.W.Fast.tw15829170241448150999 : Unit := ()
def PySem.W.Fast.tw17869158338388359850 : Unit := ()
def PySem.W.Fast.tw4738088016998779289 : Unit := ()
def PySem.W.Fast.tw4439741793923411889 : Unit := ()
def PySem.W.Fast.tw13088472901412306828 : Unit := ()
def PySem.W.Fast.tw6647479703150337229 : Unit := ()
def PySem.W.Fast.tw14838258555092711375 : Unit := ()
def PySem.W.Fast.tw329913724319059971 : Unit := ()
def PySem.W.Fast.tw15402747542281027821 : Unit := ()
def PySem.W.Fast.tw5608008680807534143 : Unit := ()
def PySem.W.Fast.tw14807293584650402585 : Unit := ()
def PySem.W.Fast.tw12889648382792479989 : Unit := ()
def PySem.W.Fast.tw12911628671247320036 : Unit := ()
def PySem.W.Fast.tw14234557377707195572 : Unit := ()
def PySem.W.Fast.tw6855950475116178315 : Unit := ()
def PySem.W.Fast.tw10713693048665494439 : Unit := ()
def PySem.W.Fast.tw15859765740927070973 : Unit := ()
def PySem.W.Fast.tw10450769720488706276 : Unit := ()
def PySem.W.Fast.tw13203688632234403977 : Unit := ()
def PySem.W.Fast.tw11435826460647912933 : Unit := ()
def PySem.W.Fast.tw13280974054365569321 : Unit := ()
def PySem.W.Fast.tw12440648690724695965 : Unit := ()
def PySem.W.Fast.tw14397273685328044809 : Unit := ()
def PySem.W.Fast.tw13027483012327435924 : Unit := ()
def PySem.W.Fast.tw12116413857752707370 : Unit := ()
def PySem.W.Fast.tw3256623393762693490 : Unit := ()
def PySem.W.Fast.tw3681069886680928851 : Unit := ()
def PySem.W.Fast.tw13874072333369036410 : Unit := ()
def PySem.W.Fast.tw12287473034727974350 : Unit := ()
def PySem.W.Fast.tw3689189027062651069 : Unit := ()
def PySem.W.Fast.tw15890857643809336486 : Unit := ()
def PySem.W.Fast.tw5687344214962294444 : Unit := ()
def PySem.W.Fast.tw5830257513319009750 : Unit := ()
def PySem.W.Fast.tw12683919681424550472 : Unit := ()
def PySem.W.Fast.tw14419327977777648650 : Unit := ()
def PySem.W.Fast.tw16371091771514459613 : Unit := ()
def PySem.W.Fast.tw185136695157643265 : Unit := ()
def PySem.W.Fast.tw13240212706538225360 : Unit := ()
def PySem.W.Fast.tw11043230958634635596 : Unit := ()
def PySem.W.Fast.tw11936914785863620663 : Unit := ()
def PySem.W.Fast.tw13609361712185488519 : Unit := ()
def PySem.W.Fast.tw8046283804022201323 : Unit := ()
def PySem.W.Fast.tw17044644498128516582 : Unit := ()
def PySem.W.Fast.tw17602651617502588902 : Unit := ()
def PySem.W.Fast.tw10209833904479041699 : Unit := ()
def PySem.W.Fast.tw476792799958762528 : Unit := ()
def PySem.W.Fast.tw9349894885331372646 : Unit := ()
def PySem.W.Fast.tw2694089724308035987 : Unit := ()
def PySem.W.Fast.tw15182100379014386682 : Unit := ()
def PySem.W.Fast.tw15349667504660893383 : Unit := ()
def PySem.W.Fast.tw10732263672941597517 : Unit := ()
def PySem.W.Fast.tw8921645214254507929 : Unit := ()
def PySem.W.Fast.tw1265387209572864274 : Unit := ()
def PySem.W.Fast.tw6781093555361437972 : Unit := ()
def PySem.W.Fast.tw11763425468687343967 : Unit := ()
def PySem.W.Fast.tw42504860070344414 : Unit := ()
def PySem.W.Fast.tw4291808919770511827 : Unit := ()
def PySem.W.Fast.tw12919381567452693835 : Unit := ()
def PySem.W.Fast.tw15598181596192262847 : Unit := ()
def PySem.W.Fast.tw16677840578796154974 : Unit := ()
def PySem.W.Fast.tw4844869087458339989 : Unit := ()
def PySem.W.Fast.tw12668147728681757927 : Unit := ()
def PySem.W.Fast.tw3352460134863696493 : Unit := ()
def PySem.W.Fast.tw3528573513385340507 : Unit := ()
def PySem.W.Fast.tw13764233536880869674 : Unit := ()
def PySem.W.Fast.tw17815505064968411410 : Unit := ()
def PySem.W.Fast.tw12362672866538608714 : Unit := ()
def PySem.W.Fast.tw12670253451317347411 : Unit := ()
def PySem.W.Fast.tw4906169902030930831 : Unit := ()
def PySem.W.Fast.tw12000515585915114170 : Unit := ()
def PySem.W.Fast.tw16281960145952821890 : Unit := ()
def PySem.W.Fast.tw559089751686295514 : Unit := ()
def PySem.W.Fast.tw15372231767323012444 : Unit := ()
def PySem.W.Fast.tw1286455346642775137 : Unit := ()
def PySem.W.Fast.tw657034546224876538 : Unit := ()
def PySem.W.Fast.tw7119577369957255224 : Unit := ()
def PySem.W.Fast.tw262404037133597046 : Unit := ()
open PySem PySem.W PyProof.Rows
set_option maxRecDepth 100000 in
set_option maxHeartbeats 0 in
theorem PySem.Challenge.cw_whynone_s01_answers_holds : PySem.Challenge.rw_whynone_s01_answers.Holds := by
  w_on; k_headS; (case hw => exact ⟨[.list []], by decide +kernel, by decide +kernel⟩)
  k_fillS
  refine L2.walk_specK (r := PySem.Challenge.rw_whynone_s01_answers) (k := 9) (CX := L2.CX0) (ps := ["calls"]) (sp := Wn.spAnswers) (by decide +kernel) rfl rfl ⟨rfl, by decide, by decide⟩ (fun w h Y => PySem.W.kIn_of Y) ?F ?S (fun _ _ _ _ z => z)
  case F =>
    intro w mg fa h Y KX G hmg
    refine' Wn.all_mk KX G hmg ?a ?l ?c ?k ?aB ?aF ?aP ?aC ?aS ?aR ?D
    (case a => k_is); (case l => k_is); (case c => k_is); (case k => k_is)
    (case aB => k_is); (case aF => k_is); (case aP => k_is); (case aC => k_is); (case aS => k_is); (case aR => k_is)
    case D =>
      refine' ⟨?g_Bound_init, ?g_read_bound, ?g_read_bounds, ?g_opposite, ?g_bound_as_told, ?g_never_holds, ?g_bound_holds, ?g_Fact_init, ?g_read_fact, ?g_read_facts, ?g_f_and_b_as_told, ?g_fact_as_told, ?g_made_tables, ?g_way_up, ?g_each_made_once, ?g_table_that_decides, ?g_place_of, ?g_facts_hold, ?g_Plan_init, ?g_read_plan, ?g_range_as_told, ?g_ranges_as_told, ?g_facts_as_told, ?g_some_as_told, ?g_somes_as_told, ?g_plan_as_told, ?g_within_ranges, ?g_some_holds, ?g_numbers_meet, ?g_Call_init, ?g_read_row, ?g_read_call, ?g_read_calls, ?g_gap_bound, ?g_apart, ?g_beside, ?g_same_function, ?g_passed_to_written, ?g_tables_up, ?g_passed_to_meeting, ?g_passed_facts, ?g_last_bound, ?g_lesson_bounds, ?g_Recipe_init, ?g_read_recipe, ?g_row_as_told, ?g_times_as_told, ?g_recipe_as_told, ?g_added, ?g_divides, ?g_divided, ?g_sum_bound, ?g_Reasons_init, ?g_Reasons_begin, ?g_Reasons_cases, ?g_Reasons_some, ?g_Reasons_lesson, ?g_Reasons_add_up, ?g_Reasons_holds, ?g_Reasons_how_many, ?g_Reasons_branch_out, ?g_meets, ?g_answer_line, ?g_answer, ?mk_Bound, ?kp_Bound, ?my_Bound, ?mk_Fact, ?kp_Fact, ?my_Fact, ?mk_Plan, ?kp_Plan, ?my_Plan, ?mk_Call, ?kp_Call, ?my_Call, ?mk_Recipe, ?kp_Recipe, ?my_Recipe, ?mk_Reasons, ?kp_Reasons, ?my_Reasons, ?tB, ?tF, ?tP, ?tR, ?tS, ?tT, ?tL, ?tD, ?tG⟩
      case g_Bound_init =>
        refine' Wn.gm_mk Wn.bd_Bound_init ?a ?i ?l ?c ?k
        (case a => k_is); (case i => k_is); (case l => k_is); (case c => k_is); (case k => k_is)
      case g_read_bound =>
        refine' Wn.gf_mk KX G Wn.bd_read_bound ?a ?l ?c ?k
        (case a => k_is); (case l => k_is); (case c => k_is); (case k => k_is)
      case g_read_bounds =>
        refine' Wn.gf_mk KX G Wn.bd_read_bounds ?a ?l ?c ?k
        (case a => k_is); (case l => k_is); (case c => k_is); (case k => k_is)
      case g_opposite =>
        refine' Wn.gf_mk KX G Wn.bd_opposite ?a ?l ?c ?k
        (case a => k_is); (case l => k_is); (case c => k_is); (case k => k_is)
      case g_bound_as_told =>
        refine' Wn.gf_mk KX G Wn.bd_bound_as_told ?a ?l ?c ?k
        (case a => k_is); (case l => k_is); (case c => k_is); (case k => k_is)
      case g_never_holds =>
        refine' Wn.gf_mk KX G Wn.bd_never_holds ?a ?l ?c ?k
        (case a => k_is); (case l => k_is); (case c => k_is); (case k => k_is)
      case g_bound_holds =>
        refine' Wn.gf_mk KX G Wn.bd_bound_holds ?a ?l ?c ?k
        (case a => k_is); (case l => k_is); (case c => k_is); (case k => k_is)
      case g_Fact_init =>
        refine' Wn.gm_mk Wn.bd_Fact_init ?a ?i ?l ?c ?k
        (case a => k_is); (case i => k_is); (case l => k_is); (case c => k_is); (case k => k_is)
      case g_read_fact =>
        refine' Wn.gf_mk KX G Wn.bd_read_fact ?a ?l ?c ?k
        (case a => k_is); (case l => k_is); (case c => k_is); (case k => k_is)
      case g_read_facts =>
        refine' Wn.gf_mk KX G Wn.bd_read_facts ?a ?l ?c ?k
        (case a => k_is); (case l => k_is); (case c => k_is); (case k => k_is)
      case g_f_and_b_as_told =>
        refine' Wn.gf_mk KX G Wn.bd_f_and_b_as_told ?a ?l ?c ?k
        (case a => k_is); (case l => k_is); (case c => k_is); (case k => k_is)
      case g_fact_as_told =>
        refine' Wn.gf_mk KX G Wn.bd_fact_as_told ?a ?l ?c ?k
        (case a => k_is); (case l => k_is); (case c => k_is); (case k => k_is)
      case g_made_tables =>
        refine' Wn.gf_mk KX G Wn.bd_made_tables ?a ?l ?c ?k
        (case a => k_is); (case l => k_is); (case c => k_is); (case k => k_is)
      case g_way_up =>
        refine' Wn.gf_mk KX G Wn.bd_way_up ?a ?l ?c ?k
        (case a => k_is); (case l => k_is); (case c => k_is); (case k => k_is)
      case g_each_made_once =>
        refine' Wn.gf_mk KX G Wn.bd_each_made_once ?a ?l ?c ?k
        (case a => k_is); (case l => k_is); (case c => k_is); (case k => k_is)
      case g_table_that_decides =>
        refine' Wn.gf_mk KX G Wn.bd_table_that_decides ?a ?l ?c ?k
        (case a => k_is); (case l => k_is); (case c => k_is); (case k => k_is)
      case g_place_of =>
        refine' Wn.gf_mk KX G Wn.bd_place_of ?a ?l ?c ?k
        (case a => k_is); (case l => k_is); (case c => k_is); (case k => k_is)
      case g_facts_hold =>
        refine' Wn.gf_mk KX G Wn.bd_facts_hold ?a ?l ?c ?k
        (case a => k_is); (case l => k_is); (case c => k_is); (case k => k_is)
      case g_Plan_init =>
        refine' Wn.gm_mk Wn.bd_Plan_init ?a ?i ?l ?c ?k
        (case a => k_is); (case i => k_is); (case l => k_is); (case c => k_is); (case k => k_is)
      case g_read_plan =>
        refine' Wn.gf_mk KX G Wn.bd_read_plan ?a ?l ?c ?k
        (case a => k_is); (case l => k_is); (case c => k_is); (case k => k_is)
      case g_range_as_told =>
        refine' Wn.gf_mk KX G Wn.bd_range_as_told ?a ?l ?c ?k
        (case a => k_is); (case l => k_is); (case c => k_is); (case k => k_is)
      case g_ranges_as_told =>
        refine' Wn.gf_mk KX G Wn.bd_ranges_as_told ?a ?l ?c ?k
        (case a => k_is); (case l => k_is); (case c => k_is); (case k => k_is)
      case g_facts_as_told =>
        refine' Wn.gf_mk KX G Wn.bd_facts_as_told ?a ?l ?c ?k
        (case a => k_is); (case l => k_is); (case c => k_is); (case k => k_is)
      case g_some_as_told =>
        refine' Wn.gf_mk KX G Wn.bd_some_as_told ?a ?l ?c ?k
        (case a => k_is); (case l => k_is); (case c => k_is); (case k => k_is)
      case g_somes_as_told =>
        refine' Wn.gf_mk KX G Wn.bd_somes_as_told ?a ?l ?c ?k
        (case a => k_is); (case l => k_is); (case c => k_is); (case k => k_is)
      case g_plan_as_told =>
        refine' Wn.gf_mk KX G Wn.bd_plan_as_told ?a ?l ?c ?k
        (case a => k_is); (case l => k_is); (case c => k_is); (case k => k_is)
      case g_within_ranges =>
        refine' Wn.gf_mk KX G Wn.bd_within_ranges ?a ?l ?c ?k
        (case a => k_is); (case l => k_is); (case c => k_is); (case k => k_is)
      case g_some_holds =>
        refine' Wn.gf_mk KX G Wn.bd_some_holds ?a ?l ?c ?k
        (case a => k_is); (case l => k_is); (case c => k_is); (case k => k_is)
      case g_numbers_meet =>
        refine' Wn.gf_mk KX G Wn.bd_numbers_meet ?a ?l ?c ?k
        (case a => k_is); (case l => k_is); (case c => k_is); (case k => k_is)
      case g_Call_init =>
        refine' Wn.gm_mk Wn.bd_Call_init ?a ?i ?l ?c ?k
        (case a => k_is); (case i => k_is); (case l => k_is); (case c => k_is); (case k => k_is)
      case g_read_row =>
        refine' Wn.gf_mk KX G Wn.bd_read_row ?a ?l ?c ?k
        (case a => k_is); (case l => k_is); (case c => k_is); (case k => k_is)
      case g_read_call =>
        refine' Wn.gf_mk KX G Wn.bd_read_call ?a ?l ?c ?k
        (case a => k_is); (case l => k_is); (case c => k_is); (case k => k_is)
      case g_read_calls =>
        refine' Wn.gf_mk KX G Wn.bd_read_calls ?a ?l ?c ?k
        (case a => k_is); (case l => k_is); (case c => k_is); (case k => k_is)
      case g_gap_bound =>
        refine' Wn.gf_mk KX G Wn.bd_gap_bound ?a ?l ?c ?k
        (case a => k_is); (case l => k_is); (case c => k_is); (case k => k_is)
      case g_apart =>
        refine' Wn.gf_mk KX G Wn.bd_apart ?a ?l ?c ?k
        (case a => k_is); (case l => k_is); (case c => k_is); (case k => k_is)
      case g_beside =>
        refine' Wn.gf_mk KX G Wn.bd_beside ?a ?l ?c ?k
        (case a => k_is); (case l => k_is); (case c => k_is); (case k => k_is)
      case g_same_function =>
        refine' Wn.gf_mk KX G Wn.bd_same_function ?a ?l ?c ?k
        (case a => k_is); (case l => k_is); (case c => k_is); (case k => k_is)
      case g_passed_to_written =>
        refine' Wn.gf_mk KX G Wn.bd_passed_to_written ?a ?l ?c ?k
        (case a => k_is); (case l => k_is); (case c => k_is); (case k => k_is)
      case g_tables_up =>
        refine' Wn.gf_mk KX G Wn.bd_tables_up ?a ?l ?c ?k
        (case a => k_is); (case l => k_is); (case c => k_is); (case k => k_is)
      case g_passed_to_meeting =>
        refine' Wn.gf_mk KX G Wn.bd_passed_to_meeting ?a ?l ?c ?k
        (case a => k_is); (case l => k_is); (case c => k_is); (case k => k_is)
      case g_passed_facts =>
        refine' Wn.gf_mk KX G Wn.bd_passed_facts ?a ?l ?c ?k
        (case a => k_is); (case l => k_is); (case c => k_is); (case k => k_is)
      case g_last_bound =>
        refine' Wn.gf_mk KX G Wn.bd_last_bound ?a ?l ?c ?k
        (case a => k_is); (case l => k_is); (case c => k_is); (case k => k_is)
      case g_lesson_bounds =>
        refine' Wn.gf_mk KX G Wn.bd_lesson_bounds ?a ?l ?c ?k
        (case a => k_is); (case l => k_is); (case c => k_is); (case k => k_is)
      case g_Recipe_init =>
        refine' Wn.gm_mk Wn.bd_Recipe_init ?a ?i ?l ?c ?k
        (case a => k_is); (case i => k_is); (case l => k_is); (case c => k_is); (case k => k_is)
      case g_read_recipe =>
        refine' Wn.gf_mk KX G Wn.bd_read_recipe ?a ?l ?c ?k
        (case a => k_is); (case l => k_is); (case c => k_is); (case k => k_is)
      case g_row_as_told =>
        refine' Wn.gf_mk KX G Wn.bd_row_as_told ?a ?l ?c ?k
        (case a => k_is); (case l => k_is); (case c => k_is); (case k => k_is)
      case g_times_as_told =>
        refine' Wn.gf_mk KX G Wn.bd_times_as_told ?a ?l ?c ?k
        (case a => k_is); (case l => k_is); (case c => k_is); (case k => k_is)
      case g_recipe_as_told =>
        refine' Wn.gf_mk KX G Wn.bd_recipe_as_told ?a ?l ?c ?k
        (case a => k_is); (case l => k_is); (case c => k_is); (case k => k_is)
      case g_added =>
        refine' Wn.gf_mk KX G Wn.bd_added ?a ?l ?c ?k
        (case a => k_is); (case l => k_is); (case c => k_is); (case k => k_is)
      case g_divides =>
        refine' Wn.gf_mk KX G Wn.bd_divides ?a ?l ?c ?k
        (case a => k_is); (case l => k_is); (case c => k_is); (case k => k_is)
      case g_divided =>
        refine' Wn.gf_mk KX G Wn.bd_divided ?a ?l ?c ?k
        (case a => k_is); (case l => k_is); (case c => k_is); (case k => k_is)
      case g_sum_bound =>
        refine' Wn.gf_mk KX G Wn.bd_sum_bound ?a ?l ?c ?k
        (case a => k_is); (case l => k_is); (case c => k_is); (case k => k_is)
      case g_Reasons_init =>
        refine' Wn.gm_mk Wn.bd_Reasons_init ?a ?i ?l ?c ?k
        (case a => k_is); (case i => k_is); (case l => k_is); (case c => k_is); (case k => k_is)
      case g_Reasons_begin =>
        refine' Wn.gm_mk Wn.bd_Reasons_begin ?a ?i ?l ?c ?k
        (case a => k_is); (case i => k_is); (case l => k_is); (case c => k_is); (case k => k_is)
      case g_Reasons_cases =>
        refine' Wn.gm_mk Wn.bd_Reasons_cases ?a ?i ?l ?c ?k
        (case a => k_is); (case i => k_is); (case l => k_is); (case c => k_is); (case k => k_is)
      case g_Reasons_some =>
        refine' Wn.gm_mk Wn.bd_Reasons_some ?a ?i ?l ?c ?k
        (case a => k_is); (case i => k_is); (case l => k_is); (case c => k_is); (case k => k_is)
      case g_Reasons_lesson =>
        refine' Wn.gm_mk Wn.bd_Reasons_lesson ?a ?i ?l ?c ?k
        (case a => k_is); (case i => k_is); (case l => k_is); (case c => k_is); (case k => k_is)
      case g_Reasons_add_up =>
        refine' Wn.gm_mk Wn.bd_Reasons_add_up ?a ?i ?l ?c ?k
        (case a => k_is); (case i => k_is); (case l => k_is); (case c => k_is); (case k => k_is)
      case g_Reasons_holds =>
        refine' Wn.gm_mk Wn.bd_Reasons_holds ?a ?i ?l ?c ?k
        (case a => k_is); (case i => k_is); (case l => k_is); (case c => k_is); (case k => k_is)
      case g_Reasons_how_many =>
        refine' Wn.gm_mk Wn.bd_Reasons_how_many ?a ?i ?l ?c ?k
        (case a => k_is); (case i => k_is); (case l => k_is); (case c => k_is); (case k => k_is)
      case g_Reasons_branch_out =>
        refine' Wn.gm_mk Wn.bd_Reasons_branch_out ?a ?i ?l ?c ?k
        (case a => k_is); (case i => k_is); (case l => k_is); (case c => k_is); (case k => k_is)
      case g_meets =>
        refine' Wn.gf_mk KX G Wn.bd_meets ?a ?l ?c ?k
        (case a => k_is); (case l => k_is); (case c => k_is); (case k => k_is)
      case g_answer_line =>
        refine' Wn.gf_mk KX G Wn.bd_answer_line ?a ?l ?c ?k
        (case a => k_is); (case l => k_is); (case c => k_is); (case k => k_is)
      case g_answer =>
        refine' Wn.gf_mk KX G Wn.bd_answer ?a ?l ?c ?k
        (case a => k_is); (case l => k_is); (case c => k_is); (case k => k_is)
      case mk_Bound => k_is
      case kp_Bound => k_is
      case my_Bound =>
        refine' PySem.W.mg_of KX G ?a
        (case a => k_is)
      case mk_Fact => k_is
      case kp_Fact => k_is
      case my_Fact =>
        refine' PySem.W.mg_of KX G ?a
        (case a => k_is)
      case mk_Plan => k_is
      case kp_Plan => k_is
      case my_Plan =>
        refine' PySem.W.mg_of KX G ?a
        (case a => k_is)
      case mk_Call => k_is
      case kp_Call => k_is
      case my_Call =>
        refine' PySem.W.mg_of KX G ?a
        (case a => k_is)
      case mk_Recipe => k_is
      case kp_Recipe => k_is
      case my_Recipe =>
        refine' PySem.W.mg_of KX G ?a
        (case a => k_is)
      case mk_Reasons => k_is
      case kp_Reasons => k_is
      case my_Reasons =>
        refine' PySem.W.mg_of KX G ?a
        (case a => k_is)
      case tB =>
        refine' ⟨?x_cl, ?x_nc, ?x_nd, ?x_ROW, ?x_MOST_C, ?x_LEAST_D, ?x_MOST_D⟩
        case x_cl =>
          refine' Wn.cls_mk ?pg ?hd ?po ?sa
          (case pg => k_is); (case hd => k_is); (case po => k_is); (case sa => k_is)
        case x_nc =>
          refine' Wn.na_mk ?a
          (case a => k_is)
        case x_nd =>
          refine' Wn.na_mk ?a
          (case a => k_is)
        case x_ROW =>
          refine' Wn.gi_mk KX G ?a
          (case a => k_is)
        case x_MOST_C =>
          refine' Wn.gi_mk KX G ?a
          (case a => k_is)
        case x_LEAST_D =>
          refine' Wn.gi_mk KX G ?a
          (case a => k_is)
        case x_MOST_D =>
          refine' Wn.gi_mk KX G ?a
          (case a => k_is)
      case tF =>
        refine' ⟨?x_cl, ?x_nk, ?x_nf, ?x_na, ?x_nb, ?x_nr, ?x_OF_ONE, ?x_OF_TWO, ?x_STANDS, ?x_MADE, ?x_FACT_SIZE, ?x_FUNCTIONS, ?x_TABLES⟩
        case x_cl =>
          refine' Wn.cls_mk ?pg ?hd ?po ?sa
          (case pg => k_is); (case hd => k_is); (case po => k_is); (case sa => k_is)
        case x_nk =>
          refine' Wn.na_mk ?a
          (case a => k_is)
        case x_nf =>
          refine' Wn.na_mk ?a
          (case a => k_is)
        case x_na =>
          refine' Wn.na_mk ?a
          (case a => k_is)
        case x_nb =>
          refine' Wn.na_mk ?a
          (case a => k_is)
        case x_nr =>
          refine' Wn.na_mk ?a
          (case a => k_is)
        case x_OF_ONE =>
          refine' Wn.gi_mk KX G ?a
          (case a => k_is)
        case x_OF_TWO =>
          refine' Wn.gi_mk KX G ?a
          (case a => k_is)
        case x_STANDS =>
          refine' Wn.gi_mk KX G ?a
          (case a => k_is)
        case x_MADE =>
          refine' Wn.gi_mk KX G ?a
          (case a => k_is)
        case x_FACT_SIZE =>
          refine' Wn.gi_mk KX G ?a
          (case a => k_is)
        case x_FUNCTIONS =>
          refine' Wn.gi_mk KX G ?a
          (case a => k_is)
        case x_TABLES =>
          refine' Wn.gi_mk KX G ?a
          (case a => k_is)
      case tP =>
        refine' ⟨?x_cl, ?x_nu, ?x_nlo, ?x_nhi, ?x_nf, ?x_ns, ?x_MOST_NUMBER, ?x_MOST_FACTS, ?x_MOST_SOMES, ?x_MOST_B⟩
        case x_cl =>
          refine' Wn.cls_mk ?pg ?hd ?po ?sa
          (case pg => k_is); (case hd => k_is); (case po => k_is); (case sa => k_is)
        case x_nu =>
          refine' Wn.na_mk ?a
          (case a => k_is)
        case x_nlo =>
          refine' Wn.na_mk ?a
          (case a => k_is)
        case x_nhi =>
          refine' Wn.na_mk ?a
          (case a => k_is)
        case x_nf =>
          refine' Wn.na_mk ?a
          (case a => k_is)
        case x_ns =>
          refine' Wn.na_mk ?a
          (case a => k_is)
        case x_MOST_NUMBER =>
          refine' Wn.gi_mk KX G ?a
          (case a => k_is)
        case x_MOST_FACTS =>
          refine' Wn.gi_mk KX G ?a
          (case a => k_is)
        case x_MOST_SOMES =>
          refine' Wn.gi_mk KX G ?a
          (case a => k_is)
        case x_MOST_B =>
          refine' Wn.gi_mk KX G ?a
          (case a => k_is)
      case tR =>
        refine' ⟨?x_cl, ?x_nn, ?x_nw, ?x_nl, ?x_nb⟩
        case x_cl =>
          refine' Wn.cls_mk ?pg ?hd ?po ?sa
          (case pg => k_is); (case hd => k_is); (case po => k_is); (case sa => k_is)
        case x_nn =>
          refine' Wn.na_mk ?a
          (case a => k_is)
        case x_nw =>
          refine' Wn.na_mk ?a
          (case a => k_is)
        case x_nl =>
          refine' Wn.na_mk ?a
          (case a => k_is)
        case x_nb =>
          refine' Wn.na_mk ?a
          (case a => k_is)
      case tS =>
        refine' ⟨?x_cl, ?x_np, ?x_nb, ?x_NOT_THERE, ?x_NOT_AS_TOLD, ?x_TOO_MANY, ?x_MOST_BOUNDS⟩
        case x_cl =>
          refine' Wn.cls_mk ?pg ?hd ?po ?sa
          (case pg => k_is); (case hd => k_is); (case po => k_is); (case sa => k_is)
        case x_np =>
          refine' Wn.na_mk ?a
          (case a => k_is)
        case x_nb =>
          refine' Wn.na_mk ?a
          (case a => k_is)
        case x_NOT_THERE =>
          refine' Wn.gi_mk KX G ?a
          (case a => k_is)
        case x_NOT_AS_TOLD =>
          refine' Wn.gi_mk KX G ?a
          (case a => k_is)
        case x_TOO_MANY =>
          refine' Wn.gi_mk KX G ?a
          (case a => k_is)
        case x_MOST_BOUNDS =>
          refine' Wn.gi_mk KX G ?a
          (case a => k_is)
      case tT =>
        refine' ⟨?x_cl, ?x_nb, ?x_nl, ?x_nh, ?x_nt, ?x_MOST_PAIRS, ?x_MOST_TIMES, ?x_MOST_BY⟩
        case x_cl =>
          refine' Wn.cls_mk ?pg ?hd ?po ?sa
          (case pg => k_is); (case hd => k_is); (case po => k_is); (case sa => k_is)
        case x_nb =>
          refine' Wn.na_mk ?a
          (case a => k_is)
        case x_nl =>
          refine' Wn.na_mk ?a
          (case a => k_is)
        case x_nh =>
          refine' Wn.na_mk ?a
          (case a => k_is)
        case x_nt =>
          refine' Wn.na_mk ?a
          (case a => k_is)
        case x_MOST_PAIRS =>
          refine' Wn.gi_mk KX G ?a
          (case a => k_is)
        case x_MOST_TIMES =>
          refine' Wn.gi_mk KX G ?a
          (case a => k_is)
        case x_MOST_BY =>
          refine' Wn.gi_mk KX G ?a
          (case a => k_is)
      case tL =>
        refine' ⟨?x_SAME_FUNCTION, ?x_AT_MOST, ?x_AT_LEAST, ?x_SAME_TABLE⟩
        case x_SAME_FUNCTION =>
          refine' Wn.gi_mk KX G ?a
          (case a => k_is)
        case x_AT_MOST =>
          refine' Wn.gi_mk KX G ?a
          (case a => k_is)
        case x_AT_LEAST =>
          refine' Wn.gi_mk KX G ?a
          (case a => k_is)
        case x_SAME_TABLE =>
          refine' Wn.gi_mk KX G ?a
          (case a => k_is)
      case tD =>
        refine' ⟨?x_MEETS, ?x_BEGIN, ?x_CASES, ?x_SOME, ?x_LESSON, ?x_SUM, ?x_HOLDS, ?x_OPEN⟩
        case x_MEETS =>
          refine' Wn.gi_mk KX G ?a
          (case a => k_is)
        case x_BEGIN =>
          refine' Wn.gi_mk KX G ?a
          (case a => k_is)
        case x_CASES =>
          refine' Wn.gi_mk KX G ?a
          (case a => k_is)
        case x_SOME =>
          refine' Wn.gi_mk KX G ?a
          (case a => k_is)
        case x_LESSON =>
          refine' Wn.gi_mk KX G ?a
          (case a => k_is)
        case x_SUM =>
          refine' Wn.gi_mk KX G ?a
          (case a => k_is)
        case x_HOLDS =>
          refine' Wn.gi_mk KX G ?a
          (case a => k_is)
        case x_OPEN =>
          refine' Wn.gi_mk KX G ?a
          (case a => k_is)
      case tG =>
        refine' ⟨?x_range, ?x_len, ?x_sum, ?x_all, ?x_any, ?x_abs, ?x_enumerate, ?x_zip⟩
        case x_range =>
          refine' Wn.gn_mk KX G ?a
          (case a => k_is)
        case x_len =>
          refine' Wn.gn_mk KX G ?a
          (case a => k_is)
        case x_sum =>
          refine' Wn.gn_mk KX G ?a
          (case a => k_is)
        case x_all =>
          refine' Wn.gn_mk KX G ?a
          (case a => k_is)
        case x_any =>
          refine' Wn.gn_mk KX G ?a
          (case a => k_is)
        case x_abs =>
          refine' Wn.gn_mk KX G ?a
          (case a => k_is)
        case x_enumerate =>
          refine' Wn.gn_mk KX G ?a
          (case a => k_is)
        case x_zip =>
          refine' Wn.gn_mk KX G ?a
          (case a => k_is)
  case S =>
    intro K H xs a hO hwi hask hx
    cases hx with
    | cons h1 h2 =>
      cases h2
      cases h1 with
      | lst hs ha =>
        have e := L2.ints_dw a.1 _ ha
        subst e
        have q : ((Codec.inLen 0 30000 a.1 && a.1.all (Codec.inInt (-2147483648) 4294967295)) && true) = true := hwi
        rw [Bool.and_eq_true, Bool.and_eq_true] at q
        exact ⟨_, a.1, rfl, hs, (Codec.inNat_iff.mp q.1.1).2, hask, fun H' p hp => .lst (L2.SqL.of hp) (L2.dw_ints _)⟩
#print axioms PySem.Challenge.cw_whynone_s01_answers_holds
