import PyProof.Rows.All
import Wide.All
import OpenK.AllK
import Wide.FinOn
import PyProof.EqAt
import PyProof.EqKinds
import PyProof.TupleCall
import KE.BitLaws
import Open.SpecLaws
import KE.OsHead
import KE.OsGo
import PySem.Challenge.RW_freezersoverrun_s01_answers
set_option Elab.async false
set_option linter.all false
set_option maxRecDepth 100000
namespace L2
open PySem PySem.Spec PyProof.Rows
abbrev Key := Sum Int Str
def keyIs : Key → Value → Bool
  | .inl k, v => Value.isInt k v
  | .inr x, v => Value.isStrOf x v
def keyH (w : World) : Key → Int
  | .inl k => hashInt k
  | .inr x => hashStr w x
theorem keyIs_shape : ∀ {k : Key} {v : Value}, keyIs k v = true → (∃ i t, k = Sum.inl i ∧ v = Value.int i t) ∨ (∃ x t, k = Sum.inr x ∧ v = Value.str x t)
  | .inl i, v, h => by
    obtain ⟨t, e⟩ := Value.isInt_shape (k := i) (v := v) h
    exact .inl ⟨i, t, rfl, e⟩
  | .inr x, v, h => by
    obtain ⟨t, e⟩ := Value.isStrOf_shape (x := x) (v := v) h
    exact .inr ⟨x, t, rfl, e⟩
theorem keyIs_int (i : Int) (t : Tok) : keyIs (.inl i) (.int i t) = true := by simp [keyIs, Value.isInt]
theorem keyIs_str (x : Str) (t : Tok) : keyIs (.inr x) (.str x t) = true := by simp [keyIs, Value.isStrOf]
theorem key_ll (a b : Int) : decide ((Sum.inl a : Key) = Sum.inl b) = (a == b) := by
  by_cases e : a = b
  · subst e; simp
  · have h : ¬ (Sum.inl a : Key) = Sum.inl b := fun q => e (Sum.inl.inj q)
    rw [decide_eq_false h]
    exact (beq_eq_false_iff_ne.mpr e).symm
theorem key_rr (a b : Str) : decide ((Sum.inr a : Key) = Sum.inr b) = decide (a = b) := by
  by_cases e : a = b
  · subst e; simp
  · have h : ¬ (Sum.inr a : Key) = Sum.inr b := fun q => e (Sum.inr.inj q)
    rw [decide_eq_false h, decide_eq_false e]
theorem key_lr (a : Int) (b : Str) : decide ((Sum.inl a : Key) = Sum.inr b) = false := decide_eq_false (fun q => nomatch q)
theorem key_rl (a : Str) (b : Int) : decide ((Sum.inr a : Key) = Sum.inl b) = false := decide_eq_false (fun q => nomatch q)
def mixKind (prog : Program) (w : World) : PySem.KeyKind prog w Key where
  is := keyIs
  hash := keyH w
  inj := fun v a b ha hb => by
    rcases keyIs_shape ha with ⟨i, t, rfl, rfl⟩ | ⟨x, t, rfl, rfl⟩
    · rcases keyIs_shape hb with ⟨j, u, rfl, e⟩ | ⟨y, u, rfl, e⟩
      · injection e with e1 _; rw [e1]
      · exact nomatch e
    · rcases keyIs_shape hb with ⟨j, u, rfl, e⟩ | ⟨y, u, rfl, e⟩
      · exact nomatch e
      · injection e with e1 _; rw [e1]
  byValue := fun k v h => by
    rcases keyIs_shape h with ⟨i, t, rfl, rfl⟩ | ⟨x, t, rfl, rfl⟩ <;> rfl
  pyHash := fun hv h => by
    rcases keyIs_shape hv with ⟨i, t, rfl, rfl⟩ | ⟨x, t, rfl, rfl⟩
    · exact wpAny_pyHash_int h
    · exact wpAny_pyHash_str h
  eqBool := fun hu hv h => by
    rcases keyIs_shape hu with ⟨i, t, rfl, rfl⟩ | ⟨x, t, rfl, rfl⟩
    · rcases keyIs_shape hv with ⟨j, u, rfl, rfl⟩ | ⟨y, u, rfl, rfl⟩
      · rw [key_ll] at h; exact wpAny_eqBool_int h
      · rw [key_lr] at h; exact SeqAt.EqAt.int_str i t y u _ _ _ _ h
    · rcases keyIs_shape hv with ⟨j, u, rfl, rfl⟩ | ⟨y, u, rfl, rfl⟩
      · rw [key_rl] at h; exact SeqAt.EqAt.str_int x t j u _ _ _ _ h
      · rw [key_rr] at h; exact wpAny_eqBool_str h
  «strs» := fun k x t v h => by
    rcases keyIs_shape h with ⟨i, u, rfl, e⟩ | ⟨y, u, rfl, e⟩
    · exact nomatch e
    · injection e with e1 _
      subst e1
      cases v <;> rfl
theorem mixKind_int (prog : Program) (w : World) (i : Int) (t : Tok) : (mixKind prog w).is (.inl i) (.int i t) = true := keyIs_int i t
theorem mixKind_str (prog : Program) (w : World) (x : Str) (t : Tok) : (mixKind prog w).is (.inr x) (.str x t) = true := keyIs_str x t
end L2
namespace L2
open PySem PySem.Spec PyProof.Rows
inductive V where
  | non | bl (b : Bool) | int (i : Int) | str (x : Str) | byt (b : Array UInt8) | flt (b : UInt64) | ref (a : Addr) | ty (n : String)
  deriving DecidableEq
def RelV : V → Value → Prop
  | .non, u => u = Value.none
  | .bl b, u => u = Value.bool b
  | .int i, u => ∃ t, u = Value.int i t
  | .str x, u => ∃ t, u = Value.str x t
  | .byt b, u => ∃ t, u = Value.bytes b t
  | .flt b, u => ∃ t, u = Value.float b t
  | .ref a, u => u = Value.ref a
  | .ty n, u => u = Value.type n
abbrev Vals : List V → List Value → Prop := Paired RelV
theorem Vals.length {xs : List V} {us : List Value} (r : Vals xs us) : xs.length = us.length := Paired.length r
theorem Vals.get : ∀ {xs : List V} {us : List Value} {i : Nat} {x : V}, Vals xs us → xs[i]? = some x → ∃ u, us[i]? = some u ∧ RelV x u
  | _, _, _, _, .nil, e => by simp at e
  | _, _, 0, _, .cons r _, e => by simp at e; subst e; exact ⟨_, rfl, r⟩
  | _, _, i + 1, x, .cons _ t, e => by
    obtain ⟨u, h1, h2⟩ := Vals.get (i := i) (x := x) t (by simpa using e)
    exact ⟨u, by simpa using h1, h2⟩
theorem Vals.set {x : V} {u : Value} (r : RelV x u) : ∀ {xs : List V} {us : List Value} (i : Nat), Vals xs us → Vals (xs.set i x) (us.set i u)
  | _, _, _, .nil => .nil
  | _, _, 0, .cons _ t => .cons r t
  | _, _, i + 1, .cons q t => .cons q (Vals.set r i t)
theorem Vals.append : ∀ {xs ys : List V} {us ws : List Value}, Vals xs us → Vals ys ws → Vals (xs ++ ys) (us ++ ws)
  | _, _, _, _, .nil, s => s
  | _, _, _, _, .cons r t, s => .cons r (Vals.append t s)
theorem Vals.take : ∀ {xs : List V} {us : List Value} (n : Nat), Vals xs us → Vals (xs.take n) (us.take n)
  | _, _, 0, _ => .nil
  | _, _, _ + 1, .nil => .nil
  | _, _, n + 1, .cons r t => .cons r (Vals.take n t)
theorem Vals.drop : ∀ {xs : List V} {us : List Value} (n : Nat), Vals xs us → Vals (xs.drop n) (us.drop n)
  | _, _, 0, r => r
  | _, _, _ + 1, .nil => .nil
  | _, _, n + 1, .cons _ t => Vals.drop n t
def RelO : Option V → Option Value → Prop
  | some v, some u => RelV v u
  | none, none => True
  | _, _ => False
def KV {κ : Type} : List (κ × V) → List (κ × Value) → Prop := Paired fun (p : κ × V) (q : κ × Value) => p.1 = q.1 ∧ RelV p.2 q.2
def kV : Key → V
  | .inl i => .int i
  | .inr x => .str x
inductive HO where
  /-- a list -/
  | lst (xs : List V)
  /-- a tuple (never changes) -/
  | tup (xs : List V)
  /-- a dict whose keys are ints and texts; one whose keys are tuples of ints and texts (the empty one is both) -/
  | dK (kvs : List (Key × V)) | dT (kvs : List (List Key × V))
  /-- a set of ints: its members, its size -/
  | set (S : Int → Bool) (n : Nat)
  /-- an instance of the class at C, its dict at dx, its attributes -/
  | ins (C dx : Addr) (fs : List (Str × V))
  /-- the dict of the instance at x -/
  | own (x : Addr)
  /-- the dict of an exception -/
  | xd (fs : List (Str × V))
  /-- a bound method, f of x -/
  | met (f x : Addr)
  /-- a range object lo, lo + 1, .. below hi -/
  | rng (lo hi : Int)
  /-- a thing that is known to the object (the script; a dict while a loop walks it): read, never written while it is so -/
  | frz (o : Obj) (u : HO)
  /-- a code object's table -/
  | tbl (ps : Array Value)
  /-- any other thing, by what is true of its one object (a def of one's own: SetO a S n := HO.ext fun h => ..) -/
  | ext (φ : Heap → Prop)
abbrev Hp := Addr → Option HO
def upd (H : Hp) (a : Addr) (o : HO) : Hp := fun b => if b = a then some o else H b
theorem upd_same {H : Hp} {a : Addr} {o : HO} : upd H a o a = some o := by unfold upd; rw [if_pos rfl]
theorem upd_ne {H : Hp} {a b : Addr} {o : HO} (h : b ≠ a) : upd H a o b = H b := by unfold upd; rw [if_neg h]
theorem upd_upd {H : Hp} {a : Addr} {o u : HO} : upd (upd H a o) a u = upd H a u := by
  funext b; unfold upd; split <;> rfl
theorem ne_of {H : Hp} {a b : Addr} {o u : HO} (h : H a = some o) (h' : H b = some u) (d : o ≠ u) : a ≠ b := by
  intro e; subst e; rw [h] at h'; exact d (Option.some.inj h')
theorem ne_of_none {H : Hp} {a b : Addr} {o : HO} (h : H a = some o) (h' : H b = none) : a ≠ b := by
  intro e; subst e; rw [h] at h'; cases h'
section
variable (P : Program) (w : World)
def ObjOk (H : Hp) (h : Heap) (a : Addr) : HO → Prop
  | .lst xs => xs.length ≤ sizeLine ∧ ∃ (its : List Value) (n : Nat), Vals xs its ∧ h.get? a = some { cls := .type "list", data := .seq its.toArray n }
  | .tup xs => xs.length ≤ sizeLine ∧ ∃ its : List Value, Vals xs its ∧ IsTup h a its.toArray
  | .dK kvs => kvs.length ≤ sizeLine ∧ (a == sysModules) = false ∧ ∃ vs, KV kvs vs ∧ h.DictOf (mixKind P w) a vs
  | .dT kvs => kvs.length ≤ sizeLine ∧ (a == sysModules) = false ∧ ∃ xs : List (List Key × Addr × Value),
      Paired (fun (p : List Key × V) (q : List Key × Addr × Value) => p.1 = q.1 ∧ H q.2.1 = some (.tup (p.1.map kV)) ∧ RelV p.2 q.2.2) kvs xs ∧
      ∃ o es ep, h.get? a = some o ∧ o.ExactDict ∧ o.data = .dict es ep ∧ es.toList = xs.map (entryOfKey (tupleKind (mixKind P w))) ∧ (xs.map (·.1)).Nodup
  | .set S n => h.SetOf (intKind P w) a S n
  | .ins C dx fs => H dx = some (.own a) ∧ fs.length ≤ 1000 ∧ dx ≠ a ∧ h.get? a = some (PySem.W.instObj C dx) ∧
      ∃ mA, h.Ns1 dx mA ∧ (∀ f, RelO (fs.lookup f) (mA f)) ∧ PySem.Within mA (fs.map (·.1))
  | .own _ => ∃ o, h.get? a = some o
  | .xd fs => ∃ mA, h.Ns1 a mA ∧ ∀ f, RelO (fs.lookup f) (mA f)
  | .rng lo hi => ∃ t u v, h.get? a = some { cls := .type "range", data := .fields #[.int lo t, .int hi u, .int 1 v] }
  | .frz o u => h.get? a = some o ∧ ObjOk H h a u
  | .tbl ps => h.get? a = some { cls := .none, data := .fields ps }
  | .met f x => h.get? a = some (PySem.W.methodObj (.ref f) (.ref x))
  | .ext φ => φ h ∧ (∃ o, h.get? a = some o) ∧ ∀ h1 h2 : Heap, φ h1 → (∀ o, h1.get? a = some o → h2.get? a = some o) → φ h2
def HOk (H : Hp) (h : Heap) : Prop := ∀ a o, H a = some o → ObjOk P w H h a o
end
section
variable {P : Program} {w : World} {H H' : Hp} {h h' : Heap} {a : Addr} {o : HO}
theorem ObjOk.lt (x : ObjOk P w H h a o) : a < h.objs.size := by
  cases o with
  | lst xs => obtain ⟨_, _, _, _, e⟩ := x; exact Heap.lt_size e
  | tup xs => obtain ⟨_, _, _, p⟩ := x; exact p.lt
  | dK kvs => obtain ⟨_, _, _, _, o, _, _, e, _⟩ := x; exact Heap.lt_size e
  | dT kvs => obtain ⟨_, _, _, _, o, _, _, e, _⟩ := x; exact Heap.lt_size e
  | set S n => obtain ⟨o, _, _, _, e, _⟩ := x; exact Heap.lt_size e
  | ins C dx fs => obtain ⟨_, _, _, e, _⟩ := x; exact Heap.lt_size e
  | own y => obtain ⟨_, e⟩ := x; exact Heap.lt_size e
  | xd fs => obtain ⟨_, ⟨_, _, _, e, _⟩, _⟩ := x; exact Heap.lt_size e
  | rng lo hi => obtain ⟨_, _, _, e⟩ := x; exact Heap.lt_size e
  | frz ob u => obtain ⟨e, _⟩ := x; exact Heap.lt_size e
  | tbl ps => exact Heap.lt_size (show h.get? a = some _ from x)
  | met f y => exact Heap.lt_size (show h.get? a = some _ from x)
  | ext φ => obtain ⟨_, ⟨_, e⟩, _⟩ := x; exact Heap.lt_size e
theorem Paired.mapP {α β : Type} {F G : α → β → Prop} : ∀ {l₁ : List α} {l₂ : List β}, Paired F l₁ l₂ → (∀ a b, F a b → G a b) → Paired G l₁ l₂
  | _, _, .nil, _ => .nil
  | _, _, .cons r t, f => .cons (f _ _ r) (Paired.mapP t f)
theorem ObjOk.stay (x : ObjOk P w H h a o) (k : ∀ b u, (b = a ∨ H b = some (.own a)) → h.get? b = some u → h'.get? b = some u)
    (ho : ∀ b, H b = some (.own a) → H' b = some (.own a)) (ht : ∀ b xs, H b = some (.tup xs) → H' b = some (.tup xs)) : ObjOk P w H' h' a o := by
  induction o with
  | lst xs => obtain ⟨z, its, n, r, e⟩ := x; exact ⟨z, its, n, r, k _ _ (.inl rfl) e⟩
  | tup xs => obtain ⟨z, its, r, ob, e, c⟩ := x; exact ⟨z, its, r, ob, k _ _ (.inl rfl) e, c⟩
  | dK kvs => obtain ⟨z, y, vs, r, ob, es, ep, e, c⟩ := x; exact ⟨z, y, vs, r, ob, es, ep, k _ _ (.inl rfl) e, c⟩
  | dT kvs =>
    obtain ⟨z, y, xs, r, ob, es, ep, e, c⟩ := x
    exact ⟨z, y, xs, Paired.mapP r fun p q z => ⟨z.1, ht _ _ z.2.1, z.2.2⟩, ob, es, ep, k _ _ (.inl rfl) e, c⟩
  | set S n => obtain ⟨ob, es, ep, t, e, c⟩ := x; exact ⟨ob, es, ep, t, k _ _ (.inl rfl) e, c⟩
  | ins C dx fs =>
    obtain ⟨d, z, ne, e, mA, ⟨od, es, ep, e2, c⟩, r⟩ := x
    exact ⟨ho _ d, z, ne, k _ _ (.inl rfl) e, mA, ⟨od, es, ep, k _ _ (.inr d) e2, c⟩, r⟩
  | own y => obtain ⟨ob, e⟩ := x; exact ⟨ob, k _ _ (.inl rfl) e⟩
  | xd fs => obtain ⟨mA, ⟨od, es, ep, e, c⟩, r⟩ := x; exact ⟨mA, ⟨od, es, ep, k _ _ (.inl rfl) e, c⟩, r⟩
  | rng lo hi => obtain ⟨t, u, v, e⟩ := x; exact ⟨t, u, v, k _ _ (.inl rfl) e⟩
  | frz ob u ih => obtain ⟨e, q⟩ := x; exact ⟨k _ _ (.inl rfl) e, ih q⟩
  | tbl ps =>
    have e : h.get? a = some { cls := .none, data := .fields ps } := x
    show h'.get? a = some { cls := .none, data := .fields ps }
    exact k a _ (.inl rfl) e
  | met f y =>
    have e : h.get? a = some (PySem.W.methodObj (.ref f) (.ref y)) := x
    show h'.get? a = some (PySem.W.methodObj (.ref f) (.ref y))
    exact k a _ (.inl rfl) e
  | ext φ => obtain ⟨p, ⟨o, e⟩, st⟩ := x; exact ⟨st _ _ p fun o q => k _ _ (.inl rfl) q, ⟨o, k _ _ (.inl rfl) e⟩, st⟩
theorem HOk.lt (x : HOk P w H h) (e : H a = some o) : a < h.objs.size := (x a o e).lt
theorem HOk.fresh (x : HOk P w H h) (e : h.objs.size ≤ a) : H a = none := by
  cases q : H a with
  | none => rfl
  | some u => exact absurd (Nat.lt_of_lt_of_le (x.lt q) e) (Nat.lt_irrefl _)
theorem HOk.kept (x : HOk P w H h) (k : ∀ b u, h.get? b = some u → h'.get? b = some u) : HOk P w H h' := fun a o e =>
  (x a o e).stay (fun b u _ q => k b u q) (fun _ q => q) fun _ _ q => q
theorem HOk.laid (x : HOk P w H h) (k : ∀ b u, h.get? b = some u → h'.get? b = some u) (hp : h.objs.size ≤ a) (new : ObjOk P w (upd H a o) h' a o) : HOk P w (upd H a o) h' := fun b u e => by
  have hn := x.fresh hp
  by_cases hb : b = a
  · subst hb; rw [upd_same] at e; cases e; exact new
  · rw [upd_ne hb] at e
    exact (x b u e).stay (fun c v _ q => k c v q) (fun c q => by rw [upd_ne (ne_of_none q hn)]; exact q) fun c xs q => by rw [upd_ne (ne_of_none q hn)]; exact q
end
def Rd (H : Hp) (a : Addr) (u : HO) : Prop := H a = some u ∨ ∃ o, H a = some (.frz o u)
theorem Rd.ok {P : Program} {w : World} {H : Hp} {h : Heap} {a : Addr} {u : HO} (r : Rd H a u) (x : HOk P w H h) : ObjOk P w H h a u := by
  rcases r with r | ⟨o, r⟩
  · exact x a u r
  · obtain ⟨_, q⟩ := x a _ r
    exact q
def Mut : Option HO → Prop
  | some (.lst _) => True
  | some (.dK _) => True
  | some (.dT _) => True
  | some (.set _ _) => True
  | some (.ins _ _ _) => True
  | some (.ext _) => True
  | _ => False
section
variable {P : Program} {w : World} {H : Hp} {h h' : Heap} {x e : Addr} {o' : HO}
theorem HOk.write (ok : HOk P w H h) (mu : Mut (H x)) (he : e = x ∨ H e = some (.own x)) (k : ∀ b u, b ≠ e → h.get? b = some u → h'.get? b = some u) (heo : ∃ u, h'.get? e = some u)
    (new : ObjOk P w (upd H x o') h' x o') : HOk P w (upd H x o') h' := fun b u q => by
  have nown : ∀ c y, H c = some (.own y) → c ≠ x := fun c y r z => by subst z; rw [r] at mu; exact mu
  have ntup : ∀ c xs, H c = some (.tup xs) → c ≠ x := fun c xs r z => by subst z; rw [r] at mu; exact mu
  by_cases hb : b = x
  · subst hb; rw [upd_same] at q; cases q; exact new
  · rw [upd_ne hb] at q
    by_cases hbe : b = e
    · have q' : H b = some (.own x) := by
        rcases he with z | z
        · exact absurd (hbe.trans z) hb
        · rw [hbe]; exact z
      rw [q] at q'; cases q'
      obtain ⟨v, hv⟩ := heo
      exact ⟨v, by rw [hbe]; exact hv⟩
    · refine (ok b u q).stay (fun c v hc r => k c v ?_ r) (fun c r => by rw [upd_ne (nown c b r)]; exact r) fun c xs r => by rw [upd_ne (ntup c xs r)]; exact r
      rcases hc with rfl | hc
      · exact hbe
      · rintro rfl
        rcases he with z | z
        · exact nown c b hc z
        · rw [hc] at z; cases z; exact hb rfl
end
structure Un (fs ex : List Addr) (H H' : Hp) (h h' : Heap) : Prop where
  keep : ∀ b o, h.get? b = some o → H b = none → b ∉ fs → b ∉ ex → h'.get? b = some o
  slot : ∀ b o, h.get? b = some o → H b = none → b ∈ fs → b ∉ ex → ∃ sl, h'.get? b = some { o with slots := sl }
  free : ∀ b o, h.get? b = some o → H b = none → b ∉ ex → H' b = none
  there : ∀ b o, h.get? b = some o → b ∉ ex → ∃ o', h'.get? b = some o'
  tups : ∀ b xs, H b = some (.tup xs) → H' b = some (.tup xs)
  frzs : ∀ b o u, H b = some (.frz o u) → H' b = some (.frz o u)
  tbls : ∀ b ps, H b = some (.tbl ps) → ∃ more, H' b = some (.tbl (ps ++ more))
section
variable {fs fs' ex ex' : List Addr} {H H1 H2 : Hp} {h h1 h2 h' : Heap} {a x e : Addr} {o : HO}
theorem Un.any (u : Un fs ex H H1 h h1) {b : Addr} {ob : Obj} (q : h.get? b = some ob) (n : H b = none) (hx : b ∉ ex) : ∃ sl, h1.get? b = some { ob with slots := sl } := by
  by_cases hb : b ∈ fs
  · exact u.slot b ob q n hb hx
  · exact ⟨ob.slots, u.keep b ob q n hb hx⟩
theorem Un.kept (k : ∀ b u, h.get? b = some u → h'.get? b = some u) : Un fs ex H H h h' :=
  ⟨fun b ob q _ _ _ => k b ob q, fun b ob q _ _ _ => ⟨ob.slots, k b ob q⟩, fun _ _ _ n _ => n, fun b ob q _ => ⟨ob, k b ob q⟩, fun _ _ q => q, fun _ _ _ q => q, fun _ ps q => ⟨#[], by rw [q]; simp⟩⟩
theorem Un.refl : Un fs ex H H h h := Un.kept fun _ _ q => q
theorem Un.laid (k : ∀ b u, h.get? b = some u → h'.get? b = some u) (hp : h.objs.size ≤ a) (hn : H a = none) : Un fs ex H (upd H a o) h h' where
  keep := fun b u q _ _ _ => k b u q
  slot := fun b u q _ _ _ => ⟨u.slots, k b u q⟩
  free := fun b u q n _ => by rw [upd_ne (Nat.ne_of_lt (Nat.lt_of_lt_of_le (Heap.lt_size q) hp))]; exact n
  there := fun b u q _ => ⟨u, k b u q⟩
  tups := fun b xs q => by rw [upd_ne (ne_of_none q hn)]; exact q
  frzs := fun b u xs q => by rw [upd_ne (ne_of_none q hn)]; exact q
  tbls := fun b ps q => ⟨#[], by rw [upd_ne (ne_of_none q hn), q]; simp⟩
theorem Un.write (mu : Mut (H x)) (he : e = x ∨ H e = some (.own x)) (k : ∀ b u, b ≠ e → h.get? b = some u → h'.get? b = some u) (heo : ∃ u, h'.get? e = some u) : Un fs ex H (upd H x o) h h' := by
  have hx : ∀ b, H b = none → b ≠ x := fun b n z => by subst z; rw [n] at mu; exact mu
  have hb : ∀ b, H b = none → b ≠ e := fun b n z => by
    subst z
    rcases he with r | r
    · exact hx b n r
    · rw [n] at r; cases r
  have hm : ∀ b u, H b = some u → ¬ Mut (some u) → b ≠ x := fun b u q nm z => by subst z; rw [q] at mu; exact nm mu
  refine ⟨fun b u q n _ _ => k b u (hb b n) q, fun b u q n _ _ => ⟨u.slots, k b u (hb b n) q⟩, fun b u q n _ => by rw [upd_ne (hx b n)]; exact n, fun b u q _ => ?_,
    fun b xs q => by rw [upd_ne (hm b _ q fun z => z)]; exact q, fun b u xs q => by rw [upd_ne (hm b _ q fun z => z)]; exact q, fun b ps q => ⟨#[], by rw [upd_ne (hm b _ q fun z => z), q]; simp⟩⟩
  by_cases hbe : b = e
  · subst hbe; exact heo
  · exact ⟨u, k b u hbe q⟩
end
def trk (h : Heap) (H : Hp) : List Addr := (List.range h.objs.size).filter fun a => (H a).isSome
def hidT (h : Heap) (H : Hp) : Heap := PySem.W.hideAll h (trk h H)
theorem hidT_size (h : Heap) (H : Hp) : (hidT h H).objs.size = h.objs.size := PySem.W.hideAll_size _ _
theorem hidT_get {h : Heap} {H : Hp} {b : Addr} {o : Obj} (e : h.get? b = some o) (n : H b = none) : (hidT h H).get? b = some o :=
  PySem.W.hideAll_get _ e fun hm => by
    have q : (H b).isSome = true := (List.mem_filter.mp hm).2
    rw [n] at q; simp at q
theorem of_hidT {h : Heap} {H : Hp} {b : Addr} {o : Obj} (e : (hidT h H).get? b = some o) : h.get? b = some o ∧ H b = none := by
  have e' : h.get? b = some o := PySem.W.of_hideAll (trk h H) e
  refine ⟨e', ?_⟩
  cases q : H b with
  | none => rfl
  | some x =>
    have hm : b ∈ trk h H := List.mem_filter.mpr ⟨List.mem_range.mpr (Heap.lt_size e'), by simp [q]⟩
    have z : (hidT h H).get? b = none := PySem.W.hideAll_none (trk h H) hm
    rw [z] at e; cases e
end L2
namespace L2
open PySem PySem.Spec PyProof.Rows
structure Mod (K : PySem.W.Frag) (mg : Str → Option Value) (base : Heap) : Prop where
  kin : K.In base
  glob : base.Ns mainGlobals mg
  blt : ∃ mb, base.Ns builtinsNs mb ∧ ∀ x : Str, x ≠ "__name__" → mb x = bootBuiltins x
  nolimit : base.NoLimit
structure Cx where
  prog : Program
  w : World
  K : PySem.W.Frag
  mg : Str → Option Value
  base : Heap
  A : Around
  N : List Str
  s_0 : Shared
  H_0 : Hp
  env : Env
  outer : List Env
  stack : List Env
  ex : List Addr
  fn : Str → Bool
  calm : Bool
  pn : List (Addr × Obj)
  xe : Value → Shared → Prop
def frs (l : List Env) : List Addr := l.filterMap (·.frame)
abbrev Cx.fs (X : Cx) : List Addr := frs X.outer
def Vis (sc : Scope) (x : Str) : Prop := sc.names.lookup x = some .local ∨ sc.names.lookup x = some .cell ∨ sc.names.lookup x = some .free
def Loc (sc : Scope) (x : Str) : Prop := sc.names.lookup x = some .local ∨ sc.names.lookup x = some .cell
def Look (env : Env) (h : Heap) (m : Str → Option Value) (x : Str) (u : Value) : Prop :=
  (env.kindOf x = some .local ∧ m x = some u) ∨ ((env.kindOf x = some .cell ∨ env.kindOf x = some .free) ∧ ∃ c, env.cells.lookup x = some c ∧ h.IsCell c (some u))
structure Cx.Ok (X : Cx) : Prop where
  mod : Mod X.K X.mg X.base
  kind : X.env.scope.kind = .function
  glob : X.env.globals = mainGlobals
  blt : X.env.builtins = builtinsNs
  above : X.s_0.heap.objs.size ≤ X.env.locals
  inj : ∀ x y c, X.env.cells.lookup x = some c → X.env.cells.lookup y = some c → x = y
  has : ∀ x, (X.env.kindOf x = some .cell ∨ X.env.kindOf x = some .free) → ∃ c, X.env.cells.lookup x = some c
  cab : ∀ x c, X.fn x = true → X.env.cells.lookup x = some c → X.s_0.heap.objs.size ≤ c
  hd : X.calm = true → X.A.handled = none
  frames : X.A.frames = some X.stack
  stk : X.stack = X.outer ∨ (X.stack = X.env :: X.outer ∧ X.env.frame = some X.env.locals)
  exf : ∀ b ∈ X.ex, b ≠ X.env.locals ∧ ∀ x c, X.env.cells.lookup x = some c → c ≠ b
  bs : ∀ b o, X.base.get? b = some o → X.s_0.heap.get? b = some o ∧ X.H_0 b = none
  bsz : X.base.objs.size ≤ X.s_0.heap.objs.size
  noex : ∀ b o, X.base.get? b = some o → b ∉ X.ex
  exfs : ∀ b ∈ X.ex, b ∉ X.fs
  funs : X.s_0.heap.FunFrames X.base X.outer
  frf : ∀ b ∈ X.fs, X.H_0 b = none
structure Inv (X : Cx) (pins : List (Addr × Obj)) (σ : List (Option V)) (H : Hp) (s : Shared) : Prop where
  ok : X.Ok
  os : s.os = X.s_0.os
  bare : AllBare s.gens
  base : Un X.fs X.ex X.H_0 H X.s_0.heap s.heap
  loc : ∃ m, s.heap.Ns X.env.locals m ∧ ∀ (i : Nat) (x : Str) (v : V), X.N[i]? = some x → σ[i]? = some (some v) → Vis X.env.scope x → ∃ u, RelV v u ∧ Look X.env s.heap m x u
  cell : ∀ x c, X.env.cells.lookup x = some c → ∃ v, s.heap.IsCell c v
  free : H X.env.locals = none
  freeC : ∀ x c, X.env.cells.lookup x = some c → H c = none
  pin : ∀ p ∈ X.pn ++ pins, s.heap.get? p.1 = some p.2 ∧ H p.1 = none ∧ p.1 ≠ X.env.locals ∧ p.1 ∉ X.fs ∧ ∀ v, p.2.data ≠ .cell v
  hok : HOk X.prog X.w H s.heap
  len : σ.length = X.N.length
section
variable {X : Cx} {pins : List (Addr × Obj)} {σ : List (Option V)} {H H' : Hp} {s : Shared} {h' : Heap}
theorem Cx.Ok.nofr (ok : X.Ok) {b : Addr} {o : Obj} (e : X.base.get? b = some o) : b ∉ X.fs := fun hb => by
  have := (ok.funs.mem hb).1
  rw [e] at this; cases this
theorem Inv.bs (I : Inv X pins σ H s) : ∀ b o, X.base.get? b = some o → s.heap.get? b = some o ∧ H b = none := fun b o e =>
  ⟨I.base.keep b o (I.ok.bs b o e).1 (I.ok.bs b o e).2 (I.ok.nofr e) (I.ok.noex b o e), I.base.free b o (I.ok.bs b o e).1 (I.ok.bs b o e).2 (I.ok.noex b o e)⟩
theorem Inv.bk (I : Inv X pins σ H s) : ∀ b o, X.base.get? b = some o → s.heap.get? b = some o := fun b o e => (I.bs b o e).1
theorem Inv.mod (I : Inv X pins σ H s) : Mod X.K X.mg X.base := I.ok.mod
theorem Inv.kIn (I : Inv X pins σ H s) : X.K.In s.heap := I.ok.mod.kin.keeps I.bk
theorem Inv.fr (I : Inv X pins σ H s) : ∃ m, Fr X.base X.env.locals s.heap m :=
  let ⟨m, hn, _⟩ := I.loc
  ⟨m, hn, I.bk, Nat.le_trans I.ok.bsz I.ok.above⟩
theorem Inv.lt (I : Inv X pins σ H s) : X.env.locals < s.heap.objs.size := let ⟨_, hn, _⟩ := I.loc; hn.lt
theorem Inv.sz (I : Inv X pins σ H s) : X.s_0.heap.objs.size ≤ s.heap.objs.size := Nat.le_trans I.ok.above (Nat.le_of_lt I.lt)
theorem Inv.nofs (I : Inv X pins σ H s) {a : Addr} (h : s.heap.objs.size ≤ a) : a ∉ X.fs := fun hb => by
  obtain ⟨_, o, ho, _⟩ := I.ok.funs.mem hb
  exact absurd (Nat.lt_of_lt_of_le (Heap.lt_size ho) (Nat.le_trans I.sz h)) (Nat.lt_irrefl _)
theorem Inv.cne (I : Inv X pins σ H s) : ∀ x c, X.env.cells.lookup x = some c → c ≠ X.env.locals := fun x c e z => by
  obtain ⟨v, o, ho, hd⟩ := I.cell x c e
  obtain ⟨m, ⟨o', es, ep, ho', hd', _⟩, _⟩ := I.loc
  rw [z, ho'] at ho; cases ho; rw [hd'] at hd; cases hd
theorem Inv.funs (I : Inv X pins σ H s) : s.heap.FunFrames X.base X.outer := by
  have all : ∀ (l : List Env), (∀ b ∈ frs l, b ∈ X.fs) → X.s_0.heap.FunFrames X.base l → s.heap.FunFrames X.base l := by
    intro l
    induction l with
    | nil => intro _ _; trivial
    | cons env r ih =>
      intro hs hl
      obtain ⟨hk, ⟨L, o, hf, hn, ho, hd⟩, hr⟩ := hl
      have hL : L ∈ X.fs := hs L (by unfold frs; rw [List.filterMap_cons, hf]; exact List.mem_cons_self)
      obtain ⟨sl, e⟩ := I.base.slot L o ho (I.ok.frf L hL) hL fun z => I.ok.exfs L z hL
      exact ⟨hk, ⟨L, _, hf, hn, e, hd⟩, ih (fun b hb => hs b (by unfold frs; rw [List.filterMap_cons, hf]; exact List.mem_cons_of_mem _ hb)) hr⟩
  exact all X.outer (fun _ hb => hb) I.ok.funs
theorem Inv.stack (I : Inv X pins σ H s) : s.heap.FunFrames X.base X.stack := by
  rcases I.ok.stk with e | ⟨e, hf⟩
  · rw [e]; exact I.funs
  · rw [e]
    obtain ⟨m, hn, _⟩ := I.loc
    refine .cons (by rw [I.ok.kind]; decide) hf hn ?_ I.funs
    exact Heap.get?_none_of_le (Nat.le_trans I.ok.bsz I.ok.above)
theorem Inv.stkSub (I : Inv X pins σ H s) : ∀ b ∈ frs X.stack, b ∈ X.env.locals :: X.fs := fun b hb => by
  rcases I.ok.stk with e | ⟨e, hf⟩
  · rw [e] at hb; exact List.mem_cons_of_mem _ hb
  · rw [e] at hb
    unfold frs at hb
    rw [List.filterMap_cons, hf] at hb
    exact hb
theorem Inv.stkFree (I : Inv X pins σ H s) : ∀ b ∈ frs X.stack, H b = none := fun b hb => by
  rcases List.mem_cons.mp (I.stkSub b hb) with e | hb
  · rw [e]; exact I.free
  · obtain ⟨_, o, ho, _⟩ := I.ok.funs.mem hb
    exact I.base.free b o ho (I.ok.frf b hb) fun z => I.ok.exfs b z hb
theorem Inv.step {g' : Array GenState} {t' : Nat} {d' : Drawn} {ch : List Addr} (I : Inv X pins σ H s)
    (hch : ∀ b ∈ ch, (b ∈ X.ex ∨ X.s_0.heap.objs.size ≤ b) ∧ b ≠ X.env.locals ∧ (∀ x c, X.env.cells.lookup x = some c → c ≠ b) ∧ ∀ p ∈ X.pn ++ pins, p.1 ≠ b)
    (keep : ∀ b o, b ≠ X.env.locals → b ∉ X.fs → b ∉ ch → s.heap.get? b = some o → H b = none → h'.get? b = some o)
    (slot : ∀ b o, b ≠ X.env.locals → b ∈ X.fs → b ∉ ch → s.heap.get? b = some o → H b = none → ∃ sl, h'.get? b = some { o with slots := sl }) (free : ∀ b o, b ∉ ch → s.heap.get? b = some o → H b = none → H' b = none)
    (there : ∀ b o, b ∉ ch → s.heap.get? b = some o → ∃ o', h'.get? b = some o')
    (tups : ∀ b xs, H b = some (.tup xs) → H' b = some (.tup xs)) (frzs : ∀ b o u, H b = some (.frz o u) → H' b = some (.frz o u)) (tbls : ∀ b ps, H b = some (.tbl ps) → ∃ more, H' b = some (.tbl (ps ++ more)))
    (ns : ∀ m, s.heap.Ns X.env.locals m → h'.Ns X.env.locals m) (hok : HOk X.prog X.w H' h') (hg : AllBare g') :
    Inv X pins σ H' { s with heap := h', gens := g', drawn := d', toks := t' } := by
  have neL : ∀ b o, X.s_0.heap.get? b = some o → b ≠ X.env.locals := fun b o e => Nat.ne_of_lt (Nat.lt_of_lt_of_le (Heap.lt_size e) I.ok.above)
  have neC : ∀ b o, X.s_0.heap.get? b = some o → b ∉ X.ex → b ∉ ch := fun b o e hx hb => by
    rcases (hch b hb).1 with z | z
    · exact hx z
    · exact absurd (Nat.lt_of_lt_of_le (Heap.lt_size e) z) (Nat.lt_irrefl _)
  have cellK : ∀ x c, X.env.cells.lookup x = some c → ∀ v, s.heap.IsCell c v → h'.IsCell c v := fun x c e v ⟨o, ho, hd⟩ => by
    have nch : c ∉ ch := fun z => (hch c z).2.2.1 x c e rfl
    by_cases hc : c ∈ X.fs
    · obtain ⟨sl, q⟩ := slot c o (I.cne x c e) hc nch ho (I.freeC x c e)
      exact ⟨_, q, hd⟩
    · exact ⟨o, keep c o (I.cne x c e) hc nch ho (I.freeC x c e), hd⟩
  refine ⟨I.ok, I.os, hg, ⟨fun b o e n hb hx => ?_, fun b o e n hb hx => ?_, fun b o e n hx => ?_, fun b o e hx => ?_, fun b xs e => tups b xs (I.base.tups b xs e), fun b o xs e => frzs b o xs (I.base.frzs b o xs e), fun b ps e => ?_⟩, ?_, fun x c e => ?_, ?_, fun x c e => ?_, fun p hp => ?_, hok, I.len⟩
  · exact keep b o (neL b o e) hb (neC b o e hx) (I.base.keep b o e n hb hx) (I.base.free b o e n hx)
  · obtain ⟨sl, e1⟩ := I.base.slot b o e n hb hx
    obtain ⟨sl', e2⟩ := slot b _ (neL b o e) hb (neC b o e hx) e1 (I.base.free b o e n hx)
    exact ⟨sl', e2⟩
  · obtain ⟨o', e1⟩ := I.base.there b o e hx
    exact free b o' (neC b o e hx) e1 (I.base.free b o e n hx)
  · obtain ⟨o', e1⟩ := I.base.there b o e hx
    exact there b o' (neC b o e hx) e1
  · obtain ⟨m1, e1⟩ := I.base.tbls b ps e
    obtain ⟨m2, e2⟩ := tbls b _ e1
    exact ⟨m1 ++ m2, by rw [e2, Array.append_assoc]⟩
  · obtain ⟨m, hn, hl⟩ := I.loc
    refine ⟨m, ns m hn, fun i x v e1 e2 e3 => ?_⟩
    obtain ⟨u, r, l⟩ := hl i x v e1 e2 e3
    refine ⟨u, r, ?_⟩
    rcases l with l | ⟨k, c, e, z⟩
    · exact .inl l
    · exact .inr ⟨k, c, e, cellK x c e _ z⟩
  · obtain ⟨v, z⟩ := I.cell x c e
    exact ⟨v, cellK x c e v z⟩
  · obtain ⟨m, ⟨o, _, _, ho, _⟩, _⟩ := I.loc
    exact free _ o (fun z => (hch _ z).2.1 rfl) ho I.free
  · obtain ⟨v, o, ho, hd⟩ := I.cell x c e
    exact free c o (fun z => (hch c z).2.2.1 x c e rfl) ho (I.freeC x c e)
  · obtain ⟨e, n, ne, nf, d⟩ := I.pin p hp
    have nch : p.1 ∉ ch := fun z => (hch p.1 z).2.2.2 p hp rfl
    exact ⟨keep p.1 p.2 ne nf nch e n, free p.1 p.2 nch e n, ne, nf, d⟩
theorem Inv.un {t' : Nat} (I : Inv X pins σ H s) (u : Un X.fs [] H H' s.heap h') (hok : HOk X.prog X.w H' h') : Inv X pins σ H' { s with heap := h', toks := t' } := by
  obtain ⟨m, ⟨o, es, ep, ho, r⟩, _⟩ := id I.loc
  obtain ⟨sl, hL⟩ := u.any ho I.free (by simp)
  exact I.step (g' := s.gens) (d' := s.drawn) (ch := []) (fun _ z => nomatch z) (fun b o _ hb _ e n => u.keep b o e n hb (by simp)) (fun b o _ hb _ e n => u.slot b o e n hb (by simp)) (fun b o _ e n => u.free b o e n (by simp)) (fun b o _ e => u.there b o e (by simp)) u.tups u.frzs u.tbls (fun m' hm => by
    obtain ⟨o', es', ep', ho', r'⟩ := hm
    rw [ho] at ho'; cases ho'
    exact ⟨_, es', ep', hL, r'⟩) hok I.bare
theorem Inv.call {g' : Array GenState} {t' : Nat} {d' : Drawn} {ch : List Addr} (I : Inv X pins σ H s) (u : Un (frs X.stack) ch H H' s.heap h') (hok : HOk X.prog X.w H' h') (hg : AllBare g')
    (hch : ∀ b ∈ ch, (b ∈ X.ex ∨ X.s_0.heap.objs.size ≤ b) ∧ b ≠ X.env.locals ∧ (∀ x c, X.env.cells.lookup x = some c → c ≠ b) ∧ ∀ p ∈ X.pn ++ pins, p.1 ≠ b) :
    Inv X pins σ H' { s with heap := h', gens := g', drawn := d', toks := t' } := by
  obtain ⟨m, ⟨o, es, ep, ho, r⟩, _⟩ := id I.loc
  obtain ⟨sl, hL⟩ := u.any ho I.free fun z => (hch _ z).2.1 rfl
  exact I.step (ch := ch) hch (fun b o hL hb hc e n => u.keep b o e n (fun z => (List.mem_cons.mp (I.stkSub b z)).elim hL hb) hc) (fun b o _ _ hc e n => u.any e n hc) (fun b o hc e n => u.free b o e n hc) (fun b o hc e => u.there b o e hc) u.tups u.frzs u.tbls (fun m' hm => by
    obtain ⟨o', es', ep', ho', r'⟩ := hm
    rw [ho] at ho'; cases ho'
    exact ⟨_, es', ep', hL, r'⟩) hok hg
theorem Inv.turned {t' : Nat} {it : Addr} (I : Inv X pins σ H s) (k : ∀ b o, b ≠ it → s.heap.get? b = some o → h'.get? b = some o) (hn : H it = none) (hL : it ≠ X.env.locals)
    (h1 : it ∈ X.ex ∨ X.s_0.heap.objs.size ≤ it) (h2 : ∀ x c, X.env.cells.lookup x = some c → c ≠ it) (h3 : ∀ p ∈ X.pn ++ pins, p.1 ≠ it) : Inv X pins σ H { s with heap := h', toks := t' } := by
  have nit : ∀ b u, H b = some u → b ≠ it := fun b u e z => by rw [z, hn] at e; cases e
  refine I.step (g' := s.gens) (d' := s.drawn) (ch := [it]) (fun b hb => ?_) (fun b o _ _ hc e _ => k b o (fun z => hc (by simp [z])) e) (fun b o _ _ hc e _ => ⟨o.slots, k b o (fun z => hc (by simp [z])) e⟩) (fun _ _ _ _ n => n)
    (fun b o hc e => ⟨o, k b o (fun z => hc (by simp [z])) e⟩) (fun _ _ e => e) (fun _ _ _ e => e) (fun b ps e => ⟨#[], by rw [e]; simp⟩) (fun m hm => ?_) (fun b u e => ?_) I.bare
  · have e : b = it := by simpa using hb
    subst e
    exact ⟨h1, hL, h2, h3⟩
  · obtain ⟨o, es, ep, ho, r⟩ := hm
    exact ⟨o, es, ep, k _ o (Ne.symm hL) ho, r⟩
  · refine (I.hok b u e).stay (fun c v hc q => k c v ?_ q) (fun _ q => q) fun _ _ q => q
    rcases hc with z | z
    · rw [z]; exact nit b u e
    · exact nit c _ z
theorem Inv.tok (I : Inv X pins σ H s) (t : Nat) : Inv X pins σ H { s with toks := t } := I.un (h' := s.heap) (t' := t) Un.refl I.hok
theorem Inv.kept {t' : Nat} (I : Inv X pins σ H s) (k : ∀ b u, s.heap.get? b = some u → h'.get? b = some u) : Inv X pins σ H { s with heap := h', toks := t' } := I.un (Un.kept k) (I.hok.kept k)
theorem Inv.laid {a : Addr} {o : HO} {t' : Nat} (I : Inv X pins σ H s) (k : ∀ b u, s.heap.get? b = some u → h'.get? b = some u) (hp : s.heap.objs.size ≤ a) (new : ObjOk X.prog X.w (upd H a o) h' a o) :
    Inv X pins σ (upd H a o) { s with heap := h', toks := t' } := I.un (Un.laid k hp (I.hok.fresh hp)) (I.hok.laid k hp new)
theorem Inv.write {x e : Addr} {o : HO} {t' : Nat} (I : Inv X pins σ H s) (mu : Mut (H x)) (he : e = x ∨ H e = some (.own x)) (k : ∀ b u, b ≠ e → s.heap.get? b = some u → h'.get? b = some u) (heo : ∃ u, h'.get? e = some u)
    (new : ObjOk X.prog X.w (upd H x o) h' x o) : Inv X pins σ (upd H x o) { s with heap := h', toks := t' } := I.un (Un.write mu he k heo) (I.hok.write mu he k heo new)
theorem Inv.weak {σ' : List (Option V)} (I : Inv X pins σ H s) (hl : σ'.length = σ.length) (w : ∀ (i : Nat) v, σ'[i]? = some (some v) → σ[i]? = some (some v)) : Inv X pins σ' H s :=
  ⟨I.ok, I.os, I.bare, I.base, let ⟨m, hn, hl'⟩ := I.loc; ⟨m, hn, fun i x v e1 e2 e3 => hl' i x v e1 (w i v e2) e3⟩, I.cell, I.free, I.freeC, I.pin, I.hok, hl.trans I.len⟩
theorem Inv.pins_of {pins' : List (Addr × Obj)} (I : Inv X pins σ H s) (h : ∀ p ∈ pins', s.heap.get? p.1 = some p.2 ∧ H p.1 = none ∧ p.1 ≠ X.env.locals ∧ p.1 ∉ X.fs ∧ ∀ v, p.2.data ≠ .cell v) : Inv X pins' σ H s :=
  ⟨I.ok, I.os, I.bare, I.base, I.loc, I.cell, I.free, I.freeC, fun p hp => (List.mem_append.mp hp).elim (fun z => I.pin p (List.mem_append_left _ z)) (h p), I.hok, I.len⟩
theorem nodup_ix {N : List Str} (hN : N.Nodup) {i j : Nat} {x : Str} (a : N[i]? = some x) (b : N[j]? = some x) : i = j := by
  obtain ⟨h1, e1⟩ := List.getElem?_eq_some_iff.mp a
  obtain ⟨h2, e2⟩ := List.getElem?_eq_some_iff.mp b
  exact (List.getElem_inj hN).mp (e1.trans e2.symm)
theorem store_ok2 {M : Model} {A : Around} {E : Value → Shared → Prop} {i : Nat} {x : Str} {v : V} {u : Value} {Q : Unit → Shared → Prop} (I : Inv X pins σ H s) (hN : X.N.Nodup) (hi : X.N[i]? = some x) (hx : Loc X.env.scope x) (r : RelV v u)
    (h : ∀ s', Inv X pins (σ.set i (some v)) H s' → (∃ a, Heap.SameBut a s.heap s'.heap ∧ (a = X.env.locals ∨ X.env.cells.lookup x = some a)) → Q () s') (hf : X.fn x = true ∨ X.env.scope.names.lookup x = some .local := by first | exact .inl rfl | exact .inr rfl | assumption) : wpAny M A (storeName X.env x u) Q E s := by
  obtain ⟨m, hn, hl⟩ := id I.loc
  have hcls : (X.env.scope.kind == .class || (X.env.scope.kind == .module && X.env.locals != X.env.globals)) = false := by rw [I.ok.kind]; rfl
  have hiσ : i < σ.length := by rw [I.len]; exact (List.getElem?_eq_some_iff.mp hi).1
  have cne := I.cne
  have tracked : ∀ {a : Addr} {h' : Heap}, (∃ o, s.heap.get? a = some o ∧ H a = none) → Heap.SameBut a s.heap h' → HOk X.prog X.w H h' := fun {a h'} ha hs b ob e => by
    obtain ⟨_, _, hfree⟩ := ha
    refine (I.hok b ob e).stay (fun c w' hc q => (hs.2 c ?_).trans q) (fun _ q => q) fun _ _ q => q
    rintro rfl
    rcases hc with rfl | hc
    · rw [hfree] at e; cases e
    · rw [hfree] at hc; cases hc
  rcases hx with hk | hk
  · refine wpAny_storeName_local hk hn (fun h' hn' hs => ?_) hcls
    obtain ⟨oL, _, _, hoL, _⟩ := id hn
    refine h _ ⟨I.ok, I.os, I.bare, ⟨fun b o e n hb hx => ?_, fun b o e n hb hx => ?_, I.base.free, fun b o e hx => ?_, I.base.tups, I.base.frzs, I.base.tbls⟩, ⟨_, hn', fun j y v' e1 e2 e3 => ?_⟩, fun y c e => ?_, I.free, I.freeC, fun p hp => ?_, tracked ⟨oL, hoL, I.free⟩ hs, by simpa using I.len⟩ ⟨_, hs, .inl rfl⟩
    · exact (hs.2 b (Nat.ne_of_lt (Nat.lt_of_lt_of_le (Heap.lt_size e) I.ok.above))).trans (I.base.keep b o e n hb hx)
    · obtain ⟨sl, e1⟩ := I.base.slot b o e n hb hx
      exact ⟨sl, (hs.2 b (Nat.ne_of_lt (Nat.lt_of_lt_of_le (Heap.lt_size e) I.ok.above))).trans e1⟩
    · obtain ⟨o', e1⟩ := I.base.there b o e hx
      exact ⟨o', (hs.2 b (Nat.ne_of_lt (Nat.lt_of_lt_of_le (Heap.lt_size e) I.ok.above))).trans e1⟩
    · by_cases hj : j = i
      · subst hj
        rw [hi] at e1; cases e1
        rw [List.getElem?_set_self hiσ] at e2
        cases e2
        exact ⟨u, r, .inl ⟨hk, by simp⟩⟩
      · rw [List.getElem?_set_ne (Ne.symm hj)] at e2
        obtain ⟨u', r', q⟩ := hl j y v' e1 e2 e3
        refine ⟨u', r', ?_⟩
        rcases q with ⟨k, e⟩ | ⟨k, c, e, z⟩
        · refine .inl ⟨k, ?_⟩
          have : y ≠ x := fun e => hj (nodup_ix hN e1 (e ▸ hi))
          simp [this, e]
        · exact .inr ⟨k, c, e, z.sameBut hs (cne y c e)⟩
    · obtain ⟨w', z⟩ := I.cell y c e
      exact ⟨w', z.sameBut hs (cne y c e)⟩
    · obtain ⟨e, n, ne, nf, d⟩ := I.pin p hp
      exact ⟨(hs.2 p.1 ne).trans e, n, ne, nf, d⟩
  · have hfn : X.fn x = true := by
      rcases hf with z | z
      · exact z
      · rw [z] at hk; cases hk
    obtain ⟨c, hc⟩ := I.ok.has x (.inl hk)
    obtain ⟨w', z⟩ := I.cell x c hc
    refine wpAny_storeName_cell I.ok.kind hk hc z (fun h' hc' hs => ?_)
    obtain ⟨oc, hoc, hocd⟩ := id z
    refine h { s with heap := h' } ⟨I.ok, I.os, I.bare, ⟨fun b o e n hb hx => ?_, fun b o e n hb hx => ?_, I.base.free, fun b o e hx => ?_, I.base.tups, I.base.frzs, I.base.tbls⟩, ⟨m, hn.sameBut hs (Ne.symm (cne x c hc)), fun j y v' e1 e2 e3 => ?_⟩, fun y c' e => ?_, I.free, I.freeC, fun p hp => ?_, tracked ⟨oc, hoc, I.freeC x c hc⟩ hs, by simpa using I.len⟩ ⟨c, hs, .inr hc⟩
    · exact (hs.2 b (Nat.ne_of_lt (Nat.lt_of_lt_of_le (Heap.lt_size e) (I.ok.cab x c hfn hc)))).trans (I.base.keep b o e n hb hx)
    · obtain ⟨sl, e1⟩ := I.base.slot b o e n hb hx
      exact ⟨sl, (hs.2 b (Nat.ne_of_lt (Nat.lt_of_lt_of_le (Heap.lt_size e) (I.ok.cab x c hfn hc)))).trans e1⟩
    · obtain ⟨o', e1⟩ := I.base.there b o e hx
      exact ⟨o', (hs.2 b (Nat.ne_of_lt (Nat.lt_of_lt_of_le (Heap.lt_size e) (I.ok.cab x c hfn hc)))).trans e1⟩
    · by_cases hj : j = i
      · subst hj
        rw [hi] at e1; cases e1
        rw [List.getElem?_set_self hiσ] at e2
        cases e2
        exact ⟨u, r, .inr ⟨.inl hk, c, hc, hc'⟩⟩
      · rw [List.getElem?_set_ne (Ne.symm hj)] at e2
        obtain ⟨u', r', q⟩ := hl j y v' e1 e2 e3
        refine ⟨u', r', ?_⟩
        rcases q with q | ⟨k, c', e, z'⟩
        · exact .inl q
        · refine .inr ⟨k, c', e, z'.sameBut hs ?_⟩
          rintro rfl
          exact hj (nodup_ix hN e1 (I.ok.inj _ _ _ e hc ▸ hi))
    · by_cases hcc : c' = c
      · subst hcc; exact ⟨_, hc'⟩
      · obtain ⟨w2, z2⟩ := I.cell y c' e
        exact ⟨w2, z2.sameBut hs hcc⟩
    · obtain ⟨e, n, ne, nf, d⟩ := I.pin p hp
      refine ⟨(hs.2 p.1 ?_).trans e, n, ne, nf, d⟩
      intro q
      rw [q, hoc] at e
      have q' : oc = p.2 := Option.some.inj e
      exact d w' (by rw [← q']; exact hocd)
theorem store_ok {M : Model} {A : Around} {E : Value → Shared → Prop} {i : Nat} {x : Str} {v : V} {u : Value} {Q : Unit → Shared → Prop} (I : Inv X pins σ H s) (hN : X.N.Nodup) (hi : X.N[i]? = some x) (hx : Loc X.env.scope x) (r : RelV v u)
    (h : ∀ s', Inv X pins (σ.set i (some v)) H s' → Q () s') (hf : X.fn x = true ∨ X.env.scope.names.lookup x = some .local := by first | exact .inl rfl | exact .inr rfl | assumption) : wpAny M A (storeName X.env x u) Q E s :=
  store_ok2 I hN hi hx r (fun s' I' _ => h s' I') hf
theorem Inv.call' {s' : Shared} {ch : List Addr} (I : Inv X pins σ H s) (ho : s'.os = s.os) (u : Un (frs X.stack) ch H H' s.heap s'.heap) (hok : HOk X.prog X.w H' s'.heap) (hg : AllBare s'.gens)
    (hch : ∀ b ∈ ch, (b ∈ X.ex ∨ X.s_0.heap.objs.size ≤ b) ∧ b ≠ X.env.locals ∧ (∀ x c, X.env.cells.lookup x = some c → c ≠ b) ∧ ∀ p ∈ X.pn ++ pins, p.1 ≠ b) : Inv X pins σ H' s' := by
  obtain ⟨h', g', d', t', o'⟩ := s'
  have e : o' = s.os := ho
  subst e
  exact I.call (g' := g') (t' := t') (d' := d') u hok hg hch
end
abbrev XK := Value → Option Addr → Hp → Prop
abbrev St := List (Option V)
abbrev VK := V → Hp → Prop
abbrev TE := St → Hp → VK → Prop
abbrev TT := St → Hp → (Bool → Hp → Prop) → Prop
abbrev TA := St → Hp → (List V → Hp → Prop) → Prop
structure Ends where
  nx : St → Hp → Prop
  rt : VK
  bk : St → Hp → Prop := fun _ _ => False
  ct : St → Hp → Prop := fun _ _ => False
abbrev TS := Ends → St → Hp → Prop
def EP (X : Cx) (pins : List (Addr × Obj)) (σ : St) (Q : VK) (u : Value) (s' : Shared) : Prop := ∃ v H', Inv X pins σ H' s' ∧ RelV v u ∧ Q v H'
def TP (X : Cx) (pins : List (Addr × Obj)) (σ : St) (Q : Bool → Hp → Prop) (b : Bool) (s' : Shared) : Prop := ∃ H', Inv X pins σ H' s' ∧ Q b H'
def AP (X : Cx) (pins : List (Addr × Obj)) (σ : St) (Q : List V → Hp → Prop) (us : List Value) (s' : Shared) : Prop := ∃ vs H', Inv X pins σ H' s' ∧ Vals vs us ∧ Q vs H'
def SP (X : Cx) (pins : List (Addr × Obj)) (D : Ends) (f : Flow) (s' : Shared) : Prop :=
  match f with
  | .next => ∃ σ' H', Inv X pins σ' H' s' ∧ D.nx σ' H'
  | .brk => ∃ σ' H', Inv X pins σ' H' s' ∧ D.bk σ' H'
  | .cont => ∃ σ' H', Inv X pins σ' H' s' ∧ D.ct σ' H'
  | .ret u => ∃ v σ' H', Inv X pins σ' H' s' ∧ RelV v u ∧ D.rt v H'
def PE (X : Cx) (e : Expr) (t : TE) : Prop :=
  ∀ (pins : List (Addr × Obj)) (s : Shared) (σ : St) (H : Hp) (Q : VK), Inv X pins σ H s → t σ H Q → wpAny (model X.prog X.w) X.A (eval e X.env) (EP X pins σ Q) X.xe s
def PT (X : Cx) (e : Expr) (t : TT) : Prop :=
  ∀ (pins : List (Addr × Obj)) (s : Shared) (σ : St) (H : Hp) (Q : Bool → Hp → Prop), Inv X pins σ H s → t σ H Q → wpAny (model X.prog X.w) X.A (isTrue e X.env (eval e X.env)) (TP X pins σ Q) X.xe s
def PW (X : Cx) (e : Expr) (t : TT) : Prop :=
  ∀ (whole : Sem Value) (pins : List (Addr × Obj)) (s : Shared) (σ : St) (H : Hp) (Q : Bool → Hp → Prop), Inv X pins σ H s → t σ H Q → wpAny (model X.prog X.w) X.A (isTrue e X.env whole) (TP X pins σ Q) X.xe s
theorem PW.pt {X : Cx} {e : Expr} {t : TT} (h : PW X e t) : PT X e t := h _
def PA (X : Cx) (es : List Expr) (t : TA) : Prop :=
  ∀ (pos : Pos) (pins : List (Addr × Obj)) (s : Shared) (σ : St) (H : Hp) (Q : List V → Hp → Prop), Inv X pins σ H s → t σ H Q → wpAny (model X.prog X.w) X.A (spliced (backTo pos (starEach es X.env))) (AP X pins σ Q) X.xe s
def PS (X : Cx) (st : Stmt) (t : TS) : Prop :=
  ∀ (pins : List (Addr × Obj)) (s : Shared) (σ : St) (H : Hp) (D : Ends), Inv X pins σ H s → t D σ H → wpAny (model X.prog X.w) X.A (exec st X.env) (SP X pins D) X.xe s
def PSs (X : Cx) (st : List Stmt) (t : TS) : Prop :=
  ∀ (pins : List (Addr × Obj)) (s : Shared) (σ : St) (H : Hp) (D : Ends), Inv X pins σ H s → t D σ H → wpAny (model X.prog X.w) X.A (execs st X.env) (SP X pins D) X.xe s
theorem thn {α : Type} {t : Sem α} {Q Q' : α → Shared → Prop} {M : Model} {A : Around} {E : Value → Shared → Prop} {s : Shared} (h : wpAny M A t Q E s) (hQ : ∀ a s, Q a s → Q' a s) : wpAny M A t Q' E s := wpAny_mono h hQ fun _ _ x => x
end L2
namespace L2
open PySem PySem.Spec PyProof.Rows
section
variable {X : Cx}
def tVar (i : Nat) : TE := fun σ H Q => ∃ v, σ[i]? = some (some v) ∧ Q v H
def tC (v : V) : TE := fun _ H Q => Q v H
theorem pe_var {i : Nat} {x : Str} {pos : Pos} (hN : X.N[i]? = some x) (hv : Vis X.env.scope x) (hd : (x == ("__debug__" : Str)) = false := by decide) (hcd : (x == ("__classdict__" : Str)) = false := by decide) : PE X (.Name x pos) (tVar i) := by
  intro pins s σ H Q I h
  obtain ⟨v, e, h⟩ := h
  obtain ⟨m, hn, hl⟩ := I.loc
  obtain ⟨u, r, l⟩ := hl i x v hN e hv
  have fin : EP X pins σ Q u s := ⟨v, H, I, r, h⟩
  rcases l with ⟨hk, hm⟩ | ⟨hk, c, hc, hcell⟩
  · exact wpAny_Name (wpAny_loadName_local I.ok.kind hk hn hm fin) hd
  · rcases hk with hk | hk
    · exact wpAny_Name (wpAny_loadName_cell I.ok.kind hk hc hcell fin) hd
    · exact wpAny_Name (wpAny_loadName_free I.ok.kind hk hc hcell fin hcd) hd
theorem pe_int {i j pos} : PE X (.Constant (.int i) j pos) (tC (.int i)) := fun _ _ _ H _ I h => wpAny_Constant_int ⟨.int i, H, I.tok _, ⟨_, rfl⟩, h⟩
theorem pe_bl {b j pos} : PE X (.Constant (.bool b) j pos) (tC (.bl b)) := fun _ _ _ H _ I h => Constant_bool ⟨.bl b, H, I, rfl, h⟩
def Gl (X : Cx) (x : Str) : Prop := X.env.kindOf x = some .globalImplicit
theorem ld_glob {E : Value → Shared → Prop} {pins : List (Addr × Obj)} {s : Shared} {σ : St} {H : Hp} {x : Str} {u : Value} {pos : Pos} {Q : Value → Shared → Prop} (I : Inv X pins σ H s) (hg : Gl X x) (hm : X.mg x = some u) (h : Q u s)
    (hd : (x == ("__debug__" : Str)) = false := by decide) : wpAny (model X.prog X.w) X.A (eval (.Name x pos) X.env) Q E s :=
  Calls.Name_function_global I.ok.kind hg (Calls.loadGlobal_global (by rw [I.ok.glob]; exact I.mod.glob.keeps I.bk) hm h) hd
theorem ld_blt {E : Value → Shared → Prop} {pins : List (Addr × Obj)} {s : Shared} {σ : St} {H : Hp} {x : Str} {u : Value} {pos : Pos} {Q : Value → Shared → Prop} (I : Inv X pins σ H s) (hg : Gl X x) (hm : X.mg x = none) (hv : bootBuiltins x = some u) (h : Q u s)
    (hn : x ≠ "__name__" := by decide) (hd : (x == ("__debug__" : Str)) = false := by decide) : wpAny (model X.prog X.w) X.A (eval (.Name x pos) X.env) Q E s := by
  obtain ⟨mb, h1, h2⟩ := I.mod.blt
  exact Calls.Name_function_global I.ok.kind hg (Calls.loadGlobal_builtin (by rw [I.ok.glob]; exact I.mod.glob.keeps I.bk) hm (by rw [I.ok.blt]; exact h1.keeps I.bk) ((h2 x hn).trans hv) h) hd
theorem pe_glob {x : Str} {v : V} {u : Value} {pos : Pos} (hg : Gl X x) (hm : X.mg x = some u) (r : RelV v u) (hd : (x == ("__debug__" : Str)) = false := by decide) : PE X (.Name x pos) (tC v) :=
  fun _ _ _ H _ I h => ld_glob I hg hm ⟨v, H, I, r, h⟩ hd
variable {a b : Expr} {ta tb : TE} {pos : Pos}
def tB (t : TE) : TT := fun σ H Q => t σ H fun x H1 => ∃ c, x = .bl c ∧ Q c H1
theorem pt_val {e : Expr} {t : TE} (h : PE X e t) (he : ∀ whole, isTrue e X.env whole = (do let v ← whole; standAt e.pos; holding [v] (truthy v)) := by intro _; rfl) : PT X e (tB t) := by
  intro pins s σ H Q I hw
  refine isTrue_plain (thn (h pins s σ H _ I hw) fun v s1 ⟨x, H1, I1, r1, q1⟩ => ?_) (he _)
  obtain ⟨d, rfl, q⟩ := q1
  cases r1
  exact wpAny_truthy_bool ⟨H1, I1, q⟩
variable {tA tB' : TT} {rest : List Expr}
def tAnd (t u : TT) : TT := fun σ H Q => t σ H fun c H1 => if c = true then u σ H1 Q else Q false H1
def tOr (t u : TT) : TT := fun σ H Q => t σ H fun c H1 => if c = true then Q true H1 else u σ H1 Q
def tNot (t : TT) : TT := fun σ H Q => t σ H fun c H1 => Q (!c) H1
theorem pw_and1 (ha : PT X a tA) : PW X (.BoolOp .And [a] pos) tA := by
  intro wh pins s σ H Q I h
  refine isTrue_and (thn (ha pins s σ H Q I h) fun c s1 e => ?_)
  cases c with
  | true => exact isTrue_and_nil e
  | false => exact e
theorem pw_or1 (ha : PT X a tA) : PW X (.BoolOp .Or [a] pos) tA := by
  intro wh pins s σ H Q I h
  refine isTrue_or (thn (ha pins s σ H Q I h) fun c s1 e => ?_)
  cases c with
  | false => exact isTrue_or_nil e
  | true => exact e
theorem pw_and (ha : PT X a tA) (hb : PW X (.BoolOp .And (b :: rest) pos) tB') : PW X (.BoolOp .And (a :: b :: rest) pos) (tAnd tA tB') := by
  intro wh pins s σ H Q I h
  refine isTrue_and (thn (ha pins s σ H _ I h) fun c s1 ⟨H1, I1, q1⟩ => ?_)
  cases c with
  | true => exact hb wh pins s1 σ H1 Q I1 q1
  | false => exact ⟨H1, I1, q1⟩
theorem pw_or (ha : PT X a tA) (hb : PW X (.BoolOp .Or (b :: rest) pos) tB') : PW X (.BoolOp .Or (a :: b :: rest) pos) (tOr tA tB') := by
  intro wh pins s σ H Q I h
  refine isTrue_or (thn (ha pins s σ H _ I h) fun c s1 ⟨H1, I1, q1⟩ => ?_)
  cases c with
  | true => exact ⟨H1, I1, q1⟩
  | false => exact hb wh pins s1 σ H1 Q I1 q1
theorem pt_not (ha : PT X a tA) : PT X (.UnaryOp .Not a pos) (tNot tA) := by
  intro pins s σ H Q I h
  exact isTrue_not (ha pins s σ H (fun c H1 => Q (!c) H1) I h)
def tIf (t : TT) (ta tb : TE) : TE := fun σ H Q => t σ H fun c H1 => if c = true then ta σ H1 Q else tb σ H1 Q
theorem pe_ifExp {c : Expr} (hc : PT X c tA) (ha : PE X a ta) (hb : PE X b tb) : PE X (.IfExp c a b pos) (tIf tA ta tb) := by
  intro pins s σ H Q I h
  refine wpAny_IfExp (thn (hc pins s σ H _ I h) fun d s1 ⟨H1, I1, q1⟩ => ?_)
  cases d with
  | true => exact ha pins s1 σ H1 Q I1 q1
  | false => exact hb pins s1 σ H1 Q I1 q1
end
end L2
namespace L2
open PySem PySem.Spec PyProof.Rows
def SqL (K : PySem.W.Frag) (H : Hp) (a : Addr) (xs : List V) : Prop :=
  Rd H a (.lst xs) ∨
    ∃ (o : Obj) (its : Array Value) (n : Nat), K.lookup a = some o ∧ o.cls = .type "list" ∧ o.dict = none ∧ o.data = .seq its n ∧ its.size ≤ sizeLine ∧ Vals xs its.toList
def SqT (K : PySem.W.Frag) (H : Hp) (a : Addr) (xs : List V) : Prop :=
  Rd H a (.tup xs) ∨
    ∃ (o : Obj) (its : Array Value) (n : Nat), K.lookup a = some o ∧ o.cls = .type "tuple" ∧ o.data = .seq its n ∧ its.size ≤ sizeLine ∧ Vals xs its.toList
def absV : Value → Option V
  | .none => some .non
  | .bool b => some (.bl b)
  | .int i _ => some (.int i)
  | .str x _ => some (.str x)
  | .bytes b _ => some (.byt b)
  | .float b _ => some (.flt b)
  | .ref a => some (.ref a)
  | .type n => some (.ty n)
  | _ => none
theorem RelV.abs {x : V} {u : Value} (r : RelV x u) : absV u = some x := by
  cases x with
  | non => cases r; rfl
  | bl _ => cases r; rfl
  | int _ => obtain ⟨t, rfl⟩ := r; rfl
  | str _ => obtain ⟨t, rfl⟩ := r; rfl
  | byt _ => obtain ⟨t, rfl⟩ := r; rfl
  | flt _ => obtain ⟨t, rfl⟩ := r; rfl
  | ref _ => cases r; rfl
  | ty _ => cases r; rfl
theorem RelV.inj {x y : V} {u : Value} (r : RelV x u) (q : RelV y u) : x = y := Option.some.inj (r.abs.symm.trans q.abs)
theorem Vals.inj : ∀ {xs ys : List V} {us : List Value}, Vals xs us → Vals ys us → xs = ys
  | _, _, _, .nil, .nil => rfl
  | _, _, _, .cons r t, .cons r' t' => by rw [r.inj r', Vals.inj t t']
section
variable {X : Cx} {pins : List (Addr × Obj)} {σ : St} {H : Hp} {s : Shared} {a : Addr} {xs ys : List V}
theorem SqL.of {K : PySem.W.Frag} (h : H a = some (.lst xs)) : SqL K H a xs := .inl (.inl h)
theorem SqT.of {K : PySem.W.Frag} (h : H a = some (.tup xs)) : SqT K H a xs := .inl (.inl h)
theorem Inv.list (I : Inv X pins σ H s) (h : SqL X.K H a xs) : ∃ its : List Value, Vals xs its ∧ PlainL s.heap a its.toArray ∧ xs.length ≤ sizeLine := by
  rcases h with h | ⟨o, its, n, hk, hc, hd, hs, hz, r⟩
  · obtain ⟨z, its, n, r, e⟩ := h.ok I.hok
    exact ⟨its, r, ⟨_, n, e, rfl, rfl, rfl⟩, z⟩
  · refine ⟨its.toList, r, ⟨o, n, I.kIn a o hk, hc, hd, by simpa using hs⟩, ?_⟩
    have e := r.length
    simp only [Array.length_toList] at e
    omega
theorem Inv.tuple (I : Inv X pins σ H s) (h : SqT X.K H a xs) : ∃ its : List Value, Vals xs its ∧ IsTup s.heap a its.toArray ∧ xs.length ≤ sizeLine := by
  rcases h with h | ⟨o, its, n, hk, hc, hs, hz, r⟩
  · obtain ⟨z, its, r, p⟩ := h.ok I.hok
    exact ⟨its, r, p, z⟩
  · refine ⟨its.toList, r, ⟨o, I.kIn a o hk, hc, n, by simpa using hs⟩, ?_⟩
    have e := r.length
    simp only [Array.length_toList] at e
    omega
theorem Inv.list_inj (I : Inv X pins σ H s) (h : SqL X.K H a xs) (h' : SqL X.K H a ys) : xs = ys := by
  obtain ⟨its, r, ⟨o, n, e, _, _, d⟩, _⟩ := I.list h
  obtain ⟨its', r', ⟨o', n', e', _, _, d'⟩, _⟩ := I.list h'
  rw [e] at e'; cases e'
  rw [d] at d'
  injection d' with d1 _
  have : its = its' := by simpa using congrArg Array.toList d1
  subst this
  exact r.inj r'
end
abbrev Cx.wish (X : Cx) (E : Value → Shared → Prop) : Cx := { X with xe := E }
abbrev Cx.nox (X : Cx) : Cx := X.wish fun _ _ => False
theorem Cx.Ok.wish {X : Cx} (ok : X.Ok) (E : Value → Shared → Prop) : (X.wish E).Ok :=
  ⟨ok.mod, ok.kind, ok.glob, ok.blt, ok.above, ok.inj, ok.has, ok.cab, ok.hd, ok.frames, ok.stk, ok.exf, ok.bs, ok.bsz, ok.noex, ok.exfs, ok.funs, ok.frf⟩
theorem Cx.Ok.unwish {X : Cx} {E : Value → Shared → Prop} (ok : (X.wish E).Ok) : X.Ok :=
  ⟨ok.mod, ok.kind, ok.glob, ok.blt, ok.above, ok.inj, ok.has, ok.cab, ok.hd, ok.frames, ok.stk, ok.exf, ok.bs, ok.bsz, ok.noex, ok.exfs, ok.funs, ok.frf⟩
section
variable {X : Cx} {pins : List (Addr × Obj)} {σ : St} {H : Hp} {s : Shared} {E : Value → Shared → Prop}
theorem Inv.wish (I : Inv X pins σ H s) (E : Value → Shared → Prop) : Inv (X.wish E) pins σ H s := ⟨I.ok.wish E, I.os, I.bare, I.base, I.loc, I.cell, I.free, I.freeC, I.pin, I.hok, I.len⟩
theorem Inv.unwish (I : Inv (X.wish E) pins σ H s) : Inv X pins σ H s := ⟨I.ok.unwish, I.os, I.bare, I.base, I.loc, I.cell, I.free, I.freeC, I.pin, I.hok, I.len⟩
theorem SP.unwish {D : Ends} {f : Flow} {s' : Shared} (h : SP (X.wish E) pins D f s') : SP X pins D f s' := by
  cases f with
  | next => obtain ⟨σ', H', I, q⟩ := h; exact ⟨σ', H', I.unwish, q⟩
  | brk => obtain ⟨σ', H', I, q⟩ := h; exact ⟨σ', H', I.unwish, q⟩
  | cont => obtain ⟨σ', H', I, q⟩ := h; exact ⟨σ', H', I.unwish, q⟩
  | ret u => obtain ⟨v, σ', H', I, r, q⟩ := h; exact ⟨v, σ', H', I.unwish, r, q⟩
theorem PSs.nox {st : List Stmt} {t : TS} (h : PSs X.nox st t) : PSs X st t := fun pins s σ H D I hw =>
  wpAny_mono (h pins s σ H D (I.wish _) hw) (fun _ _ q => q.unwish) fun _ _ z => False.elim z
end
section
variable {X : Cx} {st : Stmt} {rest : List Stmt} {t u : TS} {e : Expr} {te : TE} {pos : Pos}
def tNext : TS := fun D σ H => D.nx σ H
def tSeq (t u : TS) : TS := fun D σ H => t { D with nx := u D } σ H
theorem pss_nil : PSs X [] tNext := fun _ _ σ H _ I h => wpAny_execs_nil ⟨σ, H, I, h⟩
theorem pss_cons (h1 : PS X st t) (h2 : PSs X rest u) : PSs X (st :: rest) (tSeq t u) := by
  intro pins s σ H D I h
  refine wpAny_execs_cons (thn (h1 pins s σ H { D with nx := u D } I h) fun f s1 q => ?_)
  cases f with
  | next =>
    obtain ⟨σ', H', I', q⟩ := q
    exact h2 pins s1 σ' H' D I' q
  | ret v => exact q
  | brk => exact q
  | cont => exact q
theorem pss_one (h1 : PS X st t) : PSs X [st] t := by
  intro pins s σ H D I h
  refine wpAny_execs_cons (thn (h1 pins s σ H D I h) fun f s1 q => ?_)
  cases f with
  | next => exact wpAny_execs_nil q
  | ret v => exact q
  | brk => exact q
  | cont => exact q
theorem Inv.quiet {pins : List (Addr × Obj)} {σ : St} {H : Hp} {s : Shared} (I : Inv X pins σ H s) : interactive X.env = false := by simp [interactive, I.ok.kind]
def tDrop (te : TE) : TS := fun D σ H => te σ H fun _ H1 => D.nx σ H1
theorem ps_expr (he : PE X e te) (hs : swapsWith e none pos.line X.env = pure false := by rfl) : PS X (.Expr e pos) (tDrop te) := by
  intro pins s σ H D I h
  exact wpAny_Expr_any (thn (he pins s σ H _ I h) fun v s1 ⟨x, H1, I1, r1, q1⟩ => ⟨σ, H1, I1, q1⟩) I.quiet hs
def tRet (te : TE) : TS := fun D σ H => te σ H D.rt
theorem ps_ret (he : PE X e te) : PS X (.Return (some e) pos) (tRet te) := by
  intro pins s σ H D I h
  exact wpAny_Return_some (thn (he pins s σ H _ I h) fun v s1 ⟨x, H1, I1, r1, q1⟩ => ⟨x, σ, H1, I1, r1, q1⟩)
def tRetN : TS := fun D _ H => D.rt .non H
theorem ps_retN : PS X (.Return none pos) tRetN := fun _ _ σ H _ I h => wpAny_Return_none ⟨.non, σ, H, I, rfl, h⟩
def tIfS (c : TT) (t u : TS) : TS := fun D σ H => c σ H fun b H1 => if b = true then t D σ H1 else u D σ H1
theorem ps_if {c : Expr} {a b : List Stmt} {tc : TT} (hc : PT X c tc) (ha : PSs X a t) (hb : PSs X b u) : PS X (.If c a b pos) (tIfS tc t u) := by
  intro pins s σ H D I h
  refine wpAny_If (thn (hc pins s σ H _ I h) fun d s1 ⟨H1, I1, q1⟩ => ?_)
  cases d with
  | true => exact ha pins s1 σ H1 D I1 q1
  | false => exact hb pins s1 σ H1 D I1 q1
end
abbrev TG := V → St → Hp → (St → Hp → Prop) → Prop
def PG (X : Cx) (target : Expr) (t : TG) : Prop :=
  ∀ (pins : List (Addr × Obj)) (s : Shared) (σ : St) (H : Hp) (v : V) (u : Value) (Q : St → Hp → Prop), Inv X pins σ H s → RelV v u → t v σ H Q →
    wpAny (model X.prog X.w) X.A (assign target X.env u) (fun _ s' => ∃ σ' H', Inv X pins σ' H' s' ∧ Q σ' H') X.xe s
abbrev TSet := V → V → V → Hp → (Hp → Prop) → Prop
def PSet (X : Cx) (t : TSet) : Prop :=
  ∀ (pins : List (Addr × Obj)) (s : Shared) (σ : St) (H : Hp) (o i v : V) (ov iv u : Value) (Q : Hp → Prop), Inv X pins σ H s → RelV o ov → RelV i iv → RelV v u → t o i v H Q →
    wpAny (model X.prog X.w) X.A (setItem ov iv u) (fun _ s' => ∃ H', Inv X pins σ H' s' ∧ Q H') X.xe s
abbrev TIp := V → V → Hp → VK → Prop
def PIp (X : Cx) (op : Operator) (t : TIp) : Prop :=
  ∀ (pins : List (Addr × Obj)) (s : Shared) (σ : St) (H : Hp) (x y : V) (v u : Value) (Q : VK), Inv X pins σ H s → RelV x v → RelV y u → t x y H Q →
    wpAny (model X.prog X.w) X.A (inplaceOp op v u) (EP X pins σ Q) X.xe s
section
variable {X : Cx} {pos : Pos}
def gName (i : Nat) : TG := fun v σ H Q => Q (σ.set i (some v)) H
theorem pg_name {i : Nat} {x : Str} (hN : X.N.Nodup) (hi : X.N[i]? = some x) (hx : Loc X.env.scope x) (hf : X.fn x = true ∨ X.env.scope.names.lookup x = some .local := by first | exact .inl rfl | exact .inr rfl | assumption) : PG X (.Name x pos) (gName i) := by
  intro pins s σ H v u Q I r h
  exact wpAny_assign_Name (store_ok I hN hi hx r (fun s' I' => ⟨_, H, I', h⟩) hf)
def gSub (to ti : TE) (t : TSet) : TG := fun v σ H Q => to σ H fun o H1 => ti σ H1 fun i H2 => t o i v H2 fun H3 => Q σ H3
theorem pg_sub {o i : Expr} {to ti : TE} {t : TSet} (ho : PE X o to) (hi : PE X i ti) (hs : PSet X t)
    (ha : ∀ v, assign (.Subscript o i pos) X.env v = (do
      let ov ← holding [v] (eval o X.env)
      let iv ← holding [v, ov] (eval i X.env)
      standAt pos
      holding [v, ov, iv] (setItem ov iv v)
      release [v, ov, iv] []) := by intro _; rfl) : PG X (.Subscript o i pos) (gSub to ti t) := by
  intro pins s σ H v u Q I r h
  rw [ha]
  refine wpAny_bind (wpAny_holding (thn (ho pins s σ H _ I h) fun ov s1 ⟨x, H1, I1, r1, q1⟩ => ?_))
  refine wpAny_bind (wpAny_holding (thn (hi pins s1 σ H1 _ I1 q1) fun iv s2 ⟨y, H2, I2, r2, q2⟩ => ?_))
  refine wpAny_bind (wpAny_standAt (wpAny_bind (wpAny_holding (thn (hs pins s2 σ H2 x y v ov iv u _ I2 r1 r2 r q2) fun _ s3 ⟨H3, I3, q3⟩ => ?_))))
  exact wpAny_release ⟨σ, H3, I3, q3⟩
def tAsg (te : TE) (g : TG) : TS := fun D σ H => te σ H fun x H1 => g x σ H1 D.nx
theorem ps_asg {tg e : Expr} {te : TE} {g : TG} (he : PE X e te) (hg : PG X tg g) (hs : swapsWithSole [tg] e pos.line X.env = pure false := by rfl) (hw : swappedStores [tg] e X.env = pure none := by rfl)
    (h1 : (assignEach [tg] X.env).map (·.2) = [assign tg X.env] := by rfl) : PS X (.Assign [tg] e pos) (tAsg te g) := by
  intro pins s σ H D I h
  refine wpAny_Assign_stores (thn (he pins s σ H _ I h) fun v s1 ⟨x, H1, I1, r1, q1⟩ => ?_) hs hw
  rw [h1]
  exact thn (hg pins s1 σ H1 x v _ I1 r1 q1) fun _ s2 q => q
theorem ps_set {i : Nat} {x : Str} {e : Expr} {te : TE} {pos' : Pos} (hN : X.N.Nodup) (hi : X.N[i]? = some x) (hx : Loc X.env.scope x) (he : PE X e te) (hs : swapsWith e (some (.Name x pos')) pos.line X.env = pure false := by rfl) (hf : X.fn x = true ∨ X.env.scope.names.lookup x = some .local := by first | exact .inl rfl | exact .inr rfl | assumption) :
    PS X (.Assign [.Name x pos'] e pos) (tAsg te (gName i)) := by
  intro pins s σ H D I h
  refine wpAny_Assign_Name (thn (he pins s σ H _ I h) fun v s1 ⟨y, H1, I1, r1, q1⟩ => ?_) hs
  exact store_ok I1 hN hi hx r1 (fun s2 I2 => ⟨_, H1, I2, q1⟩) hf
def tAug (i : Nat) (te : TE) (ti : TIp) : TS := fun D σ H => ∃ x, σ[i]? = some (some x) ∧ te σ H fun y H1 => ti x y H1 fun z H2 => D.nx (σ.set i (some z)) H2
theorem ps_aug {i : Nat} {x : Str} {e : Expr} {te : TE} {op : Operator} {ti : TIp} {pos' : Pos} (hN : X.N.Nodup) (hi : X.N[i]? = some x) (hx : Loc X.env.scope x) (he : PE X e te) (ho : PIp X op ti) (hf : X.fn x = true ∨ X.env.scope.names.lookup x = some .local := by first | exact .inl rfl | exact .inr rfl | assumption) :
    PS X (.AugAssign (.Name x pos') op e pos) (tAug i te ti) := by
  intro pins s σ H D I h
  obtain ⟨v, e1, h⟩ := h
  obtain ⟨m, hn, hl⟩ := I.loc
  have vis : Vis X.env.scope x := by rcases hx with k | k; exact .inl k; exact .inr (.inl k)
  obtain ⟨u, r, l⟩ := hl i x v hi e1 vis
  refine wpAny_AugAssign_Name ?_
  have go : wpAny (model X.prog X.w) X.A (eval e X.env) (fun w s₂ => wpAny (model X.prog X.w) X.A (inplaceOp op u w) (fun r s₃ => wpAny (model X.prog X.w) X.A (storeName X.env x r) (fun _ => SP X pins D .next) X.xe s₃) X.xe s₂) X.xe s := by
    refine thn (he pins s σ H _ I h) fun w s1 ⟨y, H1, I1, r1, q1⟩ => ?_
    refine thn (ho pins s1 σ H1 v y u w _ I1 r r1 q1) fun z s2 ⟨zv, H2, I2, r2, q2⟩ => ?_
    exact store_ok I2 hN hi hx r2 (fun s3 I3 => ⟨_, H2, I3, q2⟩) hf
  rcases l with ⟨hk, hm⟩ | ⟨hk, c, hc, hcell⟩
  · exact wpAny_loadName_local I.ok.kind hk hn hm go
  · rcases hk with hk | hk
    · exact wpAny_loadName_cell I.ok.kind hk hc hcell go
    · rcases hx with k | k
      · have : X.env.scope.names.lookup x = some .free := hk
        rw [k] at this; cases this
      · have : X.env.scope.names.lookup x = some .free := hk
        rw [k] at this; cases this
def tAugS (to ti te : TE) (tget : V → V → Hp → VK → Prop) (tip : TIp) (tset : TSet) : TS := fun D σ H => to σ H fun o H1 => ti σ H1 fun i H2 => tget o i H2 fun x H3 => te σ H3 fun y H4 => tip x y H4 fun z H5 => tset o i z H5 fun H6 => D.nx σ H6
def PGet (X : Cx) (t : V → V → Hp → VK → Prop) : Prop :=
  ∀ (pins : List (Addr × Obj)) (s : Shared) (σ : St) (H : Hp) (o i : V) (ov iv : Value) (Q : VK), Inv X pins σ H s → RelV o ov → RelV i iv → t o i H Q →
    wpAny (model X.prog X.w) X.A (getItem ov iv) (EP X pins σ Q) X.xe s
theorem ps_augS {o i e : Expr} {to ti te : TE} {tget : V → V → Hp → VK → Prop} {tip : TIp} {tset : TSet} {op : Operator} {tpos : Pos} (ho : PE X o to) (hi : PE X i ti) (hg : PGet X tget) (he : PE X e te) (hp : PIp X op tip) (hs : PSet X tset)
    (ha : ∀ ov iv new, augStore i ov iv new = (do holding [new, ov, iv] (setItem ov iv new); release [new, ov, iv] []; pure .next) := by intros; rfl) : PS X (.AugAssign (.Subscript o i tpos) op e pos) (tAugS to ti te tget tip tset) := by
  intro pins s σ H D I h
  refine wpAny_AugAssign_SubscriptAny (thn (ho pins s σ H _ I h) fun ov s1 ⟨x1, H1, I1, r1, q1⟩ => ?_) ha
  refine thn (hi pins s1 σ H1 _ I1 q1) fun iv s2 ⟨x2, H2, I2, r2, q2⟩ => ?_
  refine thn (hg pins s2 σ H2 x1 x2 ov iv _ I2 r1 r2 q2) fun old s3 ⟨x3, H3, I3, r3, q3⟩ => ?_
  refine thn (he pins s3 σ H3 _ I3 q3) fun v s4 ⟨x4, H4, I4, r4, q4⟩ => ?_
  refine thn (hp pins s4 σ H4 x3 x4 old v _ I4 r3 r4 q4) fun new s5 ⟨x5, H5, I5, r5, q5⟩ => ?_
  exact thn (hs pins s5 σ H5 x1 x2 x5 ov iv new _ I5 r1 r2 r5 q5) fun _ s6 ⟨H6, I6, q6⟩ => ⟨σ, H6, I6, q6⟩
def ipI (f : Int → Int → Int) : TIp := fun x y H Q => ∃ i j, x = .int i ∧ y = .int j ∧ Q (.int (f i j)) H
theorem ip_add : PIp X .Add (ipI fun i j => i + j) := by
  intro pins s σ H x y v u Q I r1 r2 h
  obtain ⟨i, j, e1, e2, q⟩ := h
  subst e1; subst e2
  obtain ⟨t, rfl⟩ := r1
  obtain ⟨t', rfl⟩ := r2
  exact iadd_int ⟨.int _, H, I.tok _, ⟨_, rfl⟩, q⟩
theorem ip_sub : PIp X .Sub (ipI fun i j => i - j) := by
  intro pins s σ H x y v u Q I r1 r2 h
  obtain ⟨i, j, e1, e2, q⟩ := h
  subst e1; subst e2
  obtain ⟨t, rfl⟩ := r1
  obtain ⟨t', rfl⟩ := r2
  exact isub_int ⟨.int _, H, I.tok _, ⟨_, rfl⟩, q⟩
end
section
variable {X : Cx} {pos : Pos}
def tWhile (c : TT) (tb : TS) : TS := fun D σ H => ∃ W : Nat → St → Hp → Prop, (∃ m, W m σ H) ∧ ∀ m σ H, W m σ H →
  c σ H fun b H1 => if b = true then ∃ N : St → Hp → Prop, (∀ σ' H', N σ' H' → ∃ m', m' < m ∧ W m' σ' H') ∧ tb { D with nx := N, ct := N, bk := D.nx } σ H1 else D.nx σ H1
theorem ps_while {c : Expr} {body : List Stmt} {tc : TT} {tb : TS} (hp : PassesOwn (model X.prog X.w) X.A X.env X.xe) (hc : PT X c tc) (hb : PSs X body tb) : PS X (.While c body [] pos) (tWhile tc tb) := by
  intro pins s σ H D I h
  obtain ⟨W, ⟨m0, w0⟩, turn⟩ := h
  refine wpAny_While (codeAny_whileLoop (fun n s' => ∃ σ' H', Inv X pins σ' H' s' ∧ W n σ' H') ?_ m0 ⟨σ, H, I, w0⟩)
  rintro n s1 ⟨σ1, H1, I1, w1⟩
  refine wpAny_passesOwn hp (thn (hc pins s1 σ1 H1 _ I1 (turn n σ1 H1 w1)) fun b s2 ⟨H2, I2, q2⟩ => ?_)
  cases b with
  | true =>
    obtain ⟨N, hN, q2⟩ := q2
    rw [if_pos rfl]
    refine wpAny_passesOwn hp (thn (hb pins s2 σ1 H2 _ I2 q2) fun f s3 q3 => ?_)
    cases f with
    | next =>
      obtain ⟨σ3, H3, I3, n3⟩ := q3
      obtain ⟨m', hm, w3⟩ := hN σ3 H3 n3
      exact ⟨m', hm, σ3, H3, I3, w3⟩
    | cont =>
      obtain ⟨σ3, H3, I3, n3⟩ := q3
      obtain ⟨m', hm, w3⟩ := hN σ3 H3 n3
      exact ⟨m', hm, σ3, H3, I3, w3⟩
    | brk => exact q3
    | ret v => exact q3
  | false =>
    rw [if_neg Bool.false_ne_true]
    exact wpAny_execs_nil ⟨σ1, H2, I2, q2⟩
end
structure It where
  go : Nat → Hp → Prop
  yld : Nat → Hp → V → Hp → Prop
  stop : Nat → Hp → Prop
def FpOk (X : Cx) (pins : List (Addr × Obj)) (H : Hp) (b : Addr) : Prop :=
  H b = none ∧ b ≠ X.env.locals ∧ b ∉ X.fs ∧ (b ∈ X.ex ∨ X.s_0.heap.objs.size ≤ b) ∧ (∀ x c, X.env.cells.lookup x = some c → c ≠ b) ∧ ∀ p ∈ X.pn ++ pins, p.1 ≠ b
theorem Inv.fpOk {X : Cx} {pins : List (Addr × Obj)} {σ : St} {H H' : Hp} {s : Shared} {b : Addr} (I : Inv X pins σ H s) (hb : s.heap.objs.size ≤ b) (hn : H' b = none) : FpOk X pins H' b := by
  refine ⟨hn, Nat.ne_of_gt (Nat.lt_of_lt_of_le I.lt hb), I.nofs hb, .inr (Nat.le_trans I.sz hb), fun x c e z => ?_, fun p hp z => ?_⟩
  · obtain ⟨v, q⟩ := I.cell x c e
    exact absurd (Nat.lt_of_lt_of_le q.lt (by rw [z]; exact hb)) (Nat.lt_irrefl _)
  · exact absurd (Nat.lt_of_lt_of_le (Heap.lt_size (I.pin p hp).1) (by rw [z]; exact hb)) (Nat.lt_irrefl _)
structure Turn (P : Program) (w : World) (K : PySem.W.Frag) (tg : Expr) (J : It) (fp : List Addr) (it : Addr) (tn : Nat → Heap → Prop) : Prop where
  mem : it ∈ fp
  obj : ∀ i h, tn i h → ∀ b ∈ fp, ∃ o, h.get? b = some o ∧ ∀ v, o.data ≠ .cell v
  keep : ∀ i h h', tn i h → (∀ b ∈ fp, ∀ o, h.get? b = some o → h'.get? b = some o) → tn i h'
  item : ∀ (X : Cx), X.prog = P → X.w = w → X.K = K → X.calm = true → ∀ (i : Nat) (pins : List (Addr × Obj)) (s : Shared) (σ : St) (H : Hp) (E : Value → Shared → Prop), Inv X pins σ H s → (∀ b ∈ fp, FpOk X pins H b) → tn i s.heap → J.go i H →
    wpAny (model P w) X.A (pyNext (.ref it)) (fun r s1 => ∃ u, r = some u ∧
      wpAny (model P w) X.A (letOwnedTupleGo tg (.ref it) u) (fun _ s2 => ∃ x H', Inv X pins σ H' s2 ∧ RelV x u ∧ J.yld i H x H' ∧ tn (i + 1) s2.heap ∧ ∀ b ∈ fp, H' b = none) E s1) E s
  done : ∀ (X : Cx), X.prog = P → X.w = w → X.K = K → X.calm = true → ∀ (i : Nat) (pins : List (Addr × Obj)) (s : Shared) (σ : St) (H : Hp) (E : Value → Shared → Prop), Inv X pins σ H s → (∀ b ∈ fp, FpOk X pins H b) → tn i s.heap → J.stop i H →
    wpAny (model P w) X.A (pyNext (.ref it)) (fun r s1 => r = none ∧ Inv X pins σ H s1) E s
  self : ∀ (A : Around) (i : Nat) (s : Shared) (Q : Value → Shared → Prop) (E : Value → Shared → Prop), tn i s.heap → Q (.ref it) s → wpAny (model P w) A (pyIter (.ref it)) Q E s
abbrev TI := St → Hp → (It → Hp → Prop) → Prop
def PIE (X : Cx) (pins : List (Addr × Obj)) (σ : St) (tg : Expr) (R : It → Hp → Prop) (itv : Value) (s2 : Shared) : Prop :=
  ∃ (it : Addr) (fp : List Addr) (tn : Nat → Heap → Prop) (J : It) (H' : Hp), itv = .ref it ∧ Inv X pins σ H' s2 ∧ Turn X.prog X.w X.K tg J fp it tn ∧ tn 0 s2.heap ∧ (∀ b ∈ fp, FpOk X pins H' b) ∧ R J H'
def PI (X : Cx) (tg iter : Expr) (wi : TI) : Prop :=
  ∀ (pins : List (Addr × Obj)) (s : Shared) (σ : St) (H : Hp) (R : It → Hp → Prop), Inv X pins σ H s → wi σ H R →
    wpAny (model X.prog X.w) X.A (eval iter X.env) (fun v s1 => wpAny (model X.prog X.w) X.A (pyIter v) (PIE X pins σ tg R) X.xe s1) X.xe s
theorem go_of {M : Model} {A : Around} {E : Value → Shared → Prop} {s : Shared} {tg : Expr} {it : Addr} {u : Value} {o : Obj} {n : String} {vs : Array Value} {Q : Unit → Shared → Prop} (ho : s.heap.get? it = some o) (hc : o.cls = .type n) (hd : o.data = .fields vs)
    (hn : ["enumerate", "zip", "dict_itemiterator", "dict_reverseitemiterator", "odict_iterator", "itertools.zip_longest", "itertools.pairwise"].contains n = false) (hQ : Q () s) : wpAny M A (letOwnedTupleGo tg (.ref it) u) Q E s := by
  unfold letOwnedTupleGo
  cases tg <;> first
    | exact wpAny_pure hQ
    | (cases u <;> first
        | exact wpAny_pure hQ
        | (refine wpAny_bind (wpAny_load ho ?_)
           rw [hc, hd]
           show wpAny M A (if (["enumerate", "zip", "dict_itemiterator", "dict_reverseitemiterator", "odict_iterator", "itertools.zip_longest", "itertools.pairwise"].contains n && vs[0]? == some (rawInt _)) = true then _ else _) Q E s
           rw [if_neg (by intro h; rw [hn, Bool.false_and] at h; cases h)]
           exact wpAny_pure hQ))
def Itl (K : PySem.W.Frag) (a : Addr) : It :=
  ⟨fun i H => ∃ xs x, SqL K H a xs ∧ xs[i]? = some x, fun i H x H' => H' = H ∧ ∀ xs, SqL K H a xs → xs[i]? = some x, fun i H => ∃ xs, SqL K H a xs ∧ xs.length ≤ i⟩
def Itr (lo : Int) (n : Nat) : It := ⟨fun i _ => i < n, fun i H x H' => H' = H ∧ x = .int (lo + i), fun i _ => n ≤ i⟩
theorem turn_list {P : Program} {w : World} {K : PySem.W.Frag} {tg : Expr} (a it : Addr) : Turn P w K tg (Itl K a) [it] it (fun i h => h.IsListIter it a i) where
  mem := by simp
  obj := fun i h st b hb => by
    have e : b = it := by simpa using hb
    subst e
    obtain ⟨o, e, c, d⟩ := st
    exact ⟨o, e, fun v z => by rw [d] at z; cases z⟩
  keep := fun i h h' st k => st.at fun o e => k it (by simp) o e
  item := by
    intro X hP hw hK hc i pins s σ H E I hf st hg
    subst hP hw hK
    obtain ⟨xs, x, hq, hx⟩ := hg
    obtain ⟨its, rv, p, hz⟩ := I.list hq
    obtain ⟨u, hu, ru⟩ := rv.get hx
    obtain ⟨f0, f1, f2, f3, f4, f5⟩ := hf it (by simp)
    refine wpAny_pyNext_list_item st p.isList (x := u) (by simpa using hu) fun h' st' sb => ?_
    have I1 : Inv X pins σ H { s with heap := h' } := I.turned (t' := s.toks) (fun b o hb e => (sb.2 b hb).trans e) f0 f1 f3 f4 f5
    obtain ⟨o, e, c, d⟩ := id st'
    exact ⟨u, rfl, go_of (s := { s with heap := h' }) e c d (by decide) ⟨x, H, I1, ru, ⟨rfl, fun ys hy => by rw [I.list_inj hy hq]; exact hx⟩, st', fun b hb => (hf b hb).1⟩⟩
  done := by
    intro X hP hw hK hc i pins s σ H E I hf st hg
    subst hP hw hK
    obtain ⟨xs, hq, hx⟩ := hg
    obtain ⟨its, rv, p, hz⟩ := I.list hq
    obtain ⟨f0, f1, f2, f3, f4, f5⟩ := hf it (by simp)
    have hl := rv.length
    exact wpAny_pyNext_list_end (I.ok.hd hc) st p.isList (by simp; omega) fun h' eb => ⟨rfl, I.turned (t' := s.toks) (fun b o hb e => eb b o hb e) f0 f1 f3 f4 f5⟩
  self := fun _ _ _ _ _ st h => wpAny_pyIter_listiter st h
theorem turn_range {P : Program} {w : World} {K : PySem.W.Frag} {tg : Expr} (it : Addr) (lo : Int) (n : Nat) : Turn P w K tg (Itr lo n) [it] it (fun i h => IsRangeIter h it (lo + (i : Nat) * 1) ((n : Int) - (i : Nat)) 1) where
  mem := by simp
  obj := fun i h st b hb => by
    have e : b = it := by simpa using hb
    subst e
    exact ⟨_, st, fun v z => by
      have z' : Data.fields _ = Data.cell v := z
      cases z'⟩
  keep := fun i h h' st k => k it (by simp) _ st
  item := by
    intro X hP hw hK hc i pins s σ H E I hf st hg
    subst hP hw hK
    obtain ⟨f0, f1, f2, f3, f4, f5⟩ := hf it (by simp)
    have W := Walks.range (prog := X.prog) (w := X.w) (I.ok.hd hc) it lo 1 n
    refine W.item i s _ _ hg st fun v h' tk hv st' kk => ?_
    obtain ⟨t, rfl⟩ := hv
    have I1 : Inv X pins σ H { s with heap := h', toks := tk } := I.turned (fun b o hb e => kk b o (by simpa using hb) e) f0 f1 f3 f4 f5
    refine ⟨_, rfl, go_of (s := { s with heap := h', toks := tk }) (n := "range_iterator") st' rfl rfl (by decide) ⟨.int (lo + i), H, I1, ⟨t, ?_⟩, ⟨rfl, rfl⟩, st', fun b hb => (hf b hb).1⟩⟩
    rw [Int.mul_one]
  done := by
    intro X hP hw hK hc i pins s σ H E I hf st hg
    subst hP hw hK
    obtain ⟨f0, f1, f2, f3, f4, f5⟩ := hf it (by simp)
    exact wpAny_pyNext_range_end (I.ok.hd hc) st (by have : n ≤ i := hg; omega) fun h' eb => ⟨rfl, I.turned (t' := s.toks) (fun b o hb e => eb b o hb e) f0 f1 f3 f4 f5⟩
  self := fun _ _ _ _ _ st h => wpAny_pyIter_rangeiter st h
end L2
namespace L2
open PySem PySem.Spec PyProof.Rows
section
variable {X : Cx} {tg : Expr}
def iList (K : PySem.W.Frag) (tl : TE) : TI := fun σ H R => tl σ H fun x H1 => ∃ a, x = .ref a ∧ (∃ xs, SqL K H1 a xs) ∧ R (Itl K a) H1
theorem pi_list {l : Expr} {tl : TE} (hl : PE X l tl) : PI X tg l (iList X.K tl) := by
  intro pins s σ H R I h
  refine thn (hl pins s σ H _ I h) fun v s1 ⟨x, H1, I1, r1, q1⟩ => ?_
  obtain ⟨a, e, ⟨xs, hq⟩, q⟩ := q1
  subst e
  cases r1
  obtain ⟨its, rv, p, hz⟩ := I1.list hq
  refine wpAny_pyIter_list p.isList ?_
  refine ⟨s1.heap.objs.size, [s1.heap.objs.size], _, _, H1, rfl, I1.kept (t' := s1.toks) fun b o e => Heap.get?_push_of_some _ e, turn_list a _, ⟨_, Heap.get?_push_size _ rfl, rfl, rfl⟩, fun b hb => ?_, q⟩
  have e : b = s1.heap.objs.size := by simpa using hb
  subst e
  exact I1.fpOk (Nat.le_refl _) (I1.hok.fresh (Nat.le_refl _))
theorem range_it {pins : List (Addr × Obj)} {σ : St} {H : Hp} {s : Shared} {R : It → Hp → Prop} {E : Value → Shared → Prop} {lo hi : Int} {t u v : Tok} {tk : Nat} (I : Inv X pins σ H s) (h1 : -(2 ^ 62) ≤ lo) (h2 : lo < 2 ^ 62) (h3 : -(2 ^ 62) ≤ hi) (h4 : hi < 2 ^ 62)
    (q : R (Itr lo (hi - lo).toNat) H) : wpAny (model X.prog X.w) X.A (pyIter (.ref s.heap.objs.size)) (PIE X pins σ tg R) E { s with heap := s.heap.push { cls := .type "range", data := .fields #[.int lo t, .int hi u, .int 1 v] }, toks := tk } := by
  refine wpAny_pyIter_range (IsRange.new ..) (small_one h1 h2 h3 h4) ?_
  have I1 : Inv X pins σ H { s with heap := s.heap.push { cls := .type "range", data := .fields #[.int lo t, .int hi u, .int 1 v] }, toks := tk } := I.kept fun b o e => Heap.get?_push_of_some _ e
  refine ⟨(s.heap.push { cls := .type "range", data := .fields #[.int lo t, .int hi u, .int 1 v] }).objs.size, [(s.heap.push { cls := .type "range", data := .fields #[.int lo t, .int hi u, .int 1 v] }).objs.size], _, _, H, rfl,
    I1.kept (t' := tk) fun b o e => Heap.get?_push_of_some _ e, turn_range _ lo (hi - lo).toNat, ?_, fun b hb => ?_, q⟩
  · have e1 : lo + ((0 : Nat) : Int) * 1 = lo := by simp
    have e2 : (((hi - lo).toNat : Nat) : Int) - ((0 : Nat) : Int) = Builtin.Range.rangeSize lo hi 1 := by rw [rangeSize_one]; split <;> omega
    show IsRangeIter _ _ (lo + ((0 : Nat) : Int) * 1) ((((hi - lo).toNat : Nat) : Int) - ((0 : Nat) : Int)) 1
    rw [e1, e2]
    exact Heap.get?_push_size _ rfl
  · have e : b = (s.heap.push { cls := .type "range", data := .fields #[.int lo t, .int hi u, .int 1 v] }).objs.size := by simpa using hb
    subst e
    exact I1.fpOk (Nat.le_refl _) (I1.hok.fresh (Nat.le_refl _))
def iRng1 (ta : TA) : TI := fun σ H R => ta σ H fun vs H1 => ∃ j : Int, vs = [.int j] ∧ -(2 ^ 62) ≤ j ∧ j < 2 ^ 62 ∧ R (Itr 0 j.toNat) H1
def iRng2 (ta : TA) : TI := fun σ H R => ta σ H fun vs H1 => ∃ i j : Int, vs = [.int i, .int j] ∧ (-(2 ^ 62) ≤ i ∧ i < 2 ^ 62 ∧ -(2 ^ 62) ≤ j ∧ j < 2 ^ 62) ∧ R (Itr i (j - i).toNat) H1
theorem pi_range1 {a : Expr} {ta : TA} {p pos : Pos} (hg : Gl X "range") (hm : X.mg "range" = none) (ha : PA X [a] ta) (hs : starEach [a] X.env = [(false, eval a X.env)] := by rfl) : PI X tg (.Call (.Name "range" p) [a] [] pos) (iRng1 ta) := by
  intro pins s σ H R I h
  refine Call_ (ld_blt I hg hm boot_range (PyProof.Rows.callWith_type1 (thn (ha pos pins s σ H _ I h) fun us s1 ⟨vs, H1, I1, r1, q1⟩ => ?_) hs rfl))
  obtain ⟨j, e, q1, q2, q⟩ := q1
  subst e
  cases r1 with
  | cons r rr =>
    cases rr
    obtain ⟨t, rfl⟩ := r
    exact call_range_1 (range_it I1 (by omega) (by omega) q1 q2 (by simpa using q))
theorem pi_range2 {a b : Expr} {ta : TA} {p pos : Pos} (hg : Gl X "range") (hm : X.mg "range" = none) (ha : PA X [a, b] ta) (hs : starEach [a, b] X.env = [(false, eval a X.env), (false, eval b X.env)] := by rfl) (hs2 : starEach [b] X.env = [(false, eval b X.env)] := by rfl) :
    PI X tg (.Call (.Name "range" p) [a, b] [] pos) (iRng2 ta) := by
  intro pins s σ H R I h
  refine Call_ (ld_blt I hg hm boot_range (PyProof.Rows.callWith_type1 (thn (ha pos pins s σ H _ I h) fun us s1 ⟨vs, H1, I1, r1, q1⟩ => ?_) (by rw [hs, hs2]) (by rw [hs2]; rfl)))
  obtain ⟨i, j, e, ⟨q1, q2, q3, q4⟩, q⟩ := q1
  subst e
  cases r1 with
  | cons r rr =>
    cases rr with
    | cons r' rr =>
      cases rr
      obtain ⟨t, rfl⟩ := r
      obtain ⟨t', rfl⟩ := r'
      exact call_range_2 (range_it I1 q1 q2 q3 q4 q)
def tFor (wi : TI) (g : TG) (tb : TS) : TS := fun D σ H => wi σ H fun J H1 => ∃ W : Nat → Nat → St → Hp → Prop, (∃ m, W 0 m σ H1) ∧ ∀ i m σ H, W i m σ H →
  (J.stop i H ∧ D.nx σ H) ∨ (J.go i H ∧ ∃ N : St → Hp → Prop, (∀ σ' H', N σ' H' → ∃ m', m' < m ∧ W (i + 1) m' σ' H') ∧ ∀ x H', J.yld i H x H' → g x σ H' fun σ2 H2 => tb { D with nx := N, ct := N, bk := D.nx } σ2 H2)
def pinsAt (fp : List Addr) (h : Heap) : List (Addr × Obj) := fp.filterMap fun b => (h.get? b).map fun o => (b, o)
theorem mem_pinsAt {fp : List Addr} {h : Heap} {b : Addr} {o : Obj} (hb : b ∈ fp) (e : h.get? b = some o) : (b, o) ∈ pinsAt fp h := List.mem_filterMap.mpr ⟨b, hb, by rw [e]; rfl⟩
theorem of_pinsAt {fp : List Addr} {h : Heap} {p : Addr × Obj} (hp : p ∈ pinsAt fp h) : p.1 ∈ fp ∧ h.get? p.1 = some p.2 := by
  obtain ⟨b, hb, e⟩ := List.mem_filterMap.mp hp
  cases q : h.get? b with
  | none => rw [q] at e; cases e
  | some o =>
    rw [q] at e
    have e' : (b, o) = p := Option.some.inj e
    subst e'
    exact ⟨hb, q⟩
theorem Inv.pinned {pins : List (Addr × Obj)} {σ : St} {H : Hp} {s : Shared} {fp : List Addr} (I : Inv X pins σ H s) (hf : ∀ b ∈ fp, FpOk X pins H b) (ho : ∀ b ∈ fp, ∃ o, s.heap.get? b = some o ∧ ∀ v, o.data ≠ .cell v) : Inv X (pins ++ pinsAt fp s.heap) σ H s :=
  I.pins_of fun p hp => (List.mem_append.mp hp).elim (fun z => I.pin p (List.mem_append_right _ z)) fun z => by
    obtain ⟨hb, e⟩ := of_pinsAt z
    obtain ⟨f0, f1, f2, _⟩ := hf p.1 hb
    obtain ⟨o, e', d⟩ := ho p.1 hb
    rw [e] at e'; cases e'
    exact ⟨e, f0, f1, f2, d⟩
theorem Inv.unpinned {pins pl : List (Addr × Obj)} {σ : St} {H : Hp} {s : Shared} (I : Inv X (pins ++ pl) σ H s) : Inv X pins σ H s := I.pins_of fun p hp => I.pin p (List.mem_append_right _ (List.mem_append_left _ hp))
theorem ps_for {iter : Expr} {body : List Stmt} {wi : TI} {g : TG} {tb : TS} {pos : Pos} (hp : PassesOwn (model X.prog X.w) X.A X.env X.xe) (hc : X.calm = true) (hi : PI X tg iter wi) (hg : PG X tg g) (hb : PSs X body tb)
    (hs : ∀ x, foldedSetIterable iter X.env x = pure x := by intro _; rfl) : PS X (.For tg iter body [] pos) (tFor wi g tb) := by
  intro pins s σ H D I h
  refine wpAny_For (thn (hi pins s σ H _ I h) fun v s1 h1 => thn h1 fun itv s2 h2 => ?_) hs
  obtain ⟨it, fp, tn, J, H2, e, I2, T, st2, f2, W, ⟨m0, w0⟩, turn⟩ := h2
  subst e
  -- what stays true of the iterator's objects through the loop
  have stat : ∀ {H' : Hp}, (∀ b ∈ fp, H' b = none) → ∀ b ∈ fp, FpOk X pins H' b := fun hn b hb => ⟨hn b hb, (f2 b hb).2⟩
  refine codeAny_forLoop_any (fun n s' => ∃ i σ' H', Inv X pins σ' H' s' ∧ tn i s'.heap ∧ (∀ b ∈ fp, H' b = none) ∧ W i n σ' H') ?_ m0 ⟨0, σ, H2, I2, st2, fun b hb => (f2 b hb).1, w0⟩
  rintro n s3 ⟨i, σ3, H3, I3, st3, fr3, w3⟩
  rcases turn i n σ3 H3 w3 with ⟨stop, qn⟩ | ⟨go, N, hN, step⟩
  · refine wpAny_passesOwn hp (thn (T.done X rfl rfl rfl hc i pins s3 σ3 H3 X.xe I3 (stat fr3) st3 stop) fun r s4 ⟨hr, I4⟩ => ?_)
    subst hr
    exact wpAny_execs_nil ⟨σ3, H3, I4, qn⟩
  · refine wpAny_passesOwn hp (thn (T.item X rfl rfl rfl hc i pins s3 σ3 H3 X.xe I3 (stat fr3) st3 go) fun r s4 ⟨u, hr, h4⟩ => ?_)
    subst hr
    refine wpAny_passesOwn hp (thn h4 fun _ s5 ⟨x, H5, I5, r5, y5, st5, fr5⟩ => ?_)
    have I5' := I5.pinned (stat fr5) (T.obj _ _ st5)
    refine wpAny_passesOwn hp (thn (hg _ s5 σ3 H5 x u _ I5' r5 (step x H5 y5)) fun _ s6 ⟨σ6, H6, I6, q6⟩ => ?_)
    refine wpAny_passesOwn hp (thn (hb _ s6 σ6 H6 _ I6 q6) fun f s7 q7 => ?_)
    have again : ∀ {σ7 : St} {H7 : Hp}, Inv X (pins ++ pinsAt fp s5.heap) σ7 H7 s7 → N σ7 H7 → ∃ m, m < n ∧ ∃ i σ' H', Inv X pins σ' H' s7 ∧ tn i s7.heap ∧ (∀ b ∈ fp, H' b = none) ∧ W i m σ' H' := fun {σ7 H7} I7 n7 => by
      obtain ⟨m', hm, w7⟩ := hN σ7 H7 n7
      refine ⟨m', hm, i + 1, σ7, H7, I7.unpinned, T.keep _ _ _ st5 fun b hb o e => (I7.pin (b, o) (List.mem_append_right _ (List.mem_append_right _ (mem_pinsAt hb e)))).1, fun b hb => ?_, w7⟩
      obtain ⟨o, e, d⟩ := T.obj _ _ st5 b hb
      exact (I7.pin (b, o) (List.mem_append_right _ (List.mem_append_right _ (mem_pinsAt hb e)))).2.1
    cases f with
    | next => obtain ⟨σ7, H7, I7, n7⟩ := q7; exact again I7 n7
    | cont => obtain ⟨σ7, H7, I7, n7⟩ := q7; exact again I7 n7
    | brk => obtain ⟨σ7, H7, I7, q7⟩ := q7; exact ⟨σ7, H7, I7.unpinned, q7⟩
    | ret v => obtain ⟨x7, σ7, H7, I7, r7, q7⟩ := q7; exact ⟨x7, σ7, H7, I7.unpinned, r7, q7⟩
end
theorem for_list {K : PySem.W.Frag} {a : Addr} {xs : List V} {g : TG} {tb : TS} {D : Ends} {σ : St} {H : Hp} (Pv : Nat → St → Hp → Prop) (h0 : Pv 0 σ H) (hl : ∀ i σ H, i ≤ xs.length → Pv i σ H → SqL K H a xs)
    (hs : ∀ i x σ H, xs[i]? = some x → Pv i σ H → g x σ H fun σ2 H2 => tb { D with nx := Pv (i + 1), ct := Pv (i + 1), bk := D.nx } σ2 H2) (hd : ∀ σ H, Pv xs.length σ H → D.nx σ H) :
    ∃ W : Nat → Nat → St → Hp → Prop, (∃ m, W 0 m σ H) ∧ ∀ i m σ H, W i m σ H →
      ((Itl K a).stop i H ∧ D.nx σ H) ∨ ((Itl K a).go i H ∧ ∃ N : St → Hp → Prop, (∀ σ' H', N σ' H' → ∃ m', m' < m ∧ W (i + 1) m' σ' H') ∧ ∀ x H', (Itl K a).yld i H x H' → g x σ H' fun σ2 H2 => tb { D with nx := N, ct := N, bk := D.nx } σ2 H2) := by
  refine ⟨fun i m σ H => m = xs.length - i ∧ i ≤ xs.length ∧ Pv i σ H, ⟨xs.length, by simp, Nat.zero_le _, h0⟩, ?_⟩
  rintro i m σ H ⟨rfl, hi, p⟩
  have q := hl i σ H hi p
  by_cases hlt : i < xs.length
  · refine .inr ⟨⟨xs, xs[i], q, by simp [hlt]⟩, Pv (i + 1), fun σ' H' p' => ⟨xs.length - (i + 1), by omega, rfl, hlt, p'⟩, fun x H' y => ?_⟩
    obtain ⟨e, y⟩ := y
    subst e
    exact hs i x σ _ (y xs q) p
  · have e : i = xs.length := by omega
    subst e
    exact .inl ⟨⟨xs, q, Nat.le_refl _⟩, hd σ H p⟩
theorem for_range {lo : Int} {n : Nat} {g : TG} {tb : TS} {D : Ends} {σ : St} {H : Hp} (Pv : Nat → St → Hp → Prop) (h0 : Pv 0 σ H)
    (hs : ∀ i σ H, i < n → Pv i σ H → g (.int (lo + i)) σ H fun σ2 H2 => tb { D with nx := Pv (i + 1), ct := Pv (i + 1), bk := D.nx } σ2 H2) (hd : ∀ σ H, Pv n σ H → D.nx σ H) :
    ∃ W : Nat → Nat → St → Hp → Prop, (∃ m, W 0 m σ H) ∧ ∀ i m σ H, W i m σ H →
      ((Itr lo n).stop i H ∧ D.nx σ H) ∨ ((Itr lo n).go i H ∧ ∃ N : St → Hp → Prop, (∀ σ' H', N σ' H' → ∃ m', m' < m ∧ W (i + 1) m' σ' H') ∧ ∀ x H', (Itr lo n).yld i H x H' → g x σ H' fun σ2 H2 => tb { D with nx := N, ct := N, bk := D.nx } σ2 H2) := by
  refine ⟨fun i m σ H => m = n - i ∧ i ≤ n ∧ Pv i σ H, ⟨n, by simp, Nat.zero_le _, h0⟩, ?_⟩
  rintro i m σ H ⟨rfl, hi, p⟩
  by_cases hlt : i < n
  · refine .inr ⟨hlt, Pv (i + 1), fun σ' H' p' => ⟨n - (i + 1), by omega, rfl, hlt, p'⟩, fun x H' y => ?_⟩
    obtain ⟨e, y⟩ := y
    subst e y
    exact hs i σ _ hlt p
  · have e : i = n := by omega
    subst e
    exact .inl ⟨Nat.le_refl _, hd σ H p⟩
theorem while_by {c : TT} {tb : TS} {D : Ends} {σ : St} {H : Hp} (Pv : St → Hp → Prop) (μ : St → Hp → Nat) (h0 : Pv σ H)
    (hs : ∀ σ H, Pv σ H → c σ H fun b H1 => if b = true then tb { D with nx := fun σ' H' => Pv σ' H' ∧ μ σ' H' < μ σ H, ct := fun σ' H' => Pv σ' H' ∧ μ σ' H' < μ σ H, bk := D.nx } σ H1 else D.nx σ H1)
    (mono : ∀ σ H Q Q', (∀ b H1, Q b H1 → Q' b H1) → c σ H Q → c σ H Q') : tWhile c tb D σ H := by
  refine ⟨fun m σ H => m = μ σ H ∧ Pv σ H, ⟨_, rfl, h0⟩, ?_⟩
  rintro m σ H ⟨rfl, p⟩
  refine mono σ H _ _ (fun b H1 q => ?_) (hs σ H p)
  cases b with
  | true => exact ⟨_, fun σ' H' ⟨p', l⟩ => ⟨_, l, rfl, p'⟩, q⟩
  | false => exact q
end L2
namespace L2
open PySem PySem.Spec PyProof.Rows
abbrev R2 := V → V → Hp → VK → Prop
def OpR (X : Cx) (f : Value → Value → Sem Value) (r : R2) : Prop :=
  ∀ (pins : List (Addr × Obj)) (s : Shared) (σ : St) (H : Hp) (x y : V) (v u : Value) (Q : VK), Inv X pins σ H s → RelV x v → RelV y u → r x y H Q →
    wpAny (model X.prog X.w) X.A (f v u) (EP X pins σ Q) X.xe s
def UnR (X : Cx) (f : Value → Sem Value) (r : V → Hp → VK → Prop) : Prop :=
  ∀ (pins : List (Addr × Obj)) (s : Shared) (σ : St) (H : Hp) (x : V) (v : Value) (Q : VK), Inv X pins σ H s → RelV x v → r x H Q →
    wpAny (model X.prog X.w) X.A (f v) (EP X pins σ Q) X.xe s
def CallR (X : Cx) (f : Value) (r : List V → Hp → VK → Prop) : Prop :=
  ∀ (pins : List (Addr × Obj)) (s : Shared) (σ : St) (H : Hp) (xs : List V) (us : List Value) (Q : VK), Inv X pins σ H s → Vals xs us → r xs H Q →
    wpAny (model X.prog X.w) X.A (call f us) (EP X pins σ Q) X.xe s
def TruR (X : Cx) (r : V → Hp → (Bool → Hp → Prop) → Prop) : Prop :=
  ∀ (pins : List (Addr × Obj)) (s : Shared) (σ : St) (H : Hp) (x : V) (v : Value) (Q : Bool → Hp → Prop), Inv X pins σ H s → RelV x v → r x H Q →
    wpAny (model X.prog X.w) X.A (truthy v) (TP X pins σ Q) X.xe s
def tOp (r : R2) (ta tb : TE) : TE := fun σ H Q => ta σ H fun x H1 => tb σ H1 fun y H2 => r x y H2 Q
def tUn (r : V → Hp → VK → Prop) (ta : TE) : TE := fun σ H Q => ta σ H fun x H1 => r x H1 Q
def rI (C : Int → Int → Prop) (g : Int → Int → V) : R2 := fun x y H Q => ∃ i j, x = .int i ∧ y = .int j ∧ C i j ∧ Q (g i j) H
def rI0 (g : Int → Int → V) : R2 := fun x y H Q => ∃ i j, x = .int i ∧ y = .int j ∧ Q (g i j) H
def rU (g : Int → V) : V → Hp → VK → Prop := fun x H Q => ∃ i, x = .int i ∧ Q (g i) H
section
variable {X : Cx} {a b c : Expr} {ta tb tc : TE} {pos : Pos}
theorem binT (ha : PE X a ta) (hb : PE X b tb) {pins : List (Addr × Obj)} {s : Shared} {σ : St} {H : Hp} {R : V → V → Hp → Prop} (I : Inv X pins σ H s)
    (h : ta σ H fun x H1 => tb σ H1 fun y H2 => R x y H2) {Q : Value → Shared → Prop} {f : Value → Value → Sem Value}
    (hf : ∀ v u s2 x y H2, Inv X pins σ H2 s2 → RelV x v → RelV y u → R x y H2 → wpAny (model X.prog X.w) X.A (f v u) Q X.xe s2) :
    wpAny (model X.prog X.w) X.A (eval a X.env) (fun v s₁ => wpAny (model X.prog X.w) X.A (eval b X.env) (fun u s₂ => wpAny (model X.prog X.w) X.A (f v u) Q X.xe s₂) X.xe s₁) X.xe s := by
  refine thn (ha pins s σ H _ I h) fun v s1 ⟨x, H1, I1, r1, q1⟩ => ?_
  refine thn (hb pins s1 σ H1 _ I1 q1) fun u s2 ⟨y, H2, I2, r2, q2⟩ => ?_
  exact hf v u s2 x y H2 I2 r1 r2 q2
theorem pe_op {op : Operator} {r : R2} (ho : OpR X (binaryOp op) r) (ha : PE X a ta) (hb : PE X b tb) : PE X (.BinOp a op b pos) (tOp r ta tb) := by
  intro pins s σ H Q I h
  exact wpAny_BinOp (binT ha hb I h fun v u s2 x y H2 I2 rx ry q => ho pins s2 σ H2 x y v u Q I2 rx ry q)
theorem pe_un {op : UnaryOp} {r : V → Hp → VK → Prop} (ho : UnR X (unaryOp op) r) (ha : PE X a ta) : PE X (.UnaryOp op a pos) (tUn r ta) := by
  intro pins s σ H Q I h
  exact UnaryOp_ (thn (ha pins s σ H _ I h) fun v s1 ⟨x, H1, I1, r1, q1⟩ => ho pins s1 σ H1 x v Q I1 r1 q1)
theorem opI {f : Value → Value → Sem Value} {C : Int → Int → Prop} {g : Int → Int → Int}
    (rule : ∀ (i j : Int) (t u : Tok) (s : Shared) (Q : Value → Shared → Prop) (E : Value → Shared → Prop), C i j → Q (.int (g i j) s.toks) { s with toks := s.toks + 1 } → wpAny (model X.prog X.w) X.A (f (.int i t) (.int j u)) Q E s) :
    OpR X f (rI C fun i j => .int (g i j)) := by
  intro pins s σ H x y v u Q I rx ry h
  obtain ⟨i, j, rfl, rfl, hc, q⟩ := h
  obtain ⟨t, rfl⟩ := rx
  obtain ⟨t', rfl⟩ := ry
  exact rule i j t t' s _ _ hc ⟨.int (g i j), H, I.tok _, ⟨_, rfl⟩, q⟩
theorem opI0 {f : Value → Value → Sem Value} {g : Int → Int → Int}
    (rule : ∀ (i j : Int) (t u : Tok) (s : Shared) (Q : Value → Shared → Prop) (E : Value → Shared → Prop), Q (.int (g i j) s.toks) { s with toks := s.toks + 1 } → wpAny (model X.prog X.w) X.A (f (.int i t) (.int j u)) Q E s) :
    OpR X f (rI0 fun i j => .int (g i j)) := by
  intro pins s σ H x y v u Q I rx ry h
  obtain ⟨i, j, rfl, rfl, q⟩ := h
  obtain ⟨t, rfl⟩ := rx
  obtain ⟨t', rfl⟩ := ry
  exact rule i j t t' s _ _ ⟨.int (g i j), H, I.tok _, ⟨_, rfl⟩, q⟩
theorem opB0 {f : Value → Value → Sem Value} {g : Int → Int → Bool}
    (rule : ∀ (i j : Int) (t u : Tok) (s : Shared) (Q : Value → Shared → Prop) (E : Value → Shared → Prop), Q (.bool (g i j)) s → wpAny (model X.prog X.w) X.A (f (.int i t) (.int j u)) Q E s) :
    OpR X f (rI0 fun i j => .bl (g i j)) := by
  intro pins s σ H x y v u Q I rx ry h
  obtain ⟨i, j, rfl, rfl, q⟩ := h
  obtain ⟨t, rfl⟩ := rx
  obtain ⟨t', rfl⟩ := ry
  exact rule i j t t' s _ _ ⟨.bl (g i j), H, I, rfl, q⟩
def CDiv (i j : Int) : Prop := 0 < j ∧ j < 1073741824
def CMul (i j : Int) : Prop := (-(2 ^ 64) < i ∧ i < 2 ^ 64) ∨ (-(2 ^ 64) < j ∧ j < 2 ^ 64)
theorem CMul.ok {i j : Int} (h : CMul i j) : IntMulOk i j := by
  rcases h with ⟨h1, h2⟩ | ⟨h1, h2⟩
  · exact .of_left (intBits_le_64 h1 h2)
  · exact .of_right (intBits_le_64 h1 h2)
theorem op_add : OpR X (binaryOp .Add) (rI0 fun i j => .int (i + j)) := opI0 fun _ _ _ _ _ _ _ q => add_int q
theorem op_sub : OpR X (binaryOp .Sub) (rI0 fun i j => .int (i - j)) := opI0 fun _ _ _ _ _ _ _ q => sub_int q
theorem op_mul : OpR X (binaryOp .Mult) (rI CMul fun i j => .int (i * j)) := opI fun _ _ _ _ _ _ _ hc q => mul_int q hc.ok
theorem op_fdiv : OpR X (binaryOp .FloorDiv) (rI CDiv fun i j => .int (i / j)) := opI fun i j _ _ _ _ _ hc q => by
  have h1 : (0 : Int) < j := hc.1
  have h2 : j < 1073741824 := hc.2
  exact floordiv_int (by omega) (by rw [Int.fdiv_eq_ediv_of_nonneg i (by omega)]; exact q) (.inl (PyProof.noPylong_small (by omega)))
theorem unI {f : Value → Sem Value} {g : Int → Int}
    (rule : ∀ (i : Int) (t : Tok) (s : Shared) (Q : Value → Shared → Prop) (E : Value → Shared → Prop), Q (.int (g i) s.toks) { s with toks := s.toks + 1 } → wpAny (model X.prog X.w) X.A (f (.int i t)) Q E s) :
    UnR X f (rU fun i => .int (g i)) := by
  intro pins s σ H x v Q I rx h
  obtain ⟨i, rfl, q⟩ := h
  obtain ⟨t, rfl⟩ := rx
  exact rule i t s _ _ ⟨.int (g i), H, I.tok _, ⟨_, rfl⟩, q⟩
theorem un_neg : UnR X (unaryOp .USub) (rU fun i => .int (-i)) := unI fun _ _ _ _ _ q => neg_int q
end
def scal : V → V → Bool
  | .non, .non => true | .non, .int _ => true | .int _, .non => true | .non, .bl _ => true | .bl _, .non => true | .non, .str _ => true | .str _, .non => true
  | .int _, .int _ => true | .bl _, .bl _ => true | .str _, .str _ => true | .byt _, .byt _ => true
  | .int _, .str _ => true | .str _, .int _ => true | .bl _, .str _ => true | .str _, .bl _ => true
  | _, _ => false
def rEq : R2 := fun x y H Q => scal x y = true ∧ Q (.bl (decide (x = y))) H
def rNe : R2 := fun x y H Q => scal x y = true ∧ Q (.bl (!decide (x = y))) H
theorem dec_int {i j : Int} : decide (V.int i = V.int j) = (i == j) := by
  rw [Bool.eq_iff_iff]
  simp
theorem dec_bl {i j : Bool} : decide (V.bl i = V.bl j) = (i == j) := by
  rw [Bool.eq_iff_iff]
  simp
theorem dec_str {i j : Str} : decide (V.str i = V.str j) = (i == j) := by
  rw [Bool.eq_iff_iff]
  simp
theorem dec_byt {i j : Array UInt8} : decide (V.byt i = V.byt j) = (i.toList == j.toList) := by
  rw [Bool.eq_iff_iff]
  cases i
  cases j
  simp
section
variable {X : Cx} {a b c : Expr} {ta tb tc : TE} {pos : Pos}
theorem fin_bl {pins : List (Addr × Obj)} {σ : St} {H : Hp} {s : Shared} {Q : VK} {k k' : Bool} (I : Inv X pins σ H s) (q : Q (.bl k) H) (e : k = k') : EP X pins σ Q (.bool k') s := by
  subst e
  exact ⟨.bl k, H, I, rfl, q⟩
theorem op_eq : OpR X (compareOp .Eq) rEq := by
  intro pins s σ H x y v u Q I rx ry h
  obtain ⟨hs, q⟩ := h
  cases x with
  | non =>
    cases rx
    cases y with
    | non => cases ry; exact PySem.EqNone.eq_none_none (fin_bl I q (by simp))
    | bl j => cases ry; exact PySem.EqNone.eq_none_bool (fin_bl I q (by simp))
    | int j => obtain ⟨t', rfl⟩ := ry; exact PySem.EqNone.eq_none_int (fin_bl I q (by simp))
    | str j => obtain ⟨t', rfl⟩ := ry; exact PySem.EqNone.eq_none_str (fin_bl I q (by simp))
    | _ => exact absurd (show false = true from hs) Bool.false_ne_true
  | bl i =>
    cases rx
    cases y with
    | non => cases ry; exact PySem.EqNone.eq_bool_none (fin_bl I q (by simp))
    | bl j => cases ry; exact eq_bool (fin_bl I q dec_bl)
    | str j => obtain ⟨t', rfl⟩ := ry; exact PySem.EqMixed.eq_bool_str (fin_bl I q (by simp))
    | _ => exact absurd (show false = true from hs) Bool.false_ne_true
  | int i =>
    obtain ⟨t, rfl⟩ := rx
    cases y with
    | non => cases ry; exact PySem.EqNone.eq_int_none (fin_bl I q (by simp))
    | int j => obtain ⟨t', rfl⟩ := ry; exact eq_int (fin_bl I q dec_int)
    | str j => obtain ⟨t', rfl⟩ := ry; exact PySem.EqMixed.eq_int_str (fin_bl I q (by simp))
    | _ => exact absurd (show false = true from hs) Bool.false_ne_true
  | str i =>
    obtain ⟨t, rfl⟩ := rx
    cases y with
    | non => cases ry; exact PySem.EqNone.eq_str_none (fin_bl I q (by simp))
    | bl j => cases ry; exact PySem.EqMixed.eq_str_bool (fin_bl I q (by simp))
    | int j => obtain ⟨t', rfl⟩ := ry; exact PySem.EqMixed.eq_str_int (fin_bl I q (by simp))
    | str j => obtain ⟨t', rfl⟩ := ry; exact eq_str (fin_bl I q dec_str)
    | _ => exact absurd (show false = true from hs) Bool.false_ne_true
  | byt i =>
    obtain ⟨t, rfl⟩ := rx
    cases y with
    | byt j => obtain ⟨t', rfl⟩ := ry; exact PySem.W.eq_bytes (fin_bl I q dec_byt)
    | _ => exact absurd (show false = true from hs) Bool.false_ne_true
  | _ => cases y <;> exact absurd (show false = true from hs) Bool.false_ne_true
theorem op_ne : OpR X (compareOp .NotEq) rNe := by
  intro pins s σ H x y v u Q I rx ry h
  obtain ⟨hs, q⟩ := h
  cases x with
  | non =>
    cases rx
    cases y with
    | non => cases ry; exact PySem.EqNone.ne_none_none (fin_bl I q (by simp))
    | bl j => cases ry; exact PySem.EqNone.ne_none_bool (fin_bl I q (by simp))
    | int j => obtain ⟨t', rfl⟩ := ry; exact PySem.EqNone.ne_none_int (fin_bl I q (by simp))
    | str j => obtain ⟨t', rfl⟩ := ry; exact PySem.EqNone.ne_none_str (fin_bl I q (by simp))
    | _ => exact absurd (show false = true from hs) Bool.false_ne_true
  | bl i =>
    cases rx
    cases y with
    | non => cases ry; exact PySem.EqNone.ne_bool_none (fin_bl I q (by simp))
    | bl j => cases ry; exact ne_bool (fin_bl I q (congrArg not dec_bl))
    | str j => obtain ⟨t', rfl⟩ := ry; exact PySem.EqMixed.ne_bool_str (fin_bl I q (by simp))
    | _ => exact absurd (show false = true from hs) Bool.false_ne_true
  | int i =>
    obtain ⟨t, rfl⟩ := rx
    cases y with
    | non => cases ry; exact PySem.EqNone.ne_int_none (fin_bl I q (by simp))
    | int j => obtain ⟨t', rfl⟩ := ry; exact ne_int (fin_bl I q (congrArg not dec_int))
    | str j => obtain ⟨t', rfl⟩ := ry; exact PySem.EqMixed.ne_int_str (fin_bl I q (by simp))
    | _ => exact absurd (show false = true from hs) Bool.false_ne_true
  | str i =>
    obtain ⟨t, rfl⟩ := rx
    cases y with
    | non => cases ry; exact PySem.EqNone.ne_str_none (fin_bl I q (by simp))
    | bl j => cases ry; exact PySem.EqMixed.ne_str_bool (fin_bl I q (by simp))
    | int j => obtain ⟨t', rfl⟩ := ry; exact PySem.EqMixed.ne_str_int (fin_bl I q (by simp))
    | str j => obtain ⟨t', rfl⟩ := ry; exact ne_str (fin_bl I q (congrArg not dec_str))
    | _ => exact absurd (show false = true from hs) Bool.false_ne_true
  | byt i =>
    obtain ⟨t, rfl⟩ := rx
    cases y with
    | byt j => obtain ⟨t', rfl⟩ := ry; exact PySem.W.ne_bytes (fin_bl I q (congrArg not dec_byt))
    | _ => exact absurd (show false = true from hs) Bool.false_ne_true
  | _ => cases y <;> exact absurd (show false = true from hs) Bool.false_ne_true
theorem op_lt : OpR X (compareOp .Lt) (rI0 fun i j => .bl (decide (i < j))) := opB0 fun _ _ _ _ _ _ _ q => lt_int q
theorem op_le : OpR X (compareOp .LtE) (rI0 fun i j => .bl (decide (i ≤ j))) := opB0 fun _ _ _ _ _ _ _ q => le_int q
theorem op_gt : OpR X (compareOp .Gt) (rI0 fun i j => .bl (decide (j < i))) := opB0 fun _ _ _ _ _ _ _ q => gt_int q
theorem op_ge : OpR X (compareOp .GtE) (rI0 fun i j => .bl (decide (j ≤ i))) := opB0 fun _ _ _ _ _ _ _ q => ge_int q
theorem nomark (b : Expr) {op : CmpOp} (h : op ≠ .In := by decide) (h2 : op ≠ .NotIn := by decide) : behindInMarks op b = false := by
  have e1 : (op == CmpOp.In) = false := by cases op <;> first | rfl | exact absurd rfl h
  have e2 : (op == CmpOp.NotIn) = false := by cases op <;> first | rfl | exact absurd rfl h2
  cases b <;> simp [behindInMarks, e1, e2]
theorem pe_cmpR {op : CmpOp} {r : R2} (ho : OpR X (compareOp op) r) (ha : PE X a ta) (hb : PE X b tb) (hm : behindInMarks op b = false) : PE X (.Compare a [op] [b] pos) (tOp r ta tb) := by
  intro pins s σ H Q I h
  exact wpAny_Compare1 (binT ha hb I h fun v u s2 x y H2 I2 rx ry q => ho pins s2 σ H2 x y v u Q I2 rx ry q) hm
def tTest (t : TE) : TT := fun σ H Q => t σ H fun x H' => ∃ k, x = .bl k ∧ Q k H'
theorem pt_cmpR {op : CmpOp} {r : R2} (ho : OpR X (compareOp op) r) (ha : PE X a ta) (hb : PE X b tb) (hm : behindInMarks op b = false) : PT X (.Compare a [op] [b] pos) (tTest (tOp r ta tb)) := by
  intro pins s σ H Q I h
  refine wpAny_isTrue_Compare1 (thn (ha pins s σ H _ I h) fun v s1 ⟨x, H1, I1, r1, q1⟩ => thn (hb pins s1 σ H1 _ I1 q1) fun u s2 ⟨y, H2, I2, r2, q2⟩ =>
    thn (ho pins s2 σ H2 x y v u _ I2 r1 r2 q2) fun c s3 ⟨z, H3, I3, r3, k, e, q3⟩ => ?_) hm
  subst e
  cases r3
  exact wpAny_truthy_bool ⟨H3, I3, q3⟩
def tChain (r r' : R2) (ta tb tc : TE) : TE := fun σ H Q => ta σ H fun x H1 => tb σ H1 fun y H2 => r x y H2 fun z H3 => ∃ k, z = .bl k ∧
  (if k = true then tc σ H3 fun w' H4 => r' y w' H4 Q else Q (.bl false) H3)
theorem pt_chain {op op' : CmpOp} {r r' : R2} (ho : OpR X (compareOp op) r) (ho' : OpR X (compareOp op') r') (ha : PE X a ta) (hb : PE X b tb) (hc : PE X c tc)
    (hm : lastMarks [op, op'] [b, c] = false := by with_unfolding_all rfl) : PT X (.Compare a [op, op'] [b, c] pos) (tTest (tChain r r' ta tb tc)) := by
  intro pins s σ H Q I h
  refine isTrue_chain (thn (ha pins s σ H _ I h) fun v s1 ⟨x, H1, I1, r1, q1⟩ => test_link (thn (hb pins s1 σ H1 _ I1 q1) fun u s2 ⟨y, H2, I2, r2, q2⟩ =>
    thn (ho pins s2 σ H2 x y v u _ I2 r1 r2 q2) fun d s3 ⟨z, H3, I3, r3, k, e, q3⟩ => ?_)) hm
  subst e
  cases r3
  refine wpAny_truthy_bool ?_
  cases k with
  | false =>
    obtain ⟨k', e', q'⟩ := q3
    cases e'
    exact ite_ff ⟨H3, I3, q'⟩
  | true =>
    refine ite_tt (test_last (thn (hc pins s3 σ H3 _ I3 q3) fun w' s4 ⟨z', H4, I4, r4, q4⟩ => thn (ho' pins s4 σ H4 y z' u w' _ I4 r2 r4 q4) fun d' s5 ⟨z2, H5, I5, r5, k2, e2, q5⟩ => ?_))
    subst e2
    cases r5
    exact wpAny_truthy_bool ⟨H5, I5, q5⟩
def TruV (K : PySem.W.Frag) (x : V) (H : Hp) (k : Bool) : Prop :=
  match x with
  | .non => k = false
  | .bl b => k = b
  | .int i => k = (i != 0)
  | .str y => y.length ≤ sizeLine ∧ k = ((y.length : Int) != 0)
  | .byt y => y.size ≤ sizeLine ∧ k = ((y.size : Int) != 0)
  | .ref p => (∃ xs, SqL K H p xs ∧ k = !xs.isEmpty) ∨ (∃ xs, SqT K H p xs ∧ k = !xs.isEmpty) ∨ ∃ kvs, H p = some (.dK kvs) ∧ k = !kvs.isEmpty
  | _ => False
theorem isEmpty_kv {κ : Type} {kvs : List (κ × V)} {vs : List (κ × Value)} (r : KV kvs vs) : (!vs.isEmpty) = !kvs.isEmpty := by
  cases r <;> rfl
theorem isEmpty_of {xs : List V} {its : List Value} (r : Vals xs its) : (!its.toArray.isEmpty) = !xs.isEmpty := by
  cases r <;> simp
theorem line63 : (sizeLine : Nat) < 2 ^ 63 := by rw [sizeLine_eq]; decide
theorem tru_ok : TruR X (fun x H Q => ∃ k, TruV X.K x H k ∧ Q k H) := by
  intro pins s σ H x v Q I rx h
  obtain ⟨k, e, q⟩ := h
  have hl := line63
  have hs : sizeLine = 16777216 := sizeLine_eq
  cases x with
  | non =>
    cases rx
    have e' : k = false := e
    subst e'
    exact truthy_none ⟨H, I, q⟩
  | bl b =>
    cases rx
    have e' : k = b := e
    subst e'
    exact wpAny_truthy_bool ⟨H, I, q⟩
  | int i =>
    obtain ⟨t, rfl⟩ := rx
    have e' : k = (i != 0) := e
    subst e'
    exact PySem.P.truthy_int ⟨H, I, q⟩
  | str y =>
    obtain ⟨t, rfl⟩ := rx
    obtain ⟨hy, e'⟩ : y.length ≤ sizeLine ∧ k = ((y.length : Int) != 0) := e
    subst e'
    exact PySem.P.truthy_str (by omega) ⟨H, I.tok _, q⟩
  | byt y =>
    obtain ⟨t, rfl⟩ := rx
    obtain ⟨hy, e'⟩ : y.size ≤ sizeLine ∧ k = ((y.size : Int) != 0) := e
    subst e'
    exact PySem.W.truthy_bytes (by omega) ⟨H, I.tok _, q⟩
  | ref p =>
    cases rx
    have e' : (∃ xs, SqL X.K H p xs ∧ k = !xs.isEmpty) ∨ (∃ xs, SqT X.K H p xs ∧ k = !xs.isEmpty) ∨ ∃ kvs, H p = some (.dK kvs) ∧ k = !kvs.isEmpty := e
    rcases e' with ⟨xs, hx, e'⟩ | ⟨xs, hx, e'⟩ | ⟨kvs, hx, e'⟩
    · subst e'
      obtain ⟨its, r, pl, hz⟩ := I.list hx
      have hlen := r.length
      exact wpAny_truthy_list pl.isList (by simp only [List.size_toArray]; omega) ⟨H, I.tok _, by rw [isEmpty_of r]; exact q⟩
    · subst e'
      obtain ⟨its, r, pl, hz⟩ := I.tuple hx
      have hlen := r.length
      exact truthy_tuple pl (by simp only [List.size_toArray]; omega) ⟨H, I.tok _, by rw [isEmpty_of r]; exact q⟩
    · subst e'
      obtain ⟨hz, hS, vs, r, m⟩ : kvs.length ≤ sizeLine ∧ (p == sysModules) = false ∧ ∃ vs, KV kvs vs ∧ s.heap.DictOf (mixKind X.prog X.w) p vs := I.hok p _ hx
      have hlen : kvs.length = vs.length := Paired.length r
      exact wpAny_truthy_dict hS m (by omega) ⟨H, I.tok _, by rw [isEmpty_kv r]; exact q⟩
  | _ => exact (show False from e).elim
theorem pt_truth (ha : PE X a ta) (he : ∀ whole, isTrue a X.env whole = (do let v ← whole; standAt a.pos; holding [v] (truthy v))) :
    PT X a (fun σ H Q => ta σ H fun x H' => ∃ k, TruV X.K x H' k ∧ Q k H') := by
  intro pins s σ H Q I h
  exact isTrue_plain (thn (ha pins s σ H _ I h) fun v s1 ⟨x, H1, I1, r1, q1⟩ => tru_ok pins s1 σ H1 x v Q I1 r1 q1) (he _)
theorem vals1 {x : V} {us : List Value} (r : Vals [x] us) : ∃ u, us = [u] ∧ RelV x u := by
  cases r with
  | cons r1 r2 => cases r2; exact ⟨_, rfl, r1⟩
theorem vals2 {x y : V} {us : List Value} (r : Vals [x, y] us) : ∃ u w', us = [u, w'] ∧ RelV x u ∧ RelV y w' := by
  cases r with
  | cons r1 r2 =>
    cases r2 with
    | cons r3 r4 => cases r4; exact ⟨_, _, rfl, r1, r3⟩
theorem call_min2 (hc : X.calm = true) : CallR X (.builtin "min") (fun xs H Q => ∃ i j, xs = [.int i, .int j] ∧ Q (.int (if j < i then j else i)) H) := by
  intro pins s σ H xs us Q I r h
  obtain ⟨i, j, rfl, q⟩ := h
  obtain ⟨u, w', rfl, ⟨t, rfl⟩, ⟨t', rfl⟩⟩ := vals2 r
  refine min_two_ints (I.ok.hd hc) fun h' tk k => ⟨_, H, I.kept k, ?_, q⟩
  by_cases hj : j < i
  · rw [if_pos hj, if_pos hj]; exact ⟨_, rfl⟩
  · rw [if_neg hj, if_neg hj]; exact ⟨_, rfl⟩
end
end L2
namespace L2
open PySem PySem.Spec PyProof.Rows
structure ObjM (h : Heap) (x dx C : Addr) (mA : Str → Option Value) : Prop where
  obj : h.get? x = some (PySem.W.instObj C dx)
  ns : h.Ns1 dx mA
  ne : dx ≠ x
theorem lookIn_ns {h : Heap} {dx : Addr} {mA : Str → Option Value} (n : h.Ns1 dx mA) : ∃ od, h.get? dx = some od ∧ ∀ name, PySem.W.lookIn name od = some (mA name) := by
  obtain ⟨o, es, ep, ho, hd, hk, _, hm⟩ := n
  refine ⟨o, ho, fun name => ?_⟩
  have e := hm name
  unfold nsFind findBy at e
  rw [← Array.find?_toList] at e
  unfold PySem.W.lookIn
  rw [hd]
  dsimp only
  split
  · rename_i y q
    rw [q] at e
    exact congrArg some e
  · rename_i q
    rw [q] at e
    have a : es.toList.any (·.refKey) = false := by
      rw [List.any_eq_false]
      intro y hy
      obtain ⟨z, t, hkey⟩ := hk y (Array.mem_toList_iff.mp hy)
      simp [DictEntry.refKey, hkey]
    have a' : ¬ es.toList.any (·.refKey) = true := by rw [a]; exact Bool.false_ne_true
    rw [if_neg a']
    exact congrArg some e
theorem ObjM.look {h : Heap} {x dx C : Addr} {mA : Str → Option Value} (I : ObjM h x dx C mA) : ∃ od, PySem.W.InstAt h x (PySem.W.instObj C dx) C (some od) ∧ ∀ name, PySem.W.lookIn name od = some (mA name) :=
  let ⟨od, ho, hl⟩ := lookIn_ns I.ns
  ⟨od, ⟨I.obj, rfl, rfl, ho⟩, hl⟩
section
variable {prog : Program} {w : World} {A : Around} {E : Value → Shared → Prop} {s : Shared} {K : PySem.W.Frag} {x dx C f : Addr} {mA : Str → Option Value} {name : Str} {v : Value}
theorem get_map {expr : Bool} {Q : Value → Shared → Prop} (X : K.In s.heap) (I : ObjM s.heap x dx C mA) (hg : PySem.W.plainGet K C name = true) (hh : PySem.W.hasDictIn K C = true)
    (ha : PySem.W.findIn K (.ref C) name = some none) (hv : mA name = some v) (hv' : PySem.W.handedIn v = true) (h : Q v { s with toks := s.toks + 1 }) :
    wpAny (model prog w) A (getAttr (.ref x) name expr) Q E s := by
  obtain ⟨od, J, hl⟩ := I.look
  exact PySem.W.get_value X J (PySem.W.plainGet_of hg).1 (PySem.W.findObj_own hh ha rfl (by rw [hl, hv])) hv' h
theorem get_meth {pl : Sem Bool} {Q : Value × List Value → Shared → Prop} (X : K.In s.heap) (I : ObjM s.heap x dx C mA) (hg : PySem.W.plainGet K C name = true)
    (hf : PySem.W.findIn K (.ref C) name = some (some (.ref f))) (ht : PySem.W.isFn K (.ref f) = true) (hv : mA name = none) (h : Q (.ref f, [.ref x]) s) :
    wpAny (model prog w) A (getMethod (.ref x) name pl) Q E s := by
  obtain ⟨od, J, hl⟩ := I.look
  exact PySem.W.method_fn X J (PySem.W.plainGet_of hg).1 (PySem.W.plainGet_of hg).2 hf (beq_iff_eq.mp ht) (by show (PySem.W.lookIn name od).map (·.isSome) = some false; rw [hl, hv]; rfl) h
theorem set_map {ns : List Str} {Q : Unit → Shared → Prop} (X : K.In s.heap) (I : ObjM s.heap x dx C mA)
    (hs : PySem.W.findIn K (.ref C) "__setattr__" = some (some (.builtin "object.__setattr__"))) (hp : PySem.W.plainOver K C = true) (ht : PySem.W.takerIn K C name = some none) (hh : PySem.W.hasDictIn K C = true)
    (hw : PySem.Within mA ns) (hsz : ns.length ≤ sizeLine)
    (h : ∀ h', ObjM h' x dx C (fun y => if y = name then some v else mA y) → Heap.SameBut dx s.heap h' → Q () { s with heap := h', toks := s.toks + 2 }) :
    wpAny (model prog w) A (setAttr (.ref x) name v) Q E s := by
  obtain ⟨od, J, hl⟩ := I.look
  refine PySem.W.set_plain X J hs (PySem.W.osa_open (s := { s with toks := s.toks + 1 }) (r := none) X J hp ht fun b => ?_)
  obtain ⟨cd, hc, hd'⟩ := PySem.W.any_some hh
  have hx : s.heap.get? x = some ⟨.ref C, some dx, .plain, #[]⟩ := I.obj
  refine wpAny_bind (wpAny_pure (wpAny_bind (wpAny_bind (wpAny_loadPart hx (wpAny_bind (PySem.W.Looks.here (s := { s with toks := s.toks + 1 }) (PySem.W.looks_clsIn X hc) ?_))))))
  rw [hd']
  refine wpAny_pure (a := some dx) (wpAny_bind (wpAny_pure (wpAny_bind ?_)))
  refine wpAny_nsSet1 (s := { s with toks := s.toks + 1 }) I.ns fun h' hn2 hs2 => ?_
  obtain ⟨oD, esD, epD, hoD, hdD, hcD⟩ := hn2.count (PySem.Within.cons name v hw)
  refine wpAny_bind (wpAny_lookBehind hoD (by rw [hdD]; exact pastItsLine_dict (Nat.le_trans hcD (by rw [List.length_cons]; omega))) ?_)
  exact wpAny_pure (h _ ⟨(hs2.2 _ (Ne.symm I.ne)).trans I.obj, hn2, I.ne⟩ hs2)
theorem make_map {R : Result → Shared → Prop} {vs : List Value} {kw : List (Str × Value)} (X : K.In s.heap) (hm : PySem.W.makesIn K C = true)
    (hi : PySem.W.findIn K (.ref C) "__init__" = some (some (.ref f))) (hf : PySem.W.typeIn K (.ref f) = some (.type "function"))
    (h : codeAny (model prog w) (A.under (.builtin "type.__call__" ⟨.ref C :: vs, kw⟩)) (.call (.ref f) ⟨.ref (s.heap.objs.size + 1) :: vs, kw⟩) (PySem.W.InitBack (s.heap.objs.size + 1) R)
      { s with heap := (s.heap.push PySem.W.emptyDict).push (PySem.W.instObj C s.heap.objs.size) }) :
    codeAny (model prog w) A (.call (.ref C) ⟨vs, kw⟩) R s := by
  obtain ⟨hh, g, d, t, os⟩ := s
  exact PySem.W.make_core (PySem.W.makes_of X hm) (PySem.W.looks_findIn X hi) (fun self => PySem.W.bind_fn X self hf) (.inl rfl) h
end
def putF (f : Str) (v : V) : List (Str × V) → List (Str × V)
  | [] => [(f, v)]
  | (g, x) :: r => if g = f then (g, v) :: r else (g, x) :: putF f v r
theorem lookup_putF (f g : Str) (v : V) : ∀ fs : List (Str × V), (putF f v fs).lookup g = if g = f then some v else fs.lookup g
  | [] => by
    show List.lookup g [(f, v)] = _
    by_cases h : g = f
    · have hb : (g == f) = true := beq_iff_eq.mpr h
      simp only [List.lookup, hb, if_pos h]
    · have hb : (g == f) = false := beq_eq_false_iff_ne.mpr h
      simp only [List.lookup, hb, if_neg h]
  | (k, x) :: r => by
    have ih := lookup_putF f g v r
    rw [show putF f v ((k, x) :: r) = (if k = f then (k, v) :: r else (k, x) :: putF f v r) from rfl]
    by_cases hk : k = f
    · rw [if_pos hk]
      by_cases h : g = k
      · have hb : (g == k) = true := beq_iff_eq.mpr h
        simp only [List.lookup, hb, if_pos (h.trans hk)]
      · have hb : (g == k) = false := beq_eq_false_iff_ne.mpr h
        simp only [List.lookup, hb, if_neg (fun e : g = f => h (e.trans hk.symm))]
    · rw [if_neg hk]
      by_cases h : g = k
      · have hb : (g == k) = true := beq_iff_eq.mpr h
        simp only [List.lookup, hb, if_neg (fun e : g = f => hk (h.symm.trans e))]
      · have hb : (g == k) = false := beq_eq_false_iff_ne.mpr h
        simp only [List.lookup, hb]
        exact ih
theorem keys_putF (f : Str) (v : V) : ∀ fs : List (Str × V), f ∈ (putF f v fs).map (·.1) ∧ ∀ g, g ∈ fs.map (·.1) → g ∈ (putF f v fs).map (·.1)
  | [] => ⟨by simp [putF], fun g h => by simp at h⟩
  | (k, x) :: r => by
    obtain ⟨i1, i2⟩ := keys_putF f v r
    rw [show putF f v ((k, x) :: r) = (if k = f then (k, v) :: r else (k, x) :: putF f v r) from rfl]
    by_cases hk : k = f
    · rw [if_pos hk]
      subst hk
      exact ⟨by simp, fun g h => by simpa using h⟩
    · rw [if_neg hk]
      refine ⟨?_, fun g h => ?_⟩
      · rw [List.map_cons]
        exact List.mem_cons_of_mem _ i1
      · rw [List.map_cons] at h ⊢
        rcases List.mem_cons.mp h with e | e
        · exact List.mem_cons.mpr (.inl e)
        · exact List.mem_cons_of_mem _ (i2 g e)
theorem length_putF (f : Str) (v : V) : ∀ fs : List (Str × V), (putF f v fs).length ≤ fs.length + 1
  | [] => by simp [putF]
  | (k, x) :: r => by
    have ih := length_putF f v r
    rw [show putF f v ((k, x) :: r) = (if k = f then (k, v) :: r else (k, x) :: putF f v r) from rfl]
    by_cases hk : k = f
    · rw [if_pos hk, List.length_cons, List.length_cons]; omega
    · rw [if_neg hk, List.length_cons, List.length_cons]; omega
theorem RelO.some_of {v : V} {o : Option Value} (r : RelO (some v) o) : ∃ u, o = some u ∧ RelV v u := by
  cases o with
  | none => exact (show False from r).elim
  | some u => exact ⟨u, rfl, r⟩
theorem RelO.none_of {o : Option Value} (r : RelO none o) : o = none := by
  cases o with
  | none => rfl
  | some u => exact (show False from r).elim
theorem handed_of {v : V} {u : Value} (r : RelV v u) : PySem.W.handedIn u = true := by
  cases v with
  | non => cases (show u = Value.none from r); rfl
  | bl b => cases (show u = Value.bool b from r); rfl
  | int i => obtain ⟨t, e⟩ := (show ∃ t, u = Value.int i t from r); cases e; rfl
  | str x => obtain ⟨t, e⟩ := (show ∃ t, u = Value.str x t from r); cases e; rfl
  | byt b => obtain ⟨t, e⟩ := (show ∃ t, u = Value.bytes b t from r); cases e; rfl
  | flt b => obtain ⟨t, e⟩ := (show ∃ t, u = Value.float b t from r); cases e; rfl
  | ref a => cases (show u = Value.ref a from r); rfl
  | ty n => cases (show u = Value.type n from r); rfl
section
variable {P : Program} {w : World} {H H' : Hp} {h h' : Heap} {a C dx : Addr} {fs fs' : List (Str × V)}
theorem ins_get (hok : HOk P w H h) (e : H a = some (.ins C dx fs)) : ∃ mA, ObjM h a dx C mA ∧ (∀ f, RelO (fs.lookup f) (mA f)) ∧ PySem.Within mA (fs.map (·.1)) ∧ fs.length ≤ 1000 ∧ H dx = some (.own a) := by
  obtain ⟨d, z, ne, ob, mA, n, r, q⟩ := (show ObjOk P w H h a (.ins C dx fs) from hok a _ e)
  exact ⟨mA, ⟨ob, n, ne⟩, r, q, z, d⟩
end
structure Cls (K : PySem.W.Frag) (C : Addr) : Prop where
  pg : PySem.W.plainGet K C Str.empty = true
  hd : PySem.W.hasDictIn K C = true
  po : PySem.W.plainOver K C = true
  sa : PySem.W.findIn K (.ref C) "__setattr__" = some (some (.builtin "object.__setattr__"))
theorem Cls.get {K : PySem.W.Frag} {C : Addr} (c : Cls K C) (f : Str) : PySem.W.plainGet K C f = true := c.pg
def NoAttr (K : PySem.W.Frag) (C : Addr) (f : Str) : Prop := PySem.W.findIn K (.ref C) f = some none
theorem NoAttr.taker {K : PySem.W.Frag} {C : Addr} {f : Str} (n : NoAttr K C f) : PySem.W.takerIn K C f = some none := by
  unfold PySem.W.takerIn
  rw [show PySem.W.findIn K (.ref C) f = some none from n]
  rfl
structure Meth (K : PySem.W.Frag) (C : Addr) (m : Str) (f : Addr) : Prop where
  at_ : PySem.W.findIn K (.ref C) m = some (some (.ref f))
  fn : PySem.W.isFn K (.ref f) = true
  kp : PySem.W.keepIn K (.ref f) = true
section
variable {X : Cx} {pins : List (Addr × Obj)} {σ : St} {H : Hp} {s : Shared} {a C dx : Addr} {fs : List (Str × V)} {f : Str} {v : V} {A : Around} {E : Value → Shared → Prop}
theorem getattr_ok {b : Bool} {Q : Value → Shared → Prop} (I : Inv X pins σ H s) (e : H a = some (.ins C dx fs)) (c : Cls X.K C) (n : NoAttr X.K C f) (l : fs.lookup f = some v)
    (h : ∀ u s', Inv X pins σ H s' → RelV v u → Q u s') : wpAny (model X.prog X.w) A (getAttr (.ref a) f b) Q E s := by
  obtain ⟨mA, O, r, _, _, _⟩ := ins_get I.hok e
  obtain ⟨u, hu, ru⟩ := RelO.some_of (v := v) (o := mA f) (by rw [← l]; exact r f)
  exact get_map I.kIn O (c.get f) c.hd n hu (handed_of ru) (h u _ (I.tok _) ru)
theorem getmeth_ok {m : Str} {g : Addr} {pl : Sem Bool} {Q : Value × List Value → Shared → Prop} (I : Inv X pins σ H s) (e : H a = some (.ins C dx fs)) (c : Cls X.K C) (k : Meth X.K C m g) (l : fs.lookup m = none)
    (h : Q (.ref g, [.ref a]) s) : wpAny (model X.prog X.w) A (getMethod (.ref a) m pl) Q E s := by
  obtain ⟨mA, O, r, _, _, _⟩ := ins_get I.hok e
  have hn : mA m = none := RelO.none_of (by rw [← l]; exact r m)
  exact get_meth I.kIn O (c.get m) k.at_ k.fn hn h
theorem setattr_ok {y : V} {u : Value} {Q : Unit → Shared → Prop} (I : Inv X pins σ H s) (e : H a = some (.ins C dx fs)) (c : Cls X.K C) (n : NoAttr X.K C f) (hl : fs.length < 1000) (ry : RelV y u)
    (h : ∀ s', Inv X pins σ (upd H a (.ins C dx (putF f y fs))) s' → Q () s') : wpAny (model X.prog X.w) A (setAttr (.ref a) f u) Q E s := by
  obtain ⟨mA, O, r, wi, _, ho⟩ := ins_get I.hok e
  have hz : (fs.map (·.1)).length ≤ sizeLine := by rw [List.length_map, sizeLine_eq]; omega
  refine set_map I.kIn O c.sa c.po n.taker c.hd wi hz fun h' O' sb => h _ ?_
  have hd : ∃ o, h'.get? dx = some o := let ⟨o, _, _, e', _⟩ := O'.ns; ⟨o, e'⟩
  refine I.write (x := a) (e := dx) (by rw [e]; exact True.intro) (.inr ho) (fun b q hb z => (sb.2 b hb).trans z) hd ?_
  refine ⟨by rw [upd_ne O.ne]; exact ho, ?_, O.ne, O'.obj, _, O'.ns, fun g => ?_, fun g hg => ?_⟩
  · have := length_putF f y fs; omega
  · show RelO ((putF f y fs).lookup g) (if g = f then some u else mA g)
    rw [lookup_putF]
    by_cases q : g = f
    · rw [if_pos q, if_pos q]; exact ry
    · rw [if_neg q, if_neg q]; exact r g
  · by_cases q : g = f
    · rw [q]; exact (keys_putF f y fs).1
    · refine (keys_putF f y fs).2 g (wi g fun z => hg ?_)
      show (if g = f then some u else mA g) = none
      rw [if_neg q]; exact z
theorem Inv.made (I : Inv X pins σ H s) : Inv X pins σ (upd (upd H s.heap.objs.size (.own (s.heap.objs.size + 1))) (s.heap.objs.size + 1) (.ins C s.heap.objs.size []))
    { s with heap := (s.heap.push PySem.W.emptyDict).push (PySem.W.instObj C s.heap.objs.size) } := by
  have e1 : (s.heap.push PySem.W.emptyDict).get? s.heap.objs.size = some PySem.W.emptyDict := Heap.get?_push_size s.heap rfl
  have e2 : ((s.heap.push PySem.W.emptyDict).push (PySem.W.instObj C s.heap.objs.size)).get? (s.heap.objs.size + 1) = some (PySem.W.instObj C s.heap.objs.size) := by
    have := Heap.get?_push_size (s.heap.push PySem.W.emptyDict) (o := PySem.W.instObj C s.heap.objs.size) rfl
    rwa [Heap.size_push] at this
  have e3 : (s.heap.push PySem.W.emptyDict).Ns s.heap.objs.size (fun _ => none) := ⟨PySem.W.emptyDict, #[], _, e1, rfl, (fun e he => absurd he (by simp)), fun _ => rfl⟩
  have I1 := I.laid (a := s.heap.objs.size) (o := .own (s.heap.objs.size + 1)) (h' := s.heap.push PySem.W.emptyDict) (t' := s.toks) (fun b u q => Heap.get?_push_of_some _ q) (Nat.le_refl _) ⟨_, e1⟩
  refine I1.laid (a := s.heap.objs.size + 1) (o := .ins C s.heap.objs.size []) (t' := s.toks) (fun b u q => Heap.get?_push_of_some _ q) (Nat.le_of_eq (Heap.size_push _ _)) ?_
  have ne : s.heap.objs.size ≠ s.heap.objs.size + 1 := Nat.ne_of_lt (Nat.lt_succ_self _)
  refine ⟨by rw [upd_ne ne, upd_same], Nat.zero_le _, ne, e2, fun _ => none, (Heap.Ns1.of_empty e3).at fun o q => Heap.get?_push_of_some _ q, fun _ => True.intro, fun y hy => absurd rfl hy⟩
theorem attr_of {prog : Program} {w : World} {env : Env} {e : Expr} {f : Str} {pos : Pos} {s : Shared} {Q : Value → Shared → Prop} (hb : attributeBase e f env (eval e env) = eval e env)
    (h : wpAny (model prog w) A (eval e env) (fun o s₁ => wpAny (model prog w) A (getAttr o f true) Q E s₁) E s) : wpAny (model prog w) A (eval (.Attribute e f pos) env) Q E s :=
  Attribute_any_ h (by rw [arm_eval_Attribute, hb])
end
def tFld (K : PySem.W.Frag) (ta : TE) (f : Str) : TE := fun σ H Q => ta σ H fun x H1 => ∃ a C dx fs v, x = .ref a ∧ H1 a = some (.ins C dx fs) ∧ Cls K C ∧ NoAttr K C f ∧ fs.lookup f = some v ∧ Q v H1
def sFld (K : PySem.W.Frag) (ta tv : TE) (f : Str) : TS := fun D σ H => tv σ H fun y H1 => ta σ H1 fun x H2 => ∃ a C dx fs, x = .ref a ∧ H2 a = some (.ins C dx fs) ∧ Cls K C ∧ NoAttr K C f ∧ fs.length < 1000 ∧
  D.nx σ (upd H2 a (.ins C dx (putF f y fs)))
def InOp (X : Cx) (op : Operator) (rd : V → V → Hp → VK → Prop) : Prop :=
  ∀ (pins : List (Addr × Obj)) (s : Shared) (σ : St) (H : Hp) (x y : V) (u v : Value) (Q : VK), Inv X pins σ H s → RelV x u → RelV y v → rd x y H Q → wpAny (model X.prog X.w) X.A (inplaceOp op u v) (EP X pins σ Q) X.xe s
def sFldAug (K : PySem.W.Frag) (ta tv : TE) (rd : V → V → Hp → VK → Prop) (f : Str) : TS := fun D σ H => ta σ H fun x H1 => ∃ a C dx fs v, x = .ref a ∧ H1 a = some (.ins C dx fs) ∧ Cls K C ∧ NoAttr K C f ∧ fs.lookup f = some v ∧
  tv σ H1 fun y H2 => rd v y H2 fun z H3 => ∃ dx' fs', H3 a = some (.ins C dx' fs') ∧ fs'.length < 1000 ∧ D.nx σ (upd H3 a (.ins C dx' (putF f z fs')))
section
variable {X : Cx} {o e value : Expr} {f : Str} {pos pos' tpos : Pos} {ta tv : TE}
theorem pe_fld (he : PE X e ta) (hb : attributeBase e f X.env (eval e X.env) = eval e X.env) : PE X (.Attribute e f pos) (tFld X.K ta f) := by
  intro pins s σ H Q I h
  refine attr_of hb (thn (he pins s σ H _ I h) fun u s1 ⟨x, H1, I1, rx, a, C, dx, fs, v, ex, ea, c, n, l, q⟩ => ?_)
  subst ex
  obtain rfl : u = Value.ref a := rx
  exact getattr_ok I1 ea c n l fun u' s2 I2 ru => ⟨v, H1, I2, ru, q⟩
theorem ps_fld (ha : PE X o ta) (hv : PE X value tv) (hs : swapsWith value (some (.Attribute o f pos')) pos.line X.env = pure false) : PS X (.Assign [.Attribute o f pos'] value pos) (sFld X.K ta tv f) := by
  intro pins s σ H D I h
  refine plainObj_wpAny_Assign_Attribute (thn (hv pins s σ H _ I h) fun u s1 ⟨y, H1, I1, ry, q⟩ => thn (ha pins s1 σ H1 _ I1 q) fun ov s2 ⟨x, H2, I2, rx, a, C, dx, fs, ex, ea, c, n, l, q2⟩ => ?_) hs
  subst ex
  obtain rfl : ov = Value.ref a := rx
  exact setattr_ok I2 ea c n l ry fun s3 I3 => ⟨σ, _, I3, q2⟩
theorem ps_fldaug {op : Operator} {rd : V → V → Hp → VK → Prop} (ha : PE X o ta) (hv : PE X value tv) (hop : InOp X op rd) : PS X (.AugAssign (.Attribute o f tpos) op value pos) (sFldAug X.K ta tv rd f) := by
  intro pins s σ H D I h
  refine wpAny_AugAssign_AttributeAny (thn (ha pins s σ H _ I h) fun ov s1 ⟨x, H1, I1, rx, a, C, dx, fs, v, ex, ea, c, n, l, q⟩ => ?_)
  subst ex
  obtain rfl : ov = Value.ref a := rx
  refine getattr_ok I1 ea c n l fun u s2 I2 ru => thn (hv pins s2 σ H1 _ I2 q) fun w3 s3 ⟨y, H2, I3, ry, q3⟩ => thn (hop pins s3 σ H2 v y u w3 _ I3 ru ry q3) fun w4 s4 ⟨z, H3, I4, rz, dx', fs', ea', l', q4⟩ => ?_
  exact setattr_ok I4 ea' c n l' rz fun s5 I5 => ⟨σ, _, I5, q4⟩
def rAdd : V → V → Hp → VK → Prop := fun x y H Q => ∃ i j, x = .int i ∧ y = .int j ∧ Q (.int (i + j)) H
theorem in_add : InOp X .Add rAdd := by
  rintro pins s σ H x y u v Q I rx ry ⟨i, j, rfl, rfl, q⟩
  obtain ⟨t, rfl⟩ := (show ∃ t, u = Value.int i t from rx)
  obtain ⟨t', rfl⟩ := (show ∃ t', v = Value.int j t' from ry)
  exact PyProof.Rows.iadd_int ⟨.int (i + j), H, I.tok _, ⟨_, rfl⟩, q⟩
end
section
variable {X : Cx} {pins : List (Addr × Obj)} {σ : St} {H : Hp} {s : Shared} {A : Around} {E : Value → Shared → Prop} {Q : Value → Shared → Prop} {c : Value} {b : Bool}
end
end L2
namespace L2
open PySem PySem.Spec PyProof.Rows
structure Room (k : Nat) (A : Around) : Prop where
  hd : A.handled = none
  dp : A.depth + 3 * k + 5 < recursionLimit
  un : A.units + 16 * k + 200 < cLine
theorem Room.mono {j k : Nat} {A : Around} (r : Room k A) (h : j ≤ k) : Room j A := ⟨r.hd, by have := r.dp; omega, by have := r.un; omega⟩
theorem Room.deeper {k : Nat} {A : Around} (r : Room (k + 1) A) (env : Env) : Room k (A.deeper env) :=
  ⟨r.hd, by have := r.dp; show A.depth + 1 + 3 * k + 5 < _; omega, by have := r.un; show A.units + 3 + 16 * k + 200 < _; omega⟩
theorem make_depth {A : Around} {C : Addr} {us : List Value} {kw : List (Str × Value)} : (A.under (.builtin "type.__call__" ⟨.ref C :: us, kw⟩)).depth = A.depth + 1 := by
  first | rfl | simp [Around.under, Code.weight, Code.isCreation, Code.isGuard, Code.isCaller, Code.frames, Code.isFrame, guardIds]
theorem make_units {A : Around} {C : Addr} {us : List Value} {kw : List (Str × Value)} : (A.under (.builtin "type.__call__" ⟨.ref C :: us, kw⟩)).units = A.units + 1 := by
  first | rfl | simp [Around.under, Code.cUnits, Code.frames, Code.isFrame]
theorem Room.make {k : Nat} {A : Around} (r : Room (k + 1) A) (C : Addr) (us : List Value) (kw : List (Str × Value)) : Room k (A.under (.builtin "type.__call__" ⟨.ref C :: us, kw⟩)) :=
  ⟨r.hd, by have := r.dp; rw [make_depth]; omega, by have := r.un; rw [make_units]; omega⟩
theorem Room.depth {k : Nat} {A : Around} (r : Room k A) : A.depth < recursionLimit := by have := r.dp; omega
def tNil : TA := fun _ H Q => Q [] H
def tCons (ta : TE) (tr : TA) : TA := fun σ H Q => ta σ H fun x H1 => tr σ H1 fun xs H2 => Q (x :: xs) H2
section
variable {X : Cx} {e : Expr} {es : List Expr} {te : TE} {t : TA} {pos : Pos}
theorem pa_nil : PA X [] tNil := fun _ _ _ _ H Q I h => Calls.spliced_nil ⟨[], H, I, .nil, h⟩
theorem pa_cons (ha : PE X e te) (hr : PA X es t) (hs : starEach (e :: es) X.env = (false, eval e X.env) :: starEach es X.env := by rfl) : PA X (e :: es) (tCons te t) := by
  intro pos pins s σ H Q I h
  rw [hs]
  show wpAny _ _ (spliced ((false, eval e X.env) :: backTo pos (starEach es X.env))) _ _ s
  refine Calls.spliced_cons (thn (ha pins s σ H _ I h) fun u s1 ⟨x, H1, I1, r1, q1⟩ => ?_)
  exact thn (hr pos pins s1 σ H1 _ I1 q1) fun us s2 ⟨xs, H2, I2, r2, q2⟩ => ⟨x :: xs, H2, I2, .cons r1 r2, q2⟩
def tTup (t : TA) : TE := fun σ H Q => t σ H fun xs H1 => xs.length ≤ sizeLine ∧ ∀ p, H1 p = none → Q (.ref p) (upd H1 p (.tup xs))
def tLst (t : TA) : TE := fun σ H Q => t σ H fun xs H1 => xs.length ≤ sizeLine ∧ ∀ p, H1 p = none → Q (.ref p) (upd H1 p (.lst xs))
theorem pe_tup {x1} (h : PA X es t) : PE X (.Tuple es x1 pos) (tTup t) := by
  intro pins s σ H Q I hq
  refine wpAny_Tuple_spliced (thn (h pos pins s σ H _ I hq) fun us s1 ⟨xs, H1, I1, r, z, q⟩ => ⟨by rw [← r.length]; exact z, ?_⟩)
  have hf : H1 s1.heap.objs.size = none := I1.hok.fresh (Nat.le_refl _)
  refine ⟨.ref s1.heap.objs.size, upd H1 s1.heap.objs.size (.tup xs), I1.laid (t' := s1.toks) (fun b u e => Heap.get?_push_of_some _ e) (Nat.le_refl _) ?_, rfl, q _ hf⟩
  exact ⟨z, us, r, ⟨_, Heap.get?_push_size _ rfl, rfl, _, rfl⟩⟩
theorem pe_lst (h : PA X es t) : PE X (.List es pos) (tLst t) := by
  intro pins s σ H Q I hq
  refine wpAny_List_spliced (thn (h pos pins s σ H _ I hq) fun us s1 ⟨xs, H1, I1, r, z, q⟩ => ⟨by rw [← r.length]; exact z, ?_⟩)
  have hf : H1 s1.heap.objs.size = none := I1.hok.fresh (Nat.le_refl _)
  refine ⟨.ref s1.heap.objs.size, upd H1 s1.heap.objs.size (.lst xs), I1.laid (t' := s1.toks) (fun b u e => Heap.get?_push_of_some _ e) (Nat.le_refl _) ?_, rfl, q _ hf⟩
  exact ⟨z, us, 0, r, Heap.get?_push_size _ rfl⟩
end
abbrev Sp := List V → Hp → VK → XK → Prop
abbrev CXT := List Env → Hp → Shared → XK → Value → Shared → Prop
structure Env0 (P : Program) (w : World) (K : PySem.W.Frag) (mg : Str → Option Value) (base : Heap) (A : Around) (outer : List Env) (s : Shared) (H : Hp) : Prop where
  frames : A.frames = some outer
  mod : Mod K mg base
  bs : ∀ b o, base.get? b = some o → s.heap.get? b = some o ∧ H b = none
  bsz : base.objs.size ≤ s.heap.objs.size
  funs : s.heap.FunFrames base outer
  frf : ∀ b ∈ frs outer, H b = none
  hok : HOk P w H s.heap
  bare : AllBare s.gens
def CE (outer : List Env) (P : Program) (w : World) (H : Hp) (s : Shared) (Q : VK) (u : Value) (s' : Shared) : Prop :=
  ∃ v H', s'.os = s.os ∧ AllBare s'.gens ∧ Un (frs outer) [] H H' s.heap s'.heap ∧ HOk P w H' s'.heap ∧ RelV v u ∧ Q v H'
def CR (CX : CXT) (outer : List Env) (P : Program) (w : World) (H : Hp) (s : Shared) (Q : VK) (E : XK) (r : Result) (s' : Shared) : Prop :=
  match r with
  | .ok (.ret u) => CE outer P w H s Q u s'
  | .ok _ => False
  | .error e => CX outer H s E e s'
structure FnOk (P : Program) (w : World) (K : PySem.W.Frag) (mg : Str → Option Value) (base : Heap) (CX : CXT) (k : Nat) (f : Addr) (fd : FuncData) (ps : List Str) (sp : Sp) : Prop where
  len : ∀ vs H Q E, sp vs H Q E → vs.length = ps.length
  run : ∀ (A : Around) (outer : List Env) (s : Shared) (H : Hp) (args : Args) (us : List Value) (vs : List V) (Q : VK) (E : XK), Room k A → Env0 P w K mg base A outer s H → BindsTo s fd args (ps.zip us) → Vals vs us → sp vs H Q E →
    codeAny (model P w) A (.call (.ref f) args) (CR CX outer P w H s Q E) s
theorem Env0.make {P : Program} {w : World} {K : PySem.W.Frag} {mg : Str → Option Value} {base : Heap} {A : Around} {outer : List Env} {s : Shared} {H : Hp} (e : Env0 P w K mg base A outer s H) (C : Addr) (us : List Value) (kw : List (Str × Value)) :
    Env0 P w K mg base (A.under (.builtin "type.__call__" ⟨.ref C :: us, kw⟩)) outer s H := ⟨by first | exact e.frames | (simpa [Around.under, Code.envs, Code.isFrame, pushEnvs] using e.frames), e.mod, e.bs, e.bsz, e.funs, e.frf, e.hok, e.bare⟩
section
variable {X : Cx} {pins : List (Addr × Obj)} {σ : St} {H : Hp} {s s' : Shared}
theorem Inv.env0 (I : Inv X pins σ H s) : Env0 X.prog X.w X.K X.mg X.base X.A X.stack s H :=
  ⟨I.ok.frames, I.ok.mod, I.bs, Nat.le_trans I.ok.bsz I.sz, I.stack, I.stkFree, I.hok, I.bare⟩
theorem Inv.after {Q : VK} {u : Value} (I : Inv X pins σ H s) (h : CE X.stack X.prog X.w H s Q u s') : EP X pins σ Q u s' := by
  obtain ⟨v, H', os, bare, un, hok, r, q⟩ := h
  obtain ⟨hh, g, d, t, os'⟩ := s'
  obtain rfl : os' = s.os := os
  exact ⟨v, H', I.call (h' := hh) (g' := g) (d' := d) (t' := t) (ch := []) un hok bare (fun b z => absurd z (by simp)), r, q⟩
end
def tCall (sp : Sp) (dvs : List V) (E : XK) (t : TA) : TE := fun σ H Q => t σ H fun vs H1 => sp (vs ++ dvs) H1 Q E
def tMeth (C : Addr) (m : Str) (sp : Sp) (dvs : List V) (E : XK) (ta : TE) (t : TA) : TE := fun σ H Q => ta σ H fun x H1 => ∃ a dx fs, x = .ref a ∧ H1 a = some (.ins C dx fs) ∧ fs.lookup m = none ∧
  t σ H1 fun vs H2 => sp (x :: (vs ++ dvs)) H2 Q E
def tMake (C : Addr) (sp : Sp) (dvs : List V) (E : XK) (t : TA) : TE := fun σ H Q => t σ H fun vs H1 => ∀ x dx, H1 x = none → H1 dx = none → dx ≠ x →
  sp (.ref x :: (vs ++ dvs)) (upd (upd H1 dx (.own x)) x (.ins C dx [])) (fun v H2 => v = .non ∧ Q (.ref x) H2) E
def Binds (K : PySem.W.Frag) (fd : FuncData) (ps : List Str) (ds : List Value) : Prop :=
  ∀ (s : Shared) (us : List Value), K.In s.heap → (us ++ ds).length = ps.length → BindsTo s fd ⟨us, []⟩ (ps.zip (us ++ ds))
theorem Binds.all {K : PySem.W.Frag} {fd : FuncData} {ps : List Str} (h : ∀ us : List Value, us.length = ps.length → bindArgs fd ⟨us, []⟩ = pure (ps.zip us)) : Binds K fd ps [] := fun s us _ hl => by
  rw [List.append_nil] at hl ⊢
  exact .of_eq (h us hl)
def Passes (CX : CXT) (X : Cx) (E : XK) : Prop := ∀ (pins : List (Addr × Obj)) (σ : St) (H : Hp) (s : Shared) (e : Value) (s' : Shared), Inv X pins σ H s → CX X.stack H s E e s' → X.xe e s'
section
variable {X : Cx} {CX : CXT} {k : Nat} {f C : Addr} {fd : FuncData} {ps : List Str} {sp : Sp} {dvs : List V} {ds : List Value} {E : XK} {x m : Str} {p pos apos : Pos} {e o : Expr} {es : List Expr} {ta : TE} {t : TA}
theorem run_fn {pins : List (Addr × Obj)} {σ : St} {H : Hp} {s : Shared} {Q : VK} {us : List Value} {vs : List V} (F : FnOk X.prog X.w X.K X.mg X.base CX k f fd ps sp) (hr : Room k X.A) (hb : Binds X.K fd ps ds) (hd : Vals dvs ds) (hx : Passes CX X E)
    (I : Inv X pins σ H s) (r : Vals vs us) (h : sp (vs ++ dvs) H Q E) : wpAny (model X.prog X.w) X.A (call (.ref f) us) (EP X pins σ Q) X.xe s := by
  have r2 : Vals (vs ++ dvs) (us ++ ds) := r.append hd
  have hl : (us ++ ds).length = ps.length := by rw [← r2.length]; exact F.len _ _ _ _ h
  refine wpAny_call (codeAny_mono (F.run X.A X.stack s H ⟨us, []⟩ (us ++ ds) (vs ++ dvs) Q E hr I.env0 (hb s us I.kIn hl) r2 h) fun r s' hq => ?_)
  cases r with
  | error e => exact hx pins σ H s e s' I hq
  | ok fl =>
    cases fl with
    | ret u => exact I.after hq
    | next => exact False.elim hq
    | brk => exact False.elim hq
    | cont => exact False.elim hq
theorem pe_call (F : FnOk X.prog X.w X.K X.mg X.base CX k f fd ps sp) (hr : Room k X.A) (hg : Gl X x) (hm : X.mg x = some (.ref f)) (hk : PySem.W.keepIn X.K (.ref f) = true) (hb : Binds X.K fd ps ds) (hd : Vals dvs ds) (hx : Passes CX X E)
    (ha : PA X (e :: es) t) (hdb : (x == ("__debug__" : Str)) = false := by decide) (he : starEach (e :: es) X.env = (false, eval e X.env) :: starEach es X.env := by rfl) (hpl : (backTo pos (starEach es X.env)).any (·.1) = false := by rfl) :
    PE X (.Call (.Name x p) (e :: es) [] pos) (tCall sp dvs E t) := by
  intro pins s σ H Q I h
  refine wpAny_Call_Name_kw (ld_glob I hg hm ?_ hdb)
  refine PySem.W.callWith_K (h₀ := X.base) I.ok.mod.kin hk (thn (ha pos pins s σ H _ I h) fun us s1 ⟨vs, H1, I1, r, q⟩ => ⟨I1.kIn, ?_⟩) he hpl
  exact run_fn F hr hb hd hx I1 r q
theorem pe_meth {pl : Sem Bool} (he : PE X o ta) (c : Cls X.K C) (hm : Meth X.K C m f) (F : FnOk X.prog X.w X.K X.mg X.base CX k f fd ps sp) (hr : Room k X.A) (hb : Binds X.K fd ps ds) (hd : Vals dvs ds) (hx : Passes CX X E) (ha : PA X (e :: es) t)
    (hst : starEach (e :: es) X.env = (false, eval e X.env) :: starEach es X.env := by rfl) (hpl : (backTo pos (starEach es X.env)).any (·.1) = false := by rfl)
    (ht : eval (.Call (.Attribute o m apos) (e :: es) [] pos) X.env = (do
      let ov ← eval o X.env
      standAt apos.atName
      let (f, first) ← holding [ov] (getMethod ov m pl)
      callWith pos f first (backTo pos (starEach (e :: es) X.env)) (backToKw pos (keywordEach [] X.env))) := by rfl) :
    PE X (.Call (.Attribute o m apos) (e :: es) [] pos) (tMeth C m sp dvs E ta t) := by
  intro pins s σ H Q I h
  refine PySem.W.methodCall_KW (pl := pl) (thn (he pins s σ H _ I h) fun u s1 ⟨x, H1, I1, rx, a, dx, fs, ex, ea, l, q⟩ => ?_) ht
  subst ex
  obtain rfl : u = Value.ref a := rx
  refine getmeth_ok I1 ea c hm l ?_
  refine PySem.W.callWith_K (first := [.ref a]) (h₀ := X.base) I.ok.mod.kin hm.kp (thn (ha pos pins s1 σ H1 _ I1 q) fun us s2 ⟨vs, H2, I2, r, q2⟩ => ⟨I2.kIn, ?_⟩) hst hpl
  exact run_fn (us := .ref a :: us) (vs := .ref a :: vs) F hr hb hd hx I2 (.cons rfl r) q2
theorem pe_meth0 {pl : Sem Bool} (he : PE X o ta) (c : Cls X.K C) (hm : Meth X.K C m f) (F : FnOk X.prog X.w X.K X.mg X.base CX k f fd ps sp) (hr : Room k X.A) (hb : Binds X.K fd ps ds) (hd : Vals dvs ds) (hx : Passes CX X E)
    (ht : eval (.Call (.Attribute o m apos) [] [] pos) X.env = (do
      let ov ← eval o X.env
      standAt apos.atName
      let (f, first) ← holding [ov] (getMethod ov m pl)
      callWith pos f first (backTo pos (starEach [] X.env)) (backToKw pos (keywordEach [] X.env))) := by rfl) :
    PE X (.Call (.Attribute o m apos) [] [] pos) (tMeth C m sp dvs E ta tNil) := by
  intro pins s σ H Q I h
  refine PySem.W.methodCall_KW (pl := pl) (thn (he pins s σ H _ I h) fun u s1 ⟨x, H1, I1, rx, a, dx, fs, ex, ea, l, q⟩ => ?_) ht
  subst ex
  obtain rfl : u = Value.ref a := rx
  refine getmeth_ok I1 ea c hm l ?_
  exact PySem.W.callWith_K0 (first := [.ref a]) I1.kIn hm.kp (run_fn (us := [.ref a]) (vs := [.ref a]) F hr hb hd hx I1 (.cons rfl .nil) q)
structure Mk (K : PySem.W.Frag) (C f : Addr) : Prop where
  makes : PySem.W.makesIn K C = true
  init : PySem.W.findIn K (.ref C) "__init__" = some (some (.ref f))
  fn : PySem.W.isFn K (.ref f) = true
  kp : PySem.W.keepIn K (.ref C) = true
theorem run_make {pins : List (Addr × Obj)} {σ : St} {H : Hp} {s : Shared} {Q : VK} {us : List Value} {vs : List V} (M : Mk X.K C f) (F : FnOk X.prog X.w X.K X.mg X.base CX k f fd ps sp) (hr : Room (k + 1) X.A) (hb : Binds X.K fd ps ds) (hd : Vals dvs ds)
    (hx : Passes CX X E) (I : Inv X pins σ H s) (r : Vals vs us)
    (h : ∀ x dx, H x = none → H dx = none → dx ≠ x → sp (.ref x :: (vs ++ dvs)) (upd (upd H dx (.own x)) x (.ins C dx [])) (fun v H2 => v = .non ∧ Q (.ref x) H2) E) :
    wpAny (model X.prog X.w) X.A (call (.ref C) us) (EP X pins σ Q) X.xe s := by
  have hq := h (s.heap.objs.size + 1) s.heap.objs.size (I.hok.fresh (Nat.le_succ _)) (I.hok.fresh (Nat.le_refl _)) (Nat.ne_of_lt (Nat.lt_succ_self _))
  have I2 := Inv.made (C := C) I
  have r2 : Vals (V.ref (s.heap.objs.size + 1) :: (vs ++ dvs)) (Value.ref (s.heap.objs.size + 1) :: (us ++ ds)) := .cons rfl (r.append hd)
  have hl : (Value.ref (s.heap.objs.size + 1) :: us ++ ds).length = ps.length := by
    have e := r2.length
    rw [F.len _ _ _ _ hq] at e
    exact e.symm
  refine wpAny_call (make_map (f := f) I.kIn M.makes M.init (beq_iff_eq.mp M.fn) (codeAny_mono (F.run _ X.stack _ _ ⟨Value.ref (s.heap.objs.size + 1) :: us, []⟩ (Value.ref (s.heap.objs.size + 1) :: (us ++ ds)) _ _ E (hr.make C us [])
    (I2.env0.make C us []) (hb _ (Value.ref (s.heap.objs.size + 1) :: us) I2.kIn hl) r2 hq) fun r s' hq' => ?_))
  cases r with
  | error e => exact hx pins σ _ _ e s' I2 hq'
  | ok fl =>
    cases fl with
    | ret u =>
      obtain ⟨v, H', I3, rv, ev, q3⟩ := I2.after hq'
      subst ev
      exact ⟨rv, ⟨V.ref (s.heap.objs.size + 1), H', I3, rfl, q3⟩⟩
    | next => exact False.elim hq'
    | brk => exact False.elim hq'
    | cont => exact False.elim hq'
theorem pe_make (M : Mk X.K C f) (F : FnOk X.prog X.w X.K X.mg X.base CX k f fd ps sp) (hr : Room (k + 1) X.A) (hg : Gl X x) (hm : X.mg x = some (.ref C)) (hb : Binds X.K fd ps ds) (hd : Vals dvs ds) (hx : Passes CX X E)
    (ha : PA X (e :: es) t) (hdb : (x == ("__debug__" : Str)) = false := by decide) (he : starEach (e :: es) X.env = (false, eval e X.env) :: starEach es X.env := by rfl) (hpl : (backTo pos (starEach es X.env)).any (·.1) = false := by rfl) :
    PE X (.Call (.Name x p) (e :: es) [] pos) (tMake C sp dvs E t) := by
  intro pins s σ H Q I h
  refine wpAny_Call_Name_kw (ld_glob I hg hm ?_ hdb)
  refine PySem.W.callWith_K (h₀ := X.base) I.ok.mod.kin M.kp (thn (ha pos pins s σ H _ I h) fun us s1 ⟨vs, H1, I1, r, q⟩ => ⟨I1.kIn, ?_⟩) he hpl
  exact run_make M F hr hb hd hx I1 r q
theorem pe_make0 (M : Mk X.K C f) (F : FnOk X.prog X.w X.K X.mg X.base CX k f fd ps sp) (hr : Room (k + 1) X.A) (hg : Gl X x) (hm : X.mg x = some (.ref C)) (hb : Binds X.K fd ps ds) (hd : Vals dvs ds) (hx : Passes CX X E)
    (hdb : (x == ("__debug__" : Str)) = false := by decide) : PE X (.Call (.Name x p) [] [] pos) (tMake C sp dvs E tNil) := by
  intro pins s σ H Q I h
  refine wpAny_Call_Name_kw (ld_glob I hg hm ?_ hdb)
  exact PySem.W.callWith_K0 I.kIn M.kp (run_make (us := []) M F hr hb hd hx I .nil h)
end
section
variable {X : Cx} {CX : CXT} {k : Nat} {f C : Addr} {fd : FuncData} {ps ks : List Str} {sp : Sp} {E : XK} {x m : Str} {p pos apos kpos : Pos} {e o : Expr} {es : List Expr} {kws : List Keyword} {te ta : TE} {t tk : TA} {nm : Option Str}
variable {g : List Value → List Value → List Value} {gV : List V → List V → List V}
end
structure FnScope (N P : List Str) (sc : Scope) : Prop where
  kind : sc.kind = .function
  co : sc.isCoroutine = false
  gen : sc.isGenerator = false
  nd : N.Nodup
  pre : N.take P.length = P
  par : ∀ x ∈ P, sc.names.lookup x = some .local ∨ sc.names.lookup x = some .cell
  nofree : ∀ y ∈ sc.names, y.2 ≠ .free
theorem bindL_out {kindOf : Str → Option NameKind} {x : Str} : ∀ {binds : List (Str × Value)} {m : Str → Option Value}, (∀ v, (x, v) ∉ binds) → bindL kindOf binds m x = m x
  | [], _, _ => rfl
  | (n, v) :: r, m, h => by
    unfold bindL
    rw [bindL_out fun w hw => h w (List.mem_cons_of_mem _ hw)]
    split
    · have : x ≠ n := by rintro rfl; exact h v List.mem_cons_self
      simp [this]
    · rfl
theorem bindC_out {kindOf : Str → Option NameKind} {x : Str} : ∀ {binds : List (Str × Value)} {m : Str → Option Value}, (∀ v, (x, v) ∉ binds) → bindC kindOf binds m x = m x
  | [], _, _ => rfl
  | (n, v) :: r, m, h => by
    unfold bindC
    rw [bindC_out fun w hw => h w (List.mem_cons_of_mem _ hw)]
    split
    · rfl
    · have : x ≠ n := by rintro rfl; exact h v List.mem_cons_self
      simp [this]
theorem bindL_get {kindOf : Str → Option NameKind} {x : Str} {v : Value} : ∀ {P : List Str} {vs : List Value} {i : Nat} {m : Str → Option Value}, P.Nodup → P[i]? = some x → vs[i]? = some v → kindOf x = some .local →
    bindL kindOf (P.zip vs) m x = some v
  | [], _, _, _, _, h, _, _ => by simp at h
  | _ :: _, [], _, _, _, _, h, _ => by simp at h
  | p :: P, w :: vs, 0, m, nd, h1, h2, hk => by
    simp at h1 h2; subst h1; subst h2
    show bindL kindOf ((p, w) :: P.zip vs) m p = _
    unfold bindL
    rw [bindL_out fun v hv => (List.nodup_cons.mp nd).1 (List.of_mem_zip hv).1, if_pos hk]
    simp
  | p :: P, w :: vs, i + 1, m, nd, h1, h2, hk => by
    show bindL kindOf ((p, w) :: P.zip vs) m x = _
    unfold bindL
    exact bindL_get (i := i) (List.nodup_cons.mp nd).2 (by simpa using h1) (by simpa using h2) hk
theorem bindC_get {kindOf : Str → Option NameKind} {x : Str} {v : Value} : ∀ {P : List Str} {vs : List Value} {i : Nat} {m : Str → Option Value}, P.Nodup → P[i]? = some x → vs[i]? = some v → kindOf x ≠ some .local →
    bindC kindOf (P.zip vs) m x = some v
  | [], _, _, _, _, h, _, _ => by simp at h
  | _ :: _, [], _, _, _, _, h, _ => by simp at h
  | p :: P, w :: vs, 0, m, nd, h1, h2, hk => by
    simp at h1 h2; subst h1; subst h2
    show bindC kindOf ((p, w) :: P.zip vs) m p = _
    unfold bindC
    rw [bindC_out fun v hv => (List.nodup_cons.mp nd).1 (List.of_mem_zip hv).1, if_neg hk]
    simp
  | p :: P, w :: vs, i + 1, m, nd, h1, h2, hk => by
    show bindC kindOf ((p, w) :: P.zip vs) m x = _
    unfold bindC
    exact bindC_get (i := i) (List.nodup_cons.mp nd).2 (by simpa using h1) (by simpa using h2) hk
def start (N : List Str) (vs : List V) : St := vs.map some ++ List.replicate (N.length - vs.length) none
def cxOf (CX : CXT) (P : Program) (w : World) (K : PySem.W.Frag) (mg : Str → Option Value) (base : Heap) (N : List Str) (qual : Str) (scope : Scope) (f : Addr) (cd : Value) (A : Around) (outer : List Env) (s : Shared) (H : Hp) (E : XK) : Cx where
  prog := P
  w := w
  K := K
  mg := mg
  base := base
  A := A.deeper (envOfC qual scope s.heap.objs.size f cd)
  N := N
  s_0 := s
  H_0 := H
  env := envOfC qual scope s.heap.objs.size f cd
  outer := outer
  stack := envOfC qual scope s.heap.objs.size f cd :: outer
  ex := []
  calm := true
  fn := fun _ => true
  pn := []
  xe := fun e s' => wpAny (model P w) (A.deeper (envOfC qual scope s.heap.objs.size f cd)) (leaving (envOfC qual scope s.heap.objs.size f cd) e) (fun _ s'' => CX outer H s E e s'') (fun e' s'' => CX outer H s E e' s'') s'
theorem cell_has {sc : Scope} {n : Nat} {x : Str} (h : sc.names.lookup x = some .cell) : ∃ c, (cellsFrom n sc.names []).lookup x = some c := by
  have q := PySem.W.cellsFrom_some sc.names n [] (.inl h)
  exact Option.isSome_iff_exists.mp q
theorem inv_start {CX : CXT} {P : Program} {w : World} {K : PySem.W.Frag} {mg : Str → Option Value} {base : Heap} {N ps : List Str} {qual : Str} {scope : Scope} {f : Addr} {cd : Value} {A : Around} {outer : List Env} {s s1 : Shared} {H : Hp} {E : XK} {us : List Value} {vs : List V}
    (S : FnScope N ps scope) (hd : A.handled = none) (e0 : Env0 P w K mg base A outer s H) (hl : vs.length = ps.length) (r : Vals vs us)
    (x : InCallC s s.heap.objs.size (bindL (envOfC qual scope s.heap.objs.size f cd).kindOf (ps.zip us) fun _ => none) (cellsFrom (s.heap.objs.size + 1) scope.names []) (bindC (envOfC qual scope s.heap.objs.size f cd).kindOf (ps.zip us) fun _ => none) s1) :
    Inv (cxOf CX P w K mg base N qual scope f cd A outer s H E) [] (start N vs) H s1 := by
  have hpl : ps.length ≤ N.length := by have := congrArg List.length S.pre; rw [List.length_take] at this; omega
  obtain ⟨h1, tk, rfl, hk⟩ := x.done
  have noA : ∀ b : Addr, b ∉ (cxOf CX P w K mg base N qual scope f cd A outer s H E).ex := fun b z => absurd (show b ∈ ([] : List Addr) from z) (by simp)
  refine ⟨⟨e0.mod, S.kind, rfl, rfl, Nat.le_refl _, fun y z c h1 h2 => ?_, fun y hy => ?_, fun y c _ h => ?_, fun _ => hd, Around.frames_deeper e0.frames, .inr ⟨rfl, rfl⟩, fun b z => absurd z (noA b), e0.bs, e0.bsz, fun b _ _ => noA b, fun b z => absurd z (noA b), e0.funs, e0.frf⟩,
    rfl, e0.bare, Un.kept hk, ⟨_, x.toInCall.ns, fun i y v h1 h2 h3 => ?_⟩, fun y c h => ⟨_, x.cell y c h⟩, e0.hok.fresh (Nat.le_refl _), fun y c h => ?_, fun p hp => absurd (show p ∈ ([] : List (Addr × Obj)) from hp) (by simp), e0.hok.kept hk, ?_⟩
  · exact name_of_addr x.apart (PySem.mem_of_lookup h1) (PySem.mem_of_lookup h2)
  · have hy : scope.names.lookup y = some .cell ∨ scope.names.lookup y = some .free := hy
    rcases hy with hy | hy
    · exact cell_has hy
    · exact absurd rfl (S.nofree _ (PySem.mem_of_lookup hy))
  · exact Nat.le_of_lt (x.above y c (PySem.mem_of_lookup h))
  · have hi : i < vs.length := by
      unfold start at h2
      by_cases hi : i < vs.length
      · exact hi
      · rw [List.getElem?_append_right (by simpa using hi)] at h2
        rw [List.getElem?_replicate] at h2
        split at h2 <;> cases h2
    have ha : vs[i]? = some v := by
      unfold start at h2
      rw [List.getElem?_append_left (by simpa using hi), List.getElem?_map] at h2
      cases e : vs[i]? with
      | none => rw [e] at h2; cases h2
      | some a => rw [e] at h2; cases h2; rfl
    obtain ⟨u, hu, rv⟩ := r.get ha
    have hp : ps[i]? = some y := by
      rw [← S.pre, List.getElem?_take_of_lt (by omega)]; exact h1
    have ndP : ps.Nodup := by rw [← S.pre]; exact S.nd.sublist (List.take_sublist _ _)
    refine ⟨u, rv, ?_⟩
    rcases S.par y (List.mem_of_getElem? hp) with k | k
    · exact .inl ⟨k, bindL_get ndP hp hu k⟩
    · obtain ⟨c, e⟩ := cell_has (n := s.heap.objs.size + 1) k
      refine .inr ⟨.inl k, c, e, ?_⟩
      have q := x.cell y c e
      rw [bindC_get ndP hp hu (by show scope.names.lookup y ≠ _; rw [k]; decide)] at q
      exact q
  · exact e0.hok.fresh (Nat.le_of_lt (x.above y c (PySem.mem_of_lookup h)))
  · unfold start
    show _ = N.length
    rw [List.length_append, List.length_map, List.length_replicate]
    omega
theorem fn_of {CX : CXT} {P : Program} {w : World} {K : PySem.W.Frag} {mg : Str → Option Value} {base : Heap} {k : Nat} {f : Addr} {name qual : Str} {params : Arguments} {body : List Stmt} {scope : Scope} {dV kV doc pm cdv ct oc : Value} {an od : Option Addr}
    {osl : Array (Option Value)} {N ps : List Str} {sp : Sp} (lk : K.lookup f = some ⟨oc, od, .func (PySem.W.fnOf name qual params body scope dV kV doc pm an cdv ct), osl⟩) (hcd : PySem.W.codeIn K cdv qual = true) (S : FnScope N ps scope)
    (len : ∀ vs H Q E, sp vs H Q E → vs.length = ps.length)
    (hbody : ∀ (A : Around) (outer : List Env) (s : Shared) (H : Hp) (vs : List V) (Q : VK) (E : XK), Room k (A.deeper (envOfC qual scope s.heap.objs.size f cdv)) → sp vs H Q E →
      ∃ t, PSs (cxOf CX P w K mg base N qual scope f cdv A outer s H E) body t ∧ t { nx := fun _ H' => Q .non H', rt := Q } (start N vs) H) :
    FnOk P w K mg base CX (k + 1) f (PySem.W.fnOf name qual params body scope dV kV doc pm an cdv ct) ps sp := by
  refine ⟨len, fun A outer s H args us vs Q E hr e0 hb r hsp => ?_⟩
  have hl := len _ _ _ _ hsp
  have KX : K.In s.heap := e0.mod.kin.keeps fun b o e => (e0.bs b o e).1
  have lim : s.heap.NoLimit := e0.mod.nolimit.keeps fun b o e => (e0.bs b o e).1
  have hkind : ∀ y ∈ ps.zip us, scope.names.lookup y.1 = some .local ∨ (scope.names.lookup y.1 = some .cell ∧ ((cellsFrom (s.heap.objs.size + 1) scope.names []).lookup y.1).isSome = true) := fun ⟨n, v⟩ hy => by
    rcases S.par n (List.of_mem_zip hy).1 with q | q
    · exact .inl q
    · exact .inr ⟨q, PySem.W.cellsFrom_some _ _ _ (.inl q)⟩
  refine codeAny_call_function hr.depth (KX _ _ lk) rfl S.co S.gen rfl (PySem.W.codeRec_of KX hcd) (hb _ _ _ _ ?_)
  refine wpAny_newFunctionEnv_cells S.kind hkind fun env he s1 x => ?_
  subst he
  refine ⟨lim.keeps x.toInCall.keep, codeAny_func ?_⟩
  obtain ⟨t, ht, hq⟩ := hbody A outer s H vs Q E (hr.deeper _) hsp
  have I : Inv (cxOf CX P w K mg base N qual scope f cdv A outer s H E) [] (start N vs) H s1 := inv_start S hr.hd e0 hl r x
  refine wpAny_mono (ht [] s1 (start N vs) H _ I hq) (fun fl s' hs => ?_) fun e s' hs => hs
  have fin : ∀ {σ' : St} {H' : Hp} {v : V} {u : Value}, Inv (cxOf CX P w K mg base N qual scope f cdv A outer s H E) [] σ' H' s' → RelV v u → Q v H' → CE outer P w H s Q u s' :=
    fun {σ' H' v u} J rv q => ⟨v, H', J.os, J.bare, J.base, J.hok, rv, q⟩
  cases fl with
  | ret u =>
    obtain ⟨v, σ', H', J, rv, q⟩ := hs
    exact fin J rv q
  | next =>
    obtain ⟨σ', H', J, q⟩ := hs
    exact fin (v := V.non) (u := Value.none) J rfl q
  | brk =>
    obtain ⟨_, _, _, q⟩ := hs
    exact False.elim q
  | cont =>
    obtain ⟨_, _, _, q⟩ := hs
    exact False.elim q
end L2
namespace L2
open PySem PySem.Spec PyProof.Rows
section
variable {X : Cx} {x : Str} {p pos : Pos} {e : Expr} {es : List Expr} {t : TA} {id T : String} {r : List V → Hp → VK → Prop}
def tCB (r : List V → Hp → VK → Prop) (t : TA) : TE := fun σ H Q => t σ H fun vs H1 => r vs H1 Q
theorem pe_callB (hc : CallR X (.builtin id) r) (hg : Gl X x) (hm : X.mg x = none) (hv : bootBuiltins x = some (.builtin id)) (ha : PA X (e :: es) t) (hn : x ≠ "__name__" := by decide) (hdb : (x == ("__debug__" : Str)) = false := by decide)
    (he : starEach (e :: es) X.env = (false, eval e X.env) :: starEach es X.env := by rfl) (hpl : (backTo pos (starEach es X.env)).any (·.1) = false := by rfl) : PE X (.Call (.Name x p) (e :: es) [] pos) (tCB r t) := by
  intro pins s σ H Q I h
  refine wpAny_Call_Name_kw (ld_blt I hg hm hv ?_ hn hdb)
  exact PyProof.Rows.callWith_builtin1 (thn (ha pos pins s σ H _ I h) fun us s1 ⟨vs, H1, I1, r1, q1⟩ => hc pins s1 σ H1 vs us Q I1 r1 q1) he hpl
theorem pe_callTy (hc : CallR X (.type T) r) (hg : Gl X x) (hm : X.mg x = none) (hv : bootBuiltins x = some (.type T)) (ha : PA X (e :: es) t) (hn : x ≠ "__name__" := by decide) (hdb : (x == ("__debug__" : Str)) = false := by decide)
    (he : starEach (e :: es) X.env = (false, eval e X.env) :: starEach es X.env := by rfl) (hpl : (backTo pos (starEach es X.env)).any (·.1) = false := by rfl) : PE X (.Call (.Name x p) (e :: es) [] pos) (tCB r t) := by
  intro pins s σ H Q I h
  refine wpAny_Call_Name_kw (ld_blt I hg hm hv ?_ hn hdb)
  exact PyProof.Rows.callWith_type1 (thn (ha pos pins s σ H _ I h) fun us s1 ⟨vs, H1, I1, r1, q1⟩ => hc pins s1 σ H1 vs us Q I1 r1 q1) he hpl
end
end L2
namespace HT
open PySem PyProof.Rows
section
open PySem.SeqAt
open PySem.AutoSeq1 (wpAny_loadPart')
open PySem.MeetsSeq PySem.MeetsSeq2 PySem.MeetsSeq3
end
section
variable {prog : Program} {w : World} {A : Around} {E : Value → Shared → Prop} {s : Shared}
def sIx (n d : Nat) : Option Int → Nat
  | none => d
  | some v => if v < 0 then (v + (n : Int)).toNat else min v.toNat n
theorem sIx_nat (n d k : Nat) : sIx n d (some (k : Int)) = min k n := by
  show (if (k : Int) < 0 then ((k : Int) + (n : Int)).toNat else min (k : Int).toNat n) = min k n
  rw [if_neg (by omega), Int.toNat_natCast]
end
end HT
namespace L2
open PySem PySem.Spec PyProof.Rows
abbrev TO := St → Hp → (Option Int → Hp → Prop) → Prop
def PO (X : Cx) (e : Option Expr) (t : TO) : Prop :=
  ∀ (pins : List (Addr × Obj)) (s : Shared) (σ : St) (H : Hp) (Q : Option Int → Hp → Prop), Inv X pins σ H s → t σ H Q →
    wpAny (model X.prog X.w) X.A (evalPart e X.env) (fun u s' => ∃ o H', Inv X pins σ H' s' ∧ IsPart u o ∧ Q o H') X.xe s
def tPart (t : TE) : TO := fun σ H Q => t σ H fun x H1 => ∃ i, x = .int i ∧ Q (some i) H1
section
variable {X : Cx} {e : Expr} {te : TE} {lo hi : Option Expr} {tl th : TO} {pos p2 : Pos}
theorem po_some (h : PE X e te) : PO X (some e) (tPart te) := by
  intro pins s σ H Q I hw
  rw [evalPart_some]
  refine thn (h pins s σ H _ I hw) fun u s1 ⟨x, H1, I1, r1, q1⟩ => ?_
  obtain ⟨i, rfl, q⟩ := q1
  obtain ⟨t, rfl⟩ := r1
  exact ⟨some i, H1, I1, .int i t, q⟩
def SlR (X : Cx) (r : V → Option Int → Option Int → Hp → VK → Prop) : Prop :=
  ∀ (pins : List (Addr × Obj)) (s : Shared) (σ : St) (H : Hp) (x : V) (v vl vu : Value) (lo hi : Option Int) (sl : Addr) (Q : VK), Inv X pins σ H s → RelV x v → s.heap.IsSliceOf sl vl vu .none → IsPart vl lo → IsPart vu hi → r x lo hi H Q →
    ∃ T id, typeLookup (.type T) "__getitem__" = pure (some (.builtin id)) ∧ s.TypeIs v T ∧ wpAny (model X.prog X.w) X.A (getItem v (.ref sl)) (EP X pins σ Q) X.xe s
def tSl (r : V → Option Int → Option Int → Hp → VK → Prop) (te : TE) (tl th : TO) : TE := fun σ H Q => te σ H fun x H1 => tl σ H1 fun l H2 => th σ H2 fun u H3 => r x l u H3 Q
theorem pe_slice {r : V → Option Int → Option Int → Hp → VK → Prop} (hr : SlR X r) (he : PE X e te) (hl : PO X lo tl) (hu : PO X hi th) : PE X (.Subscript e (.Slice lo hi none p2) pos) (tSl r te tl th) := by
  intro pins s σ H Q I h
  refine Subscript_ (thn (he pins s σ H _ I h) fun v s1 ⟨x, H1, I1, r1, q1⟩ => ?_)
  refine wpAny_Slice (thn (hl pins s1 σ H1 _ I1 q1) fun vl s2 ⟨l, H2, I2, pl, q2⟩ => thn (hu pins s2 σ H2 _ I2 q2) fun vu s3 ⟨u, H3, I3, pu, q3⟩ => ?_)
  rw [evalPart_none]
  refine wpAny_pure ?_
  have I4 : Inv X pins σ H3 { s3 with heap := s3.heap.push { cls := .type "slice", data := .fields #[vl, vu, .none] } } := I3.kept (t' := s3.toks) fun b ob q => Heap.get?_push_of_some _ q
  obtain ⟨T, id, hT, ht, hg⟩ := hr pins { s3 with heap := s3.heap.push { cls := .type "slice", data := .fields #[vl, vu, .none] } } σ H3 x v vl vu l u s3.heap.objs.size Q I4 r1 (Heap.IsSliceOf.new ..) pl pu q3
  show wpAny (model X.prog X.w) X.A (subscriptTail e (.Slice lo hi none p2) v (.ref s3.heap.objs.size)) (EP X pins σ Q) X.xe { s3 with heap := s3.heap.push { cls := .type "slice", data := .fields #[vl, vu, .none] } }
  exact tail_any (ops := [.ref s3.heap.objs.size, v]) ht hT hg (by with_unfolding_all rfl)
def cutV (xs : List V) (lo hi : Option Int) : List V := (xs.drop (HT.sIx xs.length 0 lo)).take (HT.sIx xs.length xs.length hi - HT.sIx xs.length 0 lo)
theorem cutV_length (xs : List V) (lo hi : Option Int) : (cutV xs lo hi).length ≤ xs.length := by
  unfold cutV
  rw [List.length_take, List.length_drop]
  omega
end
end L2
namespace L2
open PySem PySem.Spec PyProof.Rows
def ixN (n : Nat) (i : Int) : Option Nat := if 0 ≤ i then (if i < n then some i.toNat else none) else if -(n : Int) ≤ i then some (i + n).toNat else none
def atI {α : Type} (xs : List α) (i : Int) : Option α := (ixN xs.length i).bind fun j => xs[j]?
theorem ixN_seq {n : Nat} {i : Int} {j : Nat} (h : ixN n i = some j) : seqIndex? i n = some j ∧ j < n ∧ -(n : Int) ≤ i ∧ i < n := by
  unfold ixN at h
  by_cases h0 : 0 ≤ i
  · rw [if_pos h0] at h
    by_cases h1 : i < n
    · rw [if_pos h1] at h
      have e : i.toNat = j := Option.some.inj h
      exact ⟨by rw [seqIndex_of h0 h1, e], by omega, by omega, h1⟩
    · rw [if_neg h1] at h; cases h
  · rw [if_neg h0] at h
    by_cases h1 : -(n : Int) ≤ i
    · rw [if_pos h1] at h
      have e : (i + n).toNat = j := Option.some.inj h
      exact ⟨by rw [seqIndex_neg (by omega) h1, e], by omega, h1, by omega⟩
    · rw [if_neg h1] at h; cases h
theorem atI_get {α : Type} {xs : List α} {i : Int} {v : α} (h : atI xs i = some v) : ∃ j, seqIndex? i xs.length = some j ∧ xs[j]? = some v ∧ j < xs.length ∧ -(xs.length : Int) ≤ i ∧ i < xs.length := by
  unfold atI at h
  cases e : ixN xs.length i with
  | none => rw [e] at h; cases h
  | some j =>
    rw [e] at h
    obtain ⟨h1, h2, h3, h4⟩ := ixN_seq e
    exact ⟨j, h1, h, h2, h3, h4⟩
theorem atI_nat {α : Type} {xs : List α} {j : Nat} {v : α} (h : xs[j]? = some v) : atI xs (j : Int) = some v := by
  have hj : j < xs.length := (List.getElem?_eq_some_iff.mp h).1
  have e : ixN xs.length (j : Int) = some j := by
    unfold ixN
    rw [if_pos (by omega), if_pos (by omega)]; simp
  unfold atI; rw [e]; exact h
theorem atI_last {α : Type} (xs : List α) (v : α) : atI (xs ++ [v]) (-1) = some v := by
  have hl : (xs ++ [v]).length = xs.length + 1 := by simp
  have e : ixN (xs ++ [v]).length (-1) = some xs.length := by
    unfold ixN
    rw [hl, if_neg (by decide), if_pos (by omega)]
    congr 1
    omega
  unfold atI
  rw [e]
  show (xs ++ [v])[xs.length]? = some v
  simp
def PlainIx (b : Expr) : Prop := ∀ o i, subscripted b false o i = operate [o, i] (getItem o i)
def IxR (X : Cx) (r : R2) : Prop :=
  ∀ (value slice : Expr) (pins : List (Addr × Obj)) (s : Shared) (σ : St) (H : Hp) (x y : V) (v u : Value) (Q : VK), Inv X pins σ H s → RelV x v → RelV y u → r x y H Q →
    subscripted slice false v u = operate [v, u] (getItem v u) → wpAny (model X.prog X.w) X.A (subscriptTail value slice v u) (EP X pins σ Q) X.xe s
def MtR (X : Cx) (id : String) (r : V → List V → Hp → VK → Prop) : Prop :=
  ∀ (pins : List (Addr × Obj)) (s : Shared) (σ : St) (H : Hp) (x : V) (xs : List V) (v : Value) (us : List Value) (Q : VK), Inv X pins σ H s → RelV x v → Vals xs us → r x xs H Q →
    wpAny (model X.prog X.w) X.A (call (.builtin id) (v :: us)) (EP X pins σ Q) X.xe s
section
variable {X : Cx} {a b : Expr} {ta tb : TE} {pos : Pos}
theorem IxR.or {r r' : R2} (h : IxR X r) (h' : IxR X r') : IxR X (fun x y H Q => r x y H Q ∨ r' x y H Q) := by
  intro value slice pins s σ H x y v u Q I rx ry q hs
  rcases q with q | q
  · exact h value slice pins s σ H x y v u Q I rx ry q hs
  · exact h' value slice pins s σ H x y v u Q I rx ry q hs
theorem pe_ix {r : R2} (hr : IxR X r) (ha : PE X a ta) (hb : PE X b tb) (hs : PlainIx b) : PE X (.Subscript a b pos) (tOp r ta tb) := by
  intro pins s σ H Q I h
  exact Subscript_ (binT ha hb I h fun v u s2 x y H2 I2 rx ry q => hr a b pins s2 σ H2 x y v u Q I2 rx ry q (hs _ _))
def rIxL (K : PySem.W.Frag) : R2 := fun x y H Q => ∃ p xs i v, x = .ref p ∧ y = .int i ∧ SqL K H p xs ∧ atI xs i = some v ∧ Q v H
def rIxT (K : PySem.W.Frag) : R2 := fun x y H Q => ∃ p xs i v, x = .ref p ∧ y = .int i ∧ SqT K H p xs ∧ atI xs i = some v ∧ Q v H
def rIxS : R2 := fun x y H Q => ∃ z i c, x = .str z ∧ y = .int i ∧ z.length ≤ sizeLine ∧ atI z.cps.toList i = some c ∧ Q (.str ⟨#[c]⟩) H
theorem ix_list : IxR X (rIxL X.K) := by
  intro value slice pins s σ H x y v u Q I rx ry h hs
  obtain ⟨p, xs, i, z, rfl, rfl, hq, he, q⟩ := h
  cases rx
  obtain ⟨t, rfl⟩ := ry
  obtain ⟨its, r, pl, hz⟩ := I.list hq
  obtain ⟨j, h1, h2, h3, h4, h5⟩ := atI_get he
  obtain ⟨w, ew, rw'⟩ := r.get h2
  have hl := r.length
  have hn := line63
  have fin : EP X pins σ Q w s := ⟨z, H, I, rw', q⟩
  by_cases h0 : 0 ≤ i
  · have hj : i.toNat = j := by
      rw [seqIndex_of h0 h5] at h1
      exact Option.some.inj h1
    exact item_listR pl.isList h0 (by omega) (by rw [hj]; simpa using ew) fin hs
  · have hj : (i + (its.toArray.size : Int)).toNat = j := by
      rw [seqIndex_neg (by omega) h4] at h1
      rw [List.size_toArray, ← hl]
      exact Option.some.inj h1
    exact subscriptTail_builtinR (x := w) pl.isList.typeIs slot_list_getitem.lookup
      (wpAny_getItem_list_neg (Q := fun r s' => r = w ∧ EP X pins σ Q r s') pl.isList (by omega) (by rw [List.size_toArray] <;> omega) (by omega) (by rw [hj]; simpa using ew) ⟨rfl, fin⟩) hs
theorem ix_tup : IxR X (rIxT X.K) := by
  intro value slice pins s σ H x y v u Q I rx ry h hs
  obtain ⟨p, xs, i, z, rfl, rfl, hq, he, q⟩ := h
  cases rx
  obtain ⟨t, rfl⟩ := ry
  obtain ⟨its, r, pl, hz⟩ := I.tuple hq
  obtain ⟨j, h1, h2, h3, h4, h5⟩ := atI_get he
  obtain ⟨w, ew, rw'⟩ := r.get h2
  have hl := r.length
  have hn := line63
  have fin : EP X pins σ Q w s := ⟨z, H, I, rw', q⟩
  exact subscriptTail_builtinR (x := w) pl.typeIs slot_tuple_getitem.lookup
    (getItem_tuple (j := j) (Q := fun r s' => r = w ∧ EP X pins σ Q r s') pl (by omega) (by omega) (by rw [List.size_toArray, ← hl]; exact h1) (by simpa using ew) ⟨rfl, fin⟩) hs
theorem ix_str : IxR X rIxS := by
  intro value slice pins s σ H x y v u Q I rx ry h hs
  obtain ⟨z, i, c, rfl, rfl, hz, he, q⟩ := h
  obtain ⟨t, rfl⟩ := rx
  obtain ⟨t', rfl⟩ := ry
  obtain ⟨j, h1, h2, h3, h4, h5⟩ := atI_get he
  have hl : z.cps.toList.length = z.length := by simp [Str.length]
  rw [hl] at h1 h4 h5
  have hn := line63
  exact tail_any (typeIs_str s z t) slot_str_getitem.lookup (getItem_str (c := c) (by
    have e1 : decide (i < -(2 ^ 63 : Int)) = false := decide_eq_false (by omega)
    have e2 : decide (i ≥ 2 ^ 63) = false := decide_eq_false (by omega)
    rw [e1, e2, Bool.or_false]) (by rw [h1]; simpa using h2) ⟨.str ⟨#[c]⟩, H, I.tok _, ⟨_, rfl⟩, q⟩) hs
def rIx (K : PySem.W.Frag) : R2 := fun x y H Q => rIxL K x y H Q ∨ rIxT K x y H Q ∨ rIxS x y H Q
theorem ix_seq : IxR X (rIx X.K) := ix_list.or (ix_tup.or ix_str)
theorem mapSeq_set (its : List Value) (n j : Nat) (u : Value) : Obj.mapSeq (·.setIfInBounds j u) { cls := .type "list", data := .seq its.toArray n } = { cls := .type "list", data := .seq (its.set j u).toArray n } := by
  simp [Obj.mapSeq]
theorem Inv.lst {pins : List (Addr × Obj)} {σ : St} {H : Hp} {s : Shared} {p : Addr} {xs : List V} (I : Inv X pins σ H s) (h : H p = some (.lst xs)) :
    ∃ (its : List Value) (n : Nat), Vals xs its ∧ s.heap.get? p = some { cls := .type "list", data := .seq its.toArray n } ∧ xs.length ≤ sizeLine := by
  obtain ⟨z, its, n, r, e⟩ := I.hok p _ h
  exact ⟨its, n, r, e, z⟩
theorem Inv.lstUpd {pins : List (Addr × Obj)} {σ : St} {H : Hp} {s : Shared} {p : Addr} {xs ys : List V} {its its' : List Value} {n n' : Nat} {f : Obj → Obj} (I : Inv X pins σ H s) (h : H p = some (.lst xs))
    (ho : s.heap.get? p = some { cls := .type "list", data := .seq its.toArray n }) (hf : f { cls := .type "list", data := .seq its.toArray n } = { cls := .type "list", data := .seq its'.toArray n' }) (r : Vals ys its') (hz : ys.length ≤ sizeLine) (t : Nat) :
    Inv X pins σ (upd H p (.lst ys)) { s with heap := s.heap.update p f, toks := t } := by
  have e : (s.heap.update p f).get? p = some { cls := .type "list", data := .seq its'.toArray n' } := by
    rw [Heap.get?_update_self f ho (by rw [hf] <;> rfl), hf]
  refine I.write (x := p) (e := p) (by rw [h]; trivial) (.inl rfl) (fun b u hb q => (Heap.get?_update_other _ _ (Ne.symm hb)).trans q) ⟨_, e⟩ ?_
  exact ⟨hz, its', n', r, e⟩
def rSetL : V → V → V → Hp → (Hp → Prop) → Prop := fun o i v H Q => ∃ p xs k j, o = .ref p ∧ i = .int k ∧ H p = some (.lst xs) ∧ ixN xs.length k = some j ∧ Q (upd H p (.lst (xs.set j v)))
theorem set_list : PSet X rSetL := by
  intro pins s σ H o i v ov iv u Q I ro ri rv h
  obtain ⟨p, xs, k, j, rfl, rfl, hp, hj, q⟩ := h
  cases ro
  obtain ⟨t, rfl⟩ := ri
  obtain ⟨its, n, r, ho, hz⟩ := I.lst hp
  obtain ⟨h1, h2, h3, h4⟩ := ixN_seq hj
  have hl := r.length
  have hn := line63
  have I' : Inv X pins σ (upd H p (.lst (xs.set j v))) { s with heap := s.heap.update p (Obj.mapSeq (·.setIfInBounds j u)) } :=
    I.lstUpd hp ho (mapSeq_set its n j u) (r.set rv j) (by rw [List.length_set]; exact hz) s.toks
  by_cases h0 : 0 ≤ k
  · have hk : k.toNat = j := by
      rw [seqIndex_of h0 h4] at h1
      exact Option.some.inj h1
    exact PySem.W.ki_setAt ho h0 (by omega) (by rw [List.size_toArray, ← hl]; exact h4) (by rw [hk]; exact ⟨_, I', q⟩)
  · have hk : (k + (its.toArray.size : Int)).toNat = j := by
      rw [seqIndex_neg (by omega) h3] at h1
      rw [List.size_toArray, ← hl]
      exact Option.some.inj h1
    exact PySem.W.ki_setBack ho (by omega) (by rw [List.size_toArray, ← hl]; exact h3) (by omega) (by rw [hk]; exact ⟨_, I', q⟩)
theorem slice_bounds (lo hi : Option Int) (n : Nat) : (sliceBounds lo hi none n).1 = ((HT.sIx n 0 lo : Nat) : Int) ∧ (sliceBounds lo hi none n).2.1 = ((HT.sIx n n hi : Nat) : Int) ∧ (sliceBounds lo hi none n).2.2 = 1 := by
  refine ⟨?_, ?_, rfl⟩
  · cases lo with
    | none => simp [sliceBounds, HT.sIx]
    | some i =>
      simp only [sliceBounds, HT.sIx, Option.getD_none, show (1 : Int) > 0 by decide, if_true]
      by_cases h : i < 0
      · simp only [h, if_true] <;> omega
      · simp only [h, if_false] <;> omega
  · cases hi with
    | none => simp [sliceBounds, HT.sIx]
    | some i =>
      simp only [sliceBounds, HT.sIx, Option.getD_none, show (1 : Int) > 0 by decide, if_true]
      by_cases h : i < 0
      · simp only [h, if_true] <;> omega
      · simp only [h, if_false] <;> omega
theorem slicePick_cut (its : List Value) (lo hi : Option Int) : slicePick its.toArray lo hi none = ((its.drop (HT.sIx its.length 0 lo)).take (HT.sIx its.length its.length hi - HT.sIx its.length 0 lo)).toArray := by
  obtain ⟨h1, h2, h3⟩ := slice_bounds lo hi its.toArray.size
  unfold slicePick
  rw [h1, h2, h3]
  simp only [sliceRange_one, pick_run, List.size_toArray] <;> rfl
def rSlL (K : PySem.W.Frag) : V → Option Int → Option Int → Hp → VK → Prop := fun x lo hi H Q => ∃ a xs, x = .ref a ∧ SqL K H a xs ∧ ∀ p, H p = none → Q (.ref p) (upd H p (.lst (cutV xs lo hi)))
theorem sl_list : SlR X (rSlL X.K) := by
  intro pins s σ H x v vl vu lo hi sl Q I rx hs pl pu h
  obtain ⟨a, xs, rfl, hx, q⟩ := h
  cases rx
  obtain ⟨its, r, ht, hz⟩ := I.list hx
  have hlen := r.length
  refine ⟨"list", _, slot_list_getitem.lookup, ht.isList.typeIs, ?_⟩
  refine wpAny_getItem_list_slice ht.isList hs pl pu .none (by simp) ?_ (by rw [List.size_toArray] <;> omega)
  rw [slicePick_cut, ← hlen]
  refine ⟨.ref s.heap.objs.size, _, I.laid (t' := s.toks) (o := .lst (cutV xs lo hi)) (fun b ob q => Heap.get?_push_of_some _ q) (Nat.le_refl _) ?_, rfl, q _ (I.hok.fresh (Nat.le_refl _))⟩
  exact ⟨Nat.le_trans (cutV_length xs lo hi) hz, _, 0, (r.drop (HT.sIx xs.length 0 lo)).take (HT.sIx xs.length xs.length hi - HT.sIx xs.length 0 lo), Heap.get?_push_size _ rfl⟩
def flatV : V → Bool
  | .non => true
  | .bl _ => true
  | .int _ => true
  | .str _ => true
  | _ => false
def eqV : V → V → Bool
  | .non, .non => true
  | .bl a, .bl b => a == b
  | .bl a, .int b => (if a then 1 else 0) == b
  | .int a, .bl b => a == (if b then 1 else 0)
  | .int a, .int b => a == b
  | .str a, .str b => a == b
  | _, _ => false
theorem eqAt_V {A : Around} {s : Shared} {y x : V} {u v : Value} (ry : RelV y u) (rx : RelV x v) (fy : flatV y = true) (fx : flatV x = true) : SeqAt.EqAt A s u v (eqV y x) := by
  cases y with
  | non =>
    cases ry
    cases x with
    | non => cases rx; exact SeqAt.EqAt.same _
    | bl b => cases rx; exact SeqAt.EqAt.none_bool b
    | int b => obtain ⟨t, rfl⟩ := rx; exact SeqAt.EqAt.none_int b t
    | str b => obtain ⟨t, rfl⟩ := rx; exact SeqAt.EqAt.none_str b t
    | _ => exact absurd (show false = true from fx) Bool.false_ne_true
  | bl a =>
    cases ry
    cases x with
    | non => cases rx; exact SeqAt.EqAt.bool_none a
    | bl b => cases rx; exact SeqAt.EqAt.bool_bool a b
    | int b => obtain ⟨t, rfl⟩ := rx; exact SeqAt.EqAt.bool_int a b t
    | str b => obtain ⟨t, rfl⟩ := rx; exact SeqAt.EqAt.bool_str a b t
    | _ => exact absurd (show false = true from fx) Bool.false_ne_true
  | int a =>
    obtain ⟨t', rfl⟩ := ry
    cases x with
    | non => cases rx; exact SeqAt.EqAt.int_none a t'
    | bl b => cases rx; exact SeqAt.EqAt.int_bool a t' b
    | int b => obtain ⟨t, rfl⟩ := rx; exact SeqAt.EqAt.int_int a t' b t
    | str b => obtain ⟨t, rfl⟩ := rx; exact SeqAt.EqAt.int_str a t' b t
    | _ => exact absurd (show false = true from fx) Bool.false_ne_true
  | str a =>
    obtain ⟨t', rfl⟩ := ry
    cases x with
    | non => cases rx; exact SeqAt.EqAt.str_none a t'
    | bl b => cases rx; exact SeqAt.EqAt.str_bool a t' b
    | int b => obtain ⟨t, rfl⟩ := rx; exact SeqAt.EqAt.str_int a t' b t
    | str b => obtain ⟨t, rfl⟩ := rx; exact SeqAt.EqAt.str_str a t' b t
    | _ => exact absurd (show false = true from fx) Bool.false_ne_true
  | _ => exact absurd (show false = true from fy) Bool.false_ne_true
def eqU (x : V) (u : Value) : Bool := match u with
  | .none => eqV .non x
  | .bool b => eqV (.bl b) x
  | .int i _ => eqV (.int i) x
  | .str z _ => eqV (.str z) x
  | _ => false
theorem eqU_of {x y : V} {u : Value} (r : RelV y u) (f : flatV y = true) : eqU x u = eqV y x := by
  cases y with
  | non => cases r; rfl
  | bl b => cases r; rfl
  | int i => obtain ⟨t, rfl⟩ := r; rfl
  | str z => obtain ⟨t, rfl⟩ := r; rfl
  | _ => exact absurd (show false = true from f) Bool.false_ne_true
theorem any_eqU {x : V} : ∀ {xs : List V} {us : List Value}, Vals xs us → xs.all flatV = true → us.any (eqU x) = xs.any fun y => eqV y x
  | _, _, .nil, _ => rfl
  | y :: xs, u :: us, .cons r t, f => by
    rw [List.all_cons, Bool.and_eq_true] at f
    rw [List.any_cons, List.any_cons, eqU_of r f.1, any_eqU t f.2]
theorem mem_eqAt {A : Around} {s : Shared} {x : V} {v : Value} (rx : RelV x v) (fx : flatV x = true) : ∀ {xs : List V} {us : List Value}, Vals xs us → xs.all flatV = true → ∀ u ∈ us, SeqAt.EqAt A s u v (eqU x u)
  | _, _, .nil, _ => fun u hu => by cases hu
  | y :: xs, u :: us, .cons r t, f => fun u' hu => by
    rw [List.all_cons, Bool.and_eq_true] at f
    rcases List.mem_cons.mp hu with rfl | hu
    · rw [eqU_of r f.1]; exact eqAt_V r rx f.1 fx
    · exact mem_eqAt rx fx t f.2 u' hu
def inV (x : V) (xs : List V) : Bool := xs.any fun y => eqV y x
def rIn (K : PySem.W.Frag) (neg : Bool) : R2 := fun x y H Q => ∃ p xs, y = .ref p ∧ (SqL K H p xs ∨ SqT K H p xs) ∧ flatV x = true ∧ xs.all flatV = true ∧ Q (.bl (if neg then !inV x xs else inV x xs)) H
theorem op_in_seq : OpR X (compareOp .In) (rIn X.K false) := by
  intro pins s σ H x y v u Q I rx ry h
  obtain ⟨p, xs, rfl, hq, fx, fs, q⟩ := h
  cases ry
  rcases hq with hq | hq
  · obtain ⟨its, r, pl, hz⟩ := I.list hq
    refine SeqAt.in_listAt (eqU x) pl.isList (fun w hw => mem_eqAt rx fx r fs w (by simpa using hw)) ⟨.bl _, H, I, rfl, ?_⟩
    rw [show its.toArray.any (eqU x) = its.any (eqU x) by simp, any_eqU r fs]
    exact q
  · obtain ⟨its, r, pl, hz⟩ := I.tuple hq
    refine SeqAt.in_tupleAt (eqU x) pl (fun w hw => mem_eqAt rx fx r fs w (by simpa using hw)) ⟨.bl _, H, I, rfl, ?_⟩
    rw [show its.toArray.any (eqU x) = its.any (eqU x) by simp, any_eqU r fs]
    exact q
theorem call_len_seq : CallR X (.builtin "len") (fun xs H Q => ∃ p ys, xs = [.ref p] ∧ (SqL X.K H p ys ∨ SqT X.K H p ys) ∧ Q (.int ys.length) H) := by
  intro pins s σ H xs us Q I r h
  obtain ⟨p, ys, rfl, hq, q⟩ := h
  obtain ⟨u, rfl, rx⟩ := vals1 r
  cases rx
  have hn := line63
  rcases hq with hq | hq
  · obtain ⟨its, r', pl, hz⟩ := I.list hq
    have hlen := r'.length
    exact Calls.call_len_list pl.isList (by simp only [List.size_toArray] <;> omega) ⟨.int ys.length, H, I.tok _, ⟨s.toks + 1, by rw [List.size_toArray, hlen]⟩, q⟩
  · obtain ⟨its, r', pl, hz⟩ := I.tuple hq
    have hlen := r'.length
    exact len_tuple pl (by simp only [List.size_toArray] <;> omega) ⟨.int ys.length, H, I.tok _, ⟨s.toks + 1, by rw [List.size_toArray, hlen]⟩, q⟩
theorem call_list_of : CallR X (.type "list") (fun xs H Q => ∃ p ys, xs = [.ref p] ∧ (SqL X.K H p ys ∨ SqT X.K H p ys) ∧ ∀ l, H l = none → Q (.ref l) (upd H l (.lst ys))) := by
  intro pins s σ H xs us Q I r h
  obtain ⟨p, ys, rfl, hq, q⟩ := h
  obtain ⟨u, rfl, rx⟩ := vals1 r
  cases rx
  have fin : ∀ (its : List Value), Vals ys its → ys.length ≤ sizeLine → ∀ (h' : Heap) (c' : Nat), (∀ b o', s.heap.get? b = some o' → h'.get? b = some o') →
      h'.get? s.heap.objs.size = some { cls := .type "list", dict := none, data := .seq its.toArray c', slots := #[] } → EP X pins σ Q (.ref s.heap.objs.size) { s with heap := h' } := fun its r' hz h' c' kp e =>
    ⟨.ref s.heap.objs.size, _, I.laid (t' := s.toks) kp (Nat.le_refl _) (show ObjOk X.prog X.w _ h' _ (.lst ys) from ⟨hz, its, c', r', e⟩), rfl, q _ (I.hok.fresh (Nat.le_refl _))⟩
  rcases hq with hq | hq
  · obtain ⟨its, r', pl, hz⟩ := I.list hq
    have hlen := r'.length
    obtain ⟨o, ho, hc, n, hd⟩ := pl.isList
    exact call_list_seq p (.inl rfl) ho hc hd (fun h' c' kp e => fin its r' hz h' c' kp e) (by simp only [List.size_toArray] <;> omega)
  · obtain ⟨its, r', pl, hz⟩ := I.tuple hq
    have hlen := r'.length
    obtain ⟨o, ho, hc, n, hd⟩ := pl
    exact call_list_seq p (.inr rfl) ho hc hd (fun h' c' kp e => fin its r' hz h' c' kp e) (by simp only [List.size_toArray] <;> omega)
def tyV (K : PySem.W.Frag) (T : String) (x : V) (H : Hp) : Prop := match x with
  | .str _ => T = "str"
  | .int _ => T = "int"
  | .ref p => (T = "list" ∧ ∃ xs, SqL K H p xs) ∨ (T = "tuple" ∧ ∃ o, K.lookup p = some o ∧ o.cls = .type "tuple" ∧ o.dict = none) ∨
      (T = "dict" ∧ ((∃ kvs, H p = some (.dK kvs)) ∨ ∃ kvs, H p = some (.dT kvs))) ∨ (T = "set" ∧ ∃ S n, H p = some (.set S n))
  | _ => False
theorem tyV_is {pins : List (Addr × Obj)} {σ : St} {H : Hp} {s : Shared} {T : String} {x : V} {v : Value} (I : Inv X pins σ H s) (r : RelV x v) (ty : tyV X.K T x H) :
    s.TypeIs v T ∧ ∀ a, v = .ref a → ∃ ob, s.heap.get? a = some ob ∧ ob.dict = none := by
  cases x with
  | str z =>
    obtain ⟨t, rfl⟩ := r
    cases (show T = "str" from ty)
    exact ⟨typeIs_str s z t, fun _ e => nomatch e⟩
  | int i =>
    obtain ⟨t, rfl⟩ := r
    cases (show T = "int" from ty)
    exact ⟨typeIs_int s i t, fun _ e => nomatch e⟩
  | ref p =>
    cases r
    rcases ty with ⟨rfl, xs, hq⟩ | ⟨rfl, o, hk, hc, hd⟩ | ⟨rfl, hk⟩ | ⟨rfl, S, n, hk⟩
    · obtain ⟨its, _, pl, _⟩ := I.list hq
      refine ⟨pl.isList.typeIs, fun a e => ?_⟩
      cases e
      obtain ⟨o, n, e, c, hd, _⟩ := pl
      exact ⟨o, e, hd⟩
    · refine ⟨⟨o, I.kIn p o hk, hc⟩, fun a e => ?_⟩
      cases e
      exact ⟨o, I.kIn _ o hk, hd⟩
    · have z : ∃ o, s.heap.get? p = some o ∧ o.ExactDict := by
        rcases hk with ⟨kvs, hk⟩ | ⟨kvs, hk⟩
        · obtain ⟨_, _, _, _, o, _, _, e, ex, _⟩ := I.hok p _ hk
          exact ⟨o, e, ex⟩
        · obtain ⟨_, _, _, _, o, _, _, e, ex, _⟩ := I.hok p _ hk
          exact ⟨o, e, ex⟩
      obtain ⟨o, e, ex⟩ := z
      refine ⟨⟨o, e, ex.1⟩, fun a e2 => ?_⟩
      cases e2
      exact ⟨o, e, ex.2.1⟩
    · obtain ⟨o, _, _, _, e, ex, _⟩ := I.hok p _ hk
      refine ⟨⟨o, e, ex.1⟩, fun a e2 => ?_⟩
      cases e2
      exact ⟨o, e, ex.2.1⟩
  | _ => exact False.elim ty
def tBM (K : PySem.W.Frag) (T : String) (r : V → List V → Hp → VK → Prop) (to : TE) (t : TA) : TE := fun σ H Q => to σ H fun x H1 => tyV K T x H1 ∧ t σ H1 fun xs H2 => r x xs H2 Q
variable {o e : Expr} {es : List Expr} {to : TE} {t : TA} {name : Str} {apos cpos : Pos} {T id : String} {r : V → List V → Hp → VK → Prop}
theorem pe_bm (pa : PlainAttrs T) (slot : Slot T name id) (hty : typeOf (.builtin id) = pure (.type "method_descriptor")) (hm : MtR X id r) (ho : PE X o to) (ha : PA X (e :: es) t)
    (hbase : attributeBase o name X.env (eval o X.env) = eval o X.env := by rfl)
    (hfew : ((backTo cpos (starEach (e :: es) X.env)).all (fun x => !x.1) && (backToKw cpos (keywordEach [] X.env)).all (fun x => x.1.isSome)
      && decide ((e :: es).length + ([] : List Keyword).length + (if ([] : List Keyword).isEmpty then 0 else 1) < 30)) = true := by rfl)
    (hline : (apos.endLine == cpos.line) = true := by rfl) (hs : starEach (e :: es) X.env = (false, eval e X.env) :: starEach es X.env := by rfl) (hplain : (backTo cpos (starEach es X.env)).any (·.1) = false := by rfl) :
    PE X (.Call (.Attribute o name apos) (e :: es) [] cpos) (tBM X.K T r to t) := by
  intro pins s σ H Q I h
  refine wpAny_Call_method_late hbase hfew hline rfl (thn (ho pins s σ H _ I h) fun v s1 ⟨x, H1, I1, r1, ty, q1⟩ => ?_)
  obtain ⟨h1, h2⟩ := tyV_is I1 r1 ty
  refine ⟨T, id, pa, slot, hty, h1, h2, ?_⟩
  have hA := ha cpos pins s1 σ H1 _ I1 q1
  rw [hs] at hA ⊢
  refine Calls.callWith_builtin (by show (false || (backTo cpos (starEach es X.env)).any (·.1)) = false; rw [hplain] <;> rfl) (Calls.evalArgs_plain ?_)
  exact thn hA fun us s2 ⟨vs, H2, I2, r2, q2⟩ => hm pins s2 σ H2 x vs v us Q I2 r1 r2 q2
end
end L2
namespace L2
open PySem PySem.Spec PyProof.Rows
def MtM (X : Cx) (id : String) (r : V → List V → Hp → VK → Prop) : Prop :=
  ∀ (pins : List (Addr × Obj)) (s : Shared) (σ : St) (H : Hp) (x : V) (xs : List V) (v : Value) (us : List Value) (Q : VK), Inv X pins σ H s → RelV x v → Vals xs us → r x xs H Q →
    wpAny (model X.prog X.w) X.A (call (.builtin id) (v :: us)) (EP X pins σ Q) X.xe s
theorem Vals.one : ∀ {x : V} {us : List Value}, Vals [x] us → ∃ u, us = [u] ∧ RelV x u
  | _, _, .cons r .nil => ⟨_, rfl, r⟩
theorem Vals.eraseIdx : ∀ {xs : List V} {us : List Value} (i : Nat), Vals xs us → Vals (xs.eraseIdx i) (us.eraseIdx i)
  | _, _, _, .nil => .nil
  | _, _, 0, .cons _ t => t
  | _, _, i + 1, .cons r t => .cons r (Vals.eraseIdx i t)
theorem Vals.rep {xs : List V} {us : List Value} (h : Vals xs us) : ∀ k : Nat, Vals (List.replicate k xs).flatten (List.replicate k us).flatten
  | 0 => .nil
  | k + 1 => by
    rw [List.replicate_succ, List.replicate_succ, List.flatten_cons, List.flatten_cons]
    exact Vals.append h (Vals.rep h k)
theorem len_erase {α : Type} : ∀ (l : List α) (i : Nat), (l.eraseIdx i).length ≤ l.length
  | [], _ => Nat.le_refl _
  | _ :: _, 0 => Nat.le_succ _
  | _ :: r, i + 1 => Nat.succ_le_succ (len_erase r i)
theorem foldl_rep (its : List Value) : ∀ (k : Nat) (acc : List Value),
    List.foldl (fun x1 x2 => x1 ++ x2) acc.toArray (List.replicate k its.toArray) = (acc ++ (List.replicate k its).flatten).toArray
  | 0, acc => by simp
  | k + 1, acc => by
    have e : acc.toArray ++ its.toArray = (acc ++ its).toArray := by simp
    have e2 : (acc ++ its) ++ (List.replicate k its).flatten = acc ++ (List.replicate (k + 1) its).flatten := by
      rw [List.replicate_succ, List.flatten_cons, List.append_assoc]
    rw [← e2, ← foldl_rep its k (acc ++ its), ← e, List.replicate_succ, List.foldl_cons]
section
variable {X : Cx} {pins : List (Addr × Obj)} {σ : St} {H : Hp} {s : Shared} {l b : Addr} {xs ys zs : List V}
theorem Inv.lset {its its' : List Value} {n : Nat} {f : Array Value → Array Value} {t' : Nat} (I : Inv X pins σ H s) (hH : H l = some (.lst xs))
    (e : s.heap.get? l = some { cls := .type "list", data := .seq its.toArray n }) (hf : f its.toArray = its'.toArray) (hv : Vals ys its') (hz : ys.length ≤ sizeLine) :
    Inv X pins σ (upd H l (.lst ys)) { s with heap := s.heap.update l (Obj.mapSeq f), toks := t' } := by
  have q := PySem.IsL.update e f
  rw [hf] at q
  refine I.write (x := l) (e := l) (by rw [hH]; exact trivial) (.inl rfl) (fun b' u hb hu => (Heap.get?_update_other s.heap (Obj.mapSeq f) (Ne.symm hb)).trans hu) ⟨_, q⟩ ?_
  exact ⟨hz, its', _, hv, q⟩
theorem Inv.lnew {its : List Value} {t' : Nat} (I : Inv X pins σ H s) (hv : Vals ys its) (hz : ys.length ≤ sizeLine) :
    Inv X pins σ (upd H s.heap.objs.size (.lst ys)) { s with heap := s.heap.push { cls := .type "list", data := .seq its.toArray }, toks := t' } :=
  I.laid (fun _ _ q => Heap.get?_push_of_some _ q) (Nat.le_refl _) ⟨hz, its, 0, hv, Heap.get?_push_size _ rfl⟩
theorem Inv.fresh (I : Inv X pins σ H s) : H s.heap.objs.size = none := I.hok.fresh (Nat.le_refl _)
theorem Inv.lstM (I : Inv X pins σ H s) (hH : H l = some (.lst xs)) : xs.length ≤ sizeLine ∧ ∃ (its : List Value) (n : Nat), Vals xs its ∧ xs.length = its.length ∧ s.heap.get? l = some { cls := .type "list", data := .seq its.toArray n } := by
  obtain ⟨z, its, n, r, e⟩ := I.hok l _ hH
  exact ⟨z, its, n, r, r.length, e⟩
theorem notLongL {n : Nat} (h : n ≤ sizeLine) : Builtin.List.listTooLong n = false := by
  unfold Builtin.List.listTooLong
  exact decide_eq_false (by omega)
end
section
variable {X : Cx}
def rAppend : V → List V → Hp → VK → Prop := fun x vs H Q => ∃ l xs y, x = .ref l ∧ vs = [y] ∧ H l = some (.lst xs) ∧ xs.length < sizeLine ∧ Q .non (upd H l (.lst (xs ++ [y])))
theorem mt_append : MtM X "list.append" rAppend := by
  intro pins s σ H x vs v us Q I rx rv h
  obtain ⟨l, xs, y, rfl, rfl, hH, hz, q⟩ := h
  cases rx
  obtain ⟨u, rfl, ru⟩ := rv.one
  obtain ⟨z, its, n, r, hl, e⟩ := I.lstM hH
  refine call_meets F.slot_list_append ⟨_, e, rfl⟩ F.entry_list_append (F.args_list_append_2 _ _) (PySem.list_append l its.toArray n u (by rw [List.size_toArray]; omega)) ⟨e, ?_⟩
  refine ⟨.non, _, I.lset (its' := its ++ [u]) hH e (by simp) (r.append (.cons ru .nil)) ?_, rfl, q⟩
  rw [List.length_append, List.length_singleton]
  omega
def rExtend : V → List V → Hp → VK → Prop := fun x vs H Q => ∃ l b xs zs, x = .ref l ∧ vs = [.ref b] ∧ H l = some (.lst xs) ∧ H b = some (.lst zs) ∧ xs.length + zs.length ≤ sizeLine ∧ Q .non (upd H l (.lst (xs ++ zs)))
theorem mt_extend : MtM X "list.extend" rExtend := by
  intro pins s σ H x vs v us Q I rx rv h
  obtain ⟨l, b, xs, zs, rfl, rfl, hH, hB, hz, q⟩ := h
  cases rx
  obtain ⟨u, rfl, ru⟩ := rv.one
  cases ru
  obtain ⟨z, its, n, r, hl, e⟩ := I.lstM hH
  obtain ⟨z2, its2, n2, r2, hl2, e2⟩ := I.lstM hB
  have hsz : its.toArray.size + its2.toArray.size ≤ sizeLine := by rw [List.size_toArray, List.size_toArray]; omega
  have hlong : ¬ (!its.toArray.isEmpty && Builtin.List.listTooLong (its.toArray.size + its2.toArray.size)) = true := by
    rw [notLongL hsz, Bool.and_false]
    exact Bool.false_ne_true
  refine call_meets F.slot_list_extend ⟨_, e, rfl⟩ F.entry_list_extend (F.args_list_extend_2 _ _)
    (AutoSeq1.list_extend_list_list_0 l its.toArray n b its2.toArray n2 hlong (by rw [List.size_toArray]; omega) (by omega)) ⟨e, e2, ?_⟩
  refine ⟨.non, _, I.lset (its' := its ++ its2) hH e (by simp) (r.append r2) ?_, rfl, q⟩
  rw [List.length_append]
  omega
def rPopAt : V → List V → Hp → VK → Prop := fun x vs H Q => ∃ l xs i k y, x = .ref l ∧ vs = [.int i] ∧ H l = some (.lst xs) ∧ -(2 ^ 63) ≤ i ∧ i < 2 ^ 63 ∧ seqIndex? i xs.length = some k ∧ xs[k]? = some y ∧ Q y (upd H l (.lst (xs.eraseIdx k)))
theorem mt_popAt : MtM X "list.pop" rPopAt := by
  intro pins s σ H x vs v us Q I rx rv h
  obtain ⟨l, xs, i, k, y, rfl, rfl, hH, h1, h2, hk, hy, q⟩ := h
  cases rx
  obtain ⟨u, rfl, ru⟩ := rv.one
  obtain ⟨t, rfl⟩ := ru
  obtain ⟨z, its, n, r, hl, e⟩ := I.lstM hH
  obtain ⟨w, hw, rw'⟩ := r.get hy
  refine call_meets F.slot_list_pop ⟨_, e, rfl⟩ F.entry_list_pop (F.args_list_pop_2 _ _)
    (MeetsSeq.list_pop_at l its.toArray n i t k w (fitsIndex_both h1 h2) (by rw [List.size_toArray, ← hl]; exact hk) (by rw [← Array.getElem?_toList]; exact hw) (by rw [List.size_toArray]; omega)) ⟨e, ?_⟩
  refine ⟨y, _, I.lset (its' := its.eraseIdx k) hH e ?_ (r.eraseIdx k) ?_, rw', q⟩
  · show its.toArray.eraseIdxIfInBounds k = (its.eraseIdx k).toArray
    rw [List.eraseIdxIfInBounds_toArray]
  · have := len_erase xs k
    omega
def rRep : R2 := fun x y H Q => ∃ l k xs, x = .ref l ∧ y = .int k ∧ H l = some (.lst xs) ∧ -(2 ^ 63) ≤ k ∧ k < 2 ^ 63 ∧ xs.length * k.toNat ≤ sizeLine ∧
  ∀ p, H p = none → Q (.ref p) (upd H p (.lst (List.replicate k.toNat xs).flatten))
theorem len_rep {α : Type} (xs : List α) (k : Nat) : (List.replicate k xs).flatten.length = k * xs.length := by
  induction k with
  | zero => simp
  | succ k ih => rw [List.replicate_succ, List.flatten_cons, List.length_append, ih, Nat.succ_mul, Nat.add_comm]
theorem op_rep : OpR X (binaryOp .Mult) rRep := by
  intro pins s σ H x y v u Q I rx ry h
  obtain ⟨l, k, xs, rfl, rfl, hH, h1, h2, hz, q⟩ := h
  cases rx
  obtain ⟨t, rfl⟩ := ry
  obtain ⟨z, its, n, r, hl, e⟩ := I.lstM hH
  have hlen : its.toArray.size * k.toNat ≤ sizeLine := by rw [List.size_toArray, ← hl]; exact hz
  have hcap : ¬ its.toArray.size * k.toNat > (2 ^ 63 - 1) / 8 := by
    have : (sizeLine : Nat) ≤ (2 ^ 63 - 1) / 8 := by decide
    omega
  have hfit : ¬ (!Builtin.List.listFitsIndex k) = true := by
    rw [fitsIndex_both h1 h2]
    exact Bool.false_ne_true
  have hlong : ¬ Builtin.List.listTooLong (its.toArray.size * k.toNat) = true := by
    rw [notLongL hlen]
    exact Bool.false_ne_true
  have hnew : List.foldl (fun x1 x2 => x1 ++ x2) #[] (List.replicate (if its.toArray.isEmpty = true then 0 else k.toNat) its.toArray) = (List.replicate k.toNat its).flatten.toArray := by
    have f0 : ∀ m : Nat, List.foldl (fun x1 x2 => x1 ++ x2) #[] (List.replicate m its.toArray) = (List.replicate m its).flatten.toArray := fun m => by
      have := foldl_rep its m []
      rw [List.nil_append] at this
      exact this
    rw [f0]
    cases its with
    | nil => simp
    | cons a r' => rw [if_neg (by simp)]
  refine wpAny_binaryOp_repeat_ref (T := "list") (U := "int") (by decide) ⟨_, e, rfl⟩ (fun s' => typeIs_int s' k t) noFill_list_mul F.fills_int_mul F.slot_int_rmul repeat_list F.slot_int_index.lookup
    (call_meets F.slot_int_rmul (typeIs_int s k t) F.entry_int_rmul (F.args_int_rmul_2 _ _) (int___rmul___int_list k t l its.toArray n)
      ⟨e, rfl, ⟨_, e, rfl⟩, call_meets F.slot_list_mul ⟨_, e, rfl⟩ F.entry_list_mul (F.args_list_mul_2 _ _) (AutoListH.list___mul___list_int_3 l its.toArray n k t hfit hcap hlong) ⟨e, ?_⟩⟩)
  rw [hnew]
  exact ⟨.ref _, _, I.lnew (t' := s.toks) (r.rep k.toNat) (by rw [len_rep, Nat.mul_comm]; exact hz), rfl, q _ I.fresh⟩
end
section
variable {prog : Program} {w : World} {A : Around} {E : Value → Shared → Prop} {s : Shared}
end
section
variable {X : Cx}
end
end L2
namespace L2
open PySem PySem.Spec PyProof.Rows
theorem Vals.ints : ∀ {ns : List Int} {us : List Value}, Vals (ns.map V.int) us → IntsAre us ns
  | [], us, h => by
    rw [List.map_nil] at h
    cases h
    exact IntsAre.nil
  | n :: ns, us, h => by
    rw [List.map_cons] at h
    cases h with
    | cons r t =>
      obtain ⟨k, rfl⟩ := r
      exact IntsAre.cons n k (Vals.ints t)
theorem Vals.bls : ∀ {bs : List Bool} {us : List Value}, Vals (bs.map V.bl) us → us = bs.map Value.bool
  | [], us, h => by
    rw [List.map_nil] at h
    cases h
    rfl
  | b :: bs, us, h => by
    rw [List.map_cons] at h
    cases h with
    | cons r t =>
      cases r
      rw [Vals.bls t, List.map_cons]
theorem Vals.ref1 {a : Addr} {us : List Value} (r : Vals [V.ref a] us) : us = [Value.ref a] := by
  cases r with
  | cons r t =>
    cases t
    cases r
    rfl
section
variable {prog : Program} {w : World} {A : Around} {E : Value → Shared → Prop} {s : Shared} {l : Addr} {its : List Value} {ns : List Int} {Q : Value → Shared → Prop}
theorem sum_raw (hh : A.handled = none) (hl : s.heap.IsList l its.toArray) (hi : IntsAre its ns)
    (h : ∀ h' tk t', (∀ b o, s.heap.get? b = some o → h'.get? b = some o) → Q (.int ns.sum t') { s with heap := h', toks := tk }) : wpAny (model prog w) A (call (.builtin "sum") [.ref l]) Q E s := by
  obtain ⟨xs, e⟩ := hi.allInts.items
  have hn : numsOf (intItems xs).toList = ns := by rw [← e]; exact hi.numsOf
  rw [nums_intItems] at hn
  rw [e] at hl
  refine PySem.sum_intListG hh hl fun h' tk t' hk => ?_
  have := h h' tk t' hk
  rw [preSum_eq, List.take_of_length_le (by simp), hn]; exact this
end
section
variable {X : Cx}
def rSum (K : PySem.W.Frag) : List V → Hp → VK → Prop := fun vs H Q => ∃ (a : Addr) (ns : List Int), vs = [V.ref a] ∧ SqL K H a (ns.map V.int) ∧ Q (.int ns.sum) H
theorem cr_sum (hc : X.calm = true) : CallR X (.builtin "sum") (rSum X.K) := by
  intro pins s σ H vs us Q I r h
  obtain ⟨a, ns, rfl, hs, q⟩ := h
  obtain ⟨its, rv, hl, _⟩ := I.list hs
  rw [Vals.ref1 r]
  exact sum_raw (I.ok.hd hc) hl.isList rv.ints fun h' tk t' hk => ⟨.int _, H, I.kept hk, ⟨_, rfl⟩, q⟩
end
section
variable {X : Cx}
end
section
variable {X : Cx}
end
theorem iter_any {prog : Program} {w : World} {A : Around} {E : Value → Shared → Prop} {s : Shared} {l : Addr} {items : Array Value} {Q : Value → Shared → Prop} (hl : s.heap.IsList l items)
    (h : ∀ s₂ : Shared, s₂ = { s with heap := s.heap.push { cls := .type "list_iterator", data := .fields #[.ref l, .int 0 0] } } →
      (s₂.heap.IsListIter s.heap.objs.size l 0 ∧ s₂.heap.IsList l items) → l ≠ s.heap.objs.size → Q (.ref s.heap.objs.size) s₂) : wpAny (model prog w) A (pyIter (.ref l)) Q E s := by
  have hlt : l < s.heap.objs.size := by obtain ⟨_, e, _⟩ := hl; exact Heap.lt_size e
  exact wpAny_pyIter_list hl (h _ rfl ⟨⟨_, Heap.get?_push_size _ rfl, rfl, rfl⟩, hl.push _⟩ (Nat.ne_of_lt hlt))
theorem truth_bools {prog : Program} {w : World} {A : Around} {bs : List Bool} {its : List Value} (e : its = bs.map Value.bool) :
    TruthOf prog w A (fun i v => its.toArray[i]? = some v) (fun i => bs.getD i false) := fun i v s Q E hv hq => by
  have hv' : its[i]? = some v := by simpa using hv
  rw [e, List.getElem?_map] at hv'
  obtain ⟨b, hb, rfl⟩ := Option.map_eq_some_iff.mp hv'
  have hg : bs.getD i false = b := by rw [List.getD_eq_getElem?_getD, hb] <;> rfl
  have hq' : Q (bs.getD i false) s := hq
  rw [hg] at hq'
  exact wpAny_truthy_bool hq'
theorem all_range : ∀ bs : List Bool, (List.range bs.length).all (fun i => bs.getD i false) = bs.all id
  | [] => rfl
  | b :: bs => by
    rw [List.length_cons, List.range_succ_eq_map, List.all_cons, List.all_map, List.all_cons, ← all_range bs]
    all_goals rfl
section
variable {X : Cx}
def rAll (K : PySem.W.Frag) : List V → Hp → VK → Prop := fun vs H Q => ∃ (a : Addr) (bs : List Bool), vs = [V.ref a] ∧ SqL K H a (bs.map V.bl) ∧ Q (.bl (bs.all id)) H
theorem cr_all (hc : X.calm = true) : CallR X (.builtin "all") (rAll X.K) := by
  intro pins s σ H vs us Q I r h
  obtain ⟨a, bs, rfl, hs, q⟩ := h
  obtain ⟨its, rv, hl, _⟩ := I.list hs
  rw [Vals.ref1 r]
  have hb := rv.bls
  refine call_all_walk (iter_any hl.isList fun s₂ e2 st hne => ?_)
  subst e2
  refine ⟨_, _, _, _, _, _, _, rfl, Walks.list (A := X.A.in1) (I.ok.hd hc) _ a hne its.toArray, st, truth_bools hb, fun h' tk hk => ?_⟩
  refine ⟨.bl _, H, I.kept fun b o eo => hk b o (fun hmem => ?_) (Heap.get?_push_of_some _ eo), ?_, q⟩
  · rcases List.mem_cons.mp hmem with e1 | hmem
    · exact absurd (e1 ▸ Heap.lt_size eo) (Nat.lt_irrefl _)
    · cases hmem
  · show Value.bool _ = Value.bool _
    rw [← all_range, hb, List.size_toArray, List.length_map]
end
section
variable {X : Cx} {pins : List (Addr × Obj)} {σ : St} {H : Hp} {s : Shared}
end
section
variable {X : Cx}
end
end L2
namespace L2
open PySem PySem.Spec PyProof.Rows
abbrev CellAt (h : Heap) (c : Addr) (v : Option Value) : Prop := h.IsCell c v
def relS (scope sc : Scope) : Scope :=
  { scope with names := scope.names.map fun (n, k) => if (k == .free && sc.kind == .function && sc.names.lookup n == some .cell) then (n, .cell) else (n, k) }
def cloFrom (cells : List (Str × Addr)) : List (Str × NameKind) → List (Str × Addr) → List (Str × Addr)
  | [], acc => acc
  | (n, k) :: r, acc => if k == .free then cloFrom cells r ((n, (cells.lookup n).getD 0) :: acc) else cloFrom cells r acc
theorem closure_loop (env : Env) (f : Str × NameKind → List (Str × Addr) → Sem (ForInStep (List (Str × Addr))))
    (hf : ∀ n k c, f (n, k) c = if k == .free then (do let a ← cellOf env n; pure (.yield ((n, a) :: c))) else pure (.yield c)) :
    ∀ (names : List (Str × NameKind)) (acc : List (Str × Addr)), (∀ y ∈ names, y.2 = .free → ∃ c, env.cells.lookup y.1 = some c) → forIn names acc f = pure (cloFrom env.cells names acc)
  | [], acc, _ => by rw [List.forIn_nil]; rfl
  | (n, k) :: r, acc, h => by
    rw [List.forIn_cons, hf]
    have ih := fun acc => closure_loop env f hf r acc fun y hy => h y (List.mem_cons_of_mem _ hy)
    unfold cloFrom
    by_cases hk : (k == NameKind.free) = true
    · rw [if_pos hk, if_pos hk]
      obtain ⟨c, hc⟩ := h (n, k) List.mem_cons_self (by simpa using hk)
      have e : cellOf env n = pure c := by unfold cellOf; rw [hc]
      rw [e]
      have e2 : (env.cells.lookup n).getD 0 = c := by rw [hc]; rfl
      rw [e2]
      exact ih _
    · rw [if_neg hk, if_neg hk]
      exact ih _
theorem closure_ok {scope : Scope} {env : Env} (h : ∀ y ∈ scope.names, y.2 = .free → ∃ c, env.cells.lookup y.1 = some c) : closureFor scope env = pure (cloFrom env.cells scope.names []) := by
  simp only [closureFor]
  rw [closure_loop env _ (fun n k c => rfl) scope.names [] h]
  rfl
theorem mem_lookup {α : Type} : ∀ {l : List (Str × α)} {n : Str} {c : α}, (n, c) ∈ l → ∃ c', l.lookup n = some c'
  | (k, v) :: r, n, c, h => by
    rw [List.lookup_cons]
    cases hb : n == k with
    | true => exact ⟨_, rfl⟩
    | false =>
      rcases List.mem_cons.mp h with e | h
      · cases e; simp at hb
      · exact mem_lookup h
theorem cloFrom_mem {cells : List (Str × Addr)} : ∀ {names : List (Str × NameKind)} {acc : List (Str × Addr)} {n : Str} {c : Addr}, (n, c) ∈ cloFrom cells names acc → (n, c) ∈ acc ∨ ((n, .free) ∈ names ∧ c = (cells.lookup n).getD 0)
  | [], _, _, _, h => .inl h
  | (m, k) :: r, acc, n, c, h => by
    unfold cloFrom at h
    split at h
    · rename_i hk
      have hk : k = .free := by simpa using hk
      rcases cloFrom_mem h with h | ⟨h1, h2⟩
      · rcases List.mem_cons.mp h with e | h
        · cases e; exact .inr ⟨hk ▸ List.mem_cons_self, rfl⟩
        · exact .inl h
      · exact .inr ⟨List.mem_cons_of_mem _ h1, h2⟩
    · rcases cloFrom_mem h with h | ⟨h1, h2⟩
      · exact .inl h
      · exact .inr ⟨List.mem_cons_of_mem _ h1, h2⟩
theorem cloFrom_acc {cells : List (Str × Addr)} : ∀ {names : List (Str × NameKind)} {acc : List (Str × Addr)} {p : Str × Addr}, p ∈ acc → p ∈ cloFrom cells names acc
  | [], _, _, h => h
  | (m, k) :: r, acc, p, h => by
    unfold cloFrom
    split
    · exact cloFrom_acc (List.mem_cons_of_mem _ h)
    · exact cloFrom_acc h
theorem cloFrom_has {cells : List (Str × Addr)} : ∀ {names : List (Str × NameKind)} {acc : List (Str × Addr)} {n : Str}, (n, .free) ∈ names → (n, (cells.lookup n).getD 0) ∈ cloFrom cells names acc
  | (m, k) :: r, acc, n, h => by
    unfold cloFrom
    rcases List.mem_cons.mp h with e | h
    · cases e
      exact cloFrom_acc List.mem_cons_self
    · split
      · exact cloFrom_has h
      · exact cloFrom_has h
theorem cells_mem : ∀ {names : List (Str × NameKind)} {h : Heap} {acc : List (Str × Addr)} {x : Str} {c : Addr}, (x, c) ∈ cellsFrom h.objs.size names acc →
    (x, c) ∈ acc ∨ ((x, .cell) ∈ names ∧ h.objs.size ≤ c ∧ CellAt (pushCells h names) c none)
  | [], _, _, _, _, h => .inl h
  | (n, k) :: r, h, acc, x, c, hm => by
    unfold cellsFrom at hm
    unfold pushCells
    split at hm
    · rename_i hk
      rw [if_pos hk]
      have hk : k = .cell := by simpa using hk
      rw [← Heap.size_push h { cls := .type "cell", data := .cell none }] at hm
      rcases cells_mem hm with hm | ⟨h1, h2, h3⟩
      · rcases List.mem_cons.mp hm with e | hm
        · cases e
          exact .inr ⟨hk ▸ List.mem_cons_self, Nat.le_refl _, _, pushCells_keeps r _ _ _ (Heap.get?_push_size _ rfl), rfl⟩
        · exact .inl hm
      · rw [Heap.size_push] at h2
        exact .inr ⟨List.mem_cons_of_mem _ h1, Nat.le_of_succ_le h2, h3⟩
    · rename_i hk
      rw [if_neg hk]
      rcases cells_mem hm with hm | ⟨h1, h2, h3⟩
      · exact .inl hm
      · exact .inr ⟨List.mem_cons_of_mem _ h1, h2, h3⟩
theorem cells_acc : ∀ {names : List (Str × NameKind)} {n : Nat} {acc : List (Str × Addr)} {p : Str × Addr}, p ∈ acc → p ∈ cellsFrom n names acc
  | [], _, _, _, h => h
  | (m, k) :: r, n, acc, p, h => by
    unfold cellsFrom
    split
    · exact cells_acc (List.mem_cons_of_mem _ h)
    · exact cells_acc h
theorem cells_has : ∀ {names : List (Str × NameKind)} {n : Nat} {acc : List (Str × Addr)} {x : Str}, (x, .cell) ∈ names → ∃ c, (x, c) ∈ cellsFrom n names acc
  | (m, k) :: r, n, acc, x, h => by
    unfold cellsFrom
    rcases List.mem_cons.mp h with e | h
    · cases e
      exact ⟨n, cells_acc List.mem_cons_self⟩
    · split
      · exact cells_has h
      · exact cells_has h
theorem cells_inj : ∀ {names : List (Str × NameKind)} {h : Heap} {acc : List (Str × Addr)} {x y : Str} {c : Addr}, (∀ p ∈ acc, p.2 < h.objs.size) → (∀ x y c, (x, c) ∈ acc → (y, c) ∈ acc → x = y) →
    (x, c) ∈ cellsFrom h.objs.size names acc → (y, c) ∈ cellsFrom h.objs.size names acc → x = y
  | [], _, _, _, _, _, _, hi, h1, h2 => hi _ _ _ h1 h2
  | (n, k) :: r, h, acc, x, y, c, hl, hi, h1, h2 => by
    unfold cellsFrom at h1 h2
    split at h1
    · rename_i hk
      rw [if_pos hk] at h2
      rw [← Heap.size_push h { cls := .type "cell", data := .cell none }] at h1 h2
      refine cells_inj (h := h.push _) (fun p hp => ?_) (fun x y c a b => ?_) h1 h2
      · rw [Heap.size_push]
        rcases List.mem_cons.mp hp with rfl | hp
        · exact Nat.lt_succ_self _
        · exact Nat.lt_succ_of_lt (hl p hp)
      · rcases List.mem_cons.mp a with e | a <;> rcases List.mem_cons.mp b with e' | b
        · cases e; cases e'; rfl
        · cases e; exact absurd (hl _ b) (Nat.lt_irrefl _)
        · cases e'; exact absurd (hl _ a) (Nat.lt_irrefl _)
        · exact hi _ _ _ a b
    · rename_i hk
      rw [if_neg hk] at h2
      exact cells_inj hl hi h1 h2
theorem newEnv_comp {M : Model} {A : Around} {E : Value → Shared → Prop} {s : Shared} {scope : Scope} {globals : Addr} {closure : List (Str × Addr)} {qual : Str} {func : Option Addr} {code : Value} {around : Env} {builtins : Addr} {Q : Env → Shared → Prop}
    (h : Q (newEnv scope s.heap.objs.size globals (cellsFrom (s.heap.objs.size + 1) scope.names closure) qual func code (some around) builtins)
      { s with heap := pushCells (s.heap.push { cls := .type "dict", data := .dict #[] }) scope.names }) :
    wpAny M A (newFunctionEnv scope globals closure [] qual func code (some around) builtins) Q E s := by
  simp only [newFunctionEnv, Option.isSome_some, if_true]
  refine wpAny_bind (wpAny_alloc ?_)
  refine wpAny_bind (wpAny_layCells _ (fun n k c => rfl) scope.names closure _ _ ?_)
  rw [show ({ s with heap := s.heap.push { cls := .type "dict", data := .dict #[] } } : Shared).heap.objs.size = s.heap.objs.size + 1 from Heap.size_push ..]
  rw [List.forIn_nil]
  exact wpAny_bind (wpAny_pure (wpAny_pure h))
theorem lookup_relS {sc : Scope} : ∀ {names : List (Str × NameKind)} {x : Str} {k : NameKind},
    (names.map fun (n, k) => if (k == NameKind.free && sc.kind == .function && sc.names.lookup n == some .cell) then (n, NameKind.cell) else (n, k)).lookup x = some k →
    ∃ k', names.lookup x = some k' ∧ (k = k' ∨ (k' = .free ∧ k = .cell))
  | [], _, _, h => by simp at h
  | (n, k₀) :: r, x, k, h => by
    have ih := @lookup_relS sc r x k
    have h' : List.lookup x ((if (k₀ == NameKind.free && sc.kind == .function && sc.names.lookup n == some .cell) = true then (n, NameKind.cell) else (n, k₀)) :: (r.map _)) = some k := h
    cases hx : x == n with
    | true =>
      simp only [List.lookup_cons, hx]
      by_cases hc : (k₀ == NameKind.free && sc.kind == .function && sc.names.lookup n == some .cell) = true
      · rw [if_pos hc] at h'
        simp only [List.lookup_cons, hx] at h'
        cases h'
        simp only [Bool.and_eq_true, beq_iff_eq] at hc
        exact ⟨k₀, rfl, .inr ⟨hc.1.1, rfl⟩⟩
      · rw [if_neg hc] at h'
        simp only [List.lookup_cons, hx] at h'
        cases h'
        exact ⟨_, rfl, .inl rfl⟩
    | false =>
      simp only [List.lookup_cons, hx]
      by_cases hc : (k₀ == NameKind.free && sc.kind == .function && sc.names.lookup n == some .cell) = true
      · rw [if_pos hc] at h'
        simp only [List.lookup_cons, hx] at h'
        exact ih h'
      · rw [if_neg hc] at h'
        simp only [List.lookup_cons, hx] at h'
        exact ih h'
structure BlkOk (N : List Str) (sc scope : Scope) (own : List (Str × Nat)) : Prop where
  kind : scope.kind = .function
  uniq : ∀ y ∈ scope.names, scope.names.lookup y.1 = some y.2
  ix : ∀ p ∈ own, N[p.2]? = some p.1
  free : ∀ y ∈ scope.names, y.2 = .free → sc.names.lookup y.1 = some .cell ∨ sc.names.lookup y.1 = some .free
  own : ∀ y ∈ scope.names, y.2 = .local ∨ y.2 = .cell → y.1 ∈ own.map (·.1) ∨ y.1 ∉ N
def wipe (σ : St) : List Nat → St
  | [] => σ
  | v :: vs => (wipe σ vs).set v none
theorem wipe_length (σ : St) : ∀ vs : List Nat, (wipe σ vs).length = σ.length
  | [] => rfl
  | v :: vs => by unfold wipe; rw [List.length_set, wipe_length σ vs]
theorem wipe_some {σ : St} {i : Nat} {x : V} : ∀ {vs : List Nat}, (wipe σ vs)[i]? = some (some x) → σ[i]? = some (some x) ∧ i ∉ vs
  | [], h => ⟨h, by simp⟩
  | v :: vs, h => by
    unfold wipe at h
    by_cases hi : v = i
    · subst hi
      by_cases hv : v < (wipe σ vs).length
      · rw [List.getElem?_set_self hv] at h; cases h
      · rw [List.getElem?_eq_none (by simpa using hv)] at h; cases h
    · rw [List.getElem?_set_ne hi] at h
      obtain ⟨h1, h2⟩ := wipe_some h
      exact ⟨h1, by simp only [List.mem_cons, not_or]; exact ⟨fun e => hi e.symm, h2⟩⟩
abbrev Cx.blk (X : Cx) (s : Shared) (H : Hp) (scope : Scope) (cenv : Env) (fp : List Addr) : Cx := { X with s_0 := s, H_0 := H, env := cenv, outer := X.stack, ex := fp, fn := fun x => scope.names.lookup x == some .cell, pn := [], xe := fun _ _ => False }
section
variable {X : Cx} {pins : List (Addr × Obj)} {σ : St} {H : Hp} {s : Shared}
theorem block_start {scope : Scope} {own : List (Str × Nat)} {fp : List Addr} (I : Inv X pins σ H s) (ok : BlkOk X.N X.env.scope scope own) (hN : X.N.Nodup) (hfp : ∀ b ∈ fp, FpOk X pins H b ∧ b < s.heap.objs.size) :
    Inv (X.blk s H scope (compEnvC scope (cellsFrom (s.heap.objs.size + 1) scope.names (cloFrom X.env.cells scope.names [])) s.heap.objs.size X.env) fp) [] (wipe σ (own.map (·.2))) H { s with heap := pushCells (s.heap.push { cls := .type "dict", data := .dict #[] }) scope.names } := by
  have hfree : ∀ y ∈ scope.names, y.2 = .free → ∃ c, X.env.cells.lookup y.1 = some c := fun y hy e => by
    rcases ok.free y hy e with k | k
    · exact I.ok.has _ (.inl k)
    · exact I.ok.has _ (.inr k)
  generalize hcenv : compEnvC scope (cellsFrom (s.heap.objs.size + 1) scope.names (cloFrom X.env.cells scope.names [])) s.heap.objs.size X.env = cenv
  have kp : ∀ b o, s.heap.get? b = some o → (pushCells (s.heap.push { cls := .type "dict", data := .dict #[] }) scope.names).get? b = some o := fun b o e => pushCells_keeps _ _ _ _ (Heap.get?_push_of_some _ e)
  have hL : cenv.locals = s.heap.objs.size := by rw [← hcenv]; rfl
  have hcl : cenv.cells = cellsFrom (s.heap.objs.size + 1) scope.names (cloFrom X.env.cells scope.names []) := by rw [← hcenv]; rfl
  have hsc : cenv.scope = relS scope X.env.scope := by rw [← hcenv]; rfl
  rw [← Heap.size_push s.heap { cls := .type "dict", data := .dict #[] }] at hcl
  have cm : ∀ {y c}, (y, c) ∈ cloFrom X.env.cells scope.names [] → X.env.cells.lookup y = some c ∧ c < s.heap.objs.size := fun {y c} hm => by
    rcases cloFrom_mem hm with hm | ⟨h1, rfl⟩
    · cases hm
    · obtain ⟨c, hc⟩ := hfree _ h1 rfl
      rw [hc]
      obtain ⟨w, z⟩ := I.cell _ _ hc
      exact ⟨rfl, z.lt⟩
  have mem : ∀ {y c}, cenv.cells.lookup y = some c → (X.env.cells.lookup y = some c ∧ c < s.heap.objs.size) ∨ (s.heap.objs.size + 1 ≤ c ∧ CellAt (pushCells (s.heap.push { cls := .type "dict", data := .dict #[] }) scope.names) c none) := fun {y c} e => by
    rw [hcl] at e
    rcases cells_mem (PySem.mem_of_lookup e) with hm | ⟨_, h2, h3⟩
    · exact .inl (cm hm)
    · rw [Heap.size_push] at h2; exact .inr ⟨h2, h3⟩
  have look : ∀ {y}, scope.names.lookup y = some .free → ∃ c, cenv.cells.lookup y = some c ∧ X.env.cells.lookup y = some c := fun {y} hl => by
    have hy : (y, NameKind.free) ∈ scope.names := PySem.mem_of_lookup hl
    obtain ⟨c', e'⟩ := mem_lookup (cells_acc (names := scope.names) (n := (s.heap.push { cls := .type "dict", data := .dict #[] }).objs.size) (cloFrom_has (cells := X.env.cells) (acc := []) hy))
    rw [← hcl] at e'
    refine ⟨c', e', ?_⟩
    rw [hcl] at e'
    rcases cells_mem (PySem.mem_of_lookup e') with hm | ⟨h1, _, _⟩
    · exact (cm hm).1
    · have := ok.uniq _ h1
      rw [hl] at this; cases this
  have okB : (X.blk s H scope cenv fp).Ok := by
    refine ⟨I.ok.mod, by show cenv.scope.kind = _; rw [hsc]; exact ok.kind, by show cenv.globals = _; rw [← hcenv]; exact I.ok.glob, by show cenv.builtins = _; rw [← hcenv]; exact I.ok.blt, by show s.heap.objs.size ≤ cenv.locals; rw [hL]; exact Nat.le_refl _,
      fun y z c e1 e2 => ?_, fun y hy => ?_, fun y c z e => ?_, I.ok.hd, I.ok.frames, .inl rfl, fun b hb => ⟨?_, fun y c e z => ?_⟩, I.bs, Nat.le_trans I.ok.bsz I.sz, fun b o e hb => ?_, fun b hb z => ?_, I.stack, I.stkFree⟩
    · have e1 : cenv.cells.lookup y = some c := e1
      have e2 : cenv.cells.lookup z = some c := e2
      rw [hcl] at e1 e2
      refine cells_inj (fun p hp => ?_) (fun y z c a b => I.ok.inj y z c (cm a).1 (cm b).1) (PySem.mem_of_lookup e1) (PySem.mem_of_lookup e2)
      rw [Heap.size_push]
      exact Nat.lt_succ_of_lt (cm (y := p.1) (c := p.2) hp).2
    · show ∃ c, cenv.cells.lookup y = some c
      have key : ∀ k, cenv.kindOf y = some k → (k = .cell ∨ k = .free) → ∃ c, cenv.cells.lookup y = some c := fun k hk hk' => by
        unfold Env.kindOf at hk
        rw [hsc] at hk
        obtain ⟨k', e, r⟩ := lookup_relS hk
        have : k' = .cell ∨ k' = .free := by
          rcases r with rfl | ⟨rfl, _⟩
          · exact hk'
          · exact .inr rfl
        rcases this with rfl | rfl
        · obtain ⟨c, hm⟩ := cells_has (n := (s.heap.push { cls := .type "dict", data := .dict #[] }).objs.size) (acc := cloFrom X.env.cells scope.names []) (PySem.mem_of_lookup e)
          obtain ⟨c', e'⟩ := mem_lookup hm
          exact ⟨c', by rw [hcl]; exact e'⟩
        · obtain ⟨c, h1, _⟩ := look e
          exact ⟨c, h1⟩
      rcases hy with hy | hy
      · exact key _ hy (.inl rfl)
      · exact key _ hy (.inr rfl)
    · have z : (scope.names.lookup y == some NameKind.cell) = true := z
      have z : scope.names.lookup y = some .cell := by simpa using z
      have e : cenv.cells.lookup y = some c := e
      rw [hcl] at e
      rcases cells_mem (PySem.mem_of_lookup e) with hm | ⟨_, h2, _⟩
      · rcases cloFrom_mem hm with hm | ⟨h1, _⟩
        · cases hm
        · have q := ok.uniq _ h1
          rw [z] at q; cases q
      · rw [Heap.size_push] at h2
        exact Nat.le_of_succ_le h2
    · show b ≠ cenv.locals
      rw [hL]; exact Nat.ne_of_lt (hfp b hb).2
    · have e : cenv.cells.lookup y = some c := e
      rcases mem e with ⟨h1, _⟩ | ⟨h1, _⟩
      · exact (hfp b hb).1.2.2.2.2.1 y c h1 z
      · have h2 : s.heap.objs.size + 1 ≤ b := by rw [← z]; exact h1
        exact absurd (Nat.lt_of_lt_of_le (hfp b hb).2 (Nat.le_of_succ_le h2)) (Nat.lt_irrefl _)
    · rcases (hfp b hb).1.2.2.2.1 with z | z
      · exact I.ok.noex b o e z
      · exact absurd (Nat.lt_of_lt_of_le (Heap.lt_size e) (Nat.le_trans I.ok.bsz z)) (Nat.lt_irrefl _)
    · rcases List.mem_cons.mp (I.stkSub b z) with z | z
      · exact (hfp b hb).1.2.1 z
      · exact (hfp b hb).1.2.2.1 z
  refine ⟨okB, rfl, I.bare, Un.kept kp, ⟨fun _ => none, ?_, fun i y av e1 e2 e3 => ?_⟩, fun y c e => ?_, ?_, fun y c e => ?_, fun p hp => ?_, I.hok.kept kp, by rw [wipe_length]; exact I.len⟩
  · show Heap.Ns _ cenv.locals _
    rw [hL]
    exact Heap.Ns.keeps (Heap.Ns.new ..) fun b o e => pushCells_keeps _ _ _ _ e
  · obtain ⟨e2, hne⟩ := wipe_some e2
    have hfr : scope.names.lookup y = some .free ∧ (cenv.kindOf y = some .cell ∨ cenv.kindOf y = some .free) := by
      have key : ∀ k, cenv.scope.names.lookup y = some k → k = .local ∨ k = .cell ∨ k = .free → scope.names.lookup y = some .free ∧ (cenv.kindOf y = some .cell ∨ cenv.kindOf y = some .free) := fun k hk hk' => by
        have hk0 := hk
        rw [hsc] at hk
        obtain ⟨k', e, r⟩ := lookup_relS hk
        have no : ¬ (k' = .local ∨ k' = .cell) := fun hh => by
          rcases ok.own _ (PySem.mem_of_lookup e) hh with e' | e'
          · obtain ⟨p, hp, hpy⟩ := List.mem_map.mp e'
            have e3 := ok.ix p hp
            have : p.1 = y := hpy
            rw [this] at e3
            exact hne (List.mem_map.mpr ⟨p, hp, nodup_ix hN e3 e1⟩)
          · exact e' (List.mem_of_getElem? e1)
        rcases r with rfl | ⟨rfl, rfl⟩
        · rcases hk' with rfl | rfl | rfl
          · exact absurd (.inl rfl) no
          · exact absurd (.inr rfl) no
          · exact ⟨e, .inr hk0⟩
        · exact ⟨e, .inl hk0⟩
      have e3 : Vis cenv.scope y := e3
      rcases e3 with e3 | e3 | e3
      · exact key _ e3 (.inl rfl)
      · exact key _ e3 (.inr (.inl rfl))
      · exact key _ e3 (.inr (.inr rfl))
    obtain ⟨m, hn, hl⟩ := I.loc
    have hvis : Vis X.env.scope y := (ok.free _ (PySem.mem_of_lookup hfr.1) rfl).elim (fun k => .inr (.inl k)) (fun k => .inr (.inr k))
    obtain ⟨w, r, q⟩ := hl i y av e1 e2 hvis
    refine ⟨w, r, .inr ⟨hfr.2, ?_⟩⟩
    obtain ⟨c, h1, h2⟩ := look hfr.1
    rcases q with ⟨k, _⟩ | ⟨_, c', e', z⟩
    · have k : X.env.scope.names.lookup y = some .local := k
      rcases ok.free _ (PySem.mem_of_lookup hfr.1) rfl with k' | k' <;> rw [show X.env.scope.names.lookup y = _ from k'] at k <;> cases k
    · rw [h2] at e'; cases e'
      exact ⟨c, h1, z.keeps kp⟩
  · have e : cenv.cells.lookup y = some c := e
    rcases mem e with ⟨h1, _⟩ | ⟨_, z⟩
    · obtain ⟨w, z⟩ := I.cell y c h1
      exact ⟨w, z.keeps kp⟩
    · exact ⟨_, z⟩
  · show H cenv.locals = none
    rw [hL]; exact I.hok.fresh (Nat.le_refl _)
  · have e : cenv.cells.lookup y = some c := e
    rcases mem e with ⟨h1, _⟩ | ⟨h1, _⟩
    · exact I.freeC y c h1
    · exact I.hok.fresh (Nat.le_of_succ_le h1)
  · exact absurd (show p ∈ ([] : List (Addr × Obj)) ++ [] from hp) (by simp)
theorem app_ok {E : Value → Shared → Prop} {D : Addr} {xs : List V} {y : V} {v : Value} {Q : Value → Shared → Prop} (I : Inv X pins σ H s) (hD : H D = some (.lst xs)) (hz : xs.length < sizeLine) (r : RelV y v)
    (h : ∀ s', Inv X pins σ (upd H D (.lst (xs ++ [y]))) s' → Q .none s') : wpAny (model X.prog X.w) X.A (call (.builtin "list.append") [.ref D, v]) Q E s := by
  obtain ⟨hz', its, n, ri, e⟩ := I.hok D _ hD
  have hl := ri.length
  refine append_at (hsz := by rw [List.size_toArray]; omega) e fun h' sb ho' => ?_
  refine h { s with heap := h' } (I.write (t' := s.toks) (by rw [hD]; trivial) (.inl rfl) (fun b u hb q => (sb.2 b hb).trans q) ⟨_, ho'⟩ ⟨by rw [List.length_append]; exact hz, its ++ [v], n + 1, ri.append (.cons r .nil), ?_⟩)
  rw [ho']
  simp
def PTs (X : Cx) (ifs : List Expr) (t : TT) : Prop :=
  ∀ (pins : List (Addr × Obj)) (s : Shared) (σ : St) (H : Hp) (Q : Bool → Hp → Prop), Inv X pins σ H s → t σ H Q →
    wpAny (model X.prog X.w) X.A (forIn ifs true fun c r => if r = true then do let ok ← isTrue c X.env (eval c X.env); pure (ForInStep.yield ok) else pure (ForInStep.yield r)) (TP X pins σ Q) X.xe s
def tYes : TT := fun _ H Q => Q true H
theorem pts_nil : PTs X [] tYes := fun _ _ _ H _ I h => wpAny_tests_nil ⟨H, I, h⟩
theorem pts_one {c : Expr} {t : TT} (h : PT X c t) : PTs X [c] t := fun pins s σ H Q I hw => wpAny_tests_one (h pins s σ H Q I hw)
end
theorem thnF {α : Type} {t : Sem α} {Q Q' : α → Shared → Prop} {M : Model} {A : Around} {E : Value → Shared → Prop} {s : Shared} (h : wpAny M A t Q (fun _ _ => False) s) (hQ : ∀ a s, Q a s → Q' a s) : wpAny M A t Q' E s := wpAny_mono h hQ fun _ _ z => False.elim z
theorem compLoop_any {prog : Program} {w : World} {A : Around} {R : Result → Shared → Prop} {s : Shared} {elt target iter : Expr} {ifs : List Expr} {scope : Scope} {pos : Pos} {it acc : Value} {env : Env} (I : Nat → Shared → Prop)
    (turn : ∀ n s, I n s → wpAny (model prog w) A (pyNext it) (fun r s₁ => match r with
      | none => R (.ok .next) s₁
      | some v => wpAny (model prog w) A (letOwnedTupleGo target it v) (fun _ s₁' => wpAny (model prog w) A (assign target env v) (fun _ s₂ =>
          wpAny (model prog w) A (forIn ifs true fun c r => if r = true then do let ok ← isTrue c env (eval c env); pure (ForInStep.yield ok) else pure (ForInStep.yield r)) (fun ok s₃ =>
            if ok = true then wpAny (model prog w) A (eval elt env) (fun x s₄ =>
              wpAny (model prog w) A (call (.builtin "list.append") [acc, x]) (fun _ s₅ => ∃ m, m < n ∧ I m s₅) (notedBy (model prog w) A env fun e s' => R (.error e) s') s₄) (notedBy (model prog w) A env fun e s' => R (.error e) s') s₃
            else ∃ m, m < n ∧ I m s₃) (notedBy (model prog w) A env fun e s' => R (.error e) s') s₂) (notedBy (model prog w) A env fun e s' => R (.error e) s') s₁') (notedBy (model prog w) A env fun e s' => R (.error e) s') s₁) (notedBy (model prog w) A env fun e s' => R (.error e) s') s)
    (n : Nat) (h : I n s) :
    codeAny (model prog w) A (.compLoop (.ListComp elt [⟨target, iter, ifs, 0⟩] scope pos) 0 it acc env) R s := by
  refine codeAny_loop rfl I (fun n s hI => ?_) n h
  show wpAny _ A ((compTurn (.ListComp elt [⟨target, iter, ifs, 0⟩] scope pos) 0 it acc env).onRaise (fun x => do noteFrame x env; theTreesLotGoes x)) _ _ s
  refine wpAny_noted ?_
  rw [compTurn_list]
  refine wpAny_bind (wpAny_standAt (wpAny_bind (wpAny_mono (turn n s hI) (fun r s₁ h₁ => ?_) fun _ _ h' => h')))
  cases r with
  | none => exact wpAny_pure h₁
  | some v =>
    refine wpAny_bind (wpAny_mono h₁ (fun _ s₁' h₁' => ?_) fun _ _ h' => h')
    refine wpAny_bind (wpAny_mono h₁' (fun _ s₂ h₂ => wpAny_bind (wpAny_mono h₂ (fun ok s₃ h₃ => ?_) fun _ _ h' => h')) fun _ _ h' => h')
    cases ok with
    | false => exact wpAny_pure ⟨rfl, h₃⟩
    | true =>
      exact wpAny_bind (wpAny_bind (wpAny_mono h₃ (fun x s₄ h₄ => wpAny_bind (wpAny_mono h₄ (fun _ s₅ h₅ => wpAny_pure (wpAny_pure ⟨rfl, h₅⟩)) fun _ _ h' => h')) fun _ _ h' => h'))
section
variable {X : Cx}
def tLc (wi : TI) (g : TG) (tt : TT) (te : TE) (vs : List Nat) : TE := fun σ H Q => wi σ H fun J H1 => ∀ D, H1 D = none → ∃ W : Nat → Nat → Hp → Prop, (∃ m, W 0 m (upd H1 D (.lst []))) ∧ ∀ i m H, W i m H →
  (J.stop i H ∧ Q (.ref D) H) ∨ (J.go i H ∧ ∃ Nx : Hp → Prop, (∀ H', Nx H' → ∃ m', m' < m ∧ W (i + 1) m' H') ∧ ∀ x H', J.yld i H x H' → g x (wipe σ vs) H' fun σ2 H2 => wipe σ2 vs = wipe σ vs ∧ tt σ2 H2 fun b H3 =>
    if b = true then te σ2 H3 fun y H4 => ∃ acc, H4 D = some (.lst acc) ∧ acc.length < sizeLine ∧ Nx (upd H4 D (.lst (acc ++ [y]))) else Nx H3)
theorem lc_core {pins : List (Addr × Obj)} {s : Shared} {σ : St} {H : Hp} {Q : VK} {elt tg iter : Expr} {ifs : List Expr} {scope : Scope} {own : List (Str × Nat)} {pos pos' : Pos} {wi : TI} {g : TG} {tt : TT} {te : TE} {use : Option (Value → Sem Unit)} {Qf : Value → Shared → Prop}
    (hc : X.calm = true) (hN : X.N.Nodup) (I : Inv X pins σ H s) (hi : PI X tg iter wi) (ok : BlkOk X.N X.env.scope scope own)
    (hg : ∀ (s : Shared) (H : Hp) (C : Addr) (cl : List (Str × Addr)) (fp : List Addr), PG (X.blk s H scope (compEnvC scope cl C X.env) fp) tg g) (ht : ∀ (s : Shared) (H : Hp) (C : Addr) (cl : List (Str × Addr)) (fp : List Addr), PTs (X.blk s H scope (compEnvC scope cl C X.env) fp) ifs tt)
    (he : ∀ (s : Shared) (H : Hp) (C : Addr) (cl : List (Str × Addr)) (fp : List Addr), PE (X.blk s H scope (compEnvC scope cl C X.env) fp) elt te) (hs : ∀ x, foldedSetIterable iter X.env x = pure x)
    (h : tLc wi g tt te (own.map (·.2)) σ H Q)
    (hRR : ∀ D C s' m H', Inv X pins σ H' s' → Q (.ref D) H' → s'.heap.Ns C m → FpOk X pins H' C → compPost (model X.prog X.w) X.A X.xe use Qf (.ref D) C (.ok .next) s') :
    wpAny (model X.prog X.w) X.A (comprehension (.ListComp elt [⟨tg, iter, ifs, 0⟩] scope pos) scope X.env pos' (newList []) false (eval iter X.env) use) Qf X.xe s := by
  have hfree : ∀ y ∈ scope.names, y.2 = .free → ∃ c, X.env.cells.lookup y.1 = some c := fun y hy e => by
    rcases ok.free y hy e with k | k
    · exact I.ok.has _ (.inl k)
    · exact I.ok.has _ (.inr k)
  refine wpAny_comprehension_free (use := use) rfl hs (closure_ok hfree) ok.kind (fun y hy e => by rw [ok.uniq y hy, e])
    (thn (hi pins s σ H _ I h) fun xv s1 hx => thn hx fun itv s2 h2 => ?_)
  obtain ⟨it, fp, tn, J, H2, e, I2, T, st2, f2, q⟩ := h2
  subst e
  refine wpAny_newObj_type (newEnv_comp ?_) (by show 0 ≤ sizeLine; decide)
  generalize hD : s2.heap.objs.size = D
  have hDn : H2 D = none := I2.hok.fresh (Nat.le_of_eq hD)
  obtain ⟨W, ⟨m0, w0⟩, turn⟩ := q D hDn
  -- the new list
  generalize hs3 : ({ s2 with heap := s2.heap.push { cls := .type "list", data := .seq ([] : List Value).toArray } } : Shared) = s3
  have I3 : Inv X pins σ (upd H2 D (.lst [])) s3 := by
    rw [← hs3]
    refine I2.laid (t' := s2.toks) (fun b o e => Heap.get?_push_of_some _ e) (Nat.le_of_eq hD) ⟨Nat.zero_le _, [], 0, .nil, ?_⟩
    rw [← hD]
    exact Heap.get?_push_size _ rfl
  have h3 : s3.heap = s2.heap.push { cls := .type "list", data := .seq ([] : List Value).toArray } := by rw [← hs3]
  have sz : ∀ b ∈ fp, b < s2.heap.objs.size := fun b hb => by
    obtain ⟨o, e, _⟩ := T.obj _ _ st2 b hb
    exact Heap.lt_size e
  have f3 : ∀ b ∈ fp, FpOk X pins (upd H2 D (.lst [])) b ∧ b < s3.heap.objs.size := fun b hb => by
    have hlt := sz b hb
    refine ⟨⟨?_, (f2 b hb).2⟩, by rw [h3, Heap.size_push]; exact Nat.lt_succ_of_lt hlt⟩
    rw [upd_ne (by rw [← hD]; exact Nat.ne_of_lt hlt)]
    exact (f2 b hb).1
  have st3 : tn 0 s3.heap := T.keep _ _ _ st2 fun b _ o e => by rw [h3]; exact Heap.get?_push_of_some _ e
  have I4 := block_start I3 ok hN f3
  have pg := hg s3 (upd H2 D (.lst [])) s3.heap.objs.size (cellsFrom (s3.heap.objs.size + 1) scope.names (cloFrom X.env.cells scope.names [])) fp
  have pt := ht s3 (upd H2 D (.lst [])) s3.heap.objs.size (cellsFrom (s3.heap.objs.size + 1) scope.names (cloFrom X.env.cells scope.names [])) fp
  have pe := he s3 (upd H2 D (.lst [])) s3.heap.objs.size (cellsFrom (s3.heap.objs.size + 1) scope.names (cloFrom X.env.cells scope.names [])) fp
  show codeAny _ _ (.compStart (.ListComp elt [⟨tg, iter, ifs, 0⟩] scope pos) 0 (.ref it) (.ref D) (compEnvC scope (cellsFrom (s3.heap.objs.size + 1) scope.names (cloFrom X.env.cells scope.names [])) s3.heap.objs.size X.env)) (compPost (model X.prog X.w) X.A X.xe use Qf (.ref D) s3.heap.objs.size) { s3 with heap := pushCells (s3.heap.push { cls := .type "dict", data := .dict #[] }) scope.names }
  have nfp : ∀ b ∈ fp, (upd H2 D (.lst [])) b = none := fun b hb => (f3 b hb).1.1
  generalize hce : compEnvC scope (cellsFrom (s3.heap.objs.size + 1) scope.names (cloFrom X.env.cells scope.names [])) s3.heap.objs.size X.env = ce at I4 pg pt pe ⊢
  have cL : ce.locals = s3.heap.objs.size := by subst hce; rfl
  generalize hH3 : upd H2 D (.lst []) = H3 at I3 I4 pg pt pe w0 nfp f3
  generalize hs4 : ({ s3 with heap := pushCells (s3.heap.push { cls := .type "dict", data := .dict #[] }) scope.names } : Shared) = s4 at I4 ⊢
  have st4 : tn 0 s4.heap := T.keep _ _ _ st3 fun b _ o e => by rw [← hs4]; exact pushCells_keeps _ _ _ _ (Heap.get?_push_of_some _ e)
  have stat : ∀ {σ' : St} {H' : Hp} {s' : Shared}, Inv (X.blk s3 H3 scope ce fp) [] σ' H' s' → (∀ b ∈ fp, H' b = none) → ∀ b ∈ fp, FpOk (X.blk s3 H3 scope ce fp) [] H' b := fun {σ' H' s'} I' hn b hb =>
    ⟨hn b hb, (I'.ok.exf b hb).1, I'.ok.exfs b hb, .inl hb, fun x c e => (I'.ok.exf b hb).2 x c e, fun p hp => absurd (show p ∈ ([] : List (Addr × Obj)) ++ [] from hp) (by simp)⟩
  have loop : codeAny (model X.prog X.w) X.A (.compLoop (.ListComp elt [⟨tg, iter, ifs, 0⟩] scope pos) 0 (.ref it) (.ref D) ce) (compPost (model X.prog X.w) X.A X.xe use Qf (.ref D) s3.heap.objs.size) s4 := by
    refine compLoop_any (fun n s' => ∃ i H', Inv (X.blk s3 H3 scope ce fp) [] (wipe σ (own.map (·.2))) H' s' ∧ tn i s'.heap ∧ (∀ b ∈ fp, H' b = none) ∧ W i n H') ?_ m0 ⟨0, H3, I4, st4, nfp, w0⟩
    rintro n s5 ⟨i, H5, I5, st5, n5, w5⟩
    rcases turn i n H5 w5 with ⟨stop, qq⟩ | ⟨go, Nx, hNx, step⟩
    · have td := T.done (X.blk s3 H3 scope ce fp) rfl rfl rfl hc i [] s5 _ H5 (fun _ _ => False) I5 (stat I5 n5) st5 stop
      refine thnF td fun r s6 ⟨hr, I6⟩ => ?_
      subst hr
      -- back in the def's context
      have I7 : Inv X pins σ H5 s6 := I3.call' (ch := fp) I6.os I6.base I6.hok I6.bare fun b hb => ⟨(f3 b hb).1.2.2.2.1, (f3 b hb).1.2.1, (f3 b hb).1.2.2.2.2.1, (f3 b hb).1.2.2.2.2.2⟩
      have nC : H5 s3.heap.objs.size = none := by
        have z : H5 ce.locals = none := I6.free
        rw [cL] at z
        exact z
      obtain ⟨m, hn, _⟩ := I6.loc
      have hn : s6.heap.Ns ce.locals m := hn
      rw [cL] at hn
      exact hRR D s3.heap.objs.size s6 m H5 I7 qq hn (I3.fpOk (Nat.le_refl _) nC)
    · have ti := T.item (X.blk s3 H3 scope ce fp) rfl rfl rfl hc i [] s5 _ H5 (fun _ _ => False) I5 (stat I5 n5) st5 go
      refine thnF ti fun r s6 ⟨u, hr, h6⟩ => ?_
      subst hr
      refine thnF h6 fun _ s7 ⟨x, H7, I7, r7, y7, st7, n7⟩ => ?_
      have I7' := I7.pinned (stat I7 n7) (T.obj _ _ st7)
      refine thnF (pg _ s7 _ H7 x u _ I7' r7 (step x H7 y7)) fun _ s8 ⟨σ8, H8, I8, hw8, q8⟩ => ?_
      refine thnF (pt _ s8 σ8 H8 _ I8 q8) fun b s9 ⟨H9, I9, q9⟩ => ?_
      -- the turn's end
      have fin : ∀ {s' : Shared} {H' : Hp}, Inv (X.blk s3 H3 scope ce fp) ([] ++ pinsAt fp s7.heap) σ8 H' s' → Nx H' → ∃ m, m < n ∧ ∃ i H', Inv (X.blk s3 H3 scope ce fp) [] (wipe σ (own.map (·.2))) H' s' ∧ tn i s'.heap ∧ (∀ b ∈ fp, H' b = none) ∧ W i m H' := fun {s' H'} I' nx => by
        obtain ⟨m', hm, w'⟩ := hNx H' nx
        have pin' : ∀ b ∈ fp, ∀ o, s7.heap.get? b = some o → s'.heap.get? b = some o ∧ H' b = none := fun b hb o e =>
          let z := I'.pin (b, o) (List.mem_append_right _ (List.mem_append_right _ (mem_pinsAt hb e)))
          ⟨z.1, z.2.1⟩
        have hl : (wipe σ (own.map (·.2))).length = σ8.length := by rw [← hw8, wipe_length]
        refine ⟨m', hm, i + 1, H', (I'.unpinned (pins := [])).weak hl (fun j v e => ?_), T.keep _ _ _ st7 fun b hb o e => (pin' b hb o e).1, fun b hb => ?_, w'⟩
        · rw [← hw8] at e
          exact (wipe_some e).1
        · obtain ⟨o, e, _⟩ := T.obj _ _ st7 b hb
          exact (pin' b hb o e).2
      cases b with
      | false =>
        simp only [Bool.false_eq_true, if_false] at q9 ⊢
        exact fin I9 q9
      | true =>
        simp only [if_true] at q9 ⊢
        refine thnF (pe _ s9 σ8 H9 _ I9 q9) fun z s10 ⟨yv, H10, I10, r10, acc, hD10, hz10, nx⟩ => ?_
        exact app_ok (X := X.blk s3 H3 scope ce fp) I10 hD10 hz10 r10 fun s11 I11 => fin I11 nx
  exact codeAny_compStart_list loop (T.self X.A 0 _ _ _ st4 loop)
theorem pe_lc {elt tg iter : Expr} {ifs : List Expr} {scope : Scope} {own : List (Str × Nat)} {pos : Pos} {wi : TI} {g : TG} {tt : TT} {te : TE} (hc : X.calm = true) (hN : X.N.Nodup) (hi : PI X tg iter wi) (ok : BlkOk X.N X.env.scope scope own)
    (hg : ∀ (s : Shared) (H : Hp) (C : Addr) (cl : List (Str × Addr)) (fp : List Addr), PG (X.blk s H scope (compEnvC scope cl C X.env) fp) tg g) (ht : ∀ (s : Shared) (H : Hp) (C : Addr) (cl : List (Str × Addr)) (fp : List Addr), PTs (X.blk s H scope (compEnvC scope cl C X.env) fp) ifs tt)
    (he : ∀ (s : Shared) (H : Hp) (C : Addr) (cl : List (Str × Addr)) (fp : List Addr), PE (X.blk s H scope (compEnvC scope cl C X.env) fp) elt te) (hs : ∀ x, foldedSetIterable iter X.env x = pure x := by intro _; rfl) :
    PE X (.ListComp elt [⟨tg, iter, ifs, 0⟩] scope pos) (tLc wi g tt te (own.map (·.2))) := by
  intro pins s σ H Q I h
  rw [eval_ListComp]
  refine lc_core hc hN I hi ok hg ht he hs h fun D C s' m H' I' q hn f => ⟨m, hn, fun h'' sb => ?_⟩
  obtain ⟨f0, f1, f2, f3, f4, f5⟩ := f
  exact ⟨.ref D, H', I'.turned (t' := s'.toks) (fun b o hb e => (sb.2 b hb).trans e) f0 f1 f3 f4 f5, rfl, q⟩
theorem ps_setLc {i : Nat} {y : Str} {py : Pos} {elt tg iter : Expr} {ifs : List Expr} {scope : Scope} {own : List (Str × Nat)} {pos spos : Pos} {wi : TI} {g : TG} {tt : TT} {te : TE} (hc : X.calm = true) (hN : X.N.Nodup) (hy : X.N[i]? = some y) (hyl : X.env.scope.names.lookup y = some .local)
    (hsw : swapsWith (.ListComp elt [⟨tg, iter, ifs, 0⟩] scope pos) (some (.Name y py)) spos.line X.env = pure true) (hi : PI X tg iter wi) (ok : BlkOk X.N X.env.scope scope own)
    (hg : ∀ (s : Shared) (H : Hp) (C : Addr) (cl : List (Str × Addr)) (fp : List Addr), PG (X.blk s H scope (compEnvC scope cl C X.env) fp) tg g) (ht : ∀ (s : Shared) (H : Hp) (C : Addr) (cl : List (Str × Addr)) (fp : List Addr), PTs (X.blk s H scope (compEnvC scope cl C X.env) fp) ifs tt)
    (he : ∀ (s : Shared) (H : Hp) (C : Addr) (cl : List (Str × Addr)) (fp : List Addr), PE (X.blk s H scope (compEnvC scope cl C X.env) fp) elt te) (hs : ∀ x, foldedSetIterable iter X.env x = pure x := by intro _; rfl) :
    PS X (.Assign [.Name y py] (.ListComp elt [⟨tg, iter, ifs, 0⟩] scope pos) spos) (tAsg (tLc wi g tt te (own.map (·.2))) (gName i)) := by
  intro pins s σ H D I h
  rw [exec_Assign_Name_used _ _ _ _ hsw]
  refine wpAny_bind (wpAny_standAt (wpAny_bind ?_))
  show wpAny _ X.A (do let _ ← comprehension (.ListComp elt [⟨tg, iter, ifs, 0⟩] scope pos) scope X.env (firstIterPos [⟨tg, iter, ifs, 0⟩] pos) (newList []) false (eval iter X.env) (some (assign (.Name y py) X.env))) _ _ s
  have h : tLc wi g tt te (own.map (·.2)) σ H (fun x H1 => gName i x σ H1 D.nx) := h
  refine wpAny_bind (thn (lc_core (Qf := fun _ s' => SP X pins D .next s') hc hN I hi ok hg ht he hs h fun L C s' m H' I' q hn f => ?_) fun _ s' hq => wpAny_pure (wpAny_pure hq))
  show wpAny _ _ (assign (.Name y py) X.env (.ref L)) _ _ _
  refine wpAny_assign_Name (store_ok2 (v := V.ref L) I' hN hy (.inl hyl) rfl (fun s2 I2 ⟨a, sb, ha⟩ => ?_) (.inr hyl))
  obtain ⟨f0, f1, f2, f3, f4, f5⟩ := f
  have haC : C ≠ a := by
    rcases ha with z | z
    · rw [z]; exact f1
    · exact fun e => f4 y a z e.symm
  refine ⟨m, hn.sameBut sb haC, fun h3 sb3 => ?_⟩
  exact ⟨_, H', I2.turned (t' := s2.toks) (fun b o hb e => (sb3.2 b hb).trans e) f0 f1 f3 f4 f5, q⟩
end
theorem lc_list {K : PySem.W.Frag} {a : Addr} {xs : List V} {g : TG} {tt : TT} {te : TE} {vs : List Nat} {σ : St} {H1 : Hp} {D : Addr} {Qd : Hp → Prop} (Pv : Nat → Hp → Prop) (h0 : Pv 0 (upd H1 D (.lst []))) (hl : ∀ i H, i ≤ xs.length → Pv i H → SqL K H a xs)
    (hs : ∀ i x H, xs[i]? = some x → Pv i H → g x (wipe σ vs) H fun σ2 H2 => wipe σ2 vs = wipe σ vs ∧ tt σ2 H2 fun b H3 =>
      if b = true then te σ2 H3 fun y H4 => ∃ acc, H4 D = some (.lst acc) ∧ acc.length < sizeLine ∧ Pv (i + 1) (upd H4 D (.lst (acc ++ [y]))) else Pv (i + 1) H3) (hd : ∀ H, Pv xs.length H → Qd H) :
    ∃ W : Nat → Nat → Hp → Prop, (∃ m, W 0 m (upd H1 D (.lst []))) ∧ ∀ i m H, W i m H →
      ((Itl K a).stop i H ∧ Qd H) ∨ ((Itl K a).go i H ∧ ∃ Nx : Hp → Prop, (∀ H', Nx H' → ∃ m', m' < m ∧ W (i + 1) m' H') ∧ ∀ x H', (Itl K a).yld i H x H' → g x (wipe σ vs) H' fun σ2 H2 => wipe σ2 vs = wipe σ vs ∧ tt σ2 H2 fun b H3 =>
        if b = true then te σ2 H3 fun y H4 => ∃ acc, H4 D = some (.lst acc) ∧ acc.length < sizeLine ∧ Nx (upd H4 D (.lst (acc ++ [y]))) else Nx H3) := by
  refine ⟨fun i m H => m = xs.length - i ∧ i ≤ xs.length ∧ Pv i H, ⟨xs.length, by simp, Nat.zero_le _, h0⟩, ?_⟩
  rintro i m H ⟨rfl, hi, p⟩
  have q := hl i H hi p
  by_cases hlt : i < xs.length
  · refine .inr ⟨⟨xs, xs[i], q, by simp [hlt]⟩, Pv (i + 1), fun H' p' => ⟨xs.length - (i + 1), by omega, rfl, hlt, p'⟩, fun x H' y => ?_⟩
    obtain ⟨e, y⟩ := y
    subst e
    exact hs i x _ (y xs q) p
  · have e : i = xs.length := by omega
    subst e
    exact .inl ⟨⟨xs, q, Nat.le_refl _⟩, hd H p⟩
def blkC (N : List Str) (sc scope : Scope) (own : List (Str × Nat)) : Bool :=
  (match scope.kind with | .function => true | _ => false) && (scope.names.all fun y => decide (scope.names.lookup y.1 = some y.2)) && (own.all fun p => decide (N[p.2]? = some p.1)) &&
    (scope.names.all fun y => match y.2 with
      | .free => (match sc.names.lookup y.1 with | some .cell => true | some .free => true | _ => false)
      | .local => decide (y.1 ∈ own.map (·.1)) || decide (y.1 ∉ N)
      | .cell => decide (y.1 ∈ own.map (·.1)) || decide (y.1 ∉ N)
      | _ => true)
theorem blkOk_by {N : List Str} {sc scope : Scope} {own : List (Str × Nat)} (h : blkC N sc scope own = true) : BlkOk N sc scope own := by
  unfold blkC at h
  simp only [Bool.and_eq_true, List.all_eq_true, decide_eq_true_eq] at h
  obtain ⟨⟨⟨h1, h2⟩, h3⟩, h4⟩ := h
  refine ⟨?_, h2, h3, fun y hy e => ?_, fun y hy e => ?_⟩
  · split at h1
    · assumption
    · cases h1
  · have q := h4 y hy
    simp only [e] at q
    split at q <;> first | exact .inl (by assumption) | exact .inr (by assumption) | cases q
  · have q := h4 y hy
    rcases e with e | e <;> (simp only [e, Bool.or_eq_true, decide_eq_true_eq] at q; exact q)
end L2
namespace L2
open PySem PySem.Spec PyProof.Rows
section
variable {prog : Program} {w : World} {A : Around} {R : Result → Shared → Prop} {s : Shared} {elt t0 i0 t1 i1 : Expr} {ifs0 ifs1 : List Expr} {scope : Scope} {pos : Pos} {it acc : Value} {env : Env}
end
section
variable {X : Cx}
end
end L2
namespace L2
open PySem PySem.Spec PyProof.Rows
section
variable {κ : Type} [DecidableEq κ]
end
theorem kV_is {P : Program} {w : World} {k : Key} {u : Value} (r : RelV (kV k) u) : (mixKind P w).is k u = true := by
  cases k with
  | inl i => obtain ⟨t, e⟩ := (show ∃ t, u = Value.int i t from r); subst e; exact mixKind_int P w i t
  | inr x => obtain ⟨t, e⟩ := (show ∃ t, u = Value.str x t from r); subst e; exact mixKind_str P w x t
section
variable {P : Program} {w : World} {H : Hp} {h : Heap} {a : Addr}
end
section
variable {X : Cx} {pins : List (Addr × Obj)} {σ : St} {H : Hp} {s : Shared} {a : Addr} {y v : V} {u r : Value} {o : Option V} {A : Around} {E : Value → Shared → Prop}
end
section
variable {X : Cx} {pins : List (Addr × Obj)} {σ : St} {H : Hp} {s : Shared} {a : Addr} {kvs : List (Key × V)} {k : Key} {u : Value} {A : Around} {E : Value → Shared → Prop}
end
def NoSl (i : Expr) : Prop := ∀ ov iv, subscripted i false ov iv = operate [ov, iv] (getItem ov iv)
theorem subD_of {prog : Program} {w : World} {A : Around} {E : Value → Shared → Prop} {s : Shared} {env : Env} {value slice : Expr} {pos : Pos} {T id : String} {Q : Value → Shared → Prop}
    (hl : typeLookup (.type T) "__getitem__" = pure (some (.builtin id))) (hs : NoSl slice)
    (h : wpAny (model prog w) A (eval value env) (fun o s₁ => wpAny (model prog w) A (eval slice env) (fun i s₂ => s₂.TypeIs o T ∧ wpAny (model prog w) A (getItem o i) Q E s₂) E s₁) E s) :
    wpAny (model prog w) A (eval (.Subscript value slice pos) env) Q E s := by
  refine Subscript_ (wpAny_mono h (fun o s₁ h₁ => wpAny_mono h₁ (fun i s₂ h₂ => ?_) fun _ _ x => x) fun _ _ x => x)
  obtain ⟨hT, h₂⟩ := h₂
  unfold subscriptTail
  refine wpAny_bind ?_
  rw [getitemInPython_of_ne hT.not_modules]
  refine wpAny_bind (wpAny_specialOf hT hl ?_)
  have fin : wpAny (model prog w) A (subscripted slice false o i) (fun r s₃ => wpAny (model prog w) A (letTemporaryGo value o r >>= fun _ => pure r) Q E s₃) E s₂ := by
    rw [hs o i]
    exact wpAny_operating (wpAny_mono h₂ (fun r s₃ h₃ => wpAny_bind (wpAny_letTemporaryGo (wpAny_pure h₃))) fun _ _ x => x)
  first
    | exact wpAny_pure (wpAny_bind fin)
    | exact wpAny_bind (wpAny_pure (wpAny_bind fin))
    | exact wpAny_bind fin
section
variable {X : Cx} {o i e value : Expr} {pos pos' tpos : Pos} {td ty tv : TE}
end
section
variable {X : Cx} {pos : Pos}
end
section
variable {X : Cx} {pins : List (Addr × Obj)} {σ : St} {H : Hp} {s : Shared} {a : Addr} {y d : V} {u r : Value} {o : Option V} {A : Around} {E : Value → Shared → Prop}
end
section
variable {X : Cx} {o e f : Expr} {apos cpos : Pos} {td ty tx : TE}
end
section
variable {X : Cx} {pins : List (Addr × Obj)} {σ : St} {H : Hp} {s : Shared} {a : Addr} {kvs : List (Key × V)} {A : Around} {E : Value → Shared → Prop}
end
section
variable {X : Cx} {pins : List (Addr × Obj)} {σ : St} {H : Hp} {s : Shared} {a : Addr} {y : V} {u : Value} {A : Around} {E : Value → Shared → Prop}
end
end L2
namespace L2
open PySem PySem.Spec PyProof.Rows
section
variable {prog : Program} {w : World} {A : Around} {E : Value → Shared → Prop}
end
section
variable {X : Cx}
end
end L2
namespace L2
open PySem PySem.Spec PyProof.Rows
section
variable {X : Cx} {pins : List (Addr × Obj)} {σ : St} {H : Hp} {s : Shared} {h' : Heap}
end
section
variable {X : Cx}
theorem pi_one {tg : Expr} {pins : List (Addr × Obj)} {σ : St} {H : Hp} {s : Shared} {R : It → Hp → Prop} {J : It} {tn : Nat → Heap → Prop} {tk : Nat} (I : Inv X pins σ H s) (o : Obj)
    (T : Turn X.prog X.w X.K tg J [s.heap.objs.size] s.heap.objs.size tn) (st : tn 0 (s.heap.push o)) (q : R J H) : PIE X pins σ tg R (.ref s.heap.objs.size) { s with heap := s.heap.push o, toks := tk } := by
  refine ⟨s.heap.objs.size, [s.heap.objs.size], tn, J, H, rfl, I.kept fun b ob e => Heap.get?_push_of_some _ e, T, st, fun b hb => ?_, q⟩
  have e : b = s.heap.objs.size := by simpa using hb
  subst e
  exact I.fpOk (Nat.le_refl _) (I.hok.fresh (Nat.le_refl _))
end
def Itc (lo c : Int) (n : Nat) : It := ⟨fun i _ => i < n, fun i H x H' => H' = H ∧ x = .int (lo + (i : Nat) * c), fun i _ => n ≤ i⟩
theorem turn_rangeC {P : Program} {w : World} {K : PySem.W.Frag} {tg : Expr} (it : Addr) (lo c : Int) (n : Nat) : Turn P w K tg (Itc lo c n) [it] it (fun i h => IsRangeIter h it (lo + (i : Nat) * c) ((n : Int) - (i : Nat)) c) where
  mem := by simp
  obj := fun i h st b hb => by
    have e : b = it := by simpa using hb
    subst e
    exact ⟨_, st, fun v z => nomatch z⟩
  keep := fun i h h' st k => k it (by simp) _ st
  item := by
    intro X hP hw hK hc i pins s σ H E I hf st hg
    subst hP hw hK
    obtain ⟨f0, f1, f2, f3, f4, f5⟩ := hf it (by simp)
    have W := Walks.range (prog := X.prog) (w := X.w) (I.ok.hd hc) it lo c n
    refine W.item i s _ _ hg st fun v h' tk hv st' kk => ?_
    obtain ⟨t, rfl⟩ := hv
    have I1 : Inv X pins σ H { s with heap := h', toks := tk } := I.turned (fun b o hb e => kk b o (by simpa using hb) e) f0 f1 f3 f4 f5
    exact ⟨_, rfl, go_of (s := { s with heap := h', toks := tk }) (n := "range_iterator") st' rfl rfl (by decide) ⟨.int (lo + (i : Nat) * c), H, I1, ⟨t, rfl⟩, ⟨rfl, rfl⟩, st', fun b hb => (hf b hb).1⟩⟩
  done := by
    intro X hP hw hK hc i pins s σ H E I hf st hg
    subst hP hw hK
    obtain ⟨f0, f1, f2, f3, f4, f5⟩ := hf it (by simp)
    exact wpAny_pyNext_range_end (I.ok.hd hc) st (by have : n ≤ i := hg; omega) fun h' eb => ⟨rfl, I.turned (t' := s.toks) (fun b o hb e => eb b o hb e) f0 f1 f3 f4 f5⟩
  self := fun A i s Q E st h => wpAny_pyIter_rangeiter st h
def RgC (i j c : Int) (n : Nat) : Prop := c ≠ 0 ∧ c.natAbs < 1073741824 ∧ Builtin.Range.small i j c = true ∧ Builtin.Range.rangeSize i j c = n
def iRng3 (ta : TA) : TI := fun σ H R => ta σ H fun vs H1 => ∃ (i j c : Int) (n : Nat), vs = [.int i, .int j, .int c] ∧ RgC i j c n ∧ R (Itc i c n) H1
section
variable {X : Cx} {tg : Expr}
theorem pi_range3 {a b c : Expr} {ta : TA} {p pos : Pos} (hg : Gl X "range") (hm : X.mg "range" = none) (ha : PA X [a, b, c] ta)
    (hs : starEach [a, b, c] X.env = (false, eval a X.env) :: starEach [b, c] X.env := by rfl) (hpl : (backTo pos (starEach [b, c] X.env)).any (·.1) = false := by rfl) :
    PI X tg (.Call (.Name "range" p) [a, b, c] [] pos) (iRng3 ta) := by
  intro pins s σ H R I h
  refine Call_ (ld_blt I hg hm boot_range (PyProof.Rows.callWith_type1 (thn (ha pos pins s σ H _ I h) fun us s1 ⟨vs, H1, I1, r1, q1⟩ => ?_) hs hpl))
  obtain ⟨i, j, k, n, e, ⟨c0, c1, c2, c3⟩, q⟩ := q1
  subst e
  cases r1 with
  | cons r rr =>
    cases rr with
    | cons r' rr =>
      cases rr with
      | cons r'' rr =>
        cases rr
        obtain ⟨t, rfl⟩ := r
        obtain ⟨t', rfl⟩ := r'
        obtain ⟨t'', rfl⟩ := r''
        refine call_range_3 c0 ?_ (.inl (PyProof.noPylong_small c1))
        refine wpAny_pyIter_range (IsRange.new ..) c2 ?_
        have I2 : Inv X pins σ H1 { s1 with heap := s1.heap.push { cls := .type "range", data := .fields #[.int i t, .int j t', .int k t''] } } := I1.kept (t' := s1.toks) fun b o e => Heap.get?_push_of_some _ e
        refine pi_one (tk := s1.toks) I2 _ (turn_rangeC _ i k n) ?_ q
        have e1 : i + ((0 : Nat) : Int) * k = i := by simp
        have e2 : (n : Int) - ((0 : Nat) : Int) = Builtin.Range.rangeSize i j k := by rw [c3]; simp
        show IsRangeIter _ _ (i + ((0 : Nat) : Int) * k) ((n : Int) - ((0 : Nat) : Int)) k
        rw [e1, e2]
        exact Heap.get?_push_size _ rfl
end
theorem for_rangeC {lo c : Int} {n : Nat} {g : TG} {tb : TS} {D : Ends} {σ : St} {H : Hp} (Pv : Nat → St → Hp → Prop) (h0 : Pv 0 σ H)
    (hs : ∀ i σ H, i < n → Pv i σ H → g (.int (lo + (i : Nat) * c)) σ H fun σ2 H2 => tb { D with nx := Pv (i + 1), ct := Pv (i + 1), bk := D.nx } σ2 H2) (hd : ∀ σ H, Pv n σ H → D.nx σ H) :
    ∃ W : Nat → Nat → St → Hp → Prop, (∃ m, W 0 m σ H) ∧ ∀ i m σ H, W i m σ H →
      ((Itc lo c n).stop i H ∧ D.nx σ H) ∨ ((Itc lo c n).go i H ∧ ∃ N : St → Hp → Prop, (∀ σ' H', N σ' H' → ∃ m', m' < m ∧ W (i + 1) m' σ' H') ∧ ∀ x H', (Itc lo c n).yld i H x H' → g x σ H' fun σ2 H2 => tb { D with nx := N, ct := N, bk := D.nx } σ2 H2) := by
  refine ⟨fun i m σ H => m = n - i ∧ i ≤ n ∧ Pv i σ H, ⟨n, by simp, Nat.zero_le _, h0⟩, ?_⟩
  rintro i m σ H ⟨rfl, hi, p⟩
  by_cases hlt : i < n
  · refine .inr ⟨hlt, Pv (i + 1), fun σ' H' p' => ⟨n - (i + 1), by omega, rfl, hlt, p'⟩, fun x H' y => ?_⟩
    obtain ⟨e, y⟩ := y
    subst e y
    exact hs i σ _ hlt p
  · have e : i = n := by omega
    subst e
    exact .inl ⟨Nat.le_refl _, hd σ H p⟩
section
variable {X : Cx} {tg : Expr}
end
section
variable {prog : Program} {w : World} {A : Around} {E : Value → Shared → Prop} {s : Shared}
end
section
variable {X : Cx} {pins : List (Addr × Obj)} {σ : St} {H : Hp} {s : Shared} {d : Addr} {o : Obj}
end
section
variable {P : Program} {w : World} {K : PySem.W.Frag} {tg : Expr} {d : Addr} {o : Obj} {es : Array DictEntry} {ep : Nat}
end
section
variable {X : Cx} {tg e : Expr} {td : TE} {apos cpos : Pos}
end
end L2
section 
namespace Bits
open PySem PyProof.Rows
end Bits
end 
section 
namespace TL
open PySem PySem.Builtin PySem.Builtin.Str PySem.StrLaws
abbrev tl (x : Str) : List Nat := x.cps.toList
end TL
end 
namespace L2
open PySem PySem.Spec PyProof.Rows
section
variable {X : Cx} {pins : List (Addr × Obj)} {σ : St} {H : Hp} {s : Shared} {Q : VK}
end
section
variable {X : Cx}
end
section
variable {X : Cx} {o e : Expr} {to te : TE}
end
end L2
namespace L2
open PySem PySem.Spec PyProof.Rows
section
variable {X : Cx}
end
end L2
namespace Att
open PySem PySem.W PySem.Calls PyProof.Rows
section
variable {prog : Program} {w : World} {A : Around} {E : Value → Shared → Prop} {s : Shared} {K : Frag}
end
end Att
namespace L2
open PySem PySem.Spec PyProof.Rows
end L2
namespace L2
open PySem PySem.Spec PyProof.Rows
end L2
namespace L2
open PySem PySem.Spec PyProof.Rows
def inClass (s : Stmt) (j : Nat) : Stmt := match s with
  | .ClassDef _ _ _ body _ _ _ _ _ _ _ => body.getD j (.Pass ⟨0, 0, 0, 0⟩)
  | _ => .Pass ⟨0, 0, 0, 0⟩
def defArgs (s : Stmt) : Arguments := match s with
  | .FunctionDef _ a _ _ _ _ _ _ _ _ => a
  | _ => { posonlyargs := [], args := [], vararg := none, kwonlyargs := [], kw_defaults := [], kwarg := none, defaults := [] }
def defBody (s : Stmt) : List Stmt := match s with
  | .FunctionDef _ _ b _ _ _ _ _ _ _ => b
  | _ => []
def defScope (s : Stmt) : Scope := match s with
  | .FunctionDef _ _ _ _ _ _ sc _ _ _ => sc
  | _ => { kind := .function, names := [], isGenerator := false, isCoroutine := false }
abbrev CX0 : CXT := fun _ _ _ _ _ _ => False
abbrev E0 : XK := fun _ _ _ => False
theorem pass0 {X : Cx} : Passes CX0 X E0 := fun _ _ _ _ _ _ _ h => h.elim
structure Fun (K : PySem.W.Frag) (x qual : Str) (st : Stmt) (f : Addr) (fd : FuncData) : Prop where
  ex : ∃ (oc : Value) (od : Option Addr) (kV doc pm : Value) (an : Option Addr) (cdv ct : Value) (osl : Array (Option Value)),
    fd = PySem.W.fnOf x qual (defArgs st) (defBody st) (defScope st) .none kV doc pm an cdv ct ∧ K.lookup f = some ⟨oc, od, .func fd, osl⟩ ∧ PySem.W.codeIn K cdv qual = true
  kp : PySem.W.keepIn K (.ref f) = true
section
variable {P : Program} {w : World} {K : PySem.W.Frag} {mg : Str → Option Value} {base : Heap}
theorem Fun.ok {x qual : Str} {st : Stmt} {f : Addr} {fd : FuncData} {N ps : List Str} {k : Nat} {sp : Sp} (F : Fun K x qual st f fd) (S : FnScope N ps (defScope st)) (len : ∀ vs H Q E, sp vs H Q E → vs.length = ps.length)
    (hbody : ∀ (cdv : Value) (A : Around) (outer : List Env) (s : Shared) (H : Hp) (vs : List V) (Q : VK) (E : XK), Room k (A.deeper (envOfC qual (defScope st) s.heap.objs.size f cdv)) → sp vs H Q E →
      ∃ t, PSs (cxOf CX0 P w K mg base N qual (defScope st) f cdv A outer s H E).nox (defBody st) t ∧ t { nx := fun _ H' => Q .non H', rt := Q } (start N vs) H) : FnOk P w K mg base CX0 (k + 1) f fd ps sp := by
  obtain ⟨oc, od, kV, doc, pm, an, cdv, ct, osl, rfl, lk, hcd⟩ := F.ex
  refine fn_of lk hcd S len fun A outer s H vs Q E hr hsp => ?_
  obtain ⟨t, h, q⟩ := hbody cdv A outer s H vs Q E hr hsp
  exact ⟨t, h.nox, q⟩
theorem Fun.binds {x qual : Str} {st : Stmt} {f : Addr} {fd : FuncData} {ps : List Str} (F : Fun K x qual st f fd)
    (h : ∀ (kV doc pm : Value) (an : Option Addr) (cdv ct : Value) (us : List Value), us.length = ps.length → bindArgs (PySem.W.fnOf x qual (defArgs st) (defBody st) (defScope st) .none kV doc pm an cdv ct) ⟨us, []⟩ = pure (ps.zip us)) : Binds K fd ps [] := by
  obtain ⟨oc, od, kV, doc, pm, an, cdv, ct, osl, rfl, lk, hcd⟩ := F.ex
  exact .all (h kV doc pm an cdv ct)
theorem fun_mk {x qual : Str} {st : Stmt} {f : Addr} {oc : Value} {od an : Option Addr} {osl : Array (Option Value)} {kV doc pm cdv ct : Value} (l : K.lookup f = some ⟨oc, od, .func (PySem.W.fnOf x qual (defArgs st) (defBody st) (defScope st) .none kV doc pm an cdv ct), osl⟩)
    (c : PySem.W.codeIn K cdv qual = true) (k : PySem.W.keepIn K (.ref f) = true) : Fun K x qual st f (PySem.W.fnOf x qual (defArgs st) (defBody st) (defScope st) .none kV doc pm an cdv ct) := ⟨⟨oc, od, kV, doc, pm, an, cdv, ct, osl, rfl, l, c⟩, k⟩
end
section
variable {X : Cx}
theorem pv (i : Nat) {x : Str} {pos : Pos} (hN : X.N[i]? = some x := by rfl) (hv : Vis X.env.scope x := by first | exact Or.inl rfl | exact Or.inr (Or.inl rfl) | exact Or.inr (Or.inr rfl)) (hd : (x == ("__debug__" : Str)) = false := by decide)
    (hcd : (x == ("__classdict__" : Str)) = false := by decide) : PE X (.Name x pos) (tVar i) := pe_var hN hv hd hcd
end
theorem iteF {A B : Prop} (h : B) : if false = true then A else B := by
  rw [if_neg Bool.false_ne_true]
  exact h
theorem iteT {A B : Prop} (h : A) : if true = true then A else B := by
  rw [if_pos rfl]
  exact h
theorem ite2 {c A B : Prop} [Decidable c] (h1 : c → A) (h2 : ¬ c → B) : if c then A else B := by
  by_cases h : c
  · rw [if_pos h]
    exact h1 h
  · rw [if_neg h]
    exact h2 h
def Same (H H' : Hp) : Prop := ∀ b o, H b = some o → H' b = some o
theorem Same.refl (H : Hp) : Same H H := fun _ _ h => h
theorem Same.trans {H H1 H2 : Hp} (a : Same H H1) (b : Same H1 H2) : Same H H2 := fun c o h => b c o (a c o h)
theorem Same.free {H H' : Hp} (e : Same H H') {l : Addr} (h : H' l = Option.none) : H l = Option.none := by
  cases q : H l with
  | none => rfl
  | some o =>
    rw [e l o q] at h
    cases h
theorem Same.seq {K : PySem.W.Frag} {H H' : Hp} {a : Addr} {xs : List V} (e : Same H H') (h : SqL K H a xs) : SqL K H' a xs := by
  rcases h with (h | ⟨o, h⟩) | h
  · exact .inl (.inl (e _ _ h))
  · exact .inl (.inr ⟨o, e _ _ h⟩)
  · exact .inr h
section
variable {κ : Type} [DecidableEq κ]
end
theorem at_of {xs : List V} {z : Int} {j : Nat} {v : V} (e : z = (j : Int)) (h : xs[j]? = some v) : atI xs z = some v := by
  rw [e]
  exact atI_nat h
theorem nd_ix {α : Type} {l : List α} (hN : l.Nodup) {i j : Nat} {x : α} (a : l[i]? = some x) (b : l[j]? = some x) : i = j := by
  obtain ⟨h1, e1⟩ := List.getElem?_eq_some_iff.mp a
  obtain ⟨h2, e2⟩ := List.getElem?_eq_some_iff.mp b
  exact (List.getElem_inj hN).mp (e1.trans e2.symm)
end L2
section
set_option Elab.async false
set_option linter.all false
set_option maxRecDepth 100000
set_option maxHeartbeats 2000000
namespace L2
open PySem PySem.Spec PyProof.Rows
open PySem.W (WData Codec OpenSpec Well WellAll ReadsW ReadsAllW)
mutual
/-- x stands for the datum d, lists and tuples all the way -/
inductive Dw (K : PySem.W.Frag) (H : Hp) : V → WData → Prop
  | non : Dw K H .non .none
  | bl (b : Bool) : Dw K H (.bl b) (.bool b)
  | int (i : Int) : Dw K H (.int i) (.int i)
  | str (x : Str) : Dw K H (.str x) (.str x)
  | byt (b : Array UInt8) : Dw K H (.byt b) (.bytes b.toList)
  | lst {a : Addr} {xs : List V} {ds : List WData} : SqL K H a xs → DwAll K H xs ds → Dw K H (.ref a) (.list ds)
  | tup {a : Addr} {xs : List V} {ds : List WData} : SqT K H a xs → DwAll K H xs ds → Dw K H (.ref a) (.tuple ds)
inductive DwAll (K : PySem.W.Frag) (H : Hp) : List V → List WData → Prop
  | nil : DwAll K H [] []
  | cons {v : V} {vs : List V} {d : WData} {ds : List WData} : Dw K H v d → DwAll K H vs ds → DwAll K H (v :: vs) (d :: ds)
end
theorem dw_ints {K : PySem.W.Frag} {H : Hp} : ∀ ns : List Int, DwAll K H (ns.map V.int) (ns.map WData.int)
  | [] => .nil
  | n :: r => .cons (.int n) (dw_ints r)
theorem ints_dw {K : PySem.W.Frag} {H : Hp} : ∀ (ns : List Int) (xs : List V), DwAll K H xs (ns.map WData.int) → xs = ns.map V.int
  | [], xs, h => by
    cases h
    rfl
  | n :: r, xs, h => by
    cases h with
    | cons h1 h2 =>
      cases h1
      rw [ints_dw r _ h2] <;> rfl
section
variable {P : Program} {w : World} {K : PySem.W.Frag} {H : Hp} {h : Heap} {R : PySem.W.WRecords} {cl : Str → Option Addr}
theorem sqL_at {a : Addr} {xs : List V} (hok : HOk P w H h) (KX : K.In h) (q : SqL K H a xs) : ∃ (its : List Value) (o : Obj) (n : Nat), Vals xs its ∧ h.get? a = some o ∧ o.cls = .type "list" ∧ o.data = .seq its.toArray n := by
  rcases q with q | ⟨o, its, n, e, hc, _, hd, _, hv⟩
  · obtain ⟨_, its, n, hv, e⟩ := (show ObjOk P w H h a (.lst xs) from q.ok hok)
    exact ⟨its, _, n, hv, e, rfl, rfl⟩
  · exact ⟨its.toList, o, n, hv, KX _ _ e, hc, by simp [hd]⟩
theorem sqT_at {a : Addr} {xs : List V} (hok : HOk P w H h) (KX : K.In h) (q : SqT K H a xs) : ∃ (its : List Value) (o : Obj) (n : Nat), Vals xs its ∧ h.get? a = some o ∧ o.cls = .type "tuple" ∧ o.data = .seq its.toArray n := by
  rcases q with q | ⟨o, its, n, e, hc, hd, _, hv⟩
  · obtain ⟨_, its, hv, o, e, hc, n, hd⟩ := (show ObjOk P w H h a (.tup xs) from q.ok hok)
    exact ⟨its, o, n, hv, e, hc, hd⟩
  · exact ⟨its.toList, o, n, hv, KX _ _ e, hc, by simp [hd]⟩
mutual
theorem Dw.reads (hok : HOk P w H h) (KX : K.In h) : ∀ (d : WData) (v : V) (u : Value), Dw K H v d → RelV v u → ∃ as, ReadsW R cl h u d as
  | .none, _, _, x, r => by
    cases x
    cases r
    exact ⟨_, ReadsW.none⟩
  | .bool b, _, _, x, r => by
    cases x
    cases r
    exact ⟨_, ReadsW.bool b⟩
  | .int i, _, _, x, r => by
    cases x
    obtain ⟨t, rfl⟩ := r
    exact ⟨_, ReadsW.int i t⟩
  | .str s, _, _, x, r => by
    cases x
    obtain ⟨t, rfl⟩ := r
    exact ⟨_, ReadsW.str s t⟩
  | .bytes b, _, _, x, r => by
    cases x
    obtain ⟨t, rfl⟩ := r
    exact ⟨_, ReadsW.bytes _ t⟩
  | .list ds, _, _, x, r => by
    cases x with
    | lst hs ha =>
      cases r
      obtain ⟨its, o, n, rv, ho, hc, hd⟩ := sqL_at hok KX hs
      obtain ⟨as, hr⟩ := Dw.readsAll hok KX ds _ its ha rv
      exact ⟨_, ReadsW.list ho hc hd hr⟩
  | .tuple ds, _, _, x, r => by
    cases x with
    | tup hs ha =>
      cases r
      obtain ⟨its, o, n, rv, ho, hc, hd⟩ := sqT_at hok KX hs
      obtain ⟨as, hr⟩ := Dw.readsAll hok KX ds _ its ha rv
      exact ⟨_, ReadsW.tuple ho hc hd hr⟩
  | .float _, _, _, x, _ => by cases x
  | .dict _, _, _, x, _ => by cases x
  | .bytearray _, _, _, x, _ => by cases x
  | .set _, _, _, x, _ => by cases x
  | .frozenset _, _, _, x, _ => by cases x
  | .obj _ _, _, _, x, _ => by cases x
theorem Dw.readsAll (hok : HOk P w H h) (KX : K.In h) : ∀ (ds : List WData) (vs : List V) (us : List Value), DwAll K H vs ds → Vals vs us → ∃ as, ReadsAllW R cl h us ds as
  | [], _, _, x, r => by
    cases x
    cases r
    exact ⟨_, ReadsAllW.nil⟩
  | d :: ds, _, _, x, r => by
    cases x with
    | cons h1 h2 =>
      cases r with
      | cons r1 r2 =>
        obtain ⟨as, q1⟩ := Dw.reads hok KX d _ _ h1 r1
        obtain ⟨bs, q2⟩ := Dw.readsAll hok KX ds _ _ h2 r2
        exact ⟨_, ReadsAllW.cons q1 q2⟩
end
end
mutual
/-- data that a codec tells -/
def plW : WData → Bool
  | .none => true
  | .bool _ => true
  | .int _ => true
  | .str _ => true
  | .bytes _ => true
  | .list xs => plWs xs
  | .tuple xs => plWs xs
  | _ => false
def plWs : List WData → Bool
  | [] => true
  | x :: r => plW x && plWs r
end
theorem plWs_map {α : Type} {f : α → WData} (h : ∀ a, plW (f a) = true) : ∀ l : List α, plWs (l.map f) = true
  | [] => rfl
  | x :: r => by
    show (plW (f x) && plWs (r.map f)) = true
    rw [h x, plWs_map h r] <;> rfl
theorem pl_enc : ∀ (c : Codec) (a : c.denote), plW (c.enc a) = true
  | .unit, _ => rfl
  | .bool, _ => rfl
  | .int _ _, _ => rfl
  | .nat _ _, _ => rfl
  | .u8, _ => rfl
  | .bytes _ _, _ => rfl
  | .text _ _ _ _, _ => rfl
  | .list _ _ c, a => plWs_map (fun x => pl_enc c x) a
  | .pair c d, a => by
    show (plW (c.enc a.1) && (plW (d.enc a.2) && true)) = true
    rw [pl_enc c a.1, pl_enc d a.2] <;> rfl
  | .triple c d e, a => by
    show (plW (c.enc a.1) && (plW (d.enc a.2.1) && (plW (e.enc a.2.2) && true))) = true
    rw [pl_enc c a.1, pl_enc d a.2.1, pl_enc e a.2.2] <;> rfl
  | .option c, none => rfl
  | .option c, some x => pl_enc c x
theorem pl_encAll : ∀ (cs : List Codec) (a : Codec.denoteAll cs), plWs (Codec.encAll cs a) = true
  | [], _ => rfl
  | c :: cs, a => by
    show (plW (c.enc a.1) && plWs (Codec.encAll cs a.2)) = true
    rw [pl_enc c a.1, pl_encAll cs a.2] <;> rfl
theorem weight_mem : ∀ {xs : List WData} {d : WData}, d ∈ xs → d.weight ≤ WData.weightAll xs
  | [], d, h => absurd h (by simp)
  | x :: r, d, h => by
    show d.weight ≤ x.weight + 1 + WData.weightAll r
    rcases List.mem_cons.mp h with e | m
    · rw [e]
      omega
    · have z := weight_mem m
      omega
def toV : Value → V
  | .none => .non
  | .bool b => .bl b
  | .int i _ => .int i
  | .str x _ => .str x
  | .bytes b _ => .byt b
  | .ref a => .ref a
  | _ => .non
def OkU (A : List Addr) : Value → Prop
  | .none => True
  | .bool _ => True
  | .int _ _ => True
  | .str _ _ => True
  | .bytes _ _ => True
  | .ref a => a ∈ A
  | _ => False
theorem OkU.mono {A B : List Addr} (h : ∀ a ∈ A, a ∈ B) : ∀ {u : Value}, OkU A u → OkU B u := fun {u} x => by
  cases u with
  | ref a => exact h a x
  | none => trivial
  | bool b => trivial
  | int i t => trivial
  | str s t => trivial
  | bytes b t => trivial
  | _ => exact False.elim x
theorem relV_toV {A : List Addr} {u : Value} (x : OkU A u) : RelV (toV u) u := by
  cases u with
  | ref a => rfl
  | none => rfl
  | bool b => rfl
  | int i t => exact ⟨t, rfl⟩
  | str s t => exact ⟨t, rfl⟩
  | bytes b t => exact ⟨t, rfl⟩
  | _ => exact False.elim x
theorem vals_toV {A : List Addr} : ∀ {vs : List Value}, (∀ u ∈ vs, OkU A u) → Vals (vs.map toV) vs
  | [], _ => .nil
  | u :: r, h => .cons (relV_toV (h u (List.mem_cons_self ..))) (vals_toV fun x hx => h x (List.mem_cons_of_mem _ hx))
def ArgOb (h : Heap) (A : List Addr) (a : Addr) : Prop := ∃ vs : List Value, vs.length ≤ sizeLine ∧ (∀ u ∈ vs, OkU A u) ∧
  (h.get? a = some { cls := .type "list", data := .seq vs.toArray } ∨ h.get? a = some { cls := .type "tuple", data := .seq vs.toArray })
theorem ArgOb.mono {h : Heap} {A B : List Addr} {a : Addr} (k : ∀ a ∈ A, a ∈ B) (x : ArgOb h A a) : ArgOb h B a := by
  obtain ⟨vs, h1, h2, h3⟩ := x
  exact ⟨vs, h1, fun u hu => (h2 u hu).mono k, h3⟩
theorem wellAll_len {P : Params} {h : Heap} : ∀ {vs : List Value} {ds : List WData}, WellAll P h vs ds → vs.length = ds.length
  | _, _, .nil => rfl
  | _, _, .cons _ b => by
    show _ + 1 = _ + 1
    rw [wellAll_len b]
theorem well_list {P : Params} {h : Heap} {v : Value} {ds : List WData} (x : Well P h v (.list ds)) : ∃ (a : Addr) (vs : List Value), v = .ref a ∧ h.get? a = some { cls := .type "list", data := .seq vs.toArray } ∧ WellAll P h vs ds := by
  cases x with
  | list ho hall => exact ⟨_, _, rfl, ho, hall⟩
theorem well_tuple {P : Params} {h : Heap} {v : Value} {ds : List WData} (x : Well P h v (.tuple ds)) : ∃ (a : Addr) (vs : List Value), v = .ref a ∧ h.get? a = some { cls := .type "tuple", data := .seq vs.toArray } ∧ WellAll P h vs ds := by
  cases x with
  | tuple ho hall => exact ⟨_, _, rfl, ho, hall⟩
theorem well_cons {P : Params} {h : Heap} {us : List Value} {d : WData} {ds : List WData} (x : WellAll P h us (d :: ds)) : ∃ (v : Value) (vs : List Value), us = v :: vs ∧ Well P h v d ∧ WellAll P h vs ds := by
  cases x with
  | cons a b => exact ⟨_, _, rfl, a, b⟩
theorem line_of {n : Nat} (h : n ≤ 1048576) : n ≤ sizeLine := Nat.le_trans h (by decide)
section
variable {P : Params} {h : Heap}
mutual
theorem area_one : ∀ (d : WData) (v : Value), Well P h v d → plW d = true → d.weight ≤ 1048576 → ∃ A : List Addr, OkU A v ∧ ∀ a ∈ A, ArgOb h A a
  | .none, _, x, _, _ => by
    cases x
    exact ⟨[], trivial, fun a m => absurd m (by simp)⟩
  | .bool b, _, x, _, _ => by
    cases x
    exact ⟨[], trivial, fun a m => absurd m (by simp)⟩
  | .int i, _, x, _, _ => by
    cases x
    exact ⟨[], trivial, fun a m => absurd m (by simp)⟩
  | .str s, _, x, _, _ => by
    cases x
    exact ⟨[], trivial, fun a m => absurd m (by simp)⟩
  | .bytes b, _, x, _, _ => by
    cases x
    exact ⟨[], trivial, fun a m => absurd m (by simp)⟩
  | .list ds, _, x, p, z => by
    obtain ⟨a, vs, rfl, ho, hall⟩ := well_list x
    have z2 : WData.weightAll ds ≤ 1048576 := z
    obtain ⟨A, h1, h2⟩ := area_all ds _ hall p fun d hd => Nat.le_trans (weight_mem hd) z2
    have k : ∀ b ∈ A, b ∈ a :: A := fun b hb => List.mem_cons_of_mem _ hb
    refine ⟨a :: A, List.mem_cons_self .., fun b hb => ?_⟩
    rcases List.mem_cons.mp hb with e | m
    · rw [e]
      exact ⟨vs, line_of (by rw [wellAll_len hall]; exact Nat.le_trans (PySem.W.length_le_weightAllW ds) z2), fun u hu => (h1 u hu).mono k, .inl ho⟩
    · exact (h2 b m).mono k
  | .tuple ds, _, x, p, z => by
    obtain ⟨a, vs, rfl, ho, hall⟩ := well_tuple x
    have z2 : WData.weightAll ds ≤ 1048576 := z
    obtain ⟨A, h1, h2⟩ := area_all ds _ hall p fun d hd => Nat.le_trans (weight_mem hd) z2
    have k : ∀ b ∈ A, b ∈ a :: A := fun b hb => List.mem_cons_of_mem _ hb
    refine ⟨a :: A, List.mem_cons_self .., fun b hb => ?_⟩
    rcases List.mem_cons.mp hb with e | m
    · rw [e]
      exact ⟨vs, line_of (by rw [wellAll_len hall]; exact Nat.le_trans (PySem.W.length_le_weightAllW ds) z2), fun u hu => (h1 u hu).mono k, .inr ho⟩
    · exact (h2 b m).mono k
  | .float _, _, _, p, _ => Bool.noConfusion (show false = true from p)
  | .dict _, _, _, p, _ => Bool.noConfusion (show false = true from p)
  | .bytearray _, _, _, p, _ => Bool.noConfusion (show false = true from p)
  | .set _, _, _, p, _ => Bool.noConfusion (show false = true from p)
  | .frozenset _, _, _, p, _ => Bool.noConfusion (show false = true from p)
  | .obj _ _, _, _, p, _ => Bool.noConfusion (show false = true from p)
theorem area_all : ∀ (ds : List WData) (vs : List Value), WellAll P h vs ds → plWs ds = true → (∀ d ∈ ds, d.weight ≤ 1048576) → ∃ A : List Addr, (∀ u ∈ vs, OkU A u) ∧ ∀ a ∈ A, ArgOb h A a
  | [], _, x, _, _ => by
    cases x
    exact ⟨[], fun u m => absurd m (by simp), fun a m => absurd m (by simp)⟩
  | d :: ds, _, x, p, z => by
    obtain ⟨v, vs, rfl, x1, x2⟩ := well_cons x
    have q : plW d = true ∧ plWs ds = true := Bool.and_eq_true_iff.mp p
    obtain ⟨A, a1, a2⟩ := area_one d v x1 q.1 (z d (List.mem_cons_self ..))
    obtain ⟨B, b1, b2⟩ := area_all ds vs x2 q.2 fun e he => z e (List.mem_cons_of_mem _ he)
    have kA : ∀ b ∈ A, b ∈ A ++ B := fun b hb => List.mem_append.mpr (.inl hb)
    have kB : ∀ b ∈ B, b ∈ A ++ B := fun b hb => List.mem_append.mpr (.inr hb)
    refine ⟨A ++ B, fun u hu => ?_, fun b hb => ?_⟩
    · rcases List.mem_cons.mp hu with e | m
      · rw [e]
        exact a1.mono kA
      · exact (b1 u m).mono kB
    · rcases List.mem_append.mp hb with m | m
      · exact (a2 b m).mono kA
      · exact (b2 b m).mono kB
end
end
def hoOf (o : Obj) : Option HO := match o.data with
  | .seq vs _ => if (o.cls == Value.type "list") = true then some (.frz o (.lst (vs.toList.map toV))) else some (.frz o (.tup (vs.toList.map toV)))
  | _ => none
def argH (K : PySem.W.Frag) (h : Heap) (A : List Addr) : Hp := fun b => if b ∈ A then (if (K.lookup b).isNone = true then (h.get? b).bind hoOf else none) else none
def OnlyF (H : Hp) : Prop := ∀ b, H b = none ∨ ∃ o u, H b = some (.frz o u)
theorem hoOf_lst (vs : List Value) : hoOf { cls := .type "list", data := .seq vs.toArray } = some (.frz { cls := .type "list", data := .seq vs.toArray } (.lst (vs.map toV))) := by
  show (if (Value.type "list" == Value.type "list") = true then some (HO.frz { cls := .type "list", data := .seq vs.toArray } (.lst (vs.toArray.toList.map toV))) else some (HO.frz { cls := .type "list", data := .seq vs.toArray } (.tup (vs.toArray.toList.map toV)))) = _
  rw [if_pos (beq_self_eq_true _)]
theorem hoOf_tup (vs : List Value) : hoOf { cls := .type "tuple", data := .seq vs.toArray } = some (.frz { cls := .type "tuple", data := .seq vs.toArray } (.tup (vs.map toV))) := by
  show (if (Value.type "tuple" == Value.type "list") = true then some (HO.frz { cls := .type "tuple", data := .seq vs.toArray } (.lst (vs.toArray.toList.map toV))) else some (HO.frz { cls := .type "tuple", data := .seq vs.toArray } (.tup (vs.toArray.toList.map toV)))) = _
  rw [if_neg (by decide)]
section
variable {P : Program} {w : World} {K : PySem.W.Frag} {h : Heap} {A : List Addr}
theorem argH_at {b : Addr} {o : Obj} (hb : b ∈ A) (hk : K.lookup b = none) (e : h.get? b = some o) : argH K h A b = hoOf o := by
  unfold argH
  rw [if_pos hb, hk, if_pos (show (none : Option Obj).isNone = true from rfl), e] <;> rfl
theorem of_argH {b : Addr} {u : HO} (q : argH K h A b = some u) : b ∈ A ∧ K.lookup b = none := by
  unfold argH at q
  by_cases hb : b ∈ A
  · rw [if_pos hb] at q
    cases hk : K.lookup b with
    | none => exact ⟨hb, rfl⟩
    | some o =>
      rw [hk, if_neg (by simp)] at q
      cases q
  · rw [if_neg hb] at q
    cases q
theorem argH_is (ar : ∀ a ∈ A, ArgOb h A a) {b : Addr} {u : HO} (q : argH K h A b = some u) : K.lookup b = none ∧ ∃ vs : List Value, vs.length ≤ sizeLine ∧ (∀ u ∈ vs, OkU A u) ∧
    ((h.get? b = some { cls := .type "list", data := .seq vs.toArray } ∧ u = .frz { cls := .type "list", data := .seq vs.toArray } (.lst (vs.map toV))) ∨
     (h.get? b = some { cls := .type "tuple", data := .seq vs.toArray } ∧ u = .frz { cls := .type "tuple", data := .seq vs.toArray } (.tup (vs.map toV)))) := by
  obtain ⟨hb, hk⟩ := of_argH q
  obtain ⟨vs, h1, h2, h3⟩ := ar b hb
  refine ⟨hk, vs, h1, h2, ?_⟩
  rcases h3 with e | e
  · rw [argH_at hb hk e, hoOf_lst] at q
    exact .inl ⟨e, (Option.some.inj q).symm⟩
  · rw [argH_at hb hk e, hoOf_tup] at q
    exact .inr ⟨e, (Option.some.inj q).symm⟩
theorem argH_only (ar : ∀ a ∈ A, ArgOb h A a) : OnlyF (argH K h A) := fun b => by
  cases q : argH K h A b with
  | none => exact .inl rfl
  | some u =>
    obtain ⟨_, vs, _, _, ⟨_, e⟩ | ⟨_, e⟩⟩ := argH_is ar q
    · exact .inr ⟨_, _, by rw [e]⟩
    · exact .inr ⟨_, _, by rw [e]⟩
theorem argH_ok (ar : ∀ a ∈ A, ArgOb h A a) : HOk P w (argH K h A) h := fun b u q => by
  obtain ⟨_, vs, h1, h2, ⟨e, rfl⟩ | ⟨e, rfl⟩⟩ := argH_is ar q
  · exact ⟨e, by rw [List.length_map]; exact h1, vs, _, vals_toV h2, e⟩
  · exact ⟨e, by rw [List.length_map]; exact h1, vs, vals_toV h2, _, e, rfl, _, rfl⟩
theorem seq_inj {c c' : Value} {vs us : List Value} (e : (some { cls := c, data := .seq vs.toArray } : Option Obj) = some { cls := c', data := .seq us.toArray }) : c = c' ∧ vs = us := by
  have e1 := Option.some.inj e
  have e2 : c = c' := congrArg Obj.cls e1
  have e3 : Data.seq vs.toArray = Data.seq us.toArray := congrArg Obj.data e1
  injection e3 with e4
  refine ⟨e2, ?_⟩
  have e5 := congrArg Array.toList e4
  simpa using e5
theorem argL (KX : K.In h) (ar : ∀ a ∈ A, ArgOb h A a) {a : Addr} {vs : List Value} (ha : a ∈ A) (e : h.get? a = some { cls := .type "list", data := .seq vs.toArray }) : (∀ u ∈ vs, OkU A u) ∧ SqL K (argH K h A) a (vs.map toV) := by
  obtain ⟨us, h1, h2, h3⟩ := ar a ha
  have hu : us = vs := by
    rcases h3 with q | q
    · rw [e] at q
      exact (seq_inj q).2.symm
    · rw [e] at q
      exact absurd (Value.type.inj (seq_inj q).1) (by decide)
  subst hu
  refine ⟨h2, ?_⟩
  cases hk : K.lookup a with
  | none => exact .inl (.inr ⟨_, by rw [argH_at ha hk e, hoOf_lst]⟩)
  | some o =>
    have e2 := KX a o hk
    rw [e] at e2
    obtain rfl := Option.some.inj e2
    exact .inr ⟨_, us.toArray, _, hk, rfl, rfl, rfl, by rw [List.size_toArray]; exact h1, by simpa using vals_toV h2⟩
theorem argT (KX : K.In h) (ar : ∀ a ∈ A, ArgOb h A a) {a : Addr} {vs : List Value} (ha : a ∈ A) (e : h.get? a = some { cls := .type "tuple", data := .seq vs.toArray }) : (∀ u ∈ vs, OkU A u) ∧ SqT K (argH K h A) a (vs.map toV) := by
  obtain ⟨us, h1, h2, h3⟩ := ar a ha
  have hu : us = vs := by
    rcases h3 with q | q
    · rw [e] at q
      exact absurd (Value.type.inj (seq_inj q).1) (by decide)
    · rw [e] at q
      exact (seq_inj q).2.symm
  subst hu
  refine ⟨h2, ?_⟩
  cases hk : K.lookup a with
  | none => exact .inl (.inr ⟨_, by rw [argH_at ha hk e, hoOf_tup]⟩)
  | some o =>
    have e2 := KX a o hk
    rw [e] at e2
    obtain rfl := Option.some.inj e2
    exact .inr ⟨_, us.toArray, _, hk, rfl, rfl, by rw [List.size_toArray]; exact h1, by simpa using vals_toV h2⟩
mutual
theorem dw_one {Pm : Params} (KX : K.In h) (ar : ∀ a ∈ A, ArgOb h A a) : ∀ (d : WData) (v : Value), Well Pm h v d → plW d = true → OkU A v → Dw K (argH K h A) (toV v) d
  | .none, _, x, _, _ => by
    cases x
    exact .non
  | .bool b, _, x, _, _ => by
    cases x
    exact .bl b
  | .int i, _, x, _, _ => by
    cases x
    exact .int i
  | .str s, _, x, _, _ => by
    cases x
    exact .str s
  | .bytes b, _, x, _, _ => by
    cases x
    have z := Dw.byt (K := K) (H := argH K h A) b.toArray
    exact z
  | .list ds, _, x, p, hu => by
    obtain ⟨a, vs, rfl, ho, hall⟩ := well_list x
    obtain ⟨h2, hs⟩ := argL KX ar hu ho
    exact .lst hs (dw_all KX ar ds _ hall p h2)
  | .tuple ds, _, x, p, hu => by
    obtain ⟨a, vs, rfl, ho, hall⟩ := well_tuple x
    obtain ⟨h2, hs⟩ := argT KX ar hu ho
    exact .tup hs (dw_all KX ar ds _ hall p h2)
  | .float _, _, _, p, _ => Bool.noConfusion (show false = true from p)
  | .dict _, _, _, p, _ => Bool.noConfusion (show false = true from p)
  | .bytearray _, _, _, p, _ => Bool.noConfusion (show false = true from p)
  | .set _, _, _, p, _ => Bool.noConfusion (show false = true from p)
  | .frozenset _, _, _, p, _ => Bool.noConfusion (show false = true from p)
  | .obj _ _, _, _, p, _ => Bool.noConfusion (show false = true from p)
theorem dw_all {Pm : Params} (KX : K.In h) (ar : ∀ a ∈ A, ArgOb h A a) : ∀ (ds : List WData) (vs : List Value), WellAll Pm h vs ds → plWs ds = true → (∀ u ∈ vs, OkU A u) → DwAll K (argH K h A) (vs.map toV) ds
  | [], _, x, _, _ => by
    cases x
    exact .nil
  | d :: ds, _, x, p, hu => by
    obtain ⟨v, vs, rfl, x1, x2⟩ := well_cons x
    have q : plW d = true ∧ plWs ds = true := Bool.and_eq_true_iff.mp p
    exact .cons (dw_one KX ar d v x1 q.1 (hu _ (List.mem_cons_self ..))) (dw_all KX ar ds vs x2 q.2 fun u m => hu u (List.mem_cons_of_mem _ m))
end
end
theorem spec_call {P : Program} {w : World} {K : PySem.W.Frag} {mg mb : Str → Option Value} {CX : CXT} {k : Nat} {fa : Addr} {fd : FuncData} {ps : List Str} {sp : Sp} {s₁ : Shared} {vals : List Value} {ds : List WData} {R : PySem.W.WRecords} {cl : Str → Option Addr} {d0 : WData}
    (KX : K.In s₁.heap) (hns : s₁.heap.Ns mainGlobals mg) (hb : s₁.heap.Ns builtinsNs mb) (hbb : ∀ x : Str, x ≠ "__name__" → mb x = bootBuiltins x) (hlim : s₁.heap.NoLimit) (hg : s₁.gens = #[])
    (hwl : WellAll w.params s₁.heap vals ds) (hpl : plWs ds = true) (hwt : ∀ d ∈ ds, d.weight ≤ 1048576) (hr : Room k callerA)
    (F : ∀ base : Heap, K.In base → base.Ns mainGlobals mg → FnOk P w K mg base CX k fa fd ps sp) (hbind : ∀ (s : Shared) (us : List Value), us.length = ps.length → BindsTo s fd ⟨us, []⟩ (ps.zip us)) (hlen : ds.length = ps.length)
    (hsp : ∀ (H : Hp) (xs : List V), OnlyF H → DwAll K H xs ds → sp xs H (fun v H' => Dw K H' v d0) fun _ _ _ => False)
    (hCX : ∀ H e s', CX [] H s₁ (fun _ _ _ => False) e s' → False) :
    codeAny (model P w) callerA (.call (.ref fa) ⟨vals, []⟩) (fun r s' => ∃ u as, r = .ok (.ret u) ∧ ReadsW R cl s'.heap u d0 as ∧ OldK s₁.heap s'.heap ∧ s'.os = s₁.os ∧ AllBare s'.gens) s₁ := by
  obtain ⟨A, ho, ar⟩ := area_all ds vals hwl hpl hwt
  have hO : OnlyF (argH K s₁.heap A) := argH_only ar
  have hok : HOk P w (argH K s₁.heap A) s₁.heap := argH_ok ar
  have hS := dw_all KX ar ds vals hwl hpl ho
  have hV := vals_toV ho
  have hK : ∀ b u, argH K s₁.heap A b = some u → K.lookup b = none := fun b u q => (argH_is ar q).1
  have noA : ∀ {b : Addr} {o : Obj} {es : Array DictEntry} {ep : Nat}, s₁.heap.get? b = some o → o.data = .dict es ep → argH K s₁.heap A b = none := fun {b o es ep} e d => by
    cases q : argH K s₁.heap A b with
    | none => rfl
    | some u =>
      obtain ⟨_, vs, _, _, ⟨e2, _⟩ | ⟨e2, _⟩⟩ := argH_is ar q
      · rw [e2] at e
        cases e
        have d' : Data.seq vs.toArray _ = Data.dict es ep := d
        cases d'
      · rw [e2] at e
        cases e
        have d' : Data.seq vs.toArray _ = Data.dict es ep := d
        cases d'
  generalize argH K s₁.heap A = H at hO hok hS hK noA
  have base_of : ∀ {b : Addr} {o : Obj}, s₁.heap.get? b = some o → H b = none → (hidT s₁.heap H).get? b = some o := fun e n => hidT_get e n
  have nsK : ∀ {b : Addr} {m : Str → Option Value}, s₁.heap.Ns b m → (hidT s₁.heap H).Ns b m := fun {b m} ⟨o, es, ep, e, d, r⟩ => ⟨o, es, ep, base_of e (noA e d), d, r⟩
  have nK : ∀ b o, K.lookup b = some o → H b = none := fun b o e => by
    cases q : H b with
    | none => rfl
    | some u =>
      rw [hK b u q] at e
      cases e
  have hKb : K.In (hidT s₁.heap H) := fun b o e => base_of (KX b o e) (nK b o e)
  have hM : Mod K mg (hidT s₁.heap H) := ⟨hKb, nsK hns, ⟨mb, nsK hb, hbb⟩, let ⟨mc, h1, h2⟩ := hlim; ⟨mc, nsK h1, h2⟩⟩
  have e0 : Env0 P w K mg (hidT s₁.heap H) callerA [] s₁ H := ⟨rfl, hM, fun b o e => of_hidT e, Nat.le_of_eq (hidT_size _ _), trivial, fun b hb => absurd (show b ∈ ([] : List Addr) from hb) (by simp), hok, .of_eq hg⟩
  have hl : vals.length = ps.length := by rw [wellAll_len hwl]; exact hlen
  refine codeAny_mono ((F _ hKb (nsK hns)).run callerA [] s₁ H ⟨vals, []⟩ vals (vals.map toV) _ _ hr e0 (hbind s₁ vals hl) hV (hsp H _ hO hS)) fun r s' x => ?_
  cases r with
  | error e => exact (hCX H e s' x).elim
  | ok fl =>
    cases fl with
    | next => exact False.elim x
    | brk => exact False.elim x
    | cont => exact False.elim x
    | ret u =>
      obtain ⟨v, H', os, bare, un, hok', r', q⟩ := x
      have kept : ∀ b o, s₁.heap.get? b = some o → s'.heap.get? b = some o := fun b o e => by
        cases q2 : H b with
        | none => exact un.keep b o e q2 (by intro z; exact absurd (show b ∈ ([] : List Addr) from z) (by simp)) (by simp)
        | some u2 =>
          rcases hO b with z | ⟨ob, u3, z⟩
          · rw [q2] at z
            cases z
          · have z2 := un.frzs b ob _ z
            obtain ⟨e1, _⟩ := hok b _ z
            obtain ⟨e2, _⟩ := hok' b _ z2
            rw [e] at e1
            cases e1
            exact e2
      have KX' : K.In s'.heap := fun b o e => kept b o (KX b o e)
      obtain ⟨as, hrd⟩ := Dw.reads (R := R) (cl := cl) hok' KX' d0 v u q r'
      exact ⟨u, as, rfl, hrd, OldK.of_keep kept, os, bare⟩
theorem layable_weight {ds : List WData} (h : WData.layableAll ds = true) : ∀ d ∈ ds, d.weight ≤ 1048576 := fun d hd =>
  (PySem.W.layableW_iff.mp (List.all_eq_true.mp h d hd)).2.2
theorem encAll_len : ∀ (cs : List Codec) (a : Codec.denoteAll cs), (Codec.encAll cs a).length = cs.length
  | [], _ => rfl
  | c :: cs, a => by
    show (Codec.encAll cs a.2).length + 1 = cs.length + 1
    rw [encAll_len cs a.2]
theorem walk_spec {r : OpenSpec} {k : Nat} {q : Program} {loose : List Str} {XP : (Str → Option Value) → Heap → Prop} {YP : World → Heap → Prop} {d : DefRec} {K : Params → PySem.W.Frag} {CX : World → CXT} {ps : List Str} {sp : World → Sp}
    (hwell : r.wellSaid = true) (hdf : d.params.defaults = []) (hlen : r.args.length = ps.length) (hr : Room k callerA)
    (hY : ∀ (w : World) (h : Heap), YP w h → (K w.params).In h)
    (F : ∀ (w : World) (mg : Str → Option Value) (fa : Addr) (h : Heap), YP w h → (K w.params).In h → h.Ns mainGlobals mg → mg d.name = some (.ref fa) →
      ∃ fd : FuncData, (∀ (s : Shared) (us : List Value), us.length = ps.length → BindsTo s fd ⟨us, []⟩ (ps.zip us)) ∧
        ∀ base : Heap, (K w.params).In base → base.Ns mainGlobals mg → FnOk r.prog w (K w.params) mg base (CX w) k fa fd ps (sp w))
    (hsp : ∀ (w : World) (H : Hp) (xs : List V) (a : Codec.denoteAll r.args), OnlyF H → Codec.withinAll r.args a = true → Codec.app r.args r.asked a = true → DwAll (K w.params) H xs (Codec.encAll r.args a) →
      sp w xs H (fun v H' => Dw (K w.params) H' v (r.ret.enc (Codec.app r.args r.f a))) fun _ _ _ => False)
    (hCX : ∀ (w : World) (H : Hp) (s : Shared) (e : Value) (s' : Shared), CX w [] H s (fun _ _ _ => False) e s' → False) :
    PySem.W.WalkOS q loose XP YP r d [] (fun f vs => PySem.call f vs) := by
  intro w s_0 s₁ mg mb G Y fa o pm cd doc dV kV ho hd hcd hD hmg hg args vals as hpre hlay hrd hwl hlo
  obtain ⟨a, e1, e2⟩ := PySem.W.os_pre_some hpre
  obtain ⟨e3, hwi⟩ := Codec.encAll_of_decAll r.args args a e1
  subst e3
  have KX := hY w _ Y
  obtain ⟨fd, hb, hF⟩ := F w mg fa _ Y KX G.T.g hmg
  refine PySem.W.enter_call (codeAny_mono (spec_call (R := []) (cl := classAt s_0.heap) (d0 := r.ret.enc (Codec.app r.args r.f a)) KX G.T.g G.T.b G.T.builtins G.T.nolimit hg hwl (pl_encAll _ _) (layable_weight hlay) hr hF hb (by rw [encAll_len]; exact hlen)
    (fun H xs hO hS => hsp w H xs a hO hwi e2 hS) fun H e s' => hCX w H s₁ e s') fun r' s' hq => ?_)
  obtain ⟨u, as', rfl, h1, h2, h3, h4⟩ := hq
  exact ⟨.inl ⟨u, _, as', rfl, fun _ => rfl, h1, (OpenSpec.post_iff hwell hwi _ _).mpr rfl, fun z => Bool.noConfusion (show false = true from z)⟩, h2, h3, h4⟩
theorem walk_specK {r : OpenSpec} {k : Nat} {q : Program} {loose : List Str} {XP : (Str → Option Value) → Heap → Prop} {YP : World → Heap → Prop} {d : DefRec} {K : Params → PySem.W.Frag} {CX : CXT} {ps : List Str} {sp : PySem.W.Frag → Sp}
    (hwell : r.wellSaid = true) (hdf : d.params.defaults = []) (hlen : r.args.length = ps.length) (hr : Room k callerA)
    (hY : ∀ (w : World) (h : Heap), YP w h → (K w.params).In h)
    (F : ∀ (w : World) (mg : Str → Option Value) (fa : Addr) (h : Heap), YP w h → (K w.params).In h → h.Ns mainGlobals mg → mg d.name = some (.ref fa) →
      ∃ fd : FuncData, (∀ (s : Shared) (us : List Value), us.length = ps.length → BindsTo s fd ⟨us, []⟩ (ps.zip us)) ∧
        ∀ base : Heap, (K w.params).In base → base.Ns mainGlobals mg → FnOk r.prog w (K w.params) mg base CX k fa fd ps (sp (K w.params)))
    (hsp : ∀ (K : PySem.W.Frag) (H : Hp) (xs : List V) (a : Codec.denoteAll r.args), OnlyF H → Codec.withinAll r.args a = true → Codec.app r.args r.asked a = true → DwAll K H xs (Codec.encAll r.args a) →
      sp K xs H (fun v H' => Dw K H' v (r.ret.enc (Codec.app r.args r.f a))) fun _ _ _ => False)
    (hCX : ∀ (H : Hp) (s : Shared) (e : Value) (s' : Shared), CX [] H s (fun _ _ _ => False) e s' → False) :
    PySem.W.WalkOS q loose XP YP r d [] (fun f vs => PySem.call f vs) :=
  walk_spec (K := K) (CX := fun _ => CX) (sp := fun w => sp (K w.params)) hwell hdf hlen hr hY F (fun w H xs a h1 h2 h3 h4 => hsp (K w.params) H xs a h1 h2 h3 h4) fun _ H s e s' => hCX H s e s'
end L2
end
set_option linter.all false
namespace Fz
def table : List (Int × Nat) := [(0, 2), (1, 2), (2, 4), (3, 1), (4, 1), (5, 1), (6, 2), (7, 2), (8, 2), (9, 1), (10, 2), (11, 1), (12, 3), (13, 1), (14, 1), (15, 2), (16, 2), (17, 1), (18, 1), (19, 0), (20, 0)]
def looked (p : Int) : List (Int × Nat) → Option (Nat × Nat)
  | [] => none
  | (q, n) :: r => if p = q then some (n, 0) else looked p r
theorem looked_mem {p : Int} {n k : Nat} : ∀ {l : List (Int × Nat)}, looked p l = some (n, k) → k = 0 ∧ (p, n) ∈ l
  | [], h => by cases h
  | (q, m) :: r, h => by
    have h' : (if p = q then some (m, 0) else looked p r) = some (n, k) := h
    by_cases z : p = q
    · rw [if_pos z] at h'
      cases h'
      exact ⟨rfl, by rw [z]; exact List.mem_cons_self⟩
    · rw [if_neg z] at h'
      have ih := looked_mem h'
      exact ⟨ih.1, List.mem_cons_of_mem _ ih.2⟩
theorem shape_mem {p : Int} {n k : Nat} (h : PySu72.shape p = some (n, k)) : k = 0 ∧ (p, n) ∈ table := looked_mem (show looked p table = some (n, k) from h)
theorem shape_cases {p : Int} {n k : Nat} (h : PySu72.shape p = some (n, k)) :
    k = 0 ∧ ((p = 0 ∧ n = 2) ∨ (p = 1 ∧ n = 2) ∨ (p = 2 ∧ n = 4) ∨ (p = 3 ∧ n = 1) ∨ (p = 4 ∧ n = 1) ∨ (p = 5 ∧ n = 1) ∨ (p = 6 ∧ n = 2) ∨ (p = 7 ∧ n = 2) ∨ (p = 8 ∧ n = 2) ∨ (p = 9 ∧ n = 1) ∨ (p = 10 ∧ n = 2) ∨ (p = 11 ∧ n = 1) ∨ (p = 12 ∧ n = 3) ∨ (p = 13 ∧ n = 1) ∨ (p = 14 ∧ n = 1) ∨ (p = 15 ∧ n = 2) ∨ (p = 16 ∧ n = 2) ∨ (p = 17 ∧ n = 1) ∨ (p = 18 ∧ n = 1) ∨ (p = 19 ∧ n = 0) ∨ (p = 20 ∧ n = 0)) := by
  obtain ⟨h1, h2⟩ := shape_mem h
  refine ⟨h1, ?_⟩
  unfold table at h2
  simpa only [List.mem_cons, List.not_mem_nil, or_false, Prod.mk.injEq] using h2
theorem all1 {α : Type} {P : List α → Prop} (h : ∀ a, P [a]) : ∀ l : List α, l.length = 1 → P l
  | [a], _ => h a
theorem all2 {α : Type} {P : List α → Prop} (h : ∀ a b, P [a, b]) : ∀ l : List α, l.length = 2 → P l
  | [a, b], _ => h a b
theorem all3 {α : Type} {P : List α → Prop} (h : ∀ a b c, P [a, b, c]) : ∀ l : List α, l.length = 3 → P l
  | [a, b, c], _ => h a b c
theorem all4 {α : Type} {P : List α → Prop} (h : ∀ a b c d, P [a, b, c, d]) : ∀ l : List α, l.length = 4 → P l
  | [a, b, c, d], _ => h a b c d
theorem len0 {α : Type} {l : List α} (h : l.length = 0) : l = [] := List.eq_nil_of_length_eq_zero h
theorem len1 {α : Type} {l : List α} (h : l.length = 1) : ∃ a, l = [a] := all1 (P := fun l => ∃ a, l = [a]) (fun a => ⟨a, rfl⟩) l h
theorem len2 {α : Type} {l : List α} (h : l.length = 2) : ∃ a b, l = [a, b] := all2 (P := fun l => ∃ a b, l = [a, b]) (fun a b => ⟨a, b, rfl⟩) l h
theorem len3 {α : Type} {l : List α} (h : l.length = 3) : ∃ a b c, l = [a, b, c] := all3 (P := fun l => ∃ a b c, l = [a, b, c]) (fun a b c => ⟨a, b, c, rfl⟩) l h
theorem len4 {α : Type} {l : List α} (h : l.length = 4) : ∃ a b c d, l = [a, b, c, d] := all4 (P := fun l => ∃ a b c d, l = [a, b, c, d]) (fun a b c d => ⟨a, b, c, d, rfl⟩) l h
theorem whole_id {p : Int} {n k : Nat} {xs : List Int} (h : PySu72.shape p = some (n, k)) (hl : xs.length = n) : PySu72.whole [p :: xs] = [p :: xs] := by
  obtain ⟨_, hc⟩ := shape_cases h
  rcases hc with ⟨rfl, rfl⟩ | ⟨rfl, rfl⟩ | ⟨rfl, rfl⟩ | ⟨rfl, rfl⟩ | ⟨rfl, rfl⟩ | ⟨rfl, rfl⟩ | ⟨rfl, rfl⟩ | ⟨rfl, rfl⟩ | ⟨rfl, rfl⟩ | ⟨rfl, rfl⟩ | ⟨rfl, rfl⟩ | ⟨rfl, rfl⟩ | ⟨rfl, rfl⟩ | ⟨rfl, rfl⟩ | ⟨rfl, rfl⟩ | ⟨rfl, rfl⟩ | ⟨rfl, rfl⟩ | ⟨rfl, rfl⟩ | ⟨rfl, rfl⟩ | ⟨rfl, rfl⟩ | ⟨rfl, rfl⟩
  all_goals first
    | (obtain ⟨a, rfl⟩ := len1 hl; rfl)
    | (obtain ⟨a, b, rfl⟩ := len2 hl; rfl)
    | (obtain ⟨a, b, c, rfl⟩ := len3 hl; rfl)
    | (obtain ⟨a, b, c, d, rfl⟩ := len4 hl; rfl)
    | (cases len0 hl; rfl)
theorem calls_nil {f : Nat} {cs : List (List (List Int))} (h : PyFlat.calls PySu72.shape f [] = some cs) : cs = [] := by
  cases f <;> exact (Option.some.inj h).symm
theorem calls_cons {f : Nat} {p : Int} {r : List Int} {cs : List (List (List Int))} (h : PyFlat.calls PySu72.shape f (p :: r) = some cs) :
    ∃ (f' n : Nat) (cs' : List (List (List Int))), PySu72.shape p = some (n, 0) ∧ n ≤ r.length ∧ cs = [p :: r.take n] :: cs' ∧ PyFlat.calls PySu72.shape f' (r.drop n) = some cs' := by
  cases f with
  | zero => cases h
  | succ f =>
    unfold PyFlat.calls PyFlat.call at h
    dsimp only at h
    cases hs : PySu72.shape p with
    | none => rw [hs] at h; cases h
    | some nk =>
      obtain ⟨n, k⟩ := nk
      obtain ⟨rfl, _⟩ := shape_cases hs
      rw [hs] at h
      dsimp only at h
      by_cases hl : r.length < n
      · rw [if_pos hl] at h; cases h
      · rw [if_neg hl] at h
        unfold PyFlat.rows at h
        dsimp only at h
        cases hc : PyFlat.calls PySu72.shape f (r.drop n) with
        | none => rw [hc] at h; cases h
        | some cs' =>
          rw [hc] at h
          exact ⟨f, n, cs', rfl, by omega, (Option.some.inj h).symm, hc⟩
def stp (s : Su72Neutral.S) (c : List (List Int)) : Su72Neutral.S × List Int := Su72Neutral.step s (c.headD [])
def rest (s : Su72Neutral.S) (cs : List (List (List Int))) : List Int := PyFlat.told (PyFlat.played stp s (cs.map PySu72.whole))
theorem rest_nil (s : Su72Neutral.S) : rest s [] = [] := rfl
theorem rest_cons (s : Su72Neutral.S) {p : Int} {n k : Nat} {xs : List Int} (cs : List (List (List Int))) (h : PySu72.shape p = some (n, k)) (hl : xs.length = n) :
    rest s ([p :: xs] :: cs) = (((Su72Neutral.step s (p :: xs)).2.length : Int) :: (Su72Neutral.step s (p :: xs)).2) ++ rest (Su72Neutral.step s (p :: xs)).1 cs := by
  unfold rest
  rw [List.map_cons, whole_id h hl]
  rfl
structure At (ns : List Int) (i : Nat) (s : Su72Neutral.S) (out : List Int) : Prop where
  le : i ≤ ns.length
  eq : ∃ f cs, PyFlat.calls PySu72.shape f (ns.drop i) = some cs ∧ out ++ rest s cs = PySu72.answers ns
theorem At.start {ns : List Int} (h : PySu72.answers_asked ns = true) : At ns 0 none [] := by
  refine ⟨Nat.zero_le _, ns.length, ?_⟩
  unfold PySu72.answers_asked at h
  unfold PySu72.answers PySu72.calls
  rw [List.drop_zero]
  cases hc : PyFlat.calls PySu72.shape ns.length ns with
  | none => rw [hc] at h; cases h
  | some cs => exact ⟨cs, rfl, rfl⟩
theorem At.done {ns : List Int} {i : Nat} {s : Su72Neutral.S} {out : List Int} (A : At ns i s out) (h : ns.length ≤ i) : out = PySu72.answers ns := by
  obtain ⟨f, cs, hc, e⟩ := A.eq
  rw [List.drop_eq_nil_of_le h] at hc
  rw [calls_nil hc, rest_nil, List.append_nil] at e
  exact e
theorem At.step {ns : List Int} {i : Nat} {s : Su72Neutral.S} {out : List Int} {p : Int} (A : At ns i s out) (h : ns[i]? = some p) :
    ∃ n, PySu72.shape p = some (n, 0) ∧ i + 1 + n ≤ ns.length ∧ ((ns.drop (i + 1)).take n).length = n ∧
      At ns (i + 1 + n) (Su72Neutral.step s (p :: (ns.drop (i + 1)).take n)).1 (out ++ (((Su72Neutral.step s (p :: (ns.drop (i + 1)).take n)).2.length : Int) :: (Su72Neutral.step s (p :: (ns.drop (i + 1)).take n)).2)) := by
  obtain ⟨f, cs, hc, e⟩ := A.eq
  obtain ⟨hi, hp⟩ := List.getElem?_eq_some_iff.mp h
  rw [List.drop_eq_getElem_cons hi, hp] at hc
  obtain ⟨f', n, cs', hs, hn, rfl, hc'⟩ := calls_cons hc
  have hl : ((ns.drop (i + 1)).take n).length = n := by rw [List.length_take]; omega
  rw [List.length_drop] at hn
  refine ⟨n, hs, by omega, hl, by omega, f', cs', ?_, ?_⟩
  · rw [List.drop_drop] at hc'
    exact hc'
  · rw [rest_cons s cs' hs hl] at e
    rw [List.append_assoc]
    exact e
theorem At.len {ns : List Int} {i : Nat} {s : Su72Neutral.S} {out : List Int} (A : At ns i s out) : out.length ≤ (PySu72.answers ns).length := by
  obtain ⟨f, cs, _, e⟩ := A.eq
  rw [← e, List.length_append]
  omega
theorem asked_short {ns : List Int} (h : PySu72.answers_asked ns = true) : (PySu72.answers ns).length ≤ 10000000 := by
  unfold PySu72.answers_asked at h
  cases hc : PyFlat.calls PySu72.shape ns.length ns with
  | none => rw [hc] at h; cases h
  | some cs =>
    rw [hc] at h
    simp only [Bool.and_eq_true, PyFlat.short, decide_eq_true_eq] at h
    exact h.2
end Fz
set_option linter.all false
namespace Fz
open Su72
theorem level_nil : level [] = 0 := rfl
theorem level_cons (x : Nat × Nat) (l : List (Nat × Nat)) : level (x :: l) = x.2 + level l := by
  unfold level; rw [List.map_cons, List.sum_cons]
theorem level_append (l m : List (Nat × Nat)) : level (l ++ m) = level l + level m := by
  unfold level; rw [List.map_append, List.sum_append]
def Parts (l : List (Nat × Nat)) : Prop := ∀ y ∈ l, 1 ≤ y.2 ∧ y.1 < 10
theorem Parts.nil : Parts [] := fun y h => absurd h (by simp)
theorem Parts.tail {x : Nat × Nat} {l : List (Nat × Nat)} (h : Parts (x :: l)) : Parts l := fun y hy => h y (List.mem_cons_of_mem _ hy)
theorem Parts.head {x : Nat × Nat} {l : List (Nat × Nat)} (h : Parts (x :: l)) : 1 ≤ x.2 ∧ x.1 < 10 := h x List.mem_cons_self
theorem Parts.cons {x : Nat × Nat} {l : List (Nat × Nat)} (hx : 1 ≤ x.2 ∧ x.1 < 10) (h : Parts l) : Parts (x :: l) := fun y hy => by
  rcases List.mem_cons.mp hy with e | e
  · subst e; exact hx
  · exact h y e
theorem Parts.append {l m : List (Nat × Nat)} (h : Parts l) (k : Parts m) : Parts (l ++ m) := fun y hy => by
  rcases List.mem_append.mp hy with e | e
  · exact h y e
  · exact k y e
theorem Parts.len : ∀ {l : List (Nat × Nat)}, Parts l → l.length ≤ level l
  | [], _ => Nat.zero_le _
  | x :: l, h => by
    have h1 := Parts.len (Parts.tail h)
    have h2 := (Parts.head h).1
    rw [level_cons, List.length_cons]
    omega
theorem push_snoc (l : List (Nat × Nat)) (y x : Nat × Nat) : push (l ++ [y]) x = if y.1 = x.1 then l ++ [(x.1, y.2 + x.2)] else l ++ [y] ++ [x] := by
  unfold push
  rw [List.getLast?_append, List.getLast?_singleton, Option.some_or]
  dsimp only
  rw [List.dropLast_concat]
theorem push_nil (x : Nat × Nat) : push [] x = [x] := rfl
theorem snoc_cases {α : Type} (l : List α) : l = [] ∨ ∃ m y, l = m ++ [y] := by
  by_cases h : l = []
  · exact .inl h
  · exact .inr ⟨l.dropLast, l.getLast h, (List.dropLast_concat_getLast h).symm⟩
theorem push_level (l : List (Nat × Nat)) (x : Nat × Nat) : level (push l x) = level l + x.2 := by
  rcases snoc_cases l with rfl | ⟨m, y, rfl⟩
  · rw [push_nil, level_cons, level_nil]; omega
  · rw [push_snoc]
    split
    · rw [level_append, level_append, level_cons, level_cons, level_nil]; dsimp only; omega
    · rw [level_append, level_cons, level_nil]; omega
theorem push_parts {l : List (Nat × Nat)} {x : Nat × Nat} (h : Parts l) (hx : 1 ≤ x.2 ∧ x.1 < 10) : Parts (push l x) := by
  rcases snoc_cases l with rfl | ⟨m, y, rfl⟩
  · rw [push_nil]; exact .cons hx .nil
  · rw [push_snoc]
    have hm : Parts m := fun z hz => h z (List.mem_append_left _ hz)
    split
    · exact hm.append (.cons ⟨by dsimp only; omega, hx.2⟩ .nil)
    · exact h.append (.cons hx .nil)
theorem draw_level : ∀ (l : List (Nat × Nat)) (n : Nat), n ≤ level l → level (draw n l).1 = n ∧ level (draw n l).2 = level l - n
  | [], n, h => by
    rw [level_nil] at h
    obtain rfl : n = 0 := by omega
    exact ⟨rfl, rfl⟩
  | x :: l, n, h => by
    rw [level_cons] at h
    unfold draw
    by_cases h0 : n = 0
    · subst h0
      rw [if_pos rfl]
      exact ⟨rfl, rfl⟩
    · rw [if_neg h0]
      by_cases h1 : n < x.2
      · rw [if_pos h1]
        dsimp only
        rw [level_cons, level_nil, level_cons, level_cons]
        dsimp only
        omega
      · rw [if_neg h1]
        dsimp only
        have ih := draw_level l (n - x.2) (by omega)
        rw [level_cons, level_cons, ih.1, ih.2]
        omega
theorem draw_parts : ∀ (l : List (Nat × Nat)) (n : Nat), Parts l → Parts (draw n l).1 ∧ Parts (draw n l).2
  | [], n, h => ⟨.nil, .nil⟩
  | x :: l, n, h => by
    unfold draw
    by_cases h0 : n = 0
    · rw [if_pos h0]
      exact ⟨.nil, h⟩
    · rw [if_neg h0]
      by_cases h1 : n < x.2
      · rw [if_pos h1]
        exact ⟨.cons ⟨by dsimp only; omega, h.head.2⟩ .nil, .cons ⟨by dsimp only; omega, h.head.2⟩ h.tail⟩
      · rw [if_neg h1]
        have ih := draw_parts l (n - x.2) h.tail
        exact ⟨.cons h.head ih.1, ih.2⟩
theorem draw_zero (l : List (Nat × Nat)) : draw 0 l = ([], l) := by cases l <;> rfl
theorem add_len (l : List Nat) (i n : Nat) : (add l i n).length = l.length := by unfold add; rw [List.length_modify]
theorem add_sum : ∀ (l : List Nat) (i n : Nat), i < l.length → (add l i n).sum = l.sum + n
  | [], i, n, h => absurd h (by simp)
  | x :: l, 0, n, h => by
    show ((x + n) :: l).sum = _
    rw [List.sum_cons, List.sum_cons]; omega
  | x :: l, i + 1, n, h => by
    show (x :: add l i n).sum = _
    rw [List.sum_cons, List.sum_cons, add_sum l i n (by rw [List.length_cons] at h; omega)]; omega
theorem fold_len (f : Nat × Nat → Nat) : ∀ (r : List (Nat × Nat)) (l : List Nat), (r.foldl (fun s y => add s y.1 (f y)) l).length = l.length
  | [], l => rfl
  | y :: r, l => by rw [List.foldl_cons, fold_len f r, add_len]
theorem fold_sum (f : Nat × Nat → Nat) : ∀ (r : List (Nat × Nat)) (l : List Nat), (∀ y ∈ r, y.1 < l.length) → (r.foldl (fun s y => add s y.1 (f y)) l).sum = l.sum + (r.map f).sum
  | [], l, h => by simp
  | y :: r, l, h => by
    rw [List.foldl_cons, fold_sum f r _ (fun z hz => by rw [add_len]; exact h z (List.mem_cons_of_mem _ hz)), add_sum _ _ _ (h y List.mem_cons_self), List.map_cons, List.sum_cons]
    omega
structure FOk (x : Freezer) : Prop where
  hold : 1 ≤ x.hold ∧ x.hold ≤ 500
  power : 1 ≤ x.power ∧ x.power ≤ 10000
  feed : x.feed ≤ 10
  rate : 1 ≤ x.rate ∧ x.rate ≤ 100
  over : x.over ≤ 200
  lev : level x.barrel ≤ x.hold
  parts : Parts x.barrel
  kgl : x.kg.length = 10
  mll : x.ml.length = 10
structure AOk (a : Abs) : Prop where
  dense : 900 ≤ a.dense ∧ a.dense ≤ 1200
  stiff : 1 ≤ a.stiff ∧ a.stiff ≤ 500
  few : a.freezers.length ≤ 4
  each : ∀ x ∈ a.freezers, FOk x
def came (a : Abs) (x : Freezer) : List (Nat × Nat) := if x.feed = 0 ∨ x.stuck = true then [] else if a.stiff < cold x.power x.rate then [] else
  (draw (level (push x.barrel (x.feed - 1, x.rate)) - x.hold) (push x.barrel (x.feed - 1, x.rate))).1
theorem works_idle {a : Abs} {x : Freezer} (h : x.feed = 0 ∨ x.stuck = true) : a.works x = x := by unfold Abs.works; rw [if_pos h]
theorem works_stuck {a : Abs} {x : Freezer} (h : ¬ (x.feed = 0 ∨ x.stuck = true)) (h1 : a.stiff < cold x.power x.rate) : a.works x = { x with stuck := true } := by unfold Abs.works; rw [if_neg h, if_pos h1]
theorem works_goes {a : Abs} {x : Freezer} (h : ¬ (x.feed = 0 ∨ x.stuck = true)) (h1 : ¬ a.stiff < cold x.power x.rate) : a.works x =
    { x with barrel := (draw (level (push x.barrel (x.feed - 1, x.rate)) - x.hold) (push x.barrel (x.feed - 1, x.rate))).2, fed := x.fed + x.rate,
             kg := (came a x).foldl (fun s y => add s y.1 y.2) x.kg, ml := (came a x).foldl (fun s y => add s y.1 (a.litres y.2 x.over)) x.ml } := by
  unfold Abs.works came
  rw [if_neg h, if_neg h1, if_neg h, if_neg h1]
theorem came_parts {a : Abs} {x : Freezer} (h : FOk x) : Parts (came a x) := by
  unfold came
  split
  · exact .nil
  · split
    · exact .nil
    · exact (draw_parts _ _ (push_parts h.parts ⟨h.rate.1, by have := h.feed; dsimp only; omega⟩)).1
theorem works_kg {a : Abs} {x : Freezer} (h : FOk x) : (a.works x).kg = (came a x).foldl (fun s y => add s y.1 y.2) x.kg := by
  by_cases h0 : x.feed = 0 ∨ x.stuck = true
  · rw [works_idle h0]; unfold came; rw [if_pos h0]; rfl
  · by_cases h1 : a.stiff < cold x.power x.rate
    · rw [works_stuck h0 h1]; unfold came; rw [if_neg h0, if_pos h1]; rfl
    · rw [works_goes h0 h1]
theorem works_ml {a : Abs} {x : Freezer} (h : FOk x) : (a.works x).ml = (came a x).foldl (fun s y => add s y.1 (a.litres y.2 x.over)) x.ml := by
  by_cases h0 : x.feed = 0 ∨ x.stuck = true
  · rw [works_idle h0]; unfold came; rw [if_pos h0]; rfl
  · by_cases h1 : a.stiff < cold x.power x.rate
    · rw [works_stuck h0 h1]; unfold came; rw [if_neg h0, if_pos h1]; rfl
    · rw [works_goes h0 h1]
theorem works_ok {a : Abs} {x : Freezer} (h : FOk x) : FOk (a.works x) := by
  by_cases h0 : x.feed = 0 ∨ x.stuck = true
  · rw [works_idle h0]; exact h
  · by_cases h1 : a.stiff < cold x.power x.rate
    · rw [works_stuck h0 h1]
      exact ⟨h.hold, h.power, h.feed, h.rate, h.over, h.lev, h.parts, h.kgl, h.mll⟩
    · rw [works_goes h0 h1]
      have hp : Parts (push x.barrel (x.feed - 1, x.rate)) := push_parts h.parts ⟨h.rate.1, by have := h.feed; dsimp only; omega⟩
      refine ⟨h.hold, h.power, h.feed, h.rate, h.over, ?_, (draw_parts _ _ hp).2, ?_, ?_⟩
      · have := (draw_level (push x.barrel (x.feed - 1, x.rate)) (level (push x.barrel (x.feed - 1, x.rate)) - x.hold) (by omega)).2
        dsimp only
        omega
      · dsimp only; rw [fold_len (fun y => y.2)]; exact h.kgl
      · dsimp only; rw [fold_len (fun y => a.litres y.2 x.over)]; exact h.mll
theorem works_kgs {a : Abs} {x : Freezer} (h : FOk x) : (a.works x).kg.sum = x.kg.sum + ((came a x).map fun y => y.2).sum := by
  rw [works_kg h, fold_sum (fun y => y.2)]
  intro y hy
  rw [h.kgl]
  exact (came_parts h y hy).2
theorem works_mls {a : Abs} {x : Freezer} (h : FOk x) : (a.works x).ml.sum = x.ml.sum + ((came a x).map fun y => a.litres y.2 x.over).sum := by
  rw [works_ml h, fold_sum (fun y => a.litres y.2 x.over)]
  intro y hy
  rw [h.mll]
  exact (came_parts h y hy).2
def Abs.worksN (a : Abs) : Nat → Freezer → Freezer
  | 0, x => x
  | n + 1, x => worksN a n (a.works x)
theorem worksN_succ (a : Abs) : ∀ (n : Nat) (x : Freezer), Abs.worksN a (n + 1) x = a.works (Abs.worksN a n x)
  | 0, x => rfl
  | n + 1, x => by
    show Abs.worksN a (n + 1) (a.works x) = _
    rw [worksN_succ a n]
    rfl
theorem worksN_ok (a : Abs) : ∀ (n : Nat) (x : Freezer), FOk x → FOk (Abs.worksN a n x)
  | 0, x, h => h
  | n + 1, x, h => worksN_ok a n _ (works_ok h)
theorem works_same {a b : Abs} (hd : a.dense = b.dense) (hs : a.stiff = b.stiff) (x : Freezer) : a.works x = b.works x := by
  unfold Abs.works Abs.litres
  rw [hd, hs]
theorem worksN_same {a b : Abs} (hd : a.dense = b.dense) (hs : a.stiff = b.stiff) : ∀ (n : Nat) (x : Freezer), Abs.worksN a n x = Abs.worksN b n x
  | 0, x => rfl
  | n + 1, x => by
    show Abs.worksN a n (a.works x) = Abs.worksN b n (b.works x)
    rw [works_same hd hs, worksN_same hd hs]
theorem goes_eq : ∀ (n : Nat) (a : Abs), a.goes n = { a with freezers := a.freezers.map (Abs.worksN a n), now_ := a.now_ + n }
  | 0, a => by
    show a = _
    have : a.freezers.map (Abs.worksN a 0) = a.freezers := by
      have e : Abs.worksN a 0 = id := rfl
      rw [e, List.map_id]
    rw [this]
    rfl
  | n + 1, a => by
    show a.minute.goes n = _
    rw [goes_eq n a.minute]
    unfold Abs.minute
    dsimp only
    rw [List.map_map]
    have e : (Abs.worksN { a with freezers := a.freezers.map a.works, now_ := a.now_ + 1 } n ∘ a.works) = Abs.worksN a (n + 1) := by
      funext x
      exact worksN_same (a := { a with freezers := a.freezers.map a.works, now_ := a.now_ + 1 }) (b := a) rfl rfl n (a.works x)
    rw [e]
    have e2 : a.now_ + 1 + n = a.now_ + (n + 1) := by omega
    rw [e2]
theorem goes_ok {a : Abs} (h : AOk a) (n : Nat) : AOk (a.goes n) := by
  rw [goes_eq]
  refine ⟨h.dense, h.stiff, by dsimp only; rw [List.length_map]; exact h.few, fun x hx => ?_⟩
  obtain ⟨y, hy, rfl⟩ := List.mem_map.mp hx
  exact worksN_ok a n y (h.each y hy)
end Fz
set_option linter.all false
namespace Fz
open Su72
theorem mem_modify {α : Type} (g : α → α) : ∀ (l : List α) (f : Nat) (y : α), y ∈ l.modify f g → y ∈ l ∨ ∃ x ∈ l, y = g x
  | [], f, y, h => by simp at h
  | x :: l, 0, y, h => by
    rcases List.mem_cons.mp (show y ∈ g x :: l from h) with e | e
    · exact .inr ⟨x, List.mem_cons_self, e⟩
    · exact .inl (List.mem_cons_of_mem _ e)
  | x :: l, f + 1, y, h => by
    rcases List.mem_cons.mp (show y ∈ x :: l.modify f g from h) with e | e
    · exact .inl (by rw [e]; exact List.mem_cons_self)
    · rcases mem_modify g l f y e with e | ⟨z, hz, e⟩
      · exact .inl (List.mem_cons_of_mem _ e)
      · exact .inr ⟨z, List.mem_cons_of_mem _ hz, e⟩
theorem setF_ok {a : Abs} {f : Nat} {g : Freezer → Freezer} (h : AOk a) (hg : ∀ x, FOk x → FOk (g x)) : AOk (a.setF f g) := by
  refine ⟨h.dense, h.stiff, by show (a.freezers.modify f g).length ≤ 4; rw [List.length_modify]; exact h.few, fun y hy => ?_⟩
  rcases mem_modify g a.freezers f y hy with e | ⟨x, hx, rfl⟩
  · exact h.each y e
  · exact hg x (h.each x hx)
theorem new_ok {d s : Nat} (hd : 900 ≤ d ∧ d ≤ 1200) (hs : 1 ≤ s ∧ s ≤ 500) : AOk (new d s) := ⟨hd, hs, Nat.zero_le _, fun x hx => by cases hx⟩
theorem fresh_ok {b p : Nat} (hb : 1 ≤ b ∧ b ≤ 500) (hp : 1 ≤ p ∧ p ≤ 10000) : FOk ⟨b, p, 0, 1, 0, [], false, 0, List.replicate FLAVOURS 0, List.replicate FLAVOURS 0⟩ :=
  ⟨hb, hp, Nat.zero_le _, ⟨Nat.le_refl 1, (by decide : 1 ≤ 100)⟩, Nat.zero_le _, Nat.zero_le _, .nil, rfl, rfl⟩
theorem does_ok {a : Abs} (h : AOk a) (c : Call) : AOk (does a c).1 := by
  cases c with
  | begin_ d s =>
    unfold does
    dsimp only
    split
    · exact h
    · exact new_ok (by omega) (by omega)
  | freezer b p =>
    unfold does
    dsimp only
    split
    · exact h
    · split
      · exact h
      · next h1 h2 =>
        refine ⟨h.dense, h.stiff, ?_, fun x hx => ?_⟩
        · show (a.freezers ++ [_]).length ≤ 4
          rw [List.length_append]
          unfold FREEZERS at h2
          show a.freezers.length + 1 ≤ 4
          omega
        · rcases List.mem_append.mp hx with e | e
          · exact h.each x e
          · rw [List.mem_singleton] at e
            subst e
            exact fresh_ok (by omega) (by omega)
  | run f v m o =>
    unfold does
    dsimp only
    split
    · exact h
    · split
      · exact h
      · split
        · exact h
        · next h1 h2 h3 =>
          refine setF_ok h fun x hx => ?_
          unfold FLAVOURS FAST AIR at h2
          exact ⟨hx.hold, hx.power, by dsimp only; omega, by dsimp only; omega, by dsimp only; omega, hx.lev, hx.parts, hx.kgl, hx.mll⟩
  | halt_ f =>
    unfold does
    dsimp only
    split
    · exact h
    · split
      · exact h
      · exact setF_ok h fun x hx => ⟨hx.hold, hx.power, Nat.zero_le _, hx.rate, hx.over, hx.lev, hx.parts, hx.kgl, hx.mll⟩
  | thaw f =>
    unfold does
    dsimp only
    split
    · exact h
    · split
      · exact h
      · exact setF_ok h fun x hx => ⟨hx.hold, hx.power, Nat.zero_le _, hx.rate, hx.over, hx.lev, hx.parts, hx.kgl, hx.mll⟩
  | minutes n =>
    unfold does
    dsimp only
    split
    · exact h
    · exact goes_ok h n
  | cup v g =>
    unfold does
    dsimp only
    repeat' split
    all_goals exact h
  | cupfor v o =>
    unfold does
    dsimp only
    repeat' split
    all_goals exact h
  | fastest f c =>
    unfold does
    dsimp only
    repeat' split
    all_goals exact h
  | slowest f =>
    unfold does
    dsimp only
    repeat' split
    all_goals exact h
  | cold f m =>
    unfold does
    dsimp only
    repeat' split
    all_goals exact h
  | flushed f =>
    unfold does
    dsimp only
    repeat' split
    all_goals exact h
  | «until» f v l =>
    unfold does
    dsimp only
    repeat' split
    all_goals exact h
  | ahead n =>
    unfold does
    dsimp only
    repeat' split
    all_goals exact h
  | made v =>
    unfold does
    dsimp only
    repeat' split
    all_goals exact h
  | yield_ k o =>
    unfold does
    dsimp only
    repeat' split
    all_goals exact h
  | need l o =>
    unfold does
    dsimp only
    repeat' split
    all_goals exact h
  | barrel f =>
    unfold does
    dsimp only
    repeat' split
    all_goals exact h
  | look f =>
    unfold does
    dsimp only
    repeat' split
    all_goals exact h
  | sums => exact h
  | state => exact h
def SOk (s : Option Abs) : Prop := ∀ a, s = some a → AOk a
theorem step_ok {s : Option Abs} (h : SOk s) (c : Call) : SOk (step s c).1 := by
  intro b hb
  cases s with
  | some a =>
    have e : (does a c).1 = b := Option.some.inj hb
    rw [← e]
    exact does_ok (h a rfl) c
  | none =>
    cases c with
    | begin_ d t =>
      have hb' : (if (does (new 1000 1) (.begin_ d t)).2.value < 0 then none else some (does (new 1000 1) (.begin_ d t)).1) = some b := hb
      split at hb'
      · cases hb'
      · have e := Option.some.inj hb'
        rw [← e]
        exact does_ok (new_ok (by decide) (by decide)) _
    | _ => cases hb
theorem none_ok : SOk none := fun a h => by cases h
end Fz
set_option linter.all false
namespace Fz
open Su72
def kgsOf (l : List Freezer) : Nat := (l.map fun x => x.kg.sum).sum
def mlsOf (l : List Freezer) : Nat := (l.map fun x => x.ml.sum).sum
theorem kgs_of (a : Abs) : a.kgs = kgsOf a.freezers := rfl
theorem mls_of (a : Abs) : a.mls = mlsOf a.freezers := rfl
def gone (g : Freezer → Freezer) (fs : List Freezer) (i : Nat) : List Freezer := (fs.take i).map g ++ fs.drop i
theorem gone_zero (g : Freezer → Freezer) (fs : List Freezer) : gone g fs 0 = fs := by unfold gone; rw [List.take_zero, List.drop_zero]; rfl
theorem gone_all (g : Freezer → Freezer) (fs : List Freezer) : gone g fs fs.length = fs.map g := by unfold gone; rw [List.take_length, List.drop_length, List.append_nil]
theorem gone_at {g : Freezer → Freezer} : ∀ {fs : List Freezer} {i : Nat} {x : Freezer}, fs[i]? = some x → (gone g fs i)[i]? = some x
  | [], i, x, h => by simp at h
  | z :: l, 0, x, h => h
  | z :: l, i + 1, x, h => gone_at (g := g) (fs := l) (i := i) h
theorem gone_set {g : Freezer → Freezer} : ∀ {fs : List Freezer} {i : Nat} {x : Freezer}, fs[i]? = some x → (gone g fs i).set i (g x) = gone g fs (i + 1)
  | [], i, x, h => by simp at h
  | z :: l, 0, x, h => by
    have e := Option.some.inj h
    subst e
    rfl
  | z :: l, i + 1, x, h => by
    show g z :: (gone g l i).set i (g x) = g z :: gone g l (i + 1)
    rw [gone_set (g := g) (fs := l) (i := i) h]
end Fz
set_option linter.all false
namespace Fz
open Su72
theorem first_at {a : Abs} {p : Freezer → Bool} : ∀ {n k : Nat} {x : Freezer}, k < n → p (Abs.worksN a k x) = true → (∀ j, j < k → p (Abs.worksN a j x) = false) → a.first p n x = some k
  | 0, k, x, h, _, _ => absurd h (Nat.not_lt_zero _)
  | n + 1, 0, x, _, hp, _ => by
    unfold Abs.first
    rw [if_pos (show p x = true from hp)]
  | n + 1, k + 1, x, h, hp, hn => by
    unfold Abs.first
    rw [if_neg (by rw [show p x = false from hn 0 (Nat.succ_pos _)]; decide), first_at (n := n) (k := k) (x := a.works x) (by omega) hp fun j hj => hn (j + 1) (by omega)]
    rfl
theorem first_none {a : Abs} {p : Freezer → Bool} : ∀ {n : Nat} {x : Freezer}, (∀ j, j < n → p (Abs.worksN a j x) = false) → a.first p n x = none
  | 0, x, _ => rfl
  | n + 1, x, hn => by
    unfold Abs.first
    rw [if_neg (by rw [show p x = false from hn 0 (Nat.succ_pos _)]; decide), first_none (n := n) (x := a.works x) fun j hj => hn (j + 1) (by omega)]
    rfl
theorem add_getD : ∀ {l : List Nat} {i n v : Nat}, i < l.length → (add l i n).getD v 0 = l.getD v 0 + if i = v then n else 0
  | [], i, n, v, h => absurd h (Nat.not_lt_zero _)
  | x :: l, 0, n, 0, h => by
    show x + n = x + if 0 = 0 then n else 0
    rw [if_pos rfl]
  | x :: l, 0, n, v + 1, h => by
    show l.getD v 0 = l.getD v 0 + if 0 = v + 1 then n else 0
    rw [if_neg (by omega)]
    omega
  | x :: l, i + 1, n, 0, h => by
    show x = x + if i + 1 = 0 then n else 0
    rw [if_neg (by omega)]
    omega
  | x :: l, i + 1, n, v + 1, h => by
    show (add l i n).getD v 0 = l.getD v 0 + if i + 1 = v + 1 then n else 0
    rw [add_getD (l := l) (i := i) (by rw [List.length_cons] at h; omega)]
    by_cases z : i = v
    · rw [if_pos z, if_pos (by omega)]
    · rw [if_neg z, if_neg (by omega)]
def ofV (f : Nat × Nat → Nat) (v : Nat) (r : List (Nat × Nat)) : Nat := (r.map fun y => if y.1 = v then f y else 0).sum
theorem fold_getD (f : Nat × Nat → Nat) (v : Nat) : ∀ (r : List (Nat × Nat)) (l : List Nat), (∀ y ∈ r, y.1 < l.length) → (r.foldl (fun s y => add s y.1 (f y)) l).getD v 0 = l.getD v 0 + ofV f v r
  | [], l, h => by
    show l.getD v 0 = l.getD v 0 + 0
    omega
  | y :: r, l, h => by
    rw [List.foldl_cons, fold_getD f v r _ (fun z hz => by rw [add_len]; exact h z (List.mem_cons_of_mem _ hz)), add_getD (h y List.mem_cons_self)]
    show _ = l.getD v 0 + (((if y.1 = v then f y else 0) :: r.map fun y => if y.1 = v then f y else 0).sum)
    rw [List.sum_cons]
    unfold ofV
    omega
theorem works_mlD {a : Abs} {x : Freezer} (h : FOk x) (v : Nat) : (a.works x).ml.getD v 0 = x.ml.getD v 0 + ofV (fun y => a.litres y.2 x.over) v (came a x) := by
  rw [works_ml h, fold_getD (fun y => a.litres y.2 x.over)]
  intro y hy
  rw [h.mll]
  exact (came_parts h y hy).2
def zero (x : Freezer) : Freezer := { x with fed := 0, kg := List.replicate FLAVOURS 0, ml := List.replicate FLAVOURS 0 }
theorem zero_ok {x : Freezer} (h : FOk x) : FOk (zero x) := ⟨h.hold, h.power, h.feed, h.rate, h.over, h.lev, h.parts, rfl, rfl⟩
structure Twin (x y : Freezer) : Prop where
  hold : x.hold = y.hold
  power : x.power = y.power
  feed : x.feed = y.feed
  rate : x.rate = y.rate
  over : x.over = y.over
  barrel : x.barrel = y.barrel
  stuck : x.stuck = y.stuck
theorem twin_zero (x : Freezer) : Twin x (zero x) := ⟨rfl, rfl, rfl, rfl, rfl, rfl, rfl⟩
theorem Twin.came {a : Abs} {x y : Freezer} (t : Twin x y) : came a x = came a y := by
  unfold Fz.came
  rw [t.hold, t.power, t.feed, t.rate, t.barrel, t.stuck]
theorem Twin.works {a : Abs} {x y : Freezer} (t : Twin x y) : Twin (a.works x) (a.works y) := by
  have ef : (x.feed = 0 ∨ x.stuck = true) = (y.feed = 0 ∨ y.stuck = true) := by rw [t.feed, t.stuck]
  have ec : (a.stiff < cold x.power x.rate) = (a.stiff < cold y.power y.rate) := by rw [t.power, t.rate]
  by_cases h0 : x.feed = 0 ∨ x.stuck = true
  · rw [works_idle h0, works_idle (ef ▸ h0)]; exact t
  · by_cases h1 : a.stiff < cold x.power x.rate
    · rw [works_stuck h0 h1, works_stuck (ef ▸ h0) (ec ▸ h1)]
      exact ⟨t.hold, t.power, t.feed, t.rate, t.over, t.barrel, rfl⟩
    · rw [works_goes h0 h1, works_goes (ef ▸ h0) (ec ▸ h1)]
      exact ⟨t.hold, t.power, t.feed, t.rate, t.over, by dsimp only; rw [t.barrel, t.feed, t.rate, t.hold], t.stuck⟩
theorem Twin.worksN {a : Abs} : ∀ (n : Nat) {x y : Freezer}, Twin x y → Twin (Abs.worksN a n x) (Abs.worksN a n y)
  | 0, _, _, t => t
  | n + 1, _, _, t => Twin.worksN n t.works
theorem Twin.pure {x y : Freezer} (t : Twin x y) : pure_ x = pure_ y := by
  unfold pure_
  rw [t.barrel, t.feed]
theorem getD_zeros (v : Nat) : (List.replicate FLAVOURS 0).getD v 0 = 0 := by
  rw [List.getD_eq_getElem?_getD, List.getElem?_replicate]
  split <;> rfl
theorem worksN_kgs {a : Abs} {x : Freezer} (h : FOk x) : ∀ n : Nat, (Abs.worksN a n x).kg.sum = x.kg.sum + (Abs.worksN a n (zero x)).kg.sum
  | 0 => rfl
  | n + 1 => by
    rw [worksN_succ, worksN_succ, works_kgs (worksN_ok a n x h), works_kgs (worksN_ok a n _ (zero_ok h)), worksN_kgs h n, ((twin_zero x).worksN (a := a) n).came]
    omega
theorem worksN_mls {a : Abs} {x : Freezer} (h : FOk x) : ∀ n : Nat, (Abs.worksN a n x).ml.sum = x.ml.sum + (Abs.worksN a n (zero x)).ml.sum
  | 0 => rfl
  | n + 1 => by
    rw [worksN_succ, worksN_succ, works_mls (worksN_ok a n x h), works_mls (worksN_ok a n _ (zero_ok h)), worksN_mls h n, ((twin_zero x).worksN (a := a) n).came, ((twin_zero x).worksN (a := a) n).over]
    omega
theorem worksN_mlD {a : Abs} {x : Freezer} (h : FOk x) (v : Nat) : ∀ n : Nat, (Abs.worksN a n x).ml.getD v 0 = x.ml.getD v 0 + (Abs.worksN a n (zero x)).ml.getD v 0
  | 0 => by
    show x.ml.getD v 0 = x.ml.getD v 0 + (List.replicate FLAVOURS 0).getD v 0
    rw [getD_zeros]
    omega
  | n + 1 => by
    rw [worksN_succ, worksN_succ, works_mlD (worksN_ok a n x h), works_mlD (worksN_ok a n _ (zero_ok h)), worksN_mlD h v n, ((twin_zero x).worksN (a := a) n).came, ((twin_zero x).worksN (a := a) n).over]
    omega
theorem kgsOf_worksN {a : Abs} (n : Nat) : ∀ {l : List Freezer}, (∀ x ∈ l, FOk x) → kgsOf (l.map (Abs.worksN a n)) = kgsOf l + kgsOf ((l.map zero).map (Abs.worksN a n))
  | [], _ => rfl
  | x :: l, h => by
    have ih := kgsOf_worksN (a := a) n (l := l) fun y hy => h y (List.mem_cons_of_mem _ hy)
    have e := worksN_kgs (a := a) (h x List.mem_cons_self) n
    unfold kgsOf at ih ⊢
    rw [List.map_cons, List.map_cons, List.sum_cons, List.map_cons, List.sum_cons, List.map_cons, List.map_cons, List.map_cons, List.sum_cons]
    omega
theorem mlsOf_worksN {a : Abs} (n : Nat) : ∀ {l : List Freezer}, (∀ x ∈ l, FOk x) → mlsOf (l.map (Abs.worksN a n)) = mlsOf l + mlsOf ((l.map zero).map (Abs.worksN a n))
  | [], _ => rfl
  | x :: l, h => by
    have ih := mlsOf_worksN (a := a) n (l := l) fun y hy => h y (List.mem_cons_of_mem _ hy)
    have e := worksN_mls (a := a) (h x List.mem_cons_self) n
    unfold mlsOf at ih ⊢
    rw [List.map_cons, List.map_cons, List.sum_cons, List.map_cons, List.sum_cons, List.map_cons, List.map_cons, List.map_cons, List.sum_cons]
    omega
theorem stuck_worksN {a : Abs} (n : Nat) : ∀ (l : List Freezer), ((l.map (Abs.worksN a n)).filter fun x => x.stuck).length = (((l.map zero).map (Abs.worksN a n)).filter fun x => x.stuck).length
  | [] => rfl
  | x :: l => by
    have ih := stuck_worksN (a := a) n l
    have e := ((twin_zero x).worksN (a := a) n).stuck
    rw [List.map_cons, List.map_cons, List.map_cons, List.filter_cons, List.filter_cons, e]
    split
    · rw [List.length_cons, List.length_cons, ih]
    · exact ih
end Fz
set_option Elab.async false
set_option linter.all false
set_option maxRecDepth 100000
set_option maxHeartbeats 2000000
namespace Fz
open PySem PySem.Spec PyProof.Rows L2
structure Cal (P : Program) (w : World) (K : PySem.W.Frag) (mg : Str → Option Value) (base : Heap) (k : Nat) (x : Str) (ps : List Str) (sp : Sp) : Prop where
  ex : ∃ (f : Addr) (fd : FuncData), FnOk P w K mg base CX0 k f fd ps sp ∧ mg x = some (.ref f) ∧ PySem.W.keepIn K (.ref f) = true ∧ Binds K fd ps []
structure Met (P : Program) (w : World) (K : PySem.W.Frag) (mg : Str → Option Value) (base : Heap) (k : Nat) (C : Addr) (m : Str) (ps : List Str) (sp : Sp) : Prop where
  ex : ∃ (f : Addr) (fd : FuncData), FnOk P w K mg base CX0 k f fd ps sp ∧ Meth K C m f ∧ Binds K fd ps []
structure Mak (P : Program) (w : World) (K : PySem.W.Frag) (mg : Str → Option Value) (base : Heap) (k : Nat) (x : Str) (C : Addr) (ps : List Str) (sp : Sp) : Prop where
  ex : ∃ (f : Addr) (fd : FuncData), FnOk P w K mg base CX0 k f fd ps sp ∧ Mk K C f ∧ mg x = some (.ref C) ∧ Binds K fd ps []
section
variable {X : Cx} {k : Nat} {C : Addr} {ps : List Str} {sp : Sp} {x m : Str} {p pos apos : Pos} {e o : Expr} {es : List Expr} {ta : TE} {t : TA}
theorem pe_cal (G : Cal X.prog X.w X.K X.mg X.base k x ps sp) (hr : Room k X.A) (hg : Gl X x)
    (ha : PA X (e :: es) t) (hdb : (x == ("__debug__" : Str)) = false := by decide) (he : starEach (e :: es) X.env = (false, eval e X.env) :: starEach es X.env := by rfl) (hpl : (backTo pos (starEach es X.env)).any (·.1) = false := by rfl) :
    PE X (.Call (.Name x p) (e :: es) [] pos) (tCall sp [] E0 t) := by
  obtain ⟨f, fd, F, hm, hk, hb⟩ := G.ex
  exact pe_call F hr hg hm hk hb .nil pass0 ha hdb he hpl
theorem pe_met {pl : Sem Bool} (he : PE X o ta) (c : Cls X.K C) (G : Met X.prog X.w X.K X.mg X.base k C m ps sp) (hr : Room k X.A) (ha : PA X (e :: es) t)
    (hst : starEach (e :: es) X.env = (false, eval e X.env) :: starEach es X.env := by rfl) (hpl : (backTo pos (starEach es X.env)).any (·.1) = false := by rfl)
    (ht : eval (.Call (.Attribute o m apos) (e :: es) [] pos) X.env = (do
      let ov ← eval o X.env
      standAt apos.atName
      let (f, first) ← holding [ov] (getMethod ov m pl)
      callWith pos f first (backTo pos (starEach (e :: es) X.env)) (backToKw pos (keywordEach [] X.env))) := by rfl) :
    PE X (.Call (.Attribute o m apos) (e :: es) [] pos) (tMeth C m sp [] E0 ta t) := by
  obtain ⟨f, fd, F, hm, hb⟩ := G.ex
  exact pe_meth (pl := pl) he c hm F hr hb .nil pass0 ha hst hpl ht
theorem pe_met0 {pl : Sem Bool} (he : PE X o ta) (c : Cls X.K C) (G : Met X.prog X.w X.K X.mg X.base k C m ps sp) (hr : Room k X.A)
    (ht : eval (.Call (.Attribute o m apos) [] [] pos) X.env = (do
      let ov ← eval o X.env
      standAt apos.atName
      let (f, first) ← holding [ov] (getMethod ov m pl)
      callWith pos f first (backTo pos (starEach [] X.env)) (backToKw pos (keywordEach [] X.env))) := by rfl) :
    PE X (.Call (.Attribute o m apos) [] [] pos) (tMeth C m sp [] E0 ta tNil) := by
  obtain ⟨f, fd, F, hm, hb⟩ := G.ex
  exact pe_meth0 (pl := pl) he c hm F hr hb .nil pass0 ht
theorem pe_mak (G : Mak X.prog X.w X.K X.mg X.base k x C ps sp) (hr : Room (k + 1) X.A) (hg : Gl X x)
    (ha : PA X (e :: es) t) (hdb : (x == ("__debug__" : Str)) = false := by decide) (he : starEach (e :: es) X.env = (false, eval e X.env) :: starEach es X.env := by rfl) (hpl : (backTo pos (starEach es X.env)).any (·.1) = false := by rfl) :
    PE X (.Call (.Name x p) (e :: es) [] pos) (tMake C sp [] E0 t) := by
  obtain ⟨f, fd, F, M, hm, hb⟩ := G.ex
  exact pe_make M F hr hg hm hb .nil pass0 ha hdb he hpl
theorem pe_mak0 (G : Mak X.prog X.w X.K X.mg X.base k x C ps sp) (hr : Room (k + 1) X.A) (hg : Gl X x) (hdb : (x == ("__debug__" : Str)) = false := by decide) :
    PE X (.Call (.Name x p) [] [] pos) (tMake C sp [] E0 tNil) := by
  obtain ⟨f, fd, F, M, hm, hb⟩ := G.ex
  exact pe_make0 M F hr hg hm hb .nil pass0 hdb
def Hand (P : Program) (w : World) (K : PySem.W.Frag) (mg : Str → Option Value) (base : Heap) (k : Nat) (f : Addr) (sp : Sp) : Prop :=
  ∃ (fd : FuncData) (ps : List Str), FnOk P w K mg base CX0 k f fd ps sp ∧ PySem.W.keepIn K (.ref f) = true ∧ Binds K fd ps []
def tCallV (X : Cx) (k i : Nat) (t : TA) : TE := fun σ H Q => ∃ f sp, σ[i]? = some (some (.ref f)) ∧ Hand X.prog X.w X.K X.mg X.base k f sp ∧ t σ H fun vs H1 => sp vs H1 Q E0
theorem pe_callV {i : Nat} (hr : Room k X.A) (hN : X.N[i]? = some x) (hv : Vis X.env.scope x)
    (ha : PA X (e :: es) t) (hd : (x == ("__debug__" : Str)) = false := by decide) (hcd : (x == ("__classdict__" : Str)) = false := by decide) (he : starEach (e :: es) X.env = (false, eval e X.env) :: starEach es X.env := by rfl) (hpl : (backTo pos (starEach es X.env)).any (·.1) = false := by rfl) :
    PE X (.Call (.Name x p) (e :: es) [] pos) (tCallV X k i t) := by
  intro pins s σ H Q I h
  obtain ⟨f, sp, hf, ⟨fd, ps, F, hk, hb⟩, h⟩ := h
  refine wpAny_Call_Name_kw (thn (pe_var (pos := p) hN hv hd hcd pins s σ H (fun v H' => v = .ref f ∧ H' = H) I ⟨_, hf, rfl, rfl⟩) fun u s1 ⟨v, H', I1, r1, e1, e2⟩ => ?_)
  subst e1 e2
  obtain rfl : u = Value.ref f := r1
  refine PySem.W.callWith_K (h₀ := X.base) I.ok.mod.kin hk (thn (ha pos pins s1 σ H' _ I1 h) fun us s2 ⟨vs, H1, I2, r, q⟩ => ⟨I2.kIn, ?_⟩) he hpl
  exact run_fn F hr hb .nil pass0 I2 r (by rw [List.append_nil]; exact q)
end
section
variable {X : Cx} {x : Str} {i : Int} {a : Addr} {pos : Pos}
theorem pe_gint (hg : Gl X x) (h : ∃ t, X.mg x = some (.int i t)) (hd : (x == ("__debug__" : Str)) = false := by decide) : PE X (.Name x pos) (tC (.int i)) := by
  obtain ⟨t, hm⟩ := h
  exact pe_glob hg hm ⟨t, rfl⟩ hd
theorem pe_gref (hg : Gl X x) (hm : X.mg x = some (.ref a)) (hd : (x == ("__debug__" : Str)) = false := by decide) : PE X (.Name x pos) (tC (.ref a)) := pe_glob hg hm rfl hd
end
theorem b_len : bootBuiltins "len" = some (.builtin "len") := by decide +kernel
theorem b_sum : bootBuiltins "sum" = some (.builtin "sum") := by decide +kernel
theorem b_min : bootBuiltins "min" = some (.builtin "min") := by decide +kernel
theorem b_all : bootBuiltins "all" = some (.builtin "all") := by decide +kernel
theorem b_list : bootBuiltins "list" = some (.type "list") := by decide +kernel
section
variable {X : Cx} {K : PySem.W.Frag} {e a b : Expr} {ta tb : TE} {f : Str} {pos : Pos}
theorem pe_fldK (hK : X.K = K) (he : PE X e ta) (hb : attributeBase e f X.env (eval e X.env) = eval e X.env) : PE X (.Attribute e f pos) (tFld K ta f) := by
  subst hK
  exact pe_fld he hb
theorem pe_ixK (hK : X.K = K) (ha : PE X a ta) (hb : PE X b tb) (hs : PlainIx b) : PE X (.Subscript a b pos) (tOp (rIx K) ta tb) := by
  subst hK
  exact pe_ix ix_seq ha hb hs
theorem pe_sumK {p : Pos} {es : List Expr} {t : TA} (hK : X.K = K) (hc : X.calm = true) (hg : Gl X "sum") (hm : X.mg "sum" = none) (ha : PA X (e :: es) t) (he : starEach (e :: es) X.env = (false, eval e X.env) :: starEach es X.env := by rfl) (hpl : (backTo pos (starEach es X.env)).any (·.1) = false := by rfl) :
    PE X (.Call (.Name "sum" p) (e :: es) [] pos) (tCB (rSum K) t) := by
  subst hK
  exact pe_callB (cr_sum hc) hg hm b_sum ha (by decide) (by decide) he hpl
def rAtN (K : PySem.W.Frag) : V → V → Hp → VK → Prop := fun x y H Q => ∃ (p : Addr) (xs : List V) (j : Nat) (z : V), x = .ref p ∧ y = .int (j : Int) ∧ SqL K H p xs ∧ xs[j]? = some z ∧ Q z H
theorem get_list : PGet X (rAtN X.K) := by
  rintro pins s σ H x y v u Q I rx ry ⟨p, xs, j, z, rfl, rfl, hq, hz, q⟩
  obtain ⟨t, rfl⟩ := ry
  cases rx
  obtain ⟨its, r, pl, hn⟩ := I.list hq
  obtain ⟨w, hw, rw'⟩ := r.get hz
  have hj := (List.getElem?_eq_some_iff.mp hz).1
  have hl := line63
  exact getItem_listL pl.isList (Int.natCast_nonneg j) (by omega) (by rw [Int.toNat_natCast]; exact hw) ⟨z, H, I, rw', q⟩
end
theorem lc_yes {σ : L2.St} {H : Hp} {A B : Hp → Prop} (h : A H) : tYes σ H fun b H3 => if b = true then A H3 else B H3 := by
  show if true = true then A H else B H
  rw [if_pos rfl]
  exact h
theorem sw_lc {elt : Expr} {gs : List Comprehension} {scope : Scope} {pos py : Pos} {y : Str} {l : Nat} {env : Env} (hk : env.scope.kind = .function) (hy : env.scope.names.lookup y = some .local) (hl : (py.line == pos.line) = true)
    (ha : (scope.names.any fun (n, k) => n == y && (k == .local || k == .cell)) = false) : swapsWith (.ListComp elt gs scope pos) (some (.Name y py)) l env = pure true := by
  have ky : env.kindOf y = some .local := hy
  have hb : env.blockKind = .function := by unfold Env.blockKind; rw [hk]; rfl
  show pure (env.blockKind == .function && env.kindOf y == some .local && py.line == pos.line && !(scope.names.any fun (n, k) => n == y && (k == .local || k == .cell))) = pure true
  rw [hb, ky, hl, ha]
  rfl
structure KD (P : Program) (w : World) (K : PySem.W.Frag) (a : Addr) (kvs : List (Key × Value)) : Prop where
  is : ∀ h : Heap, K.In h → h.DictOf (mixKind P w) a kvs
  ns : (a == sysModules) = false
section
variable {X : Cx} {a : Addr} {kvs : List (Key × Value)} {o i : Expr} {pos : Pos} {ty : TE}
def tKDGet (kvs : List (Key × Value)) (ty : TE) : TE := fun σ H Q => ty σ H fun y H2 => ∃ (k : Key) (u : Value) (v : V), y = kV k ∧ valueAt kvs k = some u ∧ RelV v u ∧ Q v H2
theorem pe_kdget (D : KD X.prog X.w X.K a kvs) (ho : PE X o (tC (.ref a))) (hi : PE X i ty) (hs : NoSl i) : PE X (.Subscript o i pos) (tKDGet kvs ty) := by
  intro pins s σ H Q I h
  refine subD_of PySem.F.slot_dict_getitem.lookup hs (thn (ho pins s σ H (fun v H' => v = .ref a ∧ ty σ H' fun y H2 => ∃ (k : Key) (u : Value) (v : V), y = kV k ∧ valueAt kvs k = some u ∧ RelV v u ∧ Q v H2) I ⟨rfl, h⟩) fun u s1 ⟨x, H1, I1, rx, ex, q1⟩ => thn (hi pins s1 σ H1 _ I1 q1) fun iv s2 ⟨y, H2, I2, ry, k, u', v, ek, eu, rv, q2⟩ => ?_)
  subst ex ek
  obtain rfl : u = Value.ref a := rx
  have dd := D.is s2.heap I2.kIn
  exact ⟨dd.typeIs, wpAny_getItem_of (kV_is ry) dd.mapOf eu ⟨v, H2, I2.tok _, rv, q2⟩⟩
end
end Fz
set_option Elab.async false
set_option linter.all false
set_option maxRecDepth 100000
set_option maxHeartbeats 2000000
namespace Fz
open PySem PySem.Spec PyProof.Rows L2
def Keep (S : Addr → Prop) (H H' : Hp) : Prop := ∀ b o, H b = some o → ¬ S b → H' b = some o
theorem Keep.refl (S : Addr → Prop) (H : Hp) : Keep S H H := fun _ _ h _ => h
theorem Keep.trans {S : Addr → Prop} {H H1 H2 : Hp} (a : Keep S H H1) (b : Keep S H1 H2) : Keep S H H2 := fun c o h n => b c o (a c o h n) n
theorem Keep.mono {S S' : Addr → Prop} {H H' : Hp} (a : Keep S H H') (h : ∀ b, S b → S' b) : Keep S' H H' := fun c o e n => a c o e fun q => n (h c q)
theorem Same.keep {S : Addr → Prop} {H H' : Hp} (a : Same H H') : Keep S H H' := fun c o e _ => a c o e
theorem same_new {H : Hp} {p : Addr} {o : HO} (h : H p = none) : Same H (upd H p o) := fun b u e => by
  rw [upd_ne (ne_of_none e h)]
  exact e
theorem keep_upd {H : Hp} {p : Addr} {o : HO} : Keep (fun b => b = p) H (upd H p o) := fun b u e n => by
  rw [upd_ne n]
  exact e
def pairV (p : Nat × Nat) : List V := [.int (p.1 : Int), .int (p.2 : Int)]
def Tups (H : Hp) : List Addr → List (Nat × Nat) → Prop
  | [], [] => True
  | t :: ts, p :: ps => H t = some (.tup (pairV p)) ∧ Tups H ts ps
  | _, _ => False
theorem Tups.nil {H : Hp} : Tups H [] [] := True.intro
theorem Tups.len {H : Hp} : ∀ {ts : List Addr} {ps : List (Nat × Nat)}, Tups H ts ps → ts.length = ps.length
  | [], [], _ => rfl
  | _ :: ts, _ :: ps, h => by rw [List.length_cons, List.length_cons, Tups.len h.2]
theorem Tups.imp {H H' : Hp} (e : ∀ t xs, H t = some (.tup xs) → H' t = some (.tup xs)) : ∀ {ts : List Addr} {ps : List (Nat × Nat)}, Tups H ts ps → Tups H' ts ps
  | [], [], _ => True.intro
  | _ :: ts, _ :: ps, h => ⟨e _ _ h.1, Tups.imp e h.2⟩
theorem Tups.append {H : Hp} : ∀ {ts us : List Addr} {ps qs : List (Nat × Nat)}, Tups H ts ps → Tups H us qs → Tups H (ts ++ us) (ps ++ qs)
  | [], _, [], _, _, k => k
  | _ :: ts, _, _ :: ps, _, h, k => ⟨h.1, Tups.append h.2 k⟩
theorem Tups.one {H : Hp} {t : Addr} {p : Nat × Nat} (h : H t = some (.tup (pairV p))) : Tups H [t] [p] := ⟨h, True.intro⟩
theorem Tups.at {H : Hp} : ∀ {ts : List Addr} {ps : List (Nat × Nat)} {i : Nat} {t : Addr}, Tups H ts ps → ts[i]? = some t → ∃ p, ps[i]? = some p ∧ H t = some (.tup (pairV p))
  | [], _, i, t, _, h => by simp at h
  | _ :: ts, p :: ps, 0, t, k, h => by
    have e := Option.some.inj h
    subst e
    exact ⟨p, rfl, k.1⟩
  | _ :: ts, p :: ps, i + 1, t, k, h => by
    have h' : ts[i]? = some t := h
    obtain ⟨q, e1, e2⟩ := Tups.at k.2 h'
    exact ⟨q, e1, e2⟩
theorem Tups.snoc {H : Hp} {ts : List Addr} {m : List (Nat × Nat)} {y : Nat × Nat} (h : Tups H ts (m ++ [y])) : ∃ us t, ts = us ++ [t] ∧ Tups H us m ∧ H t = some (.tup (pairV y)) := by
  induction m generalizing ts with
  | nil =>
    match ts, h with
    | [t], h => exact ⟨[], t, rfl, .nil, h.1⟩
    | [], h => exact h.elim
    | _ :: _ :: _, h => exact h.2.elim
  | cons x m ih =>
    match ts, h with
    | [], h => exact h.elim
    | t0 :: ts, h =>
      obtain ⟨us, t, rfl, h1, h2⟩ := ih h.2
      exact ⟨t0 :: us, t, rfl, ⟨h.1, h1⟩, h2⟩
structure PartsAt (H : Hp) (l : Addr) (ps : List (Nat × Nat)) : Prop where
  ex : ∃ ts : List Addr, H l = some (.lst (ts.map V.ref)) ∧ Tups H ts ps
theorem PartsAt.mk' {H : Hp} {l : Addr} {ps : List (Nat × Nat)} {ts : List Addr} (h : H l = some (.lst (ts.map V.ref))) (k : Tups H ts ps) : PartsAt H l ps := ⟨⟨ts, h, k⟩⟩
theorem tup_ne_lst {H : Hp} {t l : Addr} {xs ys : List V} (h : H t = some (.tup xs)) (k : H l = some (.lst ys)) : t ≠ l := ne_of h k (by intro z; cases z)
theorem PartsAt.keep {S : Addr → Prop} {H H' : Hp} {l : Addr} {ps : List (Nat × Nat)} (P : PartsAt H l ps) (k : Keep S H H') (hl : ¬ S l) (hS : ∀ t xs, H t = some (.tup xs) → ¬ S t) : PartsAt H' l ps := by
  obtain ⟨ts, h1, h2⟩ := P.ex
  exact .mk' (k _ _ h1 hl) (h2.imp fun t xs e => k _ _ e (hS t xs e))
theorem map_snoc {α β : Type} (f : α → β) (l : List α) (x : α) : (l ++ [x]).map f = l.map f ++ [f x] := by rw [List.map_append]; rfl
end Fz
set_option Elab.async false
set_option linter.all false
set_option maxRecDepth 100000
set_option maxHeartbeats 2000000
namespace Fz
open PySem PySem.Spec PyProof.Rows L2
def top (i : Nat) : Stmt := PySem.Challenge.pw_freezersoverrun_s01_answers.main.body.getD i (.Pass ⟨0, 0, 0, 0⟩)
abbrev s_how_cold : Stmt := top 1
theorem sc_how_cold : FnScope ["power", "rate"] ["power", "rate"] (defScope s_how_cold) := ⟨rfl, rfl, rfl, by decide +kernel, rfl, by decide +kernel, by decide +kernel⟩
abbrev s_volume : Stmt := top 2
theorem sc_volume : FnScope ["kilograms", "air", "density"] ["kilograms", "air", "density"] (defScope s_volume) := ⟨rfl, rfl, rfl, by decide +kernel, rfl, by decide +kernel, by decide +kernel⟩
abbrev s_kilograms_for : Stmt := top 3
theorem sc_kilograms_for : FnScope ["litres", "air", "density", "divisor"] ["litres", "air", "density"] (defScope s_kilograms_for) := ⟨rfl, rfl, rfl, by decide +kernel, rfl, by decide +kernel, by decide +kernel⟩
abbrev s_weighs_too_much : Stmt := top 4
theorem sc_weighs_too_much : FnScope ["millilitres", "grams", "density"] ["millilitres", "grams", "density"] (defScope s_weighs_too_much) := ⟨rfl, rfl, rfl, by decide +kernel, rfl, by decide +kernel, by decide +kernel⟩
abbrev s_cup_air : Stmt := top 5
theorem sc_cup_air : FnScope ["millilitres", "grams", "density"] ["millilitres", "grams", "density"] (defScope s_cup_air) := ⟨rfl, rfl, rfl, by decide +kernel, rfl, by decide +kernel, by decide +kernel⟩
abbrev s_cup_grams : Stmt := top 6
theorem sc_cup_grams : FnScope ["millilitres", "air", "density", "divisor"] ["millilitres", "air", "density"] (defScope s_cup_grams) := ⟨rfl, rfl, rfl, by decide +kernel, rfl, by decide +kernel, by decide +kernel⟩
abbrev s_weight : Stmt := top 8
theorem sc_weight : FnScope ["parts", "part"] ["parts"] (defScope s_weight) := ⟨rfl, rfl, rfl, by decide +kernel, rfl, by decide +kernel, by decide +kernel⟩
abbrev s_feed : Stmt := top 9
theorem sc_feed : FnScope ["parts", "flavour", "kilograms"] ["parts", "flavour", "kilograms"] (defScope s_feed) := ⟨rfl, rfl, rfl, by decide +kernel, rfl, by decide +kernel, by decide +kernel⟩
abbrev s_draw : Stmt := top 10
theorem sc_draw : FnScope ["parts", "kilograms", "came", "wanted", "flavour", "there", "taken"] ["parts", "kilograms"] (defScope s_draw) := ⟨rfl, rfl, rfl, by decide +kernel, rfl, by decide +kernel, by decide +kernel⟩
abbrev s_Freezer_init : Stmt := inClass (top 13) 0
theorem sc_Freezer_init : FnScope ["self", "holds", "power"] ["self", "holds", "power"] (defScope s_Freezer_init) := ⟨rfl, rfl, rfl, by decide +kernel, rfl, by decide +kernel, by decide +kernel⟩
abbrev s_Freezer_twin : Stmt := inClass (top 13) 1
theorem sc_Freezer_twin : FnScope ["self", "other"] ["self"] (defScope s_Freezer_twin) := ⟨rfl, rfl, rfl, by decide +kernel, rfl, by decide +kernel, by decide +kernel⟩
abbrev s_Freezer_has_nothing_else : Stmt := inClass (top 13) 2
theorem sc_Freezer_has_nothing_else : FnScope ["self", "part"] ["self"] (defScope s_Freezer_has_nothing_else) := ⟨rfl, rfl, rfl, by decide +kernel, rfl, by decide +kernel, by decide +kernel⟩
abbrev s_Freezer_pass_minute : Stmt := inClass (top 13) 3
theorem sc_Freezer_pass_minute : FnScope ["self", "density", "coldest", "came", "part"] ["self", "density", "coldest"] (defScope s_Freezer_pass_minute) := ⟨rfl, rfl, rfl, by decide +kernel, rfl, by decide +kernel, by decide +kernel⟩
abbrev s_Works_init : Stmt := inClass (top 14) 0
theorem sc_Works_init : FnScope ["self"] ["self"] (defScope s_Works_init) := ⟨rfl, rfl, rfl, by decide +kernel, rfl, by decide +kernel, by decide +kernel⟩
abbrev s_Works_start_anew : Stmt := inClass (top 14) 1
theorem sc_Works_start_anew : FnScope ["self", "density", "coldest"] ["self", "density", "coldest"] (defScope s_Works_start_anew) := ⟨rfl, rfl, rfl, by decide +kernel, rfl, by decide +kernel, by decide +kernel⟩
abbrev s_Works_let_pass : Stmt := inClass (top 14) 2
theorem sc_Works_let_pass : FnScope ["self", "freezers", "how_many", "freezer", "step"] ["self", "freezers", "how_many"] (defScope s_Works_let_pass) := ⟨rfl, rfl, rfl, by decide +kernel, rfl, by decide +kernel, by decide +kernel⟩
abbrev s_kilograms_out : Stmt := top 15
theorem sc_kilograms_out : FnScope ["freezers", "freezer"] ["freezers"] (defScope s_kilograms_out) := ⟨rfl, rfl, rfl, by decide +kernel, rfl, by decide +kernel, by decide +kernel⟩
abbrev s_millilitres_out : Stmt := top 16
theorem sc_millilitres_out : FnScope ["freezers", "freezer"] ["freezers"] (defScope s_millilitres_out) := ⟨rfl, rfl, rfl, by decide +kernel, rfl, by decide +kernel, by decide +kernel⟩
abbrev s_begin : Stmt := top 34
theorem sc_begin : FnScope ["works", "numbers", "density", "coldest"] ["works", "numbers"] (defScope s_begin) := ⟨rfl, rfl, rfl, by decide +kernel, rfl, by decide +kernel, by decide +kernel⟩
abbrev s_add_freezer : Stmt := top 35
theorem sc_add_freezer : FnScope ["works", "numbers", "holds", "power"] ["works", "numbers"] (defScope s_add_freezer) := ⟨rfl, rfl, rfl, by decide +kernel, rfl, by decide +kernel, by decide +kernel⟩
abbrev s_run : Stmt := top 36
theorem sc_run : FnScope ["works", "numbers", "freezer", "flavour", "rate", "air", "before"] ["works", "numbers"] (defScope s_run) := ⟨rfl, rfl, rfl, by decide +kernel, rfl, by decide +kernel, by decide +kernel⟩
abbrev s_stop : Stmt := top 37
theorem sc_stop : FnScope ["works", "numbers", "freezer", "flavour"] ["works", "numbers"] (defScope s_stop) := ⟨rfl, rfl, rfl, by decide +kernel, rfl, by decide +kernel, by decide +kernel⟩
abbrev s_thaw : Stmt := top 38
theorem sc_thaw : FnScope ["works", "numbers", "freezer"] ["works", "numbers"] (defScope s_thaw) := ⟨rfl, rfl, rfl, by decide +kernel, rfl, by decide +kernel, by decide +kernel⟩
abbrev s_minutes : Stmt := top 39
theorem sc_minutes : FnScope ["works", "numbers", "how_many", "kilograms", "millilitres"] ["works", "numbers"] (defScope s_minutes) := ⟨rfl, rfl, rfl, by decide +kernel, rfl, by decide +kernel, by decide +kernel⟩
abbrev s_cup : Stmt := top 40
theorem sc_cup : FnScope ["works", "numbers", "millilitres", "grams"] ["works", "numbers"] (defScope s_cup) := ⟨rfl, rfl, rfl, by decide +kernel, rfl, by decide +kernel, by decide +kernel⟩
abbrev s_cupfor : Stmt := top 41
theorem sc_cupfor : FnScope ["works", "numbers", "millilitres", "air"] ["works", "numbers"] (defScope s_cupfor) := ⟨rfl, rfl, rfl, by decide +kernel, rfl, by decide +kernel, by decide +kernel⟩
abbrev s_fastest : Stmt := top 42
theorem sc_fastest : FnScope ["works", "numbers", "freezer", "wanted", "rate", "tenths"] ["works", "numbers"] (defScope s_fastest) := ⟨rfl, rfl, rfl, by decide +kernel, rfl, by decide +kernel, by decide +kernel⟩
abbrev s_slowest : Stmt := top 43
theorem sc_slowest : FnScope ["works", "numbers", "freezer", "rate", "tenths"] ["works", "numbers"] (defScope s_slowest) := ⟨rfl, rfl, rfl, by decide +kernel, rfl, by decide +kernel, by decide +kernel⟩
abbrev s_cold : Stmt := top 44
theorem sc_cold : FnScope ["works", "numbers", "freezer", "rate", "tenths"] ["works", "numbers"] (defScope s_cold) := ⟨rfl, rfl, rfl, by decide +kernel, rfl, by decide +kernel, by decide +kernel⟩
abbrev s_flushed : Stmt := top 45
theorem sc_flushed : FnScope ["works", "numbers", "freezer", "twin", "minute"] ["works", "numbers"] (defScope s_flushed) := ⟨rfl, rfl, rfl, by decide +kernel, rfl, by decide +kernel, by decide +kernel⟩
abbrev s_until : Stmt := top 46
theorem sc_until : FnScope ["works", "numbers", "freezer", "flavour", "litres", "twin", "minute"] ["works", "numbers"] (defScope s_until) := ⟨rfl, rfl, rfl, by decide +kernel, rfl, by decide +kernel, by decide +kernel⟩
abbrev s_ahead : Stmt := top 47
theorem sc_ahead : FnScope ["works", "numbers", "how_many", "twins", "frozen", "freezer", "twin"] ["works", "numbers"] (defScope s_ahead) := ⟨rfl, rfl, rfl, by decide +kernel, rfl, by decide +kernel, by decide +kernel⟩
abbrev s_made : Stmt := top 48
theorem sc_made : FnScope ["works", "numbers", "flavour", "kilograms", "millilitres", "freezer"] ["works", "numbers"] (defScope s_made) := ⟨rfl, rfl, rfl, by decide +kernel, rfl, by decide +kernel, by decide +kernel⟩
abbrev s_yielded : Stmt := top 49
theorem sc_yielded : FnScope ["works", "numbers", "kilograms", "air"] ["works", "numbers"] (defScope s_yielded) := ⟨rfl, rfl, rfl, by decide +kernel, rfl, by decide +kernel, by decide +kernel⟩
abbrev s_need : Stmt := top 50
theorem sc_need : FnScope ["works", "numbers", "litres", "air"] ["works", "numbers"] (defScope s_need) := ⟨rfl, rfl, rfl, by decide +kernel, rfl, by decide +kernel, by decide +kernel⟩
abbrev s_show_barrel : Stmt := top 51
theorem sc_show_barrel : FnScope ["works", "numbers", "freezer", "answered", "part"] ["works", "numbers"] (defScope s_show_barrel) := ⟨rfl, rfl, rfl, by decide +kernel, rfl, by decide +kernel, by decide +kernel⟩
abbrev s_look : Stmt := top 52
theorem sc_look : FnScope ["works", "numbers", "freezer", "frozen"] ["works", "numbers"] (defScope s_look) := ⟨rfl, rfl, rfl, by decide +kernel, rfl, by decide +kernel, by decide +kernel⟩
abbrev s_sums : Stmt := top 53
theorem sc_sums : FnScope ["works", "numbers", "fed", "inside", "freezer"] ["works", "numbers"] (defScope s_sums) := ⟨rfl, rfl, rfl, by decide +kernel, rfl, by decide +kernel, by decide +kernel⟩
abbrev s_state : Stmt := top 54
theorem sc_state : FnScope ["works", "numbers"] ["works", "numbers"] (defScope s_state) := ⟨rfl, rfl, rfl, by decide +kernel, rfl, by decide +kernel, by decide +kernel⟩
abbrev s_numbers_of : Stmt := top 58
theorem sc_numbers_of : FnScope ["call"] ["call"] (defScope s_numbers_of) := ⟨rfl, rfl, rfl, by decide +kernel, rfl, by decide +kernel, by decide +kernel⟩
abbrev s_answer : Stmt := top 59
theorem sc_answer : FnScope ["works", "call", "numbers", "handler"] ["works", "call", "numbers"] (defScope s_answer) := ⟨rfl, rfl, rfl, by decide +kernel, rfl, by decide +kernel, by decide +kernel⟩
abbrev s_answers : Stmt := top 61
theorem sc_answers : FnScope ["calls", "works", "result", "place", "call", "end", "answered"] ["calls"] (defScope s_answers) := ⟨rfl, rfl, rfl, by decide +kernel, rfl, by decide +kernel, by decide +kernel⟩
end Fz
set_option Elab.async false
set_option linter.all false
set_option maxRecDepth 100000
set_option maxHeartbeats 2000000
namespace Fz
open PySem PySem.Spec PyProof.Rows L2
section
variable {P : Program} {w : World} {K : PySem.W.Frag} {mg : Str → Option Value} {base : Heap}
def sp_how_cold : Sp := fun vs H Q _ => ∃ p r : Nat, vs = [.int p, .int r] ∧ 0 < r ∧ r < 1073741824 ∧ Q (.int ((p / r : Nat) : Int)) H
theorem ok_how_cold {f : Addr} {fd : FuncData} (F : Fun K "how_cold" "how_cold" s_how_cold f fd) : FnOk P w K mg base CX0 1 f fd ["power", "rate"] sp_how_cold := by
  refine F.ok sc_how_cold (fun vs H Q E h => ?_) (fun cdv A outer s H vs Q E hr h => ?_)
  · obtain ⟨p, r, rfl, _⟩ := h
    rfl
  · obtain ⟨p, r, rfl, h1, h2, q⟩ := h
    refine ⟨_, (pss_one (ps_ret (pe_op op_fdiv (pv 0) (pv 1)))), ?_⟩
    refine ⟨_, rfl, _, rfl, _, _, rfl, rfl, ⟨by omega, by omega⟩, ?_⟩
    rw [Int.natCast_ediv] at q
    exact q
def sp_volume : Sp := fun vs H Q _ => ∃ k a d : Nat, vs = [.int k, .int a, .int d] ∧ a ≤ 1000 ∧ 0 < d ∧ d < 1073741824 ∧ Q (.int ((k * 10000 * (100 + a) / d : Nat) : Int)) H
theorem ok_volume {f : Addr} {fd : FuncData} (F : Fun K "volume" "volume" s_volume f fd) : FnOk P w K mg base CX0 1 f fd ["kilograms", "air", "density"] sp_volume := by
  refine F.ok sc_volume (fun vs H Q E h => ?_) (fun cdv A outer s H vs Q E hr h => ?_)
  · obtain ⟨k, a, d, rfl, _⟩ := h
    rfl
  · obtain ⟨k, a, d, rfl, h0, h1, h2, q⟩ := h
    refine ⟨_, (pss_one (ps_ret (pe_op op_fdiv (pe_op op_mul (pe_op op_mul (pv 0) pe_int) (pe_op op_add pe_int (pv 1))) (pv 2)))), ?_⟩
    refine ⟨_, rfl, _, _, rfl, rfl, .inr ⟨by decide, by decide⟩, _, rfl, _, _, rfl, rfl, _, _, rfl, rfl, .inr ⟨by omega, by omega⟩, _, rfl, _, _, rfl, rfl, ⟨by omega, by omega⟩, ?_⟩
    rw [Int.natCast_ediv, Int.natCast_mul, Int.natCast_mul, Int.natCast_add] at q
    exact q
def sp_weighs_too_much : Sp := fun vs H Q _ => ∃ v g d : Nat, vs = [.int v, .int g, .int d] ∧ v ≤ 10000 ∧ Q (.bl (decide (v * d < 1000 * g))) H
theorem ok_weighs_too_much {f : Addr} {fd : FuncData} (F : Fun K "weighs_too_much" "weighs_too_much" s_weighs_too_much f fd) : FnOk P w K mg base CX0 1 f fd ["millilitres", "grams", "density"] sp_weighs_too_much := by
  refine F.ok sc_weighs_too_much (fun vs H Q E h => ?_) (fun cdv A outer s H vs Q E hr h => ?_)
  · obtain ⟨k, a, d, rfl, _⟩ := h
    rfl
  · obtain ⟨v, g, d, rfl, h0, q⟩ := h
    refine ⟨_, (pss_one (ps_ret (pe_cmpR op_gt (pe_op op_mul pe_int (pv 1)) (pe_op op_mul (pv 0) (pv 2)) (nomark _)))), ?_⟩
    refine ⟨_, rfl, _, _, rfl, rfl, .inl ⟨by decide, by decide⟩, _, rfl, _, rfl, _, _, rfl, rfl, .inl ⟨by omega, by omega⟩, _, _, rfl, rfl, ?_⟩
    have e : decide ((v : Int) * (d : Int) < 1000 * (g : Int)) = decide (v * d < 1000 * g) := by
      apply decide_eq_decide.mpr
      rw [← Int.natCast_mul]
      omega
    rw [← e] at q
    exact q
def sp_cup_air : Sp := fun vs H Q _ => ∃ v g d : Nat, vs = [.int v, .int g, .int d] ∧ v ≤ 10000 ∧ 0 < g ∧ g ≤ 20000 ∧ 1000 * g ≤ v * d ∧ Q (.int (((v * d - 1000 * g) / (10 * g) : Nat) : Int)) H
theorem ok_cup_air {f : Addr} {fd : FuncData} (F : Fun K "cup_air" "cup_air" s_cup_air f fd) : FnOk P w K mg base CX0 1 f fd ["millilitres", "grams", "density"] sp_cup_air := by
  refine F.ok sc_cup_air (fun vs H Q E h => ?_) (fun cdv A outer s H vs Q E hr h => ?_)
  · obtain ⟨k, a, d, rfl, _⟩ := h
    rfl
  · obtain ⟨v, g, d, rfl, h0, h1, h2, h3, q⟩ := h
    refine ⟨_, (pss_one (ps_ret (pe_op op_fdiv (pe_op op_sub (pe_op op_mul (pv 0) (pv 2)) (pe_op op_mul pe_int (pv 1))) (pe_op op_mul pe_int (pv 1))))), ?_⟩
    refine ⟨_, rfl, _, rfl, _, _, rfl, rfl, .inl ⟨by omega, by omega⟩, _, rfl, _, _, rfl, rfl, .inl ⟨by decide, by decide⟩, _, _, rfl, rfl, _, rfl, _, _, rfl, rfl, .inl ⟨by decide, by decide⟩, _, _, rfl, rfl, ⟨by omega, by omega⟩, ?_⟩
    rw [Int.natCast_ediv, Int.natCast_sub h3, Int.natCast_mul, Int.natCast_mul, Int.natCast_mul] at q
    exact q
def sp_cup_grams : Sp := fun vs H Q _ => ∃ v a d : Nat, vs = [.int v, .int a, .int d] ∧ v ≤ 10000 ∧ a ≤ 200 ∧ Q (.int (((v * d + (1000 + 10 * a) - 1) / (1000 + 10 * a) : Nat) : Int)) H
theorem ok_cup_grams {f : Addr} {fd : FuncData} (F : Fun K "cup_grams" "cup_grams" s_cup_grams f fd) : FnOk P w K mg base CX0 1 f fd ["millilitres", "air", "density"] sp_cup_grams := by
  have nd := sc_cup_grams.nd
  refine F.ok sc_cup_grams (fun vs H Q E h => ?_) (fun cdv A outer s H vs Q E hr h => ?_)
  · obtain ⟨k, a, d, rfl, _⟩ := h
    rfl
  · obtain ⟨v, a, d, rfl, h0, h1, q⟩ := h
    refine ⟨_, (pss_cons (ps_set (i := 3) nd rfl (Or.inl rfl) (pe_op op_add pe_int (pe_op op_mul pe_int (pv 1)))) (pss_one (ps_ret (pe_op op_fdiv (pe_op op_sub (pe_op op_add (pe_op op_mul (pv 0) (pv 2)) (pv 3)) pe_int) (pv 3))))), ?_⟩
    refine ⟨_, rfl, _, _, rfl, rfl, .inl ⟨by decide, by decide⟩, _, _, rfl, rfl, ?_⟩
    refine ⟨_, rfl, _, rfl, _, _, rfl, rfl, .inl ⟨by omega, by omega⟩, _, rfl, _, _, rfl, rfl, _, _, rfl, rfl, _, rfl, _, _, rfl, rfl, ⟨by omega, by omega⟩, ?_⟩
    rw [Int.natCast_ediv, Int.natCast_sub (by omega), Int.natCast_add, Int.natCast_mul, Int.natCast_add, Int.natCast_mul] at q
    exact q
def sp_kilograms_for : Sp := fun vs H Q _ => ∃ n a d : Nat, vs = [.int n, .int a, .int d] ∧ n ≤ 100000 ∧ a ≤ 200 ∧ d ≤ 1200 ∧ Q (.int (((n * d + 10 * (100 + a) - 1) / (10 * (100 + a)) : Nat) : Int)) H
theorem ok_kilograms_for {f : Addr} {fd : FuncData} (F : Fun K "kilograms_for" "kilograms_for" s_kilograms_for f fd) : FnOk P w K mg base CX0 1 f fd ["litres", "air", "density"] sp_kilograms_for := by
  have nd := sc_kilograms_for.nd
  refine F.ok sc_kilograms_for (fun vs H Q E h => ?_) (fun cdv A outer s H vs Q E hr h => ?_)
  · obtain ⟨k, a, d, rfl, _⟩ := h
    rfl
  · obtain ⟨v, a, d, rfl, h0, h1, h2, q⟩ := h
    refine ⟨_, (pss_cons (ps_set (i := 3) nd rfl (Or.inl rfl) (pe_op op_mul pe_int (pe_op op_add pe_int (pv 1)))) (pss_one (ps_ret (pe_op op_fdiv (pe_op op_sub (pe_op op_add (pe_op op_mul (pv 0) (pv 2)) (pv 3)) pe_int) (pv 3))))), ?_⟩
    refine ⟨_, rfl, _, _, rfl, rfl, _, _, rfl, rfl, .inl ⟨by decide, by decide⟩, ?_⟩
    refine ⟨_, rfl, _, rfl, _, _, rfl, rfl, .inr ⟨by omega, by omega⟩, _, rfl, _, _, rfl, rfl, _, _, rfl, rfl, _, rfl, _, _, rfl, rfl, ⟨by omega, by omega⟩, ?_⟩
    rw [Int.natCast_ediv, Int.natCast_sub (by omega), Int.natCast_add, Int.natCast_mul, Int.natCast_mul, Int.natCast_add] at q
    exact q
end
end Fz
set_option Elab.async false
set_option linter.all false
set_option maxRecDepth 100000
set_option maxHeartbeats 2000000
namespace Fz
open PySem PySem.Spec PyProof.Rows L2
theorem getElem_map {α β : Type} {f : α → β} {l : List α} {i : Nat} {y : β} (h : (l.map f)[i]? = some y) : ∃ x, l[i]? = some x ∧ y = f x := by
  rw [List.getElem?_map] at h
  cases e : l[i]? with
  | none =>
    rw [e] at h
    cases h
  | some x =>
    rw [e] at h
    exact ⟨x, rfl, (Option.some.inj h).symm⟩
theorem take_snoc {α : Type} : ∀ {l : List α} {i : Nat} {x : α}, l[i]? = some x → l.take (i + 1) = l.take i ++ [x]
  | [], i, x, h => by simp at h
  | a :: l, 0, x, h => by
    have e : a = x := Option.some.inj h
    subst e
    rfl
  | a :: l, i + 1, x, h => by
    have ih := take_snoc (l := l) (i := i) (x := x) h
    show a :: l.take (i + 1) = a :: l.take i ++ [x]
    rw [ih]
    rfl
theorem sum_level : ∀ ps : List (Nat × Nat), (ps.map fun p => (p.2 : Int)).sum = (Su72.level ps : Int)
  | [] => rfl
  | p :: ps => by
    rw [List.map_cons, List.sum_cons, sum_level ps, level_cons, Int.natCast_add]
structure Blt (mg : Str → Option Value) : Prop where
  n_len : mg "len" = none
  n_sum : mg "sum" = none
  n_min : mg "min" = none
  n_range : mg "range" = none
  n_list : mg "list" = none
  n_all : mg "all" = none
section
variable {P : Program} {w : World} {K : PySem.W.Frag} {mg : Str → Option Value} {base : Heap}
def sp_weight : Sp := fun vs H Q _ => ∃ (l : Addr) (ps : List (Nat × Nat)), vs = [.ref l] ∧ PartsAt H l ps ∧ ps.length ≤ 10000 ∧ ∀ H', Same H H' → Q (.int (Su72.level ps : Nat)) H'
theorem ok_weight {f : Addr} {fd : FuncData} (F : Fun K "weight" "weight" s_weight f fd) (T : Blt mg) : FnOk P w K mg base CX0 1 f fd ["parts"] sp_weight := by
  have nd := sc_weight.nd
  refine F.ok sc_weight (fun vs H Q E h => ?_) (fun cdv A outer s H vs Q E hr h => ?_)
  · obtain ⟨l, ps, rfl, _⟩ := h
    rfl
  · obtain ⟨l, ps, rfl, ⟨ts, h1, h2⟩, hz, q⟩ := h
    refine ⟨_, (pss_one (ps_ret (pe_callB (cr_sum rfl) rfl T.n_sum b_sum (pa_cons (pe_lc (own := [("part", 1)]) rfl nd (pi_list (pv 0)) (blkOk_by (by rfl)) (fun _ _ _ _ _ => (pg_name (i := 1) nd rfl (Or.inl rfl))) (fun _ _ _ _ _ => pts_nil) (fun _ _ _ _ _ => (pe_ixK (K := K) rfl (pv 1) pe_int (fun _ _ => rfl)))) pa_nil)))), ?_⟩
    refine ⟨_, rfl, l, rfl, ⟨_, SqL.of h1⟩, fun D hD => lc_list (K := K) (a := l) (xs := ts.map V.ref) (fun i H' => H' D = some (.lst ((ps.take i).map fun p => V.int (p.2 : Int))) ∧ Same H H') ⟨upd_same, same_new hD⟩ (fun i H' _ ⟨_, s5⟩ => SqL.of (s5 _ _ h1)) ?_ ?_⟩
    · rintro i x H' hx ⟨hD', s5⟩
      obtain ⟨t, ht, rfl⟩ := getElem_map hx
      obtain ⟨p, hp, hH⟩ := h2.at ht
      refine ⟨rfl, lc_yes ?_⟩
      refine ⟨_, rfl, .inr (.inl ⟨t, _, 1, .int (p.2 : Int), rfl, rfl, SqT.of (s5 _ _ hH), rfl, _, hD', ?_, ?_, ?_⟩)⟩
      · rw [List.length_map, List.length_take]
        exact Nat.lt_of_le_of_lt (Nat.min_le_right _ _) (Nat.lt_of_le_of_lt hz (by decide))
      · rw [upd_same, take_snoc hp, List.map_append]
        rfl
      · intro b o e
        rw [upd_ne (ne_of_none e hD)]
        exact s5 _ _ e
    · rintro H' ⟨hD', s5⟩
      refine ⟨D, ps.map (fun p => (p.2 : Int)), rfl, SqL.of ?_, ?_⟩
      · rw [hD', List.length_map, h2.len, List.take_length, List.map_map]
        rfl
      · rw [sum_level]
        exact q H' s5
def sp_feed : Sp := fun vs H Q _ => ∃ (l : Addr) (ps : List (Nat × Nat)) (v k : Nat), vs = [.ref l, .int v, .int k] ∧ PartsAt H l ps ∧ ps.length ≤ 10000 ∧ ∀ H', PartsAt H' l (Su72.push ps (v, k)) → Keep (fun b => b = l) H H' → Q .non H'
theorem ok_feed {f : Addr} {fd : FuncData} (F : Fun K "feed" "feed" s_feed f fd) (T : Blt mg) : FnOk P w K mg base CX0 1 f fd ["parts", "flavour", "kilograms"] sp_feed := by
  have nd := sc_feed.nd
  refine F.ok sc_feed (fun vs H Q E h => ?_) (fun cdv A outer s H vs Q E hr h => ?_)
  · obtain ⟨l, ps, v, k, rfl, _⟩ := h
    rfl
  · obtain ⟨l, ps, v, k, rfl, ⟨ts, h1, h2⟩, hz, q⟩ := h
    refine ⟨_, (pss_one (ps_if (PW.pt (pw_and (pt_truth (pv 0) (fun _ => rfl)) (pw_and1 (pt_cmpR op_eq (pe_ix ix_seq (pe_ix ix_seq (pv 0) (pe_un un_neg pe_int) (fun _ _ => rfl)) pe_int (fun _ _ => rfl)) (pv 1) (nomark _))))) (pss_one (ps_asg (pe_tup (pa_cons (pv 1) (pa_cons (pe_op op_add (pe_ix ix_seq (pe_ix ix_seq (pv 0) (pe_un un_neg pe_int) (fun _ _ => rfl)) pe_int (fun _ _ => rfl)) (pv 2)) pa_nil))) (pg_sub (pv 0) (pe_un un_neg pe_int) set_list))) (pss_one (ps_expr (pe_bm PySem.F.plainAttrs_list PySem.F.slot_list_append PySem.F.type_list_append mt_append (pv 0) (pa_cons (pe_tup (pa_cons (pv 1) (pa_cons (pv 2) pa_nil))) pa_nil)))))), ?_⟩
    -- behind the else: a new part at the end
    have app : ∀ p, H p = none → PartsAt (upd (upd H p (.tup (pairV (v, k)))) l (.lst (ts.map V.ref ++ [.ref p]))) l (ps ++ [(v, k)]) ∧ Keep (fun b => b = l) H (upd (upd H p (.tup (pairV (v, k)))) l (.lst (ts.map V.ref ++ [.ref p]))) := by
      intro p hp
      have npl : p ≠ l := fun e => by rw [e, h1] at hp; cases hp
      refine ⟨.mk' (ts := ts ++ [p]) (by rw [upd_same, map_snoc]) ?_, fun b o e n => ?_⟩
      · refine (h2.imp fun t xs e => ?_).append (.one ?_)
        · rw [upd_ne (tup_ne_lst e h1), upd_ne (ne_of_none e hp)]
          exact e
        · rw [upd_ne npl, upd_same]
      · rw [upd_ne n, upd_ne (ne_of_none e hp)]
        exact e
    have npp : ∀ {p : Addr} {o : HO}, H p = none → upd H p o l = some (.lst (ts.map V.ref)) := fun {p o} hp => by
      rw [upd_ne (fun e => by rw [← e, h1] at hp; cases hp)]
      exact h1
    have hl : (ts.map V.ref).length < sizeLine := by
      rw [List.length_map, h2.len]
      exact Nat.lt_of_le_of_lt hz (by decide)
    rcases snoc_cases ps with rfl | ⟨m, y, rfl⟩
    · have e : ts = [] := List.eq_nil_of_length_eq_zero h2.len
      subst e
      refine ⟨_, rfl, false, .inl ⟨_, SqL.of h1, rfl⟩, ?_⟩
      refine iteF (iteF ?_)
      refine ⟨_, rfl, .inl ⟨rfl, _, SqL.of h1⟩, _, rfl, _, rfl, by show 2 ≤ sizeLine; decide, fun p hp => ⟨l, _, _, rfl, rfl, npp hp, hl, ?_⟩⟩
      exact q _ (app p hp).1 (app p hp).2
    · obtain ⟨us, t, rfl, h3, h4⟩ := h2.snoc
      have e1 : (us ++ [t]).map V.ref = us.map V.ref ++ [.ref t] := map_snoc _ _ _
      have hat : atI ((us ++ [t]).map V.ref) (-1) = some (.ref t) := by
        rw [e1]
        exact atI_last _ _
      refine ⟨_, rfl, true, .inl ⟨_, SqL.of h1, by rw [e1]; simp⟩, ?_⟩
      refine iteT ?_
      refine ⟨_, rfl, _, rfl, .inl ⟨l, _, _, _, rfl, rfl, SqL.of h1, hat, .inr (.inl ⟨t, _, _, _, rfl, rfl, SqT.of h4, rfl, ?_⟩)⟩⟩
      refine ⟨_, rfl, rfl, _, rfl, ?_⟩
      have hix : ixN ((us ++ [t]).map V.ref).length (-1) = some us.length := by
        rw [e1]
        unfold ixN
        rw [List.length_append, List.length_map, if_neg (by decide), if_pos (by simp; omega)]
        congr 1
        simp
        omega
      refine ite2 (fun e => ?_) (fun e => ?_)
      · have ev : y.1 = v := by
          have z := of_decide_eq_true e
          injection z with z
          omega
        refine ⟨_, rfl, _, rfl, _, rfl, .inl ⟨l, _, _, _, rfl, rfl, SqL.of h1, hat, .inr (.inl ⟨t, _, _, _, rfl, rfl, SqT.of h4, rfl, ?_⟩)⟩⟩
        refine ⟨_, rfl, _, _, rfl, rfl, by show 2 ≤ sizeLine; decide, fun p hp => ?_⟩
        refine ⟨_, rfl, _, rfl, l, _, _, _, rfl, rfl, npp hp, hix, ?_⟩
        have npl : p ≠ l := fun e => by rw [e, h1] at hp; cases hp
        have e2 : ((us ++ [t]).map V.ref).set us.length (.ref p) = (us ++ [p]).map V.ref := by
          rw [e1, map_snoc, List.set_append_right _ _ (by rw [List.length_map]; exact Nat.le_refl _), List.length_map, Nat.sub_self]
          rfl
        refine q _ (.mk' (ts := us ++ [p]) (by rw [upd_same, e2]) ?_) fun b o e n => ?_
        · rw [push_snoc, if_pos ev]
          refine (h3.imp fun t xs e => ?_).append (.one ?_)
          · rw [upd_ne (tup_ne_lst e h1), upd_ne (ne_of_none e hp)]
            exact e
          · rw [upd_ne npl, upd_same]
            show some (HO.tup [V.int v, V.int ((y.2 : Int) + (k : Int))]) = some (HO.tup [V.int v, V.int ((y.2 + k : Nat) : Int)])
            rw [Int.natCast_add]
        · rw [upd_ne n, upd_ne (ne_of_none e hp)]
          exact e
      · have ev : ¬ y.1 = v := fun z => e (decide_eq_true (by rw [z]))
        refine ⟨_, rfl, .inl ⟨rfl, _, SqL.of h1⟩, _, rfl, _, rfl, by show 2 ≤ sizeLine; decide, fun p hp => ⟨l, _, _, rfl, rfl, npp hp, hl, ?_⟩⟩
        have a := app p hp
        refine q _ ?_ a.2
        rw [push_snoc, if_neg ev]
        exact a.1
def sp_draw : Sp := fun vs H Q _ => ∃ (l : Addr) (ps : List (Nat × Nat)) (z : Int), vs = [.ref l, .int z] ∧ PartsAt H l ps ∧ Parts ps ∧ z.toNat ≤ Su72.level ps ∧ Su72.level ps ≤ 10000 ∧
  ∀ (H' : Hp) (c : Addr), H c = none → PartsAt H' l (Su72.draw z.toNat ps).2 → PartsAt H' c (Su72.draw z.toNat ps).1 → Keep (fun b => b = l) H H' → Q (.ref c) H'
structure DrawI (H : Hp) (l c : Addr) (ps : List (Nat × Nat)) (n : Nat) (w : Int) (rs gs : List (Nat × Nat)) (H1 : Hp) : Prop where
  at_ : PartsAt H1 l rs
  got : PartsAt H1 c gs
  pos : Parts rs
  le : w.toNat ≤ Su72.level rs
  eq : Su72.draw n ps = (gs ++ (Su72.draw w.toNat rs).1, (Su72.draw w.toNat rs).2)
  few : gs.length + w.toNat ≤ n
  kp : Keep (fun b => b = l) H H1
def mu3 : L2.St → Hp → Nat := fun σ _ => match σ[3]? with
  | some (some (V.int w)) => w.toNat
  | _ => 0
theorem ix0 (n : Nat) : ixN (n + 1) 0 = some 0 := by
  unfold ixN
  rw [if_pos (by decide), if_pos (by omega)]
  rfl
theorem sq0 (n : Nat) : seqIndex? 0 (n + 1) = some 0 := (ixN_seq (ix0 n)).1
theorem draw_all {w : Nat} {x : Nat × Nat} {l : List (Nat × Nat)} (h0 : w ≠ 0) (h : x.2 ≤ w) : Su72.draw w (x :: l) = (x :: (Su72.draw (w - x.2) l).1, (Su72.draw (w - x.2) l).2) := by
  rw [Su72.draw, if_neg h0, if_neg (by omega)]
theorem draw_part {w : Nat} {x : Nat × Nat} {l : List (Nat × Nat)} (h0 : w ≠ 0) (h : w < x.2) : Su72.draw w (x :: l) = ([(x.1, w)], (x.1, x.2 - w) :: l) := by
  rw [Su72.draw, if_neg h0, if_pos h]
theorem ok_draw {f : Addr} {fd : FuncData} (F : Fun K "draw" "draw" s_draw f fd) (T : Blt mg) : FnOk P w K mg base CX0 1 f fd ["parts", "kilograms"] sp_draw := by
  have nd := sc_draw.nd
  refine F.ok sc_draw (fun vs H Q E h => ?_) (fun cdv A outer s H vs Q E hr h => ?_)
  · obtain ⟨l, ps, z, rfl, _⟩ := h
    rfl
  · obtain ⟨l, ps, z, rfl, P0, hpos, hz, hlev, q⟩ := h
    refine ⟨_, (pss_cons (ps_set (i := 2) nd rfl (Or.inl rfl) (pe_lst pa_nil)) (pss_cons (ps_set (i := 3) nd rfl (Or.inl rfl) (pv 1)) (pss_cons (ps_while PassesOwn.never (pt_cmpR op_gt (pv 3) pe_int (nomark _)) (pss_cons (ps_set (i := 4) nd rfl (Or.inl rfl) (pe_ix ix_seq (pe_ix ix_seq (pv 0) pe_int (fun _ _ => rfl)) pe_int (fun _ _ => rfl))) (pss_cons (ps_set (i := 5) nd rfl (Or.inl rfl) (pe_ix ix_seq (pe_ix ix_seq (pv 0) pe_int (fun _ _ => rfl)) pe_int (fun _ _ => rfl))) (pss_cons (ps_set (i := 6) nd rfl (Or.inl rfl) (pe_callB (call_min2 rfl) rfl T.n_min b_min (pa_cons (pv 5) (pa_cons (pv 3) pa_nil)))) (pss_cons (ps_if (pt_cmpR op_eq (pv 6) (pv 5) (nomark _)) (pss_one (ps_expr (pe_bm PySem.F.plainAttrs_list PySem.F.slot_list_pop PySem.F.type_list_pop mt_popAt (pv 0) (pa_cons pe_int pa_nil)))) (pss_one (ps_asg (pe_tup (pa_cons (pv 4) (pa_cons (pe_op op_sub (pv 5) (pv 6)) pa_nil))) (pg_sub (pv 0) pe_int set_list)))) (pss_cons (ps_expr (pe_bm PySem.F.plainAttrs_list PySem.F.slot_list_append PySem.F.type_list_append mt_append (pv 2) (pa_cons (pe_tup (pa_cons (pv 4) (pa_cons (pv 6) pa_nil))) pa_nil))) (pss_one (ps_aug (i := 3) nd rfl (Or.inl rfl) (pv 6) ip_sub)))))))) (pss_one (ps_ret (pv 2)))))), ?_⟩
    refine ⟨Nat.zero_le _, fun c hc => ⟨_, rfl, ?_⟩⟩
    have s0 : Same H (upd H c (.lst [])) := same_new hc
    refine while_by (fun σ H1 => ∃ (w : Int) (rs gs : List (Nat × Nat)) (v4 v5 v6 : Option V), σ = [some (.ref l), some (.int z), some (.ref c), some (.int w), v4, v5, v6] ∧ DrawI H l c ps z.toNat w rs gs H1) mu3 ?_ ?_ ?_
    · refine ⟨z, ps, [], none, none, none, rfl, P0.keep (S := fun _ => False) (Same.keep s0) (fun z => z) (fun _ _ _ z => z), .mk' (ts := []) upd_same .nil, hpos, hz, rfl, by simp, Same.keep s0⟩
    · rintro σ H1 ⟨w, rs, gs, v4, v5, v6, rfl, I⟩
      refine ⟨_, rfl, _, _, rfl, rfl, _, rfl, ?_⟩
      refine ite2 (fun e => ?_) (fun e => ?_)
      · have hw : 0 < w := of_decide_eq_true e
        obtain ⟨ts, h1, h2⟩ := I.at_.ex
        obtain ⟨cs, h3, h4⟩ := I.got.ex
        match rs, ts, h1, h2, I with
        | [], _, _, _, I => exact absurd I.le (by rw [level_nil]; omega)
        | x :: rs, [], _, h2, I => exact h2.elim
        | x :: rs, t :: ts, h1, h2, I =>
          refine ⟨_, rfl, .inl ⟨l, _, _, .ref t, rfl, rfl, SqL.of h1, at_of (j := 0) rfl rfl, .inr (.inl ⟨t, _, _, _, rfl, rfl, SqT.of h2.1, rfl, ?_⟩)⟩⟩
          refine ⟨_, rfl, .inl ⟨l, _, _, .ref t, rfl, rfl, SqL.of h1, at_of (j := 0) rfl rfl, .inr (.inl ⟨t, _, _, _, rfl, rfl, SqT.of h2.1, rfl, ?_⟩)⟩⟩
          refine ⟨_, rfl, _, rfl, _, _, rfl, ?_⟩
          refine ⟨_, rfl, _, rfl, rfl, _, rfl, ?_⟩
          have hcl : c ≠ l := fun z => by rw [z] at hc; obtain ⟨us, e1, _⟩ := P0.ex; rw [e1] at hc; cases hc
          have hx1 : 1 ≤ x.2 := I.pos.head.1
          have hlc : (cs.map V.ref).length < sizeLine := by
            rw [List.length_map, h4.len]
            have z1 := I.few
            exact Nat.lt_of_le_of_lt (show gs.length ≤ 10000 by omega) (by decide)
          have hc1 : ∀ b o, H b = some o → b ≠ c := fun b o e z => by rw [z, hc] at e; cases e
          by_cases hlt : w < (x.2 : Int)
          · rw [if_pos hlt]
            have hne : ¬ (V.int w = V.int (x.2 : Int)) := fun z => by injection z with z; omega
            rw [decide_eq_false hne]
            refine iteF ?_
            refine ⟨_, rfl, _, rfl, _, rfl, _, _, rfl, rfl, by show 2 ≤ sizeLine; decide, fun p hp => ?_⟩
            have npl : p ≠ l := fun z => by rw [z, h1] at hp; cases hp
            have npc : p ≠ c := fun z => by rw [z, h3] at hp; cases hp
            refine ⟨_, rfl, l, _, _, 0, rfl, rfl, by rw [upd_ne npl.symm]; exact h1, by rw [List.length_map, List.length_cons]; exact ix0 _, ?_⟩
            refine ⟨_, rfl, .inl ⟨rfl, _, SqL.of (by rw [upd_ne hcl, upd_ne npc.symm]; exact h3)⟩, _, rfl, _, rfl, by show 2 ≤ sizeLine; decide, fun p2 hp2 => ?_⟩
            have n2l : p2 ≠ l := fun z => by rw [z, upd_same] at hp2; cases hp2
            have n2p : p2 ≠ p := fun z => by rw [z, upd_ne npl, upd_same] at hp2; cases hp2
            have n2c : p2 ≠ c := fun z => by rw [z, upd_ne hcl, upd_ne npc.symm, h3] at hp2; cases hp2
            refine ⟨c, _, _, rfl, rfl, by rw [upd_ne n2c.symm, upd_ne hcl, upd_ne npc.symm]; exact h3, hlc, _, rfl, _, rfl, _, _, rfl, rfl, ?_⟩
            have kp5 : ∀ b o, H1 b = some o → b ≠ l → b ≠ c → upd (upd (upd (upd H1 p (.tup [.int x.1, .int ((x.2 : Int) - w)])) l (.lst (((t :: ts).map V.ref).set 0 (.ref p)))) p2 (.tup [.int x.1, .int w])) c (.lst (cs.map V.ref ++ [.ref p2])) b = some o := fun b o e a1 a2 => by
              have a3 : b ≠ p := ne_of_none e hp
              have a4 : b ≠ p2 := fun z => by rw [z] at e; rw [upd_ne n2l, upd_ne n2p, e] at hp2; cases hp2
              rw [upd_ne a2, upd_ne a4, upd_ne a1, upd_ne a3]
              exact e
            have ed : Su72.draw w.toNat (x :: rs) = ([(x.1, w.toNat)], (x.1, x.2 - w.toNat) :: rs) := draw_part (by omega) (by omega)
            refine ⟨⟨w - w, (x.1, x.2 - w.toNat) :: rs, gs ++ [(x.1, w.toNat)], _, _, _, rfl, ?_, ?_, ?_, ?_, ?_, ?_, ?_⟩, ?_⟩
            · refine .mk' (ts := p :: ts) ?_ ⟨?_, ?_⟩
              · rw [upd_ne hcl.symm, upd_ne n2l.symm, upd_same]
                rfl
              · rw [upd_ne npc, upd_ne n2p.symm, upd_ne npl, upd_same]
                have e9 : ((x.2 - w.toNat : Nat) : Int) = (x.2 : Int) - w := by omega
                show some (HO.tup [V.int x.1, V.int ((x.2 : Int) - w)]) = some (HO.tup [V.int x.1, V.int ((x.2 - w.toNat : Nat) : Int)])
                rw [e9]
              · exact h2.2.imp fun t xs e => kp5 t _ e (tup_ne_lst e h1) (tup_ne_lst e h3)
            · refine .mk' (ts := cs ++ [p2]) (by rw [upd_same, map_snoc]) ((h4.imp fun t xs e => kp5 t _ e (tup_ne_lst e h1) (tup_ne_lst e h3)).append (.one ?_))
              rw [upd_ne n2c, upd_same]
              have e9 : ((w.toNat : Nat) : Int) = w := by omega
              show some (HO.tup [V.int x.1, V.int w]) = some (HO.tup [V.int x.1, V.int ((w.toNat : Nat) : Int)])
              rw [e9]
            · exact .cons ⟨by show 1 ≤ x.2 - w.toNat; omega, I.pos.head.2⟩ I.pos.tail
            · show (w - w).toNat ≤ _
              rw [Int.sub_self]
              exact Nat.zero_le _
            · rw [I.eq, ed, Int.sub_self]
              show (gs ++ [(x.1, w.toNat)], (x.1, x.2 - w.toNat) :: rs) = (gs ++ [(x.1, w.toNat)] ++ (Su72.draw 0 _).1, (Su72.draw 0 _).2)
              rw [draw_zero, List.append_nil]
            · have z1 := I.few
              rw [List.length_append, Int.sub_self]
              show gs.length + 1 + 0 ≤ _
              omega
            · exact fun b o e n => kp5 b o (I.kp b o e n) n (hc1 b o e)
            · show (w - w).toNat < w.toNat
              omega
          · rw [if_neg hlt]
            rw [decide_eq_true (show V.int (x.2 : Int) = V.int (x.2 : Int) from rfl)]
            refine iteT ?_
            refine ⟨_, rfl, .inl ⟨rfl, _, SqL.of h1⟩, l, _, 0, 0, .ref t, rfl, rfl, h1, by decide, by decide, by rw [List.length_map, List.length_cons]; exact sq0 _, rfl, ?_⟩
            refine ⟨_, rfl, .inl ⟨rfl, _, SqL.of (by rw [upd_ne hcl]; exact h3)⟩, _, rfl, _, rfl, by show 2 ≤ sizeLine; decide, fun p2 hp2 => ?_⟩
            have n2l : p2 ≠ l := fun z => by rw [z, upd_same] at hp2; cases hp2
            have n2c : p2 ≠ c := fun z => by rw [z, upd_ne hcl, h3] at hp2; cases hp2
            refine ⟨c, _, _, rfl, rfl, by rw [upd_ne n2c.symm, upd_ne hcl]; exact h3, hlc, _, rfl, _, rfl, _, _, rfl, rfl, ?_⟩
            have kp5 : ∀ b o, H1 b = some o → b ≠ l → b ≠ c → upd (upd (upd H1 l (.lst (((t :: ts).map V.ref).eraseIdx 0))) p2 (.tup [.int x.1, .int x.2])) c (.lst (cs.map V.ref ++ [.ref p2])) b = some o := fun b o e a1 a2 => by
              have a4 : b ≠ p2 := fun z => by rw [z] at e; rw [upd_ne n2l, e] at hp2; cases hp2
              rw [upd_ne a2, upd_ne a4, upd_ne a1]
              exact e
            have ed : Su72.draw w.toNat (x :: rs) = (x :: (Su72.draw (w.toNat - x.2) rs).1, (Su72.draw (w.toNat - x.2) rs).2) := draw_all (by omega) (by omega)
            have e8 : (w - (x.2 : Int)).toNat = w.toNat - x.2 := by omega
            have hle := I.le
            rw [level_cons] at hle
            refine ⟨⟨w - (x.2 : Int), rs, gs ++ [x], _, _, _, rfl, ?_, ?_, ?_, ?_, ?_, ?_, ?_⟩, ?_⟩
            · refine .mk' (ts := ts) ?_ ?_
              · rw [upd_ne hcl.symm, upd_ne n2l.symm, upd_same]
                rfl
              · exact h2.2.imp fun t xs e => kp5 t _ e (tup_ne_lst e h1) (tup_ne_lst e h3)
            · refine .mk' (ts := cs ++ [p2]) (by rw [upd_same, map_snoc]) ((h4.imp fun t xs e => kp5 t _ e (tup_ne_lst e h1) (tup_ne_lst e h3)).append (.one ?_))
              rw [upd_ne n2c, upd_same]
              rfl
            · exact I.pos.tail
            · rw [e8]
              omega
            · rw [I.eq, ed, e8, List.append_assoc]
              rfl
            · have z1 := I.few
              rw [List.length_append, e8]
              show gs.length + 1 + _ ≤ _
              omega
            · exact fun b o e n => kp5 b o (I.kp b o e n) n (hc1 b o e)
            · show (w - (x.2 : Int)).toNat < w.toNat
              omega
      · have hw : ¬ 0 < w := fun z => e (decide_eq_true z)
        refine ⟨_, rfl, ?_⟩
        have e0 : w.toNat = 0 := by omega
        have e1 := I.eq
        rw [e0, draw_zero, List.append_nil] at e1
        refine q H1 c hc ?_ ?_ I.kp
        · rw [e1]
          exact I.at_
        · rw [e1]
          exact I.got
    · rintro σ H1 Q1 Q2 k ⟨v, e, i, j, e1, e2, b, e3, q⟩
      exact ⟨v, e, i, j, e1, e2, b, e3, k _ _ q⟩
end
end Fz
set_option Elab.async false
set_option linter.all false
set_option maxRecDepth 100000
set_option maxHeartbeats 2000000
namespace Fz
open PySem PySem.Spec PyProof.Rows L2
def natsV (ks : List Nat) : List V := ks.map fun (k : Nat) => V.int (k : Int)
structure Loc where
  p : Addr
  k : Addr
  m : Addr
def Loc.Has (l : Loc) (b : Addr) : Prop := b = l.p ∨ b = l.k ∨ b = l.m
def fzF (x : Su72.Freezer) (l : Loc) : List (Str × V) := [("holds", .int x.hold), ("power", .int x.power), ("fed_with", .int x.feed), ("rate", .int x.rate), ("air", .int x.over), ("frozen", .bl x.stuck), ("parts", .ref l.p), ("total_fed", .int x.fed), ("kilograms", .ref l.k), ("millilitres", .ref l.m)]
def wkF (b : Bool) (d c m : Nat) (L : Addr) : List (Str × V) := [("begun", .bl b), ("density", .int d), ("coldest", .int c), ("minute", .int m), ("freezers", .ref L)]
structure FzAt (C : Addr) (H : Hp) (a : Addr) (l : Loc) (x : Su72.Freezer) : Prop where
  ins : ∃ dx, H a = some (.ins C dx (fzF x l))
  parts : PartsAt H l.p x.barrel
  kg : H l.k = some (.lst (natsV x.kg))
  ml : H l.m = some (.lst (natsV x.ml))
  pk : l.p ≠ l.k
  pm : l.p ≠ l.m
  km : l.k ≠ l.m
theorem FzAt.keep {C : Addr} {S : Addr → Prop} {H H' : Hp} {a : Addr} {l : Loc} {x : Su72.Freezer} (F : FzAt C H a l x) (k : Keep S H H') (ha : ¬ S a) (hl : ∀ b, l.Has b → ¬ S b) (hS : ∀ t xs, H t = some (.tup xs) → ¬ S t) : FzAt C H' a l x := by
  obtain ⟨dx, e⟩ := F.ins
  exact ⟨⟨dx, k _ _ e ha⟩, F.parts.keep k (hl _ (.inl rfl)) hS, k _ _ F.kg (hl _ (.inr (.inl rfl))), k _ _ F.ml (hl _ (.inr (.inr rfl))), F.pk, F.pm, F.km⟩
theorem FzAt.same {C : Addr} {H H' : Hp} {a : Addr} {l : Loc} {x : Su72.Freezer} (F : FzAt C H a l x) (k : Same H H') : FzAt C H' a l x := F.keep (S := fun _ => False) (Same.keep k) (fun z => z) (fun _ _ z => z) fun _ _ _ z => z
theorem FzAt.lst {C : Addr} {H : Hp} {a : Addr} {l : Loc} {x : Su72.Freezer} (F : FzAt C H a l x) {b : Addr} (h : l.Has b) : ∃ xs, H b = some (.lst xs) := by
  rcases h with h | h | h
  · obtain ⟨ts, e, _⟩ := F.parts.ex
    exact ⟨_, by rw [h]; exact e⟩
  · exact ⟨_, by rw [h]; exact F.kg⟩
  · exact ⟨_, by rw [h]; exact F.ml⟩
structure Frs (C : Addr) (H : Hp) (as : List Addr) (ls : List Loc) (fs : List Su72.Freezer) : Prop where
  la : as.length = fs.length
  ll : ls.length = fs.length
  nda : as.Nodup
  ndl : ∀ (i j : Nat) (l l' : Loc) (b : Addr), ls[i]? = some l → ls[j]? = some l' → l.Has b → l'.Has b → i = j
  at_ : ∀ (i : Nat) (x : Su72.Freezer), fs[i]? = some x → ∃ a l, as[i]? = some a ∧ ls[i]? = some l ∧ FzAt C H a l x
structure WkAt (Cw C : Addr) (H : Hp) (W L : Addr) (as : List Addr) (ls : List Loc) (b : Bool) (d c m : Nat) (fs : List Su72.Freezer) : Prop where
  ins : ∃ dW, H W = some (.ins Cw dW (wkF b d c m L))
  lst : H L = some (.lst (as.map V.ref))
  notL : ∀ l ∈ ls, ¬ l.Has L
  frs : Frs C H as ls fs
def Own (as : List Addr) (ls : List Loc) (b : Addr) : Prop := b ∈ as ∨ ∃ l ∈ ls, l.Has b
def Foot (W L : Addr) (as : List Addr) (ls : List Loc) (b : Addr) : Prop := b = W ∨ b = L ∨ Own as ls b
theorem Frs.nil {C : Addr} {H : Hp} : Frs C H [] [] [] := ⟨rfl, rfl, .nil, fun i j l l' b h => by simp at h, fun i x h => by simp at h⟩
theorem get_len {α β : Type} {l : List α} {m : List β} (h : l.length = m.length) {i : Nat} {x : β} (e : m[i]? = some x) : ∃ y, l[i]? = some y := by
  obtain ⟨h1, _⟩ := List.getElem?_eq_some_iff.mp e
  exact ⟨l[i]'(by omega), List.getElem?_eq_getElem (by omega)⟩
theorem Frs.get {C : Addr} {H : Hp} {as : List Addr} {ls : List Loc} {fs : List Su72.Freezer} (F : Frs C H as ls fs) {i : Nat} {a : Addr} (h : as[i]? = some a) : ∃ x l, fs[i]? = some x ∧ ls[i]? = some l ∧ FzAt C H a l x := by
  obtain ⟨x, hx⟩ := get_len F.la.symm h
  obtain ⟨a', l, h1, h2, h3⟩ := F.at_ i x hx
  have e : a' = a := Option.some.inj (h1.symm.trans h)
  subst e
  exact ⟨x, l, hx, h2, h3⟩
theorem Frs.getL {C : Addr} {H : Hp} {as : List Addr} {ls : List Loc} {fs : List Su72.Freezer} (F : Frs C H as ls fs) {i : Nat} {l : Loc} (h : ls[i]? = some l) : ∃ x a, fs[i]? = some x ∧ as[i]? = some a ∧ FzAt C H a l x := by
  obtain ⟨x, hx⟩ := get_len F.ll.symm h
  obtain ⟨a, l', h1, h2, h3⟩ := F.at_ i x hx
  have e : l' = l := Option.some.inj (h2.symm.trans h)
  subst e
  exact ⟨x, a, hx, h1, h3⟩
theorem Frs.own {C : Addr} {H : Hp} {as : List Addr} {ls : List Loc} {fs : List Su72.Freezer} (F : Frs C H as ls fs) {b : Addr} (h : Own as ls b) : (∃ dx x l, H b = some (.ins C dx (fzF x l))) ∨ ∃ xs, H b = some (.lst xs) := by
  rcases h with h | ⟨l, hl, h⟩
  · obtain ⟨i, hi⟩ := List.getElem?_of_mem h
    obtain ⟨x, l, _, _, hA⟩ := F.get hi
    obtain ⟨dx, e⟩ := hA.ins
    exact .inl ⟨dx, x, l, e⟩
  · obtain ⟨i, hi⟩ := List.getElem?_of_mem hl
    obtain ⟨x, a, _, _, hA⟩ := F.getL hi
    exact .inr (hA.lst h)
theorem Frs.there {C : Addr} {H : Hp} {as : List Addr} {ls : List Loc} {fs : List Su72.Freezer} (F : Frs C H as ls fs) {b : Addr} (h : Own as ls b) : H b ≠ none := by
  rcases F.own h with ⟨_, _, _, e⟩ | ⟨_, e⟩ <;> (rw [e]; simp)
theorem Frs.keep {C : Addr} {S : Addr → Prop} {H H' : Hp} {as : List Addr} {ls : List Loc} {fs : List Su72.Freezer} (F : Frs C H as ls fs) (k : Keep S H H') (hf : ∀ b, Own as ls b → ¬ S b) (hS : ∀ t xs, H t = some (.tup xs) → ¬ S t) : Frs C H' as ls fs :=
  ⟨F.la, F.ll, F.nda, F.ndl, fun i x e => by
    obtain ⟨a, l, h1, h2, h3⟩ := F.at_ i x e
    exact ⟨a, l, h1, h2, h3.keep k (hf a (.inl (List.mem_of_getElem? h1))) (fun b hb => hf b (.inr ⟨l, List.mem_of_getElem? h2, hb⟩)) hS⟩⟩
theorem Frs.same {C : Addr} {H H' : Hp} {as : List Addr} {ls : List Loc} {fs : List Su72.Freezer} (F : Frs C H as ls fs) (k : Same H H') : Frs C H' as ls fs := F.keep (S := fun _ => False) (Same.keep k) (fun _ _ z => z) fun _ _ _ z => z
theorem Frs.step {C : Addr} {H H' : Hp} {as : List Addr} {ls : List Loc} {fs : List Su72.Freezer} {i : Nat} {a : Addr} {l : Loc} {x : Su72.Freezer} (F : Frs C H as ls fs) (ha : as[i]? = some a) (hl : ls[i]? = some l) (hA : FzAt C H' a l x)
    (k : Keep (fun b => b = a ∨ l.Has b) H H') : Frs C H' as ls (fs.set i x) := by
  obtain ⟨x0, l0, e0, e1, e2⟩ := F.get ha
  have el : l0 = l := Option.some.inj (e1.symm.trans hl)
  subst el
  obtain ⟨dx0, hi0⟩ := e2.ins
  refine ⟨by rw [List.length_set]; exact F.la, by rw [List.length_set]; exact F.ll, F.nda, F.ndl, fun j y hj => ?_⟩
  by_cases hji : j = i
  · subst hji
    rw [List.getElem?_set_self (List.getElem?_eq_some_iff.mp e0).1] at hj
    have e := Option.some.inj hj
    subst e
    exact ⟨a, l0, ha, hl, hA⟩
  · rw [List.getElem?_set_ne (fun q => hji q.symm)] at hj
    obtain ⟨a', l', h1, h2, h3⟩ := F.at_ j y hj
    obtain ⟨dx', hi'⟩ := h3.ins
    have n1 : a' ≠ a := fun q => hji (nd_ix F.nda h1 (by rw [q]; exact ha))
    refine ⟨a', l', h1, h2, h3.keep k (fun z => z.elim n1 fun z => ?_) (fun b hb z => z.elim (fun z => ?_) fun z => hji (F.ndl j i l' l0 b h2 hl hb z)) fun t xs e z => ?_⟩
    · obtain ⟨xs, e⟩ := e2.lst z
      rw [hi'] at e; cases e
    · obtain ⟨xs, e⟩ := h3.lst hb
      rw [z, hi0] at e; cases e
    · rcases z with z | z
      · subst z; rw [hi0] at e; cases e
      · obtain ⟨ys, e'⟩ := e2.lst z
        rw [e'] at e; cases e
theorem modify_set {α : Type} {g : α → α} : ∀ {l : List α} {f : Nat} {x : α}, l[f]? = some x → l.modify f g = l.set f (g x)
  | [], f, x, h => by simp at h
  | y :: l, 0, x, h => by
    have e := Option.some.inj h
    subst e
    rfl
  | y :: l, f + 1, x, h => by
    show y :: l.modify f g = y :: l.set f (g x)
    rw [modify_set (l := l) (f := f) (x := x) h]
theorem WkAt.with {Cw C : Addr} {H H' : Hp} {W L : Addr} {as : List Addr} {ls : List Loc} {b : Bool} {d c m : Nat} {fs fs' : List Su72.Freezer} (F : WkAt Cw C H W L as ls b d c m fs) (F' : Frs C H' as ls fs') (k : Keep (Own as ls) H H') : WkAt Cw C H' W L as ls b d c m fs' := by
  obtain ⟨dW, hW⟩ := F.ins
  refine ⟨⟨dW, k _ _ hW fun z => ?_⟩, k _ _ F.lst fun z => ?_, F.notL, F'⟩
  · rcases F.frs.own z with ⟨_, _, _, e⟩ | ⟨_, e⟩ <;> (rw [hW] at e; cases e)
  · rcases z with z | ⟨l, hl, z⟩
    · obtain ⟨i, hi⟩ := List.getElem?_of_mem z
      obtain ⟨x, l, _, _, hA⟩ := F.frs.get hi
      obtain ⟨dx, e⟩ := hA.ins
      rw [F.lst] at e; cases e
    · exact F.notL l hl z
theorem own_one {as : List Addr} {ls : List Loc} {i : Nat} {a : Addr} {l : Loc} (ha : as[i]? = some a) (hl : ls[i]? = some l) {b : Addr} (z : b = a ∨ l.Has b) : Own as ls b := by
  rcases z with z | z
  · rw [z]; exact .inl (List.mem_of_getElem? ha)
  · exact .inr ⟨l, List.mem_of_getElem? hl, z⟩
theorem WkAt.step {Cw C : Addr} {H H' : Hp} {W L : Addr} {as : List Addr} {ls : List Loc} {b : Bool} {d c m : Nat} {fs : List Su72.Freezer} {i : Nat} {a : Addr} {l : Loc} {x : Su72.Freezer} (F : WkAt Cw C H W L as ls b d c m fs) (ha : as[i]? = some a) (hl : ls[i]? = some l) (hA : FzAt C H' a l x)
    (k : Keep (fun b => b = a ∨ l.Has b) H H') : WkAt Cw C H' W L as ls b d c m (fs.set i x) := F.with (F.frs.step ha hl hA k) (k.mono fun _ z => own_one ha hl z)
theorem WkAt.keep {Cw C : Addr} {S : Addr → Prop} {H H' : Hp} {W L : Addr} {as : List Addr} {ls : List Loc} {b : Bool} {d c m : Nat} {fs : List Su72.Freezer} (F : WkAt Cw C H W L as ls b d c m fs) (k : Keep S H H') (hf : ∀ a, Foot W L as ls a → ¬ S a)
    (hS : ∀ t xs, H t = some (.tup xs) → ¬ S t) : WkAt Cw C H' W L as ls b d c m fs := by
  obtain ⟨dW, hW⟩ := F.ins
  exact ⟨⟨dW, k _ _ hW (hf _ (.inl rfl))⟩, k _ _ F.lst (hf _ (.inr (.inl rfl))), F.notL, F.frs.keep k (fun b hb => hf b (.inr (.inr hb))) hS⟩
theorem WkAt.same {Cw C : Addr} {H H' : Hp} {W L : Addr} {as : List Addr} {ls : List Loc} {b : Bool} {d c m : Nat} {fs : List Su72.Freezer} (F : WkAt Cw C H W L as ls b d c m fs) (k : Same H H') : WkAt Cw C H' W L as ls b d c m fs :=
  F.keep (S := fun _ => False) (Same.keep k) (fun _ _ z => z) fun _ _ _ z => z
theorem natsV_at {l : List Nat} {i : Nat} (h : i < l.length) : (natsV l)[i]? = some (.int ((l.getD i 0 : Nat) : Int)) := by
  unfold natsV
  rw [List.getElem?_map, List.getD_eq_getElem?_getD, List.getElem?_eq_getElem h]
  rfl
theorem natsV_len (l : List Nat) : (natsV l).length = l.length := List.length_map ..
theorem natsV_set (l : List Nat) (i n : Nat) (h : i < l.length) : (natsV l).set i (.int (((l.getD i 0 : Nat) : Int) + (n : Int))) = natsV (Su72.add l i n) := by
  unfold Su72.add
  rw [modify_set (x := l[i]) (List.getElem?_eq_getElem h)]
  unfold natsV
  rw [List.map_set, List.getD_eq_getElem?_getD, List.getElem?_eq_getElem h]
  rfl
theorem sum_nats : ∀ l : List Nat, (l.map fun (k : Nat) => (k : Int)).sum = ((l.sum : Nat) : Int)
  | [] => rfl
  | k :: l => by rw [List.map_cons, List.sum_cons, List.sum_cons, sum_nats l, Int.natCast_add]
theorem natsV_ints (l : List Nat) : natsV l = (l.map fun (k : Nat) => (k : Int)).map V.int := by
  unfold natsV
  rw [List.map_map]
  rfl
end Fz
set_option Elab.async false
set_option linter.all false
set_option maxRecDepth 100000
set_option maxHeartbeats 2000000
namespace Fz
open PySem PySem.Spec PyProof.Rows L2
def Val (t : TE) (σ : L2.St) (H : Hp) (v : V) : Prop := ∀ Q : VK, Q v H → t σ H Q
def ValT (t : TT) (σ : L2.St) (H : Hp) (b : Bool) : Prop := ∀ Q : Bool → Hp → Prop, Q b H → t σ H Q
def ValA (t : TA) (σ : L2.St) (H : Hp) (vs : List V) : Prop := ∀ Q : List V → Hp → Prop, Q vs H → t σ H Q
section
variable {σ : L2.St} {H : Hp} {ta tb tc te : TE} {v x : V} {i j k : Int} {n : Nat} {a : Addr} {K : PySem.W.Frag}
theorem Val.cn : Val (tC v) σ H v := fun _ q => q
theorem Val.vr (h : σ[n]? = some (some x)) : Val (tVar n) σ H x := fun _ q => ⟨x, h, q⟩
theorem Val.fld {C dx : Addr} {fs : List (Str × V)} {f : Str} (ha : Val ta σ H (.ref a)) (e : H a = some (.ins C dx fs)) (c : Cls K C) (na : NoAttr K C f) (l : fs.lookup f = some v) : Val (tFld K ta f) σ H v := fun _ q => ha _ ⟨a, C, dx, fs, v, rfl, e, c, na, l, q⟩
theorem Val.ixL {xs : List V} (ha : Val ta σ H (.ref a)) (hb : Val tb σ H (.int i)) (h : SqL K H a xs) (e : atI xs i = some v) : Val (tOp (rIx K) ta tb) σ H v := fun _ q => ha _ (hb _ (.inl ⟨a, xs, i, v, rfl, rfl, h, e, q⟩))
theorem Val.ixT {xs : List V} (ha : Val ta σ H (.ref a)) (hb : Val tb σ H (.int i)) (h : SqT K H a xs) (e : atI xs i = some v) : Val (tOp (rIx K) ta tb) σ H v := fun _ q => ha _ (hb _ (.inr (.inl ⟨a, xs, i, v, rfl, rfl, h, e, q⟩)))
theorem Val.add (ha : Val ta σ H (.int i)) (hb : Val tb σ H (.int j)) : Val (tOp (rI0 fun i j => .int (i + j)) ta tb) σ H (.int (i + j)) := fun _ q => ha _ (hb _ ⟨i, j, rfl, rfl, q⟩)
theorem Val.sub (ha : Val ta σ H (.int i)) (hb : Val tb σ H (.int j)) : Val (tOp (rI0 fun i j => .int (i - j)) ta tb) σ H (.int (i - j)) := fun _ q => ha _ (hb _ ⟨i, j, rfl, rfl, q⟩)
theorem Val.mul (ha : Val ta σ H (.int i)) (hb : Val tb σ H (.int j)) (hc : CMul i j) : Val (tOp (rI CMul fun i j => .int (i * j)) ta tb) σ H (.int (i * j)) := fun _ q => ha _ (hb _ ⟨i, j, rfl, rfl, hc, q⟩)
theorem Val.len {xs : List V} (ha : Val ta σ H (.ref a)) (h : SqL K H a xs) : Val (tCB (fun xs H Q => ∃ p ys, xs = [.ref p] ∧ (SqL K H p ys ∨ SqT K H p ys) ∧ Q (.int ys.length) H) (tCons ta tNil)) σ H (.int xs.length) := fun _ q => ha _ ⟨a, xs, rfl, .inl h, q⟩
theorem Val.ife {t : TT} {b : Bool} {v1 v2 : V} (h : ValT t σ H b) (ha : Val ta σ H v1) (hb : Val tb σ H v2) : Val (tIf t ta tb) σ H (if b = true then v1 else v2) := fun Q q => h _ (by
  cases b with
  | true => exact ha Q q
  | false => exact hb Q q)
theorem ValT.lt (ha : Val ta σ H (.int i)) (hb : Val tb σ H (.int j)) : ValT (tTest (tOp (rI0 fun i j => .bl (decide (i < j))) ta tb)) σ H (decide (i < j)) := fun _ q => ha _ (hb _ ⟨i, j, rfl, rfl, _, rfl, q⟩)
theorem ValT.le (ha : Val ta σ H (.int i)) (hb : Val tb σ H (.int j)) : ValT (tTest (tOp (rI0 fun i j => .bl (decide (i ≤ j))) ta tb)) σ H (decide (i ≤ j)) := fun _ q => ha _ (hb _ ⟨i, j, rfl, rfl, _, rfl, q⟩)
theorem ValT.gt (ha : Val ta σ H (.int i)) (hb : Val tb σ H (.int j)) : ValT (tTest (tOp (rI0 fun i j => .bl (decide (j < i))) ta tb)) σ H (decide (j < i)) := fun _ q => ha _ (hb _ ⟨i, j, rfl, rfl, _, rfl, q⟩)
theorem ValT.ge (ha : Val ta σ H (.int i)) (hb : Val tb σ H (.int j)) : ValT (tTest (tOp (rI0 fun i j => .bl (decide (j ≤ i))) ta tb)) σ H (decide (j ≤ i)) := fun _ q => ha _ (hb _ ⟨i, j, rfl, rfl, _, rfl, q⟩)
theorem dec_int {i j : Int} : decide (V.int i = V.int j) = decide (i = j) := decide_eq_decide.mpr ⟨fun z => by injection z, fun z => by rw [z]⟩
theorem ValT.eq (ha : Val ta σ H (.int i)) (hb : Val tb σ H (.int j)) : ValT (tTest (tOp rEq ta tb)) σ H (decide (i = j)) := fun _ q => ha _ (hb _ ⟨rfl, _, rfl, by rw [dec_int]; exact q⟩)
theorem ValT.ne (ha : Val ta σ H (.int i)) (hb : Val tb σ H (.int j)) : ValT (tTest (tOp rNe ta tb)) σ H (!decide (i = j)) := fun _ q => ha _ (hb _ ⟨rfl, _, rfl, by rw [dec_int]; exact q⟩)
theorem ValT.chain (ha : Val ta σ H (.int i)) (hb : Val tb σ H (.int j)) (hc : Val tc σ H (.int k)) : ValT (tTest (tChain (rI0 fun i j => .bl (decide (i ≤ j))) (rI0 fun i j => .bl (decide (i ≤ j))) ta tb tc)) σ H (decide (i ≤ j ∧ j ≤ k)) := fun Q q => ha _ (hb _ ⟨i, j, rfl, rfl, _, rfl, by
  by_cases h : i ≤ j
  · rw [decide_eq_true h]
    refine iteT (hc _ ⟨j, k, rfl, rfl, _, rfl, ?_⟩)
    have e : decide (i ≤ j ∧ j ≤ k) = decide (j ≤ k) := decide_eq_decide.mpr ⟨fun z => z.2, fun z => ⟨h, z⟩⟩
    rw [e] at q
    exact q
  · rw [decide_eq_false h]
    refine iteF ⟨_, rfl, ?_⟩
    rw [decide_eq_false (fun z : i ≤ j ∧ j ≤ k => h z.1)] at q
    exact q⟩)
theorem ValT.val {b : Bool} (h : Val ta σ H (.bl b)) : ValT (tB ta) σ H b := fun _ q => h _ ⟨b, rfl, q⟩
theorem ValT.not {t : TT} {b : Bool} (h : ValT t σ H b) : ValT (tNot t) σ H (!b) := fun _ q => h _ q
theorem ValT.or {t u : TT} {b c : Bool} (h : ValT t σ H b) (k : ValT u σ H c) : ValT (tOr t u) σ H (b || c) := fun Q q => h _ (by
  cases b with
  | true => exact q
  | false => exact k Q q)
theorem ValT.and {t u : TT} {b c : Bool} (h : ValT t σ H b) (k : b = true → ValT u σ H c) : ValT (tAnd t u) σ H (b && c) := fun Q q => h _ (by
  cases b with
  | true => exact k rfl Q q
  | false => exact q)
theorem ValA.nil : ValA tNil σ H [] := fun _ q => q
theorem ValA.cons {tr : TA} {vs : List V} (ha : Val ta σ H v) (hr : ValA tr σ H vs) : ValA (tCons ta tr) σ H (v :: vs) := fun _ q => ha _ (hr _ q)
variable {D : Ends}
theorem set_val (h : Val te σ H v) (k : D.nx (σ.set n (some v)) H) : tAsg te (gName n) D σ H := h _ k
theorem if_val {t : TT} {s1 s2 : TS} {b : Bool} (h : ValT t σ H b) (k1 : b = true → s1 D σ H) (k2 : b = false → s2 D σ H) : tIfS t s1 s2 D σ H := h _ (by
  cases b with
  | true => exact k1 rfl
  | false => exact k2 rfl)
theorem fld_val {C dx : Addr} {fs : List (Str × V)} {f : Str} (hv : Val te σ H v) (ha : Val ta σ H (.ref a)) (e : H a = some (.ins C dx fs)) (c : Cls K C) (na : NoAttr K C f) (l : fs.length < 1000) (k : D.nx σ (upd H a (.ins C dx (putF f v fs)))) : sFld K ta te f D σ H :=
  hv _ (ha _ ⟨a, C, dx, fs, rfl, e, c, na, l, k⟩)
theorem ret_val (h : Val te σ H v) (k : D.rt v H) : tRet te D σ H := h _ k
theorem ret_lst {t : TA} {vs : List V} (h : ValA t σ H vs) (l : vs.length ≤ sizeLine) (k : ∀ p, H p = none → D.rt (.ref p) (upd H p (.lst vs))) : tRet (tLst t) D σ H := h _ ⟨l, k⟩
theorem call_val {sp : Sp} {t : TA} {vs : List V} (h : ValA t σ H vs) (k : ∀ Q : VK, Q v H → sp vs H Q E0) : Val (tCall sp [] E0 t) σ H v := fun Q q => h _ (by rw [List.append_nil]; exact k Q q)
end
theorem ix_nat {n j : Nat} (h : j < n) : ixN n (j : Int) = some j := by
  unfold ixN
  rw [if_pos (by omega), if_pos (by omega)]
  rfl
theorem aug_val {σ : L2.St} {H : Hp} {D : Ends} {K : PySem.W.Frag} {to ti te : TE} {l : Addr} {j n : Nat} {ks : List Nat} (ho : Val to σ H (.ref l)) (hi : Val ti σ H (.int (j : Int))) (e : H l = some (.lst (natsV ks))) (hj : j < ks.length) (hv : Val te σ H (.int (n : Int)))
    (k : D.nx σ (upd H l (.lst (natsV (Su72.add ks j n))))) : tAugS to ti te (rAtN K) (ipI fun i j => i + j) rSetL D σ H :=
  ho _ (hi _ ⟨l, _, j, _, rfl, rfl, SqL.of e, natsV_at hj, hv _ ⟨_, _, rfl, rfl, l, _, _, j, rfl, rfl, e, ix_nat (by rw [natsV_len]; exact hj), by rw [natsV_set ks j n hj]; exact k⟩⟩)
def ValS (t : TE) (σ : L2.St) (H : Hp) (v : V) : Prop := ∀ Q : VK, (∀ H', Same H H' → Q v H') → t σ H Q
def ValTS (t : TT) (σ : L2.St) (H : Hp) (b : Bool) : Prop := ∀ Q : Bool → Hp → Prop, (∀ H', Same H H' → Q b H') → t σ H Q
def ValAS (t : TA) (σ : L2.St) (H : Hp) (vs : List V) : Prop := ∀ Q : List V → Hp → Prop, (∀ H', Same H H' → Q vs H') → t σ H Q
section
variable {σ : L2.St} {H : Hp} {ta tb te : TE} {v : V} {i j : Int} {n : Nat} {a : Addr} {K : PySem.W.Frag} {D : Ends} {sp : Sp} {t : TA} {vs : List V}
theorem Val.s (h : Val ta σ H v) : ValS ta σ H v := fun Q q => h Q (q H (.refl _))
theorem ValAS.nil : ValAS tNil σ H [] := fun _ q => q H (.refl _)
theorem ValAS.cons {tr : TA} (ha : ValS ta σ H v) (hr : ∀ H', Same H H' → ValAS tr σ H' vs) : ValAS (tCons ta tr) σ H (v :: vs) := fun Q q => ha _ fun H1 s1 => hr H1 s1 _ fun H2 s2 => q H2 (s1.trans s2)
theorem ValS.sub (ha : ValS ta σ H (.int i)) (hb : ∀ H', Same H H' → ValS tb σ H' (.int j)) : ValS (tOp (rI0 fun i j => .int (i - j)) ta tb) σ H (.int (i - j)) := fun Q q => ha _ fun H1 s1 => hb H1 s1 _ fun H2 s2 => ⟨i, j, rfl, rfl, q H2 (s1.trans s2)⟩
theorem ValTS.val {b : Bool} (h : ValS ta σ H (.bl b)) : ValTS (tB ta) σ H b := fun _ q => h _ fun H1 s1 => ⟨b, rfl, q H1 s1⟩
theorem callS (h : ValA t σ H vs) (k : ∀ Q : VK, (∀ H', Same H H' → Q v H') → sp vs H Q E0) : ValS (tCall sp [] E0 t) σ H v := fun Q q => h _ (by rw [List.append_nil]; exact k Q q)
theorem methS {C dx : Addr} {fs : List (Str × V)} {m : Str} (ha : Val ta σ H (.ref a)) (e : H a = some (.ins C dx fs)) (no : fs.lookup m = none) (h : ValA t σ H vs) (k : ∀ Q : VK, (∀ H', Same H H' → Q v H') → sp (.ref a :: vs) H Q E0) : ValS (tMeth C m sp [] E0 ta t) σ H v :=
  fun Q q => ha _ ⟨a, dx, fs, rfl, e, no, h _ (by rw [List.append_nil]; exact k Q q)⟩
theorem meth_run {C dx : Addr} {fs : List (Str × V)} {m : Str} {Q : VK} (ha : Val ta σ H (.ref a)) (e : H a = some (.ins C dx fs)) (no : fs.lookup m = none) (h : ValA t σ H vs) (k : sp (.ref a :: vs) H Q E0) : tMeth C m sp [] E0 ta t σ H Q :=
  ha _ ⟨a, dx, fs, rfl, e, no, h _ (by rw [List.append_nil]; exact k)⟩
theorem ret_lstS (h : ValAS t σ H vs) (l : vs.length ≤ sizeLine) (k : ∀ H1 p, Same H H1 → H1 p = none → D.rt (.ref p) (upd H1 p (.lst vs))) : tRet (tLst t) D σ H := h _ fun H1 s1 => ⟨l, fun p hp => k H1 p s1 hp⟩
theorem set_valS (h : ValS te σ H v) (k : ∀ H1, Same H H1 → D.nx (σ.set n (some v)) H1) : tAsg te (gName n) D σ H := h _ k
theorem if_valS {t : TT} {s1 s2 : TS} {b : Bool} (h : ValTS t σ H b) (k1 : b = true → ∀ H1, Same H H1 → s1 D σ H1) (k2 : b = false → ∀ H1, Same H H1 → s2 D σ H1) : tIfS t s1 s2 D σ H := h _ (fun H1 e => by
  cases b with
  | true => exact k1 rfl H1 e
  | false => exact k2 rfl H1 e)
theorem lc_nats {tl : TE} {k : Nat} {ws : List Nat} {as : List Addr} {ns : List Nat} {Q : VK} (hl : Val tl σ H (.ref a)) (e : H a = some (.lst (as.map V.ref))) (hn : ns.length = as.length) (hz : as.length ≤ 10000) (hw : ∀ v, wipe ((wipe σ ws).set k v) ws = wipe σ ws)
    (hs : ∀ (i : Nat) (x : Addr) (n : Nat) (H' : Hp), as[i]? = some x → ns[i]? = some n → Same H H' → ValS te ((wipe σ ws).set k (some (.ref x))) H' (.int (n : Int))) (q : ∀ (H' : Hp) (D : Addr), Same H H' → H' D = some (.lst (natsV ns)) → Q (.ref D) H') :
    tLc (iList K tl) (gName k) tYes te ws σ H Q := by
  refine hl _ ⟨a, rfl, ⟨_, SqL.of e⟩, fun D hD => lc_list (K := K) (a := a) (xs := as.map V.ref) (fun i H' => H' D = some (.lst (natsV (ns.take i))) ∧ Same H H') ⟨upd_same, same_new hD⟩ (fun i H' _ ⟨_, s5⟩ => SqL.of (s5 _ _ e)) ?_ ?_⟩
  · rintro i x H' hx ⟨hD', s5⟩
    obtain ⟨t, ht, rfl⟩ := getElem_map hx
    obtain ⟨n, hn'⟩ := get_len hn ht
    refine ⟨hw _, lc_yes ?_⟩
    refine hs i t n H' ht hn' s5 _ fun H2 s6 => ⟨_, s6 _ _ hD', ?_, ?_, fun b o eb => ?_⟩
    · rw [natsV_len, List.length_take]
      exact Nat.lt_of_le_of_lt (Nat.min_le_right _ _) (Nat.lt_of_le_of_lt (show ns.length ≤ 10000 by omega) (by decide))
    · rw [upd_same, take_snoc hn']
      unfold natsV
      rw [List.map_append]
      rfl
    · rw [upd_ne (ne_of_none eb hD)]
      exact s6 _ _ (s5 _ _ eb)
  · rintro H' ⟨hD', s5⟩
    rw [List.length_map, ← hn, List.take_length] at hD'
    exact q H' D s5 hD'
theorem sumLc {tl : TE} {k : Nat} {ws : List Nat} {as : List Addr} {ns : List Nat} (hl : Val tl σ H (.ref a)) (e : H a = some (.lst (as.map V.ref))) (hn : ns.length = as.length) (hz : as.length ≤ 10000) (hw : ∀ v, wipe ((wipe σ ws).set k v) ws = wipe σ ws)
    (hs : ∀ (i : Nat) (x : Addr) (n : Nat) (H' : Hp), as[i]? = some x → ns[i]? = some n → Same H H' → ValS te ((wipe σ ws).set k (some (.ref x))) H' (.int (n : Int))) :
    ValS (tCB (rSum K) (tCons (tLc (iList K tl) (gName k) tYes te ws) tNil)) σ H (.int ((ns.sum : Nat) : Int)) := fun Q q =>
  lc_nats (Q := fun x H1 => rSum K [x] H1 Q) (K := K) hl e hn hz hw hs fun H' D s5 hD => ⟨D, ns.map fun (k : Nat) => (k : Int), rfl, SqL.of (by rw [hD, natsV_ints]), by rw [sum_nats]; exact q H' s5⟩
theorem Val.sumL {ns : List Nat} (ha : Val ta σ H (.ref a)) (e : H a = some (.lst (natsV ns))) : Val (tCB (rSum K) (tCons ta tNil)) σ H (.int ((ns.sum : Nat) : Int)) := fun Q q =>
  ha _ ⟨a, ns.map fun (k : Nat) => (k : Int), rfl, SqL.of (by rw [e, natsV_ints]), by rw [sum_nats]; exact q⟩
end
end Fz
set_option Elab.async false
set_option linter.all false
set_option maxRecDepth 100000
set_option maxHeartbeats 2000000
namespace Fz
open PySem PySem.Spec PyProof.Rows L2
structure Txt (K : PySem.W.Frag) (mg : Str → Option Value) (Cw C : Addr) : Prop extends Blt mg where
  c_Works : Cls K Cw
  c_Freezer : Cls K C
  w_begun : NoAttr K Cw "begun"
  w_density : NoAttr K Cw "density"
  w_coldest : NoAttr K Cw "coldest"
  w_minute : NoAttr K Cw "minute"
  w_freezers : NoAttr K Cw "freezers"
  f_holds : NoAttr K C "holds"
  f_power : NoAttr K C "power"
  f_fed_with : NoAttr K C "fed_with"
  f_rate : NoAttr K C "rate"
  f_air : NoAttr K C "air"
  f_frozen : NoAttr K C "frozen"
  f_parts : NoAttr K C "parts"
  f_total_fed : NoAttr K C "total_fed"
  f_kilograms : NoAttr K C "kilograms"
  f_millilitres : NoAttr K C "millilitres"
  m_NONE_SUCH : ∃ t, mg "NONE_SUCH" = some (.int (-2) t)
  m_NOT_FED : ∃ t, mg "NOT_FED" = some (.int (-6) t)
  m_NOT_BEGUN : ∃ t, mg "NOT_BEGUN" = some (.int (-11) t)
  m_FROZEN_IN : ∃ t, mg "FROZEN_IN" = some (.int (-16) t)
  m_SO_ALREADY : ∃ t, mg "SO_ALREADY" = some (.int (-17) t)
  m_OUT_OF_RANGE : ∃ t, mg "OUT_OF_RANGE" = some (.int (-22) t)
  m_TOO_MANY : ∃ t, mg "TOO_MANY" = some (.int (-28) t)
  m_CANNOT_BE : ∃ t, mg "CANNOT_BE" = some (.int (-33) t)
  m_BEGIN : ∃ t, mg "BEGIN" = some (.int 0 t)
  m_MOST_FREEZERS : ∃ t, mg "MOST_FREEZERS" = some (.int 4 t)
  m_FLAVOURS : ∃ t, mg "FLAVOURS" = some (.int 10 t)
  m_MOST_AHEAD : ∃ t, mg "MOST_AHEAD" = some (.int 1000 t)
  m_MOST_AMOUNT : ∃ t, mg "MOST_AMOUNT" = some (.int 100000 t)
  m_MOST_RATE : ∃ t, mg "MOST_RATE" = some (.int 100 t)
  m_MOST_AIR : ∃ t, mg "MOST_AIR" = some (.int 200 t)
  m_MOST_COLD : ∃ t, mg "MOST_COLD" = some (.int 500 t)
  m_MOST_MINUTES : ∃ t, mg "MOST_MINUTES" = some (.int 500 t)
def WkS (Cw C : Addr) (H : Hp) (W L : Addr) (as : List Addr) (ls : List Loc) : Option Su72.Abs → Prop
  | none => WkAt Cw C H W L as ls false 0 0 0 []
  | some a => WkAt Cw C H W L as ls true a.dense a.stiff a.now_ a.freezers
theorem WkS.same {Cw C : Addr} {H H' : Hp} {W L : Addr} {as : List Addr} {ls : List Loc} {s : Option Su72.Abs} (h : WkS Cw C H W L as ls s) (k : Same H H') : WkS Cw C H' W L as ls s := by
  cases s with
  | none => exact WkAt.same h k
  | some a => exact WkAt.same h k
def ansI (x : Su72.Ans) : List Int := x.value :: Su72Neutral.outs x.out
def ansV (x : Su72.Ans) : List V := (ansI x).map V.int
theorem ansV_num (n : Nat) (l : List Nat) : ansV (Su72.num n l) = .int (n : Int) :: l.map (fun (k : Nat) => V.int (k : Int)) := by
  unfold ansV ansI Su72.num Su72Neutral.outs
  rw [List.map_cons, List.map_map]
  rfl
def After (Cw C : Addr) (H : Hp) (W L : Addr) (as : List Addr) (ls : List Loc) (s' : Option Su72.Abs) (x : Su72.Ans) (Q : VK) : Prop :=
  ∀ (H' : Hp) (r L' : Addr) (as' : List Addr) (ls' : List Loc), H r = none → H' r = some (.lst (ansV x)) → WkS Cw C H' W L' as' ls' s' → Keep (Foot W L as ls) H H' →
    (∀ b, Foot W L' as' ls' b → Foot W L as ls b ∨ H b = none) → Q (.ref r) H'
theorem After.still {Cw C : Addr} {H : Hp} {W L : Addr} {as : List Addr} {ls : List Loc} {s : Option Su72.Abs} {x : Su72.Ans} {Q : VK} (q : After Cw C H W L as ls s x Q) (h : WkS Cw C H W L as ls s) {H1 : Hp} (e1 : Same H H1) {p : Addr} (hp : H1 p = none) {vs : List V} (e : vs = ansV x) :
    Q (.ref p) (upd H1 p (.lst vs)) := by
  have k : Same H (upd H1 p (.lst vs)) := e1.trans (same_new hp)
  exact q _ p L as ls (e1.free hp) (by rw [upd_same, e]) (h.same k) (Same.keep k) fun b hb => .inl hb
def spH (Cw C : Addr) (n : Nat) (pre : Option Su72.Abs → List Nat → Prop) (mk : List Nat → Su72.Call) : Sp := fun vs H Q _ =>
  ∃ (W L nl : Addr) (as : List Addr) (ls : List Loc) (s : Option Su72.Abs) (ks : List Nat), vs = [.ref W, .ref nl] ∧ ks.length = n ∧ H nl = some (.lst (natsV ks)) ∧ ¬ Foot W L as ls nl ∧ SOk s ∧ pre s ks ∧ WkS Cw C H W L as ls s ∧
    After Cw C H W L as ls (Su72.step s (mk ks)).1 (Su72.step s (mk ks)).2 Q
def begun (s : Option Su72.Abs) (_ : List Nat) : Prop := ∃ a, s = some a
def there (s : Option Su72.Abs) (ks : List Nat) : Prop := ∃ a, s = some a ∧ ks.getD 0 0 < a.freezers.length
theorem step_some (a : Su72.Abs) (c : Su72.Call) : Su72.step (some a) c = (some (Su72.does a c).1, (Su72.does a c).2) := by cases c <;> rfl
theorem After.of {Cw C : Addr} {H : Hp} {W L : Addr} {as : List Addr} {ls : List Loc} {a s' : Su72.Abs} {c : Su72.Call} {x : Su72.Ans} {Q : VK} (q : After Cw C H W L as ls (Su72.step (some a) c).1 (Su72.step (some a) c).2 Q) (e : Su72.does a c = (s', x)) : After Cw C H W L as ls (some s') x Q := by
  rw [step_some, e] at q
  exact q
theorem WkAt.pick {Cw C : Addr} {H : Hp} {W L : Addr} {as : List Addr} {ls : List Loc} {b : Bool} {d c m : Nat} {fs : List Su72.Freezer} (F : WkAt Cw C H W L as ls b d c m fs) {f : Nat} (hf : f < fs.length) :
    ∃ x af l, fs[f]? = some x ∧ as[f]? = some af ∧ ls[f]? = some l ∧ FzAt C H af l x ∧ atI (as.map V.ref) (f : Int) = some (.ref af) := by
  have hx : fs[f]? = some fs[f] := List.getElem?_eq_getElem hf
  obtain ⟨a, l, h1, h2, h3⟩ := F.frs.at_ f _ hx
  exact ⟨_, a, l, hx, h1, h2, h3, atI_nat (by rw [List.getElem?_map, h1]; rfl)⟩
theorem freezer_of {a : Su72.Abs} {f : Nat} {x : Su72.Freezer} (h : a.freezers[f]? = some x) : a.freezer f = x := by
  unfold Su72.Abs.freezer
  rw [List.getD_eq_getElem?_getD, h]
  rfl
theorem isF_of {a : Su72.Abs} {f : Nat} (h : f < a.freezers.length) : ¬ a.isF f = false := by
  unfold Su72.Abs.isF
  rw [decide_eq_true h]
  decide
theorem setF_of {a : Su72.Abs} {f : Nat} {x : Su72.Freezer} {g : Su72.Freezer → Su72.Freezer} (h : a.freezers[f]? = some x) : a.setF f g = { a with freezers := a.freezers.set f (g x) } := by
  unfold Su72.Abs.setF
  rw [modify_set h]
theorem After.one {Cw C : Addr} {H : Hp} {W L : Addr} {as : List Addr} {ls : List Loc} {a s' : Su72.Abs} {x : Su72.Ans} {Q : VK} (q : After Cw C H W L as ls (some s') x Q) (h : WkS Cw C H W L as ls (some a)) {f : Nat} {af : Addr} {l : Loc} {y : Su72.Freezer}
    (ha : as[f]? = some af) (hl : ls[f]? = some l) (es : s' = { a with freezers := a.freezers.set f y }) {H1 : Hp} (hA : FzAt C H1 af l y) (k : Keep (fun b => b = af ∨ l.Has b) H H1) {p : Addr} (hp0 : H p = none) (hp : H1 p = none) {vs : List V} (e : vs = ansV x) :
    Q (.ref p) (upd H1 p (.lst vs)) := by
  subst es
  have h1 : WkS Cw C H1 W L as ls (some { a with freezers := a.freezers.set f y }) := WkAt.step h ha hl hA k
  refine q _ p L as ls hp0 (by rw [upd_same, e]) (h1.same (same_new hp)) ?_ fun b hb => .inl hb
  intro b o hb n
  have hb1 : H1 b = some o := k b o hb fun z => n (.inr (.inr (own_one ha hl z)))
  exact same_new hp b o hb1
end Fz
set_option Elab.async false
set_option linter.all false
set_option maxRecDepth 100000
set_option maxHeartbeats 2000000
namespace Fz
open PySem PySem.Spec PyProof.Rows L2
section
variable {P : Program} {w : World} {K : PySem.W.Frag} {mg : Str → Option Value} {base : Heap} {Cw C : Addr}
structure GCup (P : Program) (w : World) (K : PySem.W.Frag) (mg : Str → Option Value) (base : Heap) : Prop where
  weighs_too_much : Cal P w K mg base 1 "weighs_too_much" ["millilitres", "grams", "density"] sp_weighs_too_much
  cup_air : Cal P w K mg base 1 "cup_air" ["millilitres", "grams", "density"] sp_cup_air
  cup_grams : Cal P w K mg base 1 "cup_grams" ["millilitres", "air", "density"] sp_cup_grams
theorem ok_cup {f : Addr} {fd : FuncData} (F : Fun K "cup" "cup" s_cup f fd) (T : Txt K mg Cw C) (G : GCup P w K mg base) : FnOk P w K mg base CX0 9 f fd ["works", "numbers"] (spH Cw C 2 begun fun ks => .cup (ks.getD 0 0) (ks.getD 1 0)) := by
  have nd := sc_cup.nd
  refine F.ok sc_cup (fun vs H Q E h => ?_) (fun cdv A outer s H vs Q E hr h => ?_)
  · obtain ⟨W, L, nl, as, ls, s, ks, rfl, _⟩ := h
    rfl
  · obtain ⟨W, L, nl, as, ls, s, ks, rfl, hk, hn, _, hs, ⟨a, rfl⟩, hW, q⟩ := h
    obtain ⟨v, g, rfl⟩ := len2 hk
    · replace q : After Cw C H W L as ls (Su72.step (some a) (.cup v g)).1 (Su72.step (some a) (.cup v g)).2 Q := q
      have ok := hs a rfl
      have hd := ok.dense
      obtain ⟨dW, hw⟩ := hW.ins
      refine ⟨_, (pss_cons (ps_set (i := 2) nd rfl (Or.inl rfl) (pe_ix ix_seq (pv 1) pe_int (fun _ _ => rfl))) (pss_cons (ps_set (i := 3) nd rfl (Or.inl rfl) (pe_ix ix_seq (pv 1) pe_int (fun _ _ => rfl))) (pss_cons (ps_if (PW.pt (pw_or (pt_not (pt_chain op_le op_le pe_int (pv 2) pe_int)) (pw_or1 (pt_not (pt_chain op_le op_le pe_int (pv 3) pe_int))))) (pss_one (ps_ret (pe_lst (pa_cons (pe_gint rfl T.m_OUT_OF_RANGE) pa_nil)))) pss_nil) (pss_cons (ps_if (pt_val (pe_cal G.weighs_too_much (hr.mono (by decide)) rfl (pa_cons (pv 2) (pa_cons (pv 3) (pa_cons (pe_fld (pv 0) rfl) pa_nil))))) (pss_one (ps_ret (pe_lst (pa_cons (pe_gint rfl T.m_CANNOT_BE) pa_nil)))) pss_nil) (pss_one (ps_ret (pe_lst (pa_cons (pe_cal G.cup_air (hr.mono (by decide)) rfl (pa_cons (pv 2) (pa_cons (pv 3) (pa_cons (pe_fld (pv 0) rfl) pa_nil)))) pa_nil)))))))), ?_⟩
      refine set_val (.ixL (.vr rfl) .cn (SqL.of hn) rfl) ?_
      refine set_val (.ixL (.vr rfl) .cn (SqL.of hn) rfl) ?_
      refine if_val (.or (.not (.chain .cn (.vr rfl) .cn)) (.not (.chain .cn (.vr rfl) .cn))) (fun e => ?_) (fun e => ?_)
      · refine ret_lst (.cons .cn .nil) (by decide) fun p hp => ?_
        simp only [Bool.or_eq_true, Bool.not_eq_true', decide_eq_false_iff_not] at e
        exact (q.of (if_pos (by omega))).still hW (.refl _) hp rfl
      · simp only [Bool.or_eq_false_iff, Bool.not_eq_false', decide_eq_true_eq] at e
        refine if_val (.val (call_val (.cons (.vr rfl) (.cons (.vr rfl) (.cons (.fld (.vr rfl) hw T.c_Works T.w_density rfl) .nil))) fun Q' q' => ⟨v, g, a.dense, rfl, by omega, q'⟩)) (fun e2 => ?_) (fun e2 => ?_)
        · refine ret_lst (.cons .cn .nil) (by decide) fun p hp => ?_
          exact (q.of ((if_neg (by omega)).trans (if_pos (of_decide_eq_true e2)))).still hW (.refl _) hp rfl
        · have e3 := of_decide_eq_false e2
          refine ret_lst (.cons (call_val (.cons (.vr rfl) (.cons (.vr rfl) (.cons (.fld (.vr rfl) hw T.c_Works T.w_density rfl) .nil))) fun Q' q' => ⟨v, g, a.dense, rfl, by omega, by omega, by omega, by omega, q'⟩) .nil) (by show 1 ≤ sizeLine; decide) fun p hp => ?_
          exact (q.of ((if_neg (by omega)).trans (if_neg e3))).still hW (.refl _) hp rfl
theorem ok_cupfor {f : Addr} {fd : FuncData} (F : Fun K "cupfor" "cupfor" s_cupfor f fd) (T : Txt K mg Cw C) (G : GCup P w K mg base) : FnOk P w K mg base CX0 9 f fd ["works", "numbers"] (spH Cw C 2 begun fun ks => .cupfor (ks.getD 0 0) (ks.getD 1 0)) := by
  have nd := sc_cupfor.nd
  refine F.ok sc_cupfor (fun vs H Q E h => ?_) (fun cdv A outer s H vs Q E hr h => ?_)
  · obtain ⟨W, L, nl, as, ls, s, ks, rfl, _⟩ := h
    rfl
  · obtain ⟨W, L, nl, as, ls, s, ks, rfl, hk, hn, _, hs, ⟨a, rfl⟩, hW, q⟩ := h
    obtain ⟨v, o, rfl⟩ := len2 hk
    · replace q : After Cw C H W L as ls (Su72.step (some a) (.cupfor v o)).1 (Su72.step (some a) (.cupfor v o)).2 Q := q
      obtain ⟨dW, hw⟩ := hW.ins
      refine ⟨_, (pss_cons (ps_set (i := 2) nd rfl (Or.inl rfl) (pe_ix ix_seq (pv 1) pe_int (fun _ _ => rfl))) (pss_cons (ps_set (i := 3) nd rfl (Or.inl rfl) (pe_ix ix_seq (pv 1) pe_int (fun _ _ => rfl))) (pss_cons (ps_if (PW.pt (pw_or (pt_not (pt_chain op_le op_le pe_int (pv 2) pe_int)) (pw_or1 (pt_cmpR op_gt (pv 3) (pe_gint rfl T.m_MOST_AIR) (nomark _))))) (pss_one (ps_ret (pe_lst (pa_cons (pe_gint rfl T.m_OUT_OF_RANGE) pa_nil)))) pss_nil) (pss_one (ps_ret (pe_lst (pa_cons (pe_cal G.cup_grams (hr.mono (by decide)) rfl (pa_cons (pv 2) (pa_cons (pv 3) (pa_cons (pe_fld (pv 0) rfl) pa_nil)))) pa_nil))))))), ?_⟩
      refine set_val (.ixL (.vr rfl) .cn (SqL.of hn) rfl) ?_
      refine set_val (.ixL (.vr rfl) .cn (SqL.of hn) rfl) ?_
      refine if_val (.or (.not (.chain .cn (.vr rfl) .cn)) (.gt (.vr rfl) .cn)) (fun e => ?_) (fun e => ?_)
      · refine ret_lst (.cons .cn .nil) (by decide) fun p hp => ?_
        simp only [Bool.or_eq_true, Bool.not_eq_true', decide_eq_false_iff_not, decide_eq_true_eq] at e
        exact (q.of (if_pos (by unfold Su72.AIR; omega))).still hW (.refl _) hp rfl
      · simp only [Bool.or_eq_false_iff, Bool.not_eq_false', decide_eq_true_eq, decide_eq_false_iff_not] at e
        refine ret_lst (.cons (call_val (.cons (.vr rfl) (.cons (.vr rfl) (.cons (.fld (.vr rfl) hw T.c_Works T.w_density rfl) .nil))) fun Q' q' => ⟨v, o, a.dense, rfl, by omega, by omega, q'⟩) .nil) (by show 1 ≤ sizeLine; decide) fun p hp => ?_
        exact (q.of (if_neg (by unfold Su72.AIR; omega))).still hW (.refl _) hp rfl
structure GYield (P : Program) (w : World) (K : PySem.W.Frag) (mg : Str → Option Value) (base : Heap) : Prop where
  volume : Cal P w K mg base 1 "volume" ["kilograms", "air", "density"] sp_volume
  kilograms_for : Cal P w K mg base 1 "kilograms_for" ["litres", "air", "density"] sp_kilograms_for
theorem ok_yielded {f : Addr} {fd : FuncData} (F : Fun K "yielded" "yielded" s_yielded f fd) (T : Txt K mg Cw C) (G : GYield P w K mg base) : FnOk P w K mg base CX0 9 f fd ["works", "numbers"] (spH Cw C 2 begun fun ks => .yield_ (ks.getD 0 0) (ks.getD 1 0)) := by
  have nd := sc_yielded.nd
  refine F.ok sc_yielded (fun vs H Q E h => ?_) (fun cdv A outer s H vs Q E hr h => ?_)
  · obtain ⟨W, L, nl, as, ls, s, ks, rfl, _⟩ := h
    rfl
  · obtain ⟨W, L, nl, as, ls, s, ks, rfl, hk, hn, _, hs, ⟨a, rfl⟩, hW, q⟩ := h
    obtain ⟨k, o, rfl⟩ := len2 hk
    · replace q : After Cw C H W L as ls (Su72.step (some a) (.yield_ k o)).1 (Su72.step (some a) (.yield_ k o)).2 Q := q
      have ok := hs a rfl
      have hd := ok.dense
      obtain ⟨dW, hw⟩ := hW.ins
      refine ⟨_, (pss_cons (ps_set (i := 2) nd rfl (Or.inl rfl) (pe_ix ix_seq (pv 1) pe_int (fun _ _ => rfl))) (pss_cons (ps_set (i := 3) nd rfl (Or.inl rfl) (pe_ix ix_seq (pv 1) pe_int (fun _ _ => rfl))) (pss_cons (ps_if (PW.pt (pw_or (pt_cmpR op_gt (pv 2) (pe_gint rfl T.m_MOST_AMOUNT) (nomark _)) (pw_or1 (pt_cmpR op_gt (pv 3) (pe_gint rfl T.m_MOST_AIR) (nomark _))))) (pss_one (ps_ret (pe_lst (pa_cons (pe_gint rfl T.m_OUT_OF_RANGE) pa_nil)))) pss_nil) (pss_one (ps_ret (pe_lst (pa_cons (pe_cal G.volume (hr.mono (by decide)) rfl (pa_cons (pv 2) (pa_cons (pv 3) (pa_cons (pe_fld (pv 0) rfl) pa_nil)))) pa_nil))))))), ?_⟩
      refine set_val (.ixL (.vr rfl) .cn (SqL.of hn) rfl) ?_
      refine set_val (.ixL (.vr rfl) .cn (SqL.of hn) rfl) ?_
      refine if_val (.or (.gt (.vr rfl) .cn) (.gt (.vr rfl) .cn)) (fun e => ?_) (fun e => ?_)
      · refine ret_lst (.cons .cn .nil) (by decide) fun p hp => ?_
        simp only [Bool.or_eq_true, decide_eq_true_eq] at e
        exact (q.of (if_pos (by unfold Su72.AIR; omega))).still hW (.refl _) hp rfl
      · simp only [Bool.or_eq_false_iff, decide_eq_false_iff_not] at e
        refine ret_lst (.cons (call_val (.cons (.vr rfl) (.cons (.vr rfl) (.cons (.fld (.vr rfl) hw T.c_Works T.w_density rfl) .nil))) fun Q' q' => ⟨k, o, a.dense, rfl, by omega, by omega, by omega, q'⟩) .nil) (by show 1 ≤ sizeLine; decide) fun p hp => ?_
        exact (q.of (if_neg (by unfold Su72.AIR; omega))).still hW (.refl _) hp rfl
theorem need_eq {n d o : Nat} : (1000 * n * d + 10000 * (100 + o) - 1) / (10000 * (100 + o)) = (n * d + 10 * (100 + o) - 1) / (10 * (100 + o)) := by
  have e : 10000 * (100 + o) = 1000 * (10 * (100 + o)) := by rw [← Nat.mul_assoc]
  rw [e, ← Nat.div_div_eq_div_mul, Nat.mul_assoc, ← Nat.mul_add]
  have hy : 1 ≤ n * d + 10 * (100 + o) := Nat.le_trans (by decide : 1 ≤ 10 * 100) (Nat.le_trans (Nat.mul_le_mul_left 10 (Nat.le_add_right 100 o)) (Nat.le_add_left _ _))
  generalize n * d + 10 * (100 + o) = x at hy
  congr 1
  omega
theorem ok_need {f : Addr} {fd : FuncData} (F : Fun K "need" "need" s_need f fd) (T : Txt K mg Cw C) (G : GYield P w K mg base) : FnOk P w K mg base CX0 9 f fd ["works", "numbers"] (spH Cw C 2 begun fun ks => .need (ks.getD 0 0) (ks.getD 1 0)) := by
  have nd := sc_need.nd
  refine F.ok sc_need (fun vs H Q E h => ?_) (fun cdv A outer s H vs Q E hr h => ?_)
  · obtain ⟨W, L, nl, as, ls, s, ks, rfl, _⟩ := h
    rfl
  · obtain ⟨W, L, nl, as, ls, s, ks, rfl, hk, hn, _, hs, ⟨a, rfl⟩, hW, q⟩ := h
    obtain ⟨n, o, rfl⟩ := len2 hk
    · replace q : After Cw C H W L as ls (Su72.step (some a) (.need n o)).1 (Su72.step (some a) (.need n o)).2 Q := q
      have ok := hs a rfl
      have hd := ok.dense
      obtain ⟨dW, hw⟩ := hW.ins
      refine ⟨_, (pss_cons (ps_set (i := 2) nd rfl (Or.inl rfl) (pe_ix ix_seq (pv 1) pe_int (fun _ _ => rfl))) (pss_cons (ps_set (i := 3) nd rfl (Or.inl rfl) (pe_ix ix_seq (pv 1) pe_int (fun _ _ => rfl))) (pss_cons (ps_if (PW.pt (pw_or (pt_cmpR op_gt (pv 2) (pe_gint rfl T.m_MOST_AMOUNT) (nomark _)) (pw_or1 (pt_cmpR op_gt (pv 3) (pe_gint rfl T.m_MOST_AIR) (nomark _))))) (pss_one (ps_ret (pe_lst (pa_cons (pe_gint rfl T.m_OUT_OF_RANGE) pa_nil)))) pss_nil) (pss_one (ps_ret (pe_lst (pa_cons (pe_cal G.kilograms_for (hr.mono (by decide)) rfl (pa_cons (pv 2) (pa_cons (pv 3) (pa_cons (pe_fld (pv 0) rfl) pa_nil)))) pa_nil))))))), ?_⟩
      refine set_val (.ixL (.vr rfl) .cn (SqL.of hn) rfl) ?_
      refine set_val (.ixL (.vr rfl) .cn (SqL.of hn) rfl) ?_
      refine if_val (.or (.gt (.vr rfl) .cn) (.gt (.vr rfl) .cn)) (fun e => ?_) (fun e => ?_)
      · refine ret_lst (.cons .cn .nil) (by decide) fun p hp => ?_
        simp only [Bool.or_eq_true, decide_eq_true_eq] at e
        exact (q.of (if_pos (by unfold Su72.AIR; omega))).still hW (.refl _) hp rfl
      · simp only [Bool.or_eq_false_iff, decide_eq_false_iff_not] at e
        refine ret_lst (.cons (call_val (.cons (.vr rfl) (.cons (.vr rfl) (.cons (.fld (.vr rfl) hw T.c_Works T.w_density rfl) .nil))) fun Q' q' => ⟨n, o, a.dense, rfl, by omega, by omega, by omega, q'⟩) .nil) (by show 1 ≤ sizeLine; decide) fun p hp => ?_
        refine (q.of (if_neg (by unfold Su72.AIR; omega))).still hW (.refl _) hp ?_
        rw [ansV_num]
        unfold Su72.Abs.need
        rw [need_eq]
        rfl
end
end Fz
set_option Elab.async false
set_option linter.all false
set_option maxRecDepth 100000
set_option maxHeartbeats 2000000
namespace Fz
open PySem PySem.Spec PyProof.Rows L2
section
variable {P : Program} {w : World} {K : PySem.W.Frag} {mg : Str → Option Value} {base : Heap} {Cw C : Addr}
theorem upd_keep {H : Hp} {p : Addr} {o : HO} {S : Addr → Prop} (h : S p) : Keep S H (upd H p o) := fun b u e n => by
  rw [upd_ne (fun z => n (by rw [z]; exact h))]
  exact e
theorem upd_twice {H : Hp} {a : Addr} {o u : HO} : upd (upd H a o) a u = upd H a u := by
  funext b
  by_cases z : b = a
  · rw [z, upd_same, upd_same]
  · rw [upd_ne z, upd_ne z, upd_ne z]
theorem free_upd {H : Hp} {a p : Addr} {o u : HO} (ha : H a = some o) (hp : upd H a u p = none) : H p = none := by
  by_cases z : p = a
  · rw [z, upd_same] at hp; cases hp
  · rw [upd_ne z] at hp; exact hp
theorem FzAt.put {C : Addr} {H : Hp} {a dx : Addr} {l : Loc} {x y : Su72.Freezer} (F : FzAt C H a l x) (hb : y.barrel = x.barrel) (hk : y.kg = x.kg := by rfl) (hm : y.ml = x.ml := by rfl) : FzAt C (upd H a (.ins C dx (fzF y l))) a l y := by
  obtain ⟨d0, e0⟩ := F.ins
  refine ⟨⟨dx, upd_same⟩, ?_, ?_, ?_, F.pk, F.pm, F.km⟩
  · rw [hb]
    obtain ⟨ts, h1, h2⟩ := F.parts.ex
    refine .mk' (ts := ts) ?_ (h2.imp fun t xs e => ?_)
    · rw [upd_ne (ne_of h1 e0 (by intro z; cases z))]
      exact h1
    · rw [upd_ne (ne_of e e0 (by intro z; cases z))]
      exact e
  · rw [hk, upd_ne (ne_of F.kg e0 (by intro z; cases z))]
    exact F.kg
  · rw [hm, upd_ne (ne_of F.ml e0 (by intro z; cases z))]
    exact F.ml
theorem ok_run {f : Addr} {fd : FuncData} (F : Fun K "run" "run" s_run f fd) (T : Txt K mg Cw C) : FnOk P w K mg base CX0 9 f fd ["works", "numbers"] (spH Cw C 4 there fun ks => .run (ks.getD 0 0) (ks.getD 1 0) (ks.getD 2 0) (ks.getD 3 0)) := by
  have nd := sc_run.nd
  refine F.ok sc_run (fun vs H Q E h => ?_) (fun cdv A outer s H vs Q E hr h => ?_)
  · obtain ⟨W, L, nl, as, ls, s, ks, rfl, _⟩ := h
    rfl
  · obtain ⟨W, L, nl, as, ls, s, ks, rfl, hk, hn, _, hs, ⟨a, rfl, hf⟩, hW, q⟩ := h
    obtain ⟨f, v, m, o, rfl⟩ := len4 hk
    · replace q : After Cw C H W L as ls (Su72.step (some a) (.run f v m o)).1 (Su72.step (some a) (.run f v m o)).2 Q := q
      replace hf : f < a.freezers.length := hf
      obtain ⟨dW, hw⟩ := hW.ins
      obtain ⟨x, af, l, hx, ha, hl, hA, hat⟩ := WkAt.pick hW hf
      obtain ⟨dx, hi⟩ := hA.ins
      refine ⟨_, (pss_cons (ps_set (i := 2) nd rfl (Or.inl rfl) (pe_ix ix_seq (pe_fld (pv 0) rfl) (pe_ix ix_seq (pv 1) pe_int (fun _ _ => rfl)) (fun _ _ => rfl))) (pss_cons (ps_set (i := 3) nd rfl (Or.inl rfl) (pe_ix ix_seq (pv 1) pe_int (fun _ _ => rfl))) (pss_cons (ps_set (i := 4) nd rfl (Or.inl rfl) (pe_ix ix_seq (pv 1) pe_int (fun _ _ => rfl))) (pss_cons (ps_set (i := 5) nd rfl (Or.inl rfl) (pe_ix ix_seq (pv 1) pe_int (fun _ _ => rfl))) (pss_cons (ps_if (PW.pt (pw_or (pt_cmpR op_ge (pv 3) (pe_gint rfl T.m_FLAVOURS) (nomark _)) (pw_or (pt_not (pt_chain op_le op_le pe_int (pv 4) (pe_gint rfl T.m_MOST_RATE))) (pw_or1 (pt_cmpR op_gt (pv 5) (pe_gint rfl T.m_MOST_AIR) (nomark _)))))) (pss_one (ps_ret (pe_lst (pa_cons (pe_gint rfl T.m_OUT_OF_RANGE) pa_nil)))) pss_nil) (pss_cons (ps_if (pt_val (pe_fld (pv 2) rfl)) (pss_one (ps_ret (pe_lst (pa_cons (pe_gint rfl T.m_FROZEN_IN) pa_nil)))) pss_nil) (pss_cons (ps_set (i := 6) nd rfl (Or.inl rfl) (pe_fld (pv 2) rfl)) (pss_cons (ps_fld (pv 2) (pe_op op_add (pv 3) pe_int) rfl) (pss_cons (ps_fld (pv 2) (pv 4) rfl) (pss_cons (ps_fld (pv 2) (pv 5) rfl) (pss_one (ps_ret (pe_lst (pa_cons (pv 6) pa_nil)))))))))))))), ?_⟩
      refine set_val (.ixL (.fld (.vr rfl) hw T.c_Works T.w_freezers rfl) (.ixL (.vr rfl) .cn (SqL.of hn) rfl) (SqL.of hW.lst) hat) ?_
      refine set_val (.ixL (.vr rfl) .cn (SqL.of hn) rfl) ?_
      refine set_val (.ixL (.vr rfl) .cn (SqL.of hn) rfl) ?_
      refine set_val (.ixL (.vr rfl) .cn (SqL.of hn) rfl) ?_
      refine if_val (.or (.ge (.vr rfl) .cn) (.or (.not (.chain .cn (.vr rfl) .cn)) (.gt (.vr rfl) .cn))) (fun e => ?_) (fun e => ?_)
      · refine ret_lst (.cons .cn .nil) (by decide) fun p hp => ?_
        simp only [Bool.or_eq_true, Bool.not_eq_true', decide_eq_false_iff_not, decide_eq_true_eq] at e
        exact (q.of ((if_neg (isF_of hf)).trans (if_pos (by unfold Su72.FLAVOURS Su72.FAST Su72.AIR; omega)))).still hW (.refl _) hp rfl
      · simp only [Bool.or_eq_false_iff, Bool.not_eq_false', decide_eq_true_eq, decide_eq_false_iff_not] at e
        have d1 : Su72.does a (.run f v m o) = if (a.freezer f).stuck = true then (a, Su72.no (-16)) else (a.setF f fun x => { x with feed := v + 1, rate := m, over := o }, Su72.num (a.freezer f).feed []) :=
          (if_neg (isF_of hf)).trans (if_neg (by unfold Su72.FLAVOURS Su72.FAST Su72.AIR; omega))
        rw [freezer_of hx, setF_of hx] at d1
        refine if_val (.val (.fld (.vr rfl) hi T.c_Freezer T.f_frozen rfl)) (fun e2 => ?_) (fun e2 => ?_)
        · refine ret_lst (.cons .cn .nil) (by decide) fun p hp => ?_
          exact (q.of (d1.trans (if_pos e2))).still hW (.refl _) hp rfl
        · refine set_val (.fld (.vr rfl) hi T.c_Freezer T.f_fed_with rfl) ?_
          refine fld_val (.add (.vr rfl) .cn) (.vr rfl) hi T.c_Freezer T.f_fed_with (by show 10 < 1000; decide) ?_
          refine fld_val (.vr rfl) (.vr rfl) upd_same T.c_Freezer T.f_rate (by show 10 < 1000; decide) ?_
          refine fld_val (.vr rfl) (.vr rfl) upd_same T.c_Freezer T.f_air (by show 10 < 1000; decide) ?_
          refine ret_lst (.cons (.vr rfl) .nil) (by show 1 ≤ sizeLine; decide) fun p hp => ?_
          rw [upd_twice, upd_twice] at hp ⊢
          exact (q.of (d1.trans (if_neg (by rw [e2]; decide)))).one hW ha hl rfl (y := { x with feed := v + 1, rate := m, over := o }) (hA.put (y := { x with feed := v + 1, rate := m, over := o }) rfl) (upd_keep (.inl rfl)) (free_upd hi hp) hp rfl
theorem ok_stop {f : Addr} {fd : FuncData} (F : Fun K "stop" "stop" s_stop f fd) (T : Txt K mg Cw C) : FnOk P w K mg base CX0 9 f fd ["works", "numbers"] (spH Cw C 1 there fun ks => .halt_ (ks.getD 0 0)) := by
  have nd := sc_stop.nd
  refine F.ok sc_stop (fun vs H Q E h => ?_) (fun cdv A outer s H vs Q E hr h => ?_)
  · obtain ⟨W, L, nl, as, ls, s, ks, rfl, _⟩ := h
    rfl
  · obtain ⟨W, L, nl, as, ls, s, ks, rfl, hk, hn, _, hs, ⟨a, rfl, hf⟩, hW, q⟩ := h
    obtain ⟨f, rfl⟩ := len1 hk
    · replace q : After Cw C H W L as ls (Su72.step (some a) (.halt_ f)).1 (Su72.step (some a) (.halt_ f)).2 Q := q
      replace hf : f < a.freezers.length := hf
      have ok := hs a rfl
      obtain ⟨dW, hw⟩ := hW.ins
      obtain ⟨x, af, l, hx, ha, hl, hA, hat⟩ := WkAt.pick hW hf
      have okx := ok.each x (List.mem_of_getElem? hx)
      obtain ⟨dx, hi⟩ := hA.ins
      refine ⟨_, (pss_cons (ps_set (i := 2) nd rfl (Or.inl rfl) (pe_ix ix_seq (pe_fld (pv 0) rfl) (pe_ix ix_seq (pv 1) pe_int (fun _ _ => rfl)) (fun _ _ => rfl))) (pss_cons (ps_if (pt_cmpR op_eq (pe_fld (pv 2) rfl) pe_int (nomark _)) (pss_one (ps_ret (pe_lst (pa_cons (pe_gint rfl T.m_NOT_FED) pa_nil)))) pss_nil) (pss_cons (ps_set (i := 3) nd rfl (Or.inl rfl) (pe_op op_sub (pe_fld (pv 2) rfl) pe_int)) (pss_cons (ps_fld (pv 2) pe_int rfl) (pss_one (ps_ret (pe_lst (pa_cons (pv 3) pa_nil)))))))), ?_⟩
      refine set_val (.ixL (.fld (.vr rfl) hw T.c_Works T.w_freezers rfl) (.ixL (.vr rfl) .cn (SqL.of hn) rfl) (SqL.of hW.lst) hat) ?_
      have d1 : Su72.does a (.halt_ f) = if (a.freezer f).feed = 0 then (a, Su72.no (-6)) else (a.setF f fun x => { x with feed := 0 }, Su72.num ((a.freezer f).feed - 1) []) := if_neg (isF_of hf)
      rw [freezer_of hx, setF_of hx] at d1
      refine if_val (.eq (.fld (.vr rfl) hi T.c_Freezer T.f_fed_with rfl) .cn) (fun e => ?_) (fun e => ?_)
      · have e1 := of_decide_eq_true e
        refine ret_lst (.cons .cn .nil) (by decide) fun p hp => ?_
        exact (q.of (d1.trans (if_pos (by omega)))).still hW (.refl _) hp rfl
      · have e1 := of_decide_eq_false e
        refine set_val (.sub (.fld (.vr rfl) hi T.c_Freezer T.f_fed_with rfl) .cn) ?_
        refine fld_val .cn (.vr rfl) hi T.c_Freezer T.f_fed_with (by show 10 < 1000; decide) ?_
        refine ret_lst (.cons (.vr rfl) .nil) (by show 1 ≤ sizeLine; decide) fun p hp => ?_
        refine (q.of (d1.trans (if_neg (by omega)))).one hW ha hl rfl (y := { x with feed := 0 }) (hA.put (y := { x with feed := 0 }) rfl) (upd_keep (.inl rfl)) (free_upd hi hp) hp ?_
        rw [ansV_num, Int.natCast_sub (by omega)]
        rfl
structure GFz (P : Program) (w : World) (K : PySem.W.Frag) (mg : Str → Option Value) (base : Heap) : Prop where
  weight : Cal P w K mg base 1 "weight" ["parts"] sp_weight
  how_cold : Cal P w K mg base 1 "how_cold" ["power", "rate"] sp_how_cold
theorem ok_thaw {f : Addr} {fd : FuncData} (F : Fun K "thaw" "thaw" s_thaw f fd) (T : Txt K mg Cw C) (G : GFz P w K mg base) : FnOk P w K mg base CX0 9 f fd ["works", "numbers"] (spH Cw C 1 there fun ks => .thaw (ks.getD 0 0)) := by
  have nd := sc_thaw.nd
  refine F.ok sc_thaw (fun vs H Q E h => ?_) (fun cdv A outer s H vs Q E hr h => ?_)
  · obtain ⟨W, L, nl, as, ls, s, ks, rfl, _⟩ := h
    rfl
  · obtain ⟨W, L, nl, as, ls, s, ks, rfl, hk, hn, _, hs, ⟨a, rfl, hf⟩, hW, q⟩ := h
    obtain ⟨f, rfl⟩ := len1 hk
    · replace q : After Cw C H W L as ls (Su72.step (some a) (.thaw f)).1 (Su72.step (some a) (.thaw f)).2 Q := q
      replace hf : f < a.freezers.length := hf
      have ok := hs a rfl
      obtain ⟨dW, hw⟩ := hW.ins
      obtain ⟨x, af, l, hx, ha, hl, hA, hat⟩ := WkAt.pick hW hf
      have okx := ok.each x (List.mem_of_getElem? hx)
      obtain ⟨dx, hi⟩ := hA.ins
      refine ⟨_, (pss_cons (ps_set (i := 2) nd rfl (Or.inl rfl) (pe_ix ix_seq (pe_fld (pv 0) rfl) (pe_ix ix_seq (pv 1) pe_int (fun _ _ => rfl)) (fun _ _ => rfl))) (pss_cons (ps_if (pt_not (pt_val (pe_fld (pv 2) rfl))) (pss_one (ps_ret (pe_lst (pa_cons (pe_gint rfl T.m_SO_ALREADY) pa_nil)))) pss_nil) (pss_cons (ps_fld (pv 2) pe_bl rfl) (pss_cons (ps_fld (pv 2) pe_int rfl) (pss_one (ps_ret (pe_lst (pa_cons (pe_cal G.weight (hr.mono (by decide)) rfl (pa_cons (pe_fld (pv 2) rfl) pa_nil)) pa_nil)))))))), ?_⟩
      refine set_val (.ixL (.fld (.vr rfl) hw T.c_Works T.w_freezers rfl) (.ixL (.vr rfl) .cn (SqL.of hn) rfl) (SqL.of hW.lst) hat) ?_
      have d1 : Su72.does a (.thaw f) = if (a.freezer f).stuck = false then (a, Su72.no (-17)) else (a.setF f fun x => { x with stuck := false, feed := 0 }, Su72.num (Su72.level (a.freezer f).barrel) []) := if_neg (isF_of hf)
      rw [freezer_of hx, setF_of hx] at d1
      refine if_val (.not (.val (.fld (.vr rfl) hi T.c_Freezer T.f_frozen rfl))) (fun e => ?_) (fun e => ?_)
      · refine ret_lst (.cons .cn .nil) (by decide) fun p hp => ?_
        exact (q.of (d1.trans (if_pos (by simpa using e)))).still hW (.refl _) hp rfl
      · have e1 : x.stuck = true := by simpa using e
        refine fld_val .cn (.vr rfl) hi T.c_Freezer T.f_frozen (by show 10 < 1000; decide) ?_
        refine fld_val .cn (.vr rfl) upd_same T.c_Freezer T.f_fed_with (by show 10 < 1000; decide) ?_
        rw [upd_twice]
        have hA2 := hA.put (dx := dx) (y := { x with stuck := false, feed := 0 }) rfl
        have hlev : x.barrel.length ≤ 10000 := by
          have z1 := okx.parts.len
          have z2 := okx.lev
          have z3 := okx.hold
          omega
        refine ⟨_, rfl, af, C, dx, _, _, rfl, upd_same, T.c_Freezer, T.f_parts, rfl, l.p, x.barrel, rfl, hA2.parts, hlev, fun H2 s2 => ?_⟩
        refine ⟨by show 1 ≤ sizeLine; decide, fun p hp => ?_⟩
        refine (q.of (d1.trans (if_neg (by rw [e1]; decide)))).one hW ha hl rfl (y := { x with stuck := false, feed := 0 }) (hA2.same s2) ((upd_keep (.inl rfl)).trans (Same.keep s2)) (free_upd hi (s2.free hp)) hp rfl
theorem ok_cold {f : Addr} {fd : FuncData} (F : Fun K "cold" "cold" s_cold f fd) (T : Txt K mg Cw C) (G : GFz P w K mg base) : FnOk P w K mg base CX0 9 f fd ["works", "numbers"] (spH Cw C 2 there fun ks => .cold (ks.getD 0 0) (ks.getD 1 0)) := by
  have nd := sc_cold.nd
  refine F.ok sc_cold (fun vs H Q E h => ?_) (fun cdv A outer s H vs Q E hr h => ?_)
  · obtain ⟨W, L, nl, as, ls, s, ks, rfl, _⟩ := h
    rfl
  · obtain ⟨W, L, nl, as, ls, s, ks, rfl, hk, hn, _, hs, ⟨a, rfl, hf⟩, hW, q⟩ := h
    obtain ⟨f, m, rfl⟩ := len2 hk
    · replace q : After Cw C H W L as ls (Su72.step (some a) (.cold f m)).1 (Su72.step (some a) (.cold f m)).2 Q := q
      replace hf : f < a.freezers.length := hf
      have ok := hs a rfl
      obtain ⟨dW, hw⟩ := hW.ins
      obtain ⟨x, af, l, hx, ha, hl, hA, hat⟩ := WkAt.pick hW hf
      have okx := ok.each x (List.mem_of_getElem? hx)
      obtain ⟨dx, hi⟩ := hA.ins
      refine ⟨_, (pss_cons (ps_set (i := 2) nd rfl (Or.inl rfl) (pe_ix ix_seq (pe_fld (pv 0) rfl) (pe_ix ix_seq (pv 1) pe_int (fun _ _ => rfl)) (fun _ _ => rfl))) (pss_cons (ps_set (i := 3) nd rfl (Or.inl rfl) (pe_ix ix_seq (pv 1) pe_int (fun _ _ => rfl))) (pss_cons (ps_if (pt_not (pt_chain op_le op_le pe_int (pv 3) (pe_gint rfl T.m_MOST_RATE))) (pss_one (ps_ret (pe_lst (pa_cons (pe_gint rfl T.m_OUT_OF_RANGE) pa_nil)))) pss_nil) (pss_cons (ps_set (i := 4) nd rfl (Or.inl rfl) (pe_cal G.how_cold (hr.mono (by decide)) rfl (pa_cons (pe_fld (pv 2) rfl) (pa_cons (pv 3) pa_nil)))) (pss_one (ps_ret (pe_lst (pa_cons (pv 4) (pa_cons (pe_ifExp (pt_cmpR op_gt (pv 4) (pe_fld (pv 0) rfl) (nomark _)) pe_int pe_int) pa_nil))))))))), ?_⟩
      refine set_val (.ixL (.fld (.vr rfl) hw T.c_Works T.w_freezers rfl) (.ixL (.vr rfl) .cn (SqL.of hn) rfl) (SqL.of hW.lst) hat) ?_
      refine set_val (.ixL (.vr rfl) .cn (SqL.of hn) rfl) ?_
      refine if_val (.not (.chain .cn (.vr rfl) .cn)) (fun e => ?_) (fun e => ?_)
      · simp only [Bool.not_eq_true', decide_eq_false_iff_not] at e
        refine ret_lst (.cons .cn .nil) (by decide) fun p hp => ?_
        exact (q.of ((if_neg (isF_of hf)).trans (if_pos (by unfold Su72.FAST; omega)))).still hW (.refl _) hp rfl
      · simp only [Bool.not_eq_false', decide_eq_true_eq] at e
        refine set_val (call_val (.cons (.fld (.vr rfl) hi T.c_Freezer T.f_power rfl) (.cons (.vr rfl) .nil)) fun Q' q' => ⟨x.power, m, rfl, by omega, by omega, q'⟩) ?_
        refine ret_lst (.cons (.vr rfl) (.cons (.ife (.gt (.vr rfl) (.fld (.vr rfl) hw T.c_Works T.w_coldest rfl)) .cn .cn) .nil)) (by show 2 ≤ sizeLine; decide) fun p hp => ?_
        refine (q.of ((if_neg (isF_of hf)).trans (if_neg (by unfold Su72.FAST; omega)))).still hW (.refl _) hp ?_
        rw [ansV_num, freezer_of hx]
        unfold Su72.cold Su72.bit
        by_cases hc : a.stiff < x.power / m
        · rw [decide_eq_true hc, decide_eq_true (show ((a.stiff : Nat) : Int) < ((x.power / m : Nat) : Int) by omega)]
          rfl
        · rw [decide_eq_false hc, decide_eq_false (show ¬ ((a.stiff : Nat) : Int) < ((x.power / m : Nat) : Int) by omega)]
          rfl
end
end Fz
set_option Elab.async false
set_option linter.all false
set_option maxRecDepth 100000
set_option maxHeartbeats 2000000
namespace Fz
open PySem PySem.Spec PyProof.Rows L2
theorem find_at {α : Type} {p : α → Bool} : ∀ {l : List α} {i : Nat} {x : α}, l[i]? = some x → p x = true → (∀ j y, j < i → l[j]? = some y → p y = false) → l.find? p = some x
  | [], i, x, h, _, _ => by simp at h
  | y :: l, 0, x, h, hp, _ => by
    have e := Option.some.inj h
    subst e
    exact List.find?_cons_of_pos hp
  | y :: l, i + 1, x, h, hp, hn => by
    rw [List.find?_cons_of_neg (by rw [hn 0 y (Nat.succ_pos _) rfl]; decide)]
    exact find_at (l := l) (i := i) h hp fun j z hj hz => hn (j + 1) z (by omega) hz
theorem find_none {α : Type} {p : α → Bool} {l : List α} (h : ∀ (j : Nat) (y : α), l[j]? = some y → p y = false) : l.find? p = none := by
  rw [List.find?_eq_none]
  intro x hx
  obtain ⟨j, hj⟩ := List.getElem?_of_mem hx
  rw [h j x hj]
  decide
def rates : List Nat := (List.range (Su72.FAST + 1)).drop 1
theorem rates_len : rates.length = 100 := by decide
theorem rates_at {i : Nat} (h : i < 100) : rates[i]? = some (i + 1) := by
  unfold rates
  rw [List.getElem?_drop, List.getElem?_range (by unfold Su72.FAST; omega)]
  congr 1
  omega
theorem rates_get {i y : Nat} (h : rates[i]? = some y) : i < 100 ∧ y = i + 1 := by
  have h1 : i < 100 := by
    have := (List.getElem?_eq_some_iff.mp h).1
    rw [rates_len] at this
    exact this
  rw [rates_at h1] at h
  exact ⟨h1, (Option.some.inj h).symm⟩
theorem back_at {i : Nat} (h : i < 100) : rates.reverse[i]? = some (100 - i) := by
  rw [List.getElem?_reverse (by rw [rates_len]; exact h), rates_len, rates_at (by omega)]
  congr 1
  omega
theorem back_get {i y : Nat} (h : rates.reverse[i]? = some y) : i < 100 ∧ y = 100 - i := by
  have h1 : i < 100 := by
    have := (List.getElem?_eq_some_iff.mp h).1
    rw [List.length_reverse, rates_len] at this
    exact this
  rw [back_at h1] at h
  exact ⟨h1, (Option.some.inj h).symm⟩
section
variable {P : Program} {w : World} {K : PySem.W.Frag} {mg : Str → Option Value} {base : Heap} {Cw C : Addr}
theorem ok_slowest {f : Addr} {fd : FuncData} (F : Fun K "slowest" "slowest" s_slowest f fd) (T : Txt K mg Cw C) (G : GFz P w K mg base) : FnOk P w K mg base CX0 9 f fd ["works", "numbers"] (spH Cw C 1 there fun ks => .slowest (ks.getD 0 0)) := by
  have nd := sc_slowest.nd
  refine F.ok sc_slowest (fun vs H Q E h => ?_) (fun cdv A outer s H vs Q E hr h => ?_)
  · obtain ⟨W, L, nl, as, ls, s, ks, rfl, _⟩ := h
    rfl
  · obtain ⟨W, L, nl, as, ls, s, ks, rfl, hk, hn, _, hs, ⟨a, rfl, hf⟩, hW, q⟩ := h
    obtain ⟨f, rfl⟩ := len1 hk
    · replace q : After Cw C H W L as ls (Su72.step (some a) (.slowest f)).1 (Su72.step (some a) (.slowest f)).2 Q := q
      replace hf : f < a.freezers.length := hf
      have ok := hs a rfl
      obtain ⟨dW, hw⟩ := hW.ins
      obtain ⟨x, af, l, hx, ha, hl, hA, hat⟩ := WkAt.pick hW hf
      have okx := ok.each x (List.mem_of_getElem? hx)
      obtain ⟨dx, hi⟩ := hA.ins
      have d1 : Su72.does a (.slowest f) = match a.slowest f with
        | none => (a, Su72.no (-33))
        | some m => (a, Su72.num m [Su72.cold (a.freezer f).power m]) := if_neg (isF_of hf)
      have d2 : a.slowest f = rates.find? fun m => decide (Su72.cold x.power m ≤ a.stiff) := by
        unfold Su72.Abs.slowest
        rw [freezer_of hx]
        rfl
      refine ⟨_, (pss_cons (ps_set (i := 2) nd rfl (Or.inl rfl) (pe_ix ix_seq (pe_fld (pv 0) rfl) (pe_ix ix_seq (pv 1) pe_int (fun _ _ => rfl)) (fun _ _ => rfl))) (pss_cons (ps_for PassesOwn.never rfl (pi_range2 rfl T.n_range (pa_cons pe_int (pa_cons (pe_op op_add (pe_gint rfl T.m_MOST_RATE) pe_int) pa_nil))) (pg_name (i := 3) nd rfl (Or.inl rfl)) (pss_cons (ps_set (i := 4) nd rfl (Or.inl rfl) (pe_cal G.how_cold (hr.mono (by decide)) rfl (pa_cons (pe_fld (pv 2) rfl) (pa_cons (pv 3) pa_nil)))) (pss_one (ps_if (pt_cmpR op_le (pv 4) (pe_fld (pv 0) rfl) (nomark _)) (pss_one (ps_ret (pe_lst (pa_cons (pv 3) (pa_cons (pv 4) pa_nil))))) pss_nil)))) (pss_one (ps_ret (pe_lst (pa_cons (pe_gint rfl T.m_CANNOT_BE) pa_nil)))))), ?_⟩
      refine set_val (.ixL (.fld (.vr rfl) hw T.c_Works T.w_freezers rfl) (.ixL (.vr rfl) .cn (SqL.of hn) rfl) (SqL.of hW.lst) hat) ?_
      refine ⟨_, _, rfl, rfl, 1, 101, rfl, ⟨by decide, by decide, by decide, by decide⟩, for_range (lo := 1) (n := 100) (fun i σ H' => ∃ v3 v4 : Option V, σ = [some (.ref W), some (.ref nl), some (.ref af), v3, v4] ∧ H' = H ∧ ∀ j, j < i → a.stiff < x.power / (j + 1)) ⟨none, none, rfl, rfl, fun j hj => absurd hj (Nat.not_lt_zero _)⟩ ?_ ?_⟩
      · rintro i σ H' hi' ⟨v3, v4, rfl, rfl, hall⟩
        have ei : (1 : Int) + (i : Int) = ((i + 1 : Nat) : Int) := by omega
        refine set_val (call_val (.cons (.fld (.vr rfl) hi T.c_Freezer T.f_power rfl) (.cons (.vr rfl) .nil)) fun Q' q' => ⟨x.power, i + 1, by rw [ei], by omega, by omega, q'⟩) ?_
        refine if_val (.le (.vr rfl) (.fld (.vr rfl) hw T.c_Works T.w_coldest rfl)) (fun e => ?_) (fun e => ?_)
        · have e1 := of_decide_eq_true e
          refine ret_lst (.cons (.vr rfl) (.cons (.vr rfl) .nil)) (by show 2 ≤ sizeLine; decide) fun p hp => ?_
          have d3 : a.slowest f = some (i + 1) := by
            rw [d2]
            refine find_at (i := i) (rates_at hi') (decide_eq_true (by unfold Su72.cold; omega)) fun j y hj hy => ?_
            obtain ⟨_, rfl⟩ := rates_get hy
            exact decide_eq_false (by have := hall j hj; unfold Su72.cold; omega)
          rw [d3, freezer_of hx] at d1
          refine (q.of d1).still hW (.refl _) hp ?_
          rw [ansV_num, ei]
          rfl
        · have e1 := of_decide_eq_false e
          refine ⟨_, _, rfl, rfl, fun j hj => ?_⟩
          by_cases z : j = i
          · subst z; omega
          · exact hall j (by omega)
      · rintro σ H' ⟨v3, v4, rfl, rfl, hall⟩
        refine ret_lst (σ := []) (.cons .cn .nil) (by decide) fun p hp => ?_
        have d3 : a.slowest f = none := by
          rw [d2]
          refine find_none fun j y hy => ?_
          obtain ⟨hj, rfl⟩ := rates_get hy
          exact decide_eq_false (by have := hall j hj; unfold Su72.cold; omega)
        rw [d3] at d1
        exact (q.of d1).still hW (.refl _) hp rfl
theorem ok_fastest {f : Addr} {fd : FuncData} (F : Fun K "fastest" "fastest" s_fastest f fd) (T : Txt K mg Cw C) (G : GFz P w K mg base) : FnOk P w K mg base CX0 9 f fd ["works", "numbers"] (spH Cw C 2 there fun ks => .fastest (ks.getD 0 0) (ks.getD 1 0)) := by
  have nd := sc_fastest.nd
  refine F.ok sc_fastest (fun vs H Q E h => ?_) (fun cdv A outer s H vs Q E hr h => ?_)
  · obtain ⟨W, L, nl, as, ls, s, ks, rfl, _⟩ := h
    rfl
  · obtain ⟨W, L, nl, as, ls, s, ks, rfl, hk, hn, _, hs, ⟨a, rfl, hf⟩, hW, q⟩ := h
    obtain ⟨f, c, rfl⟩ := len2 hk
    · replace q : After Cw C H W L as ls (Su72.step (some a) (.fastest f c)).1 (Su72.step (some a) (.fastest f c)).2 Q := q
      replace hf : f < a.freezers.length := hf
      have ok := hs a rfl
      obtain ⟨dW, hw⟩ := hW.ins
      obtain ⟨x, af, l, hx, ha, hl, hA, hat⟩ := WkAt.pick hW hf
      have okx := ok.each x (List.mem_of_getElem? hx)
      obtain ⟨dx, hi⟩ := hA.ins
      refine ⟨_, (pss_cons (ps_set (i := 2) nd rfl (Or.inl rfl) (pe_ix ix_seq (pe_fld (pv 0) rfl) (pe_ix ix_seq (pv 1) pe_int (fun _ _ => rfl)) (fun _ _ => rfl))) (pss_cons (ps_set (i := 3) nd rfl (Or.inl rfl) (pe_ix ix_seq (pv 1) pe_int (fun _ _ => rfl))) (pss_cons (ps_if (pt_cmpR op_gt (pv 3) (pe_gint rfl T.m_MOST_COLD) (nomark _)) (pss_one (ps_ret (pe_lst (pa_cons (pe_gint rfl T.m_OUT_OF_RANGE) pa_nil)))) pss_nil) (pss_cons (ps_for PassesOwn.never rfl (pi_range3 rfl T.n_range (pa_cons (pe_gint rfl T.m_MOST_RATE) (pa_cons pe_int (pa_cons (pe_un un_neg pe_int) pa_nil)))) (pg_name (i := 4) nd rfl (Or.inl rfl)) (pss_cons (ps_set (i := 5) nd rfl (Or.inl rfl) (pe_cal G.how_cold (hr.mono (by decide)) rfl (pa_cons (pe_fld (pv 2) rfl) (pa_cons (pv 4) pa_nil)))) (pss_one (ps_if (pt_chain op_le op_le (pv 3) (pv 5) (pe_fld (pv 0) rfl)) (pss_one (ps_ret (pe_lst (pa_cons (pv 4) (pa_cons (pv 5) pa_nil))))) pss_nil)))) (pss_one (ps_ret (pe_lst (pa_cons (pe_gint rfl T.m_CANNOT_BE) pa_nil)))))))), ?_⟩
      refine set_val (.ixL (.fld (.vr rfl) hw T.c_Works T.w_freezers rfl) (.ixL (.vr rfl) .cn (SqL.of hn) rfl) (SqL.of hW.lst) hat) ?_
      refine set_val (.ixL (.vr rfl) .cn (SqL.of hn) rfl) ?_
      refine if_val (.gt (.vr rfl) .cn) (fun e => ?_) (fun e => ?_)
      · have e1 := of_decide_eq_true e
        refine ret_lst (.cons .cn .nil) (by decide) fun p hp => ?_
        exact (q.of ((if_neg (isF_of hf)).trans (if_pos (by omega)))).still hW (.refl _) hp rfl
      have e1 := of_decide_eq_false e
      have d1 : Su72.does a (.fastest f c) = match a.fastest f c with
        | none => (a, Su72.no (-33))
        | some m => (a, Su72.num m [Su72.cold (a.freezer f).power m]) := (if_neg (isF_of hf)).trans (if_neg (by omega))
      have d2 : a.fastest f c = rates.reverse.find? fun m => decide (c ≤ Su72.cold x.power m) && decide (Su72.cold x.power m ≤ a.stiff) := by
        unfold Su72.Abs.fastest
        rw [freezer_of hx]
        rfl
      refine ⟨_, rfl, 100, 0, -1, 100, rfl, ⟨by decide, by decide, by decide, by decide⟩, for_rangeC (lo := 100) (c := -1) (n := 100) (fun i σ H' => ∃ v4 v5 : Option V, σ = [some (.ref W), some (.ref nl), some (.ref af), some (.int c), v4, v5] ∧ H' = H ∧ ∀ j, j < i → ¬ (c ≤ x.power / (100 - j) ∧ x.power / (100 - j) ≤ a.stiff)) ⟨none, none, rfl, rfl, fun j hj => absurd hj (Nat.not_lt_zero _)⟩ ?_ ?_⟩
      · rintro i σ H' hi' ⟨v4, v5, rfl, rfl, hall⟩
        have ei : (100 : Int) + (i : Nat) * (-1) = ((100 - i : Nat) : Int) := by omega
        refine set_val (call_val (.cons (.fld (.vr rfl) hi T.c_Freezer T.f_power rfl) (.cons (.vr rfl) .nil)) fun Q' q' => ⟨x.power, 100 - i, by rw [ei], by omega, by omega, q'⟩) ?_
        refine if_val (.chain (.vr rfl) (.vr rfl) (.fld (.vr rfl) hw T.c_Works T.w_coldest rfl)) (fun e => ?_) (fun e => ?_)
        · have e1 := of_decide_eq_true e
          refine ret_lst (.cons (.vr rfl) (.cons (.vr rfl) .nil)) (by show 2 ≤ sizeLine; decide) fun p hp => ?_
          have d3 : a.fastest f c = some (100 - i) := by
            rw [d2]
            refine find_at (i := i) (back_at hi') ?_ fun j y hj hy => ?_
            · unfold Su72.cold
              rw [decide_eq_true (show c ≤ x.power / (100 - i) by omega), decide_eq_true (show x.power / (100 - i) ≤ a.stiff by omega)]
              rfl
            · obtain ⟨_, rfl⟩ := back_get hy
              rw [← Bool.decide_and]
              exact decide_eq_false (hall j hj)
          rw [d3, freezer_of hx] at d1
          refine (q.of d1).still hW (.refl _) hp ?_
          rw [ansV_num, ei]
          rfl
        · have e1 := of_decide_eq_false e
          refine ⟨_, _, rfl, rfl, fun j hj => ?_⟩
          by_cases z : j = i
          · subst z; omega
          · exact hall j (by omega)
      · rintro σ H' ⟨v4, v5, rfl, rfl, hall⟩
        refine ret_lst (σ := []) (.cons .cn .nil) (by decide) fun p hp => ?_
        have d3 : a.fastest f c = none := by
          rw [d2]
          refine find_none fun j y hy => ?_
          obtain ⟨hj, rfl⟩ := back_get hy
          rw [← Bool.decide_and]
          exact decide_eq_false (hall j hj)
        rw [d3] at d1
        exact (q.of d1).still hW (.refl _) hp rfl
end
end Fz
set_option Elab.async false
set_option linter.all false
set_option maxRecDepth 100000
set_option maxHeartbeats 2000000
namespace Fz
open PySem PySem.Spec PyProof.Rows L2
def mkCall (p : Nat) (ks : List Nat) : Su72.Call := match p with
  | 0 => .begin_ (ks.getD 0 0) (ks.getD 1 0)
  | 1 => .freezer (ks.getD 0 0) (ks.getD 1 0)
  | 2 => .run (ks.getD 0 0) (ks.getD 1 0) (ks.getD 2 0) (ks.getD 3 0)
  | 3 => .halt_ (ks.getD 0 0)
  | 4 => .thaw (ks.getD 0 0)
  | 5 => .minutes (ks.getD 0 0)
  | 6 => .cup (ks.getD 0 0) (ks.getD 1 0)
  | 7 => .cupfor (ks.getD 0 0) (ks.getD 1 0)
  | 8 => .fastest (ks.getD 0 0) (ks.getD 1 0)
  | 9 => .slowest (ks.getD 0 0)
  | 10 => .cold (ks.getD 0 0) (ks.getD 1 0)
  | 11 => .flushed (ks.getD 0 0)
  | 12 => .until (ks.getD 0 0) (ks.getD 1 0) (ks.getD 2 0)
  | 13 => .ahead (ks.getD 0 0)
  | 14 => .made (ks.getD 0 0)
  | 15 => .yield_ (ks.getD 0 0) (ks.getD 1 0)
  | 16 => .need (ks.getD 0 0) (ks.getD 1 0)
  | 17 => .barrel (ks.getD 0 0)
  | 18 => .look (ks.getD 0 0)
  | 19 => .sums
  | _ => .state
def onF (p : Nat) : Bool := decide (p ∈ [2, 3, 4, 8, 9, 10, 11, 12, 17, 18])
def preOf (p : Nat) : Option Su72.Abs → List Nat → Prop := if p = 0 then fun _ _ => True else if onF p = true then there else begun
def lens : List Nat := [2, 2, 4, 1, 1, 1, 2, 2, 2, 1, 2, 1, 3, 1, 1, 2, 2, 1, 1, 0, 0]
theorem shape_lens {p : Int} {n : Nat} (h : PySu72.shape p = some (n, 0)) : ∃ q : Nat, p = (q : Int) ∧ q < 21 ∧ lens[q]? = some n := by
  obtain ⟨_, hm⟩ := shape_cases h
  rcases hm with ⟨rfl, rfl⟩ | ⟨rfl, rfl⟩ | ⟨rfl, rfl⟩ | ⟨rfl, rfl⟩ | ⟨rfl, rfl⟩ | ⟨rfl, rfl⟩ | ⟨rfl, rfl⟩ | ⟨rfl, rfl⟩ | ⟨rfl, rfl⟩ | ⟨rfl, rfl⟩ | ⟨rfl, rfl⟩ | ⟨rfl, rfl⟩ | ⟨rfl, rfl⟩ | ⟨rfl, rfl⟩ | ⟨rfl, rfl⟩ | ⟨rfl, rfl⟩ | ⟨rfl, rfl⟩ | ⟨rfl, rfl⟩ | ⟨rfl, rfl⟩ | ⟨rfl, rfl⟩ | ⟨rfl, rfl⟩
  · exact ⟨0, rfl, by decide, rfl⟩
  · exact ⟨1, rfl, by decide, rfl⟩
  · exact ⟨2, rfl, by decide, rfl⟩
  · exact ⟨3, rfl, by decide, rfl⟩
  · exact ⟨4, rfl, by decide, rfl⟩
  · exact ⟨5, rfl, by decide, rfl⟩
  · exact ⟨6, rfl, by decide, rfl⟩
  · exact ⟨7, rfl, by decide, rfl⟩
  · exact ⟨8, rfl, by decide, rfl⟩
  · exact ⟨9, rfl, by decide, rfl⟩
  · exact ⟨10, rfl, by decide, rfl⟩
  · exact ⟨11, rfl, by decide, rfl⟩
  · exact ⟨12, rfl, by decide, rfl⟩
  · exact ⟨13, rfl, by decide, rfl⟩
  · exact ⟨14, rfl, by decide, rfl⟩
  · exact ⟨15, rfl, by decide, rfl⟩
  · exact ⟨16, rfl, by decide, rfl⟩
  · exact ⟨17, rfl, by decide, rfl⟩
  · exact ⟨18, rfl, by decide, rfl⟩
  · exact ⟨19, rfl, by decide, rfl⟩
  · exact ⟨20, rfl, by decide, rfl⟩
def intsK (ks : List Nat) : List Int := ks.map fun (k : Nat) => (k : Int)
theorem callOf_mk {q n : Nat} {ks : List Nat} (h : lens[q]? = some n) (hk : ks.length = n) : Su72Neutral.callOf ((q : Int) :: intsK ks) = some (mkCall q ks) := by
  have hq : q < 21 := (List.getElem?_eq_some_iff.mp h).1
  match q, hq, h with
  | 0, _, h => cases h; obtain ⟨a, b, rfl⟩ := len2 hk; rfl
  | 1, _, h => cases h; obtain ⟨a, b, rfl⟩ := len2 hk; rfl
  | 2, _, h => cases h; obtain ⟨a, b, c, d, rfl⟩ := len4 hk; rfl
  | 3, _, h => cases h; obtain ⟨a, rfl⟩ := len1 hk; rfl
  | 4, _, h => cases h; obtain ⟨a, rfl⟩ := len1 hk; rfl
  | 5, _, h => cases h; obtain ⟨a, rfl⟩ := len1 hk; rfl
  | 6, _, h => cases h; obtain ⟨a, b, rfl⟩ := len2 hk; rfl
  | 7, _, h => cases h; obtain ⟨a, b, rfl⟩ := len2 hk; rfl
  | 8, _, h => cases h; obtain ⟨a, b, rfl⟩ := len2 hk; rfl
  | 9, _, h => cases h; obtain ⟨a, rfl⟩ := len1 hk; rfl
  | 10, _, h => cases h; obtain ⟨a, b, rfl⟩ := len2 hk; rfl
  | 11, _, h => cases h; obtain ⟨a, rfl⟩ := len1 hk; rfl
  | 12, _, h => cases h; obtain ⟨a, b, c, rfl⟩ := len3 hk; rfl
  | 13, _, h => cases h; obtain ⟨a, rfl⟩ := len1 hk; rfl
  | 14, _, h => cases h; obtain ⟨a, rfl⟩ := len1 hk; rfl
  | 15, _, h => cases h; obtain ⟨a, b, rfl⟩ := len2 hk; rfl
  | 16, _, h => cases h; obtain ⟨a, b, rfl⟩ := len2 hk; rfl
  | 17, _, h => cases h; obtain ⟨a, rfl⟩ := len1 hk; rfl
  | 18, _, h => cases h; obtain ⟨a, rfl⟩ := len1 hk; rfl
  | 19, _, h => cases h; cases len0 hk; rfl
  | 20, _, h => cases h; cases len0 hk; rfl
theorem step_mk {q n : Nat} {ks : List Nat} (s : Option Su72.Abs) (h : lens[q]? = some n) (hk : ks.length = n) :
    Su72Neutral.step s ((q : Int) :: intsK ks) = ((Su72.step s (mkCall q ks)).1, ansI (Su72.step s (mkCall q ks)).2) := by
  unfold Su72Neutral.step
  rw [callOf_mk h hk]
  rfl
theorem step_not_begun {q : Nat} (h : q ≠ 0) (ks : List Nat) : Su72.step none (mkCall q ks) = (none, Su72.no (-11)) := by
  match q with
  | 0 => exact absurd rfl h
  | 1 => rfl
  | 2 => rfl
  | 3 => rfl
  | 4 => rfl
  | 5 => rfl
  | 6 => rfl
  | 7 => rfl
  | 8 => rfl
  | 9 => rfl
  | 10 => rfl
  | 11 => rfl
  | 12 => rfl
  | 13 => rfl
  | 14 => rfl
  | 15 => rfl
  | 16 => rfl
  | 17 => rfl
  | 18 => rfl
  | 19 => rfl
  | q + 20 => rfl
theorem does_none_such {a : Su72.Abs} {q : Nat} {ks : List Nat} (h : onF q = true) (hf : ¬ ks.getD 0 0 < a.freezers.length) : Su72.does a (mkCall q ks) = (a, Su72.no (-2)) := by
  have e : a.isF (ks.getD 0 0) = false := decide_eq_false hf
  have h' : q ∈ [2, 3, 4, 8, 9, 10, 11, 12, 17, 18] := of_decide_eq_true h
  simp only [List.mem_cons, List.not_mem_nil, or_false] at h'
  rcases h' with rfl | rfl | rfl | rfl | rfl | rfl | rfl | rfl | rfl | rfl <;> exact if_pos e
def onV : List V := natsV [2, 3, 4, 8, 9, 10, 11, 12, 17, 18]
theorem inV_on {q : Nat} (h : q < 21) : inV (.int (q : Int)) onV = onF q := by
  have z : ∀ q : Fin 21, inV (.int (q.val : Int)) onV = onF q.val := by decide +kernel
  exact z ⟨q, h⟩
theorem onF_lens {q n : Nat} (h : onF q = true) (hn : lens[q]? = some n) : 0 < n := by
  have h' : q ∈ [2, 3, 4, 8, 9, 10, 11, 12, 17, 18] := of_decide_eq_true h
  simp only [List.mem_cons, List.not_mem_nil, or_false] at h'
  rcases h' with rfl | rfl | rfl | rfl | rfl | rfl | rfl | rfl | rfl | rfl <;> (cases hn; decide)
structure TxtM (P : Program) (w : World) (K : PySem.W.Frag) (mg : Str → Option Value) (Cw C aL aO aC : Addr) (kvs : List (Key × Value)) : Prop extends Txt K mg Cw C where
  m_LENGTHS : mg "LENGTHS" = some (.ref aL)
  t_LENGTHS : ∀ H, SqT K H aL (natsV lens)
  m_ON_A_FREEZER : mg "ON_A_FREEZER" = some (.ref aO)
  t_ON : ∀ H, SqT K H aO onV
  m_CALLS : mg "CALLS" = some (.ref aC)
  d_CALLS : KD P w K aC kvs
section
variable {σ : L2.St} {H : Hp} {ta tb : TE} {K : PySem.W.Frag} {kvs : List (Key × Value)} {i : Int} {a : Addr}
theorem ValT.inT {x : V} {xs : List V} (ha : Val ta σ H x) (hb : Val tb σ H (.ref a)) (h : SqT K H a xs) (hx : flatV x = true) (hs : xs.all flatV = true) : ValT (tTest (tOp (rIn K false) ta tb)) σ H (inV x xs) := fun _ q => ha _ (hb _ ⟨a, xs, rfl, .inr h, hx, hs, _, rfl, q⟩)
theorem Val.kdget {f : Addr} (ha : Val ta σ H (.int i)) (h : valueAt kvs (Sum.inl i) = some (.ref f)) : Val (tKDGet kvs ta) σ H (.ref f) := fun _ q => ha _ ⟨Sum.inl i, .ref f, .ref f, rfl, h, rfl, q⟩
end
theorem natsV_at0 {ks : List Nat} (h : 0 < ks.length) : atI (natsV ks) 0 = some (.int ((ks.getD 0 0 : Nat) : Int)) := by
  match ks, h with
  | k :: ks, _ => exact at_of (j := 0) rfl rfl
theorem WkS.any {Cw C : Addr} {H : Hp} {W L : Addr} {as : List Addr} {ls : List Loc} {s : Option Su72.Abs} (h : WkS Cw C H W L as ls s) : ∃ d c m fs, WkAt Cw C H W L as ls s.isSome d c m fs := by
  cases s with
  | none => exact ⟨_, _, _, _, h⟩
  | some a => exact ⟨_, _, _, _, h⟩
section
variable {P : Program} {w : World} {K : PySem.W.Frag} {mg : Str → Option Value} {base : Heap} {Cw C aL aO aC : Addr} {kvs : List (Key × Value)}
def sp_numbers_of : Sp := fun vs H Q _ => ∃ (q n : Nat), vs = [.int (q : Int)] ∧ lens[q]? = some n ∧ Q (.int (n : Int)) H
theorem ok_numbers_of {f : Addr} {fd : FuncData} (F : Fun K "numbers_of" "numbers_of" s_numbers_of f fd) (T : TxtM P w K mg Cw C aL aO aC kvs) : FnOk P w K mg base CX0 1 f fd ["call"] sp_numbers_of := by
  refine F.ok sc_numbers_of (fun vs H Q E h => ?_) (fun cdv A outer s H vs Q E hr h => ?_)
  · obtain ⟨q, n, rfl, _⟩ := h
    rfl
  · obtain ⟨q, n, rfl, h1, k⟩ := h
    refine ⟨_, (pss_one (ps_ret (pe_ix ix_seq (pe_gref rfl T.m_LENGTHS) (pv 0) (fun _ _ => rfl)))), ?_⟩
    exact ret_val (.ixT .cn (.vr rfl) (T.t_LENGTHS H) (atI_nat (by unfold natsV; rw [List.getElem?_map, h1]; rfl))) k
def sp_answer (Cw C : Addr) : Sp := fun vs H Q _ => ∃ (W L nl : Addr) (as : List Addr) (ls : List Loc) (s : Option Su72.Abs) (q n : Nat) (ks : List Nat), vs = [.ref W, .int (q : Int), .ref nl] ∧ lens[q]? = some n ∧ ks.length = n ∧ H nl = some (.lst (natsV ks)) ∧ ¬ Foot W L as ls nl ∧ SOk s ∧ WkS Cw C H W L as ls s ∧
    After Cw C H W L as ls (Su72.step s (mkCall q ks)).1 (Su72.step s (mkCall q ks)).2 Q
def Hands (P : Program) (w : World) (K : PySem.W.Frag) (mg : Str → Option Value) (base : Heap) (Cw C : Addr) (kvs : List (Key × Value)) : Prop :=
  ∀ (q n : Nat), lens[q]? = some n → ∃ f, valueAt kvs (Sum.inl (q : Int)) = some (.ref f) ∧ Hand P w K mg base 9 f (spH Cw C n (preOf q) (mkCall q))
theorem ok_answer {f : Addr} {fd : FuncData} (F : Fun K "answer" "answer" s_answer f fd) (T : TxtM P w K mg Cw C aL aO aC kvs) (G : Hands P w K mg base Cw C kvs) : FnOk P w K mg base CX0 11 f fd ["works", "call", "numbers"] (sp_answer Cw C) := by
  have nd := sc_answer.nd
  refine F.ok sc_answer (fun vs H Q E h => ?_) (fun cdv A outer s H vs Q E hr h => ?_)
  · obtain ⟨W, L, nl, as, ls, s, q, n, ks, rfl, _⟩ := h
    rfl
  · obtain ⟨W, L, nl, as, ls, s, q, n, ks, rfl, hq, hk, hn, hnl, hs, hW, k⟩ := h
    have hq21 : q < 21 := (List.getElem?_eq_some_iff.mp hq).1
    obtain ⟨d, c, m, fs, hA⟩ := hW.any
    obtain ⟨dW, hw⟩ := hA.ins
    refine ⟨_, (pss_cons (ps_if (PW.pt (pw_and (pt_cmpR op_ne (pv 1) (pe_gint rfl T.m_BEGIN) (nomark _)) (pw_and1 (pt_not (pt_val (pe_fld (pv 0) rfl)))))) (pss_one (ps_ret (pe_lst (pa_cons (pe_gint rfl T.m_NOT_BEGUN) pa_nil)))) pss_nil) (pss_cons (ps_if (PW.pt (pw_and (pt_cmpR op_in_seq (pv 1) (pe_gref rfl T.m_ON_A_FREEZER) (by with_unfolding_all rfl)) (pw_and1 (pt_cmpR op_ge (pe_ix ix_seq (pv 2) pe_int (fun _ _ => rfl)) (pe_callB call_len_seq rfl T.n_len b_len (pa_cons (pe_fld (pv 0) rfl) pa_nil)) (nomark _))))) (pss_one (ps_ret (pe_lst (pa_cons (pe_gint rfl T.m_NONE_SUCH) pa_nil)))) pss_nil) (pss_cons (ps_set (i := 3) nd rfl (Or.inl rfl) (pe_kdget T.d_CALLS (pe_gref rfl T.m_CALLS) (pv 1) (fun _ _ => rfl))) (pss_one (ps_ret (pe_callV (k := 9) (i := 3) (hr.mono (by decide)) rfl (Or.inl rfl) (pa_cons (pv 0) (pa_cons (pv 2) pa_nil)))))))), ?_⟩
    refine if_val (.and (.ne (.vr rfl) .cn) (fun _ => .not (.val (.fld (.vr rfl) hw T.c_Works T.w_begun rfl)))) (fun e => ?_) (fun e => ?_)
    · simp only [Bool.and_eq_true, Bool.not_eq_true', decide_eq_false_iff_not] at e
      have hs0 : s = none := by
        cases s with
        | none => rfl
        | some a => exact absurd e.2 (by simp)
      subst hs0
      rw [step_not_begun (fun z => e.1 (by rw [z]; rfl))] at k
      exact ret_lst (.cons .cn .nil) (by decide) fun p hp => k.still hW (.refl _) hp rfl
    · have hb : q = 0 ∨ ∃ a, s = some a := by
        by_cases z : q = 0
        · exact .inl z
        · right
          cases s with
          | some a => exact ⟨a, rfl⟩
          | none => 
            rw [decide_eq_false (fun y : (q : Int) = 0 => z (by omega))] at e
            exact absurd e (by decide)
      refine if_val (.and (.inT (.vr rfl) .cn (T.t_ON H) rfl (by decide)) (fun e1 => .ge (.ixL (.vr rfl) .cn (SqL.of hn) (natsV_at0 (by
          rw [inV_on hq21] at e1
          rw [hk]
          exact onF_lens e1 hq))) (.len (.fld (.vr rfl) hw T.c_Works T.w_freezers rfl) (SqL.of hA.lst)))) (fun e1 => ?_) (fun e1 => ?_)
      · rw [inV_on hq21] at e1
        simp only [Bool.and_eq_true, decide_eq_true_eq, List.length_map] at e1
        rcases hb with rfl | ⟨a, rfl⟩
        · exact absurd e1.1 (by decide)
        · have hlen : as.length = a.freezers.length := WkAt.frs hW |>.la
          have k2 := k.of (does_none_such e1.1 (by omega))
          exact ret_lst (.cons .cn .nil) (by decide) fun p hp => k2.still hW (.refl _) hp rfl
      · rw [inV_on hq21] at e1
        obtain ⟨g, hg1, hg2⟩ := G q n hq
        · refine set_val (.kdget (.vr rfl) hg1) ?_
          refine ⟨g, _, rfl, hg2, _, rfl, _, rfl, ?_⟩
          refine ⟨W, L, nl, as, ls, s, ks, rfl, hk, hn, hnl, hs, ?_, hW, k⟩
          unfold preOf
          by_cases z : q = 0
          · rw [if_pos z]; trivial
          · rw [if_neg z]
            rcases hb with hb | ⟨a, rfl⟩
            · exact absurd hb z
            · by_cases y : onF q = true
              · rw [if_pos y]
                refine ⟨a, rfl, ?_⟩
                rw [y] at e1
                simp only [Bool.true_and, decide_eq_false_iff_not, List.length_map] at e1
                have hlen : as.length = a.freezers.length := WkAt.frs hW |>.la
                omega
              · rw [if_neg y]
                exact ⟨a, rfl⟩
end
end Fz
set_option Elab.async false
set_option linter.all false
set_option maxRecDepth 100000
set_option maxHeartbeats 2000000
namespace Fz
open PySem PySem.Spec PyProof.Rows L2
theorem cut_nats {ns : List Int} {i n : Nat} (h : i + 1 + n ≤ ns.length) (hpos : ∀ x ∈ ns, 0 ≤ x) :
    cutV (ns.map V.int) (some ((i + 1 : Nat) : Int)) (some ((i + 1 + n : Nat) : Int)) = natsV (((ns.drop (i + 1)).take n).map Int.toNat) := by
  unfold cutV
  rw [HT.sIx_nat, HT.sIx_nat, List.length_map, Nat.min_eq_left (show i + 1 ≤ ns.length by omega), Nat.min_eq_left h, show i + 1 + n - (i + 1) = n by omega, ← List.map_drop, ← List.map_take]
  unfold natsV
  rw [List.map_map]
  apply List.map_congr_left
  intro x hx
  have hx2 : 0 ≤ x := hpos x (List.mem_of_mem_drop (List.mem_of_mem_take hx))
  show V.int x = V.int ((x.toNat : Nat) : Int)
  rw [Int.toNat_of_nonneg hx2]
theorem nats_ints {l : List Int} (h : ∀ x ∈ l, 0 ≤ x) : intsK (l.map Int.toNat) = l := by
  unfold intsK
  rw [List.map_map]
  conv => rhs; rw [← List.map_id l]
  apply List.map_congr_left
  intro x hx
  show ((x.toNat : Nat) : Int) = x
  rw [Int.toNat_of_nonneg (h x hx)]
theorem foot_there {Cw C : Addr} {H : Hp} {W L : Addr} {as : List Addr} {ls : List Loc} {b : Bool} {d c m : Nat} {fs : List Su72.Freezer} (F : WkAt Cw C H W L as ls b d c m fs) {x : Addr} (hx : Foot W L as ls x) : H x ≠ none := by
  rcases hx with e | e | e
  · obtain ⟨dW, hW⟩ := F.ins
    rw [e, hW]
    simp
  · rw [e, F.lst]
    simp
  · exact F.frs.there e
theorem foot_nil {W L b : Addr} (h : Foot W L [] [] b) : b = W ∨ b = L := by
  rcases h with h | h | h | ⟨l, hl, _⟩
  · exact .inl h
  · exact .inr h
  · cases h
  · cases hl
section
variable {P : Program} {w : World} {K : PySem.W.Frag} {mg : Str → Option Value} {base : Heap} {Cw C aL aO aC : Addr} {kvs : List (Key × Value)}
def sp_Works_init (Cw : Addr) : Sp := fun vs H Q _ => ∃ (p dx : Addr), vs = [.ref p] ∧ H p = some (.ins Cw dx []) ∧ ∀ (H' : Hp) (L : Addr), H L = none → H' p = some (.ins Cw dx (wkF false 0 0 0 L)) → H' L = some (.lst []) → Keep (fun b => b = p) H H' → Q .non H'
def sp_answers (K : PySem.W.Frag) : Sp := fun vs H Q _ => ∃ (a : Addr) (ns : List Int), vs = [.ref a] ∧ SqL K H a (ns.map V.int) ∧ PySu72.answers_asked ns = true ∧ (∀ x ∈ ns, 0 ≤ x) ∧ ns.length ≤ 2000 ∧
  ∀ (H' : Hp) (p : Addr), H' p = some (.lst ((PySu72.answers ns).map V.int)) → Q (.ref p) H'
structure GAll (P : Program) (w : World) (K : PySem.W.Frag) (mg : Str → Option Value) (base : Heap) (Cw C : Addr) : Prop where
  Works_new : Mak P w K mg base 1 "Works" Cw ["self"] (sp_Works_init Cw)
  numbers_of : Cal P w K mg base 1 "numbers_of" ["call"] sp_numbers_of
  answer : Cal P w K mg base 11 "answer" ["works", "call", "numbers"] (sp_answer Cw C)
structure Turn (K : PySem.W.Frag) (Cw C : Addr) (H H' : Hp) (W R : Addr) (ns : List Int) (i : Nat) : Prop where
  ex : ∃ (s : Option Su72.Abs) (out : List Int) (L : Addr) (as : List Addr) (ls : List Loc), At ns i s out ∧ SOk s ∧ WkS Cw C H' W L as ls s ∧ H' R = some (.lst (out.map V.int)) ∧ ¬ Foot W L as ls R ∧ (∀ b, Foot W L as ls b → H b = none)
  free : H R = none
  same : Same H H'
def muP (n : Nat) : L2.St → Hp → Nat := fun σ _ => match σ[3]? with
  | some (some (V.int p)) => n - p.toNat
  | _ => 0
theorem ok_answers {f : Addr} {fd : FuncData} (F : Fun K "answers" "answers" s_answers f fd) (T : TxtM P w K mg Cw C aL aO aC kvs) (G : GAll P w K mg base Cw C) : FnOk P w K mg base CX0 13 f fd ["calls"] (sp_answers K) := by
  have nd := sc_answers.nd
  refine F.ok sc_answers (fun vs H Q E h => ?_) (fun cdv A outer s H vs Q E hr h => ?_)
  · obtain ⟨a, ns, rfl, _⟩ := h
    rfl
  · obtain ⟨a, ns, rfl, hS, hask, hpos, hlen, k⟩ := h
    refine ⟨_, (pss_cons (ps_set (i := 1) nd rfl (Or.inl rfl) (pe_mak0 G.Works_new (hr.mono (by decide)) rfl)) (pss_cons (ps_set (i := 2) nd rfl (Or.inl rfl) (pe_lst pa_nil)) (pss_cons (ps_set (i := 3) nd rfl (Or.inl rfl) pe_int) (pss_cons (ps_while PassesOwn.never (pt_cmpR op_lt (pv 3) (pe_callB call_len_seq rfl T.n_len b_len (pa_cons (pv 0) pa_nil)) (nomark _)) (pss_cons (ps_set (i := 4) nd rfl (Or.inl rfl) (pe_ix ix_seq (pv 0) (pv 3) (fun _ _ => rfl))) (pss_cons (ps_set (i := 5) nd rfl (Or.inl rfl) (pe_op op_add (pe_op op_add (pv 3) pe_int) (pe_cal G.numbers_of (hr.mono (by decide)) rfl (pa_cons (pv 4) pa_nil)))) (pss_cons (ps_set (i := 6) nd rfl (Or.inl rfl) (pe_cal G.answer (hr.mono (by decide)) rfl (pa_cons (pv 1) (pa_cons (pv 4) (pa_cons (pe_slice sl_list (pv 0) (po_some (pe_op op_add (pv 3) pe_int)) (po_some (pv 5))) pa_nil))))) (pss_cons (ps_expr (pe_bm PySem.F.plainAttrs_list PySem.F.slot_list_append PySem.F.type_list_append mt_append (pv 2) (pa_cons (pe_callB call_len_seq rfl T.n_len b_len (pa_cons (pv 6) pa_nil)) pa_nil))) (pss_cons (ps_expr (pe_bm PySem.F.plainAttrs_list PySem.F.slot_list_extend PySem.F.type_list_extend mt_extend (pv 2) (pa_cons (pv 6) pa_nil))) (pss_one (ps_set (i := 3) nd rfl (Or.inl rfl) (pv 5))))))))) (pss_one (ps_ret (pv 2))))))), ?_⟩
    -- works = Works(); result = []; place = 0
    intro W dx nW ndx nex
    refine ⟨W, dx, rfl, upd_same, fun H1 L hL e1 e2 k1 => ⟨rfl, ?_⟩⟩
    have s1 : Same H H1 := fun b o e => by
      refine k1 b o ?_ (ne_of_none e nW)
      rw [upd_ne (ne_of_none e nW), upd_ne (ne_of_none e ndx)]
      exact e
    have hLW : H L = none := by
      by_cases z : L = W
      · rw [z]; exact nW
      · by_cases y : L = dx
        · rw [y]; exact ndx
        · rw [upd_ne z, upd_ne y] at hL; exact hL
    refine ⟨Nat.zero_le _, fun R hR => ?_⟩
    have hRW : R ≠ W := fun z => by rw [z, e1] at hR; cases hR
    have hRL : R ≠ L := fun z => by rw [z, e2] at hR; cases hR
    have T0 : Turn K Cw C H (upd H1 R (.lst [])) W R ns 0 := by
      refine ⟨⟨none, [], L, [], [], .start hask, none_ok, ⟨⟨dx, by rw [upd_ne hRW.symm]; exact e1⟩, by rw [upd_ne hRL.symm]; exact e2, by simp, .nil⟩, upd_same, ?_, ?_⟩, s1.free hR, s1.trans (same_new hR)⟩
      · intro z
        exact (foot_nil z).elim hRW hRL
      · intro b hb
        rcases foot_nil hb with rfl | rfl
        · exact nW
        · exact hLW
    refine while_by (fun σ H' => ∃ (i : Nat) (v4 v5 v6 : Option V), σ = [some (.ref a), some (.ref W), some (.ref R), some (.int (i : Int)), v4, v5, v6] ∧ Turn K Cw C H H' W R ns i) (muP ns.length) ⟨0, none, none, none, rfl, T0⟩ ?_ ?_
    · rintro σ H' ⟨i, v4, v5, v6, rfl, I⟩
      obtain ⟨s, out, L, as, ls, hAt, hs, hW, hR', hnR, hfr⟩ := I.ex
      have hS' : SqL K H' a (ns.map V.int) := I.same.seq hS
      refine ValT.lt (.vr rfl) (.len (.vr rfl) hS') _ ?_
      refine ite2 (fun e => ?_) (fun e => ?_)
      · have hi : i < ns.length := by
          have := of_decide_eq_true e
          rw [List.length_map] at this
          omega
        have hp : ns[i]? = some ns[i] := List.getElem?_eq_getElem hi
        obtain ⟨n, hsh, hend, hl, hAt2⟩ := hAt.step hp
        obtain ⟨q, eq, hq21, hq⟩ := shape_lens hsh
        have hks : ∀ x ∈ (ns.drop (i + 1)).take n, 0 ≤ x := fun x hx => hpos x (List.mem_of_mem_drop (List.mem_of_mem_take hx))
        rw [eq, show (ns.drop (i + 1)).take n = intsK (((ns.drop (i + 1)).take n).map Int.toNat) from (nats_ints hks).symm, step_mk s hq (by rw [List.length_map]; exact hl)] at hAt2
        refine set_val (.ixL (v := .int (q : Int)) (.vr rfl) (.vr rfl) hS' (atI_nat (by rw [List.getElem?_map, hp, ← eq]; rfl))) ?_
        refine set_val (.add (.add (.vr rfl) .cn) (call_val (v := .int (n : Int)) (.cons (.vr rfl) .nil) fun Q' q' => ⟨q, n, rfl, hq, q'⟩)) ?_
        have ea : (i : Int) + 1 = ((i + 1 : Nat) : Int) := by omega
        have eb : (i : Int) + 1 + (n : Int) = ((i + 1 + n : Nat) : Int) := by omega
        rw [eb]
        -- answered = answer(works, call, calls[place + 1:end])
        refine ⟨_, rfl, _, rfl, _, rfl, _, rfl, _, _, rfl, rfl, _, rfl, _, rfl, _, rfl, a, _, rfl, hS', fun nl hnl => ?_⟩
        rw [ea, cut_nats hend hpos]
        generalize hKs : ((ns.drop (i + 1)).take n).map Int.toNat = ks at hAt2 ⊢
        have hkl : ks.length = n := by rw [← hKs, List.length_map]; exact hl
        obtain ⟨d, c, m, fs, hA⟩ := hW.any
        refine ⟨W, L, nl, as, ls, s, q, n, ks, rfl, hq, hkl, upd_same, fun z => foot_there hA z hnl, hs, hW.same (same_new hnl), ?_⟩
        intro H2 r L' as' ls' hr0 hr1 hW2 k2 hsub
        have hRn : R ≠ nl := fun z => by rw [← z, hR'] at hnl; cases hnl
        have hR1 : upd H' nl (.lst (natsV ks)) R = some (.lst (out.map V.int)) := by rw [upd_ne hRn]; exact hR'
        have hR2 : H2 R = some (.lst (out.map V.int)) := k2 R _ hR1 hnR
        have hrR : r ≠ R := fun z => by rw [z, hR1] at hr0; cases hr0
        have hz := hAt2.len
        have hz2 := asked_short hask
        rw [List.length_append, List.length_cons] at hz
        dsimp only at hz
        have hansl : (ansV (Su72.step s (mkCall q ks)).2).length = (ansI (Su72.step s (mkCall q ks)).2).length := List.length_map ..
        have hline : (10000000 : Nat) < sizeLine := by decide
        refine ⟨_, rfl, .inl ⟨rfl, _, SqL.of hR2⟩, _, rfl, r, _, rfl, .inl (SqL.of hr1), R, _, _, rfl, rfl, hR2, by rw [List.length_map]; omega, ?_⟩
        refine ⟨_, rfl, .inl ⟨rfl, _, SqL.of upd_same⟩, _, rfl, R, r, _, _, rfl, rfl, upd_same, by rw [upd_ne hrR]; exact hr1, by rw [List.length_append, List.length_map, hansl]; show out.length + 1 + _ ≤ _; omega, ?_⟩
        refine ⟨_, rfl, ⟨i + 1 + n, _, _, _, rfl, ?_⟩, ?_⟩
        · rw [upd_upd]
          have hRf : ¬ Foot W L' as' ls' R := fun z => by
            rcases hsub R z with z | z
            · exact hnR z
            · rw [hR1] at z; cases z
          obtain ⟨d', c', m', fs', hA2⟩ := hW2.any
          refine ⟨⟨_, _, L', as', ls', hAt2, step_ok hs _, ?_, ?_, hRf, fun b hb => ?_⟩, I.free, fun b o e => ?_⟩
          · have kR : Keep (fun b => b = R) H2 (upd H2 R (.lst (out.map V.int ++ [.int ((ansV (Su72.step s (mkCall q ks)).2).length : Nat)] ++ ansV (Su72.step s (mkCall q ks)).2))) := keep_upd
            have h1 : ∀ b, Foot W L' as' ls' b → ¬ (b = R) := fun b hb z => hRf (by rw [← z]; exact hb)
            have h2 : ∀ t xs, H2 t = some (.tup xs) → ¬ (t = R) := fun t xs e z => by rw [z, hR2] at e; cases e
            generalize (Su72.step s (mkCall q ks)).1 = s' at hW2 ⊢
            cases s' with
            | none => exact WkAt.keep hW2 kR h1 h2
            | some a' => exact WkAt.keep hW2 kR h1 h2
          · rw [upd_same, List.map_append, List.map_cons, hansl]
            show some (HO.lst (out.map V.int ++ [V.int _] ++ ansV _)) = some (HO.lst (out.map V.int ++ (V.int _ :: ansV _)))
            rw [List.append_assoc]
            rfl
          · rcases hsub b hb with z | z
            · exact hfr b z
            · by_cases y : b = nl
              · rw [y, upd_same] at z; cases z
              · rw [upd_ne y] at z; exact I.same.free z
          · have e1 := I.same b o e
            have e2 : upd H' nl (.lst (natsV ks)) b = some o := same_new hnl b o e1
            have e3 : H2 b = some o := k2 b o e2 fun z => by rw [hfr b z] at e; cases e
            rw [upd_ne (fun z => by rw [z, I.free] at e; cases e)]
            exact e3
        · show ns.length - ((i + 1 + n : Nat) : Int).toNat < ns.length - ((i : Nat) : Int).toNat
          rw [Int.toNat_natCast, Int.toNat_natCast]
          omega
      · have hi : ns.length ≤ i := by
          simpa using e
        refine ret_val (.vr rfl) ?_
        refine k H' R ?_
        rw [hR', hAt.done hi]
    · rintro σ H1 Q1 Q2 k ⟨v, e, v2, e4, p, ys, e5, hh, i, j, e1, e2, b, e3, q⟩
      exact ⟨v, e, v2, e4, p, ys, e5, hh, i, j, e1, e2, b, e3, k _ _ q⟩
end
end Fz
set_option Elab.async false
set_option linter.all false
set_option maxRecDepth 100000
set_option maxHeartbeats 2000000
namespace Fz
open PySem PySem.Spec PyProof.Rows L2
theorem own_snoc {as : List Addr} {ls : List Loc} {a : Addr} {l : Loc} {b : Addr} (h : Own (as ++ [a]) (ls ++ [l]) b) : Own as ls b ∨ b = a ∨ l.Has b := by
  rcases h with h | ⟨l', hl, h⟩
  · rcases List.mem_append.mp h with h | h
    · exact .inl (.inl h)
    · exact .inr (.inl (List.mem_singleton.mp h))
  · rcases List.mem_append.mp hl with hl | hl
    · exact .inl (.inr ⟨l', hl, h⟩)
    · exact .inr (.inr (by rw [← List.mem_singleton.mp hl]; exact h))
theorem Frs.snoc {C : Addr} {H H' : Hp} {as : List Addr} {ls : List Loc} {fs : List Su72.Freezer} {a : Addr} {l : Loc} {x : Su72.Freezer} (F : Frs C H as ls fs) (s1 : Same H H') (na : H a = none) (nl : ∀ b, l.Has b → H b = none) (hA : FzAt C H' a l x) : Frs C H' (as ++ [a]) (ls ++ [l]) (fs ++ [x]) := by
  have fr := F.same s1
  have at1 : ∀ {α : Type} {l : List α} {x : α} {i : Nat} {y : α}, (l ++ [x])[i]? = some y → l[i]? = some y ∧ i < l.length ∨ i = l.length ∧ y = x := fun {α l x i y} h => by
    by_cases hi : i < l.length
    · rw [List.getElem?_append_left hi] at h
      exact .inl ⟨h, hi⟩
    · have hz := (List.getElem?_eq_some_iff.mp h).1
      rw [List.length_append] at hz
      have t1 : ([x] : List α).length = 1 := rfl
      have ei : i = l.length := by omega
      subst ei
      rw [List.getElem?_append_right (Nat.le_refl _), Nat.sub_self] at h
      exact .inr ⟨rfl, (Option.some.inj h).symm⟩
  have nn : ∀ {b : Addr} {l' : Loc}, l' ∈ ls → l'.Has b → l.Has b → False := fun {b l'} h1 h2 h3 => F.there (.inr ⟨l', h1, h2⟩) (nl b h3)
  refine ⟨by rw [List.length_append, List.length_append, fr.la]; rfl, by rw [List.length_append, List.length_append, fr.ll]; rfl, ?_, fun i j l1 l2 b h1 h2 h3 h4 => ?_, fun i y hy => ?_⟩
  · exact List.nodup_append.mpr ⟨fr.nda, List.nodup_cons.mpr ⟨by simp, List.nodup_nil⟩, fun c hc c' hc' z => F.there (.inl hc) (by rw [z, List.mem_singleton.mp hc']; exact na)⟩
  · rcases at1 h1 with ⟨h1, i1⟩ | ⟨i1, e1⟩
    · rcases at1 h2 with ⟨h2, i2⟩ | ⟨i2, e2⟩
      · exact F.ndl i j l1 l2 b h1 h2 h3 h4
      · exact (nn (List.mem_of_getElem? h1) h3 (by rw [← e2]; exact h4)).elim
    · rcases at1 h2 with ⟨h2, i2⟩ | ⟨i2, e2⟩
      · exact (nn (List.mem_of_getElem? h2) h4 (by rw [← e1]; exact h3)).elim
      · omega
  · rcases at1 hy with ⟨hy, hi⟩ | ⟨ei, ey⟩
    · obtain ⟨c, c', h1, h2, h3⟩ := fr.at_ i y hy
      exact ⟨c, c', by rw [List.getElem?_append_left (by rw [fr.la]; exact hi)]; exact h1, by rw [List.getElem?_append_left (by rw [fr.ll]; exact hi)]; exact h2, h3⟩
    · subst ei ey
      exact ⟨a, l, by rw [← fr.la, List.getElem?_append_right (Nat.le_refl _), Nat.sub_self]; rfl, by rw [← fr.ll, List.getElem?_append_right (Nat.le_refl _), Nat.sub_self]; rfl, hA⟩
section
variable {P : Program} {w : World} {K : PySem.W.Frag} {mg : Str → Option Value} {base : Heap} {Cw C : Addr}
theorem ok_Works_init {f : Addr} {fd : FuncData} (F : Fun K "__init__" "Works.__init__" s_Works_init f fd) (T : Txt K mg Cw C) : FnOk P w K mg base CX0 1 f fd ["self"] (sp_Works_init Cw) := by
  refine F.ok sc_Works_init (fun vs H Q E h => ?_) (fun cdv A outer s H vs Q E hr h => ?_)
  · obtain ⟨p, dx, rfl, _⟩ := h
    rfl
  · obtain ⟨p, dx, rfl, hp, k⟩ := h
    refine ⟨_, (pss_cons (ps_fld (pv 0) pe_bl rfl) (pss_cons (ps_fld (pv 0) pe_int rfl) (pss_cons (ps_fld (pv 0) pe_int rfl) (pss_cons (ps_fld (pv 0) pe_int rfl) (pss_one (ps_fld (pv 0) (pe_lst pa_nil) rfl)))))), ?_⟩
    refine fld_val .cn (.vr rfl) hp T.c_Works T.w_begun (by show 0 < 1000; decide) ?_
    refine fld_val .cn (.vr rfl) upd_same T.c_Works T.w_density (by show 1 < 1000; decide) ?_
    refine fld_val .cn (.vr rfl) upd_same T.c_Works T.w_coldest (by show 2 < 1000; decide) ?_
    refine fld_val .cn (.vr rfl) upd_same T.c_Works T.w_minute (by show 3 < 1000; decide) ?_
    rw [upd_upd, upd_upd, upd_upd]
    refine ⟨Nat.zero_le _, fun L hL => ?_⟩
    have nLp : L ≠ p := fun z => by rw [z, upd_same] at hL; cases hL
    refine ⟨_, rfl, p, Cw, dx, _, rfl, by rw [upd_ne nLp.symm, upd_same], T.c_Works, T.w_freezers, by show 4 < 1000; decide, ?_⟩
    refine k _ L (by rw [upd_ne nLp] at hL; exact hL) upd_same (by rw [upd_ne nLp, upd_same]) fun b o e n => ?_
    rw [upd_ne n, upd_ne (fun z => by rw [z] at e; rw [upd_ne nLp, e] at hL; cases hL), upd_ne n]
    exact e
def sp_start_anew (Cw : Addr) : Sp := fun vs H Q _ => ∃ (p dx L0 : Addr) (b0 : Bool) (d0 c0 m0 d c : Nat), vs = [.ref p, .int (d : Int), .int (c : Int)] ∧ H p = some (.ins Cw dx (wkF b0 d0 c0 m0 L0)) ∧
  ∀ (H' : Hp) (L : Addr), H L = none → H' p = some (.ins Cw dx (wkF true d c 0 L)) → H' L = some (.lst []) → Keep (fun b => b = p) H H' → Q .non H'
theorem ok_start_anew {f : Addr} {fd : FuncData} (F : Fun K "start_anew" "Works.start_anew" s_Works_start_anew f fd) (T : Txt K mg Cw C) : FnOk P w K mg base CX0 1 f fd ["self", "density", "coldest"] (sp_start_anew Cw) := by
  refine F.ok sc_Works_start_anew (fun vs H Q E h => ?_) (fun cdv A outer s H vs Q E hr h => ?_)
  · obtain ⟨p, dx, L0, b0, d0, c0, m0, d, c, rfl, _⟩ := h
    rfl
  · obtain ⟨p, dx, L0, b0, d0, c0, m0, d, c, rfl, hp, k⟩ := h
    refine ⟨_, (pss_cons (ps_fld (pv 0) pe_bl rfl) (pss_cons (ps_fld (pv 0) (pv 1) rfl) (pss_cons (ps_fld (pv 0) (pv 2) rfl) (pss_cons (ps_fld (pv 0) pe_int rfl) (pss_one (ps_fld (pv 0) (pe_lst pa_nil) rfl)))))), ?_⟩
    refine fld_val .cn (.vr rfl) hp T.c_Works T.w_begun (by show 5 < 1000; decide) ?_
    refine fld_val (.vr rfl) (.vr rfl) upd_same T.c_Works T.w_density (by show 5 < 1000; decide) ?_
    refine fld_val (.vr rfl) (.vr rfl) upd_same T.c_Works T.w_coldest (by show 5 < 1000; decide) ?_
    refine fld_val .cn (.vr rfl) upd_same T.c_Works T.w_minute (by show 5 < 1000; decide) ?_
    rw [upd_upd, upd_upd, upd_upd]
    refine ⟨Nat.zero_le _, fun L hL => ?_⟩
    have nLp : L ≠ p := fun z => by rw [z, upd_same] at hL; cases hL
    refine ⟨_, rfl, p, Cw, dx, _, rfl, by rw [upd_ne nLp.symm, upd_same], T.c_Works, T.w_freezers, by show 5 < 1000; decide, ?_⟩
    refine k _ L (by rw [upd_ne nLp] at hL; exact hL) upd_same (by rw [upd_ne nLp, upd_same]) fun b o e n => ?_
    rw [upd_ne n, upd_ne (fun z => by rw [z] at e; rw [upd_ne nLp, e] at hL; cases hL), upd_ne n]
    exact e
def fresh (b p : Nat) : Su72.Freezer := ⟨b, p, 0, 1, 0, [], false, 0, List.replicate Su72.FLAVOURS 0, List.replicate Su72.FLAVOURS 0⟩
def sp_Freezer_init (C : Addr) : Sp := fun vs H Q _ => ∃ (p dx : Addr) (b q : Nat), vs = [.ref p, .int (b : Int), .int (q : Int)] ∧ H p = some (.ins C dx []) ∧
  ∀ (H' : Hp) (l : Loc), (∀ b, l.Has b → H b = none) → H' p = some (.ins C dx (fzF (fresh b q) l)) → FzAt C H' p l (fresh b q) → Keep (fun b => b = p) H H' → Q .non H'
theorem ok_Freezer_init {f : Addr} {fd : FuncData} (F : Fun K "__init__" "Freezer.__init__" s_Freezer_init f fd) (T : Txt K mg Cw C) : FnOk P w K mg base CX0 1 f fd ["self", "holds", "power"] (sp_Freezer_init C) := by
  refine F.ok sc_Freezer_init (fun vs H Q E h => ?_) (fun cdv A outer s H vs Q E hr h => ?_)
  · obtain ⟨p, dx, b, q, rfl, _⟩ := h
    rfl
  · obtain ⟨p, dx, b, q, rfl, hp, k⟩ := h
    refine ⟨_, (pss_cons (ps_fld (pv 0) (pv 1) rfl) (pss_cons (ps_fld (pv 0) (pv 2) rfl) (pss_cons (ps_fld (pv 0) pe_int rfl) (pss_cons (ps_fld (pv 0) pe_int rfl) (pss_cons (ps_fld (pv 0) pe_int rfl) (pss_cons (ps_fld (pv 0) pe_bl rfl) (pss_cons (ps_fld (pv 0) (pe_lst pa_nil) rfl) (pss_cons (ps_fld (pv 0) pe_int rfl) (pss_cons (ps_fld (pv 0) (pe_op op_rep (pe_lst (pa_cons pe_int pa_nil)) (pe_gint rfl T.m_FLAVOURS)) rfl) (pss_one (ps_fld (pv 0) (pe_op op_rep (pe_lst (pa_cons pe_int pa_nil)) (pe_gint rfl T.m_FLAVOURS)) rfl))))))))))), ?_⟩
    refine fld_val (.vr rfl) (.vr rfl) hp T.c_Freezer T.f_holds (by show 0 < 1000; decide) ?_
    refine fld_val (.vr rfl) (.vr rfl) upd_same T.c_Freezer T.f_power (by show 1 < 1000; decide) ?_
    refine fld_val .cn (.vr rfl) upd_same T.c_Freezer T.f_fed_with (by show 2 < 1000; decide) ?_
    refine fld_val .cn (.vr rfl) upd_same T.c_Freezer T.f_rate (by show 3 < 1000; decide) ?_
    refine fld_val .cn (.vr rfl) upd_same T.c_Freezer T.f_air (by show 4 < 1000; decide) ?_
    refine fld_val .cn (.vr rfl) upd_same T.c_Freezer T.f_frozen (by show 5 < 1000; decide) ?_
    rw [upd_upd, upd_upd, upd_upd, upd_upd, upd_upd]
    -- parts
    refine ⟨Nat.zero_le _, fun L hL => ?_⟩
    have nLp : L ≠ p := fun z => by rw [z, upd_same] at hL; cases hL
    have hL0 : H L = none := by rw [upd_ne nLp] at hL; exact hL
    refine ⟨_, rfl, p, C, dx, _, rfl, by rw [upd_ne nLp.symm, upd_same], T.c_Freezer, T.f_parts, by show 6 < 1000; decide, ?_⟩
    refine fld_val .cn (.vr rfl) upd_same T.c_Freezer T.f_total_fed (by show 7 < 1000; decide) ?_
    -- what stands at p, at L; what stood at first
    generalize hH1 : upd _ p _ = H1
    have p1 : ∃ fs, H1 p = some (.ins C dx fs) ∧ fs = ([("holds", V.int b), ("power", .int q), ("fed_with", .int 0), ("rate", .int 1), ("air", .int 0), ("frozen", .bl false), ("parts", .ref L), ("total_fed", .int 0)] : List (Str × V)) := ⟨_, by rw [← hH1, upd_same]; rfl, rfl⟩
    have l1 : H1 L = some (.lst []) := by rw [← hH1, upd_ne nLp, upd_ne nLp, upd_same]
    have k1 : Keep (fun b => b = p) H H1 := fun c o e n => by
      rw [← hH1, upd_ne n, upd_ne n, upd_ne (ne_of_none e hL0), upd_ne n]
      exact e
    clear hH1 hL
    obtain ⟨fs1, p1, efs⟩ := p1
    -- kilograms
    refine ⟨by show 1 ≤ sizeLine; decide, fun t ht => ⟨t, 10, _, rfl, rfl, upd_same, by decide, by decide, by show 1 * 10 ≤ sizeLine; decide, fun A hA => ?_⟩⟩
    have ntp : t ≠ p := fun z => by rw [z, p1] at ht; cases ht
    have nAt : A ≠ t := fun z => by rw [z, upd_same] at hA; cases hA
    have hA1 : H1 A = none := by rw [upd_ne nAt] at hA; exact hA
    have nAp : A ≠ p := fun z => by rw [z, p1] at hA1; cases hA1
    have nAL : A ≠ L := fun z => by rw [z, l1] at hA1; cases hA1
    have ntL : t ≠ L := fun z => by rw [z, l1] at ht; cases ht
    have hA0 : H A = none := by
      cases z : H A with
      | none => rfl
      | some o => rw [k1 A o z nAp] at hA1; cases hA1
    refine ⟨_, rfl, p, C, dx, fs1, rfl, by rw [upd_ne nAp.symm, upd_ne ntp.symm]; exact p1, T.c_Freezer, T.f_kilograms, by rw [efs]; show 8 < 1000; decide, ?_⟩
    generalize hH2 : upd _ p _ = H2
    have p2 : H2 p = some (.ins C dx (putF "kilograms" (.ref A) fs1)) := by rw [← hH2, upd_same]
    have l2 : H2 L = some (.lst []) := by rw [← hH2, upd_ne nLp, upd_ne nAL.symm, upd_ne ntL.symm]; exact l1
    have a2 : H2 A = some (.lst (natsV (List.replicate 10 0))) := by
      rw [← hH2, upd_ne nAp, upd_same]
      rfl
    have k2 : Keep (fun b => b = p) H H2 := fun c o e n => by
      have e1 := k1 c o e n
      rw [← hH2, upd_ne n, upd_ne (ne_of_none e1 hA1), upd_ne (ne_of_none e1 ht)]
      exact e1
    clear hH2 hA ht
    -- millilitres
    refine ⟨by show 1 ≤ sizeLine; decide, fun t ht => ⟨t, 10, _, rfl, rfl, upd_same, by decide, by decide, by show 1 * 10 ≤ sizeLine; decide, fun B hB => ?_⟩⟩
    have ntp : t ≠ p := fun z => by rw [z, p2] at ht; cases ht
    have nBt : B ≠ t := fun z => by rw [z, upd_same] at hB; cases hB
    have hB2 : H2 B = none := by rw [upd_ne nBt] at hB; exact hB
    have nBp : B ≠ p := fun z => by rw [z, p2] at hB2; cases hB2
    have nBL : B ≠ L := fun z => by rw [z, l2] at hB2; cases hB2
    have nBA : B ≠ A := fun z => by rw [z, a2] at hB2; cases hB2
    have ntL : t ≠ L := fun z => by rw [z, l2] at ht; cases ht
    have ntA : t ≠ A := fun z => by rw [z, a2] at ht; cases ht
    have hB0 : H B = none := by
      cases z : H B with
      | none => rfl
      | some o => rw [k2 B o z nBp] at hB2; cases hB2
    refine ⟨_, rfl, p, C, dx, putF "kilograms" (.ref A) fs1, rfl, by rw [upd_ne nBp.symm, upd_ne ntp.symm]; exact p2, T.c_Freezer, T.f_millilitres, by rw [efs]; show 9 < 1000; decide, ?_⟩
    have ef : putF "millilitres" (.ref B) (putF "kilograms" (.ref A) fs1) = fzF (fresh b q) ⟨L, A, B⟩ := by rw [efs]; rfl
    rw [ef]
    refine k _ ⟨L, A, B⟩ (fun c hc => ?_) upd_same ⟨⟨dx, upd_same⟩, ?_, ?_, ?_, nAL.symm, nBL.symm, nBA.symm⟩ fun c o e n => ?_
    · rcases hc with hc | hc | hc
      · rw [hc]; exact hL0
      · rw [hc]; exact hA0
      · rw [hc]; exact hB0
    · refine .mk' (ts := []) ?_ .nil
      show upd _ p _ L = _
      rw [upd_ne nLp, upd_ne nBL.symm, upd_ne ntL.symm]
      exact l2
    · show upd _ p _ A = _
      rw [upd_ne nAp, upd_ne nBA.symm, upd_ne ntA.symm]
      exact a2
    · show upd _ p _ B = _
      rw [upd_ne nBp, upd_same]
      rfl
    · have e2 := k2 c o e n
      rw [upd_ne n, upd_ne (ne_of_none e2 hB2), upd_ne (ne_of_none e2 ht)]
      exact e2
structure GMake (P : Program) (w : World) (K : PySem.W.Frag) (mg : Str → Option Value) (base : Heap) (Cw C : Addr) : Prop where
  Works_start_anew : Met P w K mg base 1 Cw "start_anew" ["self", "density", "coldest"] (sp_start_anew Cw)
  Freezer_new : Mak P w K mg base 1 "Freezer" C ["self", "holds", "power"] (sp_Freezer_init C)
theorem ok_begin {f : Addr} {fd : FuncData} (F : Fun K "begin" "begin" s_begin f fd) (T : Txt K mg Cw C) (G : GMake P w K mg base Cw C) : FnOk P w K mg base CX0 9 f fd ["works", "numbers"] (spH Cw C 2 (fun _ _ => True) fun ks => .begin_ (ks.getD 0 0) (ks.getD 1 0)) := by
  have nd := sc_begin.nd
  refine F.ok sc_begin (fun vs H Q E h => ?_) (fun cdv A outer s H vs Q E hr h => ?_)
  · obtain ⟨W, L, nl, as, ls, s, ks, rfl, _⟩ := h
    rfl
  · obtain ⟨W, L, nl, as, ls, s, ks, rfl, hk, hn, _, hs, _, hW, q⟩ := h
    obtain ⟨d, c, rfl⟩ := len2 hk
    · replace q : After Cw C H W L as ls (Su72.step s (.begin_ d c)).1 (Su72.step s (.begin_ d c)).2 Q := q
      obtain ⟨d0, c0, m0, fs0, hA⟩ := hW.any
      obtain ⟨dW, hw⟩ := hA.ins
      refine ⟨_, (pss_cons (ps_set (i := 2) nd rfl (Or.inl rfl) (pe_ix ix_seq (pv 1) pe_int (fun _ _ => rfl))) (pss_cons (ps_set (i := 3) nd rfl (Or.inl rfl) (pe_ix ix_seq (pv 1) pe_int (fun _ _ => rfl))) (pss_cons (ps_if (PW.pt (pw_or (pt_not (pt_chain op_le op_le pe_int (pv 2) pe_int)) (pw_or1 (pt_not (pt_chain op_le op_le pe_int (pv 3) (pe_gint rfl T.m_MOST_COLD)))))) (pss_one (ps_ret (pe_lst (pa_cons (pe_gint rfl T.m_OUT_OF_RANGE) pa_nil)))) pss_nil) (pss_cons (ps_expr (pe_met (pv 0) T.c_Works G.Works_start_anew (hr.mono (by decide)) (pa_cons (pv 2) (pa_cons (pv 3) pa_nil)))) (pss_one (ps_ret (pe_lst (pa_cons pe_int pa_nil)))))))), ?_⟩
      refine set_val (.ixL (.vr rfl) .cn (SqL.of hn) rfl) ?_
      refine set_val (.ixL (.vr rfl) .cn (SqL.of hn) rfl) ?_
      refine if_val (.or (.not (.chain .cn (.vr rfl) .cn)) (.not (.chain .cn (.vr rfl) .cn))) (fun e => ?_) (fun e => ?_)
      · refine ret_lst (.cons .cn .nil) (by decide) fun p hp => ?_
        simp only [Bool.or_eq_true, Bool.not_eq_true', decide_eq_false_iff_not] at e
        have d1 : Su72.step s (.begin_ d c) = (s, Su72.no (-22)) := by
          have z : d < 900 ∨ 1200 < d ∨ c = 0 ∨ 500 < c := by omega
          cases s with
          | none =>
            show ((if (Su72.does _ _).2.value < 0 then none else some (Su72.does _ _).1), (Su72.does _ _).2) = _
            rw [show Su72.does (Su72.new 1000 1) (.begin_ d c) = (Su72.new 1000 1, Su72.no (-22)) from if_pos z]
            rfl
          | some a =>
            rw [step_some, show Su72.does a (.begin_ d c) = (a, Su72.no (-22)) from if_pos z]
        rw [d1] at q
        exact q.still hW (.refl _) hp rfl
      · simp only [Bool.or_eq_false_iff, Bool.not_eq_false', decide_eq_true_eq] at e
        have d1 : Su72.step s (.begin_ d c) = (some (Su72.new d c), Su72.no 0) := by
          have z : ¬ (d < 900 ∨ 1200 < d ∨ c = 0 ∨ 500 < c) := by omega
          cases s with
          | none =>
            show ((if (Su72.does _ _).2.value < 0 then none else some (Su72.does _ _).1), (Su72.does _ _).2) = _
            rw [show Su72.does (Su72.new 1000 1) (.begin_ d c) = (Su72.new d c, Su72.no 0) from if_neg z]
            rfl
          | some a =>
            rw [step_some, show Su72.does a (.begin_ d c) = (Su72.new d c, Su72.no 0) from if_neg z]
        rw [d1] at q
        refine ⟨_, rfl, W, dW, _, rfl, hw, rfl, _, rfl, _, rfl, W, dW, L, _, _, _, _, d, c, rfl, hw, fun H1 L1 hL1 e1 e2 k1 => ?_⟩
        refine ret_lst (σ := []) (.cons .cn .nil) (by decide) fun p hp => ?_
        have hWf : Foot W L as ls W := .inl rfl
        have hpW : p ≠ W := fun z => by rw [z, e1] at hp; cases hp
        have hpL : p ≠ L1 := fun z => by rw [z, e2] at hp; cases hp
        have hp0 : H p = none := by
          cases z : H p with
          | none => rfl
          | some o => rw [k1 p o z hpW] at hp; cases hp
        refine q _ p L1 [] [] hp0 (by rw [upd_same]; rfl) ?_ ?_ fun b hb => ?_
        · exact ⟨⟨dW, by rw [upd_ne hpW.symm]; exact e1⟩, by rw [upd_ne hpL.symm]; exact e2, by simp, .nil⟩
        · exact (k1.mono fun b z => by rw [z]; exact hWf).trans (Same.keep (same_new hp))
        · rcases foot_nil hb with rfl | rfl
          · exact .inl hWf
          · exact .inr hL1
theorem ok_add_freezer {f : Addr} {fd : FuncData} (F : Fun K "add_freezer" "add_freezer" s_add_freezer f fd) (T : Txt K mg Cw C) (G : GMake P w K mg base Cw C) : FnOk P w K mg base CX0 9 f fd ["works", "numbers"] (spH Cw C 2 begun fun ks => .freezer (ks.getD 0 0) (ks.getD 1 0)) := by
  have nd := sc_add_freezer.nd
  refine F.ok sc_add_freezer (fun vs H Q E h => ?_) (fun cdv A outer s H vs Q E hr h => ?_)
  · obtain ⟨W, L, nl, as, ls, s, ks, rfl, _⟩ := h
    rfl
  · obtain ⟨W, L, nl, as, ls, s, ks, rfl, hk, hn, _, hs, ⟨a, rfl⟩, hW, q⟩ := h
    obtain ⟨b, p, rfl⟩ := len2 hk
    · replace q : After Cw C H W L as ls (Su72.step (some a) (.freezer b p)).1 (Su72.step (some a) (.freezer b p)).2 Q := q
      have ok := hs a rfl
      obtain ⟨dW, hw⟩ := hW.ins
      have hla : as.length = a.freezers.length := hW.frs.la
      refine ⟨_, (pss_cons (ps_set (i := 2) nd rfl (Or.inl rfl) (pe_ix ix_seq (pv 1) pe_int (fun _ _ => rfl))) (pss_cons (ps_set (i := 3) nd rfl (Or.inl rfl) (pe_ix ix_seq (pv 1) pe_int (fun _ _ => rfl))) (pss_cons (ps_if (PW.pt (pw_or (pt_not (pt_chain op_le op_le pe_int (pv 2) pe_int)) (pw_or1 (pt_not (pt_chain op_le op_le pe_int (pv 3) pe_int))))) (pss_one (ps_ret (pe_lst (pa_cons (pe_gint rfl T.m_OUT_OF_RANGE) pa_nil)))) pss_nil) (pss_cons (ps_if (pt_cmpR op_ge (pe_callB call_len_seq rfl T.n_len b_len (pa_cons (pe_fld (pv 0) rfl) pa_nil)) (pe_gint rfl T.m_MOST_FREEZERS) (nomark _)) (pss_one (ps_ret (pe_lst (pa_cons (pe_gint rfl T.m_TOO_MANY) pa_nil)))) pss_nil) (pss_cons (ps_expr (pe_bm PySem.F.plainAttrs_list PySem.F.slot_list_append PySem.F.type_list_append mt_append (pe_fld (pv 0) rfl) (pa_cons (pe_mak G.Freezer_new (hr.mono (by decide)) rfl (pa_cons (pv 2) (pa_cons (pv 3) pa_nil))) pa_nil))) (pss_one (ps_ret (pe_lst (pa_cons (pe_op op_sub (pe_callB call_len_seq rfl T.n_len b_len (pa_cons (pe_fld (pv 0) rfl) pa_nil)) pe_int) pa_nil))))))))), ?_⟩
      refine set_val (.ixL (.vr rfl) .cn (SqL.of hn) rfl) ?_
      refine set_val (.ixL (.vr rfl) .cn (SqL.of hn) rfl) ?_
      refine if_val (.or (.not (.chain .cn (.vr rfl) .cn)) (.not (.chain .cn (.vr rfl) .cn))) (fun e => ?_) (fun e => ?_)
      · refine ret_lst (.cons .cn .nil) (by decide) fun r hr => ?_
        simp only [Bool.or_eq_true, Bool.not_eq_true', decide_eq_false_iff_not] at e
        exact (q.of (if_pos (by omega))).still hW (.refl _) hr rfl
      · simp only [Bool.or_eq_false_iff, Bool.not_eq_false', decide_eq_true_eq] at e
        refine if_val (.ge (.len (.fld (.vr rfl) hw T.c_Works T.w_freezers rfl) (SqL.of hW.lst)) .cn) (fun e2 => ?_) (fun e2 => ?_)
        · have e3 := of_decide_eq_true e2
          rw [List.length_map] at e3
          refine ret_lst (.cons .cn .nil) (by decide) fun r hr => ?_
          exact (q.of ((if_neg (by omega)).trans (if_pos (by unfold Su72.FREEZERS; omega)))).still hW (.refl _) hr rfl
        · have e3 := of_decide_eq_false e2
          rw [List.length_map] at e3
          have q2 := q.of ((if_neg (by omega)).trans (if_neg (by unfold Su72.FREEZERS; omega)))
          refine ⟨_, rfl, W, Cw, dW, _, _, rfl, hw, T.c_Works, T.w_freezers, rfl, .inl ⟨rfl, _, SqL.of hW.lst⟩, _, rfl, _, rfl, fun x dx nx ndx nex => ?_⟩
          refine ⟨x, dx, b, p, rfl, upd_same, fun H1 l hl e1 e2 k1 => ⟨rfl, ?_⟩⟩
          have hl0 : ∀ c, l.Has c → H c = none ∧ c ≠ x := fun c hc => by
            have hl := hl c hc
            have z1 : c ≠ x := fun z => by rw [z, upd_same] at hl; cases hl
            have z2 : c ≠ dx := fun z => by rw [z, upd_ne nex, upd_same] at hl; cases hl
            rw [upd_ne z1, upd_ne z2] at hl
            exact ⟨hl, z1⟩
          have s1 : Same H H1 := fun c o e => k1 c o (by rw [upd_ne (ne_of_none e nx), upd_ne (ne_of_none e ndx)]; exact e) (ne_of_none e nx)
          have hL1 := s1 _ _ hW.lst
          refine ⟨L, _, _, rfl, rfl, hL1, by rw [List.length_map]; exact Nat.lt_of_le_of_lt (show as.length ≤ 4 by omega) (by decide), ?_⟩
          have hWL : W ≠ L := ne_of hw hW.lst (by intro z; cases z)
          have nxL : x ≠ L := fun z => by rw [z, hW.lst] at nx; cases nx
          have nlL : ¬ l.Has L := fun z => by have y := (hl0 L z).1; rw [hW.lst] at y; cases y
          have eM : (as ++ [x]).map V.ref = as.map V.ref ++ [.ref x] := map_snoc _ _ _
          have fr : Frs C H1 (as ++ [x]) (ls ++ [l]) (a.freezers ++ [fresh b p]) := (WkAt.frs hW).snoc s1 nx (fun c hc => (hl0 c hc).1) e2
          have kk : Keep (fun c => c = L) H1 (upd H1 L (.lst (as.map V.ref ++ [.ref x]))) := keep_upd
          have nown : ∀ c, Own (as ++ [x]) (ls ++ [l]) c → ¬ (c = L) := fun c hc z => by
            subst z
            rcases hc with hc | ⟨l', hl', hc⟩
            · rcases List.mem_append.mp hc with hc | hc
              · rcases (WkAt.frs hW).own (.inl hc) with ⟨_, _, _, e⟩ | ⟨_, e⟩
                · rw [hW.lst] at e; cases e
                · obtain ⟨i, hi⟩ := List.getElem?_of_mem hc
                  obtain ⟨y, l', _, _, hA⟩ := (WkAt.frs hW).get hi
                  obtain ⟨d', h'⟩ := hA.ins
                  rw [hW.lst] at h'; cases h'
              · exact nxL (List.mem_singleton.mp hc).symm
            · rcases List.mem_append.mp hl' with hl' | hl'
              · exact WkAt.notL hW l' hl' hc
              · exact nlL (by rw [← List.mem_singleton.mp hl']; exact hc)
          -- the works with one more
          have hW2 : WkAt Cw C (upd H1 L (.lst (as.map V.ref ++ [.ref x]))) W L (as ++ [x]) (ls ++ [l]) true a.dense a.stiff a.now_ (a.freezers ++ [fresh b p]) := by
            refine ⟨⟨dW, by rw [upd_ne hWL]; exact s1 _ _ hw⟩, by rw [upd_same, eM], fun l' hl' z => ?_, fr.keep kk nown fun t xs e z => by rw [z, hL1] at e; cases e⟩
            rcases List.mem_append.mp hl' with hl' | hl'
            · exact WkAt.notL hW l' hl' z
            · exact nlL (by rw [← List.mem_singleton.mp hl']; exact z)
          refine ret_lst (.cons (.sub (.len (.fld (.vr rfl) (by rw [upd_ne hWL]; exact s1 _ _ hw) T.c_Works T.w_freezers rfl) (SqL.of upd_same)) .cn) .nil) (by show 1 ≤ sizeLine; decide) fun r hr => ?_
          have hr0 : H r = none := s1.free (free_upd hL1 hr)
          refine q2 _ r L (as ++ [x]) (ls ++ [l]) hr0 ?_ (WkAt.same hW2 (same_new hr)) ?_ fun c hc => ?_
          · rw [upd_same, ansV_num, List.length_append, List.length_map, hla]
            show some (HO.lst [V.int (((a.freezers.length + 1 : Nat) : Int) - 1)]) = some (HO.lst [V.int ((a.freezers.length : Nat) : Int)])
            rw [show ((a.freezers.length + 1 : Nat) : Int) - 1 = ((a.freezers.length : Nat) : Int) by omega]
          · refine fun c o e n => same_new hr c o ?_
            rw [upd_ne (fun z => n (.inr (.inl z)))]
            exact s1 c o e
          · rcases hc with z | z | z
            · exact .inl (.inl z)
            · exact .inl (.inr (.inl z))
            · rcases own_snoc z with z | z | z
              · exact .inl (.inr (.inr z))
              · exact .inr (by rw [z]; exact nx)
              · exact .inr (hl0 c z).1
end
end Fz
set_option Elab.async false
set_option linter.all false
set_option maxRecDepth 100000
set_option maxHeartbeats 2000000
namespace Fz
open PySem PySem.Spec PyProof.Rows L2
section
variable {σ : L2.St} {H : Hp} {D : Ends} {n : Nat} {sp : Sp} {t : TA} {vs : List V}
theorem expr_call (h : ValA t σ H vs) (k : sp vs H (fun _ H1 => D.nx σ H1) E0) : tDrop (tCall sp [] E0 t) D σ H := h _ (by rw [List.append_nil]; exact k)
theorem ret_non (k : D.rt .non H) : tRetN D σ H := k
end
section
variable {P : Program} {w : World} {K : PySem.W.Frag} {mg : Str → Option Value} {base : Heap} {Cw C : Addr}
structure GMin (P : Program) (w : World) (K : PySem.W.Frag) (mg : Str → Option Value) (base : Heap) : Prop extends GFz P w K mg base where
  feed : Cal P w K mg base 1 "feed" ["parts", "flavour", "kilograms"] sp_feed
  draw : Cal P w K mg base 1 "draw" ["parts", "kilograms"] sp_draw
  volume : Cal P w K mg base 1 "volume" ["kilograms", "air", "density"] sp_volume
def sp_pass_minute (C : Addr) : Sp := fun vs H Q _ => ∃ (a : Su72.Abs) (x : Su72.Freezer) (af : Addr) (l : Loc), vs = [.ref af, .int (a.dense : Int), .int (a.stiff : Int)] ∧ AOk a ∧ FOk x ∧ FzAt C H af l x ∧
  ∀ (H' : Hp), FzAt C H' af l (a.works x) → Keep (fun b => b = af ∨ l.Has b) H H' → Q .non H'
def counted (a : Su72.Abs) (x : Su72.Freezer) (o : Nat) (r : List (Nat × Nat)) : Su72.Freezer := { x with kg := r.foldl (fun s y => Su72.add s y.1 y.2) x.kg, ml := r.foldl (fun s y => Su72.add s y.1 (a.litres y.2 o)) x.ml }
theorem ok_pass_minute {f : Addr} {fd : FuncData} (F : Fun K "pass_minute" "Freezer.pass_minute" s_Freezer_pass_minute f fd) (T : Txt K mg Cw C) (G : GMin P w K mg base) : FnOk P w K mg base CX0 3 f fd ["self", "density", "coldest"] (sp_pass_minute C) := by
  have nd := sc_Freezer_pass_minute.nd
  refine F.ok sc_Freezer_pass_minute (fun vs H Q E h => ?_) (fun cdv A outer s H vs Q E hr h => ?_)
  · obtain ⟨a, x, af, l, rfl, _⟩ := h
    rfl
  · obtain ⟨a, x, af, l, rfl, ok, okx, hA, q⟩ := h
    obtain ⟨dx, hi⟩ := hA.ins
    have hal : af ≠ l.p := by
      obtain ⟨ts, e, _⟩ := hA.parts.ex
      exact ne_of hi e (by intro z; cases z)
    refine ⟨_, (pss_cons (ps_if (PW.pt (pw_or (pt_cmpR op_eq (pe_fld (pv 0) rfl) pe_int (nomark _)) (pw_or1 (pt_val (pe_fld (pv 0) rfl))))) (pss_one ps_retN) pss_nil) (pss_cons (ps_if (pt_cmpR op_gt (pe_cal G.how_cold (hr.mono (by decide)) rfl (pa_cons (pe_fld (pv 0) rfl) (pa_cons (pe_fld (pv 0) rfl) pa_nil))) (pv 2) (nomark _)) (pss_cons (ps_fld (pv 0) pe_bl rfl) (pss_one ps_retN)) pss_nil) (pss_cons (ps_expr (pe_cal G.feed (hr.mono (by decide)) rfl (pa_cons (pe_fld (pv 0) rfl) (pa_cons (pe_op op_sub (pe_fld (pv 0) rfl) pe_int) (pa_cons (pe_fld (pv 0) rfl) pa_nil))))) (pss_cons (ps_fldaug (pv 0) (pe_fld (pv 0) rfl) in_add) (pss_cons (ps_set (i := 3) nd rfl (Or.inl rfl) (pe_cal G.draw (hr.mono (by decide)) rfl (pa_cons (pe_fld (pv 0) rfl) (pa_cons (pe_op op_sub (pe_cal G.weight (hr.mono (by decide)) rfl (pa_cons (pe_fld (pv 0) rfl) pa_nil)) (pe_fld (pv 0) rfl)) pa_nil)))) (pss_one (ps_for PassesOwn.never rfl (pi_list (pv 3)) (pg_name (i := 4) nd rfl (Or.inl rfl)) (pss_cons (ps_augS (pe_fld (pv 0) rfl) (pe_ix ix_seq (pv 4) pe_int (fun _ _ => rfl)) get_list (pe_ix ix_seq (pv 4) pe_int (fun _ _ => rfl)) ip_add set_list) (pss_one (ps_augS (pe_fld (pv 0) rfl) (pe_ix ix_seq (pv 4) pe_int (fun _ _ => rfl)) get_list (pe_cal G.volume (hr.mono (by decide)) rfl (pa_cons (pe_ix ix_seq (pv 4) pe_int (fun _ _ => rfl)) (pa_cons (pe_fld (pv 0) rfl) (pa_cons (pv 1) pa_nil)))) ip_add set_list)))))))))), ?_⟩
    refine if_val (.or (.eq (.fld (.vr rfl) hi T.c_Freezer T.f_fed_with rfl) .cn) (.val (.fld (.vr rfl) hi T.c_Freezer T.f_frozen rfl))) (fun e => ?_) (fun e => ?_)
    · have h0 : x.feed = 0 ∨ x.stuck = true := by
        simp only [Bool.or_eq_true, decide_eq_true_eq] at e
        rcases e with e | e
        · exact .inl (by omega)
        · exact .inr e
      refine ret_non (q H ?_ (.refl _ _))
      rw [works_idle h0]
      exact hA
    · have h0 : ¬ (x.feed = 0 ∨ x.stuck = true) := by
        simp only [Bool.or_eq_false_iff, decide_eq_false_iff_not] at e
        rintro (z | z)
        · exact e.1 (by rw [z]; rfl)
        · rw [z] at e; exact absurd e.2 (by decide)
      have hr1 := okx.rate
      refine if_val (.gt (call_val (.cons (.fld (.vr rfl) hi T.c_Freezer T.f_power rfl) (.cons (.fld (.vr rfl) hi T.c_Freezer T.f_rate rfl) .nil)) fun Q' q' => ⟨x.power, x.rate, rfl, by omega, by omega, q'⟩) (.vr rfl)) (fun e1 => ?_) (fun e1 => ?_)
      · have h1 : a.stiff < Su72.cold x.power x.rate := by
          have z := of_decide_eq_true e1
          unfold Su72.cold
          omega
        refine fld_val .cn (.vr rfl) hi T.c_Freezer T.f_frozen (by show 10 < 1000; decide) ?_
        refine q _ ?_ (upd_keep (.inl rfl))
        rw [works_stuck h0 h1]
        exact hA.put (y := { x with stuck := true }) rfl
      · have h1 : ¬ a.stiff < Su72.cold x.power x.rate := by
          have z := of_decide_eq_false e1
          unfold Su72.cold
          omega
        have hfl : x.barrel.length ≤ 10000 := by
          have z1 := okx.parts.len
          have z2 := okx.lev
          have z3 := okx.hold
          omega
        have hfd : 1 ≤ x.feed := by
          have z : x.feed ≠ 0 := fun z => h0 (.inl z)
          omega
        have efd : (x.feed : Int) - 1 = ((x.feed - 1 : Nat) : Int) := by omega
        -- feed(self.parts, self.fed_with - 1, self.rate)
        refine expr_call (.cons (.fld (.vr rfl) hi T.c_Freezer T.f_parts rfl) (.cons (.sub (.fld (.vr rfl) hi T.c_Freezer T.f_fed_with rfl) .cn) (.cons (.fld (.vr rfl) hi T.c_Freezer T.f_rate rfl) .nil))) ?_
        rw [efd]
        refine ⟨l.p, x.barrel, x.feed - 1, x.rate, rfl, hA.parts, hfl, fun H1 P1 k1 => ?_⟩
        generalize hB : Su72.push x.barrel (x.feed - 1, x.rate) = B at P1
        have hBp : Parts B := by rw [← hB]; exact push_parts okx.parts ⟨hr1.1, by have := okx.feed; show x.feed - 1 < 10; omega⟩
        have hBl : Su72.level B ≤ 600 := by
          rw [← hB, push_level]
          have z2 := okx.lev
          have z3 := okx.hold
          show Su72.level x.barrel + x.rate ≤ 600
          omega
        have hBn := hBp.len
        have hi1 : H1 af = some (.ins C dx (fzF x l)) := k1 _ _ hi hal
        have hA1 : FzAt C H1 af l { x with barrel := B } := ⟨⟨dx, hi1⟩, P1, k1 _ _ hA.kg hA.pk.symm, k1 _ _ hA.ml hA.pm.symm, hA.pk, hA.pm, hA.km⟩
        -- self.total_fed += self.rate
        refine ⟨_, rfl, af, C, dx, _, _, rfl, hi1, T.c_Freezer, T.f_total_fed, rfl, _, rfl, af, C, dx, _, _, rfl, hi1, T.c_Freezer, T.f_rate, rfl, _, _, rfl, rfl, dx, _, hi1, by show 10 < 1000; decide, ?_⟩
        have hA2 : FzAt C (upd H1 af (.ins C dx (fzF { x with barrel := B, fed := x.fed + x.rate } l))) af l { x with barrel := B, fed := x.fed + x.rate } := hA1.put rfl
        have k2 : Keep (fun b => b = af ∨ l.Has b) H (upd H1 af (.ins C dx (fzF { x with barrel := B, fed := x.fed + x.rate } l))) := (k1.mono fun b z => .inr (.inl z)).trans (upd_keep (.inl rfl))
        have ef : putF "total_fed" (V.int ((x.fed : Int) + (x.rate : Int))) (fzF x l) = fzF { x with barrel := B, fed := x.fed + x.rate } l := rfl
        rw [ef]
        generalize hH2 : upd H1 af _ = H2 at hA2 k2
        have hi2 : H2 af = some (.ins C dx (fzF { x with barrel := B, fed := x.fed + x.rate } l)) := by rw [← hH2, upd_same]
        clear hH2
        -- came = draw(self.parts, weight(self.parts) - self.holds)
        refine ⟨_, rfl, af, C, dx, _, _, rfl, hi2, T.c_Freezer, T.f_parts, rfl, _, rfl, af, C, dx, _, _, rfl, hi2, T.c_Freezer, T.f_parts, rfl, l.p, B, rfl, hA2.parts, by omega, fun H3 s3 => ?_⟩
        have hi3 := s3 _ _ hi2
        have hA3 := hA2.same s3
        refine ⟨_, rfl, af, C, dx, _, _, rfl, hi3, T.c_Freezer, T.f_holds, rfl, _, _, rfl, rfl, ?_⟩
        have ez : ((Su72.level B : Nat) - (x.hold : Int)).toNat = Su72.level B - x.hold := by omega
        refine ⟨l.p, B, _, rfl, hA3.parts, hBp, by rw [ez]; omega, by omega, fun H4 c hc P4 G4 k4 => ?_⟩
        rw [ez] at P4 G4
        have hi4 : H4 af = some (.ins C dx (fzF { x with barrel := B, fed := x.fed + x.rate } l)) := k4 _ _ hi3 hal
        obtain ⟨gs, hc4, hG⟩ := G4.ex
        have ecm : (Su72.draw (Su72.level B - x.hold) B).1 = came a x := by
          unfold came
          rw [if_neg h0, if_neg h1, hB]
        rw [ecm] at hG
        generalize hR : (Su72.draw (Su72.level B - x.hold) B).2 = R at P4
        have hA4 : FzAt C H4 af l { x with barrel := R, fed := x.fed + x.rate } := ⟨⟨dx, hi4⟩, P4, k4 _ _ hA3.kg hA.pk.symm, k4 _ _ hA3.ml hA.pm.symm, hA.pk, hA.pm, hA.km⟩
        have k5 : Keep (fun b => b = af ∨ l.Has b) H H4 := (k2.trans (Same.keep s3)).trans (k4.mono fun b z => .inr (.inl z))
        have ncm : c ≠ l.k ∧ c ≠ l.m := ⟨(fun z => by rw [z, hA3.kg] at hc; cases hc), (fun z => by rw [z, hA3.ml] at hc; cases hc)⟩
        have hd := ok.dense
        have hov := okx.over
        have hcp := came_parts (a := a) okx
        have hwk : a.works x = counted a { x with barrel := R, fed := x.fed + x.rate } x.over (came a x) := by
          rw [works_goes h0 h1, hB, hR]
          rfl
        have tupl : ∀ {H' : Hp} {t : Addr} {xs : List V}, H4 t = some (.tup xs) → Keep (fun b => b = l.k ∨ b = l.m) H4 H' → H' t = some (.tup xs) := fun {H' t xs} e k => k _ _ e fun z => by
          rcases z with z | z
          · rw [z, hA4.kg] at e; cases e
          · rw [z, hA4.ml] at e; cases e
        refine ⟨_, rfl, c, rfl, ⟨_, SqL.of hc4⟩, for_list (K := K) (a := c) (xs := gs.map V.ref)
          (fun j σ H' => ∃ (v4 : Option V), σ = [some (.ref af), some (.int (a.dense : Int)), some (.int (a.stiff : Int)), some (.ref c), v4] ∧ FzAt C H' af l (counted a { x with barrel := R, fed := x.fed + x.rate } x.over ((came a x).take j)) ∧ Keep (fun b => b = l.k ∨ b = l.m) H4 H')
          ⟨none, rfl, hA4, .refl _ _⟩ (fun j σ H' _ ⟨_, _, _, k⟩ => SqL.of (k _ _ hc4 fun z => z.elim ncm.1 ncm.2)) ?_ ?_⟩
        · rintro j y σ H' hy ⟨v4, rfl, hA5, k6⟩
          obtain ⟨t, ht, rfl⟩ := getElem_map hy
          obtain ⟨p, hp, hH⟩ := hG.at ht
          have hpp := hcp p (List.mem_of_getElem? hp)
          have hH' := tupl hH k6
          obtain ⟨d5, hi5⟩ := hA5.ins
          have hkl : (counted a { x with barrel := R, fed := x.fed + x.rate } x.over ((came a x).take j)).kg.length = 10 := (fold_len (fun y => y.2) _ _).trans okx.kgl
          have hml : (counted a { x with barrel := R, fed := x.fed + x.rate } x.over ((came a x).take j)).ml.length = 10 := (fold_len (fun y => a.litres y.2 x.over) _ _).trans okx.mll
          refine aug_val (.fld (.vr rfl) hi5 T.c_Freezer T.f_kilograms rfl) (.ixT (.vr rfl) .cn (SqT.of hH') rfl) hA5.kg (by omega) (.ixT (.vr rfl) .cn (SqT.of hH') rfl) ?_
          have nak : af ≠ l.k := ne_of hi5 hA5.kg (by intro z; cases z)
          have nam : af ≠ l.m := ne_of hi5 hA5.ml (by intro z; cases z)
          have hH2 : ∀ {o : HO}, upd H' l.k o t = some (.tup (pairV p)) := fun {o} => by
            rw [upd_ne (ne_of hH' hA5.kg (by intro z; cases z))]
            exact hH'
          have hi6 : ∀ {o : HO}, upd H' l.k o af = some (.ins C d5 (fzF (counted a { x with barrel := R, fed := x.fed + x.rate } x.over ((came a x).take j)) l)) := fun {o} => by
            rw [upd_ne nak]
            exact hi5
          refine aug_val (n := a.litres p.2 x.over) (.fld (.vr rfl) hi6 T.c_Freezer T.f_millilitres rfl) (.ixT (.vr rfl) .cn (SqT.of hH2) rfl) (by rw [upd_ne hA5.km.symm]; exact hA5.ml) (by omega) (call_val (.cons (.ixT (.vr rfl) .cn (SqT.of hH2) rfl) (.cons (.fld (.vr rfl) hi6 T.c_Freezer T.f_air rfl) (.cons (.vr rfl) .nil))) fun Q' q' => ⟨p.2, x.over, a.dense, rfl, by omega, by omega, by omega, q'⟩) ?_
          refine ⟨some (.ref t), rfl, ?_, fun b o e n => ?_⟩
          · rw [take_snoc hp]
            have e1 : (counted a { x with barrel := R, fed := x.fed + x.rate } x.over ((came a x).take j ++ [p])).kg = Su72.add (counted a { x with barrel := R, fed := x.fed + x.rate } x.over ((came a x).take j)).kg p.1 p.2 := by
              unfold counted
              dsimp only
              rw [List.foldl_append]
              rfl
            have e2 : (counted a { x with barrel := R, fed := x.fed + x.rate } x.over ((came a x).take j ++ [p])).ml = Su72.add (counted a { x with barrel := R, fed := x.fed + x.rate } x.over ((came a x).take j)).ml p.1 (a.litres p.2 x.over) := by
              unfold counted
              dsimp only
              rw [List.foldl_append]
              rfl
            refine ⟨⟨d5, by rw [upd_ne nam, upd_ne nak]; exact hi5⟩, ?_, ?_, ?_, hA.pk, hA.pm, hA.km⟩
            · obtain ⟨ts, e3, e4⟩ := hA5.parts.ex
              refine .mk' (ts := ts) (by rw [upd_ne hA.pm, upd_ne hA.pk]; exact e3) (e4.imp fun t xs e => ?_)
              rw [upd_ne (ne_of e hA5.ml (by intro z; cases z)), upd_ne (ne_of e hA5.kg (by intro z; cases z))]
              exact e
            · rw [upd_ne hA.km, upd_same, e1]
            · rw [upd_same, e2]
          · rw [upd_ne (fun z => n (.inr z)), upd_ne (fun z => n (.inl z))]
            exact k6 b o e n
        · rintro σ H' ⟨v4, rfl, hA5, k6⟩
          rw [List.length_map, hG.len, List.take_length, ← hwk] at hA5
          exact q H' hA5 (k5.trans (k6.mono fun b z => .inr (.inr z)))
end
end Fz
set_option Elab.async false
set_option linter.all false
set_option maxRecDepth 100000
set_option maxHeartbeats 2000000
namespace Fz
open PySem PySem.Spec PyProof.Rows L2
theorem ret_valS {te : TE} {σ : L2.St} {H : Hp} {v : V} {D : Ends} (h : ValS te σ H v) (k : ∀ H1, Same H H1 → D.rt v H1) : tRet te D σ H := h _ k
theorem get_map {α β : Type} {g : α → β} {l : List α} {i : Nat} {x : α} {n : β} (hx : l[i]? = some x) (hn : (l.map g)[i]? = some n) : n = g x := by
  rw [List.getElem?_map, hx] at hn
  exact (Option.some.inj hn).symm
section
variable {P : Program} {w : World} {K : PySem.W.Frag} {mg : Str → Option Value} {base : Heap} {Cw C : Addr}
def sp_kilograms_out (C : Addr) : Sp := fun vs H Q _ => ∃ (L : Addr) (as : List Addr) (ls : List Loc) (fs : List Su72.Freezer), vs = [.ref L] ∧ H L = some (.lst (as.map V.ref)) ∧ Frs C H as ls fs ∧ fs.length ≤ 10000 ∧ ∀ H', Same H H' → Q (.int ((kgsOf fs : Nat) : Int)) H'
def sp_millilitres_out (C : Addr) : Sp := fun vs H Q _ => ∃ (L : Addr) (as : List Addr) (ls : List Loc) (fs : List Su72.Freezer), vs = [.ref L] ∧ H L = some (.lst (as.map V.ref)) ∧ Frs C H as ls fs ∧ fs.length ≤ 10000 ∧ ∀ H', Same H H' → Q (.int ((mlsOf fs : Nat) : Int)) H'
theorem ok_kilograms_out {f : Addr} {fd : FuncData} (F : Fun K "kilograms_out" "kilograms_out" s_kilograms_out f fd) (T : Txt K mg Cw C) : FnOk P w K mg base CX0 1 f fd ["freezers"] (sp_kilograms_out C) := by
  have nd := sc_kilograms_out.nd
  refine F.ok sc_kilograms_out (fun vs H Q E h => ?_) (fun cdv A outer s H vs Q E hr h => ?_)
  · obtain ⟨L, as, ls, fs, rfl, _⟩ := h
    rfl
  · obtain ⟨L, as, ls, fs, rfl, hL, hF, hz, q⟩ := h
    refine ⟨_, (pss_one (ps_ret (pe_callB (cr_sum rfl) rfl T.n_sum b_sum (pa_cons (pe_lc (own := [("freezer", 1)]) rfl nd (pi_list (pv 0)) (blkOk_by (by rfl)) (fun _ _ _ _ _ => (pg_name (i := 1) nd rfl (Or.inl rfl))) (fun _ _ _ _ _ => pts_nil) (fun _ _ _ _ _ => (pe_sumK (K := K) rfl rfl rfl T.n_sum (pa_cons (pe_fldK (K := K) rfl (pv 1) rfl) pa_nil)))) pa_nil)))), ?_⟩
    have hla := hF.la
    refine ret_valS (sumLc (K := K) (ns := fs.map fun (x : Su72.Freezer) => x.kg.sum) (.vr rfl) hL (by rw [List.length_map, hla]) (by omega) (fun _ => rfl) fun i x n H' hx hn s1 => ?_) q
    obtain ⟨y, l, hy, hl, hA⟩ := (hF.same s1).get hx
    obtain ⟨dx, hi⟩ := hA.ins
    rw [get_map hy hn]
    exact Val.s (.sumL (.fld (.vr rfl) hi T.c_Freezer T.f_kilograms rfl) hA.kg)
theorem ok_millilitres_out {f : Addr} {fd : FuncData} (F : Fun K "millilitres_out" "millilitres_out" s_millilitres_out f fd) (T : Txt K mg Cw C) : FnOk P w K mg base CX0 1 f fd ["freezers"] (sp_millilitres_out C) := by
  have nd := sc_millilitres_out.nd
  refine F.ok sc_millilitres_out (fun vs H Q E h => ?_) (fun cdv A outer s H vs Q E hr h => ?_)
  · obtain ⟨L, as, ls, fs, rfl, _⟩ := h
    rfl
  · obtain ⟨L, as, ls, fs, rfl, hL, hF, hz, q⟩ := h
    refine ⟨_, (pss_one (ps_ret (pe_callB (cr_sum rfl) rfl T.n_sum b_sum (pa_cons (pe_lc (own := [("freezer", 1)]) rfl nd (pi_list (pv 0)) (blkOk_by (by rfl)) (fun _ _ _ _ _ => (pg_name (i := 1) nd rfl (Or.inl rfl))) (fun _ _ _ _ _ => pts_nil) (fun _ _ _ _ _ => (pe_sumK (K := K) rfl rfl rfl T.n_sum (pa_cons (pe_fldK (K := K) rfl (pv 1) rfl) pa_nil)))) pa_nil)))), ?_⟩
    have hla := hF.la
    refine ret_valS (sumLc (K := K) (ns := fs.map fun (x : Su72.Freezer) => x.ml.sum) (.vr rfl) hL (by rw [List.length_map, hla]) (by omega) (fun _ => rfl) fun i x n H' hx hn s1 => ?_) q
    obtain ⟨y, l, hy, hl, hA⟩ := (hF.same s1).get hx
    obtain ⟨dx, hi⟩ := hA.ins
    rw [get_map hy hn]
    exact Val.s (.sumL (.fld (.vr rfl) hi T.c_Freezer T.f_millilitres rfl) hA.ml)
structure GMins (P : Program) (w : World) (K : PySem.W.Frag) (mg : Str → Option Value) (base : Heap) (C : Addr) : Prop where
  Freezer_pass_minute : Met P w K mg base 3 C "pass_minute" ["self", "density", "coldest"] (sp_pass_minute C)
def sp_let_pass (Cw C : Addr) : Sp := fun vs H Q _ => ∃ (a : Su72.Abs) (n m : Nat) (b : Bool) (W L L0 dW : Addr) (as : List Addr) (ls : List Loc) (fs : List Su72.Freezer), vs = [.ref W, .ref L, .int (n : Int)] ∧ AOk a ∧ (∀ x ∈ fs, FOk x) ∧ n ≤ 100000 ∧ H W = some (.ins Cw dW (wkF b a.dense a.stiff m L0)) ∧
  H L = some (.lst (as.map V.ref)) ∧ (∀ l ∈ ls, ¬ l.Has L) ∧ Frs C H as ls fs ∧ ∀ (H' : Hp), Frs C H' as ls (fs.map (Abs.worksN a n)) → Keep (Own as ls) H H' → Q .non H'
theorem ok_let_pass {f : Addr} {fd : FuncData} (F : Fun K "let_pass" "Works.let_pass" s_Works_let_pass f fd) (T : Txt K mg Cw C) (G : GMins P w K mg base C) : FnOk P w K mg base CX0 5 f fd ["self", "freezers", "how_many"] (sp_let_pass Cw C) := by
  have nd := sc_Works_let_pass.nd
  refine F.ok sc_Works_let_pass (fun vs H Q E h => ?_) (fun cdv A outer s H vs Q E hr h => ?_)
  · obtain ⟨a, n, m, b, W, L, L0, dW, as, ls, fs, rfl, _⟩ := h
    rfl
  · obtain ⟨a, n, m, b, W, L, L0, dW, as, ls, fs, rfl, ok, okf, hn, hw, hL, hnL, hF, q⟩ := h
    have nW : ¬ Own as ls W := fun z => by
      rcases hF.own z with ⟨_, _, _, e⟩ | ⟨_, e⟩ <;> (rw [hw] at e; cases e)
    have nL : ¬ Own as ls L := fun z => by
      rcases z with z | ⟨l, hl, z⟩
      · obtain ⟨i, hi⟩ := List.getElem?_of_mem z
        obtain ⟨x, l, _, _, hA⟩ := hF.get hi
        obtain ⟨dx, e⟩ := hA.ins
        rw [hL] at e; cases e
      · exact hnL l hl z
    refine ⟨_, (pss_one (ps_for PassesOwn.never rfl (pi_list (pv 1)) (pg_name (i := 3) nd rfl (Or.inl rfl)) (pss_one (ps_for PassesOwn.never rfl (pi_range1 rfl T.n_range (pa_cons (pv 2) pa_nil)) (pg_name (i := 4) nd rfl (Or.inl rfl)) (pss_one (ps_expr (pe_met (pv 3) T.c_Freezer G.Freezer_pass_minute (hr.mono (by decide)) (pa_cons (pe_fld (pv 0) rfl) (pa_cons (pe_fld (pv 0) rfl) pa_nil))))))))), ?_⟩
    refine ⟨_, rfl, L, rfl, ⟨_, SqL.of hL⟩, for_list (K := K) (a := L) (xs := as.map V.ref)
      (fun i σ H' => ∃ (v3 v4 : Option V), σ = [some (.ref W), some (.ref L), some (.int (n : Int)), v3, v4] ∧ Frs C H' as ls (gone (Abs.worksN a n) fs i) ∧ Keep (Own as ls) H H')
      ⟨none, none, rfl, by rw [gone_zero]; exact hF, .refl _ _⟩ (fun i σ H' _ ⟨_, _, _, _, k⟩ => SqL.of (k _ _ hL nL)) ?_ ?_⟩
    · rintro i y σ H1 hy ⟨v3, v4, rfl, F1, k1⟩
      obtain ⟨af, haf, rfl⟩ := getElem_map hy
      obtain ⟨x, hx⟩ := get_len hF.la.symm haf
      obtain ⟨l, hl⟩ := get_len hF.ll hx
      have okx := okf x (List.mem_of_getElem? hx)
      have hg := gone_at (g := Abs.worksN a n) hx
      refine ⟨_, rfl, (n : Int), rfl, by omega, by omega, ?_⟩
      rw [Int.toNat_natCast]
      refine for_range (lo := 0) (n := n)
        (fun t σ H' => ∃ (v4 : Option V), σ = [some (.ref W), some (.ref L), some (.int (n : Int)), some (.ref af), v4] ∧ Frs C H' as ls ((gone (Abs.worksN a n) fs i).set i (Abs.worksN a t x)) ∧ Keep (Own as ls) H H')
        ⟨v4, rfl, ?_, k1⟩ ?_ ?_
      · have e : (gone (Abs.worksN a n) fs i).set i (Abs.worksN a 0 x) = gone (Abs.worksN a n) fs i := by
          show (gone (Abs.worksN a n) fs i).set i x = _
          obtain ⟨h1, h2⟩ := List.getElem?_eq_some_iff.mp hg
          rw [← h2, List.set_getElem_self]
        rw [e]
        exact F1
      · rintro t σ H2 ht ⟨v4, rfl, F2, k2⟩
        have hlt : i < (gone (Abs.worksN a n) fs i).length := (List.getElem?_eq_some_iff.mp hg).1
        have hcur : ((gone (Abs.worksN a n) fs i).set i (Abs.worksN a t x))[i]? = some (Abs.worksN a t x) := List.getElem?_set_self hlt
        have okt : FOk (Abs.worksN a t x) := worksN_ok a t x okx
        obtain ⟨af', l', ha', hl', hA⟩ := F2.at_ i _ hcur
        have eaf : af' = af := Option.some.inj (ha'.symm.trans haf)
        have el : l' = l := Option.some.inj (hl'.symm.trans hl)
        subst eaf el
        obtain ⟨dx, hi⟩ := hA.ins
        have hw2 := k2 _ _ hw nW
        refine meth_run (.vr rfl) hi rfl (.cons (.fld (.vr rfl) hw2 T.c_Works T.w_density rfl) (.cons (.fld (.vr rfl) hw2 T.c_Works T.w_coldest rfl) .nil)) ⟨a, _, af', l', rfl, ok, okt, hA, fun H3 hA3 k3 => ?_⟩
        have ec : (gone (Abs.worksN a n) fs i).set i (a.works (Abs.worksN a t x)) = ((gone (Abs.worksN a n) fs i).set i (Abs.worksN a t x)).set i (a.works (Abs.worksN a t x)) := by rw [List.set_set]
        refine ⟨_, rfl, ?_, k2.trans (k3.mono fun b z => own_one haf hl z)⟩
        rw [worksN_succ, ec]
        exact F2.step haf hl hA3 k3
      · rintro σ H2 ⟨v4, rfl, F2, k2⟩
        rw [gone_set hx] at F2
        exact ⟨_, _, rfl, F2, k2⟩
    · rintro σ H1 ⟨v3, v4, rfl, F1, k1⟩
      rw [List.length_map, hF.la, gone_all] at F1
      exact q H1 F1 k1
structure GMn (P : Program) (w : World) (K : PySem.W.Frag) (mg : Str → Option Value) (base : Heap) (Cw C : Addr) : Prop where
  Works_let_pass : Met P w K mg base 5 Cw "let_pass" ["self", "freezers", "how_many"] (sp_let_pass Cw C)
  kilograms_out : Cal P w K mg base 1 "kilograms_out" ["freezers"] (sp_kilograms_out C)
  millilitres_out : Cal P w K mg base 1 "millilitres_out" ["freezers"] (sp_millilitres_out C)
theorem goes_freezers (a : Su72.Abs) (n : Nat) : (a.goes n).freezers = a.freezers.map (Abs.worksN a n) := by rw [goes_eq]
theorem ok_minutes {f : Addr} {fd : FuncData} (F : Fun K "minutes" "minutes" s_minutes f fd) (T : Txt K mg Cw C) (G : GMn P w K mg base Cw C) : FnOk P w K mg base CX0 9 f fd ["works", "numbers"] (spH Cw C 1 begun fun ks => .minutes (ks.getD 0 0)) := by
  have nd := sc_minutes.nd
  refine F.ok sc_minutes (fun vs H Q E h => ?_) (fun cdv A outer s H vs Q E hr h => ?_)
  · obtain ⟨W, L, nl, as, ls, s, ks, rfl, _⟩ := h
    rfl
  · obtain ⟨W, L, nl, as, ls, s, ks, rfl, hk, hn, _, hs, ⟨a, rfl⟩, hW, q⟩ := h
    obtain ⟨n, rfl⟩ := len1 hk
    · replace q : After Cw C H W L as ls (Su72.step (some a) (.minutes n)).1 (Su72.step (some a) (.minutes n)).2 Q := q
      have ok := hs a rfl
      have hW : WkAt Cw C H W L as ls true a.dense a.stiff a.now_ a.freezers := hW
      obtain ⟨dW, hw⟩ := hW.ins
      have hfew := ok.few
      refine ⟨_, (pss_cons (ps_set (i := 2) nd rfl (Or.inl rfl) (pe_ix ix_seq (pv 1) pe_int (fun _ _ => rfl))) (pss_cons (ps_if (pt_not (pt_chain op_le op_le pe_int (pv 2) (pe_gint rfl T.m_MOST_MINUTES))) (pss_one (ps_ret (pe_lst (pa_cons (pe_gint rfl T.m_OUT_OF_RANGE) pa_nil)))) pss_nil) (pss_cons (ps_set (i := 3) nd rfl (Or.inl rfl) (pe_cal G.kilograms_out (hr.mono (by decide)) rfl (pa_cons (pe_fld (pv 0) rfl) pa_nil))) (pss_cons (ps_set (i := 4) nd rfl (Or.inl rfl) (pe_cal G.millilitres_out (hr.mono (by decide)) rfl (pa_cons (pe_fld (pv 0) rfl) pa_nil))) (pss_cons (ps_fldaug (pv 0) (pv 2) in_add) (pss_cons (ps_expr (pe_met (pv 0) T.c_Works G.Works_let_pass (hr.mono (by decide)) (pa_cons (pe_fld (pv 0) rfl) (pa_cons (pv 2) pa_nil)))) (pss_one (ps_ret (pe_lst (pa_cons (pe_fld (pv 0) rfl) (pa_cons (pe_op op_sub (pe_cal G.kilograms_out (hr.mono (by decide)) rfl (pa_cons (pe_fld (pv 0) rfl) pa_nil)) (pv 3)) (pa_cons (pe_op op_sub (pe_cal G.millilitres_out (hr.mono (by decide)) rfl (pa_cons (pe_fld (pv 0) rfl) pa_nil)) (pv 4)) pa_nil)))))))))))), ?_⟩
      refine set_val (.ixL (.vr rfl) .cn (SqL.of hn) rfl) ?_
      refine if_val (.not (.chain .cn (.vr rfl) .cn)) (fun e => ?_) (fun e => ?_)
      · refine ret_lst (.cons .cn .nil) (by decide) fun p hp => ?_
        simp only [Bool.not_eq_true', decide_eq_false_iff_not] at e
        exact (q.of (if_pos (by omega))).still hW (.refl _) hp rfl
      · simp only [Bool.not_eq_false', decide_eq_true_eq] at e
        refine set_valS (callS (.cons (.fld (.vr rfl) hw T.c_Works T.w_freezers rfl) .nil) fun Q' q' => ⟨L, as, ls, a.freezers, rfl, hW.lst, hW.frs, by omega, q'⟩) fun H1 s1 => ?_
        have hW1 := hW.same s1
        have hw1 := s1 _ _ hw
        refine set_valS (callS (.cons (.fld (.vr rfl) hw1 T.c_Works T.w_freezers rfl) .nil) fun Q' q' => ⟨L, as, ls, a.freezers, rfl, hW1.lst, hW1.frs, by omega, q'⟩) fun H2 s2 => ?_
        have hW2 := hW1.same s2
        have hw2 := s2 _ _ hw1
        refine ⟨_, rfl, W, Cw, dW, _, _, rfl, hw2, T.c_Works, T.w_minute, rfl, _, rfl, _, _, rfl, rfl, dW, _, hw2, by show 5 < 1000; decide, ?_⟩
        have eput : putF "minute" (V.int ((a.now_ : Int) + (n : Int))) (wkF true a.dense a.stiff a.now_ L) = wkF true a.dense a.stiff (a.now_ + n) L := rfl
        rw [eput]
        have hWL : W ≠ L := ne_of hw2 hW2.lst (by intro z; cases z)
        have nW : ¬ Own as ls W := fun z => by
          rcases hW2.frs.own z with ⟨_, _, _, e⟩ | ⟨_, e⟩ <;> (rw [hw2] at e; cases e)
        have hW3 : WkAt Cw C (upd H2 W (.ins Cw dW (wkF true a.dense a.stiff (a.now_ + n) L))) W L as ls true a.dense a.stiff (a.now_ + n) a.freezers :=
          ⟨⟨dW, upd_same⟩, by rw [upd_ne hWL.symm]; exact hW2.lst, hW2.notL, hW2.frs.keep keep_upd (fun c hc z => nW (by rw [← z]; exact hc)) fun t xs e z => by rw [z, hw2] at e; cases e⟩
        have k3 : Keep (Foot W L as ls) H (upd H2 W (.ins Cw dW (wkF true a.dense a.stiff (a.now_ + n) L))) := (Same.keep (s1.trans s2)).trans (upd_keep (.inl rfl))
        generalize hH3 : upd H2 W _ = H3 at hW3 k3
        have hw3 : H3 W = some (.ins Cw dW (wkF true a.dense a.stiff (a.now_ + n) L)) := by rw [← hH3, upd_same]
        clear hH3
        refine meth_run (.vr rfl) hw3 rfl (.cons (.fld (.vr rfl) hw3 T.c_Works T.w_freezers rfl) (.cons (.vr rfl) .nil)) ⟨a, n, _, true, W, L, L, dW, as, ls, a.freezers, rfl, ok, ok.each, by omega, hw3, hW3.lst, hW3.notL, hW3.frs, fun H4 F4 k4 => ?_⟩
        have hW4 := hW3.with F4 k4
        have k5 : Keep (Foot W L as ls) H H4 := k3.trans (k4.mono fun b z => .inr (.inr z))
        rw [← goes_freezers a n] at hW4
        obtain ⟨dW4, hw4⟩ := hW4.ins
        have hfew2 : (a.goes n).freezers.length ≤ 10000 := by
          rw [goes_freezers, List.length_map]
          omega
        refine ret_lstS (.cons (Val.s (.fld (.vr rfl) hw4 T.c_Works T.w_minute rfl)) fun Ha sa => .cons (.sub (callS (.cons (.fld (.vr rfl) (sa _ _ hw4) T.c_Works T.w_freezers rfl) .nil) fun Q' q' => ⟨L, as, ls, _, rfl, sa _ _ hW4.lst, hW4.frs.same sa, hfew2, q'⟩) fun Hb sb => Val.s (.vr rfl)) fun Hb sb =>
          .cons (.sub (callS (.cons (.fld (.vr rfl) (sb _ _ (sa _ _ hw4)) T.c_Works T.w_freezers rfl) .nil) fun Q' q' => ⟨L, as, ls, _, rfl, sb _ _ (sa _ _ hW4.lst), (hW4.frs.same sa).same sb, hfew2, q'⟩) fun _ _ => Val.s (.vr rfl)) fun _ _ => .nil) (by show 3 ≤ sizeLine; decide) fun H5 p s5 hp => ?_
        have hp0 : H p = none := by
          cases z : H p with
          | none => rfl
          | some o =>
            by_cases y : Foot W L as ls p
            · exact absurd (s5.free hp) (foot_there hW4 y)
            · rw [s5 _ _ (k5 p o z y)] at hp; cases hp
        have s6 : Same H4 (upd H5 p (.lst _)) := s5.trans (same_new (o := .lst [.int ((a.now_ + n : Nat) : Int), .int (((kgsOf (a.goes n).freezers : Nat) : Int) - ((kgsOf a.freezers : Nat) : Int)), .int (((mlsOf (a.goes n).freezers : Nat) : Int) - ((mlsOf a.freezers : Nat) : Int))]) hp)
        have en : (a.goes n).dense = a.dense ∧ (a.goes n).stiff = a.stiff ∧ (a.goes n).now_ = a.now_ + n := by
          rw [goes_eq]
          exact ⟨rfl, rfl, rfl⟩
        refine (q.of (if_neg (by omega))) _ p L as ls hp0 ?_ ?_ (k5.trans (Same.keep s6)) fun b hb => .inl hb
        · have e1 : ((kgsOf (a.goes n).freezers : Nat) : Int) - ((kgsOf a.freezers : Nat) : Int) = (((a.goes n).kgs - a.kgs : Nat) : Int) := by
            rw [kgs_of, kgs_of, goes_freezers, kgsOf_worksN n ok.each]
            omega
          have e2 : ((mlsOf (a.goes n).freezers : Nat) : Int) - ((mlsOf a.freezers : Nat) : Int) = (((a.goes n).mls - a.mls : Nat) : Int) := by
            rw [mls_of, mls_of, goes_freezers, mlsOf_worksN n ok.each]
            omega
          rw [upd_same, ansV_num, e1, e2]
          rfl
        · show WkAt Cw C _ W L as ls true (a.goes n).dense (a.goes n).stiff (a.goes n).now_ (a.goes n).freezers
          rw [en.1, en.2.1, en.2.2]
          exact hW4.same s6
end
end Fz
set_option Elab.async false
set_option linter.all false
set_option maxRecDepth 100000
set_option maxHeartbeats 2000000
namespace Fz
open PySem PySem.Spec PyProof.Rows L2
theorem Same.keepNew {S : Addr → Prop} {H H1 H2 : Hp} (s : Same H H1) (k : Keep S H1 H2) (hn : ∀ c, S c → H c = none) : Same H H2 := fun c o e => k c o (s c o e) fun z => by rw [hn c z] at e; cases e
theorem barrel_few {x : Su72.Freezer} (okx : FOk x) : x.barrel.length ≤ 10000 := by
  have z1 := okx.parts.len
  have z2 := okx.lev
  have z3 := okx.hold
  omega
theorem Val.eqI {σ : L2.St} {H : Hp} {ta tb : TE} {i j : Int} (ha : Val ta σ H (.int i)) (hb : Val tb σ H (.int j)) : Val (tOp rEq ta tb) σ H (.bl (decide (i = j))) := fun _ q => ha _ (hb _ ⟨rfl, by rw [dec_int]; exact q⟩)
def bare (x : Su72.Freezer) : Su72.Freezer := { zero x with barrel := [] }
section
variable {P : Program} {w : World} {K : PySem.W.Frag} {mg : Str → Option Value} {base : Heap} {Cw C : Addr}
structure GTwin (P : Program) (w : World) (K : PySem.W.Frag) (mg : Str → Option Value) (base : Heap) (C : Addr) : Prop where
  Freezer_new : Mak P w K mg base 1 "Freezer" C ["self", "holds", "power"] (sp_Freezer_init C)
def sp_twin (C : Addr) : Sp := fun vs H Q _ => ∃ (x : Su72.Freezer) (af : Addr) (l : Loc), vs = [.ref af] ∧ FzAt C H af l x ∧ ∀ (H' : Hp) (b : Addr) (k : Loc), H b = none → (∀ c, k.Has c → H c = none) → FzAt C H' b k (zero x) → Same H H' → Q (.ref b) H'
theorem ok_twin {f : Addr} {fd : FuncData} (F : Fun K "twin" "Freezer.twin" s_Freezer_twin f fd) (T : Txt K mg Cw C) (G : GTwin P w K mg base C) : FnOk P w K mg base CX0 4 f fd ["self"] (sp_twin C) := by
  have nd := sc_Freezer_twin.nd
  refine F.ok sc_Freezer_twin (fun vs H Q E h => ?_) (fun cdv A outer s H vs Q E hr h => ?_)
  · obtain ⟨x, af, l, rfl, _⟩ := h
    rfl
  · obtain ⟨x, af, l, rfl, hA, q⟩ := h
    obtain ⟨dx, hi⟩ := hA.ins
    refine ⟨_, (pss_cons (ps_set (i := 1) nd rfl (Or.inl rfl) (pe_mak G.Freezer_new (hr.mono (by decide)) rfl (pa_cons (pe_fld (pv 0) rfl) (pa_cons (pe_fld (pv 0) rfl) pa_nil)))) (pss_cons (ps_fld (pv 1) (pe_fld (pv 0) rfl) rfl) (pss_cons (ps_fld (pv 1) (pe_fld (pv 0) rfl) rfl) (pss_cons (ps_fld (pv 1) (pe_fld (pv 0) rfl) rfl) (pss_cons (ps_fld (pv 1) (pe_fld (pv 0) rfl) rfl) (pss_cons (ps_fld (pv 1) (pe_callTy call_list_of rfl T.n_list b_list (pa_cons (pe_fld (pv 0) rfl) pa_nil)) rfl) (pss_one (ps_ret (pv 1))))))))), ?_⟩
    refine ⟨_, rfl, af, C, dx, _, _, rfl, hi, T.c_Freezer, T.f_holds, rfl, _, rfl, af, C, dx, _, _, rfl, hi, T.c_Freezer, T.f_power, rfl, fun b db nb ndb neb => ?_⟩
    refine ⟨b, db, x.hold, x.power, rfl, upd_same, fun H1 k hk e1 hB k1 => ⟨rfl, ?_⟩⟩
    have hk0 : ∀ c, k.Has c → H c = none ∧ c ≠ b := fun c hc => by
      have hl := hk c hc
      have z1 : c ≠ b := fun z => by rw [z, upd_same] at hl; cases hl
      have z2 : c ≠ db := fun z => by rw [z, upd_ne neb, upd_same] at hl; cases hl
      rw [upd_ne z1, upd_ne z2] at hl
      exact ⟨hl, z1⟩
    have s1 : Same H H1 := fun c o e => k1 c o (by rw [upd_ne (ne_of_none e nb), upd_ne (ne_of_none e ndb)]; exact e) (ne_of_none e nb)
    have nab : af ≠ b := ne_of_none hi nb
    have hi1 := s1 _ _ hi
    have hup : ∀ {o : HO}, upd H1 b o af = some (.ins C dx (fzF x l)) := fun {o} => by
      rw [upd_ne nab]
      exact hi1
    refine fld_val (.fld (.vr rfl) hi1 T.c_Freezer T.f_fed_with rfl) (.vr rfl) e1 T.c_Freezer T.f_fed_with (by show 10 < 1000; decide) ?_
    refine fld_val (.fld (.vr rfl) hup T.c_Freezer T.f_rate rfl) (.vr rfl) upd_same T.c_Freezer T.f_rate (by show 10 < 1000; decide) ?_
    rw [upd_twice]
    refine fld_val (.fld (.vr rfl) hup T.c_Freezer T.f_air rfl) (.vr rfl) upd_same T.c_Freezer T.f_air (by show 10 < 1000; decide) ?_
    rw [upd_twice]
    refine fld_val (.fld (.vr rfl) hup T.c_Freezer T.f_frozen rfl) (.vr rfl) upd_same T.c_Freezer T.f_frozen (by show 10 < 1000; decide) ?_
    rw [upd_twice]
    have hB2 : FzAt C (upd H1 b (.ins C db (fzF (bare x) k))) b k (bare x) := hB.put (y := (bare x)) rfl
    have ef : putF "frozen" (V.bl x.stuck) (putF "air" (V.int x.over) (putF "rate" (V.int x.rate) (putF "fed_with" (V.int x.feed) (fzF (fresh x.hold x.power) k)))) = fzF (bare x) k := rfl
    rw [ef]
    have s2 : Same H (upd H1 b (.ins C db (fzF (bare x) k))) := Same.keepNew s1 keep_upd fun c z => by rw [z]; exact nb
    generalize hH2 : upd H1 b _ = H2 at hB2 s2
    have hb2 : H2 b = some (.ins C db (fzF (bare x) k)) := by rw [← hH2, upd_same]
    clear hH2 ef
    have hi2 := s2 _ _ hi
    obtain ⟨ts, h1, h2⟩ := hA.parts.ex
    have h1' := s2 _ _ h1
    refine ⟨_, rfl, af, C, dx, _, _, rfl, hi2, T.c_Freezer, T.f_parts, rfl, l.p, _, rfl, .inl (SqL.of h1'), fun p hp => ?_⟩
    have npb : p ≠ b := fun z => by rw [z, hb2] at hp; cases hp
    have npk : p ≠ k.k := fun z => by rw [z, hB2.kg] at hp; cases hp
    have npm : p ≠ k.m := fun z => by rw [z, hB2.ml] at hp; cases hp
    have nkb : k.k ≠ b := (hk0 _ (.inr (.inl rfl))).2
    have nmb : k.m ≠ b := (hk0 _ (.inr (.inr rfl))).2
    refine ⟨_, rfl, b, C, db, _, rfl, by rw [upd_ne npb.symm]; exact hb2, T.c_Freezer, T.f_parts, by show 10 < 1000; decide, ?_⟩
    refine ret_val (.vr rfl) ?_
    refine q _ b ⟨p, k.k, k.m⟩ nb (fun c hc => ?_) ⟨⟨db, upd_same⟩, ?_, ?_, ?_, npk, npm, hB2.km⟩ (Same.keepNew (s2.trans (same_new hp)) keep_upd fun c z => by rw [z]; exact nb)
    · rcases hc with hc | hc | hc
      · rw [hc]; exact s2.free hp
      · rw [hc]; exact (hk0 _ (.inr (.inl rfl))).1
      · rw [hc]; exact (hk0 _ (.inr (.inr rfl))).1
    · refine .mk' (ts := ts) ?_ (h2.imp fun t xs e => ?_)
      · show upd _ b _ p = _
        rw [upd_ne npb, upd_same]
      · rw [upd_ne (ne_of_none e nb), upd_ne (ne_of_none (s2 _ _ e) hp)]
        exact s2 _ _ e
    · show upd _ b _ k.k = _
      rw [upd_ne nkb, upd_ne npk.symm]
      exact hB2.kg
    · show upd _ b _ k.m = _
      rw [upd_ne nmb, upd_ne npm.symm]
      exact hB2.ml
def sp_has_nothing_else (C : Addr) : Sp := fun vs H Q _ => ∃ (x : Su72.Freezer) (af : Addr) (l : Loc), vs = [.ref af] ∧ FzAt C H af l x ∧ x.barrel.length ≤ 10000 ∧ ∀ (H' : Hp), Same H H' → Q (.bl (Su72.pure_ x)) H'
theorem ok_has_nothing_else {f : Addr} {fd : FuncData} (F : Fun K "has_nothing_else" "Freezer.has_nothing_else" s_Freezer_has_nothing_else f fd) (T : Txt K mg Cw C) : FnOk P w K mg base CX0 1 f fd ["self"] (sp_has_nothing_else C) := by
  have nd := sc_Freezer_has_nothing_else.nd
  refine F.ok sc_Freezer_has_nothing_else (fun vs H Q E h => ?_) (fun cdv A outer s H vs Q E hr h => ?_)
  · obtain ⟨x, af, l, rfl, _⟩ := h
    rfl
  · obtain ⟨x, af, l, rfl, hA, hz, q⟩ := h
    obtain ⟨dx, hi⟩ := hA.ins
    obtain ⟨ts, h1, h2⟩ := hA.parts.ex
    refine ⟨_, (pss_one (ps_ret (pe_callB (cr_all rfl) rfl T.n_all b_all (pa_cons (pe_lc (own := [("part", 1)]) rfl nd (pi_list (pe_fld (pv 0) rfl)) (blkOk_by (by rfl)) (fun _ _ _ _ _ => (pg_name (i := 1) nd rfl (Or.inl rfl))) (fun _ _ _ _ _ => pts_nil) (fun _ _ _ _ _ => (pe_cmpR op_eq (pe_ixK (K := K) rfl (pv 1) pe_int (fun _ _ => rfl)) (pe_op op_sub (pe_fldK (K := K) rfl (pv 0) rfl) pe_int) (nomark _)))) pa_nil)))), ?_⟩
    refine ⟨_, rfl, af, C, dx, _, _, rfl, hi, T.c_Freezer, T.f_parts, rfl, l.p, rfl, ⟨_, SqL.of h1⟩, fun D hD => lc_list (K := K) (a := l.p) (xs := ts.map V.ref) (fun i H' => H' D = some (.lst ((x.barrel.take i).map fun p => V.bl (p.1 + 1 == x.feed))) ∧ Same H H') ⟨upd_same, same_new hD⟩ (fun i H' _ ⟨_, s5⟩ => SqL.of (s5 _ _ h1)) ?_ ?_⟩
    · rintro i y H' hy ⟨hD', s5⟩
      obtain ⟨t, ht, rfl⟩ := getElem_map hy
      obtain ⟨p, hp, hH⟩ := h2.at ht
      refine ⟨rfl, lc_yes ?_⟩
      have ev : decide ((p.1 : Int) = (x.feed : Int) - 1) = (p.1 + 1 == x.feed) := by
        rw [Bool.eq_iff_iff, decide_eq_true_eq, beq_iff_eq]
        omega
      refine Val.eqI (.ixT (.vr rfl) .cn (SqT.of (s5 _ _ hH)) rfl) (.sub (.fld (.vr rfl) (s5 _ _ hi) T.c_Freezer T.f_fed_with rfl) .cn) _ ?_
      rw [ev]
      refine ⟨_, hD', ?_, ?_, fun b o e => ?_⟩
      · rw [List.length_map, List.length_take]
        exact Nat.lt_of_le_of_lt (Nat.min_le_right _ _) (Nat.lt_of_le_of_lt hz (by decide))
      · rw [upd_same, take_snoc hp, List.map_append]
        rfl
      · rw [upd_ne (ne_of_none e hD)]
        exact s5 _ _ e
    · rintro H' ⟨hD', s5⟩
      refine ⟨D, x.barrel.map (fun p => p.1 + 1 == x.feed), rfl, SqL.of ?_, ?_⟩
      · rw [hD', List.length_map, h2.len, List.take_length, List.map_map]
        rfl
      · have e : (x.barrel.map fun p => p.1 + 1 == x.feed).all id = Su72.pure_ x := by
          unfold Su72.pure_
          rw [List.all_map]
          rfl
        rw [e]
        exact q H' s5
structure GAhead (P : Program) (w : World) (K : PySem.W.Frag) (mg : Str → Option Value) (base : Heap) (Cw C : Addr) : Prop extends GMins P w K mg base C, GMn P w K mg base Cw C where
  Freezer_twin : Met P w K mg base 4 C "twin" ["self"] (sp_twin C)
  Freezer_has_nothing_else : Met P w K mg base 1 C "has_nothing_else" ["self"] (sp_has_nothing_else C)
theorem ok_flushed {f : Addr} {fd : FuncData} (F : Fun K "flushed" "flushed" s_flushed f fd) (T : Txt K mg Cw C) (G : GAhead P w K mg base Cw C) : FnOk P w K mg base CX0 9 f fd ["works", "numbers"] (spH Cw C 1 there fun ks => .flushed (ks.getD 0 0)) := by
  have nd := sc_flushed.nd
  refine F.ok sc_flushed (fun vs H Q E h => ?_) (fun cdv A outer s H vs Q E hr h => ?_)
  · obtain ⟨W, L, nl, as, ls, s, ks, rfl, _⟩ := h
    rfl
  · obtain ⟨W, L, nl, as, ls, s, ks, rfl, hk, hn, _, hs, ⟨a, rfl, hf⟩, hW, q⟩ := h
    obtain ⟨f, rfl⟩ := len1 hk
    · replace q : After Cw C H W L as ls (Su72.step (some a) (.flushed f)).1 (Su72.step (some a) (.flushed f)).2 Q := q
      replace hf : f < a.freezers.length := hf
      have ok := hs a rfl
      obtain ⟨dW, hw⟩ := hW.ins
      obtain ⟨x, af, l, hx, ha, hl, hA, hat⟩ := WkAt.pick hW hf
      have okx := ok.each x (List.mem_of_getElem? hx)
      obtain ⟨dx, hi⟩ := hA.ins
      have d1 : Su72.does a (.flushed f) = if (a.freezer f).feed = 0 then (a, Su72.no (-6)) else (match a.flushed f with
        | none => (a, Su72.no (-33))
        | some n => (a, Su72.num n [])) := if_neg (isF_of hf)
      have d2 : a.flushed f = a.first Su72.pure_ 1001 x := by
        unfold Su72.Abs.flushed
        rw [freezer_of hx]
        rfl
      rw [freezer_of hx] at d1
      refine ⟨_, (pss_cons (ps_set (i := 2) nd rfl (Or.inl rfl) (pe_ix ix_seq (pe_fld (pv 0) rfl) (pe_ix ix_seq (pv 1) pe_int (fun _ _ => rfl)) (fun _ _ => rfl))) (pss_cons (ps_if (pt_cmpR op_eq (pe_fld (pv 2) rfl) pe_int (nomark _)) (pss_one (ps_ret (pe_lst (pa_cons (pe_gint rfl T.m_NOT_FED) pa_nil)))) pss_nil) (pss_cons (ps_set (i := 3) nd rfl (Or.inl rfl) (pe_met0 (pv 2) T.c_Freezer G.Freezer_twin (hr.mono (by decide)))) (pss_cons (ps_for PassesOwn.never rfl (pi_range1 rfl T.n_range (pa_cons (pe_op op_add (pe_gint rfl T.m_MOST_AHEAD) pe_int) pa_nil)) (pg_name (i := 4) nd rfl (Or.inl rfl)) (pss_cons (ps_if (pt_val (pe_met0 (pv 3) T.c_Freezer G.Freezer_has_nothing_else (hr.mono (by decide)))) (pss_one (ps_ret (pe_lst (pa_cons (pv 4) pa_nil)))) pss_nil) (pss_one (ps_expr (pe_met (pv 3) T.c_Freezer G.Freezer_pass_minute (hr.mono (by decide)) (pa_cons (pe_fld (pv 0) rfl) (pa_cons (pe_fld (pv 0) rfl) pa_nil))))))) (pss_one (ps_ret (pe_lst (pa_cons (pe_gint rfl T.m_CANNOT_BE) pa_nil)))))))), ?_⟩
      refine set_val (.ixL (.fld (.vr rfl) hw T.c_Works T.w_freezers rfl) (.ixL (.vr rfl) .cn (SqL.of hn) rfl) (SqL.of hW.lst) hat) ?_
      refine if_val (.eq (.fld (.vr rfl) hi T.c_Freezer T.f_fed_with rfl) .cn) (fun e => ?_) (fun e => ?_)
      · have e1 := of_decide_eq_true e
        refine ret_lst (.cons .cn .nil) (by decide) fun p hp => ?_
        exact (q.of (d1.trans (if_pos (by omega)))).still hW (.refl _) hp rfl
      · have e1 := of_decide_eq_false e
        replace d1 := d1.trans (if_neg (by omega))
        refine meth_run (.vr rfl) hi rfl .nil ⟨x, af, l, rfl, hA, fun H1 b k nb nk hB s1 => ?_⟩
        have hnew : ∀ c, (c = b ∨ k.Has c) → H c = none := fun c z => z.elim (fun z => by rw [z]; exact nb) (nk c)
        refine ⟨_, _, rfl, rfl, 1001, rfl, by decide, by decide, for_range (lo := 0) (n := 1001) (fun i σ H' => ∃ v4 : Option V, σ = [some (.ref W), some (.ref nl), some (.ref af), some (.ref b), v4] ∧ Same H H' ∧ FzAt C H' b k (Abs.worksN a i (zero x)) ∧ ∀ j, j < i → Su72.pure_ (Abs.worksN a j x) = false) ⟨none, rfl, s1, hB, fun j hj => absurd hj (Nat.not_lt_zero _)⟩ ?_ ?_⟩
        · rintro i σ H' hi' ⟨v4, rfl, s2, hB2, hall⟩
          obtain ⟨db, hb2⟩ := hB2.ins
          have okt := worksN_ok a i _ (zero_ok okx)
          have ep : Su72.pure_ (Abs.worksN a i x) = Su72.pure_ (Abs.worksN a i (zero x)) := ((twin_zero x).worksN i).pure
          refine if_valS (.val (methS (.vr rfl) hb2 rfl .nil fun Q' q' => ⟨_, b, k, rfl, hB2, barrel_few okt, q'⟩)) (fun e H3 s3 => ?_) (fun e H3 s3 => ?_)
          · refine ret_lst (.cons (.vr rfl) .nil) (by show 1 ≤ sizeLine; decide) fun p hp => ?_
            have d3 : a.flushed f = some i := by
              rw [d2]
              exact first_at hi' (ep.trans e) hall
            rw [d3] at d1
            refine (q.of d1).still hW (s2.trans s3) hp ?_
            rw [ansV_num, Int.zero_add]
            rfl
          · have hw3 := s3 _ _ (s2 _ _ hw)
            refine meth_run (.vr rfl) (s3 _ _ hb2) rfl (.cons (.fld (.vr rfl) hw3 T.c_Works T.w_density rfl) (.cons (.fld (.vr rfl) hw3 T.c_Works T.w_coldest rfl) .nil)) ⟨a, _, b, k, rfl, ok, okt, hB2.same s3, fun H4 hB4 k4 => ⟨_, rfl, Same.keepNew (s2.trans s3) k4 hnew, by rw [worksN_succ]; exact hB4, fun j hj => ?_⟩⟩
            by_cases z : j = i
            · rw [z, ep]; exact e
            · exact hall j (by omega)
        · rintro σ H' ⟨v4, rfl, s2, hB2, hall⟩
          refine ret_lst (σ := []) (.cons .cn .nil) (by decide) fun p hp => ?_
          have d3 : a.flushed f = none := by
            rw [d2]
            exact first_none hall
          rw [d3] at d1
          exact (q.of d1).still hW s2 hp rfl
theorem ok_until {f : Addr} {fd : FuncData} (F : Fun K "until" "until" s_until f fd) (T : Txt K mg Cw C) (G : GAhead P w K mg base Cw C) : FnOk P w K mg base CX0 9 f fd ["works", "numbers"] (spH Cw C 3 there fun ks => .until (ks.getD 0 0) (ks.getD 1 0) (ks.getD 2 0)) := by
  have nd := sc_until.nd
  refine F.ok sc_until (fun vs H Q E h => ?_) (fun cdv A outer s H vs Q E hr h => ?_)
  · obtain ⟨W, L, nl, as, ls, s, ks, rfl, _⟩ := h
    rfl
  · obtain ⟨W, L, nl, as, ls, s, ks, rfl, hk, hn, _, hs, ⟨a, rfl, hf⟩, hW, q⟩ := h
    obtain ⟨f, v, n, rfl⟩ := len3 hk
    · replace q : After Cw C H W L as ls (Su72.step (some a) (.until f v n)).1 (Su72.step (some a) (.until f v n)).2 Q := q
      replace hf : f < a.freezers.length := hf
      have ok := hs a rfl
      obtain ⟨dW, hw⟩ := hW.ins
      obtain ⟨x, af, l, hx, ha, hl, hA, hat⟩ := WkAt.pick hW hf
      have okx := ok.each x (List.mem_of_getElem? hx)
      obtain ⟨dx, hi⟩ := hA.ins
      have d0 : Su72.does a (.until f v n) = if Su72.FLAVOURS ≤ v ∨ 100000 < n then (a, Su72.no (-22)) else (match a.until f v (1000 * n) with
        | none => (a, Su72.no (-33))
        | some n => (a, Su72.num n [])) := if_neg (isF_of hf)
      have d2 : a.until f v (1000 * n) = a.first (fun y => decide (x.ml.getD v 0 + 1000 * n ≤ y.ml.getD v 0)) 1001 x := by
        unfold Su72.Abs.until
        rw [freezer_of hx]
        rfl
      refine ⟨_, (pss_cons (ps_set (i := 2) nd rfl (Or.inl rfl) (pe_ix ix_seq (pe_fld (pv 0) rfl) (pe_ix ix_seq (pv 1) pe_int (fun _ _ => rfl)) (fun _ _ => rfl))) (pss_cons (ps_set (i := 3) nd rfl (Or.inl rfl) (pe_ix ix_seq (pv 1) pe_int (fun _ _ => rfl))) (pss_cons (ps_set (i := 4) nd rfl (Or.inl rfl) (pe_ix ix_seq (pv 1) pe_int (fun _ _ => rfl))) (pss_cons (ps_if (PW.pt (pw_or (pt_cmpR op_ge (pv 3) (pe_gint rfl T.m_FLAVOURS) (nomark _)) (pw_or1 (pt_cmpR op_gt (pv 4) (pe_gint rfl T.m_MOST_AMOUNT) (nomark _))))) (pss_one (ps_ret (pe_lst (pa_cons (pe_gint rfl T.m_OUT_OF_RANGE) pa_nil)))) pss_nil) (pss_cons (ps_set (i := 5) nd rfl (Or.inl rfl) (pe_met0 (pv 2) T.c_Freezer G.Freezer_twin (hr.mono (by decide)))) (pss_cons (ps_for PassesOwn.never rfl (pi_range1 rfl T.n_range (pa_cons (pe_op op_add (pe_gint rfl T.m_MOST_AHEAD) pe_int) pa_nil)) (pg_name (i := 6) nd rfl (Or.inl rfl)) (pss_cons (ps_if (pt_cmpR op_ge (pe_ix ix_seq (pe_fld (pv 5) rfl) (pv 3) (fun _ _ => rfl)) (pe_op op_mul pe_int (pv 4)) (nomark _)) (pss_one (ps_ret (pe_lst (pa_cons (pv 6) pa_nil)))) pss_nil) (pss_one (ps_expr (pe_met (pv 5) T.c_Freezer G.Freezer_pass_minute (hr.mono (by decide)) (pa_cons (pe_fld (pv 0) rfl) (pa_cons (pe_fld (pv 0) rfl) pa_nil))))))) (pss_one (ps_ret (pe_lst (pa_cons (pe_gint rfl T.m_CANNOT_BE) pa_nil)))))))))), ?_⟩
      refine set_val (.ixL (.fld (.vr rfl) hw T.c_Works T.w_freezers rfl) (.ixL (.vr rfl) .cn (SqL.of hn) rfl) (SqL.of hW.lst) hat) ?_
      refine set_val (.ixL (.vr rfl) .cn (SqL.of hn) rfl) ?_
      refine set_val (.ixL (.vr rfl) .cn (SqL.of hn) rfl) ?_
      refine if_val (.or (.ge (.vr rfl) .cn) (.gt (.vr rfl) .cn)) (fun e => ?_) (fun e => ?_)
      · simp only [Bool.or_eq_true, decide_eq_true_eq] at e
        refine ret_lst (.cons .cn .nil) (by decide) fun p hp => ?_
        exact (q.of (d0.trans (if_pos (by unfold Su72.FLAVOURS; omega)))).still hW (.refl _) hp rfl
      · simp only [Bool.or_eq_false_iff, decide_eq_false_iff_not] at e
        have d1 := d0.trans (if_neg (by unfold Su72.FLAVOURS; omega))
        refine meth_run (.vr rfl) hi rfl .nil ⟨x, af, l, rfl, hA, fun H1 b k nb nk hB s1 => ?_⟩
        have hnew : ∀ c, (c = b ∨ k.Has c) → H c = none := fun c z => z.elim (fun z => by rw [z]; exact nb) (nk c)
        refine ⟨_, _, rfl, rfl, 1001, rfl, by decide, by decide, for_range (lo := 0) (n := 1001) (fun i σ H' => ∃ v6 : Option V, σ = [some (.ref W), some (.ref nl), some (.ref af), some (.int (v : Int)), some (.int (n : Int)), some (.ref b), v6] ∧ Same H H' ∧ FzAt C H' b k (Abs.worksN a i (zero x)) ∧ ∀ j, j < i → decide (x.ml.getD v 0 + 1000 * n ≤ (Abs.worksN a j x).ml.getD v 0) = false) ⟨none, rfl, s1, hB, fun j hj => absurd hj (Nat.not_lt_zero _)⟩ ?_ ?_⟩
        · rintro i σ H' hi' ⟨v6, rfl, s2, hB2, hall⟩
          obtain ⟨db, hb2⟩ := hB2.ins
          have okt := worksN_ok a i _ (zero_ok okx)
          have ep := worksN_mlD (a := a) okx v i
          have hml := okt.mll
          refine if_val (.ge (.ixL (.fld (.vr rfl) hb2 T.c_Freezer T.f_millilitres rfl) (.vr rfl) (SqL.of hB2.ml) (atI_nat (natsV_at (by omega)))) (.mul .cn (.vr rfl) (.inl ⟨by decide, by decide⟩))) (fun e2 => ?_) (fun e2 => ?_)
          · have e3 := of_decide_eq_true e2
            refine ret_lst (.cons (.vr rfl) .nil) (by show 1 ≤ sizeLine; decide) fun p hp => ?_
            have d3 : a.until f v (1000 * n) = some i := by
              rw [d2]
              exact first_at hi' (decide_eq_true (by omega)) hall
            rw [d3] at d1
            refine (q.of d1).still hW s2 hp ?_
            rw [ansV_num, Int.zero_add]
            rfl
          · have e3 := of_decide_eq_false e2
            have hw2 := s2 _ _ hw
            refine meth_run (.vr rfl) hb2 rfl (.cons (.fld (.vr rfl) hw2 T.c_Works T.w_density rfl) (.cons (.fld (.vr rfl) hw2 T.c_Works T.w_coldest rfl) .nil)) ⟨a, _, b, k, rfl, ok, okt, hB2, fun H4 hB4 k4 => ⟨_, rfl, Same.keepNew s2 k4 hnew, by rw [worksN_succ]; exact hB4, fun j hj => ?_⟩⟩
            by_cases z : j = i
            · rw [z]; exact decide_eq_false (by omega)
            · exact hall j (by omega)
        · rintro σ H' ⟨v6, rfl, s2, hB2, hall⟩
          refine ret_lst (σ := []) (.cons .cn .nil) (by decide) fun p hp => ?_
          have d3 : a.until f v (1000 * n) = none := by
            rw [d2]
            exact first_none hall
          rw [d3] at d1
          exact (q.of d1).still hW s2 hp rfl
end
end Fz
set_option Elab.async false
set_option linter.all false
set_option maxRecDepth 100000
set_option maxHeartbeats 2000000
namespace Fz
open PySem PySem.Spec PyProof.Rows L2
section
variable {P : Program} {w : World} {K : PySem.W.Frag} {mg : Str → Option Value} {base : Heap} {Cw C : Addr}
theorem set_lstS {σ : L2.St} {H : Hp} {D : Ends} {n : Nat} {t : TA} {vs : List V} (h : ValAS t σ H vs) (l : vs.length ≤ sizeLine) (k : ∀ H1 p, Same H H1 → H1 p = none → D.nx (σ.set n (some (.ref p))) (upd H1 p (.lst vs))) : tAsg (tLst t) (gName n) D σ H := h _ fun H1 s1 => ⟨l, fun p hp => k H1 p s1 hp⟩
theorem ok_made {f : Addr} {fd : FuncData} (F : Fun K "made" "made" s_made f fd) (T : Txt K mg Cw C) : FnOk P w K mg base CX0 9 f fd ["works", "numbers"] (spH Cw C 1 begun fun ks => .made (ks.getD 0 0)) := by
  have nd := sc_made.nd
  refine F.ok sc_made (fun vs H Q E h => ?_) (fun cdv A outer s H vs Q E hr h => ?_)
  · obtain ⟨W, L, nl, as, ls, s, ks, rfl, _⟩ := h
    rfl
  · obtain ⟨W, L, nl, as, ls, s, ks, rfl, hk, hn, _, hs, ⟨a, rfl⟩, hW, q⟩ := h
    obtain ⟨v, rfl⟩ := len1 hk
    · replace q : After Cw C H W L as ls (Su72.step (some a) (.made v)).1 (Su72.step (some a) (.made v)).2 Q := q
      have ok := hs a rfl
      have hW : WkAt Cw C H W L as ls true a.dense a.stiff a.now_ a.freezers := hW
      obtain ⟨dW, hw⟩ := hW.ins
      have hfew := ok.few
      have hla := hW.frs.la
      refine ⟨_, (pss_cons (ps_set (i := 2) nd rfl (Or.inr rfl) (pe_ix ix_seq (pv 1) pe_int (fun _ _ => rfl))) (pss_cons (ps_if (pt_cmpR op_ge (pv 2) (pe_gint rfl T.m_FLAVOURS) (nomark _)) (pss_one (ps_ret (pe_lst (pa_cons (pe_gint rfl T.m_OUT_OF_RANGE) pa_nil)))) pss_nil) (pss_cons (ps_set (i := 3) nd rfl (Or.inl rfl) (pe_callB (cr_sum rfl) rfl T.n_sum b_sum (pa_cons (pe_lc (own := [("freezer", 5)]) rfl nd (pi_list (pe_fld (pv 0) rfl)) (blkOk_by (by rfl)) (fun _ _ _ _ _ => (pg_name (i := 5) nd rfl (Or.inl rfl))) (fun _ _ _ _ _ => pts_nil) (fun _ _ _ _ _ => (pe_ixK (K := K) rfl (pe_fldK (K := K) rfl (pv 5) rfl) (pv 2) (fun _ _ => rfl)))) pa_nil))) (pss_cons (ps_set (i := 4) nd rfl (Or.inl rfl) (pe_callB (cr_sum rfl) rfl T.n_sum b_sum (pa_cons (pe_lc (own := [("freezer", 5)]) rfl nd (pi_list (pe_fld (pv 0) rfl)) (blkOk_by (by rfl)) (fun _ _ _ _ _ => (pg_name (i := 5) nd rfl (Or.inl rfl))) (fun _ _ _ _ _ => pts_nil) (fun _ _ _ _ _ => (pe_ixK (K := K) rfl (pe_fldK (K := K) rfl (pv 5) rfl) (pv 2) (fun _ _ => rfl)))) pa_nil))) (pss_one (ps_ret (pe_lst (pa_cons (pv 3) (pa_cons (pv 4) pa_nil))))))))), ?_⟩
      refine set_val (.ixL (.vr rfl) .cn (SqL.of hn) rfl) ?_
      refine if_val (.ge (.vr rfl) .cn) (fun e => ?_) (fun e => ?_)
      · have e1 := of_decide_eq_true e
        refine ret_lst (.cons .cn .nil) (by decide) fun p hp => ?_
        exact (q.of (if_pos (by unfold Su72.FLAVOURS; omega))).still hW (.refl _) hp rfl
      · have e1 := of_decide_eq_false e
        refine set_valS (sumLc (K := K) (ns := a.freezers.map fun (x : Su72.Freezer) => x.kg.getD v 0) (.fld (.vr rfl) hw T.c_Works T.w_freezers rfl) hW.lst (by rw [List.length_map, hla]) (by omega) (fun _ => rfl) fun i x n H' hx hn s1 => ?_) fun H1 s1 => ?_
        · obtain ⟨y, l, hy, hl, hA⟩ := (hW.frs.same s1).get hx
          obtain ⟨dx, hi⟩ := hA.ins
          have okl := (ok.each y (List.mem_of_getElem? hy)).kgl
          rw [get_map hy hn]
          exact Val.s (.ixL (.fld (.vr rfl) hi T.c_Freezer T.f_kilograms rfl) (.vr rfl) (SqL.of hA.kg) (atI_nat (natsV_at (by omega))))
        have hW1 := hW.same s1
        have hw1 := s1 _ _ hw
        refine set_valS (sumLc (K := K) (ns := a.freezers.map fun (x : Su72.Freezer) => x.ml.getD v 0) (.fld (.vr rfl) hw1 T.c_Works T.w_freezers rfl) hW1.lst (by rw [List.length_map, hla]) (by omega) (fun _ => rfl) fun i x n H' hx hn s2 => ?_) fun H2 s2 => ?_
        · obtain ⟨y, l, hy, hl, hA⟩ := (hW1.frs.same s2).get hx
          obtain ⟨dx, hi⟩ := hA.ins
          have okl := (ok.each y (List.mem_of_getElem? hy)).mll
          rw [get_map hy hn]
          exact Val.s (.ixL (.fld (.vr rfl) hi T.c_Freezer T.f_millilitres rfl) (.vr rfl) (SqL.of hA.ml) (atI_nat (natsV_at (by omega))))
        refine ret_lst (.cons (.vr rfl) (.cons (.vr rfl) .nil)) (by show 2 ≤ sizeLine; decide) fun p hp => ?_
        refine (q.of (if_neg (by unfold Su72.FLAVOURS; omega))).still hW (s1.trans s2) hp ?_
        rw [ansV_num]
        rfl
theorem ok_look {f : Addr} {fd : FuncData} (F : Fun K "look" "look" s_look f fd) (T : Txt K mg Cw C) : FnOk P w K mg base CX0 9 f fd ["works", "numbers"] (spH Cw C 1 there fun ks => .look (ks.getD 0 0)) := by
  have nd := sc_look.nd
  refine F.ok sc_look (fun vs H Q E h => ?_) (fun cdv A outer s H vs Q E hr h => ?_)
  · obtain ⟨W, L, nl, as, ls, s, ks, rfl, _⟩ := h
    rfl
  · obtain ⟨W, L, nl, as, ls, s, ks, rfl, hk, hn, _, hs, ⟨a, rfl, hf⟩, hW, q⟩ := h
    obtain ⟨f, rfl⟩ := len1 hk
    · replace q : After Cw C H W L as ls (Su72.step (some a) (.look f)).1 (Su72.step (some a) (.look f)).2 Q := q
      replace hf : f < a.freezers.length := hf
      obtain ⟨dW, hw⟩ := hW.ins
      obtain ⟨x, af, l, hx, ha, hl, hA, hat⟩ := WkAt.pick hW hf
      obtain ⟨dx, hi⟩ := hA.ins
      refine ⟨_, (pss_cons (ps_set (i := 2) nd rfl (Or.inl rfl) (pe_ix ix_seq (pe_fld (pv 0) rfl) (pe_ix ix_seq (pv 1) pe_int (fun _ _ => rfl)) (fun _ _ => rfl))) (pss_cons (ps_set (i := 3) nd rfl (Or.inl rfl) (pe_ifExp (pt_val (pe_fld (pv 2) rfl)) pe_int pe_int)) (pss_one (ps_ret (pe_lst (pa_cons (pe_fld (pv 2) rfl) (pa_cons (pe_fld (pv 2) rfl) (pa_cons (pe_fld (pv 2) rfl) (pa_cons (pv 3) (pa_cons (pe_fld (pv 2) rfl) (pa_cons (pe_fld (pv 2) rfl) pa_nil))))))))))), ?_⟩
      refine set_val (.ixL (.fld (.vr rfl) hw T.c_Works T.w_freezers rfl) (.ixL (.vr rfl) .cn (SqL.of hn) rfl) (SqL.of hW.lst) hat) ?_
      refine set_val (.ife (.val (.fld (.vr rfl) hi T.c_Freezer T.f_frozen rfl)) .cn .cn) ?_
      refine ret_lst (.cons (.fld (.vr rfl) hi T.c_Freezer T.f_fed_with rfl) (.cons (.fld (.vr rfl) hi T.c_Freezer T.f_rate rfl) (.cons (.fld (.vr rfl) hi T.c_Freezer T.f_air rfl) (.cons (.vr rfl) (.cons (.fld (.vr rfl) hi T.c_Freezer T.f_holds rfl) (.cons (.fld (.vr rfl) hi T.c_Freezer T.f_power rfl) .nil)))))) (by show 6 ≤ sizeLine; decide) fun p hp => ?_
      refine (q.of (if_neg (isF_of hf))).still hW (.refl _) hp ?_
      rw [ansV_num, freezer_of hx]
      unfold Su72.bit
      cases x.stuck <;> rfl
theorem ok_state {f : Addr} {fd : FuncData} (F : Fun K "state" "state" s_state f fd) (T : Txt K mg Cw C) : FnOk P w K mg base CX0 9 f fd ["works", "numbers"] (spH Cw C 0 begun fun _ => .state) := by
  refine F.ok sc_state (fun vs H Q E h => ?_) (fun cdv A outer s H vs Q E hr h => ?_)
  · obtain ⟨W, L, nl, as, ls, s, ks, rfl, _⟩ := h
    rfl
  · obtain ⟨W, L, nl, as, ls, s, ks, rfl, hk, hn, _, hs, ⟨a, rfl⟩, hW, q⟩ := h
    have hW : WkAt Cw C H W L as ls true a.dense a.stiff a.now_ a.freezers := hW
    obtain ⟨dW, hw⟩ := hW.ins
    have hla := hW.frs.la
    refine ⟨_, (pss_one (ps_ret (pe_lst (pa_cons (pe_fld (pv 0) rfl) (pa_cons (pe_callB call_len_seq rfl T.n_len b_len (pa_cons (pe_fld (pv 0) rfl) pa_nil)) (pa_cons (pe_fld (pv 0) rfl) (pa_cons (pe_fld (pv 0) rfl) pa_nil))))))), ?_⟩
    refine ret_lst (.cons (.fld (.vr rfl) hw T.c_Works T.w_minute rfl) (.cons (.len (.fld (.vr rfl) hw T.c_Works T.w_freezers rfl) (SqL.of hW.lst)) (.cons (.fld (.vr rfl) hw T.c_Works T.w_density rfl) (.cons (.fld (.vr rfl) hw T.c_Works T.w_coldest rfl) .nil)))) (by show 4 ≤ sizeLine; decide) fun p hp => ?_
    refine (q.of (c := .state) rfl).still hW (.refl _) hp ?_
    rw [ansV_num, List.length_map, hla]
    rfl
structure GSums (P : Program) (w : World) (K : PySem.W.Frag) (mg : Str → Option Value) (base : Heap) (Cw C : Addr) : Prop extends GMn P w K mg base Cw C where
  weight : Cal P w K mg base 1 "weight" ["parts"] sp_weight
theorem ok_sums {f : Addr} {fd : FuncData} (F : Fun K "sums" "sums" s_sums f fd) (T : Txt K mg Cw C) (G : GSums P w K mg base Cw C) : FnOk P w K mg base CX0 9 f fd ["works", "numbers"] (spH Cw C 0 begun fun _ => .sums) := by
  have nd := sc_sums.nd
  refine F.ok sc_sums (fun vs H Q E h => ?_) (fun cdv A outer s H vs Q E hr h => ?_)
  · obtain ⟨W, L, nl, as, ls, s, ks, rfl, _⟩ := h
    rfl
  · obtain ⟨W, L, nl, as, ls, s, ks, rfl, hk, hn, _, hs, ⟨a, rfl⟩, hW, q⟩ := h
    have ok := hs a rfl
    have hW : WkAt Cw C H W L as ls true a.dense a.stiff a.now_ a.freezers := hW
    obtain ⟨dW, hw⟩ := hW.ins
    have hfew := ok.few
    have hla := hW.frs.la
    refine ⟨_, (pss_cons (ps_set (i := 2) nd rfl (Or.inl rfl) (pe_callB (cr_sum rfl) rfl T.n_sum b_sum (pa_cons (pe_lc (own := [("freezer", 4)]) rfl nd (pi_list (pe_fld (pv 0) rfl)) (blkOk_by (by rfl)) (fun _ _ _ _ _ => (pg_name (i := 4) nd rfl (Or.inl rfl))) (fun _ _ _ _ _ => pts_nil) (fun _ _ _ _ _ => (pe_fldK (K := K) rfl (pv 4) rfl))) pa_nil))) (pss_cons (ps_set (i := 3) nd rfl (Or.inl rfl) (pe_callB (cr_sum rfl) rfl T.n_sum b_sum (pa_cons (pe_lc (own := [("freezer", 4)]) rfl nd (pi_list (pe_fld (pv 0) rfl)) (blkOk_by (by rfl)) (fun _ _ _ _ _ => (pg_name (i := 4) nd rfl (Or.inl rfl))) (fun _ _ _ _ _ => pts_nil) (fun _ _ _ _ _ => (pe_cal G.weight (hr.mono (by decide)) rfl (pa_cons (pe_fldK (K := K) rfl (pv 4) rfl) pa_nil)))) pa_nil))) (pss_one (ps_ret (pe_lst (pa_cons pe_int (pa_cons (pv 2) (pa_cons (pv 3) (pa_cons (pe_cal G.kilograms_out (hr.mono (by decide)) rfl (pa_cons (pe_fld (pv 0) rfl) pa_nil)) (pa_cons (pe_cal G.millilitres_out (hr.mono (by decide)) rfl (pa_cons (pe_fld (pv 0) rfl) pa_nil)) pa_nil)))))))))), ?_⟩
    refine set_valS (sumLc (K := K) (ns := a.freezers.map Su72.Freezer.fed) (.fld (.vr rfl) hw T.c_Works T.w_freezers rfl) hW.lst (by rw [List.length_map, hla]) (by omega) (fun _ => rfl) fun i x n H' hx hn s1 => ?_) fun H1 s1 => ?_
    · obtain ⟨y, l, hy, hl, hA⟩ := (hW.frs.same s1).get hx
      obtain ⟨dx, hi⟩ := hA.ins
      rw [get_map hy hn]
      exact Val.s (.fld (.vr rfl) hi T.c_Freezer T.f_total_fed rfl)
    have hW1 := hW.same s1
    have hw1 := s1 _ _ hw
    refine set_valS (sumLc (K := K) (ns := a.freezers.map fun (x : Su72.Freezer) => Su72.level x.barrel) (.fld (.vr rfl) hw1 T.c_Works T.w_freezers rfl) hW1.lst (by rw [List.length_map, hla]) (by omega) (fun _ => rfl) fun i x n H' hx hn s2 => ?_) fun H2 s2 => ?_
    · obtain ⟨y, l, hy, hl, hA⟩ := (hW1.frs.same s2).get hx
      obtain ⟨dx, hi⟩ := hA.ins
      rw [get_map hy hn]
      exact callS (.cons (.fld (.vr rfl) hi T.c_Freezer T.f_parts rfl) .nil) fun Q' q' => ⟨l.p, y.barrel, rfl, hA.parts, barrel_few (ok.each y (List.mem_of_getElem? hy)), q'⟩
    have hW2 := hW1.same s2
    have hw2 := s2 _ _ hw1
    refine ret_lstS (.cons (Val.s .cn) fun Ha sa => .cons (Val.s (.vr rfl)) fun Hb sb => .cons (Val.s (.vr rfl)) fun Hc sc => .cons (callS (.cons (.fld (.vr rfl) (sc _ _ (sb _ _ (sa _ _ hw2))) T.c_Works T.w_freezers rfl) .nil) fun Q' q' => ⟨L, as, ls, a.freezers, rfl, (((hW2.same sa).same sb).same sc).lst, (((hW2.same sa).same sb).same sc).frs, by omega, q'⟩) fun Hd sd =>
      .cons (callS (.cons (.fld (.vr rfl) (sd _ _ (sc _ _ (sb _ _ (sa _ _ hw2)))) T.c_Works T.w_freezers rfl) .nil) fun Q' q' => ⟨L, as, ls, a.freezers, rfl, ((((hW2.same sa).same sb).same sc).same sd).lst, ((((hW2.same sa).same sb).same sc).same sd).frs, by omega, q'⟩) fun _ _ => .nil) (by show 5 ≤ sizeLine; decide) fun H5 p s5 hp => ?_
    refine (q.of (c := .sums) rfl).still hW ((s1.trans s2).trans s5) hp ?_
    rw [ansV_num]
    rfl
theorem flat_snoc (l : List (Nat × Nat)) (p : Nat × Nat) : (l ++ [p]).flatMap (fun x => [x.1, x.2]) = l.flatMap (fun x => [x.1, x.2]) ++ [p.1, p.2] := by
  rw [List.flatMap_append]
  rfl
theorem flat_len : ∀ l : List (Nat × Nat), (l.flatMap fun x => [x.1, x.2]).length = 2 * l.length
  | [] => rfl
  | p :: l => by
    rw [List.flatMap_cons, List.length_append, flat_len l, List.length_cons]
    show 2 + 2 * l.length = 2 * (l.length + 1)
    omega
theorem natsV_snoc (l : List Nat) (n : Nat) : natsV l ++ [.int (n : Int)] = natsV (l ++ [n]) := by
  unfold natsV
  rw [List.map_append]
  rfl
theorem ok_show_barrel {f : Addr} {fd : FuncData} (F : Fun K "show_barrel" "show_barrel" s_show_barrel f fd) (T : Txt K mg Cw C) (G : GFz P w K mg base) : FnOk P w K mg base CX0 9 f fd ["works", "numbers"] (spH Cw C 1 there fun ks => .barrel (ks.getD 0 0)) := by
  have nd := sc_show_barrel.nd
  refine F.ok sc_show_barrel (fun vs H Q E h => ?_) (fun cdv A outer s H vs Q E hr h => ?_)
  · obtain ⟨W, L, nl, as, ls, s, ks, rfl, _⟩ := h
    rfl
  · obtain ⟨W, L, nl, as, ls, s, ks, rfl, hk, hn, _, hs, ⟨a, rfl, hf⟩, hW, q⟩ := h
    obtain ⟨f, rfl⟩ := len1 hk
    · replace q : After Cw C H W L as ls (Su72.step (some a) (.barrel f)).1 (Su72.step (some a) (.barrel f)).2 Q := q
      replace hf : f < a.freezers.length := hf
      have ok := hs a rfl
      obtain ⟨dW, hw⟩ := hW.ins
      obtain ⟨x, af, l, hx, ha, hl, hA, hat⟩ := WkAt.pick hW hf
      have okx := ok.each x (List.mem_of_getElem? hx)
      have hz := barrel_few okx
      obtain ⟨dx, hi⟩ := hA.ins
      refine ⟨_, (pss_cons (ps_set (i := 2) nd rfl (Or.inl rfl) (pe_ix ix_seq (pe_fld (pv 0) rfl) (pe_ix ix_seq (pv 1) pe_int (fun _ _ => rfl)) (fun _ _ => rfl))) (pss_cons (ps_set (i := 3) nd rfl (Or.inl rfl) (pe_lst (pa_cons (pe_cal G.weight (hr.mono (by decide)) rfl (pa_cons (pe_fld (pv 2) rfl) pa_nil)) pa_nil))) (pss_cons (ps_for PassesOwn.never rfl (pi_list (pe_fld (pv 2) rfl)) (pg_name (i := 4) nd rfl (Or.inl rfl)) (pss_cons (ps_expr (pe_bm PySem.F.plainAttrs_list PySem.F.slot_list_append PySem.F.type_list_append mt_append (pv 3) (pa_cons (pe_ix ix_seq (pv 4) pe_int (fun _ _ => rfl)) pa_nil))) (pss_one (ps_expr (pe_bm PySem.F.plainAttrs_list PySem.F.slot_list_append PySem.F.type_list_append mt_append (pv 3) (pa_cons (pe_ix ix_seq (pv 4) pe_int (fun _ _ => rfl)) pa_nil)))))) (pss_one (ps_ret (pv 3)))))), ?_⟩
      refine set_val (.ixL (.fld (.vr rfl) hw T.c_Works T.w_freezers rfl) (.ixL (.vr rfl) .cn (SqL.of hn) rfl) (SqL.of hW.lst) hat) ?_
      refine set_lstS (ValAS.cons (callS (.cons (.fld (.vr rfl) hi T.c_Freezer T.f_parts rfl) .nil) fun Q' q' => ⟨l.p, x.barrel, rfl, hA.parts, hz, q'⟩) fun _ _ => .nil) (by show 1 ≤ sizeLine; decide) fun H1 p s1 hp => ?_
      have hp0 : H p = none := s1.free hp
      have s2 : Same H (upd H1 p (.lst [.int ((Su72.level x.barrel : Nat) : Int)])) := s1.trans (same_new hp)
      obtain ⟨ts, h1, h2⟩ := hA.parts.ex
      refine ⟨_, rfl, af, C, dx, _, _, rfl, s2 _ _ hi, T.c_Freezer, T.f_parts, rfl, l.p, rfl, ⟨_, SqL.of (s2 _ _ h1)⟩, for_list (K := K) (a := l.p) (xs := ts.map V.ref)
        (fun j σ H' => ∃ (v4 : Option V), σ = [some (.ref W), some (.ref nl), some (.ref af), some (.ref p), v4] ∧ H' p = some (.lst (natsV (Su72.level x.barrel :: (x.barrel.take j).flatMap fun y => [y.1, y.2]))) ∧ Same H H')
        ⟨none, rfl, upd_same, s2⟩ (fun j σ H' _ ⟨_, _, _, s3⟩ => SqL.of (s3 _ _ h1)) ?_ ?_⟩
      · rintro j y σ H' hy ⟨v4, rfl, hp', s3⟩
        obtain ⟨t, ht, rfl⟩ := getElem_map hy
        obtain ⟨e, he, hH⟩ := h2.at ht
        have hH' := s3 _ _ hH
        have hlen : (natsV (Su72.level x.barrel :: (x.barrel.take j).flatMap fun y => [y.1, y.2])).length < 100000 := by
          rw [natsV_len, List.length_cons, flat_len, List.length_take]
          omega
        have hline : (100001 : Nat) < sizeLine := by decide
        have ntp : t ≠ p := tup_ne_lst hH' hp'
        refine ⟨_, rfl, .inl ⟨rfl, _, SqL.of hp'⟩, _, rfl, .inr (.inl ⟨t, _, _, _, rfl, rfl, SqT.of hH', rfl, p, _, _, rfl, rfl, hp', by omega, ?_⟩)⟩
        refine ⟨_, rfl, .inl ⟨rfl, _, SqL.of upd_same⟩, _, rfl, .inr (.inl ⟨t, _, _, _, rfl, rfl, SqT.of (by rw [upd_ne ntp]; exact hH'), rfl, p, _, _, rfl, rfl, upd_same, by rw [List.length_append]; show _ + 1 < _; omega, ?_⟩)⟩
        refine ⟨some (.ref t), rfl, ?_, fun b o eb => ?_⟩
        · rw [upd_same, take_snoc he, flat_snoc]
          show some (HO.lst (natsV _ ++ [V.int (e.1 : Int)] ++ [V.int (e.2 : Int)])) = _
          rw [natsV_snoc, natsV_snoc, List.append_assoc]
          rfl
        · rw [upd_ne (ne_of_none eb hp0), upd_ne (ne_of_none eb hp0)]
          exact s3 _ _ eb
      · rintro σ H' ⟨v4, rfl, hp', s3⟩
        rw [List.length_map, h2.len, List.take_length] at hp'
        refine ret_val (.vr rfl) ?_
        refine (q.of (if_neg (isF_of hf))) H' p L as ls hp0 ?_ (WkS.same hW s3) (Same.keep s3) fun b hb => .inl hb
        rw [hp', ansV_num, freezer_of hx]
        rfl
theorem ok_ahead {f : Addr} {fd : FuncData} (F : Fun K "ahead" "ahead" s_ahead f fd) (T : Txt K mg Cw C) (G : GAhead P w K mg base Cw C) : FnOk P w K mg base CX0 9 f fd ["works", "numbers"] (spH Cw C 1 begun fun ks => .ahead (ks.getD 0 0)) := by
  have nd := sc_ahead.nd
  refine F.ok sc_ahead (fun vs H Q E h => ?_) (fun cdv A outer s H vs Q E hr h => ?_)
  · obtain ⟨W, L, nl, as, ls, s, ks, rfl, _⟩ := h
    rfl
  · obtain ⟨W, L, nl, as, ls, s, ks, rfl, hk, hn, _, hs, ⟨a, rfl⟩, hW, q⟩ := h
    obtain ⟨n, rfl⟩ := len1 hk
    · replace q : After Cw C H W L as ls (Su72.step (some a) (.ahead n)).1 (Su72.step (some a) (.ahead n)).2 Q := q
      have ok := hs a rfl
      have hW : WkAt Cw C H W L as ls true a.dense a.stiff a.now_ a.freezers := hW
      obtain ⟨dW, hw⟩ := hW.ins
      have hfew := ok.few
      have hla := hW.frs.la
      refine ⟨_, (pss_cons (ps_set (i := 2) nd rfl (Or.inl rfl) (pe_ix ix_seq (pv 1) pe_int (fun _ _ => rfl))) (pss_cons (ps_if (pt_not (pt_chain op_le op_le pe_int (pv 2) (pe_gint rfl T.m_MOST_MINUTES))) (pss_one (ps_ret (pe_lst (pa_cons (pe_gint rfl T.m_OUT_OF_RANGE) pa_nil)))) pss_nil) (pss_cons (ps_setLc (i := 3) (own := [("freezer", 5)]) rfl nd rfl rfl (sw_lc rfl rfl rfl rfl) (pi_list (pe_fld (pv 0) rfl)) (blkOk_by (by rfl)) (fun _ _ _ _ _ => (pg_name (i := 5) nd rfl (Or.inl rfl))) (fun _ _ _ _ _ => pts_nil) (fun _ _ _ _ _ => (pe_met0 (pv 5) T.c_Freezer G.Freezer_twin (hr.mono (by decide))))) (pss_cons (ps_expr (pe_met (pv 0) T.c_Works G.Works_let_pass (hr.mono (by decide)) (pa_cons (pv 3) (pa_cons (pv 2) pa_nil)))) (pss_cons (ps_setLc (i := 4) (own := [("twin", 6)]) rfl nd rfl rfl (sw_lc rfl rfl rfl rfl) (pi_list (pv 3)) (blkOk_by (by rfl)) (fun _ _ _ _ _ => (pg_name (i := 6) nd rfl (Or.inl rfl))) (fun _ _ _ _ _ => (pts_one (pt_val (pe_fldK (K := K) rfl (pv 6) rfl)))) (fun _ _ _ _ _ => (pv 6))) (pss_one (ps_ret (pe_lst (pa_cons (pe_cal G.kilograms_out (hr.mono (by decide)) rfl (pa_cons (pv 3) pa_nil)) (pa_cons (pe_cal G.millilitres_out (hr.mono (by decide)) rfl (pa_cons (pv 3) pa_nil)) (pa_cons (pe_callB call_len_seq rfl T.n_len b_len (pa_cons (pv 4) pa_nil)) pa_nil))))))))))), ?_⟩
      refine set_val (.ixL (.vr rfl) .cn (SqL.of hn) rfl) ?_
      refine if_val (.not (.chain .cn (.vr rfl) .cn)) (fun e => ?_) (fun e => ?_)
      · refine ret_lst (.cons .cn .nil) (by decide) fun p hp => ?_
        simp only [Bool.not_eq_true', decide_eq_false_iff_not] at e
        exact (q.of (if_pos (by omega))).still hW (.refl _) hp rfl
      · simp only [Bool.not_eq_false', decide_eq_true_eq] at e
        -- twins = [freezer.twin() for freezer in works.freezers]
        refine ⟨_, rfl, W, Cw, dW, _, _, rfl, hw, T.c_Works, T.w_freezers, rfl, L, rfl, ⟨_, SqL.of hW.lst⟩, fun D hD => lc_list (K := K) (a := L) (xs := as.map V.ref)
          (fun i H' => Same H H' ∧ ∃ (bs : List Addr) (ks : List Loc), H' D = some (.lst (bs.map V.ref)) ∧ Frs C H' bs ks ((a.freezers.take i).map zero) ∧ ∀ c, Own bs ks c → H c = none ∧ c ≠ D)
          ⟨same_new hD, [], [], upd_same, .nil, fun c hc => ?_⟩ (fun i H' _ ⟨s5, _⟩ => SqL.of (s5 _ _ hW.lst)) ?_ ?_⟩
        · rcases hc with hc | ⟨l, hl, _⟩
          · cases hc
          · cases hl
        · rintro i y H' hy ⟨s5, bs, ks, hD', hF, hO⟩
          obtain ⟨af, haf, rfl⟩ := getElem_map hy
          obtain ⟨x, l, hx, hl, hA⟩ := (hW.frs.same s5).get haf
          obtain ⟨dx, hi⟩ := hA.ins
          refine ⟨rfl, lc_yes ?_⟩
          refine meth_run (.vr rfl) hi rfl .nil ⟨x, af, l, rfl, hA, fun H2 b k nb nk hB s6 => ?_⟩
          have hblen : bs.length ≤ 4 := by
            rw [hF.la, List.length_map, List.length_take]
            omega
          have nbD : b ≠ D := fun z => by rw [z, hD'] at nb; cases nb
          have nkD : ¬ k.Has D := fun z => by have y := nk D z; rw [hD'] at y; cases y
          have fr : Frs C H2 (bs ++ [b]) (ks ++ [k]) ((a.freezers.take i).map zero ++ [zero x]) := hF.snoc s6 nb nk hB
          have hO2 : ∀ c, Own (bs ++ [b]) (ks ++ [k]) c → H c = none ∧ c ≠ D := fun c hc => by
            rcases own_snoc hc with z | z | z
            · exact hO c z
            · rw [z]; exact ⟨s5.free nb, nbD⟩
            · exact ⟨s5.free (nk c z), fun y => nkD (by rw [← y]; exact z)⟩
          refine ⟨bs.map V.ref, s6 _ _ hD', ?_, fun c o ec => ?_, bs ++ [b], ks ++ [k], by rw [upd_same, map_snoc], ?_, hO2⟩
          · rw [List.length_map]
            exact Nat.lt_of_le_of_lt hblen (by decide)
          · rw [upd_ne (ne_of_none ec hD)]
            exact s6 _ _ (s5 _ _ ec)
          · rw [take_snoc hx, List.map_append]
            refine fr.keep (S := fun c => c = D) keep_upd (fun c hc => (hO2 c hc).2) fun t xs et z => ?_
            rw [z, s6 _ _ hD'] at et; cases et
        · rintro H1 ⟨s1, bs, ks, hD1, hF, hO⟩
          rw [List.length_map, hla, List.take_length] at hF
          have hw1 := s1 _ _ hw
          have okz : ∀ x ∈ a.freezers.map zero, FOk x := fun x hx => by
            obtain ⟨y, hy, rfl⟩ := List.mem_map.mp hx
            exact zero_ok (ok.each y hy)
          refine meth_run (.vr rfl) hw1 rfl (.cons (.vr rfl) (.cons (.vr rfl) .nil)) ⟨a, n, _, true, W, D, L, dW, bs, ks, _, rfl, ok, okz, by omega, hw1, hD1, fun l hl z => (hO D (.inr ⟨l, hl, z⟩)).2 rfl, hF, fun H2 F2 k2 => ?_⟩
          have s2 : Same H H2 := Same.keepNew s1 k2 fun c hc => (hO c hc).1
          have hD2 := k2 _ _ hD1 fun z => (hO D z).2 rfl
          generalize hgs : (a.freezers.map zero).map (Abs.worksN a n) = gs at F2
          have hgl : gs.length ≤ 4 := by
            rw [← hgs, List.length_map, List.length_map]
            exact hfew
          have hbl := F2.la
          -- frozen = [twin for twin in twins if twin.frozen]
          refine ⟨_, rfl, D, rfl, ⟨_, SqL.of hD2⟩, fun D2 hN2 => lc_list (K := K) (a := D) (xs := bs.map V.ref)
            (fun i H' => Same H2 H' ∧ ∃ (cs : List Addr), H' D2 = some (.lst (cs.map V.ref)) ∧ cs.length = ((gs.take i).filter fun x => x.stuck).length)
            ⟨same_new hN2, [], upd_same, rfl⟩ (fun i H' _ ⟨s5, _⟩ => SqL.of (s5 _ _ hD2)) ?_ ?_⟩
          · rintro i y H' hy ⟨s5, cs, hc', hcl⟩
            obtain ⟨b, hb, rfl⟩ := getElem_map hy
            obtain ⟨x, l, hx, hl, hA⟩ := (F2.same s5).get hb
            obtain ⟨dx, hi⟩ := hA.ins
            refine ⟨rfl, _, rfl, b, C, dx, _, _, rfl, hi, T.c_Freezer, T.f_frozen, rfl, _, rfl, ?_⟩
            have hfl : ((gs.take i).filter fun x => x.stuck).length ≤ 4 := by
              refine Nat.le_trans (List.length_filter_le _ _) ?_
              rw [List.length_take]
              omega
            cases hst : x.stuck with
            | true =>
              refine iteT ⟨_, rfl, _, hc', ?_, fun c o ec => ?_, cs ++ [b], by rw [upd_same, map_snoc], ?_⟩
              · rw [List.length_map]
                exact Nat.lt_of_le_of_lt (show cs.length ≤ 4 by omega) (by decide)
              · rw [upd_ne (ne_of_none ec hN2)]
                exact s5 _ _ ec
              · rw [take_snoc hx, List.filter_append, List.length_append, List.length_append, hcl]
                simp [hst]
            | false =>
              refine iteF ⟨s5, cs, hc', ?_⟩
              rw [take_snoc hx, List.filter_append, List.length_append, hcl]
              simp [hst]
          · rintro H3 ⟨s3, cs, hc3, hcl⟩
            rw [List.length_map, hbl, List.take_length] at hcl
            have F3 := F2.same s3
            have hD3 := s3 _ _ hD2
            refine ret_lstS (.cons (callS (.cons (.vr rfl) .nil) fun Q' q' => ⟨D, bs, ks, gs, rfl, hD3, F3, by omega, q'⟩) fun Ha sa => .cons (callS (.cons (.vr rfl) .nil) fun Q' q' => ⟨D, bs, ks, gs, rfl, sa _ _ hD3, F3.same sa, by omega, q'⟩) fun Hb sb => .cons (Val.s (.len (.vr rfl) (SqL.of (sb _ _ (sa _ _ hc3))))) fun _ _ => .nil) (by show 3 ≤ sizeLine; decide) fun H5 p s5 hp => ?_
            refine (q.of (if_neg (by omega))).still hW ((s2.trans s3).trans s5) hp ?_
            have e1 : (a.goes n).kgs - a.kgs = kgsOf gs := by
              rw [kgs_of, kgs_of, goes_freezers, kgsOf_worksN n ok.each, hgs]
              omega
            have e2 : (a.goes n).mls - a.mls = mlsOf gs := by
              rw [mls_of, mls_of, goes_freezers, mlsOf_worksN n ok.each, hgs]
              omega
            have e3 : ((a.goes n).freezers.filter fun x => x.stuck).length = (gs.filter fun x => x.stuck).length := by
              rw [goes_freezers, stuck_worksN, hgs]
            rw [ansV_num, e1, e2, e3, List.length_map, hcl]
            rfl
end
end Fz
set_option Elab.async false
set_option linter.all false
set_option maxRecDepth 100000
set_option maxHeartbeats 2000000
namespace Fz
open PySem PySem.Spec PyProof.Rows L2
def intsOf : List Value → Option (List Int)
  | [] => some []
  | .int i _ :: r => (intsOf r).map fun l => i :: l
  | _ => none
theorem intsOf_vals : ∀ {us : List Value} {ns : List Int}, intsOf us = some ns → Vals (ns.map V.int) us
  | [], ns, h => by
    cases h
    exact .nil
  | .int i t :: r, ns, h => by
    have h' : (intsOf r).map (fun l => i :: l) = some ns := h
    cases e : intsOf r with
    | none => rw [e] at h'; cases h'
    | some l =>
      rw [e] at h'
      cases h'
      exact .cons ⟨t, rfl⟩ (intsOf_vals e)
  | .none :: _, _, h => by cases h
  | .ellipsis :: _, _, h => by cases h
  | .notImplemented :: _, _, h => by cases h
  | .bool _ :: _, _, h => by cases h
  | .float _ _ :: _, _, h => by cases h
  | .str _ _ :: _, _, h => by cases h
  | .bytes _ _ :: _, _, h => by cases h
  | .type _ :: _, _, h => by cases h
  | .builtin _ :: _, _, h => by cases h
  | .ref _ :: _, _, h => by cases h
theorem sqt_mk {K : PySem.W.Frag} {a : Addr} {od : Option Addr} {its : Array Value} {n : Nat} {sl : Array (Option Value)} {ns : List Int} (l : K.lookup a = some ⟨.type "tuple", od, .seq its n, sl⟩) (hz : its.size ≤ 100) (hv : intsOf its.toList = some ns) : ∀ H, SqT K H a (ns.map V.int) :=
  fun H => .inr ⟨_, its, n, l, rfl, rfl, Nat.le_trans hz (by decide), intsOf_vals hv⟩
def refsOf : List DictEntry → Option (List (Int × Addr))
  | [] => some []
  | ⟨h, .int i _, .ref f⟩ :: r => if h = hashInt i then (refsOf r).map fun l => (i, f) :: l else none
  | _ => none
def kvOf (l : List (Int × Addr)) : List (Key × Value) := l.map fun p => (Sum.inl p.1, .ref p.2)
theorem refsOf_cons {e : DictEntry} {r : List DictEntry} {l : List (Int × Addr)} (h : refsOf (e :: r) = some l) : ∃ i t f l', e = ⟨hashInt i, .int i t, .ref f⟩ ∧ l = (i, f) :: l' ∧ refsOf r = some l' := by
  obtain ⟨hh, k, v⟩ := e
  cases k with
  | int i t =>
    cases v with
    | ref f =>
      have h' : (if hh = hashInt i then (refsOf r).map fun l => (i, f) :: l else none) = some l := h
      by_cases z : hh = hashInt i
      · rw [if_pos z] at h'
        cases e : refsOf r with
        | none => rw [e] at h'; cases h'
        | some l' =>
          rw [e] at h'
          cases h'
          subst z
          exact ⟨i, t, f, l', rfl, rfl, rfl⟩
      · rw [if_neg z] at h'; cases h'
    | _ => cases h
  | _ => cases h
theorem refsOf_pairs {P : Program} {w : World} : ∀ {es : List DictEntry} {l : List (Int × Addr)}, refsOf es = some l → Pairs (mixKind P w) es (kvOf l) ∧ ∀ e ∈ es, ∃ k, (mixKind P w).is k e.key = true ∧ e.hash = (mixKind P w).hash k
  | [], l, h => by
    cases h
    exact ⟨.nil, fun e he => by cases he⟩
  | e :: es, l, h => by
    obtain ⟨i, t, f, l', rfl, rfl, hr⟩ := refsOf_cons h
    have ih := refsOf_pairs (P := P) (w := w) hr
    refine ⟨.cons (keyIs_int i t) rfl ih.1, fun e he => ?_⟩
    rcases List.mem_cons.mp he with z | z
    · subst z
      exact ⟨Sum.inl i, keyIs_int i t, rfl⟩
    · exact ih.2 e z
theorem kd_mk {P : Program} {w : World} {K : PySem.W.Frag} {a : Addr} {es : Array DictEntry} {ep : Nat} {l : List (Int × Addr)} (lk : K.lookup a = some ⟨.type "dict", none, .dict es ep, #[]⟩) (hr : refsOf es.toList = some l) (hn : (l.map (·.1)).Nodup) (hs : (a == sysModules) = false) : KD P w K a (kvOf l) := by
  obtain ⟨hp, hk⟩ := refsOf_pairs (P := P) (w := w) hr
  refine ⟨fun h X => ⟨_, es, ep, X a _ lk, ⟨rfl, rfl, rfl⟩, rfl, fun e he => hk e (Array.mem_toList_iff.mpr he), hp, ?_⟩, hs⟩
  have e : (kvOf l).map (·.1) = (l.map (·.1)).map Sum.inl := by
    unfold kvOf
    rw [List.map_map, List.map_map]
    rfl
  rw [e]
  exact List.Pairwise.map _ (fun _ _ z y => z (Sum.inl.inj y)) hn
theorem kv_at : ∀ {l : List (Int × Addr)} {i : Int} {f : Addr}, l.lookup i = some f → valueAt (kvOf l) (Sum.inl i) = some (.ref f)
  | [], i, f, h => by cases h
  | (j, g) :: l, i, f, h => by
    unfold valueAt kvOf
    rw [List.map_cons]
    by_cases z : i = j
    · subst z
      have e : (List.lookup i ((i, g) :: l)) = some g := by simp [List.lookup]
      rw [e] at h
      cases h
      rw [List.find?_cons_of_pos (by simp)]
      rfl
    · have e : List.lookup i ((j, g) :: l) = l.lookup i := by
        have zz : (i == j) = false := beq_eq_false_iff_ne.mpr z
        simp [List.lookup, zz]
      rw [e] at h
      rw [List.find?_cons_of_neg (by simp; exact fun y => z y.symm)]
      exact kv_at (l := l) h
structure Df (K : PySem.W.Frag) (x qual : Str) (st : Stmt) (f : Addr) : Prop where
  ex : ∃ fd, Fun K x qual st f fd
theorem df_mk {K : PySem.W.Frag} {x qual : Str} {st : Stmt} {f : Addr} {oc : Value} {od an : Option Addr} {osl : Array (Option Value)} {kV doc pm cdv ct : Value} (l : K.lookup f = some ⟨oc, od, .func (PySem.W.fnOf x qual (defArgs st) (defBody st) (defScope st) .none kV doc pm an cdv ct), osl⟩)
    (c : PySem.W.codeIn K cdv qual = true) (k : PySem.W.keepIn K (.ref f) = true) : Df K x qual st f := ⟨_, fun_mk l c k⟩
end Fz
set_option Elab.async false
set_option linter.all false
namespace Fz
open PySem PySem.Spec PyProof.Rows L2
set_option maxRecDepth 100000 in
set_option maxHeartbeats 4000000 in
theorem all_mk {P : Program} {w : World} {K : PySem.W.Frag} {h : Heap} {mg : Str → Option Value} {fa : Addr} {C_Freezer : Addr} {C_Works : Addr} {f_how_cold : Addr} {f_volume : Addr} {f_kilograms_for : Addr} {f_weighs_too_much : Addr} {f_cup_air : Addr} {f_cup_grams : Addr} {f_weight : Addr} {f_feed : Addr} {f_draw : Addr} {f_Freezer_init : Addr} {f_Freezer_twin : Addr} {f_Freezer_has_nothing_else : Addr} {f_Freezer_pass_minute : Addr} {f_Works_init : Addr} {f_Works_start_anew : Addr} {f_Works_let_pass : Addr} {f_kilograms_out : Addr} {f_millilitres_out : Addr} {f_begin : Addr} {f_add_freezer : Addr} {f_run : Addr} {f_stop : Addr} {f_thaw : Addr} {f_minutes : Addr} {f_cup : Addr} {f_cupfor : Addr} {f_fastest : Addr} {f_slowest : Addr} {f_cold : Addr} {f_flushed : Addr} {f_until : Addr} {f_ahead : Addr} {f_made : Addr} {f_yielded : Addr} {f_need : Addr} {f_show_barrel : Addr} {f_look : Addr} {f_sums : Addr} {f_state : Addr} {f_numbers_of : Addr} {f_answer : Addr} {f_answers : Addr} {t_FLAVOURS : Tok} {t_NONE_SUCH : Tok} {t_NOT_FED : Tok} {t_NOT_BEGUN : Tok} {t_FROZEN_IN : Tok} {t_SO_ALREADY : Tok} {t_OUT_OF_RANGE : Tok} {t_TOO_MANY : Tok} {t_CANNOT_BE : Tok} {t_BEGIN : Tok} {t_MOST_FREEZERS : Tok} {t_MOST_RATE : Tok} {t_MOST_AIR : Tok} {t_MOST_COLD : Tok} {t_MOST_MINUTES : Tok} {t_MOST_AHEAD : Tok} {t_MOST_AMOUNT : Tok} {p_LENGTHS : Addr} {od_LENGTHS : Option Addr} {its_LENGTHS : Array Value} {sn_LENGTHS : Nat} {sl_LENGTHS : Array (Option Value)} {p_ON_A_FREEZER : Addr} {od_ON_A_FREEZER : Option Addr} {its_ON_A_FREEZER : Array Value} {sn_ON_A_FREEZER : Nat} {sl_ON_A_FREEZER : Array (Option Value)} {p_CALLS : Addr} {es_CALLS : Array DictEntry} {ep_CALLS : Nat} (X : K.In h) (G : h.Ns mainGlobals mg) (hfa : mg "answers" = some (.ref fa))
    (a_Freezer : PySem.W.nsIn K mainGlobals "Freezer" = some (some (.ref C_Freezer)))
    (a_Works : PySem.W.nsIn K mainGlobals "Works" = some (some (.ref C_Works)))
    (a_how_cold : PySem.W.nsIn K mainGlobals "how_cold" = some (some (.ref f_how_cold)))
    (a_volume : PySem.W.nsIn K mainGlobals "volume" = some (some (.ref f_volume)))
    (a_kilograms_for : PySem.W.nsIn K mainGlobals "kilograms_for" = some (some (.ref f_kilograms_for)))
    (a_weighs_too_much : PySem.W.nsIn K mainGlobals "weighs_too_much" = some (some (.ref f_weighs_too_much)))
    (a_cup_air : PySem.W.nsIn K mainGlobals "cup_air" = some (some (.ref f_cup_air)))
    (a_cup_grams : PySem.W.nsIn K mainGlobals "cup_grams" = some (some (.ref f_cup_grams)))
    (a_weight : PySem.W.nsIn K mainGlobals "weight" = some (some (.ref f_weight)))
    (a_feed : PySem.W.nsIn K mainGlobals "feed" = some (some (.ref f_feed)))
    (a_draw : PySem.W.nsIn K mainGlobals "draw" = some (some (.ref f_draw)))
    (a_Freezer_init : PySem.W.findIn K (.ref C_Freezer) "__init__" = some (some (.ref f_Freezer_init)))
    (a_Freezer_twin : PySem.W.findIn K (.ref C_Freezer) "twin" = some (some (.ref f_Freezer_twin)))
    (a_Freezer_has_nothing_else : PySem.W.findIn K (.ref C_Freezer) "has_nothing_else" = some (some (.ref f_Freezer_has_nothing_else)))
    (a_Freezer_pass_minute : PySem.W.findIn K (.ref C_Freezer) "pass_minute" = some (some (.ref f_Freezer_pass_minute)))
    (a_Works_init : PySem.W.findIn K (.ref C_Works) "__init__" = some (some (.ref f_Works_init)))
    (a_Works_start_anew : PySem.W.findIn K (.ref C_Works) "start_anew" = some (some (.ref f_Works_start_anew)))
    (a_Works_let_pass : PySem.W.findIn K (.ref C_Works) "let_pass" = some (some (.ref f_Works_let_pass)))
    (a_kilograms_out : PySem.W.nsIn K mainGlobals "kilograms_out" = some (some (.ref f_kilograms_out)))
    (a_millilitres_out : PySem.W.nsIn K mainGlobals "millilitres_out" = some (some (.ref f_millilitres_out)))
    (a_begin : PySem.W.nsIn K mainGlobals "begin" = some (some (.ref f_begin)))
    (a_add_freezer : PySem.W.nsIn K mainGlobals "add_freezer" = some (some (.ref f_add_freezer)))
    (a_run : PySem.W.nsIn K mainGlobals "run" = some (some (.ref f_run)))
    (a_stop : PySem.W.nsIn K mainGlobals "stop" = some (some (.ref f_stop)))
    (a_thaw : PySem.W.nsIn K mainGlobals "thaw" = some (some (.ref f_thaw)))
    (a_minutes : PySem.W.nsIn K mainGlobals "minutes" = some (some (.ref f_minutes)))
    (a_cup : PySem.W.nsIn K mainGlobals "cup" = some (some (.ref f_cup)))
    (a_cupfor : PySem.W.nsIn K mainGlobals "cupfor" = some (some (.ref f_cupfor)))
    (a_fastest : PySem.W.nsIn K mainGlobals "fastest" = some (some (.ref f_fastest)))
    (a_slowest : PySem.W.nsIn K mainGlobals "slowest" = some (some (.ref f_slowest)))
    (a_cold : PySem.W.nsIn K mainGlobals "cold" = some (some (.ref f_cold)))
    (a_flushed : PySem.W.nsIn K mainGlobals "flushed" = some (some (.ref f_flushed)))
    (a_until : PySem.W.nsIn K mainGlobals "until" = some (some (.ref f_until)))
    (a_ahead : PySem.W.nsIn K mainGlobals "ahead" = some (some (.ref f_ahead)))
    (a_made : PySem.W.nsIn K mainGlobals "made" = some (some (.ref f_made)))
    (a_yielded : PySem.W.nsIn K mainGlobals "yielded" = some (some (.ref f_yielded)))
    (a_need : PySem.W.nsIn K mainGlobals "need" = some (some (.ref f_need)))
    (a_show_barrel : PySem.W.nsIn K mainGlobals "show_barrel" = some (some (.ref f_show_barrel)))
    (a_look : PySem.W.nsIn K mainGlobals "look" = some (some (.ref f_look)))
    (a_sums : PySem.W.nsIn K mainGlobals "sums" = some (some (.ref f_sums)))
    (a_state : PySem.W.nsIn K mainGlobals "state" = some (some (.ref f_state)))
    (a_numbers_of : PySem.W.nsIn K mainGlobals "numbers_of" = some (some (.ref f_numbers_of)))
    (a_answer : PySem.W.nsIn K mainGlobals "answer" = some (some (.ref f_answer)))
    (a_answers : PySem.W.nsIn K mainGlobals "answers" = some (some (.ref f_answers)))
    (d_how_cold : Df K "how_cold" "how_cold" s_how_cold f_how_cold)
    (d_volume : Df K "volume" "volume" s_volume f_volume)
    (d_kilograms_for : Df K "kilograms_for" "kilograms_for" s_kilograms_for f_kilograms_for)
    (d_weighs_too_much : Df K "weighs_too_much" "weighs_too_much" s_weighs_too_much f_weighs_too_much)
    (d_cup_air : Df K "cup_air" "cup_air" s_cup_air f_cup_air)
    (d_cup_grams : Df K "cup_grams" "cup_grams" s_cup_grams f_cup_grams)
    (d_weight : Df K "weight" "weight" s_weight f_weight)
    (d_feed : Df K "feed" "feed" s_feed f_feed)
    (d_draw : Df K "draw" "draw" s_draw f_draw)
    (d_Freezer_init : Df K "__init__" "Freezer.__init__" s_Freezer_init f_Freezer_init)
    (i_Freezer_init : PySem.W.isFn K (.ref f_Freezer_init) = true)
    (d_Freezer_twin : Df K "twin" "Freezer.twin" s_Freezer_twin f_Freezer_twin)
    (i_Freezer_twin : PySem.W.isFn K (.ref f_Freezer_twin) = true)
    (d_Freezer_has_nothing_else : Df K "has_nothing_else" "Freezer.has_nothing_else" s_Freezer_has_nothing_else f_Freezer_has_nothing_else)
    (i_Freezer_has_nothing_else : PySem.W.isFn K (.ref f_Freezer_has_nothing_else) = true)
    (d_Freezer_pass_minute : Df K "pass_minute" "Freezer.pass_minute" s_Freezer_pass_minute f_Freezer_pass_minute)
    (i_Freezer_pass_minute : PySem.W.isFn K (.ref f_Freezer_pass_minute) = true)
    (d_Works_init : Df K "__init__" "Works.__init__" s_Works_init f_Works_init)
    (i_Works_init : PySem.W.isFn K (.ref f_Works_init) = true)
    (d_Works_start_anew : Df K "start_anew" "Works.start_anew" s_Works_start_anew f_Works_start_anew)
    (i_Works_start_anew : PySem.W.isFn K (.ref f_Works_start_anew) = true)
    (d_Works_let_pass : Df K "let_pass" "Works.let_pass" s_Works_let_pass f_Works_let_pass)
    (i_Works_let_pass : PySem.W.isFn K (.ref f_Works_let_pass) = true)
    (d_kilograms_out : Df K "kilograms_out" "kilograms_out" s_kilograms_out f_kilograms_out)
    (d_millilitres_out : Df K "millilitres_out" "millilitres_out" s_millilitres_out f_millilitres_out)
    (d_begin : Df K "begin" "begin" s_begin f_begin)
    (d_add_freezer : Df K "add_freezer" "add_freezer" s_add_freezer f_add_freezer)
    (d_run : Df K "run" "run" s_run f_run)
    (d_stop : Df K "stop" "stop" s_stop f_stop)
    (d_thaw : Df K "thaw" "thaw" s_thaw f_thaw)
    (d_minutes : Df K "minutes" "minutes" s_minutes f_minutes)
    (d_cup : Df K "cup" "cup" s_cup f_cup)
    (d_cupfor : Df K "cupfor" "cupfor" s_cupfor f_cupfor)
    (d_fastest : Df K "fastest" "fastest" s_fastest f_fastest)
    (d_slowest : Df K "slowest" "slowest" s_slowest f_slowest)
    (d_cold : Df K "cold" "cold" s_cold f_cold)
    (d_flushed : Df K "flushed" "flushed" s_flushed f_flushed)
    (d_until : Df K "until" "until" s_until f_until)
    (d_ahead : Df K "ahead" "ahead" s_ahead f_ahead)
    (d_made : Df K "made" "made" s_made f_made)
    (d_yielded : Df K "yielded" "yielded" s_yielded f_yielded)
    (d_need : Df K "need" "need" s_need f_need)
    (d_show_barrel : Df K "show_barrel" "show_barrel" s_show_barrel f_show_barrel)
    (d_look : Df K "look" "look" s_look f_look)
    (d_sums : Df K "sums" "sums" s_sums f_sums)
    (d_state : Df K "state" "state" s_state f_state)
    (d_numbers_of : Df K "numbers_of" "numbers_of" s_numbers_of f_numbers_of)
    (d_answer : Df K "answer" "answer" s_answer f_answer)
    (d_answers : Df K "answers" "answers" s_answers f_answers)
    (pg_Freezer : PySem.W.plainGet K C_Freezer Str.empty = true)
    (hd_Freezer : PySem.W.hasDictIn K C_Freezer = true)
    (po_Freezer : PySem.W.plainOver K C_Freezer = true)
    (sa_Freezer : PySem.W.findIn K (.ref C_Freezer) "__setattr__" = some (some (.builtin "object.__setattr__")))
    (mk_Freezer : PySem.W.makesIn K C_Freezer = true)
    (kc_Freezer : PySem.W.keepIn K (.ref C_Freezer) = true)
    (n_Freezer_holds : PySem.W.findIn K (.ref C_Freezer) "holds" = some none)
    (n_Freezer_power : PySem.W.findIn K (.ref C_Freezer) "power" = some none)
    (n_Freezer_fed_with : PySem.W.findIn K (.ref C_Freezer) "fed_with" = some none)
    (n_Freezer_rate : PySem.W.findIn K (.ref C_Freezer) "rate" = some none)
    (n_Freezer_air : PySem.W.findIn K (.ref C_Freezer) "air" = some none)
    (n_Freezer_frozen : PySem.W.findIn K (.ref C_Freezer) "frozen" = some none)
    (n_Freezer_parts : PySem.W.findIn K (.ref C_Freezer) "parts" = some none)
    (n_Freezer_total_fed : PySem.W.findIn K (.ref C_Freezer) "total_fed" = some none)
    (n_Freezer_kilograms : PySem.W.findIn K (.ref C_Freezer) "kilograms" = some none)
    (n_Freezer_millilitres : PySem.W.findIn K (.ref C_Freezer) "millilitres" = some none)
    (pg_Works : PySem.W.plainGet K C_Works Str.empty = true)
    (hd_Works : PySem.W.hasDictIn K C_Works = true)
    (po_Works : PySem.W.plainOver K C_Works = true)
    (sa_Works : PySem.W.findIn K (.ref C_Works) "__setattr__" = some (some (.builtin "object.__setattr__")))
    (mk_Works : PySem.W.makesIn K C_Works = true)
    (kc_Works : PySem.W.keepIn K (.ref C_Works) = true)
    (n_Works_begun : PySem.W.findIn K (.ref C_Works) "begun" = some none)
    (n_Works_density : PySem.W.findIn K (.ref C_Works) "density" = some none)
    (n_Works_coldest : PySem.W.findIn K (.ref C_Works) "coldest" = some none)
    (n_Works_minute : PySem.W.findIn K (.ref C_Works) "minute" = some none)
    (n_Works_freezers : PySem.W.findIn K (.ref C_Works) "freezers" = some none)
    (m_FLAVOURS : PySem.W.nsIn K mainGlobals "FLAVOURS" = some (some (.int (10) t_FLAVOURS)))
    (m_NONE_SUCH : PySem.W.nsIn K mainGlobals "NONE_SUCH" = some (some (.int (-2) t_NONE_SUCH)))
    (m_NOT_FED : PySem.W.nsIn K mainGlobals "NOT_FED" = some (some (.int (-6) t_NOT_FED)))
    (m_NOT_BEGUN : PySem.W.nsIn K mainGlobals "NOT_BEGUN" = some (some (.int (-11) t_NOT_BEGUN)))
    (m_FROZEN_IN : PySem.W.nsIn K mainGlobals "FROZEN_IN" = some (some (.int (-16) t_FROZEN_IN)))
    (m_SO_ALREADY : PySem.W.nsIn K mainGlobals "SO_ALREADY" = some (some (.int (-17) t_SO_ALREADY)))
    (m_OUT_OF_RANGE : PySem.W.nsIn K mainGlobals "OUT_OF_RANGE" = some (some (.int (-22) t_OUT_OF_RANGE)))
    (m_TOO_MANY : PySem.W.nsIn K mainGlobals "TOO_MANY" = some (some (.int (-28) t_TOO_MANY)))
    (m_CANNOT_BE : PySem.W.nsIn K mainGlobals "CANNOT_BE" = some (some (.int (-33) t_CANNOT_BE)))
    (m_BEGIN : PySem.W.nsIn K mainGlobals "BEGIN" = some (some (.int (0) t_BEGIN)))
    (m_MOST_FREEZERS : PySem.W.nsIn K mainGlobals "MOST_FREEZERS" = some (some (.int (4) t_MOST_FREEZERS)))
    (m_MOST_RATE : PySem.W.nsIn K mainGlobals "MOST_RATE" = some (some (.int (100) t_MOST_RATE)))
    (m_MOST_AIR : PySem.W.nsIn K mainGlobals "MOST_AIR" = some (some (.int (200) t_MOST_AIR)))
    (m_MOST_COLD : PySem.W.nsIn K mainGlobals "MOST_COLD" = some (some (.int (500) t_MOST_COLD)))
    (m_MOST_MINUTES : PySem.W.nsIn K mainGlobals "MOST_MINUTES" = some (some (.int (500) t_MOST_MINUTES)))
    (m_MOST_AHEAD : PySem.W.nsIn K mainGlobals "MOST_AHEAD" = some (some (.int (1000) t_MOST_AHEAD)))
    (m_MOST_AMOUNT : PySem.W.nsIn K mainGlobals "MOST_AMOUNT" = some (some (.int (100000) t_MOST_AMOUNT)))
    (n_all : PySem.W.nsIn K mainGlobals "all" = some none)
    (n_len : PySem.W.nsIn K mainGlobals "len" = some none)
    (n_list : PySem.W.nsIn K mainGlobals "list" = some none)
    (n_min : PySem.W.nsIn K mainGlobals "min" = some none)
    (n_range : PySem.W.nsIn K mainGlobals "range" = some none)
    (n_sum : PySem.W.nsIn K mainGlobals "sum" = some none)
    (a_LENGTHS : PySem.W.nsIn K mainGlobals "LENGTHS" = some (some (.ref p_LENGTHS)))
    (l_LENGTHS : K.lookup p_LENGTHS = some ⟨.type "tuple", od_LENGTHS, .seq its_LENGTHS sn_LENGTHS, sl_LENGTHS⟩)
    (z_LENGTHS : its_LENGTHS.size ≤ 100)
    (v_LENGTHS : intsOf its_LENGTHS.toList = some [2, 2, 4, 1, 1, 1, 2, 2, 2, 1, 2, 1, 3, 1, 1, 2, 2, 1, 1, 0, 0])
    (a_ON_A_FREEZER : PySem.W.nsIn K mainGlobals "ON_A_FREEZER" = some (some (.ref p_ON_A_FREEZER)))
    (l_ON_A_FREEZER : K.lookup p_ON_A_FREEZER = some ⟨.type "tuple", od_ON_A_FREEZER, .seq its_ON_A_FREEZER sn_ON_A_FREEZER, sl_ON_A_FREEZER⟩)
    (z_ON_A_FREEZER : its_ON_A_FREEZER.size ≤ 100)
    (v_ON_A_FREEZER : intsOf its_ON_A_FREEZER.toList = some [2, 3, 4, 8, 9, 10, 11, 12, 17, 18])
    (a_CALLS : PySem.W.nsIn K mainGlobals "CALLS" = some (some (.ref p_CALLS)))
    (l_CALLS : K.lookup p_CALLS = some ⟨.type "dict", none, .dict es_CALLS ep_CALLS, #[]⟩)
    (v_CALLS : refsOf es_CALLS.toList = some [(0, f_begin), (1, f_add_freezer), (2, f_run), (3, f_stop), (4, f_thaw), (5, f_minutes), (6, f_cup), (7, f_cupfor), (8, f_fastest), (9, f_slowest), (10, f_cold), (11, f_flushed), (12, f_until), (13, f_ahead), (14, f_made), (15, f_yielded), (16, f_need), (17, f_show_barrel), (18, f_look), (19, f_sums), (20, f_state)])
    (y_CALLS : (p_CALLS == sysModules) = false) :
    ∃ fd : FuncData, (∀ (s : Shared) (us : List Value), us.length = (["calls"] : List Str).length → BindsTo s fd ⟨us, []⟩ ((["calls"] : List Str).zip us)) ∧ ∀ base : Heap, K.In base → base.Ns mainGlobals mg → FnOk P w K mg base CX0 13 fa fd ["calls"] (sp_answers K) := by
  have e := hfa.symm.trans (PySem.W.mg_of X G a_answers)
  cases e
  obtain ⟨fd_answers, F_answers⟩ := d_answers.ex
  have T : TxtM P w K mg C_Works C_Freezer p_LENGTHS p_ON_A_FREEZER p_CALLS (kvOf [((0 : Int), f_begin), ((1 : Int), f_add_freezer), ((2 : Int), f_run), ((3 : Int), f_stop), ((4 : Int), f_thaw), ((5 : Int), f_minutes), ((6 : Int), f_cup), ((7 : Int), f_cupfor), ((8 : Int), f_fastest), ((9 : Int), f_slowest), ((10 : Int), f_cold), ((11 : Int), f_flushed), ((12 : Int), f_until), ((13 : Int), f_ahead), ((14 : Int), f_made), ((15 : Int), f_yielded), ((16 : Int), f_need), ((17 : Int), f_show_barrel), ((18 : Int), f_look), ((19 : Int), f_sums), ((20 : Int), f_state)]) := {
    n_len := PySem.W.mg_none_of X G n_len, n_sum := PySem.W.mg_none_of X G n_sum, n_min := PySem.W.mg_none_of X G n_min, n_range := PySem.W.mg_none_of X G n_range, n_list := PySem.W.mg_none_of X G n_list, n_all := PySem.W.mg_none_of X G n_all
    c_Works := ⟨pg_Works, hd_Works, po_Works, sa_Works⟩, c_Freezer := ⟨pg_Freezer, hd_Freezer, po_Freezer, sa_Freezer⟩
    w_begun := n_Works_begun, w_density := n_Works_density, w_coldest := n_Works_coldest, w_minute := n_Works_minute, w_freezers := n_Works_freezers
    f_holds := n_Freezer_holds, f_power := n_Freezer_power, f_fed_with := n_Freezer_fed_with, f_rate := n_Freezer_rate, f_air := n_Freezer_air, f_frozen := n_Freezer_frozen, f_parts := n_Freezer_parts, f_total_fed := n_Freezer_total_fed, f_kilograms := n_Freezer_kilograms, f_millilitres := n_Freezer_millilitres
    m_NONE_SUCH := ⟨_, PySem.W.mg_of X G m_NONE_SUCH⟩, m_NOT_FED := ⟨_, PySem.W.mg_of X G m_NOT_FED⟩, m_NOT_BEGUN := ⟨_, PySem.W.mg_of X G m_NOT_BEGUN⟩, m_FROZEN_IN := ⟨_, PySem.W.mg_of X G m_FROZEN_IN⟩, m_SO_ALREADY := ⟨_, PySem.W.mg_of X G m_SO_ALREADY⟩
    m_OUT_OF_RANGE := ⟨_, PySem.W.mg_of X G m_OUT_OF_RANGE⟩, m_TOO_MANY := ⟨_, PySem.W.mg_of X G m_TOO_MANY⟩, m_CANNOT_BE := ⟨_, PySem.W.mg_of X G m_CANNOT_BE⟩, m_BEGIN := ⟨_, PySem.W.mg_of X G m_BEGIN⟩
    m_MOST_FREEZERS := ⟨_, PySem.W.mg_of X G m_MOST_FREEZERS⟩, m_FLAVOURS := ⟨_, PySem.W.mg_of X G m_FLAVOURS⟩, m_MOST_AHEAD := ⟨_, PySem.W.mg_of X G m_MOST_AHEAD⟩, m_MOST_AMOUNT := ⟨_, PySem.W.mg_of X G m_MOST_AMOUNT⟩, m_MOST_RATE := ⟨_, PySem.W.mg_of X G m_MOST_RATE⟩, m_MOST_AIR := ⟨_, PySem.W.mg_of X G m_MOST_AIR⟩, m_MOST_COLD := ⟨_, PySem.W.mg_of X G m_MOST_COLD⟩, m_MOST_MINUTES := ⟨_, PySem.W.mg_of X G m_MOST_MINUTES⟩
    m_LENGTHS := PySem.W.mg_of X G a_LENGTHS, t_LENGTHS := sqt_mk l_LENGTHS z_LENGTHS v_LENGTHS
    m_ON_A_FREEZER := PySem.W.mg_of X G a_ON_A_FREEZER, t_ON := sqt_mk l_ON_A_FREEZER z_ON_A_FREEZER v_ON_A_FREEZER
    m_CALLS := PySem.W.mg_of X G a_CALLS, d_CALLS := kd_mk l_CALLS v_CALLS (by simp) y_CALLS }
  refine ⟨fd_answers, fun s us hu => ?_, fun base kb nb => ?_⟩
  · obtain ⟨oc, od, kV, doc, pm, an, cdv, ct, osl, e, _, _⟩ := F_answers.ex
    subst e
    exact all1 (P := fun us => BindsTo s _ ⟨us, []⟩ ((["calls"] : List Str).zip us)) (fun _ => .of_eq rfl) us hu
  -- leaves
  obtain ⟨fd_hc, F_hc⟩ := d_how_cold.ex
  obtain ⟨fd_vo, F_vo⟩ := d_volume.ex
  obtain ⟨fd_wt, F_wt⟩ := d_weighs_too_much.ex
  obtain ⟨fd_ca, F_ca⟩ := d_cup_air.ex
  obtain ⟨fd_cg, F_cg⟩ := d_cup_grams.ex
  obtain ⟨fd_kf, F_kf⟩ := d_kilograms_for.ex
  obtain ⟨fd_we, F_we⟩ := d_weight.ex
  obtain ⟨fd_fe, F_fe⟩ := d_feed.ex
  obtain ⟨fd_dr, F_dr⟩ := d_draw.ex
  have C_hc : Cal P w K mg base 1 "how_cold" ["power", "rate"] sp_how_cold := ⟨_, _, ok_how_cold F_hc, PySem.W.mg_of X G a_how_cold, F_hc.kp, F_hc.binds fun _ _ _ _ _ _ => all2 fun _ _ => rfl⟩
  have C_vo : Cal P w K mg base 1 "volume" ["kilograms", "air", "density"] sp_volume := ⟨_, _, ok_volume F_vo, PySem.W.mg_of X G a_volume, F_vo.kp, F_vo.binds fun _ _ _ _ _ _ => all3 fun _ _ _ => rfl⟩
  have C_we : Cal P w K mg base 1 "weight" ["parts"] sp_weight := ⟨_, _, ok_weight F_we T.toBlt, PySem.W.mg_of X G a_weight, F_we.kp, F_we.binds fun _ _ _ _ _ _ => all1 fun _ => rfl⟩
  have C_fe : Cal P w K mg base 1 "feed" ["parts", "flavour", "kilograms"] sp_feed := ⟨_, _, ok_feed F_fe T.toBlt, PySem.W.mg_of X G a_feed, F_fe.kp, F_fe.binds fun _ _ _ _ _ _ => all3 fun _ _ _ => rfl⟩
  have C_dr : Cal P w K mg base 1 "draw" ["parts", "kilograms"] sp_draw := ⟨_, _, ok_draw F_dr T.toBlt, PySem.W.mg_of X G a_draw, F_dr.kp, F_dr.binds fun _ _ _ _ _ _ => all2 fun _ _ => rfl⟩
  have C_kf : Cal P w K mg base 1 "kilograms_for" ["litres", "air", "density"] sp_kilograms_for := ⟨_, _, ok_kilograms_for F_kf, PySem.W.mg_of X G a_kilograms_for, F_kf.kp, F_kf.binds fun _ _ _ _ _ _ => all3 fun _ _ _ => rfl⟩
  -- the loop over the calls
  obtain ⟨fd_wi, F_wi⟩ := d_Works_init.ex
  obtain ⟨fd_no, F_no⟩ := d_numbers_of.ex
  obtain ⟨fd_an, F_an⟩ := d_answer.ex
  have C_wt : Cal P w K mg base 1 "weighs_too_much" ["millilitres", "grams", "density"] sp_weighs_too_much := ⟨_, _, ok_weighs_too_much F_wt, PySem.W.mg_of X G a_weighs_too_much, F_wt.kp, F_wt.binds fun _ _ _ _ _ _ => all3 fun _ _ _ => rfl⟩
  have C_ca : Cal P w K mg base 1 "cup_air" ["millilitres", "grams", "density"] sp_cup_air := ⟨_, _, ok_cup_air F_ca, PySem.W.mg_of X G a_cup_air, F_ca.kp, F_ca.binds fun _ _ _ _ _ _ => all3 fun _ _ _ => rfl⟩
  have C_cg : Cal P w K mg base 1 "cup_grams" ["millilitres", "air", "density"] sp_cup_grams := ⟨_, _, ok_cup_grams F_cg, PySem.W.mg_of X G a_cup_grams, F_cg.kp, F_cg.binds fun _ _ _ _ _ _ => all3 fun _ _ _ => rfl⟩
  have GC : GCup P w K mg base := ⟨C_wt, C_ca, C_cg⟩
  have GF : GFz P w K mg base := ⟨C_we, C_hc⟩
  obtain ⟨fd_sa, F_sa⟩ := d_Works_start_anew.ex
  obtain ⟨fd_fi, F_fi⟩ := d_Freezer_init.ex
  obtain ⟨fd_pm, F_pm⟩ := d_Freezer_pass_minute.ex
  obtain ⟨fd_lp, F_lp⟩ := d_Works_let_pass.ex
  obtain ⟨fd_ko, F_ko⟩ := d_kilograms_out.ex
  obtain ⟨fd_mo, F_mo⟩ := d_millilitres_out.ex
  obtain ⟨fd_tw, F_tw⟩ := d_Freezer_twin.ex
  obtain ⟨fd_hn, F_hn⟩ := d_Freezer_has_nothing_else.ex
  have GMk : GMake P w K mg base C_Works C_Freezer := ⟨⟨_, _, ok_start_anew F_sa T.toTxt, ⟨a_Works_start_anew, i_Works_start_anew, F_sa.kp⟩, F_sa.binds fun _ _ _ _ _ _ => all3 fun _ _ _ => rfl⟩,
    ⟨_, _, ok_Freezer_init F_fi T.toTxt, ⟨mk_Freezer, a_Freezer_init, i_Freezer_init, kc_Freezer⟩, PySem.W.mg_of X G a_Freezer, F_fi.binds fun _ _ _ _ _ _ => all3 fun _ _ _ => rfl⟩⟩
  have Gm : GMins P w K mg base C_Freezer := ⟨⟨_, _, ok_pass_minute F_pm T.toTxt ⟨GF, C_fe, C_dr, C_vo⟩, ⟨a_Freezer_pass_minute, i_Freezer_pass_minute, F_pm.kp⟩, F_pm.binds fun _ _ _ _ _ _ => all3 fun _ _ _ => rfl⟩⟩
  have C_ko : Cal P w K mg base 1 "kilograms_out" ["freezers"] (sp_kilograms_out C_Freezer) := ⟨_, _, ok_kilograms_out F_ko T.toTxt, PySem.W.mg_of X G a_kilograms_out, F_ko.kp, F_ko.binds fun _ _ _ _ _ _ => all1 fun _ => rfl⟩
  have C_mo : Cal P w K mg base 1 "millilitres_out" ["freezers"] (sp_millilitres_out C_Freezer) := ⟨_, _, ok_millilitres_out F_mo T.toTxt, PySem.W.mg_of X G a_millilitres_out, F_mo.kp, F_mo.binds fun _ _ _ _ _ _ => all1 fun _ => rfl⟩
  have GM : GMn P w K mg base C_Works C_Freezer := ⟨⟨_, _, ok_let_pass F_lp T.toTxt Gm, ⟨a_Works_let_pass, i_Works_let_pass, F_lp.kp⟩, F_lp.binds fun _ _ _ _ _ _ => all3 fun _ _ _ => rfl⟩, C_ko, C_mo⟩
  have GA : GAhead P w K mg base C_Works C_Freezer := ⟨Gm, GM, ⟨_, _, ok_twin F_tw T.toTxt ⟨GMk.Freezer_new⟩, ⟨a_Freezer_twin, i_Freezer_twin, F_tw.kp⟩, F_tw.binds fun _ _ _ _ _ _ => all1 fun _ => rfl⟩,
    ⟨_, _, ok_has_nothing_else F_hn T.toTxt, ⟨a_Freezer_has_nothing_else, i_Freezer_has_nothing_else, F_hn.kp⟩, F_hn.binds fun _ _ _ _ _ _ => all1 fun _ => rfl⟩⟩
  have GY : GYield P w K mg base := ⟨C_vo, C_kf⟩
  have GS : GSums P w K mg base C_Works C_Freezer := ⟨GM, C_we⟩
  have hands : Hands P w K mg base C_Works C_Freezer (kvOf [((0 : Int), f_begin), ((1 : Int), f_add_freezer), ((2 : Int), f_run), ((3 : Int), f_stop), ((4 : Int), f_thaw), ((5 : Int), f_minutes), ((6 : Int), f_cup), ((7 : Int), f_cupfor), ((8 : Int), f_fastest), ((9 : Int), f_slowest), ((10 : Int), f_cold), ((11 : Int), f_flushed), ((12 : Int), f_until), ((13 : Int), f_ahead), ((14 : Int), f_made), ((15 : Int), f_yielded), ((16 : Int), f_need), ((17 : Int), f_show_barrel), ((18 : Int), f_look), ((19 : Int), f_sums), ((20 : Int), f_state)]) := by
    intro q n hq
    have hq21 : q < 21 := (List.getElem?_eq_some_iff.mp hq).1
    match q, hq21, hq with
    | 0, _, hq =>
      cases hq
      obtain ⟨fd, F⟩ := d_begin.ex
      exact ⟨f_begin, kv_at rfl, fd, ["works", "numbers"], ok_begin F T.toTxt GMk, F.kp, F.binds fun _ _ _ _ _ _ => all2 fun _ _ => rfl⟩
    | 1, _, hq =>
      cases hq
      obtain ⟨fd, F⟩ := d_add_freezer.ex
      exact ⟨f_add_freezer, kv_at rfl, fd, ["works", "numbers"], ok_add_freezer F T.toTxt GMk, F.kp, F.binds fun _ _ _ _ _ _ => all2 fun _ _ => rfl⟩
    | 2, _, hq =>
      cases hq
      obtain ⟨fd, F⟩ := d_run.ex
      exact ⟨f_run, kv_at rfl, fd, ["works", "numbers"], ok_run F T.toTxt, F.kp, F.binds fun _ _ _ _ _ _ => all2 fun _ _ => rfl⟩
    | 3, _, hq =>
      cases hq
      obtain ⟨fd, F⟩ := d_stop.ex
      exact ⟨f_stop, kv_at rfl, fd, ["works", "numbers"], ok_stop F T.toTxt, F.kp, F.binds fun _ _ _ _ _ _ => all2 fun _ _ => rfl⟩
    | 4, _, hq =>
      cases hq
      obtain ⟨fd, F⟩ := d_thaw.ex
      exact ⟨f_thaw, kv_at rfl, fd, ["works", "numbers"], ok_thaw F T.toTxt GF, F.kp, F.binds fun _ _ _ _ _ _ => all2 fun _ _ => rfl⟩
    | 5, _, hq =>
      cases hq
      obtain ⟨fd, F⟩ := d_minutes.ex
      exact ⟨f_minutes, kv_at rfl, fd, ["works", "numbers"], ok_minutes F T.toTxt GM, F.kp, F.binds fun _ _ _ _ _ _ => all2 fun _ _ => rfl⟩
    | 6, _, hq =>
      cases hq
      obtain ⟨fd, F⟩ := d_cup.ex
      exact ⟨f_cup, kv_at rfl, fd, ["works", "numbers"], ok_cup F T.toTxt GC, F.kp, F.binds fun _ _ _ _ _ _ => all2 fun _ _ => rfl⟩
    | 7, _, hq =>
      cases hq
      obtain ⟨fd, F⟩ := d_cupfor.ex
      exact ⟨f_cupfor, kv_at rfl, fd, ["works", "numbers"], ok_cupfor F T.toTxt GC, F.kp, F.binds fun _ _ _ _ _ _ => all2 fun _ _ => rfl⟩
    | 8, _, hq =>
      cases hq
      obtain ⟨fd, F⟩ := d_fastest.ex
      exact ⟨f_fastest, kv_at rfl, fd, ["works", "numbers"], ok_fastest F T.toTxt GF, F.kp, F.binds fun _ _ _ _ _ _ => all2 fun _ _ => rfl⟩
    | 9, _, hq =>
      cases hq
      obtain ⟨fd, F⟩ := d_slowest.ex
      exact ⟨f_slowest, kv_at rfl, fd, ["works", "numbers"], ok_slowest F T.toTxt GF, F.kp, F.binds fun _ _ _ _ _ _ => all2 fun _ _ => rfl⟩
    | 10, _, hq =>
      cases hq
      obtain ⟨fd, F⟩ := d_cold.ex
      exact ⟨f_cold, kv_at rfl, fd, ["works", "numbers"], ok_cold F T.toTxt GF, F.kp, F.binds fun _ _ _ _ _ _ => all2 fun _ _ => rfl⟩
    | 11, _, hq =>
      cases hq
      obtain ⟨fd, F⟩ := d_flushed.ex
      exact ⟨f_flushed, kv_at rfl, fd, ["works", "numbers"], ok_flushed F T.toTxt GA, F.kp, F.binds fun _ _ _ _ _ _ => all2 fun _ _ => rfl⟩
    | 12, _, hq =>
      cases hq
      obtain ⟨fd, F⟩ := d_until.ex
      exact ⟨f_until, kv_at rfl, fd, ["works", "numbers"], ok_until F T.toTxt GA, F.kp, F.binds fun _ _ _ _ _ _ => all2 fun _ _ => rfl⟩
    | 13, _, hq =>
      cases hq
      obtain ⟨fd, F⟩ := d_ahead.ex
      exact ⟨f_ahead, kv_at rfl, fd, ["works", "numbers"], ok_ahead F T.toTxt GA, F.kp, F.binds fun _ _ _ _ _ _ => all2 fun _ _ => rfl⟩
    | 14, _, hq =>
      cases hq
      obtain ⟨fd, F⟩ := d_made.ex
      exact ⟨f_made, kv_at rfl, fd, ["works", "numbers"], ok_made F T.toTxt, F.kp, F.binds fun _ _ _ _ _ _ => all2 fun _ _ => rfl⟩
    | 15, _, hq =>
      cases hq
      obtain ⟨fd, F⟩ := d_yielded.ex
      exact ⟨f_yielded, kv_at rfl, fd, ["works", "numbers"], ok_yielded F T.toTxt GY, F.kp, F.binds fun _ _ _ _ _ _ => all2 fun _ _ => rfl⟩
    | 16, _, hq =>
      cases hq
      obtain ⟨fd, F⟩ := d_need.ex
      exact ⟨f_need, kv_at rfl, fd, ["works", "numbers"], ok_need F T.toTxt GY, F.kp, F.binds fun _ _ _ _ _ _ => all2 fun _ _ => rfl⟩
    | 17, _, hq =>
      cases hq
      obtain ⟨fd, F⟩ := d_show_barrel.ex
      exact ⟨f_show_barrel, kv_at rfl, fd, ["works", "numbers"], ok_show_barrel F T.toTxt GF, F.kp, F.binds fun _ _ _ _ _ _ => all2 fun _ _ => rfl⟩
    | 18, _, hq =>
      cases hq
      obtain ⟨fd, F⟩ := d_look.ex
      exact ⟨f_look, kv_at rfl, fd, ["works", "numbers"], ok_look F T.toTxt, F.kp, F.binds fun _ _ _ _ _ _ => all2 fun _ _ => rfl⟩
    | 19, _, hq =>
      cases hq
      obtain ⟨fd, F⟩ := d_sums.ex
      exact ⟨f_sums, kv_at rfl, fd, ["works", "numbers"], ok_sums F T.toTxt GS, F.kp, F.binds fun _ _ _ _ _ _ => all2 fun _ _ => rfl⟩
    | 20, _, hq =>
      cases hq
      obtain ⟨fd, F⟩ := d_state.ex
      exact ⟨f_state, kv_at rfl, fd, ["works", "numbers"], ok_state F T.toTxt, F.kp, F.binds fun _ _ _ _ _ _ => all2 fun _ _ => rfl⟩
  have M_wi : Mak P w K mg base 1 "Works" C_Works ["self"] (sp_Works_init C_Works) := ⟨_, _, ok_Works_init F_wi T.toTxt, ⟨mk_Works, a_Works_init, i_Works_init, kc_Works⟩, PySem.W.mg_of X G a_Works, F_wi.binds fun _ _ _ _ _ _ => all1 fun _ => rfl⟩
  have C_no : Cal P w K mg base 1 "numbers_of" ["call"] sp_numbers_of := ⟨_, _, ok_numbers_of F_no T, PySem.W.mg_of X G a_numbers_of, F_no.kp, F_no.binds fun _ _ _ _ _ _ => all1 fun _ => rfl⟩
  have C_an : Cal P w K mg base 11 "answer" ["works", "call", "numbers"] (sp_answer C_Works C_Freezer) := ⟨_, _, ok_answer F_an T hands, PySem.W.mg_of X G a_answer, F_an.kp, F_an.binds fun _ _ _ _ _ _ => all3 fun _ _ _ => rfl⟩
  exact ok_answers F_answers T ⟨M_wi, C_no, C_an⟩
end Fz
open PySem PySem.W PyProof.Rows
set_option maxRecDepth 100000 in
set_option maxHeartbeats 0 in
theorem PySem.Challenge.cw_freezersoverrun_s01_answers_holds : PySem.Challenge.rw_freezersoverrun_s01_answers.Holds := by
  w_on; k_headS; (case hw => exact ⟨[.list [.int 20]], by decide +kernel, by decide +kernel⟩)
  k_fillS
  refine L2.walk_specK (r := PySem.Challenge.rw_freezersoverrun_s01_answers) (k := 13) (CX := L2.CX0) (ps := ["calls"]) (sp := Fz.sp_answers) (by decide +kernel) rfl rfl ⟨rfl, by decide, by decide⟩ (fun w h Y => PySem.W.kIn_of Y) ?F ?S (fun _ _ _ _ z => z)
  case F =>
    intro w mg fa h Y KX G hmg
    refine' Fz.all_mk KX G hmg ?a_Freezer ?a_Works ?a_how_cold ?a_volume ?a_kilograms_for ?a_weighs_too_much ?a_cup_air ?a_cup_grams ?a_weight ?a_feed ?a_draw ?a_Freezer_init ?a_Freezer_twin ?a_Freezer_has_nothing_else ?a_Freezer_pass_minute ?a_Works_init ?a_Works_start_anew ?a_Works_let_pass ?a_kilograms_out ?a_millilitres_out ?a_begin ?a_add_freezer ?a_run ?a_stop ?a_thaw ?a_minutes ?a_cup ?a_cupfor ?a_fastest ?a_slowest ?a_cold ?a_flushed ?a_until ?a_ahead ?a_made ?a_yielded ?a_need ?a_show_barrel ?a_look ?a_sums ?a_state ?a_numbers_of ?a_answer ?a_answers (Fz.df_mk ?ld_how_cold ?cd_how_cold ?kd_how_cold) (Fz.df_mk ?ld_volume ?cd_volume ?kd_volume) (Fz.df_mk ?ld_kilograms_for ?cd_kilograms_for ?kd_kilograms_for) (Fz.df_mk ?ld_weighs_too_much ?cd_weighs_too_much ?kd_weighs_too_much) (Fz.df_mk ?ld_cup_air ?cd_cup_air ?kd_cup_air) (Fz.df_mk ?ld_cup_grams ?cd_cup_grams ?kd_cup_grams) (Fz.df_mk ?ld_weight ?cd_weight ?kd_weight) (Fz.df_mk ?ld_feed ?cd_feed ?kd_feed) (Fz.df_mk ?ld_draw ?cd_draw ?kd_draw) (Fz.df_mk ?ld_Freezer_init ?cd_Freezer_init ?kd_Freezer_init) ?i_Freezer_init (Fz.df_mk ?ld_Freezer_twin ?cd_Freezer_twin ?kd_Freezer_twin) ?i_Freezer_twin (Fz.df_mk ?ld_Freezer_has_nothing_else ?cd_Freezer_has_nothing_else ?kd_Freezer_has_nothing_else) ?i_Freezer_has_nothing_else (Fz.df_mk ?ld_Freezer_pass_minute ?cd_Freezer_pass_minute ?kd_Freezer_pass_minute) ?i_Freezer_pass_minute (Fz.df_mk ?ld_Works_init ?cd_Works_init ?kd_Works_init) ?i_Works_init (Fz.df_mk ?ld_Works_start_anew ?cd_Works_start_anew ?kd_Works_start_anew) ?i_Works_start_anew (Fz.df_mk ?ld_Works_let_pass ?cd_Works_let_pass ?kd_Works_let_pass) ?i_Works_let_pass (Fz.df_mk ?ld_kilograms_out ?cd_kilograms_out ?kd_kilograms_out) (Fz.df_mk ?ld_millilitres_out ?cd_millilitres_out ?kd_millilitres_out) (Fz.df_mk ?ld_begin ?cd_begin ?kd_begin) (Fz.df_mk ?ld_add_freezer ?cd_add_freezer ?kd_add_freezer) (Fz.df_mk ?ld_run ?cd_run ?kd_run) (Fz.df_mk ?ld_stop ?cd_stop ?kd_stop) (Fz.df_mk ?ld_thaw ?cd_thaw ?kd_thaw) (Fz.df_mk ?ld_minutes ?cd_minutes ?kd_minutes) (Fz.df_mk ?ld_cup ?cd_cup ?kd_cup) (Fz.df_mk ?ld_cupfor ?cd_cupfor ?kd_cupfor) (Fz.df_mk ?ld_fastest ?cd_fastest ?kd_fastest) (Fz.df_mk ?ld_slowest ?cd_slowest ?kd_slowest) (Fz.df_mk ?ld_cold ?cd_cold ?kd_cold) (Fz.df_mk ?ld_flushed ?cd_flushed ?kd_flushed) (Fz.df_mk ?ld_until ?cd_until ?kd_until) (Fz.df_mk ?ld_ahead ?cd_ahead ?kd_ahead) (Fz.df_mk ?ld_made ?cd_made ?kd_made) (Fz.df_mk ?ld_yielded ?cd_yielded ?kd_yielded) (Fz.df_mk ?ld_need ?cd_need ?kd_need) (Fz.df_mk ?ld_show_barrel ?cd_show_barrel ?kd_show_barrel) (Fz.df_mk ?ld_look ?cd_look ?kd_look) (Fz.df_mk ?ld_sums ?cd_sums ?kd_sums) (Fz.df_mk ?ld_state ?cd_state ?kd_state) (Fz.df_mk ?ld_numbers_of ?cd_numbers_of ?kd_numbers_of) (Fz.df_mk ?ld_answer ?cd_answer ?kd_answer) (Fz.df_mk ?ld_answers ?cd_answers ?kd_answers) ?pg_Freezer ?hd_Freezer ?po_Freezer ?sa_Freezer ?mk_Freezer ?kc_Freezer ?n_Freezer_holds ?n_Freezer_power ?n_Freezer_fed_with ?n_Freezer_rate ?n_Freezer_air ?n_Freezer_frozen ?n_Freezer_parts ?n_Freezer_total_fed ?n_Freezer_kilograms ?n_Freezer_millilitres ?pg_Works ?hd_Works ?po_Works ?sa_Works ?mk_Works ?kc_Works ?n_Works_begun ?n_Works_density ?n_Works_coldest ?n_Works_minute ?n_Works_freezers ?m_FLAVOURS ?m_NONE_SUCH ?m_NOT_FED ?m_NOT_BEGUN ?m_FROZEN_IN ?m_SO_ALREADY ?m_OUT_OF_RANGE ?m_TOO_MANY ?m_CANNOT_BE ?m_BEGIN ?m_MOST_FREEZERS ?m_MOST_RATE ?m_MOST_AIR ?m_MOST_COLD ?m_MOST_MINUTES ?m_MOST_AHEAD ?m_MOST_AMOUNT ?n_all ?n_len ?n_list ?n_min ?n_range ?n_sum ?a_LENGTHS ?l_LENGTHS ?z_LENGTHS ?v_LENGTHS ?a_ON_A_FREEZER ?l_ON_A_FREEZER ?z_ON_A_FREEZER ?v_ON_A_FREEZER ?a_CALLS ?l_CALLS ?v_CALLS ?y_CALLS
    (case a_Freezer => k_is)
    (case a_Works => k_is)
    (case a_how_cold => k_is)
    (case a_volume => k_is)
    (case a_kilograms_for => k_is)
    (case a_weighs_too_much => k_is)
    (case a_cup_air => k_is)
    (case a_cup_grams => k_is)
    (case a_weight => k_is)
    (case a_feed => k_is)
    (case a_draw => k_is)
    (case a_Freezer_init => k_is)
    (case a_Freezer_twin => k_is)
    (case a_Freezer_has_nothing_else => k_is)
    (case a_Freezer_pass_minute => k_is)
    (case a_Works_init => k_is)
    (case a_Works_start_anew => k_is)
    (case a_Works_let_pass => k_is)
    (case a_kilograms_out => k_is)
    (case a_millilitres_out => k_is)
    (case a_begin => k_is)
    (case a_add_freezer => k_is)
    (case a_run => k_is)
    (case a_stop => k_is)
    (case a_thaw => k_is)
    (case a_minutes => k_is)
    (case a_cup => k_is)
    (case a_cupfor => k_is)
    (case a_fastest => k_is)
    (case a_slowest => k_is)
    (case a_cold => k_is)
    (case a_flushed => k_is)
    (case a_until => k_is)
    (case a_ahead => k_is)
    (case a_made => k_is)
    (case a_yielded => k_is)
    (case a_need => k_is)
    (case a_show_barrel => k_is)
    (case a_look => k_is)
    (case a_sums => k_is)
    (case a_state => k_is)
    (case a_numbers_of => k_is)
    (case a_answer => k_is)
    (case a_answers => k_is)
    (case ld_how_cold => k_is)
    (case cd_how_cold => k_is)
    (case kd_how_cold => k_is)
    (case ld_volume => k_is)
    (case cd_volume => k_is)
    (case kd_volume => k_is)
    (case ld_kilograms_for => k_is)
    (case cd_kilograms_for => k_is)
    (case kd_kilograms_for => k_is)
    (case ld_weighs_too_much => k_is)
    (case cd_weighs_too_much => k_is)
    (case kd_weighs_too_much => k_is)
    (case ld_cup_air => k_is)
    (case cd_cup_air => k_is)
    (case kd_cup_air => k_is)
    (case ld_cup_grams => k_is)
    (case cd_cup_grams => k_is)
    (case kd_cup_grams => k_is)
    (case ld_weight => k_is)
    (case cd_weight => k_is)
    (case kd_weight => k_is)
    (case ld_feed => k_is)
    (case cd_feed => k_is)
    (case kd_feed => k_is)
    (case ld_draw => k_is)
    (case cd_draw => k_is)
    (case kd_draw => k_is)
    (case ld_Freezer_init => k_is)
    (case cd_Freezer_init => k_is)
    (case kd_Freezer_init => k_is)
    (case i_Freezer_init => k_is)
    (case ld_Freezer_twin => k_is)
    (case cd_Freezer_twin => k_is)
    (case kd_Freezer_twin => k_is)
    (case i_Freezer_twin => k_is)
    (case ld_Freezer_has_nothing_else => k_is)
    (case cd_Freezer_has_nothing_else => k_is)
    (case kd_Freezer_has_nothing_else => k_is)
    (case i_Freezer_has_nothing_else => k_is)
    (case ld_Freezer_pass_minute => k_is)
    (case cd_Freezer_pass_minute => k_is)
    (case kd_Freezer_pass_minute => k_is)
    (case i_Freezer_pass_minute => k_is)
    (case ld_Works_init => k_is)
    (case cd_Works_init => k_is)
    (case kd_Works_init => k_is)
    (case i_Works_init => k_is)
    (case ld_Works_start_anew => k_is)
    (case cd_Works_start_anew => k_is)
    (case kd_Works_start_anew => k_is)
    (case i_Works_start_anew => k_is)
    (case ld_Works_let_pass => k_is)
    (case cd_Works_let_pass => k_is)
    (case kd_Works_let_pass => k_is)
    (case i_Works_let_pass => k_is)
    (case ld_kilograms_out => k_is)
    (case cd_kilograms_out => k_is)
    (case kd_kilograms_out => k_is)
    (case ld_millilitres_out => k_is)
    (case cd_millilitres_out => k_is)
    (case kd_millilitres_out => k_is)
    (case ld_begin => k_is)
    (case cd_begin => k_is)
    (case kd_begin => k_is)
    (case ld_add_freezer => k_is)
    (case cd_add_freezer => k_is)
    (case kd_add_freezer => k_is)
    (case ld_run => k_is)
    (case cd_run => k_is)
    (case kd_run => k_is)
    (case ld_stop => k_is)
    (case cd_stop => k_is)
    (case kd_stop => k_is)
    (case ld_thaw => k_is)
    (case cd_thaw => k_is)
    (case kd_thaw => k_is)
    (case ld_minutes => k_is)
    (case cd_minutes => k_is)
    (case kd_minutes => k_is)
    (case ld_cup => k_is)
    (case cd_cup => k_is)
    (case kd_cup => k_is)
    (case ld_cupfor => k_is)
    (case cd_cupfor => k_is)
    (case kd_cupfor => k_is)
    (case ld_fastest => k_is)
    (case cd_fastest => k_is)
    (case kd_fastest => k_is)
    (case ld_slowest => k_is)
    (case cd_slowest => k_is)
    (case kd_slowest => k_is)
    (case ld_cold => k_is)
    (case cd_cold => k_is)
    (case kd_cold => k_is)
    (case ld_flushed => k_is)
    (case cd_flushed => k_is)
    (case kd_flushed => k_is)
    (case ld_until => k_is)
    (case cd_until => k_is)
    (case kd_until => k_is)
    (case ld_ahead => k_is)
    (case cd_ahead => k_is)
    (case kd_ahead => k_is)
    (case ld_made => k_is)
    (case cd_made => k_is)
    (case kd_made => k_is)
    (case ld_yielded => k_is)
    (case cd_yielded => k_is)
    (case kd_yielded => k_is)
    (case ld_need => k_is)
    (case cd_need => k_is)
    (case kd_need => k_is)
    (case ld_show_barrel => k_is)
    (case cd_show_barrel => k_is)
    (case kd_show_barrel => k_is)
    (case ld_look => k_is)
    (case cd_look => k_is)
    (case kd_look => k_is)
    (case ld_sums => k_is)
    (case cd_sums => k_is)
    (case kd_sums => k_is)
    (case ld_state => k_is)
    (case cd_state => k_is)
    (case kd_state => k_is)
    (case ld_numbers_of => k_is)
    (case cd_numbers_of => k_is)
    (case kd_numbers_of => k_is)
    (case ld_answer => k_is)
    (case cd_answer => k_is)
    (case kd_answer => k_is)
    (case ld_answers => k_is)
    (case cd_answers => k_is)
    (case kd_answers => k_is)
    (case pg_Freezer => k_is)
    (case hd_Freezer => k_is)
    (case po_Freezer => k_is)
    (case sa_Freezer => k_is)
    (case mk_Freezer => k_is)
    (case kc_Freezer => k_is)
    (case n_Freezer_holds => k_is)
    (case n_Freezer_power => k_is)
    (case n_Freezer_fed_with => k_is)
    (case n_Freezer_rate => k_is)
    (case n_Freezer_air => k_is)
    (case n_Freezer_frozen => k_is)
    (case n_Freezer_parts => k_is)
    (case n_Freezer_total_fed => k_is)
    (case n_Freezer_kilograms => k_is)
    (case n_Freezer_millilitres => k_is)
    (case pg_Works => k_is)
    (case hd_Works => k_is)
    (case po_Works => k_is)
    (case sa_Works => k_is)
    (case mk_Works => k_is)
    (case kc_Works => k_is)
    (case n_Works_begun => k_is)
    (case n_Works_density => k_is)
    (case n_Works_coldest => k_is)
    (case n_Works_minute => k_is)
    (case n_Works_freezers => k_is)
    (case m_FLAVOURS => k_is)
    (case m_NONE_SUCH => k_is)
    (case m_NOT_FED => k_is)
    (case m_NOT_BEGUN => k_is)
    (case m_FROZEN_IN => k_is)
    (case m_SO_ALREADY => k_is)
    (case m_OUT_OF_RANGE => k_is)
    (case m_TOO_MANY => k_is)
    (case m_CANNOT_BE => k_is)
    (case m_BEGIN => k_is)
    (case m_MOST_FREEZERS => k_is)
    (case m_MOST_RATE => k_is)
    (case m_MOST_AIR => k_is)
    (case m_MOST_COLD => k_is)
    (case m_MOST_MINUTES => k_is)
    (case m_MOST_AHEAD => k_is)
    (case m_MOST_AMOUNT => k_is)
    (case n_all => k_is)
    (case n_len => k_is)
    (case n_list => k_is)
    (case n_min => k_is)
    (case n_range => k_is)
    (case n_sum => k_is)
    (case a_LENGTHS => k_is)
    (case l_LENGTHS => k_is)
    (case z_LENGTHS => decide)
    (case v_LENGTHS => rfl)
    (case a_ON_A_FREEZER => k_is)
    (case l_ON_A_FREEZER => k_is)
    (case z_ON_A_FREEZER => decide)
    (case v_ON_A_FREEZER => rfl)
    (case a_CALLS => k_is)
    (case l_CALLS => k_is)
    (case v_CALLS => rfl)
    (case y_CALLS => decide)
  case S =>
    intro K H xs a hO hwi hask hx
    cases hx with
    | cons h1 h2 =>
      cases h2
      cases h1 with
      | lst hs ha =>
        have e := L2.ints_dw a.1 _ ha
        subst e
        have q : ((Codec.inLen 0 2000 a.1 && a.1.all (Codec.inInt 0 4294967295)) && true) = true := hwi
        rw [Bool.and_eq_true, Bool.and_eq_true] at q
        exact ⟨_, a.1, rfl, hs, hask, fun x hx => (Codec.inInt_iff.mp (List.all_eq_true.mp q.1.2 x hx)).1, (Codec.inNat_iff.mp q.1.1).2, fun H' p hp => .lst (L2.SqL.of hp) (L2.dw_ints _)⟩
#print axioms PySem.Challenge.cw_freezersoverrun_s01_answers_holds
