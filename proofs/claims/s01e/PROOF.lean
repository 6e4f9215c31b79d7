import PyProof.Rows.All
import Wide.All
import OpenK.AllK
import Wide.FinOn
import PyProof.EqAt
import PyProof.EqKinds
import PyProof.TupleCall
import KE.BitLaws
import KE.OsGo
import Open.SpecLaws
import PySem.Challenge.RW_thinbits_s01_schema
import PyQl51
set_option Elab.async false
set_option linter.all false
set_option maxRecDepth 100000
namespace L2
open PySem PySem.Spec PyProof.Rows
abbrev Key := Sum Int Str
def keyIs : Key → Value → Bool
  | .inl k, v => Value.isInt k v
  | .inr x, v => Value.isStrOf x v
def keyH (w : World) : Key → Int
  | .inl k => hashInt k
  | .inr x => hashStr w x
theorem keyIs_shape : ∀ {k : Key} {v : Value}, keyIs k v = true → (∃ i t, k = Sum.inl i ∧ v = Value.int i t) ∨ (∃ x t, k = Sum.inr x ∧ v = Value.str x t)
  | .inl i, v, h => by
    obtain ⟨t, e⟩ := Value.isInt_shape (k := i) (v := v) h
    exact .inl ⟨i, t, rfl, e⟩
  | .inr x, v, h => by
    obtain ⟨t, e⟩ := Value.isStrOf_shape (x := x) (v := v) h
    exact .inr ⟨x, t, rfl, e⟩
theorem keyIs_int (i : Int) (t : Tok) : keyIs (.inl i) (.int i t) = true := by simp [keyIs, Value.isInt]
theorem keyIs_str (x : Str) (t : Tok) : keyIs (.inr x) (.str x t) = true := by simp [keyIs, Value.isStrOf]
theorem key_ll (a b : Int) : decide ((Sum.inl a : Key) = Sum.inl b) = (a == b) := by
  by_cases e : a = b
  · subst e; simp
  · have h : ¬ (Sum.inl a : Key) = Sum.inl b := fun q => e (Sum.inl.inj q)
    rw [decide_eq_false h]
    exact (beq_eq_false_iff_ne.mpr e).symm
theorem key_rr (a b : Str) : decide ((Sum.inr a : Key) = Sum.inr b) = decide (a = b) := by
  by_cases e : a = b
  · subst e; simp
  · have h : ¬ (Sum.inr a : Key) = Sum.inr b := fun q => e (Sum.inr.inj q)
    rw [decide_eq_false h, decide_eq_false e]
theorem key_lr (a : Int) (b : Str) : decide ((Sum.inl a : Key) = Sum.inr b) = false := decide_eq_false (fun q => nomatch q)
theorem key_rl (a : Str) (b : Int) : decide ((Sum.inr a : Key) = Sum.inl b) = false := decide_eq_false (fun q => nomatch q)
def mixKind (prog : Program) (w : World) : PySem.KeyKind prog w Key where
  is := keyIs
  hash := keyH w
  inj := fun v a b ha hb => by
    rcases keyIs_shape ha with ⟨i, t, rfl, rfl⟩ | ⟨x, t, rfl, rfl⟩
    · rcases keyIs_shape hb with ⟨j, u, rfl, e⟩ | ⟨y, u, rfl, e⟩
      · injection e with e1 _; rw [e1]
      · exact nomatch e
    · rcases keyIs_shape hb with ⟨j, u, rfl, e⟩ | ⟨y, u, rfl, e⟩
      · exact nomatch e
      · injection e with e1 _; rw [e1]
  byValue := fun k v h => by
    rcases keyIs_shape h with ⟨i, t, rfl, rfl⟩ | ⟨x, t, rfl, rfl⟩ <;> rfl
  pyHash := fun hv h => by
    rcases keyIs_shape hv with ⟨i, t, rfl, rfl⟩ | ⟨x, t, rfl, rfl⟩
    · exact wpAny_pyHash_int h
    · exact wpAny_pyHash_str h
  eqBool := fun hu hv h => by
    rcases keyIs_shape hu with ⟨i, t, rfl, rfl⟩ | ⟨x, t, rfl, rfl⟩
    · rcases keyIs_shape hv with ⟨j, u, rfl, rfl⟩ | ⟨y, u, rfl, rfl⟩
      · rw [key_ll] at h; exact wpAny_eqBool_int h
      · rw [key_lr] at h; exact SeqAt.EqAt.int_str i t y u _ _ _ _ h
    · rcases keyIs_shape hv with ⟨j, u, rfl, rfl⟩ | ⟨y, u, rfl, rfl⟩
      · rw [key_rl] at h; exact SeqAt.EqAt.str_int x t j u _ _ _ _ h
      · rw [key_rr] at h; exact wpAny_eqBool_str h
  «strs» := fun k x t v h => by
    rcases keyIs_shape h with ⟨i, u, rfl, e⟩ | ⟨y, u, rfl, e⟩
    · exact nomatch e
    · injection e with e1 _
      subst e1
      cases v <;> rfl
theorem mixKind_int (prog : Program) (w : World) (i : Int) (t : Tok) : (mixKind prog w).is (.inl i) (.int i t) = true := keyIs_int i t
theorem mixKind_str (prog : Program) (w : World) (x : Str) (t : Tok) : (mixKind prog w).is (.inr x) (.str x t) = true := keyIs_str x t
end L2
namespace L2
open PySem PySem.Spec PyProof.Rows
inductive V where
  | non | bl (b : Bool) | int (i : Int) | str (x : Str) | byt (b : Array UInt8) | flt (b : UInt64) | ref (a : Addr) | ty (n : String)
  deriving DecidableEq
def RelV : V → Value → Prop
  | .non, u => u = Value.none
  | .bl b, u => u = Value.bool b
  | .int i, u => ∃ t, u = Value.int i t
  | .str x, u => ∃ t, u = Value.str x t
  | .byt b, u => ∃ t, u = Value.bytes b t
  | .flt b, u => ∃ t, u = Value.float b t
  | .ref a, u => u = Value.ref a
  | .ty n, u => u = Value.type n
abbrev Vals : List V → List Value → Prop := Paired RelV
theorem Vals.length {xs : List V} {us : List Value} (r : Vals xs us) : xs.length = us.length := Paired.length r
theorem Vals.get : ∀ {xs : List V} {us : List Value} {i : Nat} {x : V}, Vals xs us → xs[i]? = some x → ∃ u, us[i]? = some u ∧ RelV x u
  | _, _, _, _, .nil, e => by simp at e
  | _, _, 0, _, .cons r _, e => by simp at e; subst e; exact ⟨_, rfl, r⟩
  | _, _, i + 1, x, .cons _ t, e => by
    obtain ⟨u, h1, h2⟩ := Vals.get (i := i) (x := x) t (by simpa using e)
    exact ⟨u, by simpa using h1, h2⟩
theorem Vals.append : ∀ {xs ys : List V} {us ws : List Value}, Vals xs us → Vals ys ws → Vals (xs ++ ys) (us ++ ws)
  | _, _, _, _, .nil, s => s
  | _, _, _, _, .cons r t, s => .cons r (Vals.append t s)
def RelO : Option V → Option Value → Prop
  | some v, some u => RelV v u
  | none, none => True
  | _, _ => False
def KV {κ : Type} : List (κ × V) → List (κ × Value) → Prop := Paired fun (p : κ × V) (q : κ × Value) => p.1 = q.1 ∧ RelV p.2 q.2
def kV : Key → V
  | .inl i => .int i
  | .inr x => .str x
inductive HO where
  /-- a list -/
  | lst (xs : List V)
  /-- a tuple (never changes) -/
  | tup (xs : List V)
  /-- a dict whose keys are ints and texts; one whose keys are tuples of ints and texts (the empty one is both) -/
  | dK (kvs : List (Key × V)) | dT (kvs : List (List Key × V))
  /-- a set of ints: its members, its size -/
  | set (S : Int → Bool) (n : Nat)
  /-- an instance of the class at C, its dict at dx, its attributes -/
  | ins (C dx : Addr) (fs : List (Str × V))
  /-- the dict of the instance at x -/
  | own (x : Addr)
  /-- the dict of an exception -/
  | xd (fs : List (Str × V))
  /-- a bound method, f of x -/
  | met (f x : Addr)
  /-- a range object lo, lo + 1, .. below hi -/
  | rng (lo hi : Int)
  /-- a thing that is known to the object (the script; a dict while a loop walks it): read, never written while it is so -/
  | frz (o : Obj) (u : HO)
  /-- a code object's table -/
  | tbl (ps : Array Value)
  /-- any other thing, by what is true of its one object (a def of one's own: SetO a S n := HO.ext fun h => ..) -/
  | ext (φ : Heap → Prop)
abbrev Hp := Addr → Option HO
def upd (H : Hp) (a : Addr) (o : HO) : Hp := fun b => if b = a then some o else H b
theorem upd_same {H : Hp} {a : Addr} {o : HO} : upd H a o a = some o := by unfold upd; rw [if_pos rfl]
theorem upd_ne {H : Hp} {a b : Addr} {o : HO} (h : b ≠ a) : upd H a o b = H b := by unfold upd; rw [if_neg h]
theorem ne_of {H : Hp} {a b : Addr} {o u : HO} (h : H a = some o) (h' : H b = some u) (d : o ≠ u) : a ≠ b := by
  intro e; subst e; rw [h] at h'; exact d (Option.some.inj h')
theorem ne_of_none {H : Hp} {a b : Addr} {o : HO} (h : H a = some o) (h' : H b = none) : a ≠ b := by
  intro e; subst e; rw [h] at h'; cases h'
section
variable (P : Program) (w : World)
def ObjOk (H : Hp) (h : Heap) (a : Addr) : HO → Prop
  | .lst xs => xs.length ≤ sizeLine ∧ ∃ (its : List Value) (n : Nat), Vals xs its ∧ h.get? a = some { cls := .type "list", data := .seq its.toArray n }
  | .tup xs => xs.length ≤ sizeLine ∧ ∃ its : List Value, Vals xs its ∧ IsTup h a its.toArray
  | .dK kvs => kvs.length ≤ sizeLine ∧ (a == sysModules) = false ∧ ∃ vs, KV kvs vs ∧ h.DictOf (mixKind P w) a vs
  | .dT kvs => kvs.length ≤ sizeLine ∧ (a == sysModules) = false ∧ ∃ xs : List (List Key × Addr × Value),
      Paired (fun (p : List Key × V) (q : List Key × Addr × Value) => p.1 = q.1 ∧ H q.2.1 = some (.tup (p.1.map kV)) ∧ RelV p.2 q.2.2) kvs xs ∧
      ∃ o es ep, h.get? a = some o ∧ o.ExactDict ∧ o.data = .dict es ep ∧ es.toList = xs.map (entryOfKey (tupleKind (mixKind P w))) ∧ (xs.map (·.1)).Nodup
  | .set S n => h.SetOf (intKind P w) a S n
  | .ins C dx fs => H dx = some (.own a) ∧ fs.length ≤ 1000 ∧ dx ≠ a ∧ h.get? a = some (PySem.W.instObj C dx) ∧
      ∃ mA, h.Ns1 dx mA ∧ (∀ f, RelO (fs.lookup f) (mA f)) ∧ PySem.Within mA (fs.map (·.1))
  | .own _ => ∃ o, h.get? a = some o
  | .xd fs => ∃ mA, h.Ns1 a mA ∧ ∀ f, RelO (fs.lookup f) (mA f)
  | .rng lo hi => ∃ t u v, h.get? a = some { cls := .type "range", data := .fields #[.int lo t, .int hi u, .int 1 v] }
  | .frz o u => h.get? a = some o ∧ ObjOk H h a u
  | .tbl ps => h.get? a = some { cls := .none, data := .fields ps }
  | .met f x => h.get? a = some (PySem.W.methodObj (.ref f) (.ref x))
  | .ext φ => φ h ∧ (∃ o, h.get? a = some o) ∧ ∀ h1 h2 : Heap, φ h1 → (∀ o, h1.get? a = some o → h2.get? a = some o) → φ h2
def HOk (H : Hp) (h : Heap) : Prop := ∀ a o, H a = some o → ObjOk P w H h a o
end
section
variable {P : Program} {w : World} {H H' : Hp} {h h' : Heap} {a : Addr} {o : HO}
theorem ObjOk.lt (x : ObjOk P w H h a o) : a < h.objs.size := by
  cases o with
  | lst xs => obtain ⟨_, _, _, _, e⟩ := x; exact Heap.lt_size e
  | tup xs => obtain ⟨_, _, _, p⟩ := x; exact p.lt
  | dK kvs => obtain ⟨_, _, _, _, o, _, _, e, _⟩ := x; exact Heap.lt_size e
  | dT kvs => obtain ⟨_, _, _, _, o, _, _, e, _⟩ := x; exact Heap.lt_size e
  | set S n => obtain ⟨o, _, _, _, e, _⟩ := x; exact Heap.lt_size e
  | ins C dx fs => obtain ⟨_, _, _, e, _⟩ := x; exact Heap.lt_size e
  | own y => obtain ⟨_, e⟩ := x; exact Heap.lt_size e
  | xd fs => obtain ⟨_, ⟨_, _, _, e, _⟩, _⟩ := x; exact Heap.lt_size e
  | rng lo hi => obtain ⟨_, _, _, e⟩ := x; exact Heap.lt_size e
  | frz ob u => obtain ⟨e, _⟩ := x; exact Heap.lt_size e
  | tbl ps => exact Heap.lt_size (show h.get? a = some _ from x)
  | met f y => exact Heap.lt_size (show h.get? a = some _ from x)
  | ext φ => obtain ⟨_, ⟨_, e⟩, _⟩ := x; exact Heap.lt_size e
theorem Paired.mapP {α β : Type} {F G : α → β → Prop} : ∀ {l₁ : List α} {l₂ : List β}, Paired F l₁ l₂ → (∀ a b, F a b → G a b) → Paired G l₁ l₂
  | _, _, .nil, _ => .nil
  | _, _, .cons r t, f => .cons (f _ _ r) (Paired.mapP t f)
theorem ObjOk.stay (x : ObjOk P w H h a o) (k : ∀ b u, (b = a ∨ H b = some (.own a)) → h.get? b = some u → h'.get? b = some u)
    (ho : ∀ b, H b = some (.own a) → H' b = some (.own a)) (ht : ∀ b xs, H b = some (.tup xs) → H' b = some (.tup xs)) : ObjOk P w H' h' a o := by
  induction o with
  | lst xs => obtain ⟨z, its, n, r, e⟩ := x; exact ⟨z, its, n, r, k _ _ (.inl rfl) e⟩
  | tup xs => obtain ⟨z, its, r, ob, e, c⟩ := x; exact ⟨z, its, r, ob, k _ _ (.inl rfl) e, c⟩
  | dK kvs => obtain ⟨z, y, vs, r, ob, es, ep, e, c⟩ := x; exact ⟨z, y, vs, r, ob, es, ep, k _ _ (.inl rfl) e, c⟩
  | dT kvs =>
    obtain ⟨z, y, xs, r, ob, es, ep, e, c⟩ := x
    exact ⟨z, y, xs, Paired.mapP r fun p q z => ⟨z.1, ht _ _ z.2.1, z.2.2⟩, ob, es, ep, k _ _ (.inl rfl) e, c⟩
  | set S n => obtain ⟨ob, es, ep, t, e, c⟩ := x; exact ⟨ob, es, ep, t, k _ _ (.inl rfl) e, c⟩
  | ins C dx fs =>
    obtain ⟨d, z, ne, e, mA, ⟨od, es, ep, e2, c⟩, r⟩ := x
    exact ⟨ho _ d, z, ne, k _ _ (.inl rfl) e, mA, ⟨od, es, ep, k _ _ (.inr d) e2, c⟩, r⟩
  | own y => obtain ⟨ob, e⟩ := x; exact ⟨ob, k _ _ (.inl rfl) e⟩
  | xd fs => obtain ⟨mA, ⟨od, es, ep, e, c⟩, r⟩ := x; exact ⟨mA, ⟨od, es, ep, k _ _ (.inl rfl) e, c⟩, r⟩
  | rng lo hi => obtain ⟨t, u, v, e⟩ := x; exact ⟨t, u, v, k _ _ (.inl rfl) e⟩
  | frz ob u ih => obtain ⟨e, q⟩ := x; exact ⟨k _ _ (.inl rfl) e, ih q⟩
  | tbl ps =>
    have e : h.get? a = some { cls := .none, data := .fields ps } := x
    show h'.get? a = some { cls := .none, data := .fields ps }
    exact k a _ (.inl rfl) e
  | met f y =>
    have e : h.get? a = some (PySem.W.methodObj (.ref f) (.ref y)) := x
    show h'.get? a = some (PySem.W.methodObj (.ref f) (.ref y))
    exact k a _ (.inl rfl) e
  | ext φ => obtain ⟨p, ⟨o, e⟩, st⟩ := x; exact ⟨st _ _ p fun o q => k _ _ (.inl rfl) q, ⟨o, k _ _ (.inl rfl) e⟩, st⟩
theorem HOk.lt (x : HOk P w H h) (e : H a = some o) : a < h.objs.size := (x a o e).lt
theorem HOk.fresh (x : HOk P w H h) (e : h.objs.size ≤ a) : H a = none := by
  cases q : H a with
  | none => rfl
  | some u => exact absurd (Nat.lt_of_lt_of_le (x.lt q) e) (Nat.lt_irrefl _)
theorem HOk.kept (x : HOk P w H h) (k : ∀ b u, h.get? b = some u → h'.get? b = some u) : HOk P w H h' := fun a o e =>
  (x a o e).stay (fun b u _ q => k b u q) (fun _ q => q) fun _ _ q => q
theorem HOk.laid (x : HOk P w H h) (k : ∀ b u, h.get? b = some u → h'.get? b = some u) (hp : h.objs.size ≤ a) (new : ObjOk P w (upd H a o) h' a o) : HOk P w (upd H a o) h' := fun b u e => by
  have hn := x.fresh hp
  by_cases hb : b = a
  · subst hb; rw [upd_same] at e; cases e; exact new
  · rw [upd_ne hb] at e
    exact (x b u e).stay (fun c v _ q => k c v q) (fun c q => by rw [upd_ne (ne_of_none q hn)]; exact q) fun c xs q => by rw [upd_ne (ne_of_none q hn)]; exact q
end
def Rd (H : Hp) (a : Addr) (u : HO) : Prop := H a = some u ∨ ∃ o, H a = some (.frz o u)
theorem Rd.ok {P : Program} {w : World} {H : Hp} {h : Heap} {a : Addr} {u : HO} (r : Rd H a u) (x : HOk P w H h) : ObjOk P w H h a u := by
  rcases r with r | ⟨o, r⟩
  · exact x a u r
  · obtain ⟨_, q⟩ := x a _ r
    exact q
def Mut : Option HO → Prop
  | some (.lst _) => True
  | some (.dK _) => True
  | some (.dT _) => True
  | some (.set _ _) => True
  | some (.ins _ _ _) => True
  | some (.ext _) => True
  | _ => False
section
variable {P : Program} {w : World} {H : Hp} {h h' : Heap} {x e : Addr} {o' : HO}
theorem HOk.write (ok : HOk P w H h) (mu : Mut (H x)) (he : e = x ∨ H e = some (.own x)) (k : ∀ b u, b ≠ e → h.get? b = some u → h'.get? b = some u) (heo : ∃ u, h'.get? e = some u)
    (new : ObjOk P w (upd H x o') h' x o') : HOk P w (upd H x o') h' := fun b u q => by
  have nown : ∀ c y, H c = some (.own y) → c ≠ x := fun c y r z => by subst z; rw [r] at mu; exact mu
  have ntup : ∀ c xs, H c = some (.tup xs) → c ≠ x := fun c xs r z => by subst z; rw [r] at mu; exact mu
  by_cases hb : b = x
  · subst hb; rw [upd_same] at q; cases q; exact new
  · rw [upd_ne hb] at q
    by_cases hbe : b = e
    · have q' : H b = some (.own x) := by
        rcases he with z | z
        · exact absurd (hbe.trans z) hb
        · rw [hbe]; exact z
      rw [q] at q'; cases q'
      obtain ⟨v, hv⟩ := heo
      exact ⟨v, by rw [hbe]; exact hv⟩
    · refine (ok b u q).stay (fun c v hc r => k c v ?_ r) (fun c r => by rw [upd_ne (nown c b r)]; exact r) fun c xs r => by rw [upd_ne (ntup c xs r)]; exact r
      rcases hc with rfl | hc
      · exact hbe
      · rintro rfl
        rcases he with z | z
        · exact nown c b hc z
        · rw [hc] at z; cases z; exact hb rfl
end
structure Un (fs ex : List Addr) (H H' : Hp) (h h' : Heap) : Prop where
  keep : ∀ b o, h.get? b = some o → H b = none → b ∉ fs → b ∉ ex → h'.get? b = some o
  slot : ∀ b o, h.get? b = some o → H b = none → b ∈ fs → b ∉ ex → ∃ sl, h'.get? b = some { o with slots := sl }
  free : ∀ b o, h.get? b = some o → H b = none → b ∉ ex → H' b = none
  there : ∀ b o, h.get? b = some o → b ∉ ex → ∃ o', h'.get? b = some o'
  tups : ∀ b xs, H b = some (.tup xs) → H' b = some (.tup xs)
  frzs : ∀ b o u, H b = some (.frz o u) → H' b = some (.frz o u)
  tbls : ∀ b ps, H b = some (.tbl ps) → ∃ more, H' b = some (.tbl (ps ++ more))
section
variable {fs fs' ex ex' : List Addr} {H H1 H2 : Hp} {h h1 h2 h' : Heap} {a x e : Addr} {o : HO}
theorem Un.any (u : Un fs ex H H1 h h1) {b : Addr} {ob : Obj} (q : h.get? b = some ob) (n : H b = none) (hx : b ∉ ex) : ∃ sl, h1.get? b = some { ob with slots := sl } := by
  by_cases hb : b ∈ fs
  · exact u.slot b ob q n hb hx
  · exact ⟨ob.slots, u.keep b ob q n hb hx⟩
theorem Un.kept (k : ∀ b u, h.get? b = some u → h'.get? b = some u) : Un fs ex H H h h' :=
  ⟨fun b ob q _ _ _ => k b ob q, fun b ob q _ _ _ => ⟨ob.slots, k b ob q⟩, fun _ _ _ n _ => n, fun b ob q _ => ⟨ob, k b ob q⟩, fun _ _ q => q, fun _ _ _ q => q, fun _ ps q => ⟨#[], by rw [q]; simp⟩⟩
theorem Un.refl : Un fs ex H H h h := Un.kept fun _ _ q => q
theorem Un.laid (k : ∀ b u, h.get? b = some u → h'.get? b = some u) (hp : h.objs.size ≤ a) (hn : H a = none) : Un fs ex H (upd H a o) h h' where
  keep := fun b u q _ _ _ => k b u q
  slot := fun b u q _ _ _ => ⟨u.slots, k b u q⟩
  free := fun b u q n _ => by rw [upd_ne (Nat.ne_of_lt (Nat.lt_of_lt_of_le (Heap.lt_size q) hp))]; exact n
  there := fun b u q _ => ⟨u, k b u q⟩
  tups := fun b xs q => by rw [upd_ne (ne_of_none q hn)]; exact q
  frzs := fun b u xs q => by rw [upd_ne (ne_of_none q hn)]; exact q
  tbls := fun b ps q => ⟨#[], by rw [upd_ne (ne_of_none q hn), q]; simp⟩
theorem Un.write (mu : Mut (H x)) (he : e = x ∨ H e = some (.own x)) (k : ∀ b u, b ≠ e → h.get? b = some u → h'.get? b = some u) (heo : ∃ u, h'.get? e = some u) : Un fs ex H (upd H x o) h h' := by
  have hx : ∀ b, H b = none → b ≠ x := fun b n z => by subst z; rw [n] at mu; exact mu
  have hb : ∀ b, H b = none → b ≠ e := fun b n z => by
    subst z
    rcases he with r | r
    · exact hx b n r
    · rw [n] at r; cases r
  have hm : ∀ b u, H b = some u → ¬ Mut (some u) → b ≠ x := fun b u q nm z => by subst z; rw [q] at mu; exact nm mu
  refine ⟨fun b u q n _ _ => k b u (hb b n) q, fun b u q n _ _ => ⟨u.slots, k b u (hb b n) q⟩, fun b u q n _ => by rw [upd_ne (hx b n)]; exact n, fun b u q _ => ?_,
    fun b xs q => by rw [upd_ne (hm b _ q fun z => z)]; exact q, fun b u xs q => by rw [upd_ne (hm b _ q fun z => z)]; exact q, fun b ps q => ⟨#[], by rw [upd_ne (hm b _ q fun z => z), q]; simp⟩⟩
  by_cases hbe : b = e
  · subst hbe; exact heo
  · exact ⟨u, k b u hbe q⟩
end
def trk (h : Heap) (H : Hp) : List Addr := (List.range h.objs.size).filter fun a => (H a).isSome
def hidT (h : Heap) (H : Hp) : Heap := PySem.W.hideAll h (trk h H)
theorem hidT_size (h : Heap) (H : Hp) : (hidT h H).objs.size = h.objs.size := PySem.W.hideAll_size _ _
theorem hidT_get {h : Heap} {H : Hp} {b : Addr} {o : Obj} (e : h.get? b = some o) (n : H b = none) : (hidT h H).get? b = some o :=
  PySem.W.hideAll_get _ e fun hm => by
    have q : (H b).isSome = true := (List.mem_filter.mp hm).2
    rw [n] at q; simp at q
theorem of_hidT {h : Heap} {H : Hp} {b : Addr} {o : Obj} (e : (hidT h H).get? b = some o) : h.get? b = some o ∧ H b = none := by
  have e' : h.get? b = some o := PySem.W.of_hideAll (trk h H) e
  refine ⟨e', ?_⟩
  cases q : H b with
  | none => rfl
  | some x =>
    have hm : b ∈ trk h H := List.mem_filter.mpr ⟨List.mem_range.mpr (Heap.lt_size e'), by simp [q]⟩
    have z : (hidT h H).get? b = none := PySem.W.hideAll_none (trk h H) hm
    rw [z] at e; cases e
end L2
namespace L2
open PySem PySem.Spec PyProof.Rows
structure Mod (K : PySem.W.Frag) (mg : Str → Option Value) (base : Heap) : Prop where
  kin : K.In base
  glob : base.Ns mainGlobals mg
  blt : ∃ mb, base.Ns builtinsNs mb ∧ ∀ x : Str, x ≠ "__name__" → mb x = bootBuiltins x
  nolimit : base.NoLimit
structure Cx where
  prog : Program
  w : World
  K : PySem.W.Frag
  mg : Str → Option Value
  base : Heap
  A : Around
  N : List Str
  s₀ : Shared
  H₀ : Hp
  env : Env
  outer : List Env
  stack : List Env
  ex : List Addr
  fn : Str → Bool
  calm : Bool
  pn : List (Addr × Obj)
  xe : Value → Shared → Prop
def frs (l : List Env) : List Addr := l.filterMap (·.frame)
abbrev Cx.fs (X : Cx) : List Addr := frs X.outer
def Vis (sc : Scope) (x : Str) : Prop := sc.names.lookup x = some .local ∨ sc.names.lookup x = some .cell ∨ sc.names.lookup x = some .free
def Loc (sc : Scope) (x : Str) : Prop := sc.names.lookup x = some .local ∨ sc.names.lookup x = some .cell
def Look (env : Env) (h : Heap) (m : Str → Option Value) (x : Str) (u : Value) : Prop :=
  (env.kindOf x = some .local ∧ m x = some u) ∨ ((env.kindOf x = some .cell ∨ env.kindOf x = some .free) ∧ ∃ c, env.cells.lookup x = some c ∧ h.IsCell c (some u))
structure Cx.Ok (X : Cx) : Prop where
  mod : Mod X.K X.mg X.base
  kind : X.env.scope.kind = .function
  glob : X.env.globals = mainGlobals
  blt : X.env.builtins = builtinsNs
  above : X.s₀.heap.objs.size ≤ X.env.locals
  inj : ∀ x y c, X.env.cells.lookup x = some c → X.env.cells.lookup y = some c → x = y
  has : ∀ x, (X.env.kindOf x = some .cell ∨ X.env.kindOf x = some .free) → ∃ c, X.env.cells.lookup x = some c
  cab : ∀ x c, X.fn x = true → X.env.cells.lookup x = some c → X.s₀.heap.objs.size ≤ c
  hd : X.calm = true → X.A.handled = none
  frames : X.A.frames = some X.stack
  stk : X.stack = X.outer ∨ (X.stack = X.env :: X.outer ∧ X.env.frame = some X.env.locals)
  exf : ∀ b ∈ X.ex, b ≠ X.env.locals ∧ ∀ x c, X.env.cells.lookup x = some c → c ≠ b
  bs : ∀ b o, X.base.get? b = some o → X.s₀.heap.get? b = some o ∧ X.H₀ b = none
  bsz : X.base.objs.size ≤ X.s₀.heap.objs.size
  noex : ∀ b o, X.base.get? b = some o → b ∉ X.ex
  exfs : ∀ b ∈ X.ex, b ∉ X.fs
  funs : X.s₀.heap.FunFrames X.base X.outer
  frf : ∀ b ∈ X.fs, X.H₀ b = none
structure Inv (X : Cx) (pins : List (Addr × Obj)) (σ : List (Option V)) (H : Hp) (s : Shared) : Prop where
  ok : X.Ok
  os : s.os = X.s₀.os
  bare : AllBare s.gens
  base : Un X.fs X.ex X.H₀ H X.s₀.heap s.heap
  loc : ∃ m, s.heap.Ns X.env.locals m ∧ ∀ (i : Nat) (x : Str) (v : V), X.N[i]? = some x → σ[i]? = some (some v) → Vis X.env.scope x → ∃ u, RelV v u ∧ Look X.env s.heap m x u
  cell : ∀ x c, X.env.cells.lookup x = some c → ∃ v, s.heap.IsCell c v
  free : H X.env.locals = none
  freeC : ∀ x c, X.env.cells.lookup x = some c → H c = none
  pin : ∀ p ∈ X.pn ++ pins, s.heap.get? p.1 = some p.2 ∧ H p.1 = none ∧ p.1 ≠ X.env.locals ∧ p.1 ∉ X.fs ∧ ∀ v, p.2.data ≠ .cell v
  hok : HOk X.prog X.w H s.heap
  len : σ.length = X.N.length
section
variable {X : Cx} {pins : List (Addr × Obj)} {σ : List (Option V)} {H H' : Hp} {s : Shared} {h' : Heap}
theorem Cx.Ok.nofr (ok : X.Ok) {b : Addr} {o : Obj} (e : X.base.get? b = some o) : b ∉ X.fs := fun hb => by
  have := (ok.funs.mem hb).1
  rw [e] at this; cases this
theorem Inv.bs (I : Inv X pins σ H s) : ∀ b o, X.base.get? b = some o → s.heap.get? b = some o ∧ H b = none := fun b o e =>
  ⟨I.base.keep b o (I.ok.bs b o e).1 (I.ok.bs b o e).2 (I.ok.nofr e) (I.ok.noex b o e), I.base.free b o (I.ok.bs b o e).1 (I.ok.bs b o e).2 (I.ok.noex b o e)⟩
theorem Inv.bk (I : Inv X pins σ H s) : ∀ b o, X.base.get? b = some o → s.heap.get? b = some o := fun b o e => (I.bs b o e).1
theorem Inv.mod (I : Inv X pins σ H s) : Mod X.K X.mg X.base := I.ok.mod
theorem Inv.kIn (I : Inv X pins σ H s) : X.K.In s.heap := I.ok.mod.kin.keeps I.bk
theorem Inv.fr (I : Inv X pins σ H s) : ∃ m, Fr X.base X.env.locals s.heap m :=
  let ⟨m, hn, _⟩ := I.loc
  ⟨m, hn, I.bk, Nat.le_trans I.ok.bsz I.ok.above⟩
theorem Inv.lt (I : Inv X pins σ H s) : X.env.locals < s.heap.objs.size := let ⟨_, hn, _⟩ := I.loc; hn.lt
theorem Inv.sz (I : Inv X pins σ H s) : X.s₀.heap.objs.size ≤ s.heap.objs.size := Nat.le_trans I.ok.above (Nat.le_of_lt I.lt)
theorem Inv.nofs (I : Inv X pins σ H s) {a : Addr} (h : s.heap.objs.size ≤ a) : a ∉ X.fs := fun hb => by
  obtain ⟨_, o, ho, _⟩ := I.ok.funs.mem hb
  exact absurd (Nat.lt_of_lt_of_le (Heap.lt_size ho) (Nat.le_trans I.sz h)) (Nat.lt_irrefl _)
theorem Inv.cne (I : Inv X pins σ H s) : ∀ x c, X.env.cells.lookup x = some c → c ≠ X.env.locals := fun x c e z => by
  obtain ⟨v, o, ho, hd⟩ := I.cell x c e
  obtain ⟨m, ⟨o', es, ep, ho', hd', _⟩, _⟩ := I.loc
  rw [z, ho'] at ho; cases ho; rw [hd'] at hd; cases hd
theorem Inv.funs (I : Inv X pins σ H s) : s.heap.FunFrames X.base X.outer := by
  have all : ∀ (l : List Env), (∀ b ∈ frs l, b ∈ X.fs) → X.s₀.heap.FunFrames X.base l → s.heap.FunFrames X.base l := by
    intro l
    induction l with
    | nil => intro _ _; trivial
    | cons env r ih =>
      intro hs hl
      obtain ⟨hk, ⟨L, o, hf, hn, ho, hd⟩, hr⟩ := hl
      have hL : L ∈ X.fs := hs L (by unfold frs; rw [List.filterMap_cons, hf]; exact List.mem_cons_self)
      obtain ⟨sl, e⟩ := I.base.slot L o ho (I.ok.frf L hL) hL fun z => I.ok.exfs L z hL
      exact ⟨hk, ⟨L, _, hf, hn, e, hd⟩, ih (fun b hb => hs b (by unfold frs; rw [List.filterMap_cons, hf]; exact List.mem_cons_of_mem _ hb)) hr⟩
  exact all X.outer (fun _ hb => hb) I.ok.funs
theorem Inv.stack (I : Inv X pins σ H s) : s.heap.FunFrames X.base X.stack := by
  rcases I.ok.stk with e | ⟨e, hf⟩
  · rw [e]; exact I.funs
  · rw [e]
    obtain ⟨m, hn, _⟩ := I.loc
    refine .cons (by rw [I.ok.kind]; decide) hf hn ?_ I.funs
    exact Heap.get?_none_of_le (Nat.le_trans I.ok.bsz I.ok.above)
theorem Inv.stkSub (I : Inv X pins σ H s) : ∀ b ∈ frs X.stack, b ∈ X.env.locals :: X.fs := fun b hb => by
  rcases I.ok.stk with e | ⟨e, hf⟩
  · rw [e] at hb; exact List.mem_cons_of_mem _ hb
  · rw [e] at hb
    unfold frs at hb
    rw [List.filterMap_cons, hf] at hb
    exact hb
theorem Inv.stkFree (I : Inv X pins σ H s) : ∀ b ∈ frs X.stack, H b = none := fun b hb => by
  rcases List.mem_cons.mp (I.stkSub b hb) with e | hb
  · rw [e]; exact I.free
  · obtain ⟨_, o, ho, _⟩ := I.ok.funs.mem hb
    exact I.base.free b o ho (I.ok.frf b hb) fun z => I.ok.exfs b z hb
theorem Inv.step {g' : Array GenState} {t' : Nat} {d' : Drawn} {ch : List Addr} (I : Inv X pins σ H s)
    (hch : ∀ b ∈ ch, (b ∈ X.ex ∨ X.s₀.heap.objs.size ≤ b) ∧ b ≠ X.env.locals ∧ (∀ x c, X.env.cells.lookup x = some c → c ≠ b) ∧ ∀ p ∈ X.pn ++ pins, p.1 ≠ b)
    (keep : ∀ b o, b ≠ X.env.locals → b ∉ X.fs → b ∉ ch → s.heap.get? b = some o → H b = none → h'.get? b = some o)
    (slot : ∀ b o, b ≠ X.env.locals → b ∈ X.fs → b ∉ ch → s.heap.get? b = some o → H b = none → ∃ sl, h'.get? b = some { o with slots := sl }) (free : ∀ b o, b ∉ ch → s.heap.get? b = some o → H b = none → H' b = none)
    (there : ∀ b o, b ∉ ch → s.heap.get? b = some o → ∃ o', h'.get? b = some o')
    (tups : ∀ b xs, H b = some (.tup xs) → H' b = some (.tup xs)) (frzs : ∀ b o u, H b = some (.frz o u) → H' b = some (.frz o u)) (tbls : ∀ b ps, H b = some (.tbl ps) → ∃ more, H' b = some (.tbl (ps ++ more)))
    (ns : ∀ m, s.heap.Ns X.env.locals m → h'.Ns X.env.locals m) (hok : HOk X.prog X.w H' h') (hg : AllBare g') :
    Inv X pins σ H' { s with heap := h', gens := g', drawn := d', toks := t' } := by
  have neL : ∀ b o, X.s₀.heap.get? b = some o → b ≠ X.env.locals := fun b o e => Nat.ne_of_lt (Nat.lt_of_lt_of_le (Heap.lt_size e) I.ok.above)
  have neC : ∀ b o, X.s₀.heap.get? b = some o → b ∉ X.ex → b ∉ ch := fun b o e hx hb => by
    rcases (hch b hb).1 with z | z
    · exact hx z
    · exact absurd (Nat.lt_of_lt_of_le (Heap.lt_size e) z) (Nat.lt_irrefl _)
  have cellK : ∀ x c, X.env.cells.lookup x = some c → ∀ v, s.heap.IsCell c v → h'.IsCell c v := fun x c e v ⟨o, ho, hd⟩ => by
    have nch : c ∉ ch := fun z => (hch c z).2.2.1 x c e rfl
    by_cases hc : c ∈ X.fs
    · obtain ⟨sl, q⟩ := slot c o (I.cne x c e) hc nch ho (I.freeC x c e)
      exact ⟨_, q, hd⟩
    · exact ⟨o, keep c o (I.cne x c e) hc nch ho (I.freeC x c e), hd⟩
  refine ⟨I.ok, I.os, hg, ⟨fun b o e n hb hx => ?_, fun b o e n hb hx => ?_, fun b o e n hx => ?_, fun b o e hx => ?_, fun b xs e => tups b xs (I.base.tups b xs e), fun b o xs e => frzs b o xs (I.base.frzs b o xs e), fun b ps e => ?_⟩, ?_, fun x c e => ?_, ?_, fun x c e => ?_, fun p hp => ?_, hok, I.len⟩
  · exact keep b o (neL b o e) hb (neC b o e hx) (I.base.keep b o e n hb hx) (I.base.free b o e n hx)
  · obtain ⟨sl, e1⟩ := I.base.slot b o e n hb hx
    obtain ⟨sl', e2⟩ := slot b _ (neL b o e) hb (neC b o e hx) e1 (I.base.free b o e n hx)
    exact ⟨sl', e2⟩
  · obtain ⟨o', e1⟩ := I.base.there b o e hx
    exact free b o' (neC b o e hx) e1 (I.base.free b o e n hx)
  · obtain ⟨o', e1⟩ := I.base.there b o e hx
    exact there b o' (neC b o e hx) e1
  · obtain ⟨m1, e1⟩ := I.base.tbls b ps e
    obtain ⟨m2, e2⟩ := tbls b _ e1
    exact ⟨m1 ++ m2, by rw [e2, Array.append_assoc]⟩
  · obtain ⟨m, hn, hl⟩ := I.loc
    refine ⟨m, ns m hn, fun i x v e1 e2 e3 => ?_⟩
    obtain ⟨u, r, l⟩ := hl i x v e1 e2 e3
    refine ⟨u, r, ?_⟩
    rcases l with l | ⟨k, c, e, z⟩
    · exact .inl l
    · exact .inr ⟨k, c, e, cellK x c e _ z⟩
  · obtain ⟨v, z⟩ := I.cell x c e
    exact ⟨v, cellK x c e v z⟩
  · obtain ⟨m, ⟨o, _, _, ho, _⟩, _⟩ := I.loc
    exact free _ o (fun z => (hch _ z).2.1 rfl) ho I.free
  · obtain ⟨v, o, ho, hd⟩ := I.cell x c e
    exact free c o (fun z => (hch c z).2.2.1 x c e rfl) ho (I.freeC x c e)
  · obtain ⟨e, n, ne, nf, d⟩ := I.pin p hp
    have nch : p.1 ∉ ch := fun z => (hch p.1 z).2.2.2 p hp rfl
    exact ⟨keep p.1 p.2 ne nf nch e n, free p.1 p.2 nch e n, ne, nf, d⟩
theorem Inv.un {t' : Nat} (I : Inv X pins σ H s) (u : Un X.fs [] H H' s.heap h') (hok : HOk X.prog X.w H' h') : Inv X pins σ H' { s with heap := h', toks := t' } := by
  obtain ⟨m, ⟨o, es, ep, ho, r⟩, _⟩ := id I.loc
  obtain ⟨sl, hL⟩ := u.any ho I.free (by simp)
  exact I.step (g' := s.gens) (d' := s.drawn) (ch := []) (fun _ z => nomatch z) (fun b o _ hb _ e n => u.keep b o e n hb (by simp)) (fun b o _ hb _ e n => u.slot b o e n hb (by simp)) (fun b o _ e n => u.free b o e n (by simp)) (fun b o _ e => u.there b o e (by simp)) u.tups u.frzs u.tbls (fun m' hm => by
    obtain ⟨o', es', ep', ho', r'⟩ := hm
    rw [ho] at ho'; cases ho'
    exact ⟨_, es', ep', hL, r'⟩) hok I.bare
theorem Inv.call {g' : Array GenState} {t' : Nat} {d' : Drawn} {ch : List Addr} (I : Inv X pins σ H s) (u : Un (frs X.stack) ch H H' s.heap h') (hok : HOk X.prog X.w H' h') (hg : AllBare g')
    (hch : ∀ b ∈ ch, (b ∈ X.ex ∨ X.s₀.heap.objs.size ≤ b) ∧ b ≠ X.env.locals ∧ (∀ x c, X.env.cells.lookup x = some c → c ≠ b) ∧ ∀ p ∈ X.pn ++ pins, p.1 ≠ b) :
    Inv X pins σ H' { s with heap := h', gens := g', drawn := d', toks := t' } := by
  obtain ⟨m, ⟨o, es, ep, ho, r⟩, _⟩ := id I.loc
  obtain ⟨sl, hL⟩ := u.any ho I.free fun z => (hch _ z).2.1 rfl
  exact I.step (ch := ch) hch (fun b o hL hb hc e n => u.keep b o e n (fun z => (List.mem_cons.mp (I.stkSub b z)).elim hL hb) hc) (fun b o _ _ hc e n => u.any e n hc) (fun b o hc e n => u.free b o e n hc) (fun b o hc e => u.there b o e hc) u.tups u.frzs u.tbls (fun m' hm => by
    obtain ⟨o', es', ep', ho', r'⟩ := hm
    rw [ho] at ho'; cases ho'
    exact ⟨_, es', ep', hL, r'⟩) hok hg
theorem Inv.turned {t' : Nat} {it : Addr} (I : Inv X pins σ H s) (k : ∀ b o, b ≠ it → s.heap.get? b = some o → h'.get? b = some o) (hn : H it = none) (hL : it ≠ X.env.locals)
    (h1 : it ∈ X.ex ∨ X.s₀.heap.objs.size ≤ it) (h2 : ∀ x c, X.env.cells.lookup x = some c → c ≠ it) (h3 : ∀ p ∈ X.pn ++ pins, p.1 ≠ it) : Inv X pins σ H { s with heap := h', toks := t' } := by
  have nit : ∀ b u, H b = some u → b ≠ it := fun b u e z => by rw [z, hn] at e; cases e
  refine I.step (g' := s.gens) (d' := s.drawn) (ch := [it]) (fun b hb => ?_) (fun b o _ _ hc e _ => k b o (fun z => hc (by simp [z])) e) (fun b o _ _ hc e _ => ⟨o.slots, k b o (fun z => hc (by simp [z])) e⟩) (fun _ _ _ _ n => n)
    (fun b o hc e => ⟨o, k b o (fun z => hc (by simp [z])) e⟩) (fun _ _ e => e) (fun _ _ _ e => e) (fun b ps e => ⟨#[], by rw [e]; simp⟩) (fun m hm => ?_) (fun b u e => ?_) I.bare
  · have e : b = it := by simpa using hb
    subst e
    exact ⟨h1, hL, h2, h3⟩
  · obtain ⟨o, es, ep, ho, r⟩ := hm
    exact ⟨o, es, ep, k _ o (Ne.symm hL) ho, r⟩
  · refine (I.hok b u e).stay (fun c v hc q => k c v ?_ q) (fun _ q => q) fun _ _ q => q
    rcases hc with z | z
    · rw [z]; exact nit b u e
    · exact nit c _ z
theorem Inv.tok (I : Inv X pins σ H s) (t : Nat) : Inv X pins σ H { s with toks := t } := I.un (h' := s.heap) (t' := t) Un.refl I.hok
theorem Inv.kept {t' : Nat} (I : Inv X pins σ H s) (k : ∀ b u, s.heap.get? b = some u → h'.get? b = some u) : Inv X pins σ H { s with heap := h', toks := t' } := I.un (Un.kept k) (I.hok.kept k)
theorem Inv.laid {a : Addr} {o : HO} {t' : Nat} (I : Inv X pins σ H s) (k : ∀ b u, s.heap.get? b = some u → h'.get? b = some u) (hp : s.heap.objs.size ≤ a) (new : ObjOk X.prog X.w (upd H a o) h' a o) :
    Inv X pins σ (upd H a o) { s with heap := h', toks := t' } := I.un (Un.laid k hp (I.hok.fresh hp)) (I.hok.laid k hp new)
theorem Inv.write {x e : Addr} {o : HO} {t' : Nat} (I : Inv X pins σ H s) (mu : Mut (H x)) (he : e = x ∨ H e = some (.own x)) (k : ∀ b u, b ≠ e → s.heap.get? b = some u → h'.get? b = some u) (heo : ∃ u, h'.get? e = some u)
    (new : ObjOk X.prog X.w (upd H x o) h' x o) : Inv X pins σ (upd H x o) { s with heap := h', toks := t' } := I.un (Un.write mu he k heo) (I.hok.write mu he k heo new)
theorem Inv.weak {σ' : List (Option V)} (I : Inv X pins σ H s) (hl : σ'.length = σ.length) (w : ∀ (i : Nat) v, σ'[i]? = some (some v) → σ[i]? = some (some v)) : Inv X pins σ' H s :=
  ⟨I.ok, I.os, I.bare, I.base, let ⟨m, hn, hl'⟩ := I.loc; ⟨m, hn, fun i x v e1 e2 e3 => hl' i x v e1 (w i v e2) e3⟩, I.cell, I.free, I.freeC, I.pin, I.hok, hl.trans I.len⟩
theorem Inv.pins_of {pins' : List (Addr × Obj)} (I : Inv X pins σ H s) (h : ∀ p ∈ pins', s.heap.get? p.1 = some p.2 ∧ H p.1 = none ∧ p.1 ≠ X.env.locals ∧ p.1 ∉ X.fs ∧ ∀ v, p.2.data ≠ .cell v) : Inv X pins' σ H s :=
  ⟨I.ok, I.os, I.bare, I.base, I.loc, I.cell, I.free, I.freeC, fun p hp => (List.mem_append.mp hp).elim (fun z => I.pin p (List.mem_append_left _ z)) (h p), I.hok, I.len⟩
theorem nodup_ix {N : List Str} (hN : N.Nodup) {i j : Nat} {x : Str} (a : N[i]? = some x) (b : N[j]? = some x) : i = j := by
  obtain ⟨h1, e1⟩ := List.getElem?_eq_some_iff.mp a
  obtain ⟨h2, e2⟩ := List.getElem?_eq_some_iff.mp b
  exact (List.getElem_inj hN).mp (e1.trans e2.symm)
theorem store_ok2 {M : Model} {A : Around} {E : Value → Shared → Prop} {i : Nat} {x : Str} {v : V} {u : Value} {Q : Unit → Shared → Prop} (I : Inv X pins σ H s) (hN : X.N.Nodup) (hi : X.N[i]? = some x) (hx : Loc X.env.scope x) (r : RelV v u)
    (h : ∀ s', Inv X pins (σ.set i (some v)) H s' → (∃ a, Heap.SameBut a s.heap s'.heap ∧ (a = X.env.locals ∨ X.env.cells.lookup x = some a)) → Q () s') (hf : X.fn x = true ∨ X.env.scope.names.lookup x = some .local := by first | exact .inl rfl | exact .inr rfl | assumption) : wpAny M A (storeName X.env x u) Q E s := by
  obtain ⟨m, hn, hl⟩ := id I.loc
  have hcls : (X.env.scope.kind == .class || (X.env.scope.kind == .module && X.env.locals != X.env.globals)) = false := by rw [I.ok.kind]; rfl
  have hiσ : i < σ.length := by rw [I.len]; exact (List.getElem?_eq_some_iff.mp hi).1
  have cne := I.cne
  have tracked : ∀ {a : Addr} {h' : Heap}, (∃ o, s.heap.get? a = some o ∧ H a = none) → Heap.SameBut a s.heap h' → HOk X.prog X.w H h' := fun {a h'} ha hs b ob e => by
    obtain ⟨_, _, hfree⟩ := ha
    refine (I.hok b ob e).stay (fun c w' hc q => (hs.2 c ?_).trans q) (fun _ q => q) fun _ _ q => q
    rintro rfl
    rcases hc with rfl | hc
    · rw [hfree] at e; cases e
    · rw [hfree] at hc; cases hc
  rcases hx with hk | hk
  · refine wpAny_storeName_local hk hn (fun h' hn' hs => ?_) hcls
    obtain ⟨oL, _, _, hoL, _⟩ := id hn
    refine h _ ⟨I.ok, I.os, I.bare, ⟨fun b o e n hb hx => ?_, fun b o e n hb hx => ?_, I.base.free, fun b o e hx => ?_, I.base.tups, I.base.frzs, I.base.tbls⟩, ⟨_, hn', fun j y v' e1 e2 e3 => ?_⟩, fun y c e => ?_, I.free, I.freeC, fun p hp => ?_, tracked ⟨oL, hoL, I.free⟩ hs, by simpa using I.len⟩ ⟨_, hs, .inl rfl⟩
    · exact (hs.2 b (Nat.ne_of_lt (Nat.lt_of_lt_of_le (Heap.lt_size e) I.ok.above))).trans (I.base.keep b o e n hb hx)
    · obtain ⟨sl, e1⟩ := I.base.slot b o e n hb hx
      exact ⟨sl, (hs.2 b (Nat.ne_of_lt (Nat.lt_of_lt_of_le (Heap.lt_size e) I.ok.above))).trans e1⟩
    · obtain ⟨o', e1⟩ := I.base.there b o e hx
      exact ⟨o', (hs.2 b (Nat.ne_of_lt (Nat.lt_of_lt_of_le (Heap.lt_size e) I.ok.above))).trans e1⟩
    · by_cases hj : j = i
      · subst hj
        rw [hi] at e1; cases e1
        rw [List.getElem?_set_self hiσ] at e2
        cases e2
        exact ⟨u, r, .inl ⟨hk, by simp⟩⟩
      · rw [List.getElem?_set_ne (Ne.symm hj)] at e2
        obtain ⟨u', r', q⟩ := hl j y v' e1 e2 e3
        refine ⟨u', r', ?_⟩
        rcases q with ⟨k, e⟩ | ⟨k, c, e, z⟩
        · refine .inl ⟨k, ?_⟩
          have : y ≠ x := fun e => hj (nodup_ix hN e1 (e ▸ hi))
          simp [this, e]
        · exact .inr ⟨k, c, e, z.sameBut hs (cne y c e)⟩
    · obtain ⟨w', z⟩ := I.cell y c e
      exact ⟨w', z.sameBut hs (cne y c e)⟩
    · obtain ⟨e, n, ne, nf, d⟩ := I.pin p hp
      exact ⟨(hs.2 p.1 ne).trans e, n, ne, nf, d⟩
  · have hfn : X.fn x = true := by
      rcases hf with z | z
      · exact z
      · rw [z] at hk; cases hk
    obtain ⟨c, hc⟩ := I.ok.has x (.inl hk)
    obtain ⟨w', z⟩ := I.cell x c hc
    refine wpAny_storeName_cell I.ok.kind hk hc z (fun h' hc' hs => ?_)
    obtain ⟨oc, hoc, hocd⟩ := id z
    refine h { s with heap := h' } ⟨I.ok, I.os, I.bare, ⟨fun b o e n hb hx => ?_, fun b o e n hb hx => ?_, I.base.free, fun b o e hx => ?_, I.base.tups, I.base.frzs, I.base.tbls⟩, ⟨m, hn.sameBut hs (Ne.symm (cne x c hc)), fun j y v' e1 e2 e3 => ?_⟩, fun y c' e => ?_, I.free, I.freeC, fun p hp => ?_, tracked ⟨oc, hoc, I.freeC x c hc⟩ hs, by simpa using I.len⟩ ⟨c, hs, .inr hc⟩
    · exact (hs.2 b (Nat.ne_of_lt (Nat.lt_of_lt_of_le (Heap.lt_size e) (I.ok.cab x c hfn hc)))).trans (I.base.keep b o e n hb hx)
    · obtain ⟨sl, e1⟩ := I.base.slot b o e n hb hx
      exact ⟨sl, (hs.2 b (Nat.ne_of_lt (Nat.lt_of_lt_of_le (Heap.lt_size e) (I.ok.cab x c hfn hc)))).trans e1⟩
    · obtain ⟨o', e1⟩ := I.base.there b o e hx
      exact ⟨o', (hs.2 b (Nat.ne_of_lt (Nat.lt_of_lt_of_le (Heap.lt_size e) (I.ok.cab x c hfn hc)))).trans e1⟩
    · by_cases hj : j = i
      · subst hj
        rw [hi] at e1; cases e1
        rw [List.getElem?_set_self hiσ] at e2
        cases e2
        exact ⟨u, r, .inr ⟨.inl hk, c, hc, hc'⟩⟩
      · rw [List.getElem?_set_ne (Ne.symm hj)] at e2
        obtain ⟨u', r', q⟩ := hl j y v' e1 e2 e3
        refine ⟨u', r', ?_⟩
        rcases q with q | ⟨k, c', e, z'⟩
        · exact .inl q
        · refine .inr ⟨k, c', e, z'.sameBut hs ?_⟩
          rintro rfl
          exact hj (nodup_ix hN e1 (I.ok.inj _ _ _ e hc ▸ hi))
    · by_cases hcc : c' = c
      · subst hcc; exact ⟨_, hc'⟩
      · obtain ⟨w2, z2⟩ := I.cell y c' e
        exact ⟨w2, z2.sameBut hs hcc⟩
    · obtain ⟨e, n, ne, nf, d⟩ := I.pin p hp
      refine ⟨(hs.2 p.1 ?_).trans e, n, ne, nf, d⟩
      intro q
      rw [q, hoc] at e
      have q' : oc = p.2 := Option.some.inj e
      exact d w' (by rw [← q']; exact hocd)
theorem store_ok {M : Model} {A : Around} {E : Value → Shared → Prop} {i : Nat} {x : Str} {v : V} {u : Value} {Q : Unit → Shared → Prop} (I : Inv X pins σ H s) (hN : X.N.Nodup) (hi : X.N[i]? = some x) (hx : Loc X.env.scope x) (r : RelV v u)
    (h : ∀ s', Inv X pins (σ.set i (some v)) H s' → Q () s') (hf : X.fn x = true ∨ X.env.scope.names.lookup x = some .local := by first | exact .inl rfl | exact .inr rfl | assumption) : wpAny M A (storeName X.env x u) Q E s :=
  store_ok2 I hN hi hx r (fun s' I' _ => h s' I') hf
theorem Inv.call' {s' : Shared} {ch : List Addr} (I : Inv X pins σ H s) (ho : s'.os = s.os) (u : Un (frs X.stack) ch H H' s.heap s'.heap) (hok : HOk X.prog X.w H' s'.heap) (hg : AllBare s'.gens)
    (hch : ∀ b ∈ ch, (b ∈ X.ex ∨ X.s₀.heap.objs.size ≤ b) ∧ b ≠ X.env.locals ∧ (∀ x c, X.env.cells.lookup x = some c → c ≠ b) ∧ ∀ p ∈ X.pn ++ pins, p.1 ≠ b) : Inv X pins σ H' s' := by
  obtain ⟨h', g', d', t', o'⟩ := s'
  have e : o' = s.os := ho
  subst e
  exact I.call (g' := g') (t' := t') (d' := d') u hok hg hch
end
abbrev XK := Value → Option Addr → Hp → Prop
abbrev St := List (Option V)
abbrev VK := V → Hp → Prop
abbrev TE := St → Hp → VK → Prop
abbrev TT := St → Hp → (Bool → Hp → Prop) → Prop
abbrev TA := St → Hp → (List V → Hp → Prop) → Prop
structure Ends where
  nx : St → Hp → Prop
  rt : VK
  bk : St → Hp → Prop := fun _ _ => False
  ct : St → Hp → Prop := fun _ _ => False
abbrev TS := Ends → St → Hp → Prop
def EP (X : Cx) (pins : List (Addr × Obj)) (σ : St) (Q : VK) (u : Value) (s' : Shared) : Prop := ∃ v H', Inv X pins σ H' s' ∧ RelV v u ∧ Q v H'
def TP (X : Cx) (pins : List (Addr × Obj)) (σ : St) (Q : Bool → Hp → Prop) (b : Bool) (s' : Shared) : Prop := ∃ H', Inv X pins σ H' s' ∧ Q b H'
def AP (X : Cx) (pins : List (Addr × Obj)) (σ : St) (Q : List V → Hp → Prop) (us : List Value) (s' : Shared) : Prop := ∃ vs H', Inv X pins σ H' s' ∧ Vals vs us ∧ Q vs H'
def SP (X : Cx) (pins : List (Addr × Obj)) (D : Ends) (f : Flow) (s' : Shared) : Prop :=
  match f with
  | .next => ∃ σ' H', Inv X pins σ' H' s' ∧ D.nx σ' H'
  | .brk => ∃ σ' H', Inv X pins σ' H' s' ∧ D.bk σ' H'
  | .cont => ∃ σ' H', Inv X pins σ' H' s' ∧ D.ct σ' H'
  | .ret u => ∃ v σ' H', Inv X pins σ' H' s' ∧ RelV v u ∧ D.rt v H'
def PE (X : Cx) (e : Expr) (t : TE) : Prop :=
  ∀ (pins : List (Addr × Obj)) (s : Shared) (σ : St) (H : Hp) (Q : VK), Inv X pins σ H s → t σ H Q → wpAny (model X.prog X.w) X.A (eval e X.env) (EP X pins σ Q) X.xe s
def PT (X : Cx) (e : Expr) (t : TT) : Prop :=
  ∀ (pins : List (Addr × Obj)) (s : Shared) (σ : St) (H : Hp) (Q : Bool → Hp → Prop), Inv X pins σ H s → t σ H Q → wpAny (model X.prog X.w) X.A (isTrue e X.env (eval e X.env)) (TP X pins σ Q) X.xe s
def PW (X : Cx) (e : Expr) (t : TT) : Prop :=
  ∀ (whole : Sem Value) (pins : List (Addr × Obj)) (s : Shared) (σ : St) (H : Hp) (Q : Bool → Hp → Prop), Inv X pins σ H s → t σ H Q → wpAny (model X.prog X.w) X.A (isTrue e X.env whole) (TP X pins σ Q) X.xe s
theorem PW.pt {X : Cx} {e : Expr} {t : TT} (h : PW X e t) : PT X e t := h _
def PA (X : Cx) (es : List Expr) (t : TA) : Prop :=
  ∀ (pos : Pos) (pins : List (Addr × Obj)) (s : Shared) (σ : St) (H : Hp) (Q : List V → Hp → Prop), Inv X pins σ H s → t σ H Q → wpAny (model X.prog X.w) X.A (spliced (backTo pos (starEach es X.env))) (AP X pins σ Q) X.xe s
def PS (X : Cx) (st : Stmt) (t : TS) : Prop :=
  ∀ (pins : List (Addr × Obj)) (s : Shared) (σ : St) (H : Hp) (D : Ends), Inv X pins σ H s → t D σ H → wpAny (model X.prog X.w) X.A (exec st X.env) (SP X pins D) X.xe s
def PSs (X : Cx) (st : List Stmt) (t : TS) : Prop :=
  ∀ (pins : List (Addr × Obj)) (s : Shared) (σ : St) (H : Hp) (D : Ends), Inv X pins σ H s → t D σ H → wpAny (model X.prog X.w) X.A (execs st X.env) (SP X pins D) X.xe s
theorem thn {α : Type} {t : Sem α} {Q Q' : α → Shared → Prop} {M : Model} {A : Around} {E : Value → Shared → Prop} {s : Shared} (h : wpAny M A t Q E s) (hQ : ∀ a s, Q a s → Q' a s) : wpAny M A t Q' E s := wpAny_mono h hQ fun _ _ x => x
end L2
namespace L2
open PySem PySem.Spec PyProof.Rows
section
variable {X : Cx}
theorem bin {a b : Expr} {ta tb : TE} (ha : PE X a ta) (hb : PE X b tb) {pins : List (Addr × Obj)} {s : Shared} {σ : St} {H : Hp} {R : V → V → Hp → Prop} (I : Inv X pins σ H s) (h : ta σ H fun x H1 => tb σ H1 fun y H2 => R x y H2)
    {α : Type} {Q : α → Shared → Prop} {f : Value → Value → Sem α}
    (hf : ∀ v u s2 x y H2, Inv X pins σ H2 s2 → RelV x v → RelV y u → R x y H2 → wpAny (model X.prog X.w) X.A (f v u) Q X.xe s2) :
    wpAny (model X.prog X.w) X.A (eval a X.env) (fun v s₁ => wpAny (model X.prog X.w) X.A (eval b X.env) (fun u s₂ => wpAny (model X.prog X.w) X.A (f v u) Q X.xe s₂) X.xe s₁) X.xe s := by
  refine thn (ha pins s σ H _ I h) fun v s1 ⟨x, H1, I1, r1, q1⟩ => ?_
  refine thn (hb pins s1 σ H1 _ I1 q1) fun u s2 ⟨y, H2, I2, r2, q2⟩ => ?_
  exact hf v u s2 x y H2 I2 r1 r2 q2
def tVar (i : Nat) : TE := fun σ H Q => ∃ v, σ[i]? = some (some v) ∧ Q v H
def tC (v : V) : TE := fun _ H Q => Q v H
theorem pe_var {i : Nat} {x : Str} {pos : Pos} (hN : X.N[i]? = some x) (hv : Vis X.env.scope x) (hd : (x == ("__debug__" : Str)) = false := by decide) (hcd : (x == ("__classdict__" : Str)) = false := by decide) : PE X (.Name x pos) (tVar i) := by
  intro pins s σ H Q I h
  obtain ⟨v, e, h⟩ := h
  obtain ⟨m, hn, hl⟩ := I.loc
  obtain ⟨u, r, l⟩ := hl i x v hN e hv
  have fin : EP X pins σ Q u s := ⟨v, H, I, r, h⟩
  rcases l with ⟨hk, hm⟩ | ⟨hk, c, hc, hcell⟩
  · exact wpAny_Name (wpAny_loadName_local I.ok.kind hk hn hm fin) hd
  · rcases hk with hk | hk
    · exact wpAny_Name (wpAny_loadName_cell I.ok.kind hk hc hcell fin) hd
    · exact wpAny_Name (wpAny_loadName_free I.ok.kind hk hc hcell fin hcd) hd
theorem pe_int {i j pos} : PE X (.Constant (.int i) j pos) (tC (.int i)) := fun _ _ _ H _ I h => wpAny_Constant_int ⟨.int i, H, I.tok _, ⟨_, rfl⟩, h⟩
theorem pe_bl {b j pos} : PE X (.Constant (.bool b) j pos) (tC (.bl b)) := fun _ _ _ H _ I h => Constant_bool ⟨.bl b, H, I, rfl, h⟩
theorem pe_non {j pos} : PE X (.Constant .none j pos) (tC .non) := fun _ _ _ H _ I h => Constant_none ⟨.non, H, I, rfl, h⟩
theorem pe_str {x j pos} : PE X (.Constant (.str x) j pos) (tC (.str x)) := fun _ _ _ H _ I h => Calls.Constant_str ⟨.str x, H, I.tok _, ⟨_, rfl⟩, h⟩
def Gl (X : Cx) (x : Str) : Prop := X.env.kindOf x = some .globalImplicit
theorem ld_glob {E : Value → Shared → Prop} {pins : List (Addr × Obj)} {s : Shared} {σ : St} {H : Hp} {x : Str} {u : Value} {pos : Pos} {Q : Value → Shared → Prop} (I : Inv X pins σ H s) (hg : Gl X x) (hm : X.mg x = some u) (h : Q u s)
    (hd : (x == ("__debug__" : Str)) = false := by decide) : wpAny (model X.prog X.w) X.A (eval (.Name x pos) X.env) Q E s :=
  Calls.Name_function_global I.ok.kind hg (Calls.loadGlobal_global (by rw [I.ok.glob]; exact I.mod.glob.keeps I.bk) hm h) hd
theorem ld_blt {E : Value → Shared → Prop} {pins : List (Addr × Obj)} {s : Shared} {σ : St} {H : Hp} {x : Str} {u : Value} {pos : Pos} {Q : Value → Shared → Prop} (I : Inv X pins σ H s) (hg : Gl X x) (hm : X.mg x = none) (hv : bootBuiltins x = some u) (h : Q u s)
    (hn : x ≠ "__name__" := by decide) (hd : (x == ("__debug__" : Str)) = false := by decide) : wpAny (model X.prog X.w) X.A (eval (.Name x pos) X.env) Q E s := by
  obtain ⟨mb, h1, h2⟩ := I.mod.blt
  exact Calls.Name_function_global I.ok.kind hg (Calls.loadGlobal_builtin (by rw [I.ok.glob]; exact I.mod.glob.keeps I.bk) hm (by rw [I.ok.blt]; exact h1.keeps I.bk) ((h2 x hn).trans hv) h) hd
theorem pe_glob {x : Str} {v : V} {u : Value} {pos : Pos} (hg : Gl X x) (hm : X.mg x = some u) (r : RelV v u) (hd : (x == ("__debug__" : Str)) = false := by decide) : PE X (.Name x pos) (tC v) :=
  fun _ _ _ H _ I h => ld_glob I hg hm ⟨v, H, I, r, h⟩ hd
variable {a b : Expr} {ta tb : TE} {pos : Pos}
def PC (X : Cx) (op : CmpOp) (a b : Expr) (t : TE) : Prop :=
  ∀ (pins : List (Addr × Obj)) (s : Shared) (σ : St) (H : Hp) (Q : VK), Inv X pins σ H s → t σ H Q →
    wpAny (model X.prog X.w) X.A (eval a X.env) (fun v s₁ => wpAny (model X.prog X.w) X.A (eval b X.env) (fun u s₂ => wpAny (model X.prog X.w) X.A (compareOp op v u) (EP X pins σ Q) X.xe s₂) X.xe s₁) X.xe s
def tB (t : TE) : TT := fun σ H Q => t σ H fun x H1 => ∃ c, x = .bl c ∧ Q c H1
theorem pt_cmp {op : CmpOp} {t : TE} (h : PC X op a b t) (h1 : behindInMarks op b = false := by first | exact nobehind _ (by decide) (by decide) | rfl) : PT X (.Compare a [op] [b] pos) (tB t) := by
  intro pins s σ H Q I hw
  refine wpAny_isTrue_Compare1 (thn (h pins s σ H _ I hw) fun v s1 h1 => thn h1 fun u s2 h2 => thn h2 fun c s3 ⟨x, H1, I1, r1, q1⟩ => ?_) h1
  obtain ⟨d, rfl, q⟩ := q1
  cases r1
  exact wpAny_truthy_bool ⟨H1, I1, q⟩
theorem pt_val {e : Expr} {t : TE} (h : PE X e t) (he : ∀ whole, isTrue e X.env whole = (do let v ← whole; standAt e.pos; holding [v] (truthy v)) := by intro _; rfl) : PT X e (tB t) := by
  intro pins s σ H Q I hw
  refine isTrue_plain (thn (h pins s σ H _ I hw) fun v s1 ⟨x, H1, I1, r1, q1⟩ => ?_) (he _)
  obtain ⟨d, rfl, q⟩ := q1
  cases r1
  exact wpAny_truthy_bool ⟨H1, I1, q⟩
variable {tA tB' : TT} {rest : List Expr}
def tAnd (t u : TT) : TT := fun σ H Q => t σ H fun c H1 => if c = true then u σ H1 Q else Q false H1
def tOr (t u : TT) : TT := fun σ H Q => t σ H fun c H1 => if c = true then Q true H1 else u σ H1 Q
def tNot (t : TT) : TT := fun σ H Q => t σ H fun c H1 => Q (!c) H1
theorem pw_and1 (ha : PT X a tA) : PW X (.BoolOp .And [a] pos) tA := by
  intro wh pins s σ H Q I h
  refine isTrue_and (thn (ha pins s σ H Q I h) fun c s1 e => ?_)
  cases c with
  | true => exact isTrue_and_nil e
  | false => exact e
theorem pw_or1 (ha : PT X a tA) : PW X (.BoolOp .Or [a] pos) tA := by
  intro wh pins s σ H Q I h
  refine isTrue_or (thn (ha pins s σ H Q I h) fun c s1 e => ?_)
  cases c with
  | false => exact isTrue_or_nil e
  | true => exact e
theorem pw_and (ha : PT X a tA) (hb : PW X (.BoolOp .And (b :: rest) pos) tB') : PW X (.BoolOp .And (a :: b :: rest) pos) (tAnd tA tB') := by
  intro wh pins s σ H Q I h
  refine isTrue_and (thn (ha pins s σ H _ I h) fun c s1 ⟨H1, I1, q1⟩ => ?_)
  cases c with
  | true => exact hb wh pins s1 σ H1 Q I1 q1
  | false => exact ⟨H1, I1, q1⟩
theorem pw_or (ha : PT X a tA) (hb : PW X (.BoolOp .Or (b :: rest) pos) tB') : PW X (.BoolOp .Or (a :: b :: rest) pos) (tOr tA tB') := by
  intro wh pins s σ H Q I h
  refine isTrue_or (thn (ha pins s σ H _ I h) fun c s1 ⟨H1, I1, q1⟩ => ?_)
  cases c with
  | true => exact ⟨H1, I1, q1⟩
  | false => exact hb wh pins s1 σ H1 Q I1 q1
theorem pt_not (ha : PT X a tA) : PT X (.UnaryOp .Not a pos) (tNot tA) := by
  intro pins s σ H Q I h
  exact isTrue_not (ha pins s σ H (fun c H1 => Q (!c) H1) I h)
def tOrV (ta tb : TE) : TE := fun σ H Q => ta σ H fun x H1 => ∃ c, x = .bl c ∧ if c = true then Q (.bl true) H1 else tb σ H1 Q
theorem pe_one {op} {t : TE} (h : PE X a t) : PE X (.BoolOp op [a] pos) t := fun pins s σ H Q I hw => BoolOp_one (h pins s σ H Q I hw)
theorem pe_or (ha : PE X a ta) (hb : PE X (.BoolOp .Or (b :: rest) pos) tb) : PE X (.BoolOp .Or (a :: b :: rest) pos) (tOrV ta tb) := by
  intro pins s σ H Q I h
  refine BoolOp_or (thn (ha pins s σ H _ I h) fun v s1 ⟨x, H1, I1, r1, q1⟩ => ?_)
  obtain ⟨c, rfl, q1⟩ := q1
  cases r1
  refine wpAny_truthy_bool ?_
  cases c with
  | false => exact hb pins s1 σ H1 Q I1 q1
  | true => exact ⟨.bl true, H1, I1, rfl, q1⟩
def tIf (t : TT) (ta tb : TE) : TE := fun σ H Q => t σ H fun c H1 => if c = true then ta σ H1 Q else tb σ H1 Q
theorem pe_ifExp {c : Expr} (hc : PT X c tA) (ha : PE X a ta) (hb : PE X b tb) : PE X (.IfExp c a b pos) (tIf tA ta tb) := by
  intro pins s σ H Q I h
  refine wpAny_IfExp (thn (hc pins s σ H _ I h) fun d s1 ⟨H1, I1, q1⟩ => ?_)
  cases d with
  | true => exact ha pins s1 σ H1 Q I1 q1
  | false => exact hb pins s1 σ H1 Q I1 q1
end
end L2
namespace L2
open PySem PySem.Spec PyProof.Rows
def SqL (K : PySem.W.Frag) (H : Hp) (a : Addr) (xs : List V) : Prop :=
  Rd H a (.lst xs) ∨
    ∃ (o : Obj) (its : Array Value) (n : Nat), K.lookup a = some o ∧ o.cls = .type "list" ∧ o.dict = none ∧ o.data = .seq its n ∧ its.size ≤ sizeLine ∧ Vals xs its.toList
def SqT (K : PySem.W.Frag) (H : Hp) (a : Addr) (xs : List V) : Prop :=
  Rd H a (.tup xs) ∨
    ∃ (o : Obj) (its : Array Value) (n : Nat), K.lookup a = some o ∧ o.cls = .type "tuple" ∧ o.data = .seq its n ∧ its.size ≤ sizeLine ∧ Vals xs its.toList
def absV : Value → Option V
  | .none => some .non
  | .bool b => some (.bl b)
  | .int i _ => some (.int i)
  | .str x _ => some (.str x)
  | .bytes b _ => some (.byt b)
  | .float b _ => some (.flt b)
  | .ref a => some (.ref a)
  | .type n => some (.ty n)
  | _ => none
theorem RelV.abs {x : V} {u : Value} (r : RelV x u) : absV u = some x := by
  cases x with
  | non => cases r; rfl
  | bl _ => cases r; rfl
  | int _ => obtain ⟨t, rfl⟩ := r; rfl
  | str _ => obtain ⟨t, rfl⟩ := r; rfl
  | byt _ => obtain ⟨t, rfl⟩ := r; rfl
  | flt _ => obtain ⟨t, rfl⟩ := r; rfl
  | ref _ => cases r; rfl
  | ty _ => cases r; rfl
theorem RelV.inj {x y : V} {u : Value} (r : RelV x u) (q : RelV y u) : x = y := Option.some.inj (r.abs.symm.trans q.abs)
theorem Vals.inj : ∀ {xs ys : List V} {us : List Value}, Vals xs us → Vals ys us → xs = ys
  | _, _, _, .nil, .nil => rfl
  | _, _, _, .cons r t, .cons r' t' => by rw [r.inj r', Vals.inj t t']
section
variable {X : Cx} {pins : List (Addr × Obj)} {σ : St} {H : Hp} {s : Shared} {a : Addr} {xs ys : List V}
theorem SqL.of {K : PySem.W.Frag} (h : H a = some (.lst xs)) : SqL K H a xs := .inl (.inl h)
theorem SqT.of {K : PySem.W.Frag} (h : H a = some (.tup xs)) : SqT K H a xs := .inl (.inl h)
theorem Inv.list (I : Inv X pins σ H s) (h : SqL X.K H a xs) : ∃ its : List Value, Vals xs its ∧ PlainL s.heap a its.toArray ∧ xs.length ≤ sizeLine := by
  rcases h with h | ⟨o, its, n, hk, hc, hd, hs, hz, r⟩
  · obtain ⟨z, its, n, r, e⟩ := h.ok I.hok
    exact ⟨its, r, ⟨_, n, e, rfl, rfl, rfl⟩, z⟩
  · refine ⟨its.toList, r, ⟨o, n, I.kIn a o hk, hc, hd, by simpa using hs⟩, ?_⟩
    have e := r.length
    simp only [Array.length_toList] at e
    omega
theorem Inv.tuple (I : Inv X pins σ H s) (h : SqT X.K H a xs) : ∃ its : List Value, Vals xs its ∧ IsTup s.heap a its.toArray ∧ xs.length ≤ sizeLine := by
  rcases h with h | ⟨o, its, n, hk, hc, hs, hz, r⟩
  · obtain ⟨z, its, r, p⟩ := h.ok I.hok
    exact ⟨its, r, p, z⟩
  · refine ⟨its.toList, r, ⟨o, I.kIn a o hk, hc, n, by simpa using hs⟩, ?_⟩
    have e := r.length
    simp only [Array.length_toList] at e
    omega
theorem Inv.list_inj (I : Inv X pins σ H s) (h : SqL X.K H a xs) (h' : SqL X.K H a ys) : xs = ys := by
  obtain ⟨its, r, ⟨o, n, e, _, _, d⟩, _⟩ := I.list h
  obtain ⟨its', r', ⟨o', n', e', _, _, d'⟩, _⟩ := I.list h'
  rw [e] at e'; cases e'
  rw [d] at d'
  injection d' with d1 _
  have : its = its' := by simpa using congrArg Array.toList d1
  subst this
  exact r.inj r'
theorem Inv.tuple_inj (I : Inv X pins σ H s) (h : SqT X.K H a xs) (h' : SqT X.K H a ys) : xs = ys := by
  obtain ⟨its, r, ⟨o, e, _, n, d⟩, _⟩ := I.tuple h
  obtain ⟨its', r', ⟨o', e', _, n', d'⟩, _⟩ := I.tuple h'
  rw [e] at e'; cases e'
  rw [d] at d'
  injection d' with d1 _
  have : its = its' := by simpa using congrArg Array.toList d1
  subst this
  exact r.inj r'
end
abbrev Cx.wish (X : Cx) (E : Value → Shared → Prop) : Cx := { X with xe := E }
abbrev Cx.nox (X : Cx) : Cx := X.wish fun _ _ => False
theorem Cx.Ok.wish {X : Cx} (ok : X.Ok) (E : Value → Shared → Prop) : (X.wish E).Ok :=
  ⟨ok.mod, ok.kind, ok.glob, ok.blt, ok.above, ok.inj, ok.has, ok.cab, ok.hd, ok.frames, ok.stk, ok.exf, ok.bs, ok.bsz, ok.noex, ok.exfs, ok.funs, ok.frf⟩
theorem Cx.Ok.unwish {X : Cx} {E : Value → Shared → Prop} (ok : (X.wish E).Ok) : X.Ok :=
  ⟨ok.mod, ok.kind, ok.glob, ok.blt, ok.above, ok.inj, ok.has, ok.cab, ok.hd, ok.frames, ok.stk, ok.exf, ok.bs, ok.bsz, ok.noex, ok.exfs, ok.funs, ok.frf⟩
section
variable {X : Cx} {pins : List (Addr × Obj)} {σ : St} {H : Hp} {s : Shared} {E : Value → Shared → Prop}
theorem Inv.wish (I : Inv X pins σ H s) (E : Value → Shared → Prop) : Inv (X.wish E) pins σ H s := ⟨I.ok.wish E, I.os, I.bare, I.base, I.loc, I.cell, I.free, I.freeC, I.pin, I.hok, I.len⟩
theorem Inv.unwish (I : Inv (X.wish E) pins σ H s) : Inv X pins σ H s := ⟨I.ok.unwish, I.os, I.bare, I.base, I.loc, I.cell, I.free, I.freeC, I.pin, I.hok, I.len⟩
theorem SP.unwish {D : Ends} {f : Flow} {s' : Shared} (h : SP (X.wish E) pins D f s') : SP X pins D f s' := by
  cases f with
  | next => obtain ⟨σ', H', I, q⟩ := h; exact ⟨σ', H', I.unwish, q⟩
  | brk => obtain ⟨σ', H', I, q⟩ := h; exact ⟨σ', H', I.unwish, q⟩
  | cont => obtain ⟨σ', H', I, q⟩ := h; exact ⟨σ', H', I.unwish, q⟩
  | ret u => obtain ⟨v, σ', H', I, r, q⟩ := h; exact ⟨v, σ', H', I.unwish, r, q⟩
theorem PSs.nox {st : List Stmt} {t : TS} (h : PSs X.nox st t) : PSs X st t := fun pins s σ H D I hw =>
  wpAny_mono (h pins s σ H D (I.wish _) hw) (fun _ _ q => q.unwish) fun _ _ z => False.elim z
end
section
variable {X : Cx} {st : Stmt} {rest : List Stmt} {t u : TS} {e : Expr} {te : TE} {pos : Pos}
def tNext : TS := fun D σ H => D.nx σ H
def tSeq (t u : TS) : TS := fun D σ H => t { D with nx := u D } σ H
theorem pss_nil : PSs X [] tNext := fun _ _ σ H _ I h => wpAny_execs_nil ⟨σ, H, I, h⟩
theorem pss_cons (h1 : PS X st t) (h2 : PSs X rest u) : PSs X (st :: rest) (tSeq t u) := by
  intro pins s σ H D I h
  refine wpAny_execs_cons (thn (h1 pins s σ H { D with nx := u D } I h) fun f s1 q => ?_)
  cases f with
  | next =>
    obtain ⟨σ', H', I', q⟩ := q
    exact h2 pins s1 σ' H' D I' q
  | ret v => exact q
  | brk => exact q
  | cont => exact q
theorem pss_one (h1 : PS X st t) : PSs X [st] t := by
  intro pins s σ H D I h
  refine wpAny_execs_cons (thn (h1 pins s σ H D I h) fun f s1 q => ?_)
  cases f with
  | next => exact wpAny_execs_nil q
  | ret v => exact q
  | brk => exact q
  | cont => exact q
theorem Inv.quiet {pins : List (Addr × Obj)} {σ : St} {H : Hp} {s : Shared} (I : Inv X pins σ H s) : interactive X.env = false := by simp [interactive, I.ok.kind]
def tDrop (te : TE) : TS := fun D σ H => te σ H fun _ H1 => D.nx σ H1
theorem ps_expr (he : PE X e te) (hs : swapsWith e none pos.line X.env = pure false := by rfl) : PS X (.Expr e pos) (tDrop te) := by
  intro pins s σ H D I h
  exact wpAny_Expr_any (thn (he pins s σ H _ I h) fun v s1 ⟨x, H1, I1, r1, q1⟩ => ⟨σ, H1, I1, q1⟩) I.quiet hs
def tRet (te : TE) : TS := fun D σ H => te σ H D.rt
theorem ps_ret (he : PE X e te) : PS X (.Return (some e) pos) (tRet te) := by
  intro pins s σ H D I h
  exact wpAny_Return_some (thn (he pins s σ H _ I h) fun v s1 ⟨x, H1, I1, r1, q1⟩ => ⟨x, σ, H1, I1, r1, q1⟩)
def tRetN : TS := fun D _ H => D.rt .non H
theorem ps_retN : PS X (.Return none pos) tRetN := fun _ _ σ H _ I h => wpAny_Return_none ⟨.non, σ, H, I, rfl, h⟩
def tIfS (c : TT) (t u : TS) : TS := fun D σ H => c σ H fun b H1 => if b = true then t D σ H1 else u D σ H1
theorem ps_if {c : Expr} {a b : List Stmt} {tc : TT} (hc : PT X c tc) (ha : PSs X a t) (hb : PSs X b u) : PS X (.If c a b pos) (tIfS tc t u) := by
  intro pins s σ H D I h
  refine wpAny_If (thn (hc pins s σ H _ I h) fun d s1 ⟨H1, I1, q1⟩ => ?_)
  cases d with
  | true => exact ha pins s1 σ H1 D I1 q1
  | false => exact hb pins s1 σ H1 D I1 q1
end
abbrev TG := V → St → Hp → (St → Hp → Prop) → Prop
def PG (X : Cx) (target : Expr) (t : TG) : Prop :=
  ∀ (pins : List (Addr × Obj)) (s : Shared) (σ : St) (H : Hp) (v : V) (u : Value) (Q : St → Hp → Prop), Inv X pins σ H s → RelV v u → t v σ H Q →
    wpAny (model X.prog X.w) X.A (assign target X.env u) (fun _ s' => ∃ σ' H', Inv X pins σ' H' s' ∧ Q σ' H') X.xe s
abbrev TIp := V → V → Hp → VK → Prop
def PIp (X : Cx) (op : Operator) (t : TIp) : Prop :=
  ∀ (pins : List (Addr × Obj)) (s : Shared) (σ : St) (H : Hp) (x y : V) (v u : Value) (Q : VK), Inv X pins σ H s → RelV x v → RelV y u → t x y H Q →
    wpAny (model X.prog X.w) X.A (inplaceOp op v u) (EP X pins σ Q) X.xe s
section
variable {X : Cx} {pos : Pos}
def gName (i : Nat) : TG := fun v σ H Q => Q (σ.set i (some v)) H
theorem pg_name {i : Nat} {x : Str} (hN : X.N.Nodup) (hi : X.N[i]? = some x) (hx : Loc X.env.scope x) (hf : X.fn x = true ∨ X.env.scope.names.lookup x = some .local := by first | exact .inl rfl | exact .inr rfl | assumption) : PG X (.Name x pos) (gName i) := by
  intro pins s σ H v u Q I r h
  exact wpAny_assign_Name (store_ok I hN hi hx r (fun s' I' => ⟨_, H, I', h⟩) hf)
def tAsg (te : TE) (g : TG) : TS := fun D σ H => te σ H fun x H1 => g x σ H1 D.nx
theorem ps_set {i : Nat} {x : Str} {e : Expr} {te : TE} {pos' : Pos} (hN : X.N.Nodup) (hi : X.N[i]? = some x) (hx : Loc X.env.scope x) (he : PE X e te) (hs : swapsWith e (some (.Name x pos')) pos.line X.env = pure false := by rfl) (hf : X.fn x = true ∨ X.env.scope.names.lookup x = some .local := by first | exact .inl rfl | exact .inr rfl | assumption) :
    PS X (.Assign [.Name x pos'] e pos) (tAsg te (gName i)) := by
  intro pins s σ H D I h
  refine wpAny_Assign_Name (thn (he pins s σ H _ I h) fun v s1 ⟨y, H1, I1, r1, q1⟩ => ?_) hs
  exact store_ok I1 hN hi hx r1 (fun s2 I2 => ⟨_, H1, I2, q1⟩) hf
def tAug (i : Nat) (te : TE) (ti : TIp) : TS := fun D σ H => ∃ x, σ[i]? = some (some x) ∧ te σ H fun y H1 => ti x y H1 fun z H2 => D.nx (σ.set i (some z)) H2
theorem ps_aug {i : Nat} {x : Str} {e : Expr} {te : TE} {op : Operator} {ti : TIp} {pos' : Pos} (hN : X.N.Nodup) (hi : X.N[i]? = some x) (hx : Loc X.env.scope x) (he : PE X e te) (ho : PIp X op ti) (hf : X.fn x = true ∨ X.env.scope.names.lookup x = some .local := by first | exact .inl rfl | exact .inr rfl | assumption) :
    PS X (.AugAssign (.Name x pos') op e pos) (tAug i te ti) := by
  intro pins s σ H D I h
  obtain ⟨v, e1, h⟩ := h
  obtain ⟨m, hn, hl⟩ := I.loc
  have vis : Vis X.env.scope x := by rcases hx with k | k; exact .inl k; exact .inr (.inl k)
  obtain ⟨u, r, l⟩ := hl i x v hi e1 vis
  refine wpAny_AugAssign_Name ?_
  have go : wpAny (model X.prog X.w) X.A (eval e X.env) (fun w s₂ => wpAny (model X.prog X.w) X.A (inplaceOp op u w) (fun r s₃ => wpAny (model X.prog X.w) X.A (storeName X.env x r) (fun _ => SP X pins D .next) X.xe s₃) X.xe s₂) X.xe s := by
    refine thn (he pins s σ H _ I h) fun w s1 ⟨y, H1, I1, r1, q1⟩ => ?_
    refine thn (ho pins s1 σ H1 v y u w _ I1 r r1 q1) fun z s2 ⟨zv, H2, I2, r2, q2⟩ => ?_
    exact store_ok I2 hN hi hx r2 (fun s3 I3 => ⟨_, H2, I3, q2⟩) hf
  rcases l with ⟨hk, hm⟩ | ⟨hk, c, hc, hcell⟩
  · exact wpAny_loadName_local I.ok.kind hk hn hm go
  · rcases hk with hk | hk
    · exact wpAny_loadName_cell I.ok.kind hk hc hcell go
    · rcases hx with k | k
      · have : X.env.scope.names.lookup x = some .free := hk
        rw [k] at this; cases this
      · have : X.env.scope.names.lookup x = some .free := hk
        rw [k] at this; cases this
def ipI (f : Int → Int → Int) : TIp := fun x y H Q => ∃ i j, x = .int i ∧ y = .int j ∧ Q (.int (f i j)) H
theorem ip_add : PIp X .Add (ipI fun i j => i + j) := by
  intro pins s σ H x y v u Q I r1 r2 h
  obtain ⟨i, j, e1, e2, q⟩ := h
  subst e1; subst e2
  obtain ⟨t, rfl⟩ := r1
  obtain ⟨t', rfl⟩ := r2
  exact iadd_int ⟨.int _, H, I.tok _, ⟨_, rfl⟩, q⟩
end
section
variable {X : Cx} {pos : Pos}
def tWhile (c : TT) (tb : TS) : TS := fun D σ H => ∃ W : Nat → St → Hp → Prop, (∃ m, W m σ H) ∧ ∀ m σ H, W m σ H →
  c σ H fun b H1 => if b = true then ∃ N : St → Hp → Prop, (∀ σ' H', N σ' H' → ∃ m', m' < m ∧ W m' σ' H') ∧ tb { D with nx := N, ct := N, bk := D.nx } σ H1 else D.nx σ H1
theorem ps_while {c : Expr} {body : List Stmt} {tc : TT} {tb : TS} (hp : PassesOwn (model X.prog X.w) X.A X.env X.xe) (hc : PT X c tc) (hb : PSs X body tb) : PS X (.While c body [] pos) (tWhile tc tb) := by
  intro pins s σ H D I h
  obtain ⟨W, ⟨m0, w0⟩, turn⟩ := h
  refine wpAny_While (codeAny_whileLoop (fun n s' => ∃ σ' H', Inv X pins σ' H' s' ∧ W n σ' H') ?_ m0 ⟨σ, H, I, w0⟩)
  rintro n s1 ⟨σ1, H1, I1, w1⟩
  refine wpAny_passesOwn hp (thn (hc pins s1 σ1 H1 _ I1 (turn n σ1 H1 w1)) fun b s2 ⟨H2, I2, q2⟩ => ?_)
  cases b with
  | true =>
    obtain ⟨N, hN, q2⟩ := q2
    rw [if_pos rfl]
    refine wpAny_passesOwn hp (thn (hb pins s2 σ1 H2 _ I2 q2) fun f s3 q3 => ?_)
    cases f with
    | next =>
      obtain ⟨σ3, H3, I3, n3⟩ := q3
      obtain ⟨m', hm, w3⟩ := hN σ3 H3 n3
      exact ⟨m', hm, σ3, H3, I3, w3⟩
    | cont =>
      obtain ⟨σ3, H3, I3, n3⟩ := q3
      obtain ⟨m', hm, w3⟩ := hN σ3 H3 n3
      exact ⟨m', hm, σ3, H3, I3, w3⟩
    | brk => exact q3
    | ret v => exact q3
  | false =>
    rw [if_neg Bool.false_ne_true]
    exact wpAny_execs_nil ⟨σ1, H2, I2, q2⟩
end
structure It where
  go : Nat → Hp → Prop
  yld : Nat → Hp → V → Hp → Prop
  stop : Nat → Hp → Prop
def FpOk (X : Cx) (pins : List (Addr × Obj)) (H : Hp) (b : Addr) : Prop :=
  H b = none ∧ b ≠ X.env.locals ∧ b ∉ X.fs ∧ (b ∈ X.ex ∨ X.s₀.heap.objs.size ≤ b) ∧ (∀ x c, X.env.cells.lookup x = some c → c ≠ b) ∧ ∀ p ∈ X.pn ++ pins, p.1 ≠ b
theorem Inv.fpOk {X : Cx} {pins : List (Addr × Obj)} {σ : St} {H H' : Hp} {s : Shared} {b : Addr} (I : Inv X pins σ H s) (hb : s.heap.objs.size ≤ b) (hn : H' b = none) : FpOk X pins H' b := by
  refine ⟨hn, Nat.ne_of_gt (Nat.lt_of_lt_of_le I.lt hb), I.nofs hb, .inr (Nat.le_trans I.sz hb), fun x c e z => ?_, fun p hp z => ?_⟩
  · obtain ⟨v, q⟩ := I.cell x c e
    exact absurd (Nat.lt_of_lt_of_le q.lt (by rw [z]; exact hb)) (Nat.lt_irrefl _)
  · exact absurd (Nat.lt_of_lt_of_le (Heap.lt_size (I.pin p hp).1) (by rw [z]; exact hb)) (Nat.lt_irrefl _)
structure Turn (P : Program) (w : World) (K : PySem.W.Frag) (tg : Expr) (J : It) (fp : List Addr) (it : Addr) (tn : Nat → Heap → Prop) : Prop where
  mem : it ∈ fp
  obj : ∀ i h, tn i h → ∀ b ∈ fp, ∃ o, h.get? b = some o ∧ ∀ v, o.data ≠ .cell v
  keep : ∀ i h h', tn i h → (∀ b ∈ fp, ∀ o, h.get? b = some o → h'.get? b = some o) → tn i h'
  item : ∀ (X : Cx), X.prog = P → X.w = w → X.K = K → X.calm = true → ∀ (i : Nat) (pins : List (Addr × Obj)) (s : Shared) (σ : St) (H : Hp) (E : Value → Shared → Prop), Inv X pins σ H s → (∀ b ∈ fp, FpOk X pins H b) → tn i s.heap → J.go i H →
    wpAny (model P w) X.A (pyNext (.ref it)) (fun r s1 => ∃ u, r = some u ∧
      wpAny (model P w) X.A (letOwnedTupleGo tg (.ref it) u) (fun _ s2 => ∃ x H', Inv X pins σ H' s2 ∧ RelV x u ∧ J.yld i H x H' ∧ tn (i + 1) s2.heap ∧ ∀ b ∈ fp, H' b = none) E s1) E s
  done : ∀ (X : Cx), X.prog = P → X.w = w → X.K = K → X.calm = true → ∀ (i : Nat) (pins : List (Addr × Obj)) (s : Shared) (σ : St) (H : Hp) (E : Value → Shared → Prop), Inv X pins σ H s → (∀ b ∈ fp, FpOk X pins H b) → tn i s.heap → J.stop i H →
    wpAny (model P w) X.A (pyNext (.ref it)) (fun r s1 => r = none ∧ Inv X pins σ H s1) E s
  self : ∀ (A : Around) (i : Nat) (s : Shared) (Q : Value → Shared → Prop) (E : Value → Shared → Prop), tn i s.heap → Q (.ref it) s → wpAny (model P w) A (pyIter (.ref it)) Q E s
abbrev TI := St → Hp → (It → Hp → Prop) → Prop
def PIE (X : Cx) (pins : List (Addr × Obj)) (σ : St) (tg : Expr) (R : It → Hp → Prop) (itv : Value) (s2 : Shared) : Prop :=
  ∃ (it : Addr) (fp : List Addr) (tn : Nat → Heap → Prop) (J : It) (H' : Hp), itv = .ref it ∧ Inv X pins σ H' s2 ∧ Turn X.prog X.w X.K tg J fp it tn ∧ tn 0 s2.heap ∧ (∀ b ∈ fp, FpOk X pins H' b) ∧ R J H'
def PI (X : Cx) (tg iter : Expr) (wi : TI) : Prop :=
  ∀ (pins : List (Addr × Obj)) (s : Shared) (σ : St) (H : Hp) (R : It → Hp → Prop), Inv X pins σ H s → wi σ H R →
    wpAny (model X.prog X.w) X.A (eval iter X.env) (fun v s1 => wpAny (model X.prog X.w) X.A (pyIter v) (PIE X pins σ tg R) X.xe s1) X.xe s
theorem go_of {M : Model} {A : Around} {E : Value → Shared → Prop} {s : Shared} {tg : Expr} {it : Addr} {u : Value} {o : Obj} {n : String} {vs : Array Value} {Q : Unit → Shared → Prop} (ho : s.heap.get? it = some o) (hc : o.cls = .type n) (hd : o.data = .fields vs)
    (hn : ["enumerate", "zip", "dict_itemiterator", "dict_reverseitemiterator", "odict_iterator", "itertools.zip_longest", "itertools.pairwise"].contains n = false) (hQ : Q () s) : wpAny M A (letOwnedTupleGo tg (.ref it) u) Q E s := by
  unfold letOwnedTupleGo
  cases tg <;> first
    | exact wpAny_pure hQ
    | (cases u <;> first
        | exact wpAny_pure hQ
        | (refine wpAny_bind (wpAny_load ho ?_)
           rw [hc, hd]
           show wpAny M A (if (["enumerate", "zip", "dict_itemiterator", "dict_reverseitemiterator", "odict_iterator", "itertools.zip_longest", "itertools.pairwise"].contains n && vs[0]? == some (rawInt _)) = true then _ else _) Q E s
           rw [if_neg (by intro h; rw [hn, Bool.false_and] at h; cases h)]
           exact wpAny_pure hQ))
def Itl (K : PySem.W.Frag) (a : Addr) : It :=
  ⟨fun i H => ∃ xs x, SqL K H a xs ∧ xs[i]? = some x, fun i H x H' => H' = H ∧ ∀ xs, SqL K H a xs → xs[i]? = some x, fun i H => ∃ xs, SqL K H a xs ∧ xs.length ≤ i⟩
def Itt (K : PySem.W.Frag) (a : Addr) : It :=
  ⟨fun i H => ∃ xs x, SqT K H a xs ∧ xs[i]? = some x, fun i H x H' => H' = H ∧ ∀ xs, SqT K H a xs → xs[i]? = some x, fun i H => ∃ xs, SqT K H a xs ∧ xs.length ≤ i⟩
theorem turn_list {P : Program} {w : World} {K : PySem.W.Frag} {tg : Expr} (a it : Addr) : Turn P w K tg (Itl K a) [it] it (fun i h => h.IsListIter it a i) where
  mem := by simp
  obj := fun i h st b hb => by
    have e : b = it := by simpa using hb
    subst e
    obtain ⟨o, e, c, d⟩ := st
    exact ⟨o, e, fun v z => by rw [d] at z; cases z⟩
  keep := fun i h h' st k => st.at fun o e => k it (by simp) o e
  item := by
    intro X hP hw hK hc i pins s σ H E I hf st hg
    subst hP hw hK
    obtain ⟨xs, x, hq, hx⟩ := hg
    obtain ⟨its, rv, p, hz⟩ := I.list hq
    obtain ⟨u, hu, ru⟩ := rv.get hx
    obtain ⟨f0, f1, f2, f3, f4, f5⟩ := hf it (by simp)
    refine wpAny_pyNext_list_item st p.isList (x := u) (by simpa using hu) fun h' st' sb => ?_
    have I1 : Inv X pins σ H { s with heap := h' } := I.turned (t' := s.toks) (fun b o hb e => (sb.2 b hb).trans e) f0 f1 f3 f4 f5
    obtain ⟨o, e, c, d⟩ := id st'
    exact ⟨u, rfl, go_of (s := { s with heap := h' }) e c d (by decide) ⟨x, H, I1, ru, ⟨rfl, fun ys hy => by rw [I.list_inj hy hq]; exact hx⟩, st', fun b hb => (hf b hb).1⟩⟩
  done := by
    intro X hP hw hK hc i pins s σ H E I hf st hg
    subst hP hw hK
    obtain ⟨xs, hq, hx⟩ := hg
    obtain ⟨its, rv, p, hz⟩ := I.list hq
    obtain ⟨f0, f1, f2, f3, f4, f5⟩ := hf it (by simp)
    have hl := rv.length
    exact wpAny_pyNext_list_end (I.ok.hd hc) st p.isList (by simp; omega) fun h' eb => ⟨rfl, I.turned (t' := s.toks) (fun b o hb e => eb b o hb e) f0 f1 f3 f4 f5⟩
  self := fun _ _ _ _ _ st h => wpAny_pyIter_listiter st h
theorem turn_tuple {P : Program} {w : World} {K : PySem.W.Frag} {tg : Expr} (a it : Addr) : Turn P w K tg (Itt K a) [it] it (fun i h => h.IsTupleIter it a i) where
  mem := by simp
  obj := fun i h st b hb => by
    have e : b = it := by simpa using hb
    subst e
    obtain ⟨o, e, c, d⟩ := st
    exact ⟨o, e, fun v z => by rw [d] at z; cases z⟩
  keep := fun i h h' st k => st.at fun o e => k it (by simp) o e
  item := by
    intro X hP hw hK hc i pins s σ H E I hf st hg
    subst hP hw hK
    obtain ⟨xs, x, hq, hx⟩ := hg
    obtain ⟨its, rv, p, hz⟩ := I.tuple hq
    obtain ⟨u, hu, ru⟩ := rv.get hx
    obtain ⟨f0, f1, f2, f3, f4, f5⟩ := hf it (by simp)
    refine wpAny_pyNext_tuple_item st (show s.heap.IsTuple a its.toArray from p) (x := u) (by simpa using hu) fun h' st' sb => ?_
    have I1 : Inv X pins σ H { s with heap := h' } := I.turned (t' := s.toks) (fun b o hb e => (sb.2 b hb).trans e) f0 f1 f3 f4 f5
    obtain ⟨o, e, c, d⟩ := id st'
    exact ⟨u, rfl, go_of (s := { s with heap := h' }) e c d (by decide) ⟨x, H, I1, ru, ⟨rfl, fun ys hy => by rw [I.tuple_inj hy hq]; exact hx⟩, st', fun b hb => (hf b hb).1⟩⟩
  done := by
    intro X hP hw hK hc i pins s σ H E I hf st hg
    subst hP hw hK
    obtain ⟨xs, hq, hx⟩ := hg
    obtain ⟨its, rv, p, hz⟩ := I.tuple hq
    obtain ⟨f0, f1, f2, f3, f4, f5⟩ := hf it (by simp)
    have hl := rv.length
    exact wpAny_pyNext_tuple_end (I.ok.hd hc) st (show s.heap.IsTuple a its.toArray from p) (by simp; omega) fun h' eb => ⟨rfl, I.turned (t' := s.toks) (fun b o hb e => eb b o hb e) f0 f1 f3 f4 f5⟩
  self := fun _ _ _ _ _ st h => wpAny_pyIter_tupleiter st h
end L2
namespace L2
open PySem PySem.Spec PyProof.Rows
section
variable {X : Cx} {tg : Expr}
def iList (K : PySem.W.Frag) (tl : TE) : TI := fun σ H R => tl σ H fun x H1 => ∃ a, x = .ref a ∧ (∃ xs, SqL K H1 a xs) ∧ R (Itl K a) H1
def iTup (K : PySem.W.Frag) (tl : TE) : TI := fun σ H R => tl σ H fun x H1 => ∃ a, x = .ref a ∧ (∃ xs, SqT K H1 a xs) ∧ R (Itt K a) H1
theorem pi_list {l : Expr} {tl : TE} (hl : PE X l tl) : PI X tg l (iList X.K tl) := by
  intro pins s σ H R I h
  refine thn (hl pins s σ H _ I h) fun v s1 ⟨x, H1, I1, r1, q1⟩ => ?_
  obtain ⟨a, e, ⟨xs, hq⟩, q⟩ := q1
  subst e
  cases r1
  obtain ⟨its, rv, p, hz⟩ := I1.list hq
  refine wpAny_pyIter_list p.isList ?_
  refine ⟨s1.heap.objs.size, [s1.heap.objs.size], _, _, H1, rfl, I1.kept (t' := s1.toks) fun b o e => Heap.get?_push_of_some _ e, turn_list a _, ⟨_, Heap.get?_push_size _ rfl, rfl, rfl⟩, fun b hb => ?_, q⟩
  have e : b = s1.heap.objs.size := by simpa using hb
  subst e
  exact I1.fpOk (Nat.le_refl _) (I1.hok.fresh (Nat.le_refl _))
theorem pi_tup {l : Expr} {tl : TE} (hl : PE X l tl) : PI X tg l (iTup X.K tl) := by
  intro pins s σ H R I h
  refine thn (hl pins s σ H _ I h) fun v s1 ⟨x, H1, I1, r1, q1⟩ => ?_
  obtain ⟨a, e, ⟨xs, hq⟩, q⟩ := q1
  subst e
  cases r1
  obtain ⟨its, rv, p, hz⟩ := I1.tuple hq
  refine wpAny_pyIter_tuple (show s1.heap.IsTuple a its.toArray from p) ?_
  refine ⟨s1.heap.objs.size, [s1.heap.objs.size], _, _, H1, rfl, I1.kept (t' := s1.toks) fun b o e => Heap.get?_push_of_some _ e, turn_tuple a _, ⟨_, Heap.get?_push_size _ rfl, rfl, rfl⟩, fun b hb => ?_, q⟩
  have e : b = s1.heap.objs.size := by simpa using hb
  subst e
  exact I1.fpOk (Nat.le_refl _) (I1.hok.fresh (Nat.le_refl _))
def tFor (wi : TI) (g : TG) (tb : TS) : TS := fun D σ H => wi σ H fun J H1 => ∃ W : Nat → Nat → St → Hp → Prop, (∃ m, W 0 m σ H1) ∧ ∀ i m σ H, W i m σ H →
  (J.stop i H ∧ D.nx σ H) ∨ (J.go i H ∧ ∃ N : St → Hp → Prop, (∀ σ' H', N σ' H' → ∃ m', m' < m ∧ W (i + 1) m' σ' H') ∧ ∀ x H', J.yld i H x H' → g x σ H' fun σ2 H2 => tb { D with nx := N, ct := N, bk := D.nx } σ2 H2)
def pinsAt (fp : List Addr) (h : Heap) : List (Addr × Obj) := fp.filterMap fun b => (h.get? b).map fun o => (b, o)
theorem mem_pinsAt {fp : List Addr} {h : Heap} {b : Addr} {o : Obj} (hb : b ∈ fp) (e : h.get? b = some o) : (b, o) ∈ pinsAt fp h := List.mem_filterMap.mpr ⟨b, hb, by rw [e]; rfl⟩
theorem of_pinsAt {fp : List Addr} {h : Heap} {p : Addr × Obj} (hp : p ∈ pinsAt fp h) : p.1 ∈ fp ∧ h.get? p.1 = some p.2 := by
  obtain ⟨b, hb, e⟩ := List.mem_filterMap.mp hp
  cases q : h.get? b with
  | none => rw [q] at e; cases e
  | some o =>
    rw [q] at e
    have e' : (b, o) = p := Option.some.inj e
    subst e'
    exact ⟨hb, q⟩
theorem Inv.pinned {pins : List (Addr × Obj)} {σ : St} {H : Hp} {s : Shared} {fp : List Addr} (I : Inv X pins σ H s) (hf : ∀ b ∈ fp, FpOk X pins H b) (ho : ∀ b ∈ fp, ∃ o, s.heap.get? b = some o ∧ ∀ v, o.data ≠ .cell v) : Inv X (pins ++ pinsAt fp s.heap) σ H s :=
  I.pins_of fun p hp => (List.mem_append.mp hp).elim (fun z => I.pin p (List.mem_append_right _ z)) fun z => by
    obtain ⟨hb, e⟩ := of_pinsAt z
    obtain ⟨f0, f1, f2, _⟩ := hf p.1 hb
    obtain ⟨o, e', d⟩ := ho p.1 hb
    rw [e] at e'; cases e'
    exact ⟨e, f0, f1, f2, d⟩
theorem Inv.unpinned {pins pl : List (Addr × Obj)} {σ : St} {H : Hp} {s : Shared} (I : Inv X (pins ++ pl) σ H s) : Inv X pins σ H s := I.pins_of fun p hp => I.pin p (List.mem_append_right _ (List.mem_append_left _ hp))
theorem ps_for {iter : Expr} {body : List Stmt} {wi : TI} {g : TG} {tb : TS} {pos : Pos} (hp : PassesOwn (model X.prog X.w) X.A X.env X.xe) (hc : X.calm = true) (hi : PI X tg iter wi) (hg : PG X tg g) (hb : PSs X body tb)
    (hs : ∀ x, foldedSetIterable iter X.env x = pure x := by intro _; rfl) : PS X (.For tg iter body [] pos) (tFor wi g tb) := by
  intro pins s σ H D I h
  refine wpAny_For (thn (hi pins s σ H _ I h) fun v s1 h1 => thn h1 fun itv s2 h2 => ?_) hs
  obtain ⟨it, fp, tn, J, H2, e, I2, T, st2, f2, W, ⟨m0, w0⟩, turn⟩ := h2
  subst e
  -- what stays true of the iterator's objects through the loop
  have stat : ∀ {H' : Hp}, (∀ b ∈ fp, H' b = none) → ∀ b ∈ fp, FpOk X pins H' b := fun hn b hb => ⟨hn b hb, (f2 b hb).2⟩
  refine codeAny_forLoop_any (fun n s' => ∃ i σ' H', Inv X pins σ' H' s' ∧ tn i s'.heap ∧ (∀ b ∈ fp, H' b = none) ∧ W i n σ' H') ?_ m0 ⟨0, σ, H2, I2, st2, fun b hb => (f2 b hb).1, w0⟩
  rintro n s3 ⟨i, σ3, H3, I3, st3, fr3, w3⟩
  rcases turn i n σ3 H3 w3 with ⟨stop, qn⟩ | ⟨go, N, hN, step⟩
  · refine wpAny_passesOwn hp (thn (T.done X rfl rfl rfl hc i pins s3 σ3 H3 X.xe I3 (stat fr3) st3 stop) fun r s4 ⟨hr, I4⟩ => ?_)
    subst hr
    exact wpAny_execs_nil ⟨σ3, H3, I4, qn⟩
  · refine wpAny_passesOwn hp (thn (T.item X rfl rfl rfl hc i pins s3 σ3 H3 X.xe I3 (stat fr3) st3 go) fun r s4 ⟨u, hr, h4⟩ => ?_)
    subst hr
    refine wpAny_passesOwn hp (thn h4 fun _ s5 ⟨x, H5, I5, r5, y5, st5, fr5⟩ => ?_)
    have I5' := I5.pinned (stat fr5) (T.obj _ _ st5)
    refine wpAny_passesOwn hp (thn (hg _ s5 σ3 H5 x u _ I5' r5 (step x H5 y5)) fun _ s6 ⟨σ6, H6, I6, q6⟩ => ?_)
    refine wpAny_passesOwn hp (thn (hb _ s6 σ6 H6 _ I6 q6) fun f s7 q7 => ?_)
    have again : ∀ {σ7 : St} {H7 : Hp}, Inv X (pins ++ pinsAt fp s5.heap) σ7 H7 s7 → N σ7 H7 → ∃ m, m < n ∧ ∃ i σ' H', Inv X pins σ' H' s7 ∧ tn i s7.heap ∧ (∀ b ∈ fp, H' b = none) ∧ W i m σ' H' := fun {σ7 H7} I7 n7 => by
      obtain ⟨m', hm, w7⟩ := hN σ7 H7 n7
      refine ⟨m', hm, i + 1, σ7, H7, I7.unpinned, T.keep _ _ _ st5 fun b hb o e => (I7.pin (b, o) (List.mem_append_right _ (List.mem_append_right _ (mem_pinsAt hb e)))).1, fun b hb => ?_, w7⟩
      obtain ⟨o, e, d⟩ := T.obj _ _ st5 b hb
      exact (I7.pin (b, o) (List.mem_append_right _ (List.mem_append_right _ (mem_pinsAt hb e)))).2.1
    cases f with
    | next => obtain ⟨σ7, H7, I7, n7⟩ := q7; exact again I7 n7
    | cont => obtain ⟨σ7, H7, I7, n7⟩ := q7; exact again I7 n7
    | brk => obtain ⟨σ7, H7, I7, q7⟩ := q7; exact ⟨σ7, H7, I7.unpinned, q7⟩
    | ret v => obtain ⟨x7, σ7, H7, I7, r7, q7⟩ := q7; exact ⟨x7, σ7, H7, I7.unpinned, r7, q7⟩
end
theorem for_list {K : PySem.W.Frag} {a : Addr} {xs : List V} {g : TG} {tb : TS} {D : Ends} {σ : St} {H : Hp} (Pv : Nat → St → Hp → Prop) (h0 : Pv 0 σ H) (hl : ∀ i σ H, i ≤ xs.length → Pv i σ H → SqL K H a xs)
    (hs : ∀ i x σ H, xs[i]? = some x → Pv i σ H → g x σ H fun σ2 H2 => tb { D with nx := Pv (i + 1), ct := Pv (i + 1), bk := D.nx } σ2 H2) (hd : ∀ σ H, Pv xs.length σ H → D.nx σ H) :
    ∃ W : Nat → Nat → St → Hp → Prop, (∃ m, W 0 m σ H) ∧ ∀ i m σ H, W i m σ H →
      ((Itl K a).stop i H ∧ D.nx σ H) ∨ ((Itl K a).go i H ∧ ∃ N : St → Hp → Prop, (∀ σ' H', N σ' H' → ∃ m', m' < m ∧ W (i + 1) m' σ' H') ∧ ∀ x H', (Itl K a).yld i H x H' → g x σ H' fun σ2 H2 => tb { D with nx := N, ct := N, bk := D.nx } σ2 H2) := by
  refine ⟨fun i m σ H => m = xs.length - i ∧ i ≤ xs.length ∧ Pv i σ H, ⟨xs.length, by simp, Nat.zero_le _, h0⟩, ?_⟩
  rintro i m σ H ⟨rfl, hi, p⟩
  have q := hl i σ H hi p
  by_cases hlt : i < xs.length
  · refine .inr ⟨⟨xs, xs[i], q, by simp [hlt]⟩, Pv (i + 1), fun σ' H' p' => ⟨xs.length - (i + 1), by omega, rfl, hlt, p'⟩, fun x H' y => ?_⟩
    obtain ⟨e, y⟩ := y
    subst e
    exact hs i x σ _ (y xs q) p
  · have e : i = xs.length := by omega
    subst e
    exact .inl ⟨⟨xs, q, Nat.le_refl _⟩, hd σ H p⟩
theorem for_tup {K : PySem.W.Frag} {a : Addr} {xs : List V} {g : TG} {tb : TS} {D : Ends} {σ : St} {H : Hp} (Pv : Nat → St → Hp → Prop) (h0 : Pv 0 σ H) (hl : ∀ i σ H, i ≤ xs.length → Pv i σ H → SqT K H a xs)
    (hs : ∀ i x σ H, xs[i]? = some x → Pv i σ H → g x σ H fun σ2 H2 => tb { D with nx := Pv (i + 1), ct := Pv (i + 1), bk := D.nx } σ2 H2) (hd : ∀ σ H, Pv xs.length σ H → D.nx σ H) :
    ∃ W : Nat → Nat → St → Hp → Prop, (∃ m, W 0 m σ H) ∧ ∀ i m σ H, W i m σ H →
      ((Itt K a).stop i H ∧ D.nx σ H) ∨ ((Itt K a).go i H ∧ ∃ N : St → Hp → Prop, (∀ σ' H', N σ' H' → ∃ m', m' < m ∧ W (i + 1) m' σ' H') ∧ ∀ x H', (Itt K a).yld i H x H' → g x σ H' fun σ2 H2 => tb { D with nx := N, ct := N, bk := D.nx } σ2 H2) := by
  refine ⟨fun i m σ H => m = xs.length - i ∧ i ≤ xs.length ∧ Pv i σ H, ⟨xs.length, by simp, Nat.zero_le _, h0⟩, ?_⟩
  rintro i m σ H ⟨rfl, hi, p⟩
  have q := hl i σ H hi p
  by_cases hlt : i < xs.length
  · refine .inr ⟨⟨xs, xs[i], q, by simp [hlt]⟩, Pv (i + 1), fun σ' H' p' => ⟨xs.length - (i + 1), by omega, rfl, hlt, p'⟩, fun x H' y => ?_⟩
    obtain ⟨e, y⟩ := y
    subst e
    exact hs i x σ _ (y xs q) p
  · have e : i = xs.length := by omega
    subst e
    exact .inl ⟨⟨xs, q, Nat.le_refl _⟩, hd σ H p⟩
end L2
namespace L2
open PySem PySem.Spec PyProof.Rows
abbrev R2 := V → V → Hp → VK → Prop
def OpR (X : Cx) (f : Value → Value → Sem Value) (r : R2) : Prop :=
  ∀ (pins : List (Addr × Obj)) (s : Shared) (σ : St) (H : Hp) (x y : V) (v u : Value) (Q : VK), Inv X pins σ H s → RelV x v → RelV y u → r x y H Q →
    wpAny (model X.prog X.w) X.A (f v u) (EP X pins σ Q) X.xe s
def UnR (X : Cx) (f : Value → Sem Value) (r : V → Hp → VK → Prop) : Prop :=
  ∀ (pins : List (Addr × Obj)) (s : Shared) (σ : St) (H : Hp) (x : V) (v : Value) (Q : VK), Inv X pins σ H s → RelV x v → r x H Q →
    wpAny (model X.prog X.w) X.A (f v) (EP X pins σ Q) X.xe s
def CallR (X : Cx) (f : Value) (r : List V → Hp → VK → Prop) : Prop :=
  ∀ (pins : List (Addr × Obj)) (s : Shared) (σ : St) (H : Hp) (xs : List V) (us : List Value) (Q : VK), Inv X pins σ H s → Vals xs us → r xs H Q →
    wpAny (model X.prog X.w) X.A (call f us) (EP X pins σ Q) X.xe s
def tOp (r : R2) (ta tb : TE) : TE := fun σ H Q => ta σ H fun x H1 => tb σ H1 fun y H2 => r x y H2 Q
def tUn (r : V → Hp → VK → Prop) (ta : TE) : TE := fun σ H Q => ta σ H fun x H1 => r x H1 Q
def rI (C : Int → Int → Prop) (g : Int → Int → V) : R2 := fun x y H Q => ∃ i j, x = .int i ∧ y = .int j ∧ C i j ∧ Q (g i j) H
def rI0 (g : Int → Int → V) : R2 := fun x y H Q => ∃ i j, x = .int i ∧ y = .int j ∧ Q (g i j) H
def rU (g : Int → V) : V → Hp → VK → Prop := fun x H Q => ∃ i, x = .int i ∧ Q (g i) H
section
variable {X : Cx} {a b c : Expr} {ta tb tc : TE} {pos : Pos}
theorem binT (ha : PE X a ta) (hb : PE X b tb) {pins : List (Addr × Obj)} {s : Shared} {σ : St} {H : Hp} {R : V → V → Hp → Prop} (I : Inv X pins σ H s)
    (h : ta σ H fun x H1 => tb σ H1 fun y H2 => R x y H2) {Q : Value → Shared → Prop} {f : Value → Value → Sem Value}
    (hf : ∀ v u s2 x y H2, Inv X pins σ H2 s2 → RelV x v → RelV y u → R x y H2 → wpAny (model X.prog X.w) X.A (f v u) Q X.xe s2) :
    wpAny (model X.prog X.w) X.A (eval a X.env) (fun v s₁ => wpAny (model X.prog X.w) X.A (eval b X.env) (fun u s₂ => wpAny (model X.prog X.w) X.A (f v u) Q X.xe s₂) X.xe s₁) X.xe s := by
  refine thn (ha pins s σ H _ I h) fun v s1 ⟨x, H1, I1, r1, q1⟩ => ?_
  refine thn (hb pins s1 σ H1 _ I1 q1) fun u s2 ⟨y, H2, I2, r2, q2⟩ => ?_
  exact hf v u s2 x y H2 I2 r1 r2 q2
theorem pe_op {op : Operator} {r : R2} (ho : OpR X (binaryOp op) r) (ha : PE X a ta) (hb : PE X b tb) : PE X (.BinOp a op b pos) (tOp r ta tb) := by
  intro pins s σ H Q I h
  exact wpAny_BinOp (binT ha hb I h fun v u s2 x y H2 I2 rx ry q => ho pins s2 σ H2 x y v u Q I2 rx ry q)
theorem pe_un {op : UnaryOp} {r : V → Hp → VK → Prop} (ho : UnR X (unaryOp op) r) (ha : PE X a ta) : PE X (.UnaryOp op a pos) (tUn r ta) := by
  intro pins s σ H Q I h
  exact UnaryOp_ (thn (ha pins s σ H _ I h) fun v s1 ⟨x, H1, I1, r1, q1⟩ => ho pins s1 σ H1 x v Q I1 r1 q1)
theorem opI {f : Value → Value → Sem Value} {C : Int → Int → Prop} {g : Int → Int → Int}
    (rule : ∀ (i j : Int) (t u : Tok) (s : Shared) (Q : Value → Shared → Prop) (E : Value → Shared → Prop), C i j → Q (.int (g i j) s.toks) { s with toks := s.toks + 1 } → wpAny (model X.prog X.w) X.A (f (.int i t) (.int j u)) Q E s) :
    OpR X f (rI C fun i j => .int (g i j)) := by
  intro pins s σ H x y v u Q I rx ry h
  obtain ⟨i, j, rfl, rfl, hc, q⟩ := h
  obtain ⟨t, rfl⟩ := rx
  obtain ⟨t', rfl⟩ := ry
  exact rule i j t t' s _ _ hc ⟨.int (g i j), H, I.tok _, ⟨_, rfl⟩, q⟩
theorem opI0 {f : Value → Value → Sem Value} {g : Int → Int → Int}
    (rule : ∀ (i j : Int) (t u : Tok) (s : Shared) (Q : Value → Shared → Prop) (E : Value → Shared → Prop), Q (.int (g i j) s.toks) { s with toks := s.toks + 1 } → wpAny (model X.prog X.w) X.A (f (.int i t) (.int j u)) Q E s) :
    OpR X f (rI0 fun i j => .int (g i j)) := by
  intro pins s σ H x y v u Q I rx ry h
  obtain ⟨i, j, rfl, rfl, q⟩ := h
  obtain ⟨t, rfl⟩ := rx
  obtain ⟨t', rfl⟩ := ry
  exact rule i j t t' s _ _ ⟨.int (g i j), H, I.tok _, ⟨_, rfl⟩, q⟩
theorem opB0 {f : Value → Value → Sem Value} {g : Int → Int → Bool}
    (rule : ∀ (i j : Int) (t u : Tok) (s : Shared) (Q : Value → Shared → Prop) (E : Value → Shared → Prop), Q (.bool (g i j)) s → wpAny (model X.prog X.w) X.A (f (.int i t) (.int j u)) Q E s) :
    OpR X f (rI0 fun i j => .bl (g i j)) := by
  intro pins s σ H x y v u Q I rx ry h
  obtain ⟨i, j, rfl, rfl, q⟩ := h
  obtain ⟨t, rfl⟩ := rx
  obtain ⟨t', rfl⟩ := ry
  exact rule i j t t' s _ _ ⟨.bl (g i j), H, I, rfl, q⟩
theorem op_add : OpR X (binaryOp .Add) (rI0 fun i j => .int (i + j)) := opI0 fun _ _ _ _ _ _ _ q => add_int q
theorem op_mod : OpR X (binaryOp .Mod) (rI (fun _ j => 0 < j) fun i j => .int (i % j)) := opI fun i j _ _ _ _ _ hc q => by
  have h1 : (0 : Int) < j := hc
  exact mod_int' (by omega) (by rw [Int.fmod_eq_emod_of_nonneg i (by omega)]; exact q)
theorem unI {f : Value → Sem Value} {g : Int → Int}
    (rule : ∀ (i : Int) (t : Tok) (s : Shared) (Q : Value → Shared → Prop) (E : Value → Shared → Prop), Q (.int (g i) s.toks) { s with toks := s.toks + 1 } → wpAny (model X.prog X.w) X.A (f (.int i t)) Q E s) :
    UnR X f (rU fun i => .int (g i)) := by
  intro pins s σ H x v Q I rx h
  obtain ⟨i, rfl, q⟩ := h
  obtain ⟨t, rfl⟩ := rx
  exact rule i t s _ _ ⟨.int (g i), H, I.tok _, ⟨_, rfl⟩, q⟩
theorem un_neg : UnR X (unaryOp .USub) (rU fun i => .int (-i)) := unI fun _ _ _ _ _ q => neg_int q
end
def scal : V → V → Bool
  | .non, .non => true | .non, .int _ => true | .int _, .non => true | .non, .bl _ => true | .bl _, .non => true | .non, .str _ => true | .str _, .non => true
  | .int _, .int _ => true | .bl _, .bl _ => true | .str _, .str _ => true | .byt _, .byt _ => true
  | .int _, .str _ => true | .str _, .int _ => true | .bl _, .str _ => true | .str _, .bl _ => true
  | _, _ => false
def rEq : R2 := fun x y H Q => scal x y = true ∧ Q (.bl (decide (x = y))) H
def rNe : R2 := fun x y H Q => scal x y = true ∧ Q (.bl (!decide (x = y))) H
theorem dec_int {i j : Int} : decide (V.int i = V.int j) = (i == j) := by
  rw [Bool.eq_iff_iff]
  simp
theorem dec_bl {i j : Bool} : decide (V.bl i = V.bl j) = (i == j) := by
  rw [Bool.eq_iff_iff]
  simp
theorem dec_str {i j : Str} : decide (V.str i = V.str j) = (i == j) := by
  rw [Bool.eq_iff_iff]
  simp
theorem dec_byt {i j : Array UInt8} : decide (V.byt i = V.byt j) = (i.toList == j.toList) := by
  rw [Bool.eq_iff_iff]
  cases i
  cases j
  simp
section
variable {X : Cx} {a b c : Expr} {ta tb tc : TE} {pos : Pos}
theorem fin_bl {pins : List (Addr × Obj)} {σ : St} {H : Hp} {s : Shared} {Q : VK} {k k' : Bool} (I : Inv X pins σ H s) (q : Q (.bl k) H) (e : k = k') : EP X pins σ Q (.bool k') s := by
  subst e
  exact ⟨.bl k, H, I, rfl, q⟩
theorem op_eq : OpR X (compareOp .Eq) rEq := by
  intro pins s σ H x y v u Q I rx ry h
  obtain ⟨hs, q⟩ := h
  cases x with
  | non =>
    cases rx
    cases y with
    | non => cases ry; exact PySem.EqNone.eq_none_none (fin_bl I q (by simp))
    | bl j => cases ry; exact PySem.EqNone.eq_none_bool (fin_bl I q (by simp))
    | int j => obtain ⟨t', rfl⟩ := ry; exact PySem.EqNone.eq_none_int (fin_bl I q (by simp))
    | str j => obtain ⟨t', rfl⟩ := ry; exact PySem.EqNone.eq_none_str (fin_bl I q (by simp))
    | _ => exact absurd (show false = true from hs) Bool.false_ne_true
  | bl i =>
    cases rx
    cases y with
    | non => cases ry; exact PySem.EqNone.eq_bool_none (fin_bl I q (by simp))
    | bl j => cases ry; exact eq_bool (fin_bl I q dec_bl)
    | str j => obtain ⟨t', rfl⟩ := ry; exact PySem.EqMixed.eq_bool_str (fin_bl I q (by simp))
    | _ => exact absurd (show false = true from hs) Bool.false_ne_true
  | int i =>
    obtain ⟨t, rfl⟩ := rx
    cases y with
    | non => cases ry; exact PySem.EqNone.eq_int_none (fin_bl I q (by simp))
    | int j => obtain ⟨t', rfl⟩ := ry; exact eq_int (fin_bl I q dec_int)
    | str j => obtain ⟨t', rfl⟩ := ry; exact PySem.EqMixed.eq_int_str (fin_bl I q (by simp))
    | _ => exact absurd (show false = true from hs) Bool.false_ne_true
  | str i =>
    obtain ⟨t, rfl⟩ := rx
    cases y with
    | non => cases ry; exact PySem.EqNone.eq_str_none (fin_bl I q (by simp))
    | bl j => cases ry; exact PySem.EqMixed.eq_str_bool (fin_bl I q (by simp))
    | int j => obtain ⟨t', rfl⟩ := ry; exact PySem.EqMixed.eq_str_int (fin_bl I q (by simp))
    | str j => obtain ⟨t', rfl⟩ := ry; exact eq_str (fin_bl I q dec_str)
    | _ => exact absurd (show false = true from hs) Bool.false_ne_true
  | byt i =>
    obtain ⟨t, rfl⟩ := rx
    cases y with
    | byt j => obtain ⟨t', rfl⟩ := ry; exact PySem.W.eq_bytes (fin_bl I q dec_byt)
    | _ => exact absurd (show false = true from hs) Bool.false_ne_true
  | _ => cases y <;> exact absurd (show false = true from hs) Bool.false_ne_true
theorem op_ne : OpR X (compareOp .NotEq) rNe := by
  intro pins s σ H x y v u Q I rx ry h
  obtain ⟨hs, q⟩ := h
  cases x with
  | non =>
    cases rx
    cases y with
    | non => cases ry; exact PySem.EqNone.ne_none_none (fin_bl I q (by simp))
    | bl j => cases ry; exact PySem.EqNone.ne_none_bool (fin_bl I q (by simp))
    | int j => obtain ⟨t', rfl⟩ := ry; exact PySem.EqNone.ne_none_int (fin_bl I q (by simp))
    | str j => obtain ⟨t', rfl⟩ := ry; exact PySem.EqNone.ne_none_str (fin_bl I q (by simp))
    | _ => exact absurd (show false = true from hs) Bool.false_ne_true
  | bl i =>
    cases rx
    cases y with
    | non => cases ry; exact PySem.EqNone.ne_bool_none (fin_bl I q (by simp))
    | bl j => cases ry; exact ne_bool (fin_bl I q (congrArg not dec_bl))
    | str j => obtain ⟨t', rfl⟩ := ry; exact PySem.EqMixed.ne_bool_str (fin_bl I q (by simp))
    | _ => exact absurd (show false = true from hs) Bool.false_ne_true
  | int i =>
    obtain ⟨t, rfl⟩ := rx
    cases y with
    | non => cases ry; exact PySem.EqNone.ne_int_none (fin_bl I q (by simp))
    | int j => obtain ⟨t', rfl⟩ := ry; exact ne_int (fin_bl I q (congrArg not dec_int))
    | str j => obtain ⟨t', rfl⟩ := ry; exact PySem.EqMixed.ne_int_str (fin_bl I q (by simp))
    | _ => exact absurd (show false = true from hs) Bool.false_ne_true
  | str i =>
    obtain ⟨t, rfl⟩ := rx
    cases y with
    | non => cases ry; exact PySem.EqNone.ne_str_none (fin_bl I q (by simp))
    | bl j => cases ry; exact PySem.EqMixed.ne_str_bool (fin_bl I q (by simp))
    | int j => obtain ⟨t', rfl⟩ := ry; exact PySem.EqMixed.ne_str_int (fin_bl I q (by simp))
    | str j => obtain ⟨t', rfl⟩ := ry; exact ne_str (fin_bl I q (congrArg not dec_str))
    | _ => exact absurd (show false = true from hs) Bool.false_ne_true
  | byt i =>
    obtain ⟨t, rfl⟩ := rx
    cases y with
    | byt j => obtain ⟨t', rfl⟩ := ry; exact PySem.W.ne_bytes (fin_bl I q (congrArg not dec_byt))
    | _ => exact absurd (show false = true from hs) Bool.false_ne_true
  | _ => cases y <;> exact absurd (show false = true from hs) Bool.false_ne_true
theorem op_lt : OpR X (compareOp .Lt) (rI0 fun i j => .bl (decide (i < j))) := opB0 fun _ _ _ _ _ _ _ q => lt_int q
theorem op_gt : OpR X (compareOp .Gt) (rI0 fun i j => .bl (decide (j < i))) := opB0 fun _ _ _ _ _ _ _ q => gt_int q
theorem op_isN : OpR X (compareOp .Is) (fun x y H Q => y = .non ∧ Q (.bl (decide (x = .non))) H) := by
  intro pins s σ H x y v u Q I rx ry h
  obtain ⟨rfl, q⟩ := h
  cases ry
  refine is_none_gen (fin_bl I q ?_)
  cases x <;> first
    | (cases rx; rfl)
    | (obtain ⟨t, rfl⟩ := rx; rfl)
theorem op_notN : OpR X (compareOp .IsNot) (fun x y H Q => y = .non ∧ Q (.bl (!decide (x = .non))) H) := by
  intro pins s σ H x y v u Q I rx ry h
  obtain ⟨rfl, q⟩ := h
  cases ry
  refine isnot_none_gen (fin_bl I q ?_)
  cases x <;> first
    | (cases rx; rfl)
    | (obtain ⟨t, rfl⟩ := rx; rfl)
theorem nomark (b : Expr) {op : CmpOp} (h : op ≠ .In := by decide) (h2 : op ≠ .NotIn := by decide) : behindInMarks op b = false := by
  have e1 : (op == CmpOp.In) = false := by cases op <;> first | rfl | exact absurd rfl h
  have e2 : (op == CmpOp.NotIn) = false := by cases op <;> first | rfl | exact absurd rfl h2
  cases b <;> simp [behindInMarks, e1, e2]
theorem pe_cmpR {op : CmpOp} {r : R2} (ho : OpR X (compareOp op) r) (ha : PE X a ta) (hb : PE X b tb) (hm : behindInMarks op b = false) : PE X (.Compare a [op] [b] pos) (tOp r ta tb) := by
  intro pins s σ H Q I h
  exact wpAny_Compare1 (binT ha hb I h fun v u s2 x y H2 I2 rx ry q => ho pins s2 σ H2 x y v u Q I2 rx ry q) hm
def tTest (t : TE) : TT := fun σ H Q => t σ H fun x H' => ∃ k, x = .bl k ∧ Q k H'
theorem pt_cmpR {op : CmpOp} {r : R2} (ho : OpR X (compareOp op) r) (ha : PE X a ta) (hb : PE X b tb) (hm : behindInMarks op b = false) : PT X (.Compare a [op] [b] pos) (tTest (tOp r ta tb)) := by
  intro pins s σ H Q I h
  refine wpAny_isTrue_Compare1 (thn (ha pins s σ H _ I h) fun v s1 ⟨x, H1, I1, r1, q1⟩ => thn (hb pins s1 σ H1 _ I1 q1) fun u s2 ⟨y, H2, I2, r2, q2⟩ =>
    thn (ho pins s2 σ H2 x y v u _ I2 r1 r2 q2) fun c s3 ⟨z, H3, I3, r3, k, e, q3⟩ => ?_) hm
  subst e
  cases r3
  exact wpAny_truthy_bool ⟨H3, I3, q3⟩
theorem line63 : (sizeLine : Nat) < 2 ^ 63 := by rw [sizeLine_eq]; decide
theorem vals1 {x : V} {us : List Value} (r : Vals [x] us) : ∃ u, us = [u] ∧ RelV x u := by
  cases r with
  | cons r1 r2 => cases r2; exact ⟨_, rfl, r1⟩
end
end L2
namespace L2
open PySem PySem.Spec PyProof.Rows
structure ObjM (h : Heap) (x dx C : Addr) (mA : Str → Option Value) : Prop where
  obj : h.get? x = some (PySem.W.instObj C dx)
  ns : h.Ns1 dx mA
  ne : dx ≠ x
theorem lookIn_ns {h : Heap} {dx : Addr} {mA : Str → Option Value} (n : h.Ns1 dx mA) : ∃ od, h.get? dx = some od ∧ ∀ name, PySem.W.lookIn name od = some (mA name) := by
  obtain ⟨o, es, ep, ho, hd, hk, _, hm⟩ := n
  refine ⟨o, ho, fun name => ?_⟩
  have e := hm name
  unfold nsFind findBy at e
  rw [← Array.find?_toList] at e
  unfold PySem.W.lookIn
  rw [hd]
  dsimp only
  split
  · rename_i y q
    rw [q] at e
    exact congrArg some e
  · rename_i q
    rw [q] at e
    have a : es.toList.any (·.refKey) = false := by
      rw [List.any_eq_false]
      intro y hy
      obtain ⟨z, t, hkey⟩ := hk y (Array.mem_toList_iff.mp hy)
      simp [DictEntry.refKey, hkey]
    have a' : ¬ es.toList.any (·.refKey) = true := by rw [a]; exact Bool.false_ne_true
    rw [if_neg a']
    exact congrArg some e
theorem ObjM.look {h : Heap} {x dx C : Addr} {mA : Str → Option Value} (I : ObjM h x dx C mA) : ∃ od, PySem.W.InstAt h x (PySem.W.instObj C dx) C (some od) ∧ ∀ name, PySem.W.lookIn name od = some (mA name) :=
  let ⟨od, ho, hl⟩ := lookIn_ns I.ns
  ⟨od, ⟨I.obj, rfl, rfl, ho⟩, hl⟩
section
variable {prog : Program} {w : World} {A : Around} {E : Value → Shared → Prop} {s : Shared} {K : PySem.W.Frag} {x dx C f : Addr} {mA : Str → Option Value} {name : Str} {v : Value}
theorem get_map {expr : Bool} {Q : Value → Shared → Prop} (X : K.In s.heap) (I : ObjM s.heap x dx C mA) (hg : PySem.W.plainGet K C name = true) (hh : PySem.W.hasDictIn K C = true)
    (ha : PySem.W.findIn K (.ref C) name = some none) (hv : mA name = some v) (hv' : PySem.W.handedIn v = true) (h : Q v { s with toks := s.toks + 1 }) :
    wpAny (model prog w) A (getAttr (.ref x) name expr) Q E s := by
  obtain ⟨od, J, hl⟩ := I.look
  exact PySem.W.get_value X J (PySem.W.plainGet_of hg).1 (PySem.W.findObj_own hh ha rfl (by rw [hl, hv])) hv' h
theorem get_meth {pl : Sem Bool} {Q : Value × List Value → Shared → Prop} (X : K.In s.heap) (I : ObjM s.heap x dx C mA) (hg : PySem.W.plainGet K C name = true)
    (hf : PySem.W.findIn K (.ref C) name = some (some (.ref f))) (ht : PySem.W.isFn K (.ref f) = true) (hv : mA name = none) (h : Q (.ref f, [.ref x]) s) :
    wpAny (model prog w) A (getMethod (.ref x) name pl) Q E s := by
  obtain ⟨od, J, hl⟩ := I.look
  exact PySem.W.method_fn X J (PySem.W.plainGet_of hg).1 (PySem.W.plainGet_of hg).2 hf (beq_iff_eq.mp ht) (by show (PySem.W.lookIn name od).map (·.isSome) = some false; rw [hl, hv]; rfl) h
theorem set_map {ns : List Str} {Q : Unit → Shared → Prop} (X : K.In s.heap) (I : ObjM s.heap x dx C mA)
    (hs : PySem.W.findIn K (.ref C) "__setattr__" = some (some (.builtin "object.__setattr__"))) (hp : PySem.W.plainOver K C = true) (ht : PySem.W.takerIn K C name = some none) (hh : PySem.W.hasDictIn K C = true)
    (hw : PySem.Within mA ns) (hsz : ns.length ≤ sizeLine)
    (h : ∀ h', ObjM h' x dx C (fun y => if y = name then some v else mA y) → Heap.SameBut dx s.heap h' → Q () { s with heap := h', toks := s.toks + 2 }) :
    wpAny (model prog w) A (setAttr (.ref x) name v) Q E s := by
  obtain ⟨od, J, hl⟩ := I.look
  refine PySem.W.set_plain X J hs (PySem.W.osa_open (s := { s with toks := s.toks + 1 }) (r := none) X J hp ht fun b => ?_)
  obtain ⟨cd, hc, hd'⟩ := PySem.W.any_some hh
  have hx : s.heap.get? x = some ⟨.ref C, some dx, .plain, #[]⟩ := I.obj
  refine wpAny_bind (wpAny_pure (wpAny_bind (wpAny_bind (wpAny_loadPart hx (wpAny_bind (PySem.W.Looks.here (s := { s with toks := s.toks + 1 }) (PySem.W.looks_clsIn X hc) ?_))))))
  rw [hd']
  refine wpAny_pure (a := some dx) (wpAny_bind (wpAny_pure (wpAny_bind ?_)))
  refine wpAny_nsSet1 (s := { s with toks := s.toks + 1 }) I.ns fun h' hn2 hs2 => ?_
  obtain ⟨oD, esD, epD, hoD, hdD, hcD⟩ := hn2.count (PySem.Within.cons name v hw)
  refine wpAny_bind (wpAny_lookBehind hoD (by rw [hdD]; exact pastItsLine_dict (Nat.le_trans hcD (by rw [List.length_cons]; omega))) ?_)
  exact wpAny_pure (h _ ⟨(hs2.2 _ (Ne.symm I.ne)).trans I.obj, hn2, I.ne⟩ hs2)
theorem make_map {R : Result → Shared → Prop} {vs : List Value} {kw : List (Str × Value)} (X : K.In s.heap) (hm : PySem.W.makesIn K C = true)
    (hi : PySem.W.findIn K (.ref C) "__init__" = some (some (.ref f))) (hf : PySem.W.typeIn K (.ref f) = some (.type "function"))
    (h : codeAny (model prog w) (A.under (.builtin "type.__call__" ⟨.ref C :: vs, kw⟩)) (.call (.ref f) ⟨.ref (s.heap.objs.size + 1) :: vs, kw⟩) (PySem.W.InitBack (s.heap.objs.size + 1) R)
      { s with heap := (s.heap.push PySem.W.emptyDict).push (PySem.W.instObj C s.heap.objs.size) }) :
    codeAny (model prog w) A (.call (.ref C) ⟨vs, kw⟩) R s := by
  obtain ⟨hh, g, d, t, os⟩ := s
  exact PySem.W.make_core (PySem.W.makes_of X hm) (PySem.W.looks_findIn X hi) (fun self => PySem.W.bind_fn X self hf) (.inl rfl) h
end
def putF (f : Str) (v : V) : List (Str × V) → List (Str × V)
  | [] => [(f, v)]
  | (g, x) :: r => if g = f then (g, v) :: r else (g, x) :: putF f v r
theorem lookup_putF (f g : Str) (v : V) : ∀ fs : List (Str × V), (putF f v fs).lookup g = if g = f then some v else fs.lookup g
  | [] => by
    show List.lookup g [(f, v)] = _
    by_cases h : g = f
    · have hb : (g == f) = true := beq_iff_eq.mpr h
      simp only [List.lookup, hb, if_pos h]
    · have hb : (g == f) = false := beq_eq_false_iff_ne.mpr h
      simp only [List.lookup, hb, if_neg h]
  | (k, x) :: r => by
    have ih := lookup_putF f g v r
    rw [show putF f v ((k, x) :: r) = (if k = f then (k, v) :: r else (k, x) :: putF f v r) from rfl]
    by_cases hk : k = f
    · rw [if_pos hk]
      by_cases h : g = k
      · have hb : (g == k) = true := beq_iff_eq.mpr h
        simp only [List.lookup, hb, if_pos (h.trans hk)]
      · have hb : (g == k) = false := beq_eq_false_iff_ne.mpr h
        simp only [List.lookup, hb, if_neg (fun e : g = f => h (e.trans hk.symm))]
    · rw [if_neg hk]
      by_cases h : g = k
      · have hb : (g == k) = true := beq_iff_eq.mpr h
        simp only [List.lookup, hb, if_neg (fun e : g = f => hk (h.symm.trans e))]
      · have hb : (g == k) = false := beq_eq_false_iff_ne.mpr h
        simp only [List.lookup, hb]
        exact ih
theorem keys_putF (f : Str) (v : V) : ∀ fs : List (Str × V), f ∈ (putF f v fs).map (·.1) ∧ ∀ g, g ∈ fs.map (·.1) → g ∈ (putF f v fs).map (·.1)
  | [] => ⟨by simp [putF], fun g h => by simp at h⟩
  | (k, x) :: r => by
    obtain ⟨i1, i2⟩ := keys_putF f v r
    rw [show putF f v ((k, x) :: r) = (if k = f then (k, v) :: r else (k, x) :: putF f v r) from rfl]
    by_cases hk : k = f
    · rw [if_pos hk]
      subst hk
      exact ⟨by simp, fun g h => by simpa using h⟩
    · rw [if_neg hk]
      refine ⟨?_, fun g h => ?_⟩
      · rw [List.map_cons]
        exact List.mem_cons_of_mem _ i1
      · rw [List.map_cons] at h ⊢
        rcases List.mem_cons.mp h with e | e
        · exact List.mem_cons.mpr (.inl e)
        · exact List.mem_cons_of_mem _ (i2 g e)
theorem length_putF (f : Str) (v : V) : ∀ fs : List (Str × V), (putF f v fs).length ≤ fs.length + 1
  | [] => by simp [putF]
  | (k, x) :: r => by
    have ih := length_putF f v r
    rw [show putF f v ((k, x) :: r) = (if k = f then (k, v) :: r else (k, x) :: putF f v r) from rfl]
    by_cases hk : k = f
    · rw [if_pos hk, List.length_cons, List.length_cons]; omega
    · rw [if_neg hk, List.length_cons, List.length_cons]; omega
theorem RelO.some_of {v : V} {o : Option Value} (r : RelO (some v) o) : ∃ u, o = some u ∧ RelV v u := by
  cases o with
  | none => exact (show False from r).elim
  | some u => exact ⟨u, rfl, r⟩
theorem RelO.none_of {o : Option Value} (r : RelO none o) : o = none := by
  cases o with
  | none => rfl
  | some u => exact (show False from r).elim
theorem handed_of {v : V} {u : Value} (r : RelV v u) : PySem.W.handedIn u = true := by
  cases v with
  | non => cases (show u = Value.none from r); rfl
  | bl b => cases (show u = Value.bool b from r); rfl
  | int i => obtain ⟨t, e⟩ := (show ∃ t, u = Value.int i t from r); cases e; rfl
  | str x => obtain ⟨t, e⟩ := (show ∃ t, u = Value.str x t from r); cases e; rfl
  | byt b => obtain ⟨t, e⟩ := (show ∃ t, u = Value.bytes b t from r); cases e; rfl
  | flt b => obtain ⟨t, e⟩ := (show ∃ t, u = Value.float b t from r); cases e; rfl
  | ref a => cases (show u = Value.ref a from r); rfl
  | ty n => cases (show u = Value.type n from r); rfl
section
variable {P : Program} {w : World} {H H' : Hp} {h h' : Heap} {a C dx : Addr} {fs fs' : List (Str × V)}
theorem ins_get (hok : HOk P w H h) (e : H a = some (.ins C dx fs)) : ∃ mA, ObjM h a dx C mA ∧ (∀ f, RelO (fs.lookup f) (mA f)) ∧ PySem.Within mA (fs.map (·.1)) ∧ fs.length ≤ 1000 ∧ H dx = some (.own a) := by
  obtain ⟨d, z, ne, ob, mA, n, r, q⟩ := (show ObjOk P w H h a (.ins C dx fs) from hok a _ e)
  exact ⟨mA, ⟨ob, n, ne⟩, r, q, z, d⟩
end
structure Cls (K : PySem.W.Frag) (C : Addr) : Prop where
  pg : PySem.W.plainGet K C Str.empty = true
  hd : PySem.W.hasDictIn K C = true
  po : PySem.W.plainOver K C = true
  sa : PySem.W.findIn K (.ref C) "__setattr__" = some (some (.builtin "object.__setattr__"))
theorem Cls.get {K : PySem.W.Frag} {C : Addr} (c : Cls K C) (f : Str) : PySem.W.plainGet K C f = true := c.pg
def NoAttr (K : PySem.W.Frag) (C : Addr) (f : Str) : Prop := PySem.W.findIn K (.ref C) f = some none
theorem NoAttr.taker {K : PySem.W.Frag} {C : Addr} {f : Str} (n : NoAttr K C f) : PySem.W.takerIn K C f = some none := by
  unfold PySem.W.takerIn
  rw [show PySem.W.findIn K (.ref C) f = some none from n]
  rfl
structure Meth (K : PySem.W.Frag) (C : Addr) (m : Str) (f : Addr) : Prop where
  at_ : PySem.W.findIn K (.ref C) m = some (some (.ref f))
  fn : PySem.W.isFn K (.ref f) = true
  kp : PySem.W.keepIn K (.ref f) = true
section
variable {X : Cx} {pins : List (Addr × Obj)} {σ : St} {H : Hp} {s : Shared} {a C dx : Addr} {fs : List (Str × V)} {f : Str} {v : V} {A : Around} {E : Value → Shared → Prop}
theorem getattr_ok {b : Bool} {Q : Value → Shared → Prop} (I : Inv X pins σ H s) (e : H a = some (.ins C dx fs)) (c : Cls X.K C) (n : NoAttr X.K C f) (l : fs.lookup f = some v)
    (h : ∀ u s', Inv X pins σ H s' → RelV v u → Q u s') : wpAny (model X.prog X.w) A (getAttr (.ref a) f b) Q E s := by
  obtain ⟨mA, O, r, _, _, _⟩ := ins_get I.hok e
  obtain ⟨u, hu, ru⟩ := RelO.some_of (v := v) (o := mA f) (by rw [← l]; exact r f)
  exact get_map I.kIn O (c.get f) c.hd n hu (handed_of ru) (h u _ (I.tok _) ru)
theorem getmeth_ok {m : Str} {g : Addr} {pl : Sem Bool} {Q : Value × List Value → Shared → Prop} (I : Inv X pins σ H s) (e : H a = some (.ins C dx fs)) (c : Cls X.K C) (k : Meth X.K C m g) (l : fs.lookup m = none)
    (h : Q (.ref g, [.ref a]) s) : wpAny (model X.prog X.w) A (getMethod (.ref a) m pl) Q E s := by
  obtain ⟨mA, O, r, _, _, _⟩ := ins_get I.hok e
  have hn : mA m = none := RelO.none_of (by rw [← l]; exact r m)
  exact get_meth I.kIn O (c.get m) k.at_ k.fn hn h
theorem setattr_ok {y : V} {u : Value} {Q : Unit → Shared → Prop} (I : Inv X pins σ H s) (e : H a = some (.ins C dx fs)) (c : Cls X.K C) (n : NoAttr X.K C f) (hl : fs.length < 1000) (ry : RelV y u)
    (h : ∀ s', Inv X pins σ (upd H a (.ins C dx (putF f y fs))) s' → Q () s') : wpAny (model X.prog X.w) A (setAttr (.ref a) f u) Q E s := by
  obtain ⟨mA, O, r, wi, _, ho⟩ := ins_get I.hok e
  have hz : (fs.map (·.1)).length ≤ sizeLine := by rw [List.length_map, sizeLine_eq]; omega
  refine set_map I.kIn O c.sa c.po n.taker c.hd wi hz fun h' O' sb => h _ ?_
  have hd : ∃ o, h'.get? dx = some o := let ⟨o, _, _, e', _⟩ := O'.ns; ⟨o, e'⟩
  refine I.write (x := a) (e := dx) (by rw [e]; exact True.intro) (.inr ho) (fun b q hb z => (sb.2 b hb).trans z) hd ?_
  refine ⟨by rw [upd_ne O.ne]; exact ho, ?_, O.ne, O'.obj, _, O'.ns, fun g => ?_, fun g hg => ?_⟩
  · have := length_putF f y fs; omega
  · show RelO ((putF f y fs).lookup g) (if g = f then some u else mA g)
    rw [lookup_putF]
    by_cases q : g = f
    · rw [if_pos q, if_pos q]; exact ry
    · rw [if_neg q, if_neg q]; exact r g
  · by_cases q : g = f
    · rw [q]; exact (keys_putF f y fs).1
    · refine (keys_putF f y fs).2 g (wi g fun z => hg ?_)
      show (if g = f then some u else mA g) = none
      rw [if_neg q]; exact z
theorem Inv.made (I : Inv X pins σ H s) : Inv X pins σ (upd (upd H s.heap.objs.size (.own (s.heap.objs.size + 1))) (s.heap.objs.size + 1) (.ins C s.heap.objs.size []))
    { s with heap := (s.heap.push PySem.W.emptyDict).push (PySem.W.instObj C s.heap.objs.size) } := by
  have e1 : (s.heap.push PySem.W.emptyDict).get? s.heap.objs.size = some PySem.W.emptyDict := Heap.get?_push_size s.heap rfl
  have e2 : ((s.heap.push PySem.W.emptyDict).push (PySem.W.instObj C s.heap.objs.size)).get? (s.heap.objs.size + 1) = some (PySem.W.instObj C s.heap.objs.size) := by
    have := Heap.get?_push_size (s.heap.push PySem.W.emptyDict) (o := PySem.W.instObj C s.heap.objs.size) rfl
    rwa [Heap.size_push] at this
  have e3 : (s.heap.push PySem.W.emptyDict).Ns s.heap.objs.size (fun _ => none) := ⟨PySem.W.emptyDict, #[], _, e1, rfl, (fun e he => absurd he (by simp)), fun _ => rfl⟩
  have I1 := I.laid (a := s.heap.objs.size) (o := .own (s.heap.objs.size + 1)) (h' := s.heap.push PySem.W.emptyDict) (t' := s.toks) (fun b u q => Heap.get?_push_of_some _ q) (Nat.le_refl _) ⟨_, e1⟩
  refine I1.laid (a := s.heap.objs.size + 1) (o := .ins C s.heap.objs.size []) (t' := s.toks) (fun b u q => Heap.get?_push_of_some _ q) (Nat.le_of_eq (Heap.size_push _ _)) ?_
  have ne : s.heap.objs.size ≠ s.heap.objs.size + 1 := Nat.ne_of_lt (Nat.lt_succ_self _)
  refine ⟨by rw [upd_ne ne, upd_same], Nat.zero_le _, ne, e2, fun _ => none, (Heap.Ns1.of_empty e3).at fun o q => Heap.get?_push_of_some _ q, fun _ => True.intro, fun y hy => absurd rfl hy⟩
theorem attr_of {prog : Program} {w : World} {env : Env} {e : Expr} {f : Str} {pos : Pos} {s : Shared} {Q : Value → Shared → Prop} (hb : attributeBase e f env (eval e env) = eval e env)
    (h : wpAny (model prog w) A (eval e env) (fun o s₁ => wpAny (model prog w) A (getAttr o f true) Q E s₁) E s) : wpAny (model prog w) A (eval (.Attribute e f pos) env) Q E s :=
  Attribute_any_ h (by rw [arm_eval_Attribute, hb])
end
def tFld (K : PySem.W.Frag) (ta : TE) (f : Str) : TE := fun σ H Q => ta σ H fun x H1 => ∃ a C dx fs v, x = .ref a ∧ H1 a = some (.ins C dx fs) ∧ Cls K C ∧ NoAttr K C f ∧ fs.lookup f = some v ∧ Q v H1
def sFld (K : PySem.W.Frag) (ta tv : TE) (f : Str) : TS := fun D σ H => tv σ H fun y H1 => ta σ H1 fun x H2 => ∃ a C dx fs, x = .ref a ∧ H2 a = some (.ins C dx fs) ∧ Cls K C ∧ NoAttr K C f ∧ fs.length < 1000 ∧
  D.nx σ (upd H2 a (.ins C dx (putF f y fs)))
def InOp (X : Cx) (op : Operator) (rd : V → V → Hp → VK → Prop) : Prop :=
  ∀ (pins : List (Addr × Obj)) (s : Shared) (σ : St) (H : Hp) (x y : V) (u v : Value) (Q : VK), Inv X pins σ H s → RelV x u → RelV y v → rd x y H Q → wpAny (model X.prog X.w) X.A (inplaceOp op u v) (EP X pins σ Q) X.xe s
def sFldAug (K : PySem.W.Frag) (ta tv : TE) (rd : V → V → Hp → VK → Prop) (f : Str) : TS := fun D σ H => ta σ H fun x H1 => ∃ a C dx fs v, x = .ref a ∧ H1 a = some (.ins C dx fs) ∧ Cls K C ∧ NoAttr K C f ∧ fs.lookup f = some v ∧
  tv σ H1 fun y H2 => rd v y H2 fun z H3 => ∃ dx' fs', H3 a = some (.ins C dx' fs') ∧ fs'.length < 1000 ∧ D.nx σ (upd H3 a (.ins C dx' (putF f z fs')))
section
variable {X : Cx} {o e value : Expr} {f : Str} {pos pos' tpos : Pos} {ta tv : TE}
theorem pe_fld (he : PE X e ta) (hb : attributeBase e f X.env (eval e X.env) = eval e X.env) : PE X (.Attribute e f pos) (tFld X.K ta f) := by
  intro pins s σ H Q I h
  refine attr_of hb (thn (he pins s σ H _ I h) fun u s1 ⟨x, H1, I1, rx, a, C, dx, fs, v, ex, ea, c, n, l, q⟩ => ?_)
  subst ex
  obtain rfl : u = Value.ref a := rx
  exact getattr_ok I1 ea c n l fun u' s2 I2 ru => ⟨v, H1, I2, ru, q⟩
theorem ps_fld (ha : PE X o ta) (hv : PE X value tv) (hs : swapsWith value (some (.Attribute o f pos')) pos.line X.env = pure false) : PS X (.Assign [.Attribute o f pos'] value pos) (sFld X.K ta tv f) := by
  intro pins s σ H D I h
  refine plainObj_wpAny_Assign_Attribute (thn (hv pins s σ H _ I h) fun u s1 ⟨y, H1, I1, ry, q⟩ => thn (ha pins s1 σ H1 _ I1 q) fun ov s2 ⟨x, H2, I2, rx, a, C, dx, fs, ex, ea, c, n, l, q2⟩ => ?_) hs
  subst ex
  obtain rfl : ov = Value.ref a := rx
  exact setattr_ok I2 ea c n l ry fun s3 I3 => ⟨σ, _, I3, q2⟩
theorem ps_fldaug {op : Operator} {rd : V → V → Hp → VK → Prop} (ha : PE X o ta) (hv : PE X value tv) (hop : InOp X op rd) : PS X (.AugAssign (.Attribute o f tpos) op value pos) (sFldAug X.K ta tv rd f) := by
  intro pins s σ H D I h
  refine wpAny_AugAssign_AttributeAny (thn (ha pins s σ H _ I h) fun ov s1 ⟨x, H1, I1, rx, a, C, dx, fs, v, ex, ea, c, n, l, q⟩ => ?_)
  subst ex
  obtain rfl : ov = Value.ref a := rx
  refine getattr_ok I1 ea c n l fun u s2 I2 ru => thn (hv pins s2 σ H1 _ I2 q) fun w3 s3 ⟨y, H2, I3, ry, q3⟩ => thn (hop pins s3 σ H2 v y u w3 _ I3 ru ry q3) fun w4 s4 ⟨z, H3, I4, rz, dx', fs', ea', l', q4⟩ => ?_
  exact setattr_ok I4 ea' c n l' rz fun s5 I5 => ⟨σ, _, I5, q4⟩
def rAdd : V → V → Hp → VK → Prop := fun x y H Q => ∃ i j, x = .int i ∧ y = .int j ∧ Q (.int (i + j)) H
theorem in_add : InOp X .Add rAdd := by
  rintro pins s σ H x y u v Q I rx ry ⟨i, j, rfl, rfl, q⟩
  obtain ⟨t, rfl⟩ := (show ∃ t, u = Value.int i t from rx)
  obtain ⟨t', rfl⟩ := (show ∃ t', v = Value.int j t' from ry)
  exact PyProof.Rows.iadd_int ⟨.int (i + j), H, I.tok _, ⟨_, rfl⟩, q⟩
theorem methcall_of {pl : Sem Bool} {m : Str} {apos : Pos} {args : List Expr} {pins : List (Addr × Obj)} {s : Shared} {σ : St} {H : Hp} {Q : Value → Shared → Prop} {te : TE} (he : PE X e te) (I : Inv X pins σ H s)
    (h : te σ H fun x H1 => ∃ a C dx fs g, x = .ref a ∧ H1 a = some (.ins C dx fs) ∧ Cls X.K C ∧ Meth X.K C m g ∧ fs.lookup m = none ∧
      ∀ s1, Inv X pins σ H1 s1 → wpAny (model X.prog X.w) X.A (callWith pos (.ref g) [.ref a] (backTo pos (starEach args X.env)) (backToKw pos (keywordEach [] X.env))) Q X.xe s1)
    (ht : eval (.Call (.Attribute e m apos) args [] pos) X.env = (do
      let ov ← eval e X.env
      standAt apos.atName
      let (f, first) ← holding [ov] (getMethod ov m pl)
      callWith pos f first (backTo pos (starEach args X.env)) (backToKw pos (keywordEach [] X.env)))) :
    wpAny (model X.prog X.w) X.A (eval (.Call (.Attribute e m apos) args [] pos) X.env) Q X.xe s := by
  refine PySem.W.methodCall_KW (pl := pl) (thn (he pins s σ H _ I h) fun u s1 ⟨x, H1, I1, rx, a, C, dx, fs, g, ex, ea, c, k, l, q⟩ => ?_) ht
  subst ex
  obtain rfl : u = Value.ref a := rx
  exact getmeth_ok I1 ea c k l (q s1 I1)
end
end L2
namespace L2
open PySem PySem.Spec PyProof.Rows
structure Room (k : Nat) (A : Around) : Prop where
  hd : A.handled = none
  dp : A.depth + 3 * k + 5 < recursionLimit
  un : A.units + 16 * k + 200 < cLine
theorem Room.mono {j k : Nat} {A : Around} (r : Room k A) (h : j ≤ k) : Room j A := ⟨r.hd, by have := r.dp; omega, by have := r.un; omega⟩
theorem Room.deeper {k : Nat} {A : Around} (r : Room (k + 1) A) (env : Env) : Room k (A.deeper env) :=
  ⟨r.hd, by have := r.dp; show A.depth + 1 + 3 * k + 5 < _; omega, by have := r.un; show A.units + 3 + 16 * k + 200 < _; omega⟩
theorem make_depth {A : Around} {C : Addr} {us : List Value} {kw : List (Str × Value)} : (A.under (.builtin "type.__call__" ⟨.ref C :: us, kw⟩)).depth = A.depth + 1 := by
  first | rfl | simp [Around.under, Code.weight, Code.isCreation, Code.isGuard, Code.isCaller, Code.frames, Code.isFrame, guardIds]
theorem make_units {A : Around} {C : Addr} {us : List Value} {kw : List (Str × Value)} : (A.under (.builtin "type.__call__" ⟨.ref C :: us, kw⟩)).units = A.units + 1 := by
  first | rfl | simp [Around.under, Code.cUnits, Code.frames, Code.isFrame]
theorem Room.make {k : Nat} {A : Around} (r : Room (k + 1) A) (C : Addr) (us : List Value) (kw : List (Str × Value)) : Room k (A.under (.builtin "type.__call__" ⟨.ref C :: us, kw⟩)) :=
  ⟨r.hd, by have := r.dp; rw [make_depth]; omega, by have := r.un; rw [make_units]; omega⟩
theorem Room.depth {k : Nat} {A : Around} (r : Room k A) : A.depth < recursionLimit := by have := r.dp; omega
theorem Room.units {k : Nat} {A : Around} (r : Room k A) : A.units + 64 < cLine := by have := r.un; omega
def tNil : TA := fun _ H Q => Q [] H
def tCons (ta : TE) (tr : TA) : TA := fun σ H Q => ta σ H fun x H1 => tr σ H1 fun xs H2 => Q (x :: xs) H2
section
variable {X : Cx} {e : Expr} {es : List Expr} {te : TE} {t : TA} {pos : Pos}
theorem pa_nil : PA X [] tNil := fun _ _ _ _ H Q I h => Calls.spliced_nil ⟨[], H, I, .nil, h⟩
theorem pa_cons (ha : PE X e te) (hr : PA X es t) (hs : starEach (e :: es) X.env = (false, eval e X.env) :: starEach es X.env := by rfl) : PA X (e :: es) (tCons te t) := by
  intro pos pins s σ H Q I h
  rw [hs]
  show wpAny _ _ (spliced ((false, eval e X.env) :: backTo pos (starEach es X.env))) _ _ s
  refine Calls.spliced_cons (thn (ha pins s σ H _ I h) fun u s1 ⟨x, H1, I1, r1, q1⟩ => ?_)
  exact thn (hr pos pins s1 σ H1 _ I1 q1) fun us s2 ⟨xs, H2, I2, r2, q2⟩ => ⟨x :: xs, H2, I2, .cons r1 r2, q2⟩
def tTup (t : TA) : TE := fun σ H Q => t σ H fun xs H1 => xs.length ≤ sizeLine ∧ ∀ p, H1 p = none → Q (.ref p) (upd H1 p (.tup xs))
def tLst (t : TA) : TE := fun σ H Q => t σ H fun xs H1 => xs.length ≤ sizeLine ∧ ∀ p, H1 p = none → Q (.ref p) (upd H1 p (.lst xs))
theorem pe_tup {x1} (h : PA X es t) : PE X (.Tuple es x1 pos) (tTup t) := by
  intro pins s σ H Q I hq
  refine wpAny_Tuple_spliced (thn (h pos pins s σ H _ I hq) fun us s1 ⟨xs, H1, I1, r, z, q⟩ => ⟨by rw [← r.length]; exact z, ?_⟩)
  have hf : H1 s1.heap.objs.size = none := I1.hok.fresh (Nat.le_refl _)
  refine ⟨.ref s1.heap.objs.size, upd H1 s1.heap.objs.size (.tup xs), I1.laid (t' := s1.toks) (fun b u e => Heap.get?_push_of_some _ e) (Nat.le_refl _) ?_, rfl, q _ hf⟩
  exact ⟨z, us, r, ⟨_, Heap.get?_push_size _ rfl, rfl, _, rfl⟩⟩
theorem pe_lst (h : PA X es t) : PE X (.List es pos) (tLst t) := by
  intro pins s σ H Q I hq
  refine wpAny_List_spliced (thn (h pos pins s σ H _ I hq) fun us s1 ⟨xs, H1, I1, r, z, q⟩ => ⟨by rw [← r.length]; exact z, ?_⟩)
  have hf : H1 s1.heap.objs.size = none := I1.hok.fresh (Nat.le_refl _)
  refine ⟨.ref s1.heap.objs.size, upd H1 s1.heap.objs.size (.lst xs), I1.laid (t' := s1.toks) (fun b u e => Heap.get?_push_of_some _ e) (Nat.le_refl _) ?_, rfl, q _ hf⟩
  exact ⟨z, us, 0, r, Heap.get?_push_size _ rfl⟩
end
abbrev Sp := List V → Hp → VK → XK → Prop
abbrev CXT := List Env → Hp → Shared → XK → Value → Shared → Prop
structure Env0 (P : Program) (w : World) (K : PySem.W.Frag) (mg : Str → Option Value) (base : Heap) (A : Around) (outer : List Env) (s : Shared) (H : Hp) : Prop where
  frames : A.frames = some outer
  mod : Mod K mg base
  bs : ∀ b o, base.get? b = some o → s.heap.get? b = some o ∧ H b = none
  bsz : base.objs.size ≤ s.heap.objs.size
  funs : s.heap.FunFrames base outer
  frf : ∀ b ∈ frs outer, H b = none
  hok : HOk P w H s.heap
  bare : AllBare s.gens
def CE (outer : List Env) (P : Program) (w : World) (H : Hp) (s : Shared) (Q : VK) (u : Value) (s' : Shared) : Prop :=
  ∃ v H', s'.os = s.os ∧ AllBare s'.gens ∧ Un (frs outer) [] H H' s.heap s'.heap ∧ HOk P w H' s'.heap ∧ RelV v u ∧ Q v H'
def CR (CX : CXT) (outer : List Env) (P : Program) (w : World) (H : Hp) (s : Shared) (Q : VK) (E : XK) (r : Result) (s' : Shared) : Prop :=
  match r with
  | .ok (.ret u) => CE outer P w H s Q u s'
  | .ok _ => False
  | .error e => CX outer H s E e s'
structure FnOk (P : Program) (w : World) (K : PySem.W.Frag) (mg : Str → Option Value) (base : Heap) (CX : CXT) (k : Nat) (f : Addr) (fd : FuncData) (ps : List Str) (sp : Sp) : Prop where
  len : ∀ vs H Q E, sp vs H Q E → vs.length = ps.length
  run : ∀ (A : Around) (outer : List Env) (s : Shared) (H : Hp) (args : Args) (us : List Value) (vs : List V) (Q : VK) (E : XK), Room k A → Env0 P w K mg base A outer s H → BindsTo s fd args (ps.zip us) → Vals vs us → sp vs H Q E →
    codeAny (model P w) A (.call (.ref f) args) (CR CX outer P w H s Q E) s
theorem Env0.make {P : Program} {w : World} {K : PySem.W.Frag} {mg : Str → Option Value} {base : Heap} {A : Around} {outer : List Env} {s : Shared} {H : Hp} (e : Env0 P w K mg base A outer s H) (C : Addr) (us : List Value) (kw : List (Str × Value)) :
    Env0 P w K mg base (A.under (.builtin "type.__call__" ⟨.ref C :: us, kw⟩)) outer s H := ⟨by first | exact e.frames | (simpa [Around.under, Code.envs, Code.isFrame, pushEnvs] using e.frames), e.mod, e.bs, e.bsz, e.funs, e.frf, e.hok, e.bare⟩
section
variable {X : Cx} {pins : List (Addr × Obj)} {σ : St} {H : Hp} {s s' : Shared}
theorem Inv.env0 (I : Inv X pins σ H s) : Env0 X.prog X.w X.K X.mg X.base X.A X.stack s H :=
  ⟨I.ok.frames, I.ok.mod, I.bs, Nat.le_trans I.ok.bsz I.sz, I.stack, I.stkFree, I.hok, I.bare⟩
theorem Inv.after {Q : VK} {u : Value} (I : Inv X pins σ H s) (h : CE X.stack X.prog X.w H s Q u s') : EP X pins σ Q u s' := by
  obtain ⟨v, H', os, bare, un, hok, r, q⟩ := h
  obtain ⟨hh, g, d, t, os'⟩ := s'
  obtain rfl : os' = s.os := os
  exact ⟨v, H', I.call (h' := hh) (g' := g) (d' := d) (t' := t) (ch := []) un hok bare (fun b z => absurd z (by simp)), r, q⟩
end
def tCall (sp : Sp) (dvs : List V) (E : XK) (t : TA) : TE := fun σ H Q => t σ H fun vs H1 => sp (vs ++ dvs) H1 Q E
def tMeth (C : Addr) (m : Str) (sp : Sp) (dvs : List V) (E : XK) (ta : TE) (t : TA) : TE := fun σ H Q => ta σ H fun x H1 => ∃ a dx fs, x = .ref a ∧ H1 a = some (.ins C dx fs) ∧ fs.lookup m = none ∧
  t σ H1 fun vs H2 => sp (x :: (vs ++ dvs)) H2 Q E
def tMake (C : Addr) (sp : Sp) (dvs : List V) (E : XK) (t : TA) : TE := fun σ H Q => t σ H fun vs H1 => ∀ x dx, H1 x = none → H1 dx = none → dx ≠ x →
  sp (.ref x :: (vs ++ dvs)) (upd (upd H1 dx (.own x)) x (.ins C dx [])) (fun v H2 => v = .non ∧ Q (.ref x) H2) E
def Binds (K : PySem.W.Frag) (fd : FuncData) (ps : List Str) (ds : List Value) : Prop :=
  ∀ (s : Shared) (us : List Value), K.In s.heap → (us ++ ds).length = ps.length → BindsTo s fd ⟨us, []⟩ (ps.zip (us ++ ds))
theorem Binds.all {K : PySem.W.Frag} {fd : FuncData} {ps : List Str} (h : ∀ us : List Value, us.length = ps.length → bindArgs fd ⟨us, []⟩ = pure (ps.zip us)) : Binds K fd ps [] := fun s us _ hl => by
  rw [List.append_nil] at hl ⊢
  exact .of_eq (h us hl)
def Passes (CX : CXT) (X : Cx) (E : XK) : Prop := ∀ (pins : List (Addr × Obj)) (σ : St) (H : Hp) (s : Shared) (e : Value) (s' : Shared), Inv X pins σ H s → CX X.stack H s E e s' → X.xe e s'
section
variable {X : Cx} {CX : CXT} {k : Nat} {f C : Addr} {fd : FuncData} {ps : List Str} {sp : Sp} {dvs : List V} {ds : List Value} {E : XK} {x m : Str} {p pos apos : Pos} {e o : Expr} {es : List Expr} {ta : TE} {t : TA}
theorem run_fn {pins : List (Addr × Obj)} {σ : St} {H : Hp} {s : Shared} {Q : VK} {us : List Value} {vs : List V} (F : FnOk X.prog X.w X.K X.mg X.base CX k f fd ps sp) (hr : Room k X.A) (hb : Binds X.K fd ps ds) (hd : Vals dvs ds) (hx : Passes CX X E)
    (I : Inv X pins σ H s) (r : Vals vs us) (h : sp (vs ++ dvs) H Q E) : wpAny (model X.prog X.w) X.A (call (.ref f) us) (EP X pins σ Q) X.xe s := by
  have r2 : Vals (vs ++ dvs) (us ++ ds) := r.append hd
  have hl : (us ++ ds).length = ps.length := by rw [← r2.length]; exact F.len _ _ _ _ h
  refine wpAny_call (codeAny_mono (F.run X.A X.stack s H ⟨us, []⟩ (us ++ ds) (vs ++ dvs) Q E hr I.env0 (hb s us I.kIn hl) r2 h) fun r s' hq => ?_)
  cases r with
  | error e => exact hx pins σ H s e s' I hq
  | ok fl =>
    cases fl with
    | ret u => exact I.after hq
    | next => exact False.elim hq
    | brk => exact False.elim hq
    | cont => exact False.elim hq
theorem pe_call (F : FnOk X.prog X.w X.K X.mg X.base CX k f fd ps sp) (hr : Room k X.A) (hg : Gl X x) (hm : X.mg x = some (.ref f)) (hk : PySem.W.keepIn X.K (.ref f) = true) (hb : Binds X.K fd ps ds) (hd : Vals dvs ds) (hx : Passes CX X E)
    (ha : PA X (e :: es) t) (hdb : (x == ("__debug__" : Str)) = false := by decide) (he : starEach (e :: es) X.env = (false, eval e X.env) :: starEach es X.env := by rfl) (hpl : (backTo pos (starEach es X.env)).any (·.1) = false := by rfl) :
    PE X (.Call (.Name x p) (e :: es) [] pos) (tCall sp dvs E t) := by
  intro pins s σ H Q I h
  refine wpAny_Call_Name_kw (ld_glob I hg hm ?_ hdb)
  refine PySem.W.callWith_K (h₀ := X.base) I.ok.mod.kin hk (thn (ha pos pins s σ H _ I h) fun us s1 ⟨vs, H1, I1, r, q⟩ => ⟨I1.kIn, ?_⟩) he hpl
  exact run_fn F hr hb hd hx I1 r q
theorem pe_meth {pl : Sem Bool} (he : PE X o ta) (c : Cls X.K C) (hm : Meth X.K C m f) (F : FnOk X.prog X.w X.K X.mg X.base CX k f fd ps sp) (hr : Room k X.A) (hb : Binds X.K fd ps ds) (hd : Vals dvs ds) (hx : Passes CX X E) (ha : PA X (e :: es) t)
    (hst : starEach (e :: es) X.env = (false, eval e X.env) :: starEach es X.env := by rfl) (hpl : (backTo pos (starEach es X.env)).any (·.1) = false := by rfl)
    (ht : eval (.Call (.Attribute o m apos) (e :: es) [] pos) X.env = (do
      let ov ← eval o X.env
      standAt apos.atName
      let (f, first) ← holding [ov] (getMethod ov m pl)
      callWith pos f first (backTo pos (starEach (e :: es) X.env)) (backToKw pos (keywordEach [] X.env))) := by rfl) :
    PE X (.Call (.Attribute o m apos) (e :: es) [] pos) (tMeth C m sp dvs E ta t) := by
  intro pins s σ H Q I h
  refine PySem.W.methodCall_KW (pl := pl) (thn (he pins s σ H _ I h) fun u s1 ⟨x, H1, I1, rx, a, dx, fs, ex, ea, l, q⟩ => ?_) ht
  subst ex
  obtain rfl : u = Value.ref a := rx
  refine getmeth_ok I1 ea c hm l ?_
  refine PySem.W.callWith_K (first := [.ref a]) (h₀ := X.base) I.ok.mod.kin hm.kp (thn (ha pos pins s1 σ H1 _ I1 q) fun us s2 ⟨vs, H2, I2, r, q2⟩ => ⟨I2.kIn, ?_⟩) hst hpl
  exact run_fn (us := .ref a :: us) (vs := .ref a :: vs) F hr hb hd hx I2 (.cons rfl r) q2
theorem pe_meth0 {pl : Sem Bool} (he : PE X o ta) (c : Cls X.K C) (hm : Meth X.K C m f) (F : FnOk X.prog X.w X.K X.mg X.base CX k f fd ps sp) (hr : Room k X.A) (hb : Binds X.K fd ps ds) (hd : Vals dvs ds) (hx : Passes CX X E)
    (ht : eval (.Call (.Attribute o m apos) [] [] pos) X.env = (do
      let ov ← eval o X.env
      standAt apos.atName
      let (f, first) ← holding [ov] (getMethod ov m pl)
      callWith pos f first (backTo pos (starEach [] X.env)) (backToKw pos (keywordEach [] X.env))) := by rfl) :
    PE X (.Call (.Attribute o m apos) [] [] pos) (tMeth C m sp dvs E ta tNil) := by
  intro pins s σ H Q I h
  refine PySem.W.methodCall_KW (pl := pl) (thn (he pins s σ H _ I h) fun u s1 ⟨x, H1, I1, rx, a, dx, fs, ex, ea, l, q⟩ => ?_) ht
  subst ex
  obtain rfl : u = Value.ref a := rx
  refine getmeth_ok I1 ea c hm l ?_
  exact PySem.W.callWith_K0 (first := [.ref a]) I1.kIn hm.kp (run_fn (us := [.ref a]) (vs := [.ref a]) F hr hb hd hx I1 (.cons rfl .nil) q)
structure Mk (K : PySem.W.Frag) (C f : Addr) : Prop where
  makes : PySem.W.makesIn K C = true
  init : PySem.W.findIn K (.ref C) "__init__" = some (some (.ref f))
  fn : PySem.W.isFn K (.ref f) = true
  kp : PySem.W.keepIn K (.ref C) = true
theorem run_make {pins : List (Addr × Obj)} {σ : St} {H : Hp} {s : Shared} {Q : VK} {us : List Value} {vs : List V} (M : Mk X.K C f) (F : FnOk X.prog X.w X.K X.mg X.base CX k f fd ps sp) (hr : Room (k + 1) X.A) (hb : Binds X.K fd ps ds) (hd : Vals dvs ds)
    (hx : Passes CX X E) (I : Inv X pins σ H s) (r : Vals vs us)
    (h : ∀ x dx, H x = none → H dx = none → dx ≠ x → sp (.ref x :: (vs ++ dvs)) (upd (upd H dx (.own x)) x (.ins C dx [])) (fun v H2 => v = .non ∧ Q (.ref x) H2) E) :
    wpAny (model X.prog X.w) X.A (call (.ref C) us) (EP X pins σ Q) X.xe s := by
  have hq := h (s.heap.objs.size + 1) s.heap.objs.size (I.hok.fresh (Nat.le_succ _)) (I.hok.fresh (Nat.le_refl _)) (Nat.ne_of_lt (Nat.lt_succ_self _))
  have I2 := Inv.made (C := C) I
  have r2 : Vals (V.ref (s.heap.objs.size + 1) :: (vs ++ dvs)) (Value.ref (s.heap.objs.size + 1) :: (us ++ ds)) := .cons rfl (r.append hd)
  have hl : (Value.ref (s.heap.objs.size + 1) :: us ++ ds).length = ps.length := by
    have e := r2.length
    rw [F.len _ _ _ _ hq] at e
    exact e.symm
  refine wpAny_call (make_map (f := f) I.kIn M.makes M.init (beq_iff_eq.mp M.fn) (codeAny_mono (F.run _ X.stack _ _ ⟨Value.ref (s.heap.objs.size + 1) :: us, []⟩ (Value.ref (s.heap.objs.size + 1) :: (us ++ ds)) _ _ E (hr.make C us [])
    (I2.env0.make C us []) (hb _ (Value.ref (s.heap.objs.size + 1) :: us) I2.kIn hl) r2 hq) fun r s' hq' => ?_))
  cases r with
  | error e => exact hx pins σ _ _ e s' I2 hq'
  | ok fl =>
    cases fl with
    | ret u =>
      obtain ⟨v, H', I3, rv, ev, q3⟩ := I2.after hq'
      subst ev
      exact ⟨rv, ⟨V.ref (s.heap.objs.size + 1), H', I3, rfl, q3⟩⟩
    | next => exact False.elim hq'
    | brk => exact False.elim hq'
    | cont => exact False.elim hq'
theorem pe_make (M : Mk X.K C f) (F : FnOk X.prog X.w X.K X.mg X.base CX k f fd ps sp) (hr : Room (k + 1) X.A) (hg : Gl X x) (hm : X.mg x = some (.ref C)) (hb : Binds X.K fd ps ds) (hd : Vals dvs ds) (hx : Passes CX X E)
    (ha : PA X (e :: es) t) (hdb : (x == ("__debug__" : Str)) = false := by decide) (he : starEach (e :: es) X.env = (false, eval e X.env) :: starEach es X.env := by rfl) (hpl : (backTo pos (starEach es X.env)).any (·.1) = false := by rfl) :
    PE X (.Call (.Name x p) (e :: es) [] pos) (tMake C sp dvs E t) := by
  intro pins s σ H Q I h
  refine wpAny_Call_Name_kw (ld_glob I hg hm ?_ hdb)
  refine PySem.W.callWith_K (h₀ := X.base) I.ok.mod.kin M.kp (thn (ha pos pins s σ H _ I h) fun us s1 ⟨vs, H1, I1, r, q⟩ => ⟨I1.kIn, ?_⟩) he hpl
  exact run_make M F hr hb hd hx I1 r q
end
structure FnScope (N P : List Str) (sc : Scope) : Prop where
  kind : sc.kind = .function
  co : sc.isCoroutine = false
  gen : sc.isGenerator = false
  nd : N.Nodup
  pre : N.take P.length = P
  par : ∀ x ∈ P, sc.names.lookup x = some .local ∨ sc.names.lookup x = some .cell
  nofree : ∀ y ∈ sc.names, y.2 ≠ .free
theorem bindL_out {kindOf : Str → Option NameKind} {x : Str} : ∀ {binds : List (Str × Value)} {m : Str → Option Value}, (∀ v, (x, v) ∉ binds) → bindL kindOf binds m x = m x
  | [], _, _ => rfl
  | (n, v) :: r, m, h => by
    unfold bindL
    rw [bindL_out fun w hw => h w (List.mem_cons_of_mem _ hw)]
    split
    · have : x ≠ n := by rintro rfl; exact h v List.mem_cons_self
      simp [this]
    · rfl
theorem bindC_out {kindOf : Str → Option NameKind} {x : Str} : ∀ {binds : List (Str × Value)} {m : Str → Option Value}, (∀ v, (x, v) ∉ binds) → bindC kindOf binds m x = m x
  | [], _, _ => rfl
  | (n, v) :: r, m, h => by
    unfold bindC
    rw [bindC_out fun w hw => h w (List.mem_cons_of_mem _ hw)]
    split
    · rfl
    · have : x ≠ n := by rintro rfl; exact h v List.mem_cons_self
      simp [this]
theorem bindL_get {kindOf : Str → Option NameKind} {x : Str} {v : Value} : ∀ {P : List Str} {vs : List Value} {i : Nat} {m : Str → Option Value}, P.Nodup → P[i]? = some x → vs[i]? = some v → kindOf x = some .local →
    bindL kindOf (P.zip vs) m x = some v
  | [], _, _, _, _, h, _, _ => by simp at h
  | _ :: _, [], _, _, _, _, h, _ => by simp at h
  | p :: P, w :: vs, 0, m, nd, h1, h2, hk => by
    simp at h1 h2; subst h1; subst h2
    show bindL kindOf ((p, w) :: P.zip vs) m p = _
    unfold bindL
    rw [bindL_out fun v hv => (List.nodup_cons.mp nd).1 (List.of_mem_zip hv).1, if_pos hk]
    simp
  | p :: P, w :: vs, i + 1, m, nd, h1, h2, hk => by
    show bindL kindOf ((p, w) :: P.zip vs) m x = _
    unfold bindL
    exact bindL_get (i := i) (List.nodup_cons.mp nd).2 (by simpa using h1) (by simpa using h2) hk
theorem bindC_get {kindOf : Str → Option NameKind} {x : Str} {v : Value} : ∀ {P : List Str} {vs : List Value} {i : Nat} {m : Str → Option Value}, P.Nodup → P[i]? = some x → vs[i]? = some v → kindOf x ≠ some .local →
    bindC kindOf (P.zip vs) m x = some v
  | [], _, _, _, _, h, _, _ => by simp at h
  | _ :: _, [], _, _, _, _, h, _ => by simp at h
  | p :: P, w :: vs, 0, m, nd, h1, h2, hk => by
    simp at h1 h2; subst h1; subst h2
    show bindC kindOf ((p, w) :: P.zip vs) m p = _
    unfold bindC
    rw [bindC_out fun v hv => (List.nodup_cons.mp nd).1 (List.of_mem_zip hv).1, if_neg hk]
    simp
  | p :: P, w :: vs, i + 1, m, nd, h1, h2, hk => by
    show bindC kindOf ((p, w) :: P.zip vs) m x = _
    unfold bindC
    exact bindC_get (i := i) (List.nodup_cons.mp nd).2 (by simpa using h1) (by simpa using h2) hk
def start (N : List Str) (vs : List V) : St := vs.map some ++ List.replicate (N.length - vs.length) none
def cxOf (CX : CXT) (P : Program) (w : World) (K : PySem.W.Frag) (mg : Str → Option Value) (base : Heap) (N : List Str) (qual : Str) (scope : Scope) (f : Addr) (cd : Value) (A : Around) (outer : List Env) (s : Shared) (H : Hp) (E : XK) : Cx where
  prog := P
  w := w
  K := K
  mg := mg
  base := base
  A := A.deeper (envOfC qual scope s.heap.objs.size f cd)
  N := N
  s₀ := s
  H₀ := H
  env := envOfC qual scope s.heap.objs.size f cd
  outer := outer
  stack := envOfC qual scope s.heap.objs.size f cd :: outer
  ex := []
  calm := true
  fn := fun _ => true
  pn := []
  xe := fun e s' => wpAny (model P w) (A.deeper (envOfC qual scope s.heap.objs.size f cd)) (leaving (envOfC qual scope s.heap.objs.size f cd) e) (fun _ s'' => CX outer H s E e s'') (fun e' s'' => CX outer H s E e' s'') s'
theorem cell_has {sc : Scope} {n : Nat} {x : Str} (h : sc.names.lookup x = some .cell) : ∃ c, (cellsFrom n sc.names []).lookup x = some c := by
  have q := PySem.W.cellsFrom_some sc.names n [] (.inl h)
  exact Option.isSome_iff_exists.mp q
theorem inv_start {CX : CXT} {P : Program} {w : World} {K : PySem.W.Frag} {mg : Str → Option Value} {base : Heap} {N ps : List Str} {qual : Str} {scope : Scope} {f : Addr} {cd : Value} {A : Around} {outer : List Env} {s s1 : Shared} {H : Hp} {E : XK} {us : List Value} {vs : List V}
    (S : FnScope N ps scope) (hd : A.handled = none) (e0 : Env0 P w K mg base A outer s H) (hl : vs.length = ps.length) (r : Vals vs us)
    (x : InCallC s s.heap.objs.size (bindL (envOfC qual scope s.heap.objs.size f cd).kindOf (ps.zip us) fun _ => none) (cellsFrom (s.heap.objs.size + 1) scope.names []) (bindC (envOfC qual scope s.heap.objs.size f cd).kindOf (ps.zip us) fun _ => none) s1) :
    Inv (cxOf CX P w K mg base N qual scope f cd A outer s H E) [] (start N vs) H s1 := by
  have hpl : ps.length ≤ N.length := by have := congrArg List.length S.pre; rw [List.length_take] at this; omega
  obtain ⟨h1, tk, rfl, hk⟩ := x.done
  have noA : ∀ b : Addr, b ∉ (cxOf CX P w K mg base N qual scope f cd A outer s H E).ex := fun b z => absurd (show b ∈ ([] : List Addr) from z) (by simp)
  refine ⟨⟨e0.mod, S.kind, rfl, rfl, Nat.le_refl _, fun y z c h1 h2 => ?_, fun y hy => ?_, fun y c _ h => ?_, fun _ => hd, Around.frames_deeper e0.frames, .inr ⟨rfl, rfl⟩, fun b z => absurd z (noA b), e0.bs, e0.bsz, fun b _ _ => noA b, fun b z => absurd z (noA b), e0.funs, e0.frf⟩,
    rfl, e0.bare, Un.kept hk, ⟨_, x.toInCall.ns, fun i y v h1 h2 h3 => ?_⟩, fun y c h => ⟨_, x.cell y c h⟩, e0.hok.fresh (Nat.le_refl _), fun y c h => ?_, fun p hp => absurd (show p ∈ ([] : List (Addr × Obj)) from hp) (by simp), e0.hok.kept hk, ?_⟩
  · exact name_of_addr x.apart (PySem.mem_of_lookup h1) (PySem.mem_of_lookup h2)
  · have hy : scope.names.lookup y = some .cell ∨ scope.names.lookup y = some .free := hy
    rcases hy with hy | hy
    · exact cell_has hy
    · exact absurd rfl (S.nofree _ (PySem.mem_of_lookup hy))
  · exact Nat.le_of_lt (x.above y c (PySem.mem_of_lookup h))
  · have hi : i < vs.length := by
      unfold start at h2
      by_cases hi : i < vs.length
      · exact hi
      · rw [List.getElem?_append_right (by simpa using hi)] at h2
        rw [List.getElem?_replicate] at h2
        split at h2 <;> cases h2
    have ha : vs[i]? = some v := by
      unfold start at h2
      rw [List.getElem?_append_left (by simpa using hi), List.getElem?_map] at h2
      cases e : vs[i]? with
      | none => rw [e] at h2; cases h2
      | some a => rw [e] at h2; cases h2; rfl
    obtain ⟨u, hu, rv⟩ := r.get ha
    have hp : ps[i]? = some y := by
      rw [← S.pre, List.getElem?_take_of_lt (by omega)]; exact h1
    have ndP : ps.Nodup := by rw [← S.pre]; exact S.nd.sublist (List.take_sublist _ _)
    refine ⟨u, rv, ?_⟩
    rcases S.par y (List.mem_of_getElem? hp) with k | k
    · exact .inl ⟨k, bindL_get ndP hp hu k⟩
    · obtain ⟨c, e⟩ := cell_has (n := s.heap.objs.size + 1) k
      refine .inr ⟨.inl k, c, e, ?_⟩
      have q := x.cell y c e
      rw [bindC_get ndP hp hu (by show scope.names.lookup y ≠ _; rw [k]; decide)] at q
      exact q
  · exact e0.hok.fresh (Nat.le_of_lt (x.above y c (PySem.mem_of_lookup h)))
  · unfold start
    show _ = N.length
    rw [List.length_append, List.length_map, List.length_replicate]
    omega
theorem fn_of {CX : CXT} {P : Program} {w : World} {K : PySem.W.Frag} {mg : Str → Option Value} {base : Heap} {k : Nat} {f : Addr} {name qual : Str} {params : Arguments} {body : List Stmt} {scope : Scope} {dV kV doc pm cdv ct oc : Value} {an od : Option Addr}
    {osl : Array (Option Value)} {N ps : List Str} {sp : Sp} (lk : K.lookup f = some ⟨oc, od, .func (PySem.W.fnOf name qual params body scope dV kV doc pm an cdv ct), osl⟩) (hcd : PySem.W.codeIn K cdv qual = true) (S : FnScope N ps scope)
    (len : ∀ vs H Q E, sp vs H Q E → vs.length = ps.length)
    (hbody : ∀ (A : Around) (outer : List Env) (s : Shared) (H : Hp) (vs : List V) (Q : VK) (E : XK), Room k (A.deeper (envOfC qual scope s.heap.objs.size f cdv)) → sp vs H Q E →
      ∃ t, PSs (cxOf CX P w K mg base N qual scope f cdv A outer s H E) body t ∧ t { nx := fun _ H' => Q .non H', rt := Q } (start N vs) H) :
    FnOk P w K mg base CX (k + 1) f (PySem.W.fnOf name qual params body scope dV kV doc pm an cdv ct) ps sp := by
  refine ⟨len, fun A outer s H args us vs Q E hr e0 hb r hsp => ?_⟩
  have hl := len _ _ _ _ hsp
  have KX : K.In s.heap := e0.mod.kin.keeps fun b o e => (e0.bs b o e).1
  have lim : s.heap.NoLimit := e0.mod.nolimit.keeps fun b o e => (e0.bs b o e).1
  have hkind : ∀ y ∈ ps.zip us, scope.names.lookup y.1 = some .local ∨ (scope.names.lookup y.1 = some .cell ∧ ((cellsFrom (s.heap.objs.size + 1) scope.names []).lookup y.1).isSome = true) := fun ⟨n, v⟩ hy => by
    rcases S.par n (List.of_mem_zip hy).1 with q | q
    · exact .inl q
    · exact .inr ⟨q, PySem.W.cellsFrom_some _ _ _ (.inl q)⟩
  refine codeAny_call_function hr.depth (KX _ _ lk) rfl S.co S.gen rfl (PySem.W.codeRec_of KX hcd) (hb _ _ _ _ ?_)
  refine wpAny_newFunctionEnv_cells S.kind hkind fun env he s1 x => ?_
  subst he
  refine ⟨lim.keeps x.toInCall.keep, codeAny_func ?_⟩
  obtain ⟨t, ht, hq⟩ := hbody A outer s H vs Q E (hr.deeper _) hsp
  have I : Inv (cxOf CX P w K mg base N qual scope f cdv A outer s H E) [] (start N vs) H s1 := inv_start S hr.hd e0 hl r x
  refine wpAny_mono (ht [] s1 (start N vs) H _ I hq) (fun fl s' hs => ?_) fun e s' hs => hs
  have fin : ∀ {σ' : St} {H' : Hp} {v : V} {u : Value}, Inv (cxOf CX P w K mg base N qual scope f cdv A outer s H E) [] σ' H' s' → RelV v u → Q v H' → CE outer P w H s Q u s' :=
    fun {σ' H' v u} J rv q => ⟨v, H', J.os, J.bare, J.base, J.hok, rv, q⟩
  cases fl with
  | ret u =>
    obtain ⟨v, σ', H', J, rv, q⟩ := hs
    exact fin J rv q
  | next =>
    obtain ⟨σ', H', J, q⟩ := hs
    exact fin (v := V.non) (u := Value.none) J rfl q
  | brk =>
    obtain ⟨_, _, _, q⟩ := hs
    exact False.elim q
  | cont =>
    obtain ⟨_, _, _, q⟩ := hs
    exact False.elim q
end L2
namespace L2
open PySem PySem.Spec PyProof.Rows
section
variable {X : Cx} {x : Str} {p pos : Pos} {e : Expr} {es : List Expr} {t : TA} {id T : String} {r : List V → Hp → VK → Prop}
def tCB (r : List V → Hp → VK → Prop) (t : TA) : TE := fun σ H Q => t σ H fun vs H1 => r vs H1 Q
theorem pe_callB (hc : CallR X (.builtin id) r) (hg : Gl X x) (hm : X.mg x = none) (hv : bootBuiltins x = some (.builtin id)) (ha : PA X (e :: es) t) (hn : x ≠ "__name__" := by decide) (hdb : (x == ("__debug__" : Str)) = false := by decide)
    (he : starEach (e :: es) X.env = (false, eval e X.env) :: starEach es X.env := by rfl) (hpl : (backTo pos (starEach es X.env)).any (·.1) = false := by rfl) : PE X (.Call (.Name x p) (e :: es) [] pos) (tCB r t) := by
  intro pins s σ H Q I h
  refine wpAny_Call_Name_kw (ld_blt I hg hm hv ?_ hn hdb)
  exact PyProof.Rows.callWith_builtin1 (thn (ha pos pins s σ H _ I h) fun us s1 ⟨vs, H1, I1, r1, q1⟩ => hc pins s1 σ H1 vs us Q I1 r1 q1) he hpl
theorem pe_callTy (hc : CallR X (.type T) r) (hg : Gl X x) (hm : X.mg x = none) (hv : bootBuiltins x = some (.type T)) (ha : PA X (e :: es) t) (hn : x ≠ "__name__" := by decide) (hdb : (x == ("__debug__" : Str)) = false := by decide)
    (he : starEach (e :: es) X.env = (false, eval e X.env) :: starEach es X.env := by rfl) (hpl : (backTo pos (starEach es X.env)).any (·.1) = false := by rfl) : PE X (.Call (.Name x p) (e :: es) [] pos) (tCB r t) := by
  intro pins s σ H Q I h
  refine wpAny_Call_Name_kw (ld_blt I hg hm hv ?_ hn hdb)
  exact PyProof.Rows.callWith_type1 (thn (ha pos pins s σ H _ I h) fun us s1 ⟨vs, H1, I1, r1, q1⟩ => hc pins s1 σ H1 vs us Q I1 r1 q1) he hpl
end
end L2
namespace HT
open PySem PyProof.Rows
section
variable {prog : Program} {w : World} {A : Around} {E : Value → Shared → Prop} {s : Shared}
def sIx (n d : Nat) : Option Int → Nat
  | none => d
  | some v => if v < 0 then (v + (n : Int)).toNat else min v.toNat n
theorem sIx_none (n d : Nat) : sIx n d none = d := rfl
theorem sIx_nat (n d k : Nat) : sIx n d (some (k : Int)) = min k n := by
  show (if (k : Int) < 0 then ((k : Int) + (n : Int)).toNat else min (k : Int).toNat n) = min k n
  rw [if_neg (by omega), Int.toNat_natCast]
theorem sIx_le (n d : Nat) (hd : d ≤ n) (o : Option Int) : sIx n d o ≤ n := by
  cases o with
  | none => exact hd
  | some v =>
    show (if v < 0 then (v + (n : Int)).toNat else min v.toNat n) ≤ n
    by_cases hv : v < 0
    · rw [if_pos hv]; omega
    · rw [if_neg hv]; exact Nat.min_le_right _ _
end
end HT
namespace L2
open PySem PySem.Spec PyProof.Rows
abbrev TO := St → Hp → (Option Int → Hp → Prop) → Prop
def PO (X : Cx) (e : Option Expr) (t : TO) : Prop :=
  ∀ (pins : List (Addr × Obj)) (s : Shared) (σ : St) (H : Hp) (Q : Option Int → Hp → Prop), Inv X pins σ H s → t σ H Q →
    wpAny (model X.prog X.w) X.A (evalPart e X.env) (fun u s' => ∃ o H', Inv X pins σ H' s' ∧ IsPart u o ∧ Q o H') X.xe s
def tNoPart : TO := fun _ H Q => Q none H
def tPart (t : TE) : TO := fun σ H Q => t σ H fun x H1 => ∃ i, x = .int i ∧ Q (some i) H1
section
variable {X : Cx} {e : Expr} {te : TE} {lo hi : Option Expr} {tl th : TO} {pos p2 : Pos}
theorem po_none : PO X none tNoPart := by
  intro pins s σ H Q I h
  rw [evalPart_none]
  exact wpAny_pure ⟨none, H, I, .none, h⟩
theorem po_some (h : PE X e te) : PO X (some e) (tPart te) := by
  intro pins s σ H Q I hw
  rw [evalPart_some]
  refine thn (h pins s σ H _ I hw) fun u s1 ⟨x, H1, I1, r1, q1⟩ => ?_
  obtain ⟨i, rfl, q⟩ := q1
  obtain ⟨t, rfl⟩ := r1
  exact ⟨some i, H1, I1, .int i t, q⟩
def SlR (X : Cx) (r : V → Option Int → Option Int → Hp → VK → Prop) : Prop :=
  ∀ (pins : List (Addr × Obj)) (s : Shared) (σ : St) (H : Hp) (x : V) (v vl vu : Value) (lo hi : Option Int) (sl : Addr) (Q : VK), Inv X pins σ H s → RelV x v → s.heap.IsSliceOf sl vl vu .none → IsPart vl lo → IsPart vu hi → r x lo hi H Q →
    ∃ T id, typeLookup (.type T) "__getitem__" = pure (some (.builtin id)) ∧ s.TypeIs v T ∧ wpAny (model X.prog X.w) X.A (getItem v (.ref sl)) (EP X pins σ Q) X.xe s
def tSl (r : V → Option Int → Option Int → Hp → VK → Prop) (te : TE) (tl th : TO) : TE := fun σ H Q => te σ H fun x H1 => tl σ H1 fun l H2 => th σ H2 fun u H3 => r x l u H3 Q
theorem pe_slice {r : V → Option Int → Option Int → Hp → VK → Prop} (hr : SlR X r) (he : PE X e te) (hl : PO X lo tl) (hu : PO X hi th) : PE X (.Subscript e (.Slice lo hi none p2) pos) (tSl r te tl th) := by
  intro pins s σ H Q I h
  refine Subscript_ (thn (he pins s σ H _ I h) fun v s1 ⟨x, H1, I1, r1, q1⟩ => ?_)
  refine wpAny_Slice (thn (hl pins s1 σ H1 _ I1 q1) fun vl s2 ⟨l, H2, I2, pl, q2⟩ => thn (hu pins s2 σ H2 _ I2 q2) fun vu s3 ⟨u, H3, I3, pu, q3⟩ => ?_)
  rw [evalPart_none]
  refine wpAny_pure ?_
  have I4 : Inv X pins σ H3 { s3 with heap := s3.heap.push { cls := .type "slice", data := .fields #[vl, vu, .none] } } := I3.kept (t' := s3.toks) fun b ob q => Heap.get?_push_of_some _ q
  obtain ⟨T, id, hT, ht, hg⟩ := hr pins { s3 with heap := s3.heap.push { cls := .type "slice", data := .fields #[vl, vu, .none] } } σ H3 x v vl vu l u s3.heap.objs.size Q I4 r1 (Heap.IsSliceOf.new ..) pl pu q3
  show wpAny (model X.prog X.w) X.A (subscriptTail e (.Slice lo hi none p2) v (.ref s3.heap.objs.size)) (EP X pins σ Q) X.xe { s3 with heap := s3.heap.push { cls := .type "slice", data := .fields #[vl, vu, .none] } }
  exact tail_any (ops := [.ref s3.heap.objs.size, v]) ht hT hg (by with_unfolding_all rfl)
end
end L2
namespace L2
open PySem PySem.Spec PyProof.Rows
def ixN (n : Nat) (i : Int) : Option Nat := if 0 ≤ i then (if i < n then some i.toNat else none) else if -(n : Int) ≤ i then some (i + n).toNat else none
def atI {α : Type} (xs : List α) (i : Int) : Option α := (ixN xs.length i).bind fun j => xs[j]?
theorem ixN_seq {n : Nat} {i : Int} {j : Nat} (h : ixN n i = some j) : seqIndex? i n = some j ∧ j < n ∧ -(n : Int) ≤ i ∧ i < n := by
  unfold ixN at h
  by_cases h0 : 0 ≤ i
  · rw [if_pos h0] at h
    by_cases h1 : i < n
    · rw [if_pos h1] at h
      have e : i.toNat = j := Option.some.inj h
      exact ⟨by rw [seqIndex_of h0 h1, e], by omega, by omega, h1⟩
    · rw [if_neg h1] at h; cases h
  · rw [if_neg h0] at h
    by_cases h1 : -(n : Int) ≤ i
    · rw [if_pos h1] at h
      have e : (i + n).toNat = j := Option.some.inj h
      exact ⟨by rw [seqIndex_neg (by omega) h1, e], by omega, h1, by omega⟩
    · rw [if_neg h1] at h; cases h
theorem atI_get {α : Type} {xs : List α} {i : Int} {v : α} (h : atI xs i = some v) : ∃ j, seqIndex? i xs.length = some j ∧ xs[j]? = some v ∧ j < xs.length ∧ -(xs.length : Int) ≤ i ∧ i < xs.length := by
  unfold atI at h
  cases e : ixN xs.length i with
  | none => rw [e] at h; cases h
  | some j =>
    rw [e] at h
    obtain ⟨h1, h2, h3, h4⟩ := ixN_seq e
    exact ⟨j, h1, h, h2, h3, h4⟩
theorem atI_nat {α : Type} {xs : List α} {j : Nat} {v : α} (h : xs[j]? = some v) : atI xs (j : Int) = some v := by
  have hj : j < xs.length := (List.getElem?_eq_some_iff.mp h).1
  have e : ixN xs.length (j : Int) = some j := by
    unfold ixN
    rw [if_pos (by omega), if_pos (by omega)]; simp
  unfold atI; rw [e]; exact h
theorem atI_last {α : Type} (xs : List α) (v : α) : atI (xs ++ [v]) (-1) = some v := by
  have hl : (xs ++ [v]).length = xs.length + 1 := by simp
  have e : ixN (xs ++ [v]).length (-1) = some xs.length := by
    unfold ixN
    rw [hl, if_neg (by decide), if_pos (by omega)]
    congr 1
    omega
  unfold atI
  rw [e]
  show (xs ++ [v])[xs.length]? = some v
  simp
def PlainIx (b : Expr) : Prop := ∀ o i, subscripted b false o i = operate [o, i] (getItem o i)
def IxR (X : Cx) (r : R2) : Prop :=
  ∀ (value slice : Expr) (pins : List (Addr × Obj)) (s : Shared) (σ : St) (H : Hp) (x y : V) (v u : Value) (Q : VK), Inv X pins σ H s → RelV x v → RelV y u → r x y H Q →
    subscripted slice false v u = operate [v, u] (getItem v u) → wpAny (model X.prog X.w) X.A (subscriptTail value slice v u) (EP X pins σ Q) X.xe s
def MtR (X : Cx) (id : String) (r : V → List V → Hp → VK → Prop) : Prop :=
  ∀ (pins : List (Addr × Obj)) (s : Shared) (σ : St) (H : Hp) (x : V) (xs : List V) (v : Value) (us : List Value) (Q : VK), Inv X pins σ H s → RelV x v → Vals xs us → r x xs H Q →
    wpAny (model X.prog X.w) X.A (call (.builtin id) (v :: us)) (EP X pins σ Q) X.xe s
section
variable {X : Cx} {a b : Expr} {ta tb : TE} {pos : Pos}
theorem pe_ix {r : R2} (hr : IxR X r) (ha : PE X a ta) (hb : PE X b tb) (hs : PlainIx b) : PE X (.Subscript a b pos) (tOp r ta tb) := by
  intro pins s σ H Q I h
  exact Subscript_ (binT ha hb I h fun v u s2 x y H2 I2 rx ry q => hr a b pins s2 σ H2 x y v u Q I2 rx ry q (hs _ _))
def rIxL (K : PySem.W.Frag) : R2 := fun x y H Q => ∃ p xs i v, x = .ref p ∧ y = .int i ∧ SqL K H p xs ∧ atI xs i = some v ∧ Q v H
def rIxT (K : PySem.W.Frag) : R2 := fun x y H Q => ∃ p xs i v, x = .ref p ∧ y = .int i ∧ SqT K H p xs ∧ atI xs i = some v ∧ Q v H
def rIxS : R2 := fun x y H Q => ∃ z i c, x = .str z ∧ y = .int i ∧ z.length ≤ sizeLine ∧ atI z.cps.toList i = some c ∧ Q (.str ⟨#[c]⟩) H
theorem ix_list : IxR X (rIxL X.K) := by
  intro value slice pins s σ H x y v u Q I rx ry h hs
  obtain ⟨p, xs, i, z, rfl, rfl, hq, he, q⟩ := h
  cases rx
  obtain ⟨t, rfl⟩ := ry
  obtain ⟨its, r, pl, hz⟩ := I.list hq
  obtain ⟨j, h1, h2, h3, h4, h5⟩ := atI_get he
  obtain ⟨w, ew, rw'⟩ := r.get h2
  have hl := r.length
  have hn := line63
  have fin : EP X pins σ Q w s := ⟨z, H, I, rw', q⟩
  by_cases h0 : 0 ≤ i
  · have hj : i.toNat = j := by
      rw [seqIndex_of h0 h5] at h1
      exact Option.some.inj h1
    exact item_listR pl.isList h0 (by omega) (by rw [hj]; simpa using ew) fin hs
  · have hj : (i + (its.toArray.size : Int)).toNat = j := by
      rw [seqIndex_neg (by omega) h4] at h1
      rw [List.size_toArray, ← hl]
      exact Option.some.inj h1
    exact subscriptTail_builtinR (x := w) pl.isList.typeIs slot_list_getitem.lookup
      (wpAny_getItem_list_neg (Q := fun r s' => r = w ∧ EP X pins σ Q r s') pl.isList (by omega) (by rw [List.size_toArray] <;> omega) (by omega) (by rw [hj]; simpa using ew) ⟨rfl, fin⟩) hs
theorem ix_tup : IxR X (rIxT X.K) := by
  intro value slice pins s σ H x y v u Q I rx ry h hs
  obtain ⟨p, xs, i, z, rfl, rfl, hq, he, q⟩ := h
  cases rx
  obtain ⟨t, rfl⟩ := ry
  obtain ⟨its, r, pl, hz⟩ := I.tuple hq
  obtain ⟨j, h1, h2, h3, h4, h5⟩ := atI_get he
  obtain ⟨w, ew, rw'⟩ := r.get h2
  have hl := r.length
  have hn := line63
  have fin : EP X pins σ Q w s := ⟨z, H, I, rw', q⟩
  exact subscriptTail_builtinR (x := w) pl.typeIs slot_tuple_getitem.lookup
    (getItem_tuple (j := j) (Q := fun r s' => r = w ∧ EP X pins σ Q r s') pl (by omega) (by omega) (by rw [List.size_toArray, ← hl]; exact h1) (by simpa using ew) ⟨rfl, fin⟩) hs
theorem ix_str : IxR X rIxS := by
  intro value slice pins s σ H x y v u Q I rx ry h hs
  obtain ⟨z, i, c, rfl, rfl, hz, he, q⟩ := h
  obtain ⟨t, rfl⟩ := rx
  obtain ⟨t', rfl⟩ := ry
  obtain ⟨j, h1, h2, h3, h4, h5⟩ := atI_get he
  have hl : z.cps.toList.length = z.length := by simp [Str.length]
  rw [hl] at h1 h4 h5
  have hn := line63
  exact tail_any (typeIs_str s z t) slot_str_getitem.lookup (getItem_str (c := c) (by
    have e1 : decide (i < -(2 ^ 63 : Int)) = false := decide_eq_false (by omega)
    have e2 : decide (i ≥ 2 ^ 63) = false := decide_eq_false (by omega)
    rw [e1, e2, Bool.or_false]) (by rw [h1]; simpa using h2) ⟨.str ⟨#[c]⟩, H, I.tok _, ⟨_, rfl⟩, q⟩) hs
theorem slice_bounds (lo hi : Option Int) (n : Nat) : (sliceBounds lo hi none n).1 = ((HT.sIx n 0 lo : Nat) : Int) ∧ (sliceBounds lo hi none n).2.1 = ((HT.sIx n n hi : Nat) : Int) ∧ (sliceBounds lo hi none n).2.2 = 1 := by
  refine ⟨?_, ?_, rfl⟩
  · cases lo with
    | none => simp [sliceBounds, HT.sIx]
    | some i =>
      simp only [sliceBounds, HT.sIx, Option.getD_none, show (1 : Int) > 0 by decide, if_true]
      by_cases h : i < 0
      · simp only [h, if_true] <;> omega
      · simp only [h, if_false] <;> omega
  · cases hi with
    | none => simp [sliceBounds, HT.sIx]
    | some i =>
      simp only [sliceBounds, HT.sIx, Option.getD_none, show (1 : Int) > 0 by decide, if_true]
      by_cases h : i < 0
      · simp only [h, if_true] <;> omega
      · simp only [h, if_false] <;> omega
def flatV : V → Bool
  | .non => true
  | .bl _ => true
  | .int _ => true
  | .str _ => true
  | _ => false
def eqV : V → V → Bool
  | .non, .non => true
  | .bl a, .bl b => a == b
  | .bl a, .int b => (if a then 1 else 0) == b
  | .int a, .bl b => a == (if b then 1 else 0)
  | .int a, .int b => a == b
  | .str a, .str b => a == b
  | _, _ => false
theorem eqAt_V {A : Around} {s : Shared} {y x : V} {u v : Value} (ry : RelV y u) (rx : RelV x v) (fy : flatV y = true) (fx : flatV x = true) : SeqAt.EqAt A s u v (eqV y x) := by
  cases y with
  | non =>
    cases ry
    cases x with
    | non => cases rx; exact SeqAt.EqAt.same _
    | bl b => cases rx; exact SeqAt.EqAt.none_bool b
    | int b => obtain ⟨t, rfl⟩ := rx; exact SeqAt.EqAt.none_int b t
    | str b => obtain ⟨t, rfl⟩ := rx; exact SeqAt.EqAt.none_str b t
    | _ => exact absurd (show false = true from fx) Bool.false_ne_true
  | bl a =>
    cases ry
    cases x with
    | non => cases rx; exact SeqAt.EqAt.bool_none a
    | bl b => cases rx; exact SeqAt.EqAt.bool_bool a b
    | int b => obtain ⟨t, rfl⟩ := rx; exact SeqAt.EqAt.bool_int a b t
    | str b => obtain ⟨t, rfl⟩ := rx; exact SeqAt.EqAt.bool_str a b t
    | _ => exact absurd (show false = true from fx) Bool.false_ne_true
  | int a =>
    obtain ⟨t', rfl⟩ := ry
    cases x with
    | non => cases rx; exact SeqAt.EqAt.int_none a t'
    | bl b => cases rx; exact SeqAt.EqAt.int_bool a t' b
    | int b => obtain ⟨t, rfl⟩ := rx; exact SeqAt.EqAt.int_int a t' b t
    | str b => obtain ⟨t, rfl⟩ := rx; exact SeqAt.EqAt.int_str a t' b t
    | _ => exact absurd (show false = true from fx) Bool.false_ne_true
  | str a =>
    obtain ⟨t', rfl⟩ := ry
    cases x with
    | non => cases rx; exact SeqAt.EqAt.str_none a t'
    | bl b => cases rx; exact SeqAt.EqAt.str_bool a t' b
    | int b => obtain ⟨t, rfl⟩ := rx; exact SeqAt.EqAt.str_int a t' b t
    | str b => obtain ⟨t, rfl⟩ := rx; exact SeqAt.EqAt.str_str a t' b t
    | _ => exact absurd (show false = true from fx) Bool.false_ne_true
  | _ => exact absurd (show false = true from fy) Bool.false_ne_true
def eqU (x : V) (u : Value) : Bool := match u with
  | .none => eqV .non x
  | .bool b => eqV (.bl b) x
  | .int i _ => eqV (.int i) x
  | .str z _ => eqV (.str z) x
  | _ => false
theorem eqU_of {x y : V} {u : Value} (r : RelV y u) (f : flatV y = true) : eqU x u = eqV y x := by
  cases y with
  | non => cases r; rfl
  | bl b => cases r; rfl
  | int i => obtain ⟨t, rfl⟩ := r; rfl
  | str z => obtain ⟨t, rfl⟩ := r; rfl
  | _ => exact absurd (show false = true from f) Bool.false_ne_true
theorem any_eqU {x : V} : ∀ {xs : List V} {us : List Value}, Vals xs us → xs.all flatV = true → us.any (eqU x) = xs.any fun y => eqV y x
  | _, _, .nil, _ => rfl
  | y :: xs, u :: us, .cons r t, f => by
    rw [List.all_cons, Bool.and_eq_true] at f
    rw [List.any_cons, List.any_cons, eqU_of r f.1, any_eqU t f.2]
theorem mem_eqAt {A : Around} {s : Shared} {x : V} {v : Value} (rx : RelV x v) (fx : flatV x = true) : ∀ {xs : List V} {us : List Value}, Vals xs us → xs.all flatV = true → ∀ u ∈ us, SeqAt.EqAt A s u v (eqU x u)
  | _, _, .nil, _ => fun u hu => by cases hu
  | y :: xs, u :: us, .cons r t, f => fun u' hu => by
    rw [List.all_cons, Bool.and_eq_true] at f
    rcases List.mem_cons.mp hu with rfl | hu
    · rw [eqU_of r f.1]; exact eqAt_V r rx f.1 fx
    · exact mem_eqAt rx fx t f.2 u' hu
def inV (x : V) (xs : List V) : Bool := xs.any fun y => eqV y x
def rIn (K : PySem.W.Frag) (neg : Bool) : R2 := fun x y H Q => ∃ p xs, y = .ref p ∧ (SqL K H p xs ∨ SqT K H p xs) ∧ flatV x = true ∧ xs.all flatV = true ∧ Q (.bl (if neg then !inV x xs else inV x xs)) H
theorem op_in_seq : OpR X (compareOp .In) (rIn X.K false) := by
  intro pins s σ H x y v u Q I rx ry h
  obtain ⟨p, xs, rfl, hq, fx, fs, q⟩ := h
  cases ry
  rcases hq with hq | hq
  · obtain ⟨its, r, pl, hz⟩ := I.list hq
    refine SeqAt.in_listAt (eqU x) pl.isList (fun w hw => mem_eqAt rx fx r fs w (by simpa using hw)) ⟨.bl _, H, I, rfl, ?_⟩
    rw [show its.toArray.any (eqU x) = its.any (eqU x) by simp, any_eqU r fs]
    exact q
  · obtain ⟨its, r, pl, hz⟩ := I.tuple hq
    refine SeqAt.in_tupleAt (eqU x) pl (fun w hw => mem_eqAt rx fx r fs w (by simpa using hw)) ⟨.bl _, H, I, rfl, ?_⟩
    rw [show its.toArray.any (eqU x) = its.any (eqU x) by simp, any_eqU r fs]
    exact q
theorem call_len_seq : CallR X (.builtin "len") (fun xs H Q => ∃ p ys, xs = [.ref p] ∧ (SqL X.K H p ys ∨ SqT X.K H p ys) ∧ Q (.int ys.length) H) := by
  intro pins s σ H xs us Q I r h
  obtain ⟨p, ys, rfl, hq, q⟩ := h
  obtain ⟨u, rfl, rx⟩ := vals1 r
  cases rx
  have hn := line63
  rcases hq with hq | hq
  · obtain ⟨its, r', pl, hz⟩ := I.list hq
    have hlen := r'.length
    exact Calls.call_len_list pl.isList (by simp only [List.size_toArray] <;> omega) ⟨.int ys.length, H, I.tok _, ⟨s.toks + 1, by rw [List.size_toArray, hlen]⟩, q⟩
  · obtain ⟨its, r', pl, hz⟩ := I.tuple hq
    have hlen := r'.length
    exact len_tuple pl (by simp only [List.size_toArray] <;> omega) ⟨.int ys.length, H, I.tok _, ⟨s.toks + 1, by rw [List.size_toArray, hlen]⟩, q⟩
theorem call_len_str : CallR X (.builtin "len") (fun xs H Q => ∃ z, xs = [.str z] ∧ z.length ≤ sizeLine ∧ Q (.int z.length) H) := by
  intro pins s σ H xs us Q I r h
  obtain ⟨z, rfl, hz, q⟩ := h
  obtain ⟨u, rfl, t, rfl⟩ := vals1 r
  have hn := line63
  exact len_str (by omega) ⟨.int z.length, H, I.tok _, ⟨_, rfl⟩, q⟩
def tyV (K : PySem.W.Frag) (T : String) (x : V) (H : Hp) : Prop := match x with
  | .str _ => T = "str"
  | .int _ => T = "int"
  | .ref p => (T = "list" ∧ ∃ xs, SqL K H p xs) ∨ (T = "tuple" ∧ ∃ o, K.lookup p = some o ∧ o.cls = .type "tuple" ∧ o.dict = none) ∨
      (T = "dict" ∧ ((∃ kvs, H p = some (.dK kvs)) ∨ ∃ kvs, H p = some (.dT kvs))) ∨ (T = "set" ∧ ∃ S n, H p = some (.set S n))
  | _ => False
theorem tyV_is {pins : List (Addr × Obj)} {σ : St} {H : Hp} {s : Shared} {T : String} {x : V} {v : Value} (I : Inv X pins σ H s) (r : RelV x v) (ty : tyV X.K T x H) :
    s.TypeIs v T ∧ ∀ a, v = .ref a → ∃ ob, s.heap.get? a = some ob ∧ ob.dict = none := by
  cases x with
  | str z =>
    obtain ⟨t, rfl⟩ := r
    cases (show T = "str" from ty)
    exact ⟨typeIs_str s z t, fun _ e => nomatch e⟩
  | int i =>
    obtain ⟨t, rfl⟩ := r
    cases (show T = "int" from ty)
    exact ⟨typeIs_int s i t, fun _ e => nomatch e⟩
  | ref p =>
    cases r
    rcases ty with ⟨rfl, xs, hq⟩ | ⟨rfl, o, hk, hc, hd⟩ | ⟨rfl, hk⟩ | ⟨rfl, S, n, hk⟩
    · obtain ⟨its, _, pl, _⟩ := I.list hq
      refine ⟨pl.isList.typeIs, fun a e => ?_⟩
      cases e
      obtain ⟨o, n, e, c, hd, _⟩ := pl
      exact ⟨o, e, hd⟩
    · refine ⟨⟨o, I.kIn p o hk, hc⟩, fun a e => ?_⟩
      cases e
      exact ⟨o, I.kIn _ o hk, hd⟩
    · have z : ∃ o, s.heap.get? p = some o ∧ o.ExactDict := by
        rcases hk with ⟨kvs, hk⟩ | ⟨kvs, hk⟩
        · obtain ⟨_, _, _, _, o, _, _, e, ex, _⟩ := I.hok p _ hk
          exact ⟨o, e, ex⟩
        · obtain ⟨_, _, _, _, o, _, _, e, ex, _⟩ := I.hok p _ hk
          exact ⟨o, e, ex⟩
      obtain ⟨o, e, ex⟩ := z
      refine ⟨⟨o, e, ex.1⟩, fun a e2 => ?_⟩
      cases e2
      exact ⟨o, e, ex.2.1⟩
    · obtain ⟨o, _, _, _, e, ex, _⟩ := I.hok p _ hk
      refine ⟨⟨o, e, ex.1⟩, fun a e2 => ?_⟩
      cases e2
      exact ⟨o, e, ex.2.1⟩
  | _ => exact False.elim ty
def tBM0 (K : PySem.W.Frag) (T : String) (r : V → List V → Hp → VK → Prop) (to : TE) : TE := fun σ H Q => to σ H fun x H1 => tyV K T x H1 ∧ r x [] H1 Q
def tBM (K : PySem.W.Frag) (T : String) (r : V → List V → Hp → VK → Prop) (to : TE) (t : TA) : TE := fun σ H Q => to σ H fun x H1 => tyV K T x H1 ∧ t σ H1 fun xs H2 => r x xs H2 Q
variable {o e : Expr} {es : List Expr} {to : TE} {t : TA} {name : Str} {apos cpos : Pos} {T id : String} {r : V → List V → Hp → VK → Prop}
theorem pe_bm0 (pa : PlainAttrs T) (slot : Slot T name id) (hty : typeOf (.builtin id) = pure (.type "method_descriptor")) (hm : MtR X id r) (ho : PE X o to)
    (hbase : attributeBase o name X.env (eval o X.env) = eval o X.env := by rfl) (hline : (apos.endLine == cpos.line) = true := by rfl) : PE X (.Call (.Attribute o name apos) [] [] cpos) (tBM0 X.K T r to) := by
  intro pins s σ H Q I h
  refine wpAny_Call_method0_late hbase hline (thn (ho pins s σ H _ I h) fun v s1 ⟨x, H1, I1, r1, ty, q1⟩ => ?_)
  obtain ⟨h1, h2⟩ := tyV_is I1 r1 ty
  exact ⟨T, id, pa, slot, hty, h1, h2, Calls.callWith_builtin rfl (PySem.evalArgs_none (hm pins s1 σ H1 x [] v [] Q I1 r1 .nil q1))⟩
theorem pe_bm (pa : PlainAttrs T) (slot : Slot T name id) (hty : typeOf (.builtin id) = pure (.type "method_descriptor")) (hm : MtR X id r) (ho : PE X o to) (ha : PA X (e :: es) t)
    (hbase : attributeBase o name X.env (eval o X.env) = eval o X.env := by rfl)
    (hfew : ((backTo cpos (starEach (e :: es) X.env)).all (fun x => !x.1) && (backToKw cpos (keywordEach [] X.env)).all (fun x => x.1.isSome)
      && decide ((e :: es).length + ([] : List Keyword).length + (if ([] : List Keyword).isEmpty then 0 else 1) < 30)) = true := by rfl)
    (hline : (apos.endLine == cpos.line) = true := by rfl) (hs : starEach (e :: es) X.env = (false, eval e X.env) :: starEach es X.env := by rfl) (hplain : (backTo cpos (starEach es X.env)).any (·.1) = false := by rfl) :
    PE X (.Call (.Attribute o name apos) (e :: es) [] cpos) (tBM X.K T r to t) := by
  intro pins s σ H Q I h
  refine wpAny_Call_method_late hbase hfew hline rfl (thn (ho pins s σ H _ I h) fun v s1 ⟨x, H1, I1, r1, ty, q1⟩ => ?_)
  obtain ⟨h1, h2⟩ := tyV_is I1 r1 ty
  refine ⟨T, id, pa, slot, hty, h1, h2, ?_⟩
  have hA := ha cpos pins s1 σ H1 _ I1 q1
  rw [hs] at hA ⊢
  refine Calls.callWith_builtin (by show (false || (backTo cpos (starEach es X.env)).any (·.1)) = false; rw [hplain] <;> rfl) (Calls.evalArgs_plain ?_)
  exact thn hA fun us s2 ⟨vs, H2, I2, r2, q2⟩ => hm pins s2 σ H2 x vs v us Q I2 r1 r2 q2
end
end L2
namespace L2
open PySem PySem.Spec PyProof.Rows
def MtM (X : Cx) (id : String) (r : V → List V → Hp → VK → Prop) : Prop :=
  ∀ (pins : List (Addr × Obj)) (s : Shared) (σ : St) (H : Hp) (x : V) (xs : List V) (v : Value) (us : List Value) (Q : VK), Inv X pins σ H s → RelV x v → Vals xs us → r x xs H Q →
    wpAny (model X.prog X.w) X.A (call (.builtin id) (v :: us)) (EP X pins σ Q) X.xe s
theorem Vals.one : ∀ {x : V} {us : List Value}, Vals [x] us → ∃ u, us = [u] ∧ RelV x u
  | _, _, .cons r .nil => ⟨_, rfl, r⟩
theorem Vals.two : ∀ {x y : V} {us : List Value}, Vals [x, y] us → ∃ u v, us = [u, v] ∧ RelV x u ∧ RelV y v
  | _, _, _, .cons r (.cons q .nil) => ⟨_, _, rfl, r, q⟩
theorem Vals.zero : ∀ {us : List Value}, Vals [] us → us = []
  | _, .nil => rfl
theorem Vals.dropLast {xs : List V} {us : List Value} (h : Vals xs us) : Vals xs.dropLast us.dropLast := by
  induction h with
  | nil => exact .nil
  | cons r t ih =>
    cases t with
    | nil => exact .nil
    | cons q t' => exact .cons r ih
theorem erase_last {α : Type} (l : List α) : l.eraseIdx (l.length - 1) = l.dropLast := by
  induction l with
  | nil => rfl
  | cons a r ih =>
    cases r with
    | nil => rfl
    | cons b r =>
      have e : (a :: b :: r).length - 1 = ((b :: r).length - 1) + 1 := by
        have h1 : (a :: b :: r).length = r.length + 2 := rfl
        have h2 : (b :: r).length = r.length + 1 := rfl
        omega
      rw [e, List.eraseIdx_cons_succ, ih]
      all_goals rfl
section
variable {X : Cx} {pins : List (Addr × Obj)} {σ : St} {H : Hp} {s : Shared} {l b : Addr} {xs ys zs : List V}
theorem Inv.lset {its its' : List Value} {n : Nat} {f : Array Value → Array Value} {t' : Nat} (I : Inv X pins σ H s) (hH : H l = some (.lst xs))
    (e : s.heap.get? l = some { cls := .type "list", data := .seq its.toArray n }) (hf : f its.toArray = its'.toArray) (hv : Vals ys its') (hz : ys.length ≤ sizeLine) :
    Inv X pins σ (upd H l (.lst ys)) { s with heap := s.heap.update l (Obj.mapSeq f), toks := t' } := by
  have q := PySem.IsL.update e f
  rw [hf] at q
  refine I.write (x := l) (e := l) (by rw [hH]; exact trivial) (.inl rfl) (fun b' u hb hu => (Heap.get?_update_other s.heap (Obj.mapSeq f) (Ne.symm hb)).trans hu) ⟨_, q⟩ ?_
  exact ⟨hz, its', _, hv, q⟩
theorem Inv.lstM (I : Inv X pins σ H s) (hH : H l = some (.lst xs)) : xs.length ≤ sizeLine ∧ ∃ (its : List Value) (n : Nat), Vals xs its ∧ xs.length = its.length ∧ s.heap.get? l = some { cls := .type "list", data := .seq its.toArray n } := by
  obtain ⟨z, its, n, r, e⟩ := I.hok l _ hH
  exact ⟨z, its, n, r, r.length, e⟩
end
section
variable {X : Cx}
def rAppend : V → List V → Hp → VK → Prop := fun x vs H Q => ∃ l xs y, x = .ref l ∧ vs = [y] ∧ H l = some (.lst xs) ∧ xs.length < sizeLine ∧ Q .non (upd H l (.lst (xs ++ [y])))
theorem mt_append : MtM X "list.append" rAppend := by
  intro pins s σ H x vs v us Q I rx rv h
  obtain ⟨l, xs, y, rfl, rfl, hH, hz, q⟩ := h
  cases rx
  obtain ⟨u, rfl, ru⟩ := rv.one
  obtain ⟨z, its, n, r, hl, e⟩ := I.lstM hH
  refine call_meets F.slot_list_append ⟨_, e, rfl⟩ F.entry_list_append (F.args_list_append_2 _ _) (PySem.list_append l its.toArray n u (by rw [List.size_toArray]; omega)) ⟨e, ?_⟩
  refine ⟨.non, _, I.lset (its' := its ++ [u]) hH e (by simp) (r.append (.cons ru .nil)) ?_, rfl, q⟩
  rw [List.length_append, List.length_singleton]
  omega
def rPop : V → List V → Hp → VK → Prop := fun x vs H Q => ∃ l xs y, x = .ref l ∧ vs = [] ∧ H l = some (.lst xs) ∧ xs[xs.length - 1]? = some y ∧ Q y (upd H l (.lst xs.dropLast))
theorem mt_pop : MtM X "list.pop" rPop := by
  intro pins s σ H x vs v us Q I rx rv h
  obtain ⟨l, xs, y, rfl, rfl, hH, hy, q⟩ := h
  cases rx
  have hus := rv.zero
  subst hus
  obtain ⟨z, its, n, r, hl, e⟩ := I.lstM hH
  obtain ⟨u, hu, ru⟩ := r.get hy
  have hy' : its.toArray[its.toArray.size - 1]? = some u := by
    show its.toArray[its.length - 1]? = some u
    rw [← Array.getElem?_toList, ← hl]
    exact hu
  refine call_meets F.slot_list_pop ⟨_, e, rfl⟩ F.entry_list_pop (F.args_list_pop_1 _) (MeetsSeq.list_pop_last l its.toArray n u hy' (by rw [List.size_toArray]; omega)) ⟨e, ?_⟩
  refine ⟨y, _, I.lset (its' := its.dropLast) hH e ?_ r.dropLast ?_, ru, q⟩
  · show its.toArray.eraseIdxIfInBounds (its.toArray.size - 1) = its.dropLast.toArray
    rw [List.size_toArray, List.eraseIdxIfInBounds_toArray, erase_last]
  · rw [List.length_dropLast]
    omega
end
end L2
namespace L2
open PySem PySem.Spec PyProof.Rows
theorem vals_of_ints : ∀ {us : List Value} {ns : List Int}, IntsAre us ns → Vals (ns.map V.int) us
  | _, _, .nil => by rw [List.map_nil]; exact Paired.nil
  | _, _, .cons n t h => by rw [List.map_cons]; exact Paired.cons (show RelV (V.int n) (Value.int n t) from ⟨t, rfl⟩) (vals_of_ints h)
theorem Vals.bls : ∀ {bs : List Bool} {us : List Value}, Vals (bs.map V.bl) us → us = bs.map Value.bool
  | [], us, h => by
    rw [List.map_nil] at h
    cases h
    rfl
  | b :: bs, us, h => by
    rw [List.map_cons] at h
    cases h with
    | cons r t =>
      cases r
      rw [Vals.bls t, List.map_cons]
theorem Vals.ref1 {a : Addr} {us : List Value} (r : Vals [V.ref a] us) : us = [Value.ref a] := by
  cases r with
  | cons r t =>
    cases t
    cases r
    rfl
theorem iter_any {prog : Program} {w : World} {A : Around} {E : Value → Shared → Prop} {s : Shared} {l : Addr} {items : Array Value} {Q : Value → Shared → Prop} (hl : s.heap.IsList l items)
    (h : ∀ s₂ : Shared, s₂ = { s with heap := s.heap.push { cls := .type "list_iterator", data := .fields #[.ref l, .int 0 0] } } →
      (s₂.heap.IsListIter s.heap.objs.size l 0 ∧ s₂.heap.IsList l items) → l ≠ s.heap.objs.size → Q (.ref s.heap.objs.size) s₂) : wpAny (model prog w) A (pyIter (.ref l)) Q E s := by
  have hlt : l < s.heap.objs.size := by obtain ⟨_, e, _⟩ := hl; exact Heap.lt_size e
  exact wpAny_pyIter_list hl (h _ rfl ⟨⟨_, Heap.get?_push_size _ rfl, rfl, rfl⟩, hl.push _⟩ (Nat.ne_of_lt hlt))
theorem truth_bools {prog : Program} {w : World} {A : Around} {bs : List Bool} {its : List Value} (e : its = bs.map Value.bool) :
    TruthOf prog w A (fun i v => its.toArray[i]? = some v) (fun i => bs.getD i false) := fun i v s Q E hv hq => by
  have hv' : its[i]? = some v := by simpa using hv
  rw [e, List.getElem?_map] at hv'
  obtain ⟨b, hb, rfl⟩ := Option.map_eq_some_iff.mp hv'
  have hg : bs.getD i false = b := by rw [List.getD_eq_getElem?_getD, hb] <;> rfl
  have hq' : Q (bs.getD i false) s := hq
  rw [hg] at hq'
  exact wpAny_truthy_bool hq'
theorem any_range : ∀ bs : List Bool, (List.range bs.length).any (fun i => bs.getD i false) = bs.any id
  | [] => rfl
  | b :: bs => by
    rw [List.length_cons, List.range_succ_eq_map, List.any_cons, List.any_map, List.any_cons, ← any_range bs]
    all_goals rfl
theorem all_range : ∀ bs : List Bool, (List.range bs.length).all (fun i => bs.getD i false) = bs.all id
  | [] => rfl
  | b :: bs => by
    rw [List.length_cons, List.range_succ_eq_map, List.all_cons, List.all_map, List.all_cons, ← all_range bs]
    all_goals rfl
section
variable {X : Cx}
def rAll (K : PySem.W.Frag) : List V → Hp → VK → Prop := fun vs H Q => ∃ (a : Addr) (bs : List Bool), vs = [V.ref a] ∧ SqL K H a (bs.map V.bl) ∧ Q (.bl (bs.all id)) H
theorem cr_all (hc : X.calm = true) : CallR X (.builtin "all") (rAll X.K) := by
  intro pins s σ H vs us Q I r h
  obtain ⟨a, bs, rfl, hs, q⟩ := h
  obtain ⟨its, rv, hl, _⟩ := I.list hs
  rw [Vals.ref1 r]
  have hb := rv.bls
  refine call_all_walk (iter_any hl.isList fun s₂ e2 st hne => ?_)
  subst e2
  refine ⟨_, _, _, _, _, _, _, rfl, Walks.list (A := X.A.in1) (I.ok.hd hc) _ a hne its.toArray, st, truth_bools hb, fun h' tk hk => ?_⟩
  refine ⟨.bl _, H, I.kept fun b o eo => hk b o (fun hmem => ?_) (Heap.get?_push_of_some _ eo), ?_, q⟩
  · rcases List.mem_cons.mp hmem with e1 | hmem
    · exact absurd (e1 ▸ Heap.lt_size eo) (Nat.lt_irrefl _)
    · cases hmem
  · show Value.bool _ = Value.bool _
    rw [← all_range, hb, List.size_toArray, List.length_map]
end
mutual
inductive Dp (K : PySem.W.Frag) (H : Hp) : V → PyData → Prop
  | non : Dp K H .non .none
  | bl (b : Bool) : Dp K H (.bl b) (.bool b)
  | int (i : Int) : Dp K H (.int i) (.int i)
  | str (x : Str) : Dp K H (.str x) (.str x)
  | lst {a : Addr} {xs : List V} {ds : List PyData} : SqL K H a xs → DpAll K H xs ds → Dp K H (.ref a) (.list ds)
  | tup {a : Addr} {xs : List V} {ds : List PyData} : SqT K H a xs → DpAll K H xs ds → Dp K H (.ref a) (.tuple ds)
inductive DpAll (K : PySem.W.Frag) (H : Hp) : List V → List PyData → Prop
  | nil : DpAll K H [] []
  | cons {v : V} {vs : List V} {d : PyData} {ds : List PyData} : Dp K H v d → DpAll K H vs ds → DpAll K H (v :: vs) (d :: ds)
end
section
variable {X : Cx} {pins : List (Addr × Obj)} {σ : St} {H : Hp} {s : Shared}
mutual
theorem Dp.reads (I : Inv X pins σ H s) : ∀ (d : PyData) (v : V) (u : Value), Dp X.K H v d → RelV v u → ∃ as, Reads s.heap u d as
  | .none, _, _, h, r => by
    cases h
    cases r
    exact ⟨_, Reads.none⟩
  | .bool b, _, _, h, r => by
    cases h
    cases r
    exact ⟨_, Reads.bool b⟩
  | .int i, _, _, h, r => by
    cases h
    obtain ⟨t, rfl⟩ := r
    exact ⟨_, Reads.int i t⟩
  | .str x, _, _, h, r => by
    cases h
    obtain ⟨t, rfl⟩ := r
    exact ⟨_, Reads.str x t⟩
  | .list ds, _, _, h, r => by
    cases h with
    | lst hs ha =>
      cases r
      obtain ⟨its, rv, ⟨o, n, ho, hc, _, hd⟩, _⟩ := I.list hs
      obtain ⟨as, hr⟩ := Dp.readsAll I ds _ its ha rv
      exact ⟨_, Reads.list ho hc hd hr⟩
  | .tuple ds, _, _, h, r => by
    cases h with
    | tup hs ha =>
      cases r
      obtain ⟨its, rv, ⟨o, ho, hc, n, hd⟩, _⟩ := I.tuple hs
      obtain ⟨as, hr⟩ := Dp.readsAll I ds _ its ha rv
      exact ⟨_, Reads.tuple ho hc hd hr⟩
  | .dict _, _, _, h, _ => by cases h
theorem Dp.readsAll (I : Inv X pins σ H s) : ∀ (ds : List PyData) (vs : List V) (us : List Value), DpAll X.K H vs ds → Vals vs us → ∃ as, ReadsAll s.heap us ds as
  | [], _, _, h, r => by
    cases h
    cases r
    exact ⟨_, ReadsAll.nil⟩
  | d :: ds, _, _, h, r => by
    cases h with
    | cons h1 h2 =>
      cases r with
      | cons r1 r2 =>
        obtain ⟨as, q1⟩ := Dp.reads I d _ _ h1 r1
        obtain ⟨bs, q2⟩ := Dp.readsAll I ds _ _ h2 r2
        exact ⟨_, ReadsAll.cons q1 q2⟩
end
end
section
variable {X : Cx}
def rNeD (K : PySem.W.Frag) : R2 := fun x y H Q => ∃ d e, Dp K H x d ∧ Dp K H y e ∧ SeqAt.shaped d = true ∧ SeqAt.shaped e = true ∧ Q (.bl (!PyData.eqv d e)) H
theorem op_neD (hu : X.A.units + 64 < cLine) : OpR X (compareOp .NotEq) (rNeD X.K) := by
  intro pins s σ H x y v u Q I rx ry h
  obtain ⟨d, e, hd, he, sd, se, q⟩ := h
  obtain ⟨as, r1⟩ := Dp.reads I d x v hd rx
  obtain ⟨bs, r2⟩ := Dp.reads I e y u he ry
  exact SeqAt.compareNe_shaped r1 r2 sd se hu ⟨.bl _, H, I, rfl, q⟩
end
end L2
namespace L2
open PySem PySem.Spec PyProof.Rows
abbrev CellAt (h : Heap) (c : Addr) (v : Option Value) : Prop := h.IsCell c v
def relS (scope sc : Scope) : Scope :=
  { scope with names := scope.names.map fun (n, k) => if (k == .free && sc.kind == .function && sc.names.lookup n == some .cell) then (n, .cell) else (n, k) }
def cloFrom (cells : List (Str × Addr)) : List (Str × NameKind) → List (Str × Addr) → List (Str × Addr)
  | [], acc => acc
  | (n, k) :: r, acc => if k == .free then cloFrom cells r ((n, (cells.lookup n).getD 0) :: acc) else cloFrom cells r acc
theorem closure_loop (env : Env) (f : Str × NameKind → List (Str × Addr) → Sem (ForInStep (List (Str × Addr))))
    (hf : ∀ n k c, f (n, k) c = if k == .free then (do let a ← cellOf env n; pure (.yield ((n, a) :: c))) else pure (.yield c)) :
    ∀ (names : List (Str × NameKind)) (acc : List (Str × Addr)), (∀ y ∈ names, y.2 = .free → ∃ c, env.cells.lookup y.1 = some c) → forIn names acc f = pure (cloFrom env.cells names acc)
  | [], acc, _ => by rw [List.forIn_nil]; rfl
  | (n, k) :: r, acc, h => by
    rw [List.forIn_cons, hf]
    have ih := fun acc => closure_loop env f hf r acc fun y hy => h y (List.mem_cons_of_mem _ hy)
    unfold cloFrom
    by_cases hk : (k == NameKind.free) = true
    · rw [if_pos hk, if_pos hk]
      obtain ⟨c, hc⟩ := h (n, k) List.mem_cons_self (by simpa using hk)
      have e : cellOf env n = pure c := by unfold cellOf; rw [hc]
      rw [e]
      have e2 : (env.cells.lookup n).getD 0 = c := by rw [hc]; rfl
      rw [e2]
      exact ih _
    · rw [if_neg hk, if_neg hk]
      exact ih _
theorem closure_ok {scope : Scope} {env : Env} (h : ∀ y ∈ scope.names, y.2 = .free → ∃ c, env.cells.lookup y.1 = some c) : closureFor scope env = pure (cloFrom env.cells scope.names []) := by
  simp only [closureFor]
  rw [closure_loop env _ (fun n k c => rfl) scope.names [] h]
  rfl
theorem mem_lookup {α : Type} : ∀ {l : List (Str × α)} {n : Str} {c : α}, (n, c) ∈ l → ∃ c', l.lookup n = some c'
  | (k, v) :: r, n, c, h => by
    rw [List.lookup_cons]
    cases hb : n == k with
    | true => exact ⟨_, rfl⟩
    | false =>
      rcases List.mem_cons.mp h with e | h
      · cases e; simp at hb
      · exact mem_lookup h
theorem cloFrom_mem {cells : List (Str × Addr)} : ∀ {names : List (Str × NameKind)} {acc : List (Str × Addr)} {n : Str} {c : Addr}, (n, c) ∈ cloFrom cells names acc → (n, c) ∈ acc ∨ ((n, .free) ∈ names ∧ c = (cells.lookup n).getD 0)
  | [], _, _, _, h => .inl h
  | (m, k) :: r, acc, n, c, h => by
    unfold cloFrom at h
    split at h
    · rename_i hk
      have hk : k = .free := by simpa using hk
      rcases cloFrom_mem h with h | ⟨h1, h2⟩
      · rcases List.mem_cons.mp h with e | h
        · cases e; exact .inr ⟨hk ▸ List.mem_cons_self, rfl⟩
        · exact .inl h
      · exact .inr ⟨List.mem_cons_of_mem _ h1, h2⟩
    · rcases cloFrom_mem h with h | ⟨h1, h2⟩
      · exact .inl h
      · exact .inr ⟨List.mem_cons_of_mem _ h1, h2⟩
theorem cloFrom_acc {cells : List (Str × Addr)} : ∀ {names : List (Str × NameKind)} {acc : List (Str × Addr)} {p : Str × Addr}, p ∈ acc → p ∈ cloFrom cells names acc
  | [], _, _, h => h
  | (m, k) :: r, acc, p, h => by
    unfold cloFrom
    split
    · exact cloFrom_acc (List.mem_cons_of_mem _ h)
    · exact cloFrom_acc h
theorem cloFrom_has {cells : List (Str × Addr)} : ∀ {names : List (Str × NameKind)} {acc : List (Str × Addr)} {n : Str}, (n, .free) ∈ names → (n, (cells.lookup n).getD 0) ∈ cloFrom cells names acc
  | (m, k) :: r, acc, n, h => by
    unfold cloFrom
    rcases List.mem_cons.mp h with e | h
    · cases e
      exact cloFrom_acc List.mem_cons_self
    · split
      · exact cloFrom_has h
      · exact cloFrom_has h
theorem cells_mem : ∀ {names : List (Str × NameKind)} {h : Heap} {acc : List (Str × Addr)} {x : Str} {c : Addr}, (x, c) ∈ cellsFrom h.objs.size names acc →
    (x, c) ∈ acc ∨ ((x, .cell) ∈ names ∧ h.objs.size ≤ c ∧ CellAt (pushCells h names) c none)
  | [], _, _, _, _, h => .inl h
  | (n, k) :: r, h, acc, x, c, hm => by
    unfold cellsFrom at hm
    unfold pushCells
    split at hm
    · rename_i hk
      rw [if_pos hk]
      have hk : k = .cell := by simpa using hk
      rw [← Heap.size_push h { cls := .type "cell", data := .cell none }] at hm
      rcases cells_mem hm with hm | ⟨h1, h2, h3⟩
      · rcases List.mem_cons.mp hm with e | hm
        · cases e
          exact .inr ⟨hk ▸ List.mem_cons_self, Nat.le_refl _, _, pushCells_keeps r _ _ _ (Heap.get?_push_size _ rfl), rfl⟩
        · exact .inl hm
      · rw [Heap.size_push] at h2
        exact .inr ⟨List.mem_cons_of_mem _ h1, Nat.le_of_succ_le h2, h3⟩
    · rename_i hk
      rw [if_neg hk]
      rcases cells_mem hm with hm | ⟨h1, h2, h3⟩
      · exact .inl hm
      · exact .inr ⟨List.mem_cons_of_mem _ h1, h2, h3⟩
theorem cells_acc : ∀ {names : List (Str × NameKind)} {n : Nat} {acc : List (Str × Addr)} {p : Str × Addr}, p ∈ acc → p ∈ cellsFrom n names acc
  | [], _, _, _, h => h
  | (m, k) :: r, n, acc, p, h => by
    unfold cellsFrom
    split
    · exact cells_acc (List.mem_cons_of_mem _ h)
    · exact cells_acc h
theorem cells_has : ∀ {names : List (Str × NameKind)} {n : Nat} {acc : List (Str × Addr)} {x : Str}, (x, .cell) ∈ names → ∃ c, (x, c) ∈ cellsFrom n names acc
  | (m, k) :: r, n, acc, x, h => by
    unfold cellsFrom
    rcases List.mem_cons.mp h with e | h
    · cases e
      exact ⟨n, cells_acc List.mem_cons_self⟩
    · split
      · exact cells_has h
      · exact cells_has h
theorem cells_inj : ∀ {names : List (Str × NameKind)} {h : Heap} {acc : List (Str × Addr)} {x y : Str} {c : Addr}, (∀ p ∈ acc, p.2 < h.objs.size) → (∀ x y c, (x, c) ∈ acc → (y, c) ∈ acc → x = y) →
    (x, c) ∈ cellsFrom h.objs.size names acc → (y, c) ∈ cellsFrom h.objs.size names acc → x = y
  | [], _, _, _, _, _, _, hi, h1, h2 => hi _ _ _ h1 h2
  | (n, k) :: r, h, acc, x, y, c, hl, hi, h1, h2 => by
    unfold cellsFrom at h1 h2
    split at h1
    · rename_i hk
      rw [if_pos hk] at h2
      rw [← Heap.size_push h { cls := .type "cell", data := .cell none }] at h1 h2
      refine cells_inj (h := h.push _) (fun p hp => ?_) (fun x y c a b => ?_) h1 h2
      · rw [Heap.size_push]
        rcases List.mem_cons.mp hp with rfl | hp
        · exact Nat.lt_succ_self _
        · exact Nat.lt_succ_of_lt (hl p hp)
      · rcases List.mem_cons.mp a with e | a <;> rcases List.mem_cons.mp b with e' | b
        · cases e; cases e'; rfl
        · cases e; exact absurd (hl _ b) (Nat.lt_irrefl _)
        · cases e'; exact absurd (hl _ a) (Nat.lt_irrefl _)
        · exact hi _ _ _ a b
    · rename_i hk
      rw [if_neg hk] at h2
      exact cells_inj hl hi h1 h2
theorem newEnv_comp {M : Model} {A : Around} {E : Value → Shared → Prop} {s : Shared} {scope : Scope} {globals : Addr} {closure : List (Str × Addr)} {qual : Str} {func : Option Addr} {code : Value} {around : Env} {builtins : Addr} {Q : Env → Shared → Prop}
    (h : Q (newEnv scope s.heap.objs.size globals (cellsFrom (s.heap.objs.size + 1) scope.names closure) qual func code (some around) builtins)
      { s with heap := pushCells (s.heap.push { cls := .type "dict", data := .dict #[] }) scope.names }) :
    wpAny M A (newFunctionEnv scope globals closure [] qual func code (some around) builtins) Q E s := by
  simp only [newFunctionEnv, Option.isSome_some, if_true]
  refine wpAny_bind (wpAny_alloc ?_)
  refine wpAny_bind (wpAny_layCells _ (fun n k c => rfl) scope.names closure _ _ ?_)
  rw [show ({ s with heap := s.heap.push { cls := .type "dict", data := .dict #[] } } : Shared).heap.objs.size = s.heap.objs.size + 1 from Heap.size_push ..]
  rw [List.forIn_nil]
  exact wpAny_bind (wpAny_pure (wpAny_pure h))
theorem lookup_relS {sc : Scope} : ∀ {names : List (Str × NameKind)} {x : Str} {k : NameKind},
    (names.map fun (n, k) => if (k == NameKind.free && sc.kind == .function && sc.names.lookup n == some .cell) then (n, NameKind.cell) else (n, k)).lookup x = some k →
    ∃ k', names.lookup x = some k' ∧ (k = k' ∨ (k' = .free ∧ k = .cell))
  | [], _, _, h => by simp at h
  | (n, k₀) :: r, x, k, h => by
    have ih := @lookup_relS sc r x k
    have h' : List.lookup x ((if (k₀ == NameKind.free && sc.kind == .function && sc.names.lookup n == some .cell) = true then (n, NameKind.cell) else (n, k₀)) :: (r.map _)) = some k := h
    cases hx : x == n with
    | true =>
      simp only [List.lookup_cons, hx]
      by_cases hc : (k₀ == NameKind.free && sc.kind == .function && sc.names.lookup n == some .cell) = true
      · rw [if_pos hc] at h'
        simp only [List.lookup_cons, hx] at h'
        cases h'
        simp only [Bool.and_eq_true, beq_iff_eq] at hc
        exact ⟨k₀, rfl, .inr ⟨hc.1.1, rfl⟩⟩
      · rw [if_neg hc] at h'
        simp only [List.lookup_cons, hx] at h'
        cases h'
        exact ⟨_, rfl, .inl rfl⟩
    | false =>
      simp only [List.lookup_cons, hx]
      by_cases hc : (k₀ == NameKind.free && sc.kind == .function && sc.names.lookup n == some .cell) = true
      · rw [if_pos hc] at h'
        simp only [List.lookup_cons, hx] at h'
        exact ih h'
      · rw [if_neg hc] at h'
        simp only [List.lookup_cons, hx] at h'
        exact ih h'
structure BlkOk (N : List Str) (sc scope : Scope) (own : List (Str × Nat)) : Prop where
  kind : scope.kind = .function
  uniq : ∀ y ∈ scope.names, scope.names.lookup y.1 = some y.2
  ix : ∀ p ∈ own, N[p.2]? = some p.1
  free : ∀ y ∈ scope.names, y.2 = .free → sc.names.lookup y.1 = some .cell ∨ sc.names.lookup y.1 = some .free
  own : ∀ y ∈ scope.names, y.2 = .local ∨ y.2 = .cell → y.1 ∈ own.map (·.1) ∨ y.1 ∉ N
def wipe (σ : St) : List Nat → St
  | [] => σ
  | v :: vs => (wipe σ vs).set v none
theorem wipe_length (σ : St) : ∀ vs : List Nat, (wipe σ vs).length = σ.length
  | [] => rfl
  | v :: vs => by unfold wipe; rw [List.length_set, wipe_length σ vs]
theorem wipe_some {σ : St} {i : Nat} {x : V} : ∀ {vs : List Nat}, (wipe σ vs)[i]? = some (some x) → σ[i]? = some (some x) ∧ i ∉ vs
  | [], h => ⟨h, by simp⟩
  | v :: vs, h => by
    unfold wipe at h
    by_cases hi : v = i
    · subst hi
      by_cases hv : v < (wipe σ vs).length
      · rw [List.getElem?_set_self hv] at h; cases h
      · rw [List.getElem?_eq_none (by simpa using hv)] at h; cases h
    · rw [List.getElem?_set_ne hi] at h
      obtain ⟨h1, h2⟩ := wipe_some h
      exact ⟨h1, by simp only [List.mem_cons, not_or]; exact ⟨fun e => hi e.symm, h2⟩⟩
abbrev Cx.blk (X : Cx) (s : Shared) (H : Hp) (scope : Scope) (cenv : Env) (fp : List Addr) : Cx := { X with s₀ := s, H₀ := H, env := cenv, outer := X.stack, ex := fp, fn := fun x => scope.names.lookup x == some .cell, pn := [], xe := fun _ _ => False }
section
variable {X : Cx} {pins : List (Addr × Obj)} {σ : St} {H : Hp} {s : Shared}
theorem block_start {scope : Scope} {own : List (Str × Nat)} {fp : List Addr} (I : Inv X pins σ H s) (ok : BlkOk X.N X.env.scope scope own) (hN : X.N.Nodup) (hfp : ∀ b ∈ fp, FpOk X pins H b ∧ b < s.heap.objs.size) :
    Inv (X.blk s H scope (compEnvC scope (cellsFrom (s.heap.objs.size + 1) scope.names (cloFrom X.env.cells scope.names [])) s.heap.objs.size X.env) fp) [] (wipe σ (own.map (·.2))) H { s with heap := pushCells (s.heap.push { cls := .type "dict", data := .dict #[] }) scope.names } := by
  have hfree : ∀ y ∈ scope.names, y.2 = .free → ∃ c, X.env.cells.lookup y.1 = some c := fun y hy e => by
    rcases ok.free y hy e with k | k
    · exact I.ok.has _ (.inl k)
    · exact I.ok.has _ (.inr k)
  generalize hcenv : compEnvC scope (cellsFrom (s.heap.objs.size + 1) scope.names (cloFrom X.env.cells scope.names [])) s.heap.objs.size X.env = cenv
  have kp : ∀ b o, s.heap.get? b = some o → (pushCells (s.heap.push { cls := .type "dict", data := .dict #[] }) scope.names).get? b = some o := fun b o e => pushCells_keeps _ _ _ _ (Heap.get?_push_of_some _ e)
  have hL : cenv.locals = s.heap.objs.size := by rw [← hcenv]; rfl
  have hcl : cenv.cells = cellsFrom (s.heap.objs.size + 1) scope.names (cloFrom X.env.cells scope.names []) := by rw [← hcenv]; rfl
  have hsc : cenv.scope = relS scope X.env.scope := by rw [← hcenv]; rfl
  rw [← Heap.size_push s.heap { cls := .type "dict", data := .dict #[] }] at hcl
  have cm : ∀ {y c}, (y, c) ∈ cloFrom X.env.cells scope.names [] → X.env.cells.lookup y = some c ∧ c < s.heap.objs.size := fun {y c} hm => by
    rcases cloFrom_mem hm with hm | ⟨h1, rfl⟩
    · cases hm
    · obtain ⟨c, hc⟩ := hfree _ h1 rfl
      rw [hc]
      obtain ⟨w, z⟩ := I.cell _ _ hc
      exact ⟨rfl, z.lt⟩
  have mem : ∀ {y c}, cenv.cells.lookup y = some c → (X.env.cells.lookup y = some c ∧ c < s.heap.objs.size) ∨ (s.heap.objs.size + 1 ≤ c ∧ CellAt (pushCells (s.heap.push { cls := .type "dict", data := .dict #[] }) scope.names) c none) := fun {y c} e => by
    rw [hcl] at e
    rcases cells_mem (PySem.mem_of_lookup e) with hm | ⟨_, h2, h3⟩
    · exact .inl (cm hm)
    · rw [Heap.size_push] at h2; exact .inr ⟨h2, h3⟩
  have look : ∀ {y}, scope.names.lookup y = some .free → ∃ c, cenv.cells.lookup y = some c ∧ X.env.cells.lookup y = some c := fun {y} hl => by
    have hy : (y, NameKind.free) ∈ scope.names := PySem.mem_of_lookup hl
    obtain ⟨c', e'⟩ := mem_lookup (cells_acc (names := scope.names) (n := (s.heap.push { cls := .type "dict", data := .dict #[] }).objs.size) (cloFrom_has (cells := X.env.cells) (acc := []) hy))
    rw [← hcl] at e'
    refine ⟨c', e', ?_⟩
    rw [hcl] at e'
    rcases cells_mem (PySem.mem_of_lookup e') with hm | ⟨h1, _, _⟩
    · exact (cm hm).1
    · have := ok.uniq _ h1
      rw [hl] at this; cases this
  have okB : (X.blk s H scope cenv fp).Ok := by
    refine ⟨I.ok.mod, by show cenv.scope.kind = _; rw [hsc]; exact ok.kind, by show cenv.globals = _; rw [← hcenv]; exact I.ok.glob, by show cenv.builtins = _; rw [← hcenv]; exact I.ok.blt, by show s.heap.objs.size ≤ cenv.locals; rw [hL]; exact Nat.le_refl _,
      fun y z c e1 e2 => ?_, fun y hy => ?_, fun y c z e => ?_, I.ok.hd, I.ok.frames, .inl rfl, fun b hb => ⟨?_, fun y c e z => ?_⟩, I.bs, Nat.le_trans I.ok.bsz I.sz, fun b o e hb => ?_, fun b hb z => ?_, I.stack, I.stkFree⟩
    · have e1 : cenv.cells.lookup y = some c := e1
      have e2 : cenv.cells.lookup z = some c := e2
      rw [hcl] at e1 e2
      refine cells_inj (fun p hp => ?_) (fun y z c a b => I.ok.inj y z c (cm a).1 (cm b).1) (PySem.mem_of_lookup e1) (PySem.mem_of_lookup e2)
      rw [Heap.size_push]
      exact Nat.lt_succ_of_lt (cm (y := p.1) (c := p.2) hp).2
    · show ∃ c, cenv.cells.lookup y = some c
      have key : ∀ k, cenv.kindOf y = some k → (k = .cell ∨ k = .free) → ∃ c, cenv.cells.lookup y = some c := fun k hk hk' => by
        unfold Env.kindOf at hk
        rw [hsc] at hk
        obtain ⟨k', e, r⟩ := lookup_relS hk
        have : k' = .cell ∨ k' = .free := by
          rcases r with rfl | ⟨rfl, _⟩
          · exact hk'
          · exact .inr rfl
        rcases this with rfl | rfl
        · obtain ⟨c, hm⟩ := cells_has (n := (s.heap.push { cls := .type "dict", data := .dict #[] }).objs.size) (acc := cloFrom X.env.cells scope.names []) (PySem.mem_of_lookup e)
          obtain ⟨c', e'⟩ := mem_lookup hm
          exact ⟨c', by rw [hcl]; exact e'⟩
        · obtain ⟨c, h1, _⟩ := look e
          exact ⟨c, h1⟩
      rcases hy with hy | hy
      · exact key _ hy (.inl rfl)
      · exact key _ hy (.inr rfl)
    · have z : (scope.names.lookup y == some NameKind.cell) = true := z
      have z : scope.names.lookup y = some .cell := by simpa using z
      have e : cenv.cells.lookup y = some c := e
      rw [hcl] at e
      rcases cells_mem (PySem.mem_of_lookup e) with hm | ⟨_, h2, _⟩
      · rcases cloFrom_mem hm with hm | ⟨h1, _⟩
        · cases hm
        · have q := ok.uniq _ h1
          rw [z] at q; cases q
      · rw [Heap.size_push] at h2
        exact Nat.le_of_succ_le h2
    · show b ≠ cenv.locals
      rw [hL]; exact Nat.ne_of_lt (hfp b hb).2
    · have e : cenv.cells.lookup y = some c := e
      rcases mem e with ⟨h1, _⟩ | ⟨h1, _⟩
      · exact (hfp b hb).1.2.2.2.2.1 y c h1 z
      · have h2 : s.heap.objs.size + 1 ≤ b := by rw [← z]; exact h1
        exact absurd (Nat.lt_of_lt_of_le (hfp b hb).2 (Nat.le_of_succ_le h2)) (Nat.lt_irrefl _)
    · rcases (hfp b hb).1.2.2.2.1 with z | z
      · exact I.ok.noex b o e z
      · exact absurd (Nat.lt_of_lt_of_le (Heap.lt_size e) (Nat.le_trans I.ok.bsz z)) (Nat.lt_irrefl _)
    · rcases List.mem_cons.mp (I.stkSub b z) with z | z
      · exact (hfp b hb).1.2.1 z
      · exact (hfp b hb).1.2.2.1 z
  refine ⟨okB, rfl, I.bare, Un.kept kp, ⟨fun _ => none, ?_, fun i y av e1 e2 e3 => ?_⟩, fun y c e => ?_, ?_, fun y c e => ?_, fun p hp => ?_, I.hok.kept kp, by rw [wipe_length]; exact I.len⟩
  · show Heap.Ns _ cenv.locals _
    rw [hL]
    exact Heap.Ns.keeps (Heap.Ns.new ..) fun b o e => pushCells_keeps _ _ _ _ e
  · obtain ⟨e2, hne⟩ := wipe_some e2
    have hfr : scope.names.lookup y = some .free ∧ (cenv.kindOf y = some .cell ∨ cenv.kindOf y = some .free) := by
      have key : ∀ k, cenv.scope.names.lookup y = some k → k = .local ∨ k = .cell ∨ k = .free → scope.names.lookup y = some .free ∧ (cenv.kindOf y = some .cell ∨ cenv.kindOf y = some .free) := fun k hk hk' => by
        have hk0 := hk
        rw [hsc] at hk
        obtain ⟨k', e, r⟩ := lookup_relS hk
        have no : ¬ (k' = .local ∨ k' = .cell) := fun hh => by
          rcases ok.own _ (PySem.mem_of_lookup e) hh with e' | e'
          · obtain ⟨p, hp, hpy⟩ := List.mem_map.mp e'
            have e3 := ok.ix p hp
            have : p.1 = y := hpy
            rw [this] at e3
            exact hne (List.mem_map.mpr ⟨p, hp, nodup_ix hN e3 e1⟩)
          · exact e' (List.mem_of_getElem? e1)
        rcases r with rfl | ⟨rfl, rfl⟩
        · rcases hk' with rfl | rfl | rfl
          · exact absurd (.inl rfl) no
          · exact absurd (.inr rfl) no
          · exact ⟨e, .inr hk0⟩
        · exact ⟨e, .inl hk0⟩
      have e3 : Vis cenv.scope y := e3
      rcases e3 with e3 | e3 | e3
      · exact key _ e3 (.inl rfl)
      · exact key _ e3 (.inr (.inl rfl))
      · exact key _ e3 (.inr (.inr rfl))
    obtain ⟨m, hn, hl⟩ := I.loc
    have hvis : Vis X.env.scope y := (ok.free _ (PySem.mem_of_lookup hfr.1) rfl).elim (fun k => .inr (.inl k)) (fun k => .inr (.inr k))
    obtain ⟨w, r, q⟩ := hl i y av e1 e2 hvis
    refine ⟨w, r, .inr ⟨hfr.2, ?_⟩⟩
    obtain ⟨c, h1, h2⟩ := look hfr.1
    rcases q with ⟨k, _⟩ | ⟨_, c', e', z⟩
    · have k : X.env.scope.names.lookup y = some .local := k
      rcases ok.free _ (PySem.mem_of_lookup hfr.1) rfl with k' | k' <;> rw [show X.env.scope.names.lookup y = _ from k'] at k <;> cases k
    · rw [h2] at e'; cases e'
      exact ⟨c, h1, z.keeps kp⟩
  · have e : cenv.cells.lookup y = some c := e
    rcases mem e with ⟨h1, _⟩ | ⟨_, z⟩
    · obtain ⟨w, z⟩ := I.cell y c h1
      exact ⟨w, z.keeps kp⟩
    · exact ⟨_, z⟩
  · show H cenv.locals = none
    rw [hL]; exact I.hok.fresh (Nat.le_refl _)
  · have e : cenv.cells.lookup y = some c := e
    rcases mem e with ⟨h1, _⟩ | ⟨h1, _⟩
    · exact I.freeC y c h1
    · exact I.hok.fresh (Nat.le_of_succ_le h1)
  · exact absurd (show p ∈ ([] : List (Addr × Obj)) ++ [] from hp) (by simp)
theorem app_ok {E : Value → Shared → Prop} {D : Addr} {xs : List V} {y : V} {v : Value} {Q : Value → Shared → Prop} (I : Inv X pins σ H s) (hD : H D = some (.lst xs)) (hz : xs.length < sizeLine) (r : RelV y v)
    (h : ∀ s', Inv X pins σ (upd H D (.lst (xs ++ [y]))) s' → Q .none s') : wpAny (model X.prog X.w) X.A (call (.builtin "list.append") [.ref D, v]) Q E s := by
  obtain ⟨hz', its, n, ri, e⟩ := I.hok D _ hD
  have hl := ri.length
  refine append_at (hsz := by rw [List.size_toArray]; omega) e fun h' sb ho' => ?_
  refine h { s with heap := h' } (I.write (t' := s.toks) (by rw [hD]; trivial) (.inl rfl) (fun b u hb q => (sb.2 b hb).trans q) ⟨_, ho'⟩ ⟨by rw [List.length_append]; exact hz, its ++ [v], n + 1, ri.append (.cons r .nil), ?_⟩)
  rw [ho']
  simp
def PTs (X : Cx) (ifs : List Expr) (t : TT) : Prop :=
  ∀ (pins : List (Addr × Obj)) (s : Shared) (σ : St) (H : Hp) (Q : Bool → Hp → Prop), Inv X pins σ H s → t σ H Q →
    wpAny (model X.prog X.w) X.A (forIn ifs true fun c r => if r = true then do let ok ← isTrue c X.env (eval c X.env); pure (ForInStep.yield ok) else pure (ForInStep.yield r)) (TP X pins σ Q) X.xe s
def tYes : TT := fun _ H Q => Q true H
theorem pts_nil : PTs X [] tYes := fun _ _ _ H _ I h => wpAny_tests_nil ⟨H, I, h⟩
end
theorem thnF {α : Type} {t : Sem α} {Q Q' : α → Shared → Prop} {M : Model} {A : Around} {E : Value → Shared → Prop} {s : Shared} (h : wpAny M A t Q (fun _ _ => False) s) (hQ : ∀ a s, Q a s → Q' a s) : wpAny M A t Q' E s := wpAny_mono h hQ fun _ _ z => False.elim z
theorem compLoop_any {prog : Program} {w : World} {A : Around} {R : Result → Shared → Prop} {s : Shared} {elt target iter : Expr} {ifs : List Expr} {scope : Scope} {pos : Pos} {it acc : Value} {env : Env} (I : Nat → Shared → Prop)
    (turn : ∀ n s, I n s → wpAny (model prog w) A (pyNext it) (fun r s₁ => match r with
      | none => R (.ok .next) s₁
      | some v => wpAny (model prog w) A (letOwnedTupleGo target it v) (fun _ s₁' => wpAny (model prog w) A (assign target env v) (fun _ s₂ =>
          wpAny (model prog w) A (forIn ifs true fun c r => if r = true then do let ok ← isTrue c env (eval c env); pure (ForInStep.yield ok) else pure (ForInStep.yield r)) (fun ok s₃ =>
            if ok = true then wpAny (model prog w) A (eval elt env) (fun x s₄ =>
              wpAny (model prog w) A (call (.builtin "list.append") [acc, x]) (fun _ s₅ => ∃ m, m < n ∧ I m s₅) (notedBy (model prog w) A env fun e s' => R (.error e) s') s₄) (notedBy (model prog w) A env fun e s' => R (.error e) s') s₃
            else ∃ m, m < n ∧ I m s₃) (notedBy (model prog w) A env fun e s' => R (.error e) s') s₂) (notedBy (model prog w) A env fun e s' => R (.error e) s') s₁') (notedBy (model prog w) A env fun e s' => R (.error e) s') s₁) (notedBy (model prog w) A env fun e s' => R (.error e) s') s)
    (n : Nat) (h : I n s) :
    codeAny (model prog w) A (.compLoop (.ListComp elt [⟨target, iter, ifs, 0⟩] scope pos) 0 it acc env) R s := by
  refine codeAny_loop rfl I (fun n s hI => ?_) n h
  show wpAny _ A ((compTurn (.ListComp elt [⟨target, iter, ifs, 0⟩] scope pos) 0 it acc env).onRaise (fun x => do noteFrame x env; theTreesLotGoes x)) _ _ s
  refine wpAny_noted ?_
  rw [compTurn_list]
  refine wpAny_bind (wpAny_standAt (wpAny_bind (wpAny_mono (turn n s hI) (fun r s₁ h₁ => ?_) fun _ _ h' => h')))
  cases r with
  | none => exact wpAny_pure h₁
  | some v =>
    refine wpAny_bind (wpAny_mono h₁ (fun _ s₁' h₁' => ?_) fun _ _ h' => h')
    refine wpAny_bind (wpAny_mono h₁' (fun _ s₂ h₂ => wpAny_bind (wpAny_mono h₂ (fun ok s₃ h₃ => ?_) fun _ _ h' => h')) fun _ _ h' => h')
    cases ok with
    | false => exact wpAny_pure ⟨rfl, h₃⟩
    | true =>
      exact wpAny_bind (wpAny_bind (wpAny_mono h₃ (fun x s₄ h₄ => wpAny_bind (wpAny_mono h₄ (fun _ s₅ h₅ => wpAny_pure (wpAny_pure ⟨rfl, h₅⟩)) fun _ _ h' => h')) fun _ _ h' => h'))
section
variable {X : Cx}
def tLc (wi : TI) (g : TG) (tt : TT) (te : TE) (vs : List Nat) : TE := fun σ H Q => wi σ H fun J H1 => ∀ D, H1 D = none → ∃ W : Nat → Nat → Hp → Prop, (∃ m, W 0 m (upd H1 D (.lst []))) ∧ ∀ i m H, W i m H →
  (J.stop i H ∧ Q (.ref D) H) ∨ (J.go i H ∧ ∃ Nx : Hp → Prop, (∀ H', Nx H' → ∃ m', m' < m ∧ W (i + 1) m' H') ∧ ∀ x H', J.yld i H x H' → g x (wipe σ vs) H' fun σ2 H2 => wipe σ2 vs = wipe σ vs ∧ tt σ2 H2 fun b H3 =>
    if b = true then te σ2 H3 fun y H4 => ∃ acc, H4 D = some (.lst acc) ∧ acc.length < sizeLine ∧ Nx (upd H4 D (.lst (acc ++ [y]))) else Nx H3)
theorem lc_core {pins : List (Addr × Obj)} {s : Shared} {σ : St} {H : Hp} {Q : VK} {elt tg iter : Expr} {ifs : List Expr} {scope : Scope} {own : List (Str × Nat)} {pos pos' : Pos} {wi : TI} {g : TG} {tt : TT} {te : TE} {use : Option (Value → Sem Unit)} {Qf : Value → Shared → Prop}
    (hc : X.calm = true) (hN : X.N.Nodup) (I : Inv X pins σ H s) (hi : PI X tg iter wi) (ok : BlkOk X.N X.env.scope scope own)
    (hg : ∀ (s : Shared) (H : Hp) (C : Addr) (cl : List (Str × Addr)) (fp : List Addr), PG (X.blk s H scope (compEnvC scope cl C X.env) fp) tg g) (ht : ∀ (s : Shared) (H : Hp) (C : Addr) (cl : List (Str × Addr)) (fp : List Addr), PTs (X.blk s H scope (compEnvC scope cl C X.env) fp) ifs tt)
    (he : ∀ (s : Shared) (H : Hp) (C : Addr) (cl : List (Str × Addr)) (fp : List Addr), PE (X.blk s H scope (compEnvC scope cl C X.env) fp) elt te) (hs : ∀ x, foldedSetIterable iter X.env x = pure x)
    (h : tLc wi g tt te (own.map (·.2)) σ H Q)
    (hRR : ∀ D C s' m H', Inv X pins σ H' s' → Q (.ref D) H' → s'.heap.Ns C m → FpOk X pins H' C → compPost (model X.prog X.w) X.A X.xe use Qf (.ref D) C (.ok .next) s') :
    wpAny (model X.prog X.w) X.A (comprehension (.ListComp elt [⟨tg, iter, ifs, 0⟩] scope pos) scope X.env pos' (newList []) false (eval iter X.env) use) Qf X.xe s := by
  have hfree : ∀ y ∈ scope.names, y.2 = .free → ∃ c, X.env.cells.lookup y.1 = some c := fun y hy e => by
    rcases ok.free y hy e with k | k
    · exact I.ok.has _ (.inl k)
    · exact I.ok.has _ (.inr k)
  refine wpAny_comprehension_free (use := use) rfl hs (closure_ok hfree) ok.kind (fun y hy e => by rw [ok.uniq y hy, e])
    (thn (hi pins s σ H _ I h) fun xv s1 hx => thn hx fun itv s2 h2 => ?_)
  obtain ⟨it, fp, tn, J, H2, e, I2, T, st2, f2, q⟩ := h2
  subst e
  refine wpAny_newObj_type (newEnv_comp ?_) (by show 0 ≤ sizeLine; decide)
  generalize hD : s2.heap.objs.size = D
  have hDn : H2 D = none := I2.hok.fresh (Nat.le_of_eq hD)
  obtain ⟨W, ⟨m0, w0⟩, turn⟩ := q D hDn
  -- the new list
  generalize hs3 : ({ s2 with heap := s2.heap.push { cls := .type "list", data := .seq ([] : List Value).toArray } } : Shared) = s3
  have I3 : Inv X pins σ (upd H2 D (.lst [])) s3 := by
    rw [← hs3]
    refine I2.laid (t' := s2.toks) (fun b o e => Heap.get?_push_of_some _ e) (Nat.le_of_eq hD) ⟨Nat.zero_le _, [], 0, .nil, ?_⟩
    rw [← hD]
    exact Heap.get?_push_size _ rfl
  have h3 : s3.heap = s2.heap.push { cls := .type "list", data := .seq ([] : List Value).toArray } := by rw [← hs3]
  have sz : ∀ b ∈ fp, b < s2.heap.objs.size := fun b hb => by
    obtain ⟨o, e, _⟩ := T.obj _ _ st2 b hb
    exact Heap.lt_size e
  have f3 : ∀ b ∈ fp, FpOk X pins (upd H2 D (.lst [])) b ∧ b < s3.heap.objs.size := fun b hb => by
    have hlt := sz b hb
    refine ⟨⟨?_, (f2 b hb).2⟩, by rw [h3, Heap.size_push]; exact Nat.lt_succ_of_lt hlt⟩
    rw [upd_ne (by rw [← hD]; exact Nat.ne_of_lt hlt)]
    exact (f2 b hb).1
  have st3 : tn 0 s3.heap := T.keep _ _ _ st2 fun b _ o e => by rw [h3]; exact Heap.get?_push_of_some _ e
  have I4 := block_start I3 ok hN f3
  have pg := hg s3 (upd H2 D (.lst [])) s3.heap.objs.size (cellsFrom (s3.heap.objs.size + 1) scope.names (cloFrom X.env.cells scope.names [])) fp
  have pt := ht s3 (upd H2 D (.lst [])) s3.heap.objs.size (cellsFrom (s3.heap.objs.size + 1) scope.names (cloFrom X.env.cells scope.names [])) fp
  have pe := he s3 (upd H2 D (.lst [])) s3.heap.objs.size (cellsFrom (s3.heap.objs.size + 1) scope.names (cloFrom X.env.cells scope.names [])) fp
  show codeAny _ _ (.compStart (.ListComp elt [⟨tg, iter, ifs, 0⟩] scope pos) 0 (.ref it) (.ref D) (compEnvC scope (cellsFrom (s3.heap.objs.size + 1) scope.names (cloFrom X.env.cells scope.names [])) s3.heap.objs.size X.env)) (compPost (model X.prog X.w) X.A X.xe use Qf (.ref D) s3.heap.objs.size) { s3 with heap := pushCells (s3.heap.push { cls := .type "dict", data := .dict #[] }) scope.names }
  have nfp : ∀ b ∈ fp, (upd H2 D (.lst [])) b = none := fun b hb => (f3 b hb).1.1
  generalize hce : compEnvC scope (cellsFrom (s3.heap.objs.size + 1) scope.names (cloFrom X.env.cells scope.names [])) s3.heap.objs.size X.env = ce at I4 pg pt pe ⊢
  have cL : ce.locals = s3.heap.objs.size := by subst hce; rfl
  generalize hH3 : upd H2 D (.lst []) = H3 at I3 I4 pg pt pe w0 nfp f3
  generalize hs4 : ({ s3 with heap := pushCells (s3.heap.push { cls := .type "dict", data := .dict #[] }) scope.names } : Shared) = s4 at I4 ⊢
  have st4 : tn 0 s4.heap := T.keep _ _ _ st3 fun b _ o e => by rw [← hs4]; exact pushCells_keeps _ _ _ _ (Heap.get?_push_of_some _ e)
  have stat : ∀ {σ' : St} {H' : Hp} {s' : Shared}, Inv (X.blk s3 H3 scope ce fp) [] σ' H' s' → (∀ b ∈ fp, H' b = none) → ∀ b ∈ fp, FpOk (X.blk s3 H3 scope ce fp) [] H' b := fun {σ' H' s'} I' hn b hb =>
    ⟨hn b hb, (I'.ok.exf b hb).1, I'.ok.exfs b hb, .inl hb, fun x c e => (I'.ok.exf b hb).2 x c e, fun p hp => absurd (show p ∈ ([] : List (Addr × Obj)) ++ [] from hp) (by simp)⟩
  have loop : codeAny (model X.prog X.w) X.A (.compLoop (.ListComp elt [⟨tg, iter, ifs, 0⟩] scope pos) 0 (.ref it) (.ref D) ce) (compPost (model X.prog X.w) X.A X.xe use Qf (.ref D) s3.heap.objs.size) s4 := by
    refine compLoop_any (fun n s' => ∃ i H', Inv (X.blk s3 H3 scope ce fp) [] (wipe σ (own.map (·.2))) H' s' ∧ tn i s'.heap ∧ (∀ b ∈ fp, H' b = none) ∧ W i n H') ?_ m0 ⟨0, H3, I4, st4, nfp, w0⟩
    rintro n s5 ⟨i, H5, I5, st5, n5, w5⟩
    rcases turn i n H5 w5 with ⟨stop, qq⟩ | ⟨go, Nx, hNx, step⟩
    · have td := T.done (X.blk s3 H3 scope ce fp) rfl rfl rfl hc i [] s5 _ H5 (fun _ _ => False) I5 (stat I5 n5) st5 stop
      refine thnF td fun r s6 ⟨hr, I6⟩ => ?_
      subst hr
      -- back in the def's context
      have I7 : Inv X pins σ H5 s6 := I3.call' (ch := fp) I6.os I6.base I6.hok I6.bare fun b hb => ⟨(f3 b hb).1.2.2.2.1, (f3 b hb).1.2.1, (f3 b hb).1.2.2.2.2.1, (f3 b hb).1.2.2.2.2.2⟩
      have nC : H5 s3.heap.objs.size = none := by
        have z : H5 ce.locals = none := I6.free
        rw [cL] at z
        exact z
      obtain ⟨m, hn, _⟩ := I6.loc
      have hn : s6.heap.Ns ce.locals m := hn
      rw [cL] at hn
      exact hRR D s3.heap.objs.size s6 m H5 I7 qq hn (I3.fpOk (Nat.le_refl _) nC)
    · have ti := T.item (X.blk s3 H3 scope ce fp) rfl rfl rfl hc i [] s5 _ H5 (fun _ _ => False) I5 (stat I5 n5) st5 go
      refine thnF ti fun r s6 ⟨u, hr, h6⟩ => ?_
      subst hr
      refine thnF h6 fun _ s7 ⟨x, H7, I7, r7, y7, st7, n7⟩ => ?_
      have I7' := I7.pinned (stat I7 n7) (T.obj _ _ st7)
      refine thnF (pg _ s7 _ H7 x u _ I7' r7 (step x H7 y7)) fun _ s8 ⟨σ8, H8, I8, hw8, q8⟩ => ?_
      refine thnF (pt _ s8 σ8 H8 _ I8 q8) fun b s9 ⟨H9, I9, q9⟩ => ?_
      -- the turn's end
      have fin : ∀ {s' : Shared} {H' : Hp}, Inv (X.blk s3 H3 scope ce fp) ([] ++ pinsAt fp s7.heap) σ8 H' s' → Nx H' → ∃ m, m < n ∧ ∃ i H', Inv (X.blk s3 H3 scope ce fp) [] (wipe σ (own.map (·.2))) H' s' ∧ tn i s'.heap ∧ (∀ b ∈ fp, H' b = none) ∧ W i m H' := fun {s' H'} I' nx => by
        obtain ⟨m', hm, w'⟩ := hNx H' nx
        have pin' : ∀ b ∈ fp, ∀ o, s7.heap.get? b = some o → s'.heap.get? b = some o ∧ H' b = none := fun b hb o e =>
          let z := I'.pin (b, o) (List.mem_append_right _ (List.mem_append_right _ (mem_pinsAt hb e)))
          ⟨z.1, z.2.1⟩
        have hl : (wipe σ (own.map (·.2))).length = σ8.length := by rw [← hw8, wipe_length]
        refine ⟨m', hm, i + 1, H', (I'.unpinned (pins := [])).weak hl (fun j v e => ?_), T.keep _ _ _ st7 fun b hb o e => (pin' b hb o e).1, fun b hb => ?_, w'⟩
        · rw [← hw8] at e
          exact (wipe_some e).1
        · obtain ⟨o, e, _⟩ := T.obj _ _ st7 b hb
          exact (pin' b hb o e).2
      cases b with
      | false =>
        simp only [Bool.false_eq_true, if_false] at q9 ⊢
        exact fin I9 q9
      | true =>
        simp only [if_true] at q9 ⊢
        refine thnF (pe _ s9 σ8 H9 _ I9 q9) fun z s10 ⟨yv, H10, I10, r10, acc, hD10, hz10, nx⟩ => ?_
        exact app_ok (X := X.blk s3 H3 scope ce fp) I10 hD10 hz10 r10 fun s11 I11 => fin I11 nx
  exact codeAny_compStart_list loop (T.self X.A 0 _ _ _ st4 loop)
theorem pe_lc {elt tg iter : Expr} {ifs : List Expr} {scope : Scope} {own : List (Str × Nat)} {pos : Pos} {wi : TI} {g : TG} {tt : TT} {te : TE} (hc : X.calm = true) (hN : X.N.Nodup) (hi : PI X tg iter wi) (ok : BlkOk X.N X.env.scope scope own)
    (hg : ∀ (s : Shared) (H : Hp) (C : Addr) (cl : List (Str × Addr)) (fp : List Addr), PG (X.blk s H scope (compEnvC scope cl C X.env) fp) tg g) (ht : ∀ (s : Shared) (H : Hp) (C : Addr) (cl : List (Str × Addr)) (fp : List Addr), PTs (X.blk s H scope (compEnvC scope cl C X.env) fp) ifs tt)
    (he : ∀ (s : Shared) (H : Hp) (C : Addr) (cl : List (Str × Addr)) (fp : List Addr), PE (X.blk s H scope (compEnvC scope cl C X.env) fp) elt te) (hs : ∀ x, foldedSetIterable iter X.env x = pure x := by intro _; rfl) :
    PE X (.ListComp elt [⟨tg, iter, ifs, 0⟩] scope pos) (tLc wi g tt te (own.map (·.2))) := by
  intro pins s σ H Q I h
  rw [eval_ListComp]
  refine lc_core hc hN I hi ok hg ht he hs h fun D C s' m H' I' q hn f => ⟨m, hn, fun h'' sb => ?_⟩
  obtain ⟨f0, f1, f2, f3, f4, f5⟩ := f
  exact ⟨.ref D, H', I'.turned (t' := s'.toks) (fun b o hb e => (sb.2 b hb).trans e) f0 f1 f3 f4 f5, rfl, q⟩
end
theorem lc_list {K : PySem.W.Frag} {a : Addr} {xs : List V} {g : TG} {tt : TT} {te : TE} {vs : List Nat} {σ : St} {H1 : Hp} {D : Addr} {Qd : Hp → Prop} (Pv : Nat → Hp → Prop) (h0 : Pv 0 (upd H1 D (.lst []))) (hl : ∀ i H, i ≤ xs.length → Pv i H → SqL K H a xs)
    (hs : ∀ i x H, xs[i]? = some x → Pv i H → g x (wipe σ vs) H fun σ2 H2 => wipe σ2 vs = wipe σ vs ∧ tt σ2 H2 fun b H3 =>
      if b = true then te σ2 H3 fun y H4 => ∃ acc, H4 D = some (.lst acc) ∧ acc.length < sizeLine ∧ Pv (i + 1) (upd H4 D (.lst (acc ++ [y]))) else Pv (i + 1) H3) (hd : ∀ H, Pv xs.length H → Qd H) :
    ∃ W : Nat → Nat → Hp → Prop, (∃ m, W 0 m (upd H1 D (.lst []))) ∧ ∀ i m H, W i m H →
      ((Itl K a).stop i H ∧ Qd H) ∨ ((Itl K a).go i H ∧ ∃ Nx : Hp → Prop, (∀ H', Nx H' → ∃ m', m' < m ∧ W (i + 1) m' H') ∧ ∀ x H', (Itl K a).yld i H x H' → g x (wipe σ vs) H' fun σ2 H2 => wipe σ2 vs = wipe σ vs ∧ tt σ2 H2 fun b H3 =>
        if b = true then te σ2 H3 fun y H4 => ∃ acc, H4 D = some (.lst acc) ∧ acc.length < sizeLine ∧ Nx (upd H4 D (.lst (acc ++ [y]))) else Nx H3) := by
  refine ⟨fun i m H => m = xs.length - i ∧ i ≤ xs.length ∧ Pv i H, ⟨xs.length, by simp, Nat.zero_le _, h0⟩, ?_⟩
  rintro i m H ⟨rfl, hi, p⟩
  have q := hl i H hi p
  by_cases hlt : i < xs.length
  · refine .inr ⟨⟨xs, xs[i], q, by simp [hlt]⟩, Pv (i + 1), fun H' p' => ⟨xs.length - (i + 1), by omega, rfl, hlt, p'⟩, fun x H' y => ?_⟩
    obtain ⟨e, y⟩ := y
    subst e
    exact hs i x _ (y xs q) p
  · have e : i = xs.length := by omega
    subst e
    exact .inl ⟨⟨xs, q, Nat.le_refl _⟩, hd H p⟩
def blkC (N : List Str) (sc scope : Scope) (own : List (Str × Nat)) : Bool :=
  (match scope.kind with | .function => true | _ => false) && (scope.names.all fun y => decide (scope.names.lookup y.1 = some y.2)) && (own.all fun p => decide (N[p.2]? = some p.1)) &&
    (scope.names.all fun y => match y.2 with
      | .free => (match sc.names.lookup y.1 with | some .cell => true | some .free => true | _ => false)
      | .local => decide (y.1 ∈ own.map (·.1)) || decide (y.1 ∉ N)
      | .cell => decide (y.1 ∈ own.map (·.1)) || decide (y.1 ∉ N)
      | _ => true)
theorem blkOk_by {N : List Str} {sc scope : Scope} {own : List (Str × Nat)} (h : blkC N sc scope own = true) : BlkOk N sc scope own := by
  unfold blkC at h
  simp only [Bool.and_eq_true, List.all_eq_true, decide_eq_true_eq] at h
  obtain ⟨⟨⟨h1, h2⟩, h3⟩, h4⟩ := h
  refine ⟨?_, h2, h3, fun y hy e => ?_, fun y hy e => ?_⟩
  · split at h1
    · assumption
    · cases h1
  · have q := h4 y hy
    simp only [e] at q
    split at q <;> first | exact .inl (by assumption) | exact .inr (by assumption) | cases q
  · have q := h4 y hy
    rcases e with e | e <;> (simp only [e, Bool.or_eq_true, decide_eq_true_eq] at q; exact q)
end L2
namespace L2
open PySem PySem.Spec PyProof.Rows
section
variable {κ : Type} [DecidableEq κ]
def valV (kvs : List (κ × V)) (k : κ) : Option V := (kvs.find? fun kv => decide (kv.1 = k)).map (·.2)
def putK (kvs : List (κ × V)) (k : κ) (v : V) : List (κ × V) :=
  if (kvs.any fun kv => decide (kv.1 = k)) = true then kvs.map (fun kv => if kv.1 = k then (kv.1, v) else kv) else kvs ++ [(k, v)]
theorem valV_pos {p : κ × V} {r : List (κ × V)} {k : κ} (e : p.1 = k) : valV (p :: r) k = some p.2 := by simp [valV, List.find?_cons, e]
theorem valV_neg {p : κ × V} {r : List (κ × V)} {k : κ} (e : ¬ p.1 = k) : valV (p :: r) k = valV r k := by simp [valV, List.find?_cons, e]
theorem valV_any (k : κ) : ∀ kvs : List (κ × V), (kvs.any fun kv => decide (kv.1 = k)) = (valV kvs k).isSome
  | [] => rfl
  | p :: r => by
    rw [List.any_cons]
    by_cases e : p.1 = k
    · simp only [valV_pos e, decide_eq_true e, Bool.true_or, Option.isSome_some]
    · rw [valV_neg e, decide_eq_false e, Bool.false_or]; exact valV_any k r
theorem length_putK (kvs : List (κ × V)) (k : κ) (v : V) : (putK kvs k v).length ≤ kvs.length + 1 := by
  unfold putK
  split
  · rw [List.length_map]; omega
  · rw [List.length_append, List.length_cons, List.length_nil]; omega
theorem putK_new {kvs : List (κ × V)} {k : κ} (v : V) (h : valV kvs k = none) : putK kvs k v = kvs ++ [(k, v)] := by
  unfold putK
  rw [valV_any, h]
  exact if_neg (by decide)
theorem RelO.isSome_eq {o : Option V} {u : Option Value} (r : RelO o u) : o.isSome = u.isSome := by
  cases o with
  | none => cases u with
    | none => rfl
    | some _ => exact (show False from r).elim
  | some _ => cases u with
    | none => exact (show False from r).elim
    | some _ => rfl
theorem KV.val {kvs : List (κ × V)} {vs : List (κ × Value)} (r : KV kvs vs) (k : κ) : RelO (valV kvs k) (valueAt vs k) := by
  unfold KV at r
  induction r with
  | nil => exact True.intro
  | @cons p q ps qs h t ih =>
    obtain ⟨h1, h2⟩ := h
    by_cases e : p.1 = k
    · have e' : q.1 = k := h1.symm.trans e
      have b : valueAt (q :: qs) k = some q.2 := by simp [valueAt, List.find?_cons, e']
      rw [valV_pos e, b]; exact h2
    · have e' : ¬ q.1 = k := fun z => e (h1.trans z)
      have b : valueAt (q :: qs) k = valueAt qs k := by simp [valueAt, List.find?_cons, e']
      rw [valV_neg e, b]; exact ih
theorem KV.any {kvs : List (κ × V)} {vs : List (κ × Value)} (r : KV kvs vs) (k : κ) : (kvs.any fun kv => decide (kv.1 = k)) = vs.any fun kv => decide (kv.1 = k) := by
  unfold KV at r
  induction r with
  | nil => rfl
  | cons h t ih => rw [List.any_cons, List.any_cons, ih, h.1]
theorem KV.repl {kvs : List (κ × V)} {vs : List (κ × Value)} (r : KV kvs vs) (k : κ) {y : V} {u : Value} (ry : RelV y u) :
    KV (kvs.map fun kv => if kv.1 = k then (kv.1, y) else kv) (vs.map fun kv => if kv.1 = k then (kv.1, u) else kv) := by
  unfold KV at r ⊢
  induction r with
  | nil => exact .nil
  | @cons p q ps qs h t ih =>
    rw [List.map_cons, List.map_cons]
    refine .cons ?_ ih
    obtain ⟨h1, h2⟩ := h
    by_cases e : p.1 = k
    · rw [if_pos e, if_pos (h1.symm.trans e)]; exact ⟨h1, ry⟩
    · rw [if_neg e, if_neg (fun z => e (h1.trans z))]; exact ⟨h1, h2⟩
theorem KV.put {kvs : List (κ × V)} {vs : List (κ × Value)} (r : KV kvs vs) (k : κ) {y : V} {u : Value} (ry : RelV y u) : KV (putK kvs k y) (stored vs k u) := by
  unfold putK stored
  rw [r.any k]
  by_cases e : (vs.any fun kv => decide (kv.1 = k)) = true
  · rw [if_pos e, if_pos e]; exact r.repl k ry
  · rw [if_neg e, if_neg e]; exact Paired.snoc r ⟨rfl, ry⟩
theorem KV.length {kvs : List (κ × V)} {vs : List (κ × Value)} (r : KV kvs vs) : kvs.length = vs.length := Paired.length r
end
theorem kV_is {P : Program} {w : World} {k : Key} {u : Value} (r : RelV (kV k) u) : (mixKind P w).is k u = true := by
  cases k with
  | inl i => obtain ⟨t, e⟩ := (show ∃ t, u = Value.int i t from r); subst e; exact mixKind_int P w i t
  | inr x => obtain ⟨t, e⟩ := (show ∃ t, u = Value.str x t from r); subst e; exact mixKind_str P w x t
theorem items_are {P : Program} {w : World} : ∀ {ks : List Key} {us : List Value}, Vals (ks.map kV) us → ItemsAre (mixKind P w) ks us
  | [], _, r => by rw [List.map_nil] at r; cases r; exact .nil
  | k :: ks, _, r => by
    rw [List.map_cons] at r
    cases r with
    | cons h t => exact .cons (kV_is h) (items_are t)
abbrev KT (H : Hp) : List (List Key × V) → List (List Key × Addr × Value) → Prop := Paired fun p q => p.1 = q.1 ∧ H q.2.1 = some (.tup (p.1.map kV)) ∧ RelV p.2 q.2.2
theorem KT.val {H : Hp} {kvs : List (List Key × V)} {xs : List (List Key × Addr × Value)} (r : KT H kvs xs) (k : List Key) : RelO (valV kvs k) ((atKey xs k).map (·.2)) := by
  induction r with
  | nil => exact True.intro
  | @cons p q ps qs h t ih =>
    obtain ⟨h1, _, h2⟩ := h
    by_cases e : p.1 = k
    · have e' : q.1 = k := h1.symm.trans e
      have b : atKey (q :: qs) k = some q.2 := by simp [atKey, List.find?_cons, e']
      rw [valV_pos e, b]; exact h2
    · have e' : ¬ q.1 = k := fun z => e (h1.trans z)
      have b : atKey (q :: qs) k = atKey qs k := by simp [atKey, List.find?_cons, e']
      rw [valV_neg e, b]; exact ih
theorem KT.repl {H : Hp} {kvs : List (List Key × V)} {xs : List (List Key × Addr × Value)} (r : KT H kvs xs) (k : List Key) {y : V} {u : Value} (ry : RelV y u) :
    KT H (kvs.map fun kv => if kv.1 = k then (kv.1, y) else kv) (xs.map (putAt k u)) := by
  induction r with
  | nil => exact .nil
  | @cons p q ps qs h t ih =>
    rw [List.map_cons, List.map_cons]
    refine .cons ?_ ih
    obtain ⟨h1, h2, h3⟩ := h
    unfold putAt
    by_cases e : p.1 = k
    · rw [if_pos e, if_pos (h1.symm.trans e)]; exact ⟨h1, h2, ry⟩
    · rw [if_neg e, if_neg (fun z => e (h1.trans z))]; exact ⟨h1, h2, h3⟩
theorem KT.put {H : Hp} {kvs : List (List Key × V)} {xs : List (List Key × Addr × Value)} (r : KT H kvs xs) (k : List Key) {b : Addr} {y : V} {u : Value} (hb : H b = some (.tup (k.map kV))) (ry : RelV y u) :
    KT H (putK kvs k y) (storedH xs k b u) := by
  have e : (kvs.any fun kv => decide (kv.1 = k)) = (atKey xs k).isSome := by
    rw [valV_any, (r.val k).isSome_eq, Option.isSome_map]
  unfold putK storedH
  rw [e]
  by_cases q : (atKey xs k).isSome = true
  · rw [if_pos q, if_pos q]; exact r.repl k ry
  · rw [if_neg q, if_neg q]; exact Paired.snoc r ⟨rfl, hb, ry⟩
theorem KT.keeps {H H' : Hp} {kvs : List (List Key × V)} {xs : List (List Key × Addr × Value)} (r : KT H kvs xs) (ht : ∀ b ys, H b = some (.tup ys) → H' b = some (.tup ys)) : KT H' kvs xs :=
  Paired.mapP r fun _ _ z => ⟨z.1, ht _ _ z.2.1, z.2.2⟩
section
variable {P : Program} {w : World} {H : Hp} {h : Heap} {a : Addr}
theorem rd_of {u : HO} (ok : HOk P w H h) (e : Rd H a u) : ObjOk P w H h a u := e.ok ok
theorem dk_rd {kvs : List (Key × V)} (ok : HOk P w H h) (e : Rd H a (.dK kvs)) : kvs.length ≤ sizeLine ∧ (a == sysModules) = false ∧ ∃ vs, KV kvs vs ∧ h.DictOf (mixKind P w) a vs :=
  show ObjOk P w H h a (.dK kvs) from rd_of ok e
theorem dk_of {kvs : List (Key × V)} (ok : HOk P w H h) (e : H a = some (.dK kvs)) : kvs.length ≤ sizeLine ∧ (a == sysModules) = false ∧ ∃ vs, KV kvs vs ∧ h.DictOf (mixKind P w) a vs := dk_rd ok (.inl e)
theorem key_of {ks : List Key} (ok : HOk P w H h) (e : H a = some (.tup (ks.map kV))) : (tupleKind (mixKind P w)).is h ks a := by
  obtain ⟨_, its, r, o, h1, h2, n, h3⟩ := (show ObjOk P w H h a (.tup (ks.map kV)) from ok a _ e)
  exact ⟨o, its.toArray, n, h1, h2, h3, by simpa using items_are r⟩
theorem dt_rd {kvs : List (List Key × V)} (ok : HOk P w H h) (e : Rd H a (.dT kvs)) : kvs.length ≤ sizeLine ∧ (a == sysModules) = false ∧
    ∃ xs, KT H kvs xs ∧ h.DictOfH (tupleKind (mixKind P w)) a xs := by
  obtain ⟨z, y, xs, r, o, es, ep, h1, h2, h3, h4, h5⟩ := (show ObjOk P w H h a (.dT kvs) from rd_of ok e)
  refine ⟨z, y, xs, r, o, es, ep, h1, h2, h3, h4, fun x hx => ?_, h5⟩
  have all : ∀ {l : List (List Key × V)} {m : List (List Key × Addr × Value)}, KT H l m → ∀ x ∈ m, (tupleKind (mixKind P w)).is h x.1 x.2.1 := by
    intro l m q
    induction q with
    | nil => intro x hx; exact nomatch hx
    | @cons p q ps qs hq t ih =>
      intro x hx
      rcases List.mem_cons.mp hx with e | hx
      · subst e
        exact key_of ok (by rw [← hq.1]; exact hq.2.1)
      · exact ih x hx
  exact all r x hx
theorem dt_of {kvs : List (List Key × V)} (ok : HOk P w H h) (e : H a = some (.dT kvs)) : kvs.length ≤ sizeLine ∧ (a == sysModules) = false ∧
    ∃ xs, KT H kvs xs ∧ h.DictOfH (tupleKind (mixKind P w)) a xs := dt_rd ok (.inl e)
end
def DGet (H : Hp) (a : Addr) (y : V) (r : Option V) : Prop :=
  (∃ kvs k, Rd H a (.dK kvs) ∧ y = kV k ∧ r = valV kvs k) ∨ ∃ kvs k b, Rd H a (.dT kvs) ∧ y = .ref b ∧ H b = some (.tup (k.map kV)) ∧ r = valV kvs k
def DPut (H : Hp) (a : Addr) (y v : V) (H' : Hp) : Prop :=
  (∃ kvs k, H a = some (.dK kvs) ∧ y = kV k ∧ kvs.length < sizeLine ∧ H' = upd H a (.dK (putK kvs k v))) ∨
  ∃ kvs k b, H a = some (.dT kvs) ∧ y = .ref b ∧ H b = some (.tup (k.map kV)) ∧ kvs.length < sizeLine ∧ H' = upd H a (.dT (putK kvs k v))
theorem DGet.k {H : Hp} {a : Addr} {kvs : List (Key × V)} {k : Key} (e : H a = some (.dK kvs)) : DGet H a (kV k) (valV kvs k) := .inl ⟨kvs, k, .inl e, rfl, rfl⟩
theorem DPut.k {H : Hp} {a : Addr} {kvs : List (Key × V)} {k : Key} {v : V} (e : H a = some (.dK kvs)) (hl : kvs.length < sizeLine) : DPut H a (kV k) v (upd H a (.dK (putK kvs k v))) := .inl ⟨kvs, k, e, rfl, hl, rfl⟩
section
variable {X : Cx} {pins : List (Addr × Obj)} {σ : St} {H : Hp} {s : Shared} {a : Addr} {y v : V} {u r : Value} {o : Option V} {A : Around} {E : Value → Shared → Prop}
theorem Inv.big (I : Inv X pins σ H s) : sysModules < s.heap.objs.size := by
  have h : mainGlobals < s.heap.objs.size := (I.mod.glob.keeps I.bk).lt
  exact Nat.lt_trans (by decide) h
theorem d_getItem {Q : Value → Shared → Prop} (hu : A.units + 1 < cLine) (I : Inv X pins σ H s) (g : DGet H a y (some v)) (ry : RelV y u) (h : ∀ w' s', Inv X pins σ H s' → RelV v w' → Q w' s') :
    wpAny (model X.prog X.w) A (getItem (.ref a) u) Q E s := by
  rcases g with ⟨kvs, k, e, ey, l⟩ | ⟨kvs, k, b, e, ey, eb, l⟩
  · subst ey
    obtain ⟨z, hd, vs, rel, dd⟩ := dk_rd I.hok e
    obtain ⟨w', hw, rw'⟩ := RelO.some_of (v := v) (o := valueAt vs k) (by rw [l]; exact rel.val k)
    exact wpAny_getItem_of (kV_is ry) dd.mapOf hw (h w' _ (I.tok _) rw')
  · subst ey
    cases (show u = Value.ref b from ry)
    obtain ⟨z, hd, xs, rel, dd⟩ := dt_rd I.hok e
    obtain ⟨w', hw, rw'⟩ := RelO.some_of (v := v) (o := (atKey xs k).map (·.2)) (by rw [l]; exact rel.val k)
    obtain ⟨p, hp, hp2⟩ := Option.map_eq_some_iff.mp hw
    refine wpAny_getItem_heap (tupleKind_room_in1 hu) (key_of I.hok eb) dd hp ?_
    rw [hp2]
    exact h w' _ (I.tok _) rw'
theorem d_in {Q : Value → Shared → Prop} (hu : A.units + 1 < cLine) (I : Inv X pins σ H s) (g : DGet H a y o) (ry : RelV y u) (h : ∀ s', Inv X pins σ H s' → Q (.bool o.isSome) s') :
    wpAny (model X.prog X.w) A (compareOp .In u (.ref a)) Q E s := by
  rcases g with ⟨kvs, k, e, ey, l⟩ | ⟨kvs, k, b, e, ey, eb, l⟩
  · subst ey
    obtain ⟨z, hd, vs, rel, dd⟩ := dk_rd I.hok e
    refine wpAny_in_of (kV_is ry) hd dd.mapOf ?_
    rw [← (rel.val k).isSome_eq, ← l]
    exact h _ (I.tok _)
  · subst ey
    cases (show u = Value.ref b from ry)
    obtain ⟨z, hd, xs, rel, dd⟩ := dt_rd I.hok e
    refine wpAny_in_heap (tupleKind_room_in1 hu) (key_of I.hok eb) hd dd ?_
    have q := (rel.val k).isSome_eq
    rw [Option.isSome_map] at q
    rw [← q, ← l]
    exact h _ (I.tok _)
theorem d_notIn {Q : Value → Shared → Prop} (hu : A.units + 1 < cLine) (I : Inv X pins σ H s) (g : DGet H a y o) (ry : RelV y u) (h : ∀ s', Inv X pins σ H s' → Q (.bool (!o.isSome)) s') :
    wpAny (model X.prog X.w) A (compareOp .NotIn u (.ref a)) Q E s := by
  rcases g with ⟨kvs, k, e, ey, l⟩ | ⟨kvs, k, b, e, ey, eb, l⟩
  · subst ey
    obtain ⟨z, hd, vs, rel, dd⟩ := dk_rd I.hok e
    refine wpAny_notIn_of (kV_is ry) hd dd.mapOf ?_
    rw [← (rel.val k).isSome_eq, ← l]
    exact h _ (I.tok _)
  · subst ey
    cases (show u = Value.ref b from ry)
    obtain ⟨z, hd, xs, rel, dd⟩ := dt_rd I.hok e
    refine wpAny_notIn_heap (tupleKind_room_in1 hu) (key_of I.hok eb) hd dd ?_
    have q := (rel.val k).isSome_eq
    rw [Option.isSome_map] at q
    rw [← q, ← l]
    exact h _ (I.tok _)
theorem d_write {h' : Heap} {t' : Nat} {ob : HO} (I : Inv X pins σ H s) (mu : Mut (H a)) (hs : Heap.SameBut a s.heap h') (he : ∃ q, h'.get? a = some q) (new : ObjOk X.prog X.w (upd H a ob) h' a ob) :
    Inv X pins σ (upd H a ob) { s with heap := h', toks := t' } :=
  I.write (x := a) (e := a) mu (.inl rfl) (fun b q hb z => (hs.2 b hb).trans z) he new
theorem dk_new {P : Program} {w : World} {H' : Hp} {h' : Heap} {kvs : List (Key × V)} {vs : List (Key × Value)} (z : kvs.length ≤ sizeLine) (hd : (a == sysModules) = false) (rel : KV kvs vs) (dd : h'.DictOf (mixKind P w) a vs) :
    ObjOk P w H' h' a (.dK kvs) := ⟨z, hd, vs, rel, dd⟩
theorem d_setItem {H' : Hp} {Q : Unit → Shared → Prop} (hu : A.units + 1 < cLine) (I : Inv X pins σ H s) (g : DPut H a y v H') (ry : RelV y u) (rv : RelV v r) (h : ∀ s', Inv X pins σ H' s' → Q () s') :
    wpAny (model X.prog X.w) A (setItem (.ref a) u r) Q E s := by
  rcases g with ⟨kvs, k, e, ey, l, eH⟩ | ⟨kvs, k, b, e, ey, eb, l, eH⟩
  · subst ey eH
    obtain ⟨z, hd, vs, rel, dd⟩ := dk_of I.hok e
    have hz : vs.length ≤ sizeLine := by rw [← rel.length]; exact z
    have hl : (putK kvs k v).length ≤ sizeLine := by have := length_putK kvs k v; omega
    refine wpAny_setItem_pairs (hsz := hz) (kV_is ry) dd fun h' dd' hs => h _ ?_
    have he : ∃ q, h'.get? a = some q := let ⟨q, _, _, hq, _⟩ := dd'; ⟨q, hq⟩
    exact d_write I (by rw [e]; exact True.intro) hs he (dk_new hl hd (rel.put k rv) dd')
  · subst ey eH
    cases (show u = Value.ref b from ry)
    obtain ⟨z, hd, xs, rel, dd⟩ := dt_of I.hok e
    have hz : xs.length ≤ sizeLine := by rw [← Paired.length rel]; exact z
    have hl : (putK kvs k v).length ≤ sizeLine := by have := length_putK kvs k v; omega
    refine wpAny_setItem_heap (hsz := hz) (tupleKind_room_in1 hu) (key_of I.hok eb) dd fun h' dd' hs => h _ ?_
    obtain ⟨q, es, ep, hq, h2, h3, h4, _, h5⟩ := dd'
    refine d_write I (by rw [e]; exact True.intro) hs ⟨q, hq⟩ ⟨hl, hd, _, (rel.put k eb rv).keeps fun c ys ec => ?_, q, es, ep, hq, h2, h3, h4, h5⟩
    rw [upd_ne (ne_of ec e (fun z => nomatch z))]
    exact ec
end
section
variable {X : Cx} {pins : List (Addr × Obj)} {σ : St} {H : Hp} {s : Shared} {a : Addr} {kvs : List (Key × V)} {k : Key} {u : Value} {A : Around} {E : Value → Shared → Prop}
theorem d_len {Q : Value → Shared → Prop} (I : Inv X pins σ H s) (e : Rd H a (.dK kvs)) (h : ∀ t s', Inv X pins σ H s' → Q (.int kvs.length t) s') : wpAny (model X.prog X.w) A (call (.builtin "len") [.ref a]) Q E s := by
  obtain ⟨z, hd, vs, rel, dd⟩ := dk_rd I.hok e
  refine call_len_dict hd dd (by rw [← rel.length]; rw [sizeLine_eq] at z; omega) ?_
  rw [← rel.length]
  exact h _ _ (I.tok _)
end
def NoSl (i : Expr) : Prop := ∀ ov iv, subscripted i false ov iv = operate [ov, iv] (getItem ov iv)
theorem subD_of {prog : Program} {w : World} {A : Around} {E : Value → Shared → Prop} {s : Shared} {env : Env} {value slice : Expr} {pos : Pos} {T id : String} {Q : Value → Shared → Prop}
    (hl : typeLookup (.type T) "__getitem__" = pure (some (.builtin id))) (hs : NoSl slice)
    (h : wpAny (model prog w) A (eval value env) (fun o s₁ => wpAny (model prog w) A (eval slice env) (fun i s₂ => s₂.TypeIs o T ∧ wpAny (model prog w) A (getItem o i) Q E s₂) E s₁) E s) :
    wpAny (model prog w) A (eval (.Subscript value slice pos) env) Q E s := by
  refine Subscript_ (wpAny_mono h (fun o s₁ h₁ => wpAny_mono h₁ (fun i s₂ h₂ => ?_) fun _ _ x => x) fun _ _ x => x)
  obtain ⟨hT, h₂⟩ := h₂
  unfold subscriptTail
  refine wpAny_bind ?_
  rw [getitemInPython_of_ne hT.not_modules]
  refine wpAny_bind (wpAny_specialOf hT hl ?_)
  have fin : wpAny (model prog w) A (subscripted slice false o i) (fun r s₃ => wpAny (model prog w) A (letTemporaryGo value o r >>= fun _ => pure r) Q E s₃) E s₂ := by
    rw [hs o i]
    exact wpAny_operating (wpAny_mono h₂ (fun r s₃ h₃ => wpAny_bind (wpAny_letTemporaryGo (wpAny_pure h₃))) fun _ _ x => x)
  first
    | exact wpAny_pure (wpAny_bind fin)
    | exact wpAny_bind (wpAny_pure (wpAny_bind fin))
    | exact wpAny_bind fin
theorem dict_typeIs {X : Cx} {pins : List (Addr × Obj)} {σ : St} {H : Hp} {s : Shared} {a : Addr} {y : V} {o : Option V} (I : Inv X pins σ H s) (g : DGet H a y o) : s.TypeIs (.ref a) "dict" := by
  rcases g with ⟨kvs, k, e, _, _⟩ | ⟨kvs, k, b, e, _, _, _⟩
  · obtain ⟨_, _, vs, _, dd⟩ := dk_rd I.hok e
    exact dd.typeIs
  · obtain ⟨_, _, xs, _, dd⟩ := dt_rd I.hok e
    exact dd.typeIs
def tDGet (td ty : TE) : TE := fun σ H Q => td σ H fun x H1 => ty σ H1 fun y H2 => ∃ a v, x = .ref a ∧ DGet H2 a y (some v) ∧ Q v H2
def tDIn (ty td : TE) : TE := fun σ H Q => ty σ H fun y H1 => td σ H1 fun x H2 => ∃ a o, x = .ref a ∧ DGet H2 a y o ∧ Q (.bl o.isSome) H2
def tDNotIn (ty td : TE) : TE := fun σ H Q => ty σ H fun y H1 => td σ H1 fun x H2 => ∃ a o, x = .ref a ∧ DGet H2 a y o ∧ Q (.bl (!o.isSome)) H2
def sDPut (td ty tv : TE) : TS := fun D σ H => tv σ H fun v H1 => td σ H1 fun x H2 => ty σ H2 fun y H3 => ∃ a H4, x = .ref a ∧ DPut H3 a y v H4 ∧ D.nx σ H4
section
variable {X : Cx} {o i e value : Expr} {pos pos' tpos : Pos} {td ty tv : TE}
theorem pe_dget (hu : X.A.units + 1 < cLine) (ho : PE X o td) (hi : PE X i ty) (hs : NoSl i) : PE X (.Subscript o i pos) (tDGet td ty) := by
  intro pins s σ H Q I h
  refine subD_of PySem.F.slot_dict_getitem.lookup hs (thn (ho pins s σ H _ I h) fun u s1 ⟨x, H1, I1, rx, q1⟩ => thn (hi pins s1 σ H1 _ I1 q1) fun iv s2 ⟨y, H2, I2, ry, a, v, ex, g, q2⟩ => ?_)
  subst ex
  obtain rfl : u = Value.ref a := rx
  exact ⟨dict_typeIs I2 g, d_getItem hu I2 g ry fun w' s3 I3 rw' => ⟨v, H2, I3, rw', q2⟩⟩
theorem pc_din (hu : X.A.units + 1 < cLine) (hi : PE X i ty) (ho : PE X o td) : PC X .In i o (tDIn ty td) := by
  intro pins s σ H Q I h
  refine thn (hi pins s σ H _ I h) fun iv s1 ⟨y, H1, I1, ry, q1⟩ => thn (ho pins s1 σ H1 _ I1 q1) fun u s2 ⟨x, H2, I2, rx, a, ov, ex, g, q2⟩ => ?_
  subst ex
  obtain rfl : u = Value.ref a := rx
  exact d_in hu I2 g ry fun s3 I3 => ⟨.bl ov.isSome, H2, I3, rfl, q2⟩
theorem pc_dnotin (hu : X.A.units + 1 < cLine) (hi : PE X i ty) (ho : PE X o td) : PC X .NotIn i o (tDNotIn ty td) := by
  intro pins s σ H Q I h
  refine thn (hi pins s σ H _ I h) fun iv s1 ⟨y, H1, I1, ry, q1⟩ => thn (ho pins s1 σ H1 _ I1 q1) fun u s2 ⟨x, H2, I2, rx, a, ov, ex, g, q2⟩ => ?_
  subst ex
  obtain rfl : u = Value.ref a := rx
  exact d_notIn hu I2 g ry fun s3 I3 => ⟨.bl (!ov.isSome), H2, I3, rfl, q2⟩
theorem ps_dput (hu : X.A.units + 1 < cLine) (ho : PE X o td) (hi : PE X i ty) (hv : PE X value tv) (hs : swapsWith value (some (.Subscript o i pos')) pos.line X.env = pure false) :
    PS X (.Assign [.Subscript o i pos'] value pos) (sDPut td ty tv) := by
  intro pins s σ H D I h
  refine wpAny_Assign_Subscript (thn (hv pins s σ H _ I h) fun r s1 ⟨v, H1, I1, rv, q1⟩ => thn (ho pins s1 σ H1 _ I1 q1) fun u s2 ⟨x, H2, I2, rx, q2⟩ => thn (hi pins s2 σ H2 _ I2 q2) fun iv s3 ⟨y, H3, I3, ry, a, H4, ex, g, q3⟩ => ?_) hs
  subst ex
  obtain rfl : u = Value.ref a := rx
  exact d_setItem hu I3 g ry rv fun s4 I4 => ⟨σ, H4, I4, q3⟩
end
theorem dk_empty {P : Program} {w : World} {H : Hp} (h : Heap) (hb : sysModules < h.objs.size) : ObjOk P w H (h.push { cls := .type "dict", data := .dict #[] }) h.objs.size (.dK []) :=
  ⟨Nat.zero_le _, beq_eq_false_iff_ne.mpr (Ne.symm (Nat.ne_of_lt hb)), [], .nil, Heap.DictOf.new h⟩
def tDNewK : TE := fun _ H Q => ∀ p, H p = none → Q (.ref p) (upd H p (.dK []))
section
variable {X : Cx} {pos : Pos}
theorem pe_dnewK : PE X (.Dict [] [] pos) tDNewK := fun pins s σ H Q I h =>
  wpAny_Dict_empty ⟨.ref s.heap.objs.size, _, I.laid (a := s.heap.objs.size) (o := .dK []) (t' := s.toks) (fun _ _ q => Heap.get?_push_of_some _ q) (Nat.le_refl _) (dk_empty s.heap I.big), rfl, h _ (I.hok.fresh (Nat.le_refl _))⟩
end
end L2
namespace L2
open PySem PySem.Spec PyProof.Rows
section
variable {X : Cx}
theorem pi_one {tg : Expr} {pins : List (Addr × Obj)} {σ : St} {H : Hp} {s : Shared} {R : It → Hp → Prop} {J : It} {tn : Nat → Heap → Prop} {tk : Nat} (I : Inv X pins σ H s) (o : Obj)
    (T : Turn X.prog X.w X.K tg J [s.heap.objs.size] s.heap.objs.size tn) (st : tn 0 (s.heap.push o)) (q : R J H) : PIE X pins σ tg R (.ref s.heap.objs.size) { s with heap := s.heap.push o, toks := tk } := by
  refine ⟨s.heap.objs.size, [s.heap.objs.size], tn, J, H, rfl, I.kept fun b ob e => Heap.get?_push_of_some _ e, T, st, fun b hb => ?_, q⟩
  have e : b = s.heap.objs.size := by simpa using hb
  subst e
  exact I.fpOk (Nat.le_refl _) (I.hok.fresh (Nat.le_refl _))
end
def Its (x : Str) : It := ⟨fun i _ => i < x.cps.size, fun i H v H' => H' = H ∧ ∃ c, x.cps[i]? = some c ∧ v = .str ⟨#[c]⟩, fun i _ => x.cps.size ≤ i⟩
theorem turn_str {P : Program} {w : World} {K : PySem.W.Frag} {tg : Expr} (it : Addr) (x : Str) (t : Tok) (ty : String) (hty : ty = "str_ascii_iterator" ∨ ty = "str_iterator") :
    Turn P w K tg (Its x) [it] it (fun i h => h.IsStrIter it ty x t i) where
  mem := by simp
  obj := fun i h st b hb => by
    have e : b = it := by simpa using hb
    subst e
    obtain ⟨o, e, c, d⟩ := st
    exact ⟨o, e, fun v z => by rw [d] at z; cases z⟩
  keep := fun i h h' st k => let ⟨o, ho, r⟩ := st; ⟨o, k it (by simp) o ho, r⟩
  item := by
    intro X hP hw hK hc i pins s σ H E I hf st hg
    subst hP hw hK
    obtain ⟨f0, f1, f2, f3, f4, f5⟩ := hf it (by simp)
    have W : Walks X.prog X.w X.A it [it] [it] x.cps.size (SignAt x) (fun i h => h.IsStrIter it ty x t i) := by
      rcases hty with e | e
      · rw [e]; exact Walks.strAscii (I.ok.hd hc) it x t
      · rw [e]; exact Walks.strWide (I.ok.hd hc) it x t
    have hno : ["enumerate", "zip", "dict_itemiterator", "dict_reverseitemiterator", "odict_iterator", "itertools.zip_longest", "itertools.pairwise"].contains ty = false := by
      rcases hty with e | e
      · rw [e]; decide
      · rw [e]; decide
    refine W.item i s _ _ hg st fun v h' tk hv st' kk => ?_
    obtain ⟨c, u, hcx, rfl⟩ := hv
    have I1 : Inv X pins σ H { s with heap := h', toks := tk } := I.turned (fun b o hb e => kk b o (by simpa using hb) e) f0 f1 f3 f4 f5
    obtain ⟨oi, e, cc, dd⟩ := id st'
    exact ⟨_, rfl, go_of (s := { s with heap := h', toks := tk }) e cc dd hno ⟨.str ⟨#[c]⟩, H, I1, ⟨u, rfl⟩, ⟨rfl, c, hcx, rfl⟩, st', fun b hb => (hf b hb).1⟩⟩
  done := by
    intro X hP hw hK hc i pins s σ H E I hf st hg
    subst hP hw hK
    obtain ⟨f0, f1, f2, f3, f4, f5⟩ := hf it (by simp)
    have hx : x.cps[i]? = none := Array.getElem?_eq_none hg
    rcases hty with e | e
    · rw [e] at st
      exact wpAny_pyNext_ascii_end (I.ok.hd hc) st hx fun h' eb => ⟨rfl, I.turned (t' := s.toks) (fun b o hb e => eb b o hb e) f0 f1 f3 f4 f5⟩
    · rw [e] at st
      exact wpAny_pyNext_wide_end (I.ok.hd hc) st hx fun h' eb => ⟨rfl, I.turned (t' := s.toks) (fun b o hb e => eb b o hb e) f0 f1 f3 f4 f5⟩
  self := fun A i s Q E st h => by
    rcases hty with e | e
    · rw [e] at st; exact wpAny_pyIter_striter_ascii st h
    · rw [e] at st; exact wpAny_pyIter_striter_wide st h
def iStr (te : TE) : TI := fun σ H R => te σ H fun v H1 => ∃ x, v = .str x ∧ R (Its x) H1
theorem pi_str {X : Cx} {tg e : Expr} {te : TE} (he : PE X e te) : PI X tg e (iStr te) := by
  intro pins s σ H R I h
  refine thn (he pins s σ H _ I h) fun v s1 ⟨y, H1, I1, r1, x, ex, q⟩ => ?_
  subst ex
  obtain ⟨t, rfl⟩ := r1
  cases ha : x.cps.all (· < 128)
  · exact wpAny_pyIter_wide ha (pi_one (tk := s1.toks) I1 _ (turn_str _ x t "str_iterator" (.inr rfl)) ⟨_, Heap.get?_push_size _ rfl, rfl, rfl⟩ q)
  · exact wpAny_pyIter_ascii ha (pi_one (tk := s1.toks) I1 _ (turn_str _ x t "str_ascii_iterator" (.inl rfl)) ⟨_, Heap.get?_push_size _ rfl, rfl, rfl⟩ q)
end L2
section 
end 
section 
namespace TL
open PySem PySem.Builtin PySem.Builtin.Str PySem.StrLaws
abbrev tl (x : Str) : List Nat := x.cps.toList
theorem len_tl (x : Str) : x.length = (tl x).length := by simp [tl, Str.length]
theorem ext_tl {x y : Str} (h : tl x = tl y) : x = y := Str.ext' (Array.toList_inj.mp h)
theorem tl_append (x y : Str) : tl (x ++ y) = tl x ++ tl y := by
  show (x ++ y).cps.toList = _
  rw [Str.cps_append, Array.toList_append]
def pre (S l : List Nat) : Bool := l.take S.length == S
theorem pre_nil {S : List Nat} (hS : S ≠ []) : pre S [] = false := by
  cases S with
  | nil => exact absurd rfl hS
  | cons s S => rfl
theorem pre_of_head {s c : Nat} (S r : List Nat) (h : c ≠ s) : pre (s :: S) (c :: r) = false := by
  cases hp : pre (s :: S) (c :: r) with
  | false => rfl
  | true =>
    have e : (c :: r).take (s :: S).length = s :: S := eq_of_beq hp
    rw [List.length_cons, List.take_succ_cons] at e
    injection e with e1 e2
    exact absurd e1 h
theorem pre_self (S r : List Nat) : pre S (S ++ r) = true := by
  show ((S ++ r).take S.length == S) = true
  have e : (S ++ r).take S.length = S := List.take_left
  rw [e] <;> exact beq_self_eq_true S
def joinL (S : List Nat) : List (List Nat) → List Nat
  | [] => []
  | [p] => p
  | p :: q :: r => p ++ (S ++ joinL S (q :: r))
theorem tl_join (y : Str) : ∀ parts : List Str, tl (Str.join y parts) = joinL (tl y) (parts.map tl)
  | [] => rfl
  | [_] => rfl
  | x :: z :: r => by
    show tl (x ++ y ++ Str.join y (z :: r)) = tl x ++ (tl y ++ joinL (tl y) ((z :: r).map tl))
    rw [tl_append, tl_append, tl_join y (z :: r), List.append_assoc]
theorem join_eq (y : Str) (parts : List Str) : Txt.join y parts = Str.join y parts := glued_eq_join y parts
end TL
end 
namespace L2
open PySem PySem.Spec PyProof.Rows
theorem strs_of_vals : ∀ {ys : List Str} {us : List Value}, Vals (ys.map V.str) us → StrsAre us ys
  | [], _, .nil => .nil
  | y :: ys, _, .cons r t => by
    obtain ⟨k, rfl⟩ := r
    exact .cons y k (strs_of_vals t)
section
variable {X : Cx}
theorem mt_join : MtR X "str.join" (fun x xs H Q => ∃ a p, ∃ ys : List Str, x = .str a ∧ xs = [.ref p] ∧ (SqL X.K H p (ys.map V.str) ∨ SqT X.K H p (ys.map V.str)) ∧
    (ys.map (·.length)).sum + ys.length * a.length ≤ 16777216 ∧ Q (.str (Txt.join a ys)) H) := by
  intro pins s σ H x xs v us Q I rx rs h
  obtain ⟨a, p, ys, rfl, rfl, hp, hz, h⟩ := h
  obtain ⟨t, rfl⟩ := rx
  cases rs with
  | cons r1 rs =>
    cases rs
    cases r1
    rcases hp with hp | hp
    · obtain ⟨its, r, ⟨o, n, ho, hc, _, hd⟩, _⟩ := I.list hp
      exact PyProof.Rows.join_list (items := its.toArray) ⟨o, ho, hc, n, hd⟩ (by rw [List.toList_toArray]; exact strs_of_vals r) hz fun t' k => ⟨.str _, H, I.tok k, ⟨t', rfl⟩, h⟩
    · obtain ⟨its, r, ht, _⟩ := I.tuple hp
      exact PyProof.Rows.join_tuple (items := its.toArray) ht (by rw [List.toList_toArray]; exact strs_of_vals r) hz fun t' k => ⟨.str _, H, I.tok k, ⟨t', rfl⟩, h⟩
theorem mt0 {id : String} {C : Str → Prop} {g : Str → V} (rule : ∀ (a : Str) (t : Tok) (s : Shared) (Q : Value → Shared → Prop), C a → (∀ (u : Value) (k : Nat), RelV (g a) u → Q u { s with toks := k }) →
    wpAny (model X.prog X.w) X.A (call (.builtin id) [.str a t]) Q X.xe s) : MtR X id (fun x xs H Q => ∃ a, x = .str a ∧ xs = [] ∧ C a ∧ Q (g a) H) := by
  intro pins s σ H x xs v us Q I rx rs h
  obtain ⟨a, rfl, rfl, hc, h⟩ := h
  obtain ⟨t, rfl⟩ := rx
  cases rs
  exact rule a t s _ hc fun u k r => ⟨g a, H, I.tok k, r, h⟩
theorem mt_isalpha : MtR X "str.isalpha" (fun x xs H Q => ∃ a, x = .str a ∧ xs = [] ∧ True ∧ Q (.bl (Txt.isalpha a)) H) :=
  mt0 (C := fun _ => True) (g := fun a => .bl (Txt.isalpha a)) fun _ _ s _ _ h => PySem.SC.isalpha (h _ s.toks rfl)
theorem mt1 {id : String} {g : Str → Str → V} (rule : ∀ (a b : Str) (t u : Tok) (s : Shared) (Q : Value → Shared → Prop), (∀ (v : Value) (k : Nat), RelV (g a b) v → Q v { s with toks := k }) →
    wpAny (model X.prog X.w) X.A (call (.builtin id) [.str a t, .str b u]) Q X.xe s) : MtR X id (fun x xs H Q => ∃ a b, x = .str a ∧ xs = [.str b] ∧ Q (g a b) H) := by
  intro pins s σ H x xs v us Q I rx rs h
  obtain ⟨a, b, rfl, rfl, h⟩ := h
  obtain ⟨t, rfl⟩ := rx
  cases rs with
  | cons r1 rs =>
    cases rs
    obtain ⟨u, rfl⟩ := r1
    exact rule a b t u s _ fun v k r => ⟨g a b, H, I.tok k, r, h⟩
theorem mt_startswith : MtR X "str.startswith" (fun x xs H Q => ∃ a b, x = .str a ∧ xs = [.str b] ∧ Q (.bl (Txt.startswith a b)) H) :=
  mt1 (g := fun a b => .bl (Txt.startswith a b)) fun _ _ _ _ s _ h => PySem.SC.startswith (h _ s.toks rfl)
theorem mt_endswith : MtR X "str.endswith" (fun x xs H Q => ∃ a b, x = .str a ∧ xs = [.str b] ∧ Q (.bl (Txt.endswith a b)) H) :=
  mt1 (g := fun a b => .bl (Txt.endswith a b)) fun _ _ _ _ s _ h => PySem.SC.endswith (h _ s.toks rfl)
theorem call_int_str : CallR X (.type "int") (fun xs H Q => ∃ a n, xs = [.str a] ∧ PySem.intText? a = some n ∧ a.length ≤ 640 ∧ Q (.int n) H) := by
  intro pins s σ H xs us Q I rs h
  obtain ⟨a, n, rfl, hn, hl, h⟩ := h
  cases rs with
  | cons r1 rs =>
    cases rs
    obtain ⟨t, rfl⟩ := r1
    exact PySem.W.KIN.call_text hn hl ⟨.int n, H, I.tok _, ⟨_, rfl⟩, h⟩
end
section
variable {X : Cx} {o e : Expr} {to te : TE}
def tM0 (r : V → List V → Hp → VK → Prop) (to : TE) : TE := fun σ H Q => to σ H fun x H1 => (∃ a, x = .str a) ∧ r x [] H1 Q
def tM1 (r : V → List V → Hp → VK → Prop) (to te : TE) : TE := fun σ H Q => to σ H fun x H1 => (∃ a, x = .str a) ∧ te σ H1 fun y H2 => r x [y] H2 Q
theorem pe_m0 {id : String} {name : Str} {apos pos : Pos} {r : V → List V → Hp → VK → Prop} (slot : Slot "str" name id) (ty : typeOf (.builtin id) = pure (.type "method_descriptor")) (rule : MtR X id r) (ho : PE X o to)
    (hbase : attributeBase o name X.env (eval o X.env) = eval o X.env := by rfl) (hline : (apos.endLine == pos.line) = true := by rfl) : PE X (.Call (.Attribute o name apos) [] [] pos) (tM0 r to) := by
  intro pins s σ H Q I h
  refine PySem.Call_method0 hbase hline (thn (ho pins s σ H _ I h) fun v s1 ⟨x, H1, I1, r1, q1⟩ => ?_)
  obtain ⟨⟨a, rfl⟩, q1⟩ := q1
  obtain ⟨t, rfl⟩ := _root_.id r1
  exact ⟨"str", _, F.plainAttrs_str, slot, ty, typeIs_str _ _ _, (fun _ e => nomatch e), Calls.callWith_builtin rfl (PySem.evalArgs_none (rule pins s1 σ H1 _ [] _ [] Q I1 r1 .nil q1))⟩
theorem pe_m1 {id : String} {name : Str} {apos pos : Pos} {r : V → List V → Hp → VK → Prop} (slot : Slot "str" name id) (ty : typeOf (.builtin id) = pure (.type "method_descriptor")) (rule : MtR X id r) (ho : PE X o to) (he : PE X e te)
    (hs : starEach [e] X.env = [(false, eval e X.env)] := by rfl) (hbase : attributeBase o name X.env (eval o X.env) = eval o X.env := by rfl) (hline : (apos.endLine == pos.line) = true := by rfl) :
    PE X (.Call (.Attribute o name apos) [e] [] pos) (tM1 r to te) := by
  intro pins s σ H Q I h
  refine PySem.Call_method1 hbase hs hline (thn (ho pins s σ H _ I h) fun v s1 ⟨x, H1, I1, r1, q1⟩ => ?_)
  obtain ⟨⟨a, rfl⟩, q1⟩ := q1
  obtain ⟨t, rfl⟩ := _root_.id r1
  refine ⟨"str", _, F.plainAttrs_str, slot, ty, typeIs_str _ _ _, (fun _ e => nomatch e), Calls.callWith_builtin rfl (Calls.evalArgs_plain (Calls.spliced_cons ?_))⟩
  exact thn (he pins s1 σ H1 _ I1 q1) fun u s2 ⟨y, H2, I2, r2, q2⟩ => Calls.spliced_nil (rule pins s2 σ H2 _ [y] _ [u] Q I2 r1 (.cons r2 .nil) q2)
theorem pe_join {apos pos : Pos} (ho : PE X o to) (he : PE X e te) (hs : starEach [e] X.env = [(false, eval e X.env)] := by rfl) (hbase : attributeBase o "join" X.env (eval o X.env) = eval o X.env := by rfl) (hline : (apos.endLine == pos.line) = true := by rfl) :
    PE X (.Call (.Attribute o "join" apos) [e] [] pos) (tM1 (fun x xs H Q => ∃ a p, ∃ ys : List Str, x = .str a ∧ xs = [.ref p] ∧ (SqL X.K H p (ys.map V.str) ∨ SqT X.K H p (ys.map V.str)) ∧
      (ys.map (·.length)).sum + ys.length * a.length ≤ 16777216 ∧ Q (.str (Txt.join a ys)) H) to te) :=
  pe_m1 F.slot_str_join F.type_str_join mt_join ho he hs hbase hline
end
end L2
namespace L2
open PySem PySem.Spec PyProof.Rows
section
variable {X : Cx}
theorem op_in_sign : OpR X (compareOp .In) (fun x y H Q => ∃ (c : Nat) (z : Str), x = .str ⟨#[c]⟩ ∧ y = .str z ∧ Q (.bl (decide (c ∈ z.cps.toList))) H) := by
  intro pins s σ H x y v u Q I rx ry h
  obtain ⟨c, z, rfl, rfl, q⟩ := h
  obtain ⟨t, rfl⟩ := rx
  obtain ⟨t', rfl⟩ := ry
  exact PyProof.Rows.in_str (fin_bl I q (PySem.StrLaws.found_one z c).symm)
end
theorem IsPart.raw {v : Value} {o : Option Int} (p : IsPart v o) : ∃ l : Option (Int × Tok), v = partValue l ∧ l.map (·.1) = o := by
  cases p with
  | none => exact ⟨none, rfl, rfl⟩
  | int i t => exact ⟨some (i, t), rfl, rfl⟩
def clipS (n d : Nat) : Option Int → Int
  | none => (d : Int)
  | some i => max 0 (min (if i < 0 then i + (n : Int) else i) (n : Int))
theorem clipS_eq (n d : Nat) (o : Option Int) : clipS n d o = ((HT.sIx n d o : Nat) : Int) := by
  cases o with
  | none => rfl
  | some v =>
    show max (0 : Int) (min (if v < 0 then v + (n : Int) else v) (n : Int)) = (((if v < 0 then (v + (n : Int)).toNat else min v.toNat n) : Nat) : Int)
    by_cases hv : v < 0
    · simp only [if_pos hv]
      omega
    · simp only [if_neg hv]
      omega
theorem sidx_clip (a b : Option Int) (n : Nat) : Builtin.Str.strSliceIndices a b 1 n = sliceRange (clipS n 0 a) (clipS n n b) 1 := by
  have h1 : ((1 : Int) > 0) = True := by simp
  cases a <;> cases b <;> first
    | rfl
    | (simp only [Builtin.Str.strSliceIndices, clipS, h1, if_true]; rfl)
    | simp [Builtin.Str.strSliceIndices, clipS]
theorem sidx (a b : Option Int) (n : Nat) : Builtin.Str.strSliceIndices a b 1 n = (List.range (HT.sIx n n b - HT.sIx n 0 a)).map (fun k => HT.sIx n 0 a + k) := by
  rw [sidx_clip, clipS_eq, clipS_eq]
  generalize HT.sIx n 0 a = p
  generalize HT.sIx n n b = q
  simp only [sliceRange, show ((1 : Int) > 0) = True from by simp, if_true]
  by_cases hlt : (p : Int) < q
  · have e3 : (((q : Int) - p + 1 - 1) / 1).toNat = q - p := by first | omega | (simp; done) | (simp; omega)
    simp only [hlt, if_true, e3]
    refine List.map_congr_left fun k _ => ?_
    omega
  · have : q - p = 0 := by omega
    simp [hlt, this]
def cutS (z : Str) (lo hi : Option Int) : Str :=
  ⟨((z.cps.toList.drop (HT.sIx z.length 0 lo)).take (HT.sIx z.length z.length hi - HT.sIx z.length 0 lo)).toArray⟩
theorem sliceText_cut (z : Str) (lo hi : Option Int) : PySem.StrLaws.sliceText z lo hi = cutS z lo hi := by
  have h1 : HT.sIx z.length 0 lo ≤ z.length := HT.sIx_le _ _ (Nat.zero_le _) _
  have h2 : HT.sIx z.length z.length hi ≤ z.length := HT.sIx_le _ _ (Nat.le_refl _) _
  have hp : HT.sIx z.length 0 lo ≤ max (HT.sIx z.length 0 lo) (HT.sIx z.length z.length hi) := Nat.le_max_left _ _
  have hq : max (HT.sIx z.length 0 lo) (HT.sIx z.length z.length hi) ≤ z.length := Nat.max_le.mpr ⟨h1, h2⟩
  have hd : max (HT.sIx z.length 0 lo) (HT.sIx z.length z.length hi) - HT.sIx z.length 0 lo = HT.sIx z.length z.length hi - HT.sIx z.length 0 lo := by omega
  have e : Builtin.Str.strSliceIndices lo hi 1 z.length =
      Builtin.Str.strSliceIndices (some ((HT.sIx z.length 0 lo : Nat) : Int)) (some ((max (HT.sIx z.length 0 lo) (HT.sIx z.length z.length hi) : Nat) : Int)) 1 z.length := by
    rw [PySem.StrLaws.strSliceIndices_plain hp hq, hd, sidx]
  have e2 : PySem.StrLaws.sliceText z lo hi =
      PySem.StrLaws.sliceText z (some ((HT.sIx z.length 0 lo : Nat) : Int)) (some ((max (HT.sIx z.length 0 lo) (HT.sIx z.length z.length hi) : Nat) : Int)) := by
    unfold PySem.StrLaws.sliceText
    rw [e]
  rw [e2, PySem.StrLaws.sliceText_nat z hp hq, hd]
  rfl
theorem cutS_length (z : Str) (lo hi : Option Int) : (cutS z lo hi).length ≤ z.length := by
  show (((z.cps.toList.drop (HT.sIx z.length 0 lo)).take (HT.sIx z.length z.length hi - HT.sIx z.length 0 lo)).toArray).size ≤ z.cps.size
  rw [List.size_toArray, List.length_take, List.length_drop, Array.length_toList]
  omega
def rSlS : V → Option Int → Option Int → Hp → VK → Prop := fun x lo hi H Q => ∃ z, x = .str z ∧ z.length ≤ sizeLine ∧ Q (.str (cutS z lo hi)) H
theorem sl_str {X : Cx} : SlR X rSlS := by
  intro pins s σ H x v vl vu lo hi sl Q I rx hs pl pu h
  obtain ⟨z, rfl, hz, q⟩ := h
  obtain ⟨t, rfl⟩ := rx
  obtain ⟨os, hos, hcs, hds⟩ := hs
  obtain ⟨l, rfl, rfl⟩ := IsPart.raw pl
  obtain ⟨u, rfl, rfl⟩ := IsPart.raw pu
  refine ⟨"str", _, F.slot_str_getitem.lookup, typeIs_str _ _ _, ?_⟩
  refine wpAny_getItem_str_slice (l := l) (u := u) (st := none) ⟨os, hos, hcs, hds⟩ rfl ?_
  have hl : (PySem.StrLaws.sliceText z (l.map (·.1)) (u.map (·.1))).length ≤ sizeLine := by
    rw [sliceText_cut]
    exact Nat.le_trans (cutS_length z _ _) hz
  rw [← sliceText_cut] at q
  unfold PySem.StrLaws.sliceText at q hl
  show Made.post (if ((1 : Int) == 1 && (Builtin.Str.strSliceIndices (l.map (·.1)) (u.map (·.1)) 1 z.length).length == z.length) = true then Made.val (.str z t)
    else Made.str ⟨((Builtin.Str.strSliceIndices (l.map (·.1)) (u.map (·.1)) 1 z.length).filterMap (z.cps[·]?)).toArray⟩) (EP X pins σ Q) s
  by_cases c : ((1 : Int) == 1 && (Builtin.Str.strSliceIndices (l.map (·.1)) (u.map (·.1)) 1 z.length).length == z.length) = true
  · rw [if_pos c] at q ⊢
    exact ⟨.str z, H, I, ⟨t, rfl⟩, q⟩
  · rw [if_neg c] at q hl ⊢
    exact ⟨hl, .str _, H, I.tok _, ⟨_, rfl⟩, q⟩
end L2
namespace Att
open PySem PySem.W PySem.Calls PyProof.Rows
theorem ints_of_wellAll {P : Params} {h : Heap} : ∀ (ns : List Int) (vs : List Value), WellAll P h vs (ns.map WData.int) → IntsAre vs ns := by
  intro ns
  induction ns with
  | nil =>
    intro vs w
    rw [List.map_nil] at w
    cases w
    exact .nil
  | cons n ns ih =>
    intro vs w
    rw [List.map_cons] at w
    cases w with
    | cons a b =>
      cases a
      exact .cons _ _ (ih _ b)
end Att
namespace L2
open PySem PySem.Spec PyProof.Rows
theorem vals_ints : ∀ {vs : List Value} {ns : List Int}, IntsAre vs ns → Vals (ns.map V.int) vs
  | _, _, .nil => .nil
  | _, _, .cons n t h => .cons ⟨t, rfl⟩ (vals_ints h)
def Only (H : Hp) : Prop := ∀ b, H b = none ∨ ∃ o xs, H b = some (.frz o (.lst xs))
end L2
namespace L2
open PySem PySem.Spec PyProof.Rows
def inClass (s : Stmt) (j : Nat) : Stmt := match s with
  | .ClassDef _ _ _ body _ _ _ _ _ _ _ => body.getD j (.Pass ⟨0, 0, 0, 0⟩)
  | _ => .Pass ⟨0, 0, 0, 0⟩
def defArgs (s : Stmt) : Arguments := match s with
  | .FunctionDef _ a _ _ _ _ _ _ _ _ => a
  | _ => { posonlyargs := [], args := [], vararg := none, kwonlyargs := [], kw_defaults := [], kwarg := none, defaults := [] }
def defBody (s : Stmt) : List Stmt := match s with
  | .FunctionDef _ _ b _ _ _ _ _ _ _ => b
  | _ => []
def defScope (s : Stmt) : Scope := match s with
  | .FunctionDef _ _ _ _ _ _ sc _ _ _ => sc
  | _ => { kind := .function, names := [], isGenerator := false, isCoroutine := false }
abbrev CX0 : CXT := fun _ _ _ _ _ _ => False
abbrev E0 : XK := fun _ _ _ => False
theorem pass0 {X : Cx} : Passes CX0 X E0 := fun _ _ _ _ _ _ _ h => h.elim
structure Fun (K : PySem.W.Frag) (x qual : Str) (st : Stmt) (f : Addr) (fd : FuncData) : Prop where
  ex : ∃ (oc : Value) (od : Option Addr) (kV doc pm : Value) (an : Option Addr) (cdv ct : Value) (osl : Array (Option Value)),
    fd = PySem.W.fnOf x qual (defArgs st) (defBody st) (defScope st) .none kV doc pm an cdv ct ∧ K.lookup f = some ⟨oc, od, .func fd, osl⟩ ∧ PySem.W.codeIn K cdv qual = true
  kp : PySem.W.keepIn K (.ref f) = true
section
variable {P : Program} {w : World} {K : PySem.W.Frag} {mg : Str → Option Value} {base : Heap}
theorem Fun.ok {x qual : Str} {st : Stmt} {f : Addr} {fd : FuncData} {N ps : List Str} {k : Nat} {sp : Sp} (F : Fun K x qual st f fd) (S : FnScope N ps (defScope st)) (len : ∀ vs H Q E, sp vs H Q E → vs.length = ps.length)
    (hbody : ∀ (cdv : Value) (A : Around) (outer : List Env) (s : Shared) (H : Hp) (vs : List V) (Q : VK) (E : XK), Room k (A.deeper (envOfC qual (defScope st) s.heap.objs.size f cdv)) → sp vs H Q E →
      ∃ t, PSs (cxOf CX0 P w K mg base N qual (defScope st) f cdv A outer s H E).nox (defBody st) t ∧ t { nx := fun _ H' => Q .non H', rt := Q } (start N vs) H) : FnOk P w K mg base CX0 (k + 1) f fd ps sp := by
  obtain ⟨oc, od, kV, doc, pm, an, cdv, ct, osl, rfl, lk, hcd⟩ := F.ex
  refine fn_of lk hcd S len fun A outer s H vs Q E hr hsp => ?_
  obtain ⟨t, h, q⟩ := hbody cdv A outer s H vs Q E hr hsp
  exact ⟨t, h.nox, q⟩
theorem Fun.binds {x qual : Str} {st : Stmt} {f : Addr} {fd : FuncData} {ps : List Str} (F : Fun K x qual st f fd)
    (h : ∀ (kV doc pm : Value) (an : Option Addr) (cdv ct : Value) (us : List Value), us.length = ps.length → bindArgs (PySem.W.fnOf x qual (defArgs st) (defBody st) (defScope st) .none kV doc pm an cdv ct) ⟨us, []⟩ = pure (ps.zip us)) : Binds K fd ps [] := by
  obtain ⟨oc, od, kV, doc, pm, an, cdv, ct, osl, rfl, lk, hcd⟩ := F.ex
  exact .all (h kV doc pm an cdv ct)
theorem fun_mk {x qual : Str} {st : Stmt} {f : Addr} {oc : Value} {od an : Option Addr} {osl : Array (Option Value)} {kV doc pm cdv ct : Value} (l : K.lookup f = some ⟨oc, od, .func (PySem.W.fnOf x qual (defArgs st) (defBody st) (defScope st) .none kV doc pm an cdv ct), osl⟩)
    (c : PySem.W.codeIn K cdv qual = true) (k : PySem.W.keepIn K (.ref f) = true) : Fun K x qual st f (PySem.W.fnOf x qual (defArgs st) (defBody st) (defScope st) .none kV doc pm an cdv ct) := ⟨⟨oc, od, kV, doc, pm, an, cdv, ct, osl, rfl, l, c⟩, k⟩
end
theorem hu_of {A : Around} {k : Nat} (hr : Room k A) : A.units + 1 < cLine := Nat.lt_of_le_of_lt (Nat.add_le_add_left (by decide : 1 ≤ 64) _) hr.units
section
variable {X : Cx}
theorem pv (i : Nat) {x : Str} {pos : Pos} (hN : X.N[i]? = some x := by rfl) (hv : Vis X.env.scope x := by first | exact Or.inl rfl | exact Or.inr (Or.inl rfl) | exact Or.inr (Or.inr rfl)) (hd : (x == ("__debug__" : Str)) = false := by decide)
    (hcd : (x == ("__classdict__" : Str)) = false := by decide) : PE X (.Name x pos) (tVar i) := pe_var hN hv hd hcd
theorem call_lenD : CallR X (.builtin "len") (fun xs H Q => ∃ a kvs, xs = [V.ref a] ∧ H a = some (.dK kvs) ∧ Q (.int kvs.length) H) := by
  intro pins s σ H xs us Q I r h
  obtain ⟨a, kvs, rfl, ha, q⟩ := h
  obtain ⟨u, rfl, ru⟩ := vals1 r
  cases ru
  exact d_len I (.inl ha) fun t s' I' => ⟨.int kvs.length, H, I', ⟨t, rfl⟩, q⟩
end
theorem iteF {A B : Prop} (h : B) : if false = true then A else B := by
  rw [if_neg Bool.false_ne_true]
  exact h
theorem iteT {A B : Prop} (h : A) : if true = true then A else B := by
  rw [if_pos rfl]
  exact h
theorem ite2 {c A B : Prop} [Decidable c] (h1 : c → A) (h2 : ¬ c → B) : if c then A else B := by
  by_cases h : c
  · rw [if_pos h]
    exact h1 h
  · rw [if_neg h]
    exact h2 h
def Same (H H' : Hp) : Prop := ∀ b o, H b = some o → H' b = some o
theorem Same.seq {K : PySem.W.Frag} {H H' : Hp} {a : Addr} {xs : List V} (e : Same H H') (h : SqL K H a xs) : SqL K H' a xs := by
  rcases h with (h | ⟨o, h⟩) | h
  · exact .inl (.inl (e _ _ h))
  · exact .inl (.inr ⟨o, e _ _ h⟩)
  · exact .inr h
end L2
set_option Elab.async false
set_option linter.all false
set_option maxRecDepth 100000
namespace L2
open PySem PySem.Spec PyProof.Rows
theorem ObjOk.there {P : Program} {w : World} {H : Hp} {h : Heap} {a : Addr} {o : HO} (x : ObjOk P w H h a o) : ∃ ob, h.get? a = some ob := by
  cases o with
  | lst xs => obtain ⟨_, _, _, _, e⟩ := x; exact ⟨_, e⟩
  | tup xs => obtain ⟨_, _, _, ob, e, _⟩ := x; exact ⟨_, e⟩
  | dK kvs => obtain ⟨_, _, _, _, o, _, _, e, _⟩ := x; exact ⟨_, e⟩
  | dT kvs => obtain ⟨_, _, _, _, o, _, _, e, _⟩ := x; exact ⟨_, e⟩
  | set S n => obtain ⟨o, _, _, _, e, _⟩ := x; exact ⟨_, e⟩
  | ins C dx fs => obtain ⟨_, _, _, e, _⟩ := x; exact ⟨_, e⟩
  | own y => obtain ⟨_, e⟩ := x; exact ⟨_, e⟩
  | xd fs => obtain ⟨_, ⟨_, _, _, e, _⟩, _⟩ := x; exact ⟨_, e⟩
  | rng lo hi => obtain ⟨_, _, _, e⟩ := x; exact ⟨_, e⟩
  | frz ob u => obtain ⟨e, _⟩ := x; exact ⟨_, e⟩
  | tbl ps => exact ⟨_, (show h.get? a = some _ from x)⟩
  | met f y => exact ⟨_, (show h.get? a = some _ from x)⟩
  | ext φ => obtain ⟨_, ⟨_, e⟩, _⟩ := x; exact ⟨_, e⟩
theorem un_fly {fs : List Addr} {H H' : Hp} {h h1 h2 B : Heap} (u : Un fs [] H H' h h1) (k1 : B.StaysIn h1) (k2 : B.StaysIn h2) (up : h1.UpToSlots h2)
    (cov : ∀ b o, h.get? b = some o → b ∉ fs → ∃ ob, B.get? b = some ob) (nf : ∀ b ∈ fs, ∀ o, h1.get? b = some o → ∀ vs, o.data ≠ .fields vs) : Un fs [] H H' h h2 where
  keep b o e n hb hx := by
    obtain ⟨ob, q⟩ := cov b o e hb
    have e1 := u.keep b o e n hb hx
    have e2 : ob = o := Option.some.inj ((k1 b ob q).symm.trans e1)
    subst e2
    exact k2 b _ q
  slot b o e n hb hx := by
    obtain ⟨sl, e1⟩ := u.slot b o e n hb hx
    obtain ⟨sl2, e2⟩ := up b _ e1 (nf b hb _ e1)
    exact ⟨sl2, e2⟩
  free := u.free
  there b o e hx := by
    by_cases hb : b ∈ fs
    · obtain ⟨o', e1⟩ := u.there b o e hx
      obtain ⟨sl2, e2⟩ := up b _ e1 (nf b hb _ e1)
      exact ⟨_, e2⟩
    · obtain ⟨ob, q⟩ := cov b o e hb
      exact ⟨ob, k2 b ob q⟩
  tups := u.tups
  frzs := u.frzs
  tbls := u.tbls
theorem un_out {fs : List Addr} {L : Addr} {H0 H H' : Hp} {h0 h1 h2 : Heap} (u : Un fs [] H0 H h0 h1) (v : Un (L :: fs) [] H H' h1 h2) (hL : ∀ b o, h0.get? b = some o → b ≠ L) : Un fs [] H0 H' h0 h2 where
  keep b o e n hb hx := v.keep b o (u.keep b o e n hb hx) (u.free b o e n hx) (by intro z; rcases List.mem_cons.mp z with z | z; exact hL b o e z; exact hb z) hx
  slot b o e n hb hx := by
    obtain ⟨sl, e1⟩ := u.slot b o e n hb hx
    obtain ⟨sl2, e2⟩ := v.slot b _ e1 (u.free b o e n hx) (List.mem_cons_of_mem _ hb) hx
    exact ⟨sl2, e2⟩
  free b o e n hx := by
    obtain ⟨o', e1⟩ := u.there b o e hx
    exact v.free b o' e1 (u.free b o e n hx) hx
  there b o e hx := by
    obtain ⟨o', e1⟩ := u.there b o e hx
    exact v.there b o' e1 hx
  tups b xs e := v.tups b xs (u.tups b xs e)
  frzs b o x e := v.frzs b o x (u.frzs b o x e)
  tbls b ps e := by
    obtain ⟨m1, e1⟩ := u.tbls b ps e
    obtain ⟨m2, e2⟩ := v.tbls b _ e1
    exact ⟨m1 ++ m2, by rw [e2, Array.append_assoc]⟩
theorem hok_fly {P : Program} {w : World} {H : Hp} {h1 h2 B : Heap} (x : HOk P w H h1) (k1 : B.StaysIn h1) (k2 : B.StaysIn h2) (cov : ∀ b o, H b = some o → ∃ ob, B.get? b = some ob) : HOk P w H h2 := fun a o e =>
  (x a o e).stay (fun b u hb q => by
    obtain ⟨o', e'⟩ : ∃ o', H b = some o' := by
      rcases hb with rfl | hb
      · exact ⟨_, e⟩
      · exact ⟨_, hb⟩
    obtain ⟨ob, qb⟩ := cov b o' e'
    have e2 : ob = u := Option.some.inj ((k1 b ob qb).symm.trans q)
    subst e2
    exact k2 b _ qb) (fun _ q => q) fun _ _ q => q
def CXW (P : Program) (w : World) : CXT := fun outer H s E e s' =>
  ∃ (ea : Addr) (cls a0 : Value) (B : Heap) (H' : Hp), e = .ref ea ∧ s'.os = s.os ∧ AllBare s'.gens ∧ Un (frs outer) [] H H' s.heap s'.heap ∧ HOk P w H' s'.heap ∧
    Heap.FlyingW B outer ea cls a0 s'.heap ∧ (∀ b o, H' b = some o → ∃ ob, B.get? b = some ob) ∧ (∀ b o, s.heap.get? b = some o → b ∉ frs outer → ∃ ob, B.get? b = some ob) ∧ E cls none H'
structure FnCx (X : Cx) : Prop where
  stk : X.stack = X.env :: X.outer
  fr : X.env.frame = some X.env.locals
  ex : X.ex = []
theorem FnCx.frs {X : Cx} (F : FnCx X) : frs X.stack = X.env.locals :: X.fs := by
  rw [F.stk]
  show List.filterMap _ _ = _
  rw [List.filterMap_cons, F.fr]
  rfl
section
variable {X : Cx} {pins : List (Addr × Obj)} {σ : St} {H : Hp} {s : Shared}
theorem Inv.above (I : Inv X pins σ H s) : ∀ b o, X.s₀.heap.get? b = some o → b ≠ X.env.locals := fun b o e z => by
  have h1 := Heap.lt_size e
  have h2 := I.ok.above
  rw [z] at h1
  exact absurd (Nat.lt_of_lt_of_le h1 h2) (Nat.lt_irrefl _)
theorem Inv.nofields (I : Inv X pins σ H s) : ∀ b ∈ L2.frs X.stack, ∀ o, s.heap.get? b = some o → ∀ vs, o.data ≠ .fields vs := fun b hb o e vs q => by
  obtain ⟨_, o', e', nf⟩ := I.stack.mem hb
  rw [e] at e'
  cases e'
  exact nf vs q
theorem Inv.raised {M : Model} {E' : Value → Shared → Prop} (F : FnCx X) (I : Inv X pins σ H s) {h' : Heap} {e : Addr} {cls : Value} {vs : List Value} (hx : Heap.MadeExcOf s.heap h' e cls vs) {E : XK} (hE : E cls none H) :
    wpAny M X.A (leaving X.env (.ref e)) (fun _ s'' => CXW X.prog X.w X.outer X.H₀ X.s₀ E (.ref e) s'') E' { s with heap := h' } := by
  have hst := F.frs
  have k0 : (PySem.W.hideAll s.heap (L2.frs X.stack)).StaysIn s.heap := fun b o q => PySem.W.of_hideAll _ q
  have hfr : X.A.frames = some (X.env :: X.outer) := by rw [I.ok.frames, F.stk]
  have hl : s.heap.FunFrames (PySem.W.hideAll s.heap (L2.frs X.stack)) (X.env :: X.outer) := by
    have q := PySem.W.funFrames_hide (as := L2.frs X.stack) I.stack (fun env hm a ha => List.mem_filterMap.mpr ⟨env, hm, ha⟩)
    rw [F.stk] at q ⊢
    exact q
  refine wpAny_leaves_madeW (base := PySem.W.hideAll s.heap (L2.frs X.stack)) (h := s.heap) hfr F.fr k0 hl hx fun h2 t f1 f2 f3 f4 => ?_
  have up : s.heap.UpToSlots h2 := (Heap.UpToSlots.of_keeps hx.keeps).trans f4
  have cov : ∀ b o, s.heap.get? b = some o → b ∉ L2.frs X.stack → ∃ ob, (PySem.W.hideAll s.heap (L2.frs X.stack)).get? b = some ob := fun b o q hb => ⟨o, PySem.W.hideAll_get _ q hb⟩
  have u2 : Un (L2.frs X.stack) [] H H s.heap h2 := un_fly Un.refl k0 f1.1 up cov I.nofields
  have u1 : Un X.fs [] X.H₀ H X.s₀.heap s.heap := by have q := I.base; rw [F.ex] at q; exact q
  rw [hst] at u2
  have cov1 : ∀ b o, H b = some o → ∃ ob, (PySem.W.hideAll s.heap (L2.frs X.stack)).get? b = some ob := fun b o q => by
    obtain ⟨ob, e1⟩ := (I.hok b o q).there
    exact cov b ob e1 fun z => by rw [I.stkFree b z] at q; cases q
  refine ⟨e, cls, .ref t, _, H, rfl, I.os, I.bare, un_out u1 u2 I.above, hok_fly I.hok k0 f1.1 cov1, f1, cov1, fun b o q hb => ?_, hE⟩
  obtain ⟨o', e1⟩ := u1.there b o q (by simp)
  refine cov b o' e1 fun z => ?_
  rw [hst] at z
  rcases List.mem_cons.mp z with z | z
  · exact I.above b o q z
  · exact hb z
theorem Inv.passed {M : Model} {E' : Value → Shared → Prop} (F : FnCx X) (I : Inv X pins σ H s) {e : Value} {s' : Shared} {E : XK} (h : CXW X.prog X.w X.stack H s E e s') :
    wpAny M X.A (leaving X.env e) (fun _ s'' => CXW X.prog X.w X.outer X.H₀ X.s₀ E e s'') E' s' := by
  have hst := F.frs
  obtain ⟨ea, cls, a0, B, H', rfl, os, bare, un, hok, fl, cov1, cov2, hE⟩ := h
  have hfr : X.A.frames = some (X.env :: X.outer) := by rw [I.ok.frames, F.stk]
  have fl' := fl
  rw [F.stk] at fl'
  refine wpAny_leaves_onW hfr F.fr fl' fun h2 f1 up => ?_
  have nf : ∀ b ∈ L2.frs X.stack, ∀ o, s'.heap.get? b = some o → ∀ vs, o.data ≠ .fields vs := fun b hb o q vs z => by
    obtain ⟨_, o', e', n⟩ := fl.2.2.1.mem hb
    rw [q] at e'
    cases e'
    exact n vs z
  have u2 : Un (L2.frs X.stack) [] H H' s.heap h2 := un_fly un fl.1 f1.1 up cov2 nf
  have u1 : Un X.fs [] X.H₀ H X.s₀.heap s.heap := by have q := I.base; rw [F.ex] at q; exact q
  rw [hst] at u2
  refine ⟨ea, cls, a0, B, H', rfl, os.trans I.os, bare, un_out u1 u2 I.above, hok_fly hok fl.1 f1.1 cov1, f1, cov1, fun b o q hb => ?_, hE⟩
  obtain ⟨o', e1⟩ := u1.there b o q (by simp)
  refine cov2 b o' e1 fun z => ?_
  rw [hst] at z
  rcases List.mem_cons.mp z with z | z
  · exact I.above b o q z
  · exact hb z
end
def Rz (X : Cx) (C : Addr) (E : XK) : Prop := ∀ (pins : List (Addr × Obj)) (σ : St) (H : Hp) (s : Shared) (h' : Heap) (e : Addr) (vs : List Value), Inv X pins σ H s → Heap.MadeExcOf s.heap h' e (.ref C) vs → E (.ref C) none H → X.xe (.ref e) { s with heap := h' }
section
variable {P : Program} {w : World} {K : PySem.W.Frag} {mg : Str → Option Value} {base : Heap} {N : List Str} {qual : Str} {scope : Scope} {f : Addr} {cd : Value} {A : Around} {outer : List Env} {s : Shared} {H : Hp} {E : XK}
theorem fncx : FnCx (cxOf (CXW P w) P w K mg base N qual scope f cd A outer s H E) := ⟨rfl, rfl, rfl⟩
theorem pass_cx : Passes (CXW P w) (cxOf (CXW P w) P w K mg base N qual scope f cd A outer s H E) E := fun _ _ _ _ _ _ I h => I.passed fncx h
theorem rz_cx {C : Addr} : Rz (cxOf (CXW P w) P w K mg base N qual scope f cd A outer s H E) C E := fun _ _ _ _ _ _ _ I hx hE => I.raised fncx hx hE
theorem own_cx : PassesOwn (model P w) (cxOf (CXW P w) P w K mg base N qual scope f cd A outer s H E).A (cxOf (CXW P w) P w K mg base N qual scope f cd A outer s H E).env (cxOf (CXW P w) P w K mg base N qual scope f cd A outer s H E).xe := PassesOwn.leaving
end
theorem Fun.okX {P : Program} {w : World} {K : PySem.W.Frag} {mg : Str → Option Value} {base : Heap} {x qual : Str} {st : Stmt} {f : Addr} {fd : FuncData} {N ps : List Str} {k : Nat} {sp : Sp} (F : Fun K x qual st f fd) (S : FnScope N ps (defScope st)) (len : ∀ vs H Q E, sp vs H Q E → vs.length = ps.length)
    (hbody : ∀ (cdv : Value) (A : Around) (outer : List Env) (s : Shared) (H : Hp) (vs : List V) (Q : VK) (E : XK), Room k (A.deeper (envOfC qual (defScope st) s.heap.objs.size f cdv)) → sp vs H Q E →
      ∃ t, PSs (cxOf (CXW P w) P w K mg base N qual (defScope st) f cdv A outer s H E) (defBody st) t ∧ t { nx := fun _ H' => Q .non H', rt := Q } (start N vs) H) : FnOk P w K mg base (CXW P w) (k + 1) f fd ps sp := by
  obtain ⟨oc, od, kV, doc, pm, an, cdv, ct, osl, rfl, lk, hcd⟩ := F.ex
  exact fn_of lk hcd S len fun A outer s H vs Q E hr hsp => hbody cdv A outer s H vs Q E hr hsp
theorem exc_of_in {K : PySem.W.Frag} {h : Heap} {C : Addr} {bmB : List Value} {newId : String} (X : K.In h) (q : PySem.W.excIn K C bmB newId = true) :
    ∃ bm N nm q bs hdct sn sub ab col dd k0 k1 k2 k3 k5 mN, h.get? C = some (excClassObj nm q C N bs bm hdct sn sub ab col dd k0 k1 k2 k3 k5 newId) ∧ h.Ns N mN ∧ mN "__init__" = none ∧ OwnTail h bmB bm := by
  unfold PySem.W.excIn at q
  split at q
  · rename_i dd cd sl ho
    split at q
    · rename_i C' bm k0 k1 k2 k3 n k5 hm hs
      simp only [Bool.and_eq_true, beq_iff_eq, Bool.not_eq_true'] at q
      obtain ⟨⟨⟨⟨⟨rfl, rfl⟩, hdel⟩, ht⟩, hok⟩, hni⟩ := q
      obtain ⟨nm, bs, mro, ns, qn, hd, sn, sub, ab, col, del⟩ := cd
      dsimp only at hm hdel hok hni
      subst hm hdel
      have hsl : sl = #[k0, k1, k2, k3, some (.builtin n), k5] := by
        obtain ⟨l⟩ := sl
        simp only at hs
        rw [hs]
      subst hsl
      exact ⟨bm, ns, nm, qn, bs, hd, sn, sub, ab, col, dd, k0, k1, k2, k3, k5, _, X _ _ ho, .of_isNs (PySem.W.isNs_of_in X hok), PySem.W.nsMap_none_of_in X hok hni, PySem.W.tail_of_in X ht⟩
    · cases q
  · cases q
def tRaise (t : TA) (C : Addr) (E : XK) : TS := fun _ σ H => t σ H fun vs H1 => vs.length ≤ sizeLine ∧ E (.ref C) none H1
theorem ps_raise {X : Cx} {B newId initId : String} {bmB : List Value} {C : Addr} {x : Str} {np cpos pos : Pos} {arg : Expr} {rest : List Expr} {ta : TA} {E : XK} (FB : ExcBaseFacts B newId initId bmB) (hq : PySem.W.excIn X.K C bmB newId = true) (hc : X.calm = true)
    (hg : Gl X x) (hm : X.mg x = some (.ref C)) (ha : PA X (arg :: rest) ta) (R : Rz X C E) (hd : (x == ("__debug__" : Str)) = false := by decide)
    (he : starEach (arg :: rest) X.env = (false, eval arg X.env) :: starEach rest X.env := by rfl) (hpl : (backTo cpos (starEach rest X.env)).any (·.1) = false := by rfl) :
    PS X (.Raise (some (.Call (.Name x np) (arg :: rest) [] cpos)) none pos) (tRaise ta C E) := by
  intro pins s σ H D I h
  obtain ⟨tl, N, nm, q, bs, hdct, sn, sub, ab, col, dd, k0, k1, k2, k3, k5, mN, hC, hN, hni, T⟩ := exc_of_in I.mod.kin hq
  refine wpAny_Raise_call_subT (C := C) (nm := nm) (q := q) (N := N) (bs := bs) (bm := tl) (hdct := hdct) (sn := sn) (sub := sub) (ab := ab) (col := col) (dd := dd) (k0 := k0) (k1 := k1) (k2 := k2) (k3 := k3) (k5 := k5)
    FB (mN := mN) (T.hasType FB.hasBase) (I.ok.hd hc) (by rw [he]; show (false || (backTo cpos (starEach rest X.env)).any (·.1)) = false; rw [hpl]; rfl) hni (ld_glob I hg hm ⟨rfl, ?_⟩ hd)
  have h2 := ha cpos pins s σ H (fun vs H1 => vs.length ≤ sizeLine ∧ E (.ref C) none H1) I h
  rw [he] at h2 ⊢
  exact Calls.evalArgs_plain (wpAny_mono h2 (fun us s₂ h₃ => by
    obtain ⟨vs, H', J, rv, hl, hE⟩ := h₃
    exact ⟨rfl, by rw [← rv.length]; exact hl, J.bk _ _ hC, hN.keeps J.bk, T.keeps J.bk, fun h' e hx => R pins σ H' s₂ h' e us J hx hE⟩) fun _ _ y => y)
abbrev Cx.tryB (X : Cx) (pn : List (Addr × Obj)) (xe : Value → Shared → Prop) : Cx := { X with pn := pn, xe := xe }
abbrev Cx.exB (X : Cx) (e : Addr) : Cx := { X with A := X.A.mark (some (.ref e)), calm := false, xe := fun _ _ => False }
theorem Inv.tryB {X : Cx} {pins : List (Addr × Obj)} {σ : St} {H : Hp} {s : Shared} (I : Inv X pins σ H s) (xe : Value → Shared → Prop) : Inv (X.tryB (X.pn ++ pins) xe) [] σ H s :=
  ⟨⟨I.ok.mod, I.ok.kind, I.ok.glob, I.ok.blt, I.ok.above, I.ok.inj, I.ok.has, I.ok.cab, I.ok.hd, I.ok.frames, I.ok.stk, I.ok.exf, I.ok.bs, I.ok.bsz, I.ok.noex, I.ok.exfs, I.ok.funs, I.ok.frf⟩,
    I.os, I.bare, I.base, I.loc, I.cell, I.free, I.freeC, fun p hp => I.pin p (by simpa using hp), I.hok, I.len⟩
theorem Inv.untryB {X : Cx} {pins pins' : List (Addr × Obj)} {σ : St} {H : Hp} {s : Shared} {xe : Value → Shared → Prop} (I : Inv (X.tryB (X.pn ++ pins) xe) pins' σ H s) : Inv X pins σ H s :=
  ⟨⟨I.ok.mod, I.ok.kind, I.ok.glob, I.ok.blt, I.ok.above, I.ok.inj, I.ok.has, I.ok.cab, I.ok.hd, I.ok.frames, I.ok.stk, I.ok.exf, I.ok.bs, I.ok.bsz, I.ok.noex, I.ok.exfs, I.ok.funs, I.ok.frf⟩,
    I.os, I.bare, I.base, I.loc, I.cell, I.free, I.freeC, fun p hp => I.pin p (List.mem_append_left _ hp), I.hok, I.len⟩
theorem Inv.exB {X : Cx} {pins : List (Addr × Obj)} {σ : St} {H : Hp} {s : Shared} (I : Inv X pins σ H s) (e : Addr) : Inv (X.exB e) pins σ H s :=
  ⟨⟨I.ok.mod, I.ok.kind, I.ok.glob, I.ok.blt, I.ok.above, I.ok.inj, I.ok.has, I.ok.cab, (fun h => nomatch h), I.ok.frames, I.ok.stk, I.ok.exf, I.ok.bs, I.ok.bsz, I.ok.noex, I.ok.exfs, I.ok.funs, I.ok.frf⟩,
    I.os, I.bare, I.base, I.loc, I.cell, I.free, I.freeC, I.pin, I.hok, I.len⟩
theorem Inv.unexB {X : Cx} {pins : List (Addr × Obj)} {σ : St} {H : Hp} {s : Shared} {e : Addr} (ok : X.Ok) (I : Inv (X.exB e) pins σ H s) : Inv X pins σ H s :=
  ⟨ok, I.os, I.bare, I.base, I.loc, I.cell, I.free, I.freeC, I.pin, I.hok, I.len⟩
def blank (σ : St) : St := List.replicate σ.length none
def tTry (C : Addr) (tb : XK → TS) (ts : TS) : TS := fun D σ H => ∃ E' : XK, (∀ cls od H', E' cls od H' → cls = .ref C) ∧ (∀ (σ' : St) H', σ'.length = σ.length → E' (.ref C) none H' → ts D (blank σ') H') ∧ tb E' D σ H
theorem ps_try {X : Cx} {B newId initId : String} {bmB : List Value} {C : Addr} {x : Str} {np hpos pos : Pos} {body : List Stmt} {b₀ : Stmt} {suite : List Stmt} {tb : XK → TS} {ts : TS} (F : FnCx X) (FB : ExcBaseFacts B newId initId bmB) (hq : PySem.W.excIn X.K C bmB newId = true)
    (hg : Gl X x) (hm : X.mg x = some (.ref C))
    (hb : ∀ (E' : XK) (pn : List (Addr × Obj)) (xe : Value → Shared → Prop), Passes (CXW X.prog X.w) (X.tryB pn xe) E' → PassesOwn (model X.prog X.w) X.A X.env xe → PSs (X.tryB pn xe) body (tb E'))
    (hs : ∀ e : Addr, PSs (X.exB e) (b₀ :: suite) ts) (hd : (x == ("__debug__" : Str)) = false := by decide) :
    PS X (.Try body [.ExceptHandler (some (.Name x np)) none (b₀ :: suite) hpos] [] [] pos) (tTry C tb ts) := by
  intro pins s σ H D I h
  obtain ⟨E', hC, hts, htb⟩ := h
  refine wpAny_Try_except ?_
  let XE : Value → Shared → Prop := fun e s₁ => wpAny (model X.prog X.w) X.A (noteFrame e X.env) (fun _ s₂ => wpAny (model X.prog X.w) X.A (setFlight e none) (fun _ s₃ => wpAny (model X.prog X.w) X.A (handleBy e X.env [.ExceptHandler (some (.Name x np)) none (b₀ :: suite) hpos]) (SP X pins D) X.xe s₃) X.xe s₂) X.xe s₁
  have hps : Passes (CXW X.prog X.w) (X.tryB (X.pn ++ pins) XE) E' := by
    intro pins' σ' H1 s1 e s' J hcx
    have J' : Inv X pins σ' H1 s1 := J.untryB
    obtain ⟨ea, cls, a0, B, H', rfl, os, bare, un, hok, fl, cov1, cov2, hE⟩ := hcx
    obtain rfl : cls = .ref C := hC _ _ _ hE
    have hfr : X.A.frames = some (X.env :: X.outer) := by rw [J'.ok.frames, F.stk]
    have fl' : Heap.FlyingW B (X.env :: X.outer) ea (.ref C) a0 s'.heap := by have q := fl; rw [show (X.tryB (X.pn ++ pins) XE).stack = X.stack from rfl, F.stk] at q; exact q
    have nf : ∀ b ∈ L2.frs X.stack, ∀ o, s'.heap.get? b = some o → ∀ vs, o.data ≠ .fields vs := fun b hb o q vs z => by
      obtain ⟨_, o', e', n⟩ := fl.2.2.1.mem hb
      rw [q] at e'
      cases e'
      exact n vs z
    have inv : ∀ h2 : Heap, B.StaysIn h2 → s'.heap.UpToSlots h2 → Inv X pins σ' H' { s' with heap := h2 } := fun h2 k2 up =>
      J'.call' (ch := []) os (un_fly un fl.1 k2 up cov2 nf) (hok_fly hok fl.1 k2 cov1) bare (fun b hb => nomatch hb)
    show wpAny _ _ _ _ _ _
    refine wpAny_looks_onW hfr F.fr fl' fun h4 held4 up4 => ?_
    refine wpAny_landsW held4 fun h5 fl5 up5 => ?_
    have I5 := inv h5 fl5.1 (up4.trans up5)
    obtain ⟨tl, N, nm, q, bs, hdct, sn, sub, ab, col, dd, k0, k1, k2, k3, k5, mN, hCo, hN, hni, T⟩ := exc_of_in I5.kIn hq
    obtain ⟨oe, he, hcls⟩ := fl5.there
    refine wpAny_handleBy_cons (codeAny_handlers_test ?_) (by intro q; cases q)
    refine ld_glob (X := X.exB ea) (I5.exB ea) hg hm ?_ hd
    refine wpAny_excMatches_sub_self hCo he hcls (T.hasType FB.hasBase) (codeAny_handlers_suite ?_)
    refine lands_againW fl5 fun h6 fl6 up6 => ?_
    have I6 := inv h6 fl6.1 ((up4.trans up5).trans up6)
    have I6' : Inv (X.exB ea) pins (blank σ') H' { s' with heap := h6 } := (I6.exB ea).weak (by unfold blank; rw [List.length_replicate]) (fun i v z => by unfold blank at z; rw [List.getElem?_replicate] at z; split at z <;> cases z)
    refine thnF (hs ea pins _ (blank σ') H' D I6' (hts σ' H' (by rw [J'.len, I.len]) hE)) fun fl sx hx => ?_
    cases fl with
    | next => obtain ⟨σ2, H2, J2, z⟩ := hx; exact ⟨σ2, H2, J2.unexB I.ok, z⟩
    | brk => obtain ⟨σ2, H2, J2, z⟩ := hx; exact ⟨σ2, H2, J2.unexB I.ok, z⟩
    | cont => obtain ⟨σ2, H2, J2, z⟩ := hx; exact ⟨σ2, H2, J2.unexB I.ok, z⟩
    | ret u => obtain ⟨v, σ2, H2, J2, rv, z⟩ := hx; exact ⟨v, σ2, H2, J2.unexB I.ok, rv, z⟩
  refine wpAny_mono (hb E' (X.pn ++ pins) XE hps PassesOwn.looking [] s σ H D (I.tryB XE) htb) (fun fl sx hx => ?_) fun e sx hx => hx
  cases fl with
  | next =>
    obtain ⟨σ2, H2, J2, z⟩ := hx
    exact (pss_nil (X := X)) pins sx σ2 H2 D J2.untryB z
  | brk => obtain ⟨σ2, H2, J2, z⟩ := hx; exact ⟨σ2, H2, J2.untryB, z⟩
  | cont => obtain ⟨σ2, H2, J2, z⟩ := hx; exact ⟨σ2, H2, J2.untryB, z⟩
  | ret u => obtain ⟨v, σ2, H2, J2, rv, z⟩ := hx; exact ⟨v, σ2, H2, J2.untryB, rv, z⟩
end L2
set_option Elab.async false
set_option linter.all false
set_option maxRecDepth 100000
namespace L2
open PySem PySem.Spec PyProof.Rows
structure Handed (s₁ : Shared) (L : List (Addr × List Value × List Int)) : Prop where
  obj : ∀ p ∈ L, s₁.heap.get? p.1 = some { cls := .type "list", data := .seq p.2.1.toArray }
  nums : ∀ p ∈ L, IntsAre p.2.1 p.2.2
  len : ∀ p ∈ L, p.2.2.length ≤ sizeLine
theorem spec_call {P : Program} {w : World} {K : PySem.W.Frag} {mg mb : Str → Option Value} {CX : CXT} {k : Nat} {fa : Addr} {fd : FuncData} {ps : List Str} {sp : Sp} {s₁ : Shared} {L : List (Addr × List Value × List Int)} {us : List Value} {vs : List V} {Q : VK}
    (KX : K.In s₁.heap) (hns : s₁.heap.Ns mainGlobals mg) (hb : s₁.heap.Ns builtinsNs mb) (hbb : ∀ x : Str, x ≠ "__name__" → mb x = bootBuiltins x) (hlim : s₁.heap.NoLimit) (hg : s₁.gens = #[])
    (hL : Handed s₁ L) (hr : Room k callerA)
    (F : ∀ base : Heap, K.In base → base.Ns mainGlobals mg → FnOk P w K mg base CX k fa fd ps sp) (hbind : BindsTo s₁ fd ⟨us, []⟩ (ps.zip us)) (hv : Vals vs us)
    (hsp : ∀ H : Hp, Only H → (∀ p ∈ L, SqL K H p.1 (p.2.2.map V.int)) → sp vs H Q fun _ _ _ => False)
    (hCX : ∀ H e s', CX [] H s₁ (fun _ _ _ => False) e s' → False) :
    codeAny (model P w) callerA (.call (.ref fa) ⟨us, []⟩) (fun r s' => ∃ u v H', r = .ok (.ret u) ∧ RelV v u ∧ HOk P w H' s'.heap ∧ Q v H' ∧ OldK s₁.heap s'.heap ∧ s'.os = s₁.os ∧ AllBare s'.gens) s₁ := by
  let H : Hp := fun b => match K.lookup b with
    | some _ => none
    | none => (L.find? fun p => p.1 == b).map fun p => HO.frz { cls := .type "list", data := .seq p.2.1.toArray } (.lst (p.2.2.map V.int))
  have hH : ∀ b u, H b = some u → K.lookup b = none ∧ ∃ p ∈ L, p.1 = b ∧ u = HO.frz { cls := .type "list", data := .seq p.2.1.toArray } (.lst (p.2.2.map V.int)) := by
    intro b u e
    show _ ∧ _
    have e' : (match K.lookup b with
      | some _ => none
      | none => (L.find? fun p => p.1 == b).map fun p => HO.frz { cls := .type "list", data := .seq p.2.1.toArray } (.lst (p.2.2.map V.int))) = some u := e
    cases hk : K.lookup b with
    | some o => rw [hk] at e'; cases e'
    | none =>
      rw [hk] at e'
      cases hf : L.find? (fun p => p.1 == b) with
      | none => rw [hf] at e'; cases e'
      | some p =>
        rw [hf] at e'
        have e2 : HO.frz { cls := .type "list", data := .seq p.2.1.toArray } (.lst (p.2.2.map V.int)) = u := Option.some.inj e'
        exact ⟨rfl, p, List.mem_of_find?_eq_some hf, by have := List.find?_some hf; simpa using this, e2.symm⟩
  have hO : Only H := fun b => by
    cases q : H b with
    | none => exact .inl rfl
    | some u =>
      obtain ⟨_, p, _, _, rfl⟩ := hH b u q
      exact .inr ⟨_, _, rfl⟩
  have hok : HOk P w H s₁.heap := fun b u e => by
    obtain ⟨_, p, hp, rfl, rfl⟩ := hH b u e
    exact ⟨hL.obj p hp, by rw [List.length_map]; exact hL.len p hp, p.2.1, _, vals_ints (hL.nums p hp), hL.obj p hp⟩
  have hS : ∀ p ∈ L, SqL K H p.1 (p.2.2.map V.int) := fun p hp => by
    cases hk : K.lookup p.1 with
    | some o =>
      have e := KX p.1 o hk
      rw [hL.obj p hp] at e
      cases e
      exact .inr ⟨_, p.2.1.toArray, _, hk, rfl, rfl, rfl, by rw [List.size_toArray, (hL.nums p hp).length]; exact hL.len p hp, by simpa using vals_ints (hL.nums p hp)⟩
    | none =>
      cases hf : L.find? (fun q => q.1 == p.1) with
      | none =>
        have := List.find?_eq_none.mp hf p hp
        simp at this
      | some q =>
        have hq := List.mem_of_find?_eq_some hf
        have e1 : q.1 = p.1 := by have := List.find?_some hf; simpa using this
        have o1 := hL.obj q hq
        rw [e1, hL.obj p hp] at o1
        have o2 : p.2.1.toArray = q.2.1.toArray := by
          have := Option.some.inj o1
          injection this with _ _ z _
          injection z
        have o3 : p.2.1 = q.2.1 := by simpa using o2
        have v1 := vals_ints (hL.nums p hp)
        have v2 := vals_ints (hL.nums q hq)
        rw [← o3] at v2
        have e2 : p.2.2.map V.int = q.2.2.map V.int := Vals.inj v1 v2
        refine .inl (.inr ⟨{ cls := .type "list", data := .seq q.2.1.toArray }, ?_⟩)
        show (match K.lookup p.1 with
          | some _ => none
          | none => (L.find? fun (q : Addr × List Value × List Int) => q.1 == p.1).map fun (p : Addr × List Value × List Int) => HO.frz { cls := .type "list", data := .seq p.2.1.toArray } (.lst (p.2.2.map V.int))) = _
        rw [hk, hf, e2]
        rfl
  have base_of : ∀ {b : Addr} {o : Obj}, s₁.heap.get? b = some o → H b = none → (hidT s₁.heap H).get? b = some o := fun e n => hidT_get e n
  have noA : ∀ {b : Addr} {o : Obj} {es : Array DictEntry} {ep : Nat}, s₁.heap.get? b = some o → o.data = .dict es ep → H b = none := fun {b o es ep} e d => by
    cases q : H b with
    | none => rfl
    | some u =>
      obtain ⟨_, p, hp, rfl, rfl⟩ := hH b u q
      rw [hL.obj p hp] at e; cases e
      have d' : Data.seq p.2.1.toArray _ = Data.dict es ep := d
      cases d'
  have nsK : ∀ {b : Addr} {m : Str → Option Value}, s₁.heap.Ns b m → (hidT s₁.heap H).Ns b m := fun {b m} ⟨o, es, ep, e, d, r⟩ => ⟨o, es, ep, base_of e (noA e d), d, r⟩
  have hKb : K.In (hidT s₁.heap H) := fun b o e => base_of (KX b o e) (by
    cases q : H b with
    | none => rfl
    | some u =>
      obtain ⟨hk, _⟩ := hH b u q
      rw [hk] at e; cases e)
  have hM : Mod K mg (hidT s₁.heap H) := ⟨hKb, nsK hns, ⟨mb, nsK hb, hbb⟩, let ⟨mc, h1, h2⟩ := hlim; ⟨mc, nsK h1, h2⟩⟩
  have e0 : Env0 P w K mg (hidT s₁.heap H) callerA [] s₁ H := ⟨rfl, hM, fun b o e => of_hidT e, Nat.le_of_eq (hidT_size _ _), trivial, fun b hb => absurd (show b ∈ ([] : List Addr) from hb) (by simp), hok, .of_eq hg⟩
  refine codeAny_mono ((F _ hKb (nsK hns)).run callerA [] s₁ H ⟨us, []⟩ us vs _ _ hr e0 hbind hv (hsp H hO hS)) fun r s' h => ?_
  cases r with
  | error e => exact (hCX H e s' h).elim
  | ok fl =>
    cases fl with
    | next => exact False.elim h
    | brk => exact False.elim h
    | cont => exact False.elim h
    | ret u =>
      obtain ⟨v, H', os, bare, un, hok', r', q⟩ := h
      refine ⟨u, v, H', rfl, r', hok', q, OldK.of_keep fun b o e => ?_, os, bare⟩
      cases q : H b with
      | none => exact un.keep b o e q (by intro z; exact absurd (show b ∈ ([] : List Addr) from z) (by simp)) (by simp)
      | some u =>
        rcases hO b with z | ⟨ob, xs, z⟩
        · rw [q] at z; cases z
        · have z2 := un.frzs b ob _ z
          obtain ⟨e1, _⟩ := hok b _ z
          obtain ⟨e2, _⟩ := hok' b _ z2
          rw [e] at e1; cases e1
          exact e2
theorem readsAll_ints {R : PySem.W.WRecords} {cl : Str → Option Addr} {h : Heap} : ∀ {ns : List Int} {us : List Value}, Vals (ns.map V.int) us → PySem.W.ReadsAllW R cl h us (ns.map PySem.W.WData.int) []
  | [], us, r => by cases r; exact .nil
  | n :: ns, us, r => by
    cases r with
    | cons a b =>
      obtain ⟨t, rfl⟩ := a
      exact .cons (as := []) (bs := []) (.int n t) (readsAll_ints b)
theorem reads_ints {P : Program} {w : World} {H : Hp} {h : Heap} {p : Addr} {ns : List Int} {R : PySem.W.WRecords} {cl : Str → Option Addr} (hok : HOk P w H h) (e : H p = some (.lst (ns.map V.int))) : PySem.W.ReadsW R cl h (.ref p) (.list (ns.map .int)) [p] := by
  obtain ⟨_, its, n, rv, ho⟩ := hok p _ e
  exact .list ho rfl rfl (by simpa using readsAll_ints rv)
theorem spec_walk1 {r : PySem.W.OpenSpec} {n k : Nat} {q : Program} {loose : List Str} {XP : (Str → Option Value) → Heap → Prop} {YP : World → Heap → Prop} {d : DefRec} {K : Params → PySem.W.Frag} {CX : World → CXT} {sp : World → Sp} {x : Str} {f : List Int → List Int} {ok : List Int → Prop}
    (hpre : ∀ args, r.pre args = true → ∃ ns : List Int, args = [.list (ns.map .int)] ∧ ns.length ≤ n ∧ ok ns ∧ r.post args (.list ((f ns).map .int)) = true)
    (hn2 : n ≤ sizeLine) (hdf : d.params.defaults = []) (hr : Room k callerA)
    (hY : ∀ (w : World) (h : Heap), YP w h → (K w.params).In h)
    (F : ∀ (w : World) (mg : Str → Option Value) (fa : Addr) (h : Heap), (K w.params).In h → h.Ns mainGlobals mg → mg d.name = some (.ref fa) →
      ∃ fd : FuncData, (∀ (s : Shared) (u : Value), BindsTo s fd ⟨[u], []⟩ [(x, u)]) ∧
        ∀ base : Heap, (K w.params).In base → base.Ns mainGlobals mg → FnOk r.prog w (K w.params) mg base (CX w) k fa fd [x] (sp w))
    (hsp : ∀ (w : World) (H : Hp) (a : Addr) (ns : List Int), ns.length ≤ n → ok ns → Only H → SqL (K w.params) H a (ns.map V.int) → sp w [.ref a] H (fun v H' => ∃ p, v = .ref p ∧ H' p = some (.lst ((f ns).map V.int))) fun _ _ _ => False)
    (hCX : ∀ (w : World) (H : Hp) (s : Shared) (e : Value) (s' : Shared), CX w [] H s (fun _ _ _ => False) e s' → False) :
    PySem.W.WalkOS q loose XP YP r d [] (fun f vs => PySem.call f vs) := by
  intro w s₀ s₁ mg mb G Y fa o pm cd doc dV kV ho hd hcd hD hmg hg args vals as hp hlay hrd hwl hlo
  obtain ⟨ns, rfl, hlen, hok, hpost⟩ := hpre args hp
  obtain ⟨a, vs, rfl, hobj, hints⟩ : ∃ a vs, vals = [Value.ref a] ∧ s₁.heap.get? a = some { cls := .type "list", data := .seq vs.toArray } ∧ IntsAre vs ns := by
    cases hwl with
    | cons w1 w2 =>
      cases w2
      cases w1 with
      | list ho hall => exact ⟨_, _, rfl, ho, Att.ints_of_wellAll ns _ hall⟩
  have KX := hY w _ Y
  obtain ⟨fd, hb, hF⟩ := F w mg fa _ KX G.T.g hmg
  refine PySem.W.enter_call (codeAny_mono (spec_call (L := [(a, vs, ns)]) (us := [.ref a]) (vs := [.ref a]) (Q := fun v H' => ∃ p, v = .ref p ∧ H' p = some (.lst ((f ns).map V.int))) KX G.T.g G.T.b G.T.builtins G.T.nolimit hg
    ⟨fun p hp => ?_, fun p hp => ?_, fun p hp => ?_⟩ hr hF (hb _ _) (.cons rfl .nil) (fun H hO hS => hsp w H a ns hlen hok hO (hS _ List.mem_cons_self)) fun H e s' => hCX w H s₁ e s') fun res s' h => ?_)
  · cases List.mem_singleton.mp hp; exact hobj
  · cases List.mem_singleton.mp hp; exact hints
  · cases List.mem_singleton.mp hp; exact Nat.le_trans hlen hn2
  · obtain ⟨u, v, H', rfl, rv, hok', ⟨p, rfl, hp'⟩, h2, h3, h4⟩ := h
    obtain rfl : u = .ref p := rv
    exact ⟨.inl ⟨.ref p, _, _, rfl, fun _ => rfl, reads_ints hok' hp', hpost, fun z => nomatch z⟩, h2, h3, h4⟩
end L2
set_option Elab.async false
set_option linter.all false
set_option maxRecDepth 100000
set_option maxHeartbeats 4000000
namespace L2
open PySem PySem.Spec PyProof.Rows PySem.StrLaws PySem.Builtin.Str
abbrev sv (l : List Nat) : V := .str ⟨l.toArray⟩
theorem sv_len (l : List Nat) : (⟨l.toArray⟩ : Str).length = l.length := by show l.toArray.size = _; simp
theorem sv_tl (l : List Nat) : (⟨l.toArray⟩ : Str).cps.toList = l := by simp
theorem sv_inj {l m : List Nat} (h : sv l = sv m) : l = m := by injection h with h; injection h with h; simpa using h
theorem fromIndex_nat (n p : Nat) : fromIndex n (p : Int) = p := by
  unfold fromIndex
  rw [if_neg (by omega)]
  omega
theorem at_one (t : List Nat) (c i : Nat) : At ⟨t.toArray⟩ ⟨#[c]⟩ t.length i ↔ t[i]? = some c := by
  unfold At
  rw [subAt_eq]
  show (i + 1 ≤ t.length ∧ (List.take 1 (List.drop i t) == [c]) = true) ↔ _
  constructor
  · intro h
    have e := eq_of_beq h.2
    have h1 : i < t.length := by omega
    have q := congrArg (fun l => l[0]?) e
    simp only [List.getElem?_take, Nat.lt_irrefl, List.getElem?_drop, Nat.add_zero] at q
    rw [if_pos (by omega)] at q
    exact q
  · intro h
    obtain ⟨h1, e⟩ := List.getElem?_eq_some_iff.mp h
    refine ⟨by omega, ?_⟩
    rw [List.drop_eq_getElem_cons h1]
    simp [e]
theorem takeW_len {c : Nat} : ∀ {l : List Nat} {n : Nat}, (∀ j, j < n → l[j]? ≠ some c) → l[n]? = some c → (l.takeWhile (· != c)).length = n
  | [], n, _, h => by simp at h
  | x :: r, 0, _, h => by
    have e : x = c := by simpa using h
    subst e
    simp
  | x :: r, n + 1, hn, h => by
    have hx : x ≠ c := fun e => hn 0 (by omega) (by rw [e]; rfl)
    have ih := takeW_len (c := c) (l := r) (n := n) (fun j hj e => hn (j + 1) (by omega) e) h
    rw [List.takeWhile_cons_of_pos (by simp [hx]), List.length_cons, ih]
theorem find3_one (t : List Nat) (c p : Nat) (hp : p ≤ t.length) : Txt.find3 ⟨t.toArray⟩ ⟨#[c]⟩ (p : Int) = if c ∈ t.drop p then ((p + ((t.drop p).takeWhile (· != c)).length : Nat) : Int) else -1 := by
  unfold Txt.find3
  rw [sv_len, fromIndex_nat, occ_eq]
  rcases occ_first (⟨t.toArray⟩ : Str) (⟨#[c]⟩ : Str) t.length 1 (by omega) (List.range' p (t.length + 1 - p)) p (fun i hi => (List.mem_range'_1.mp hi).1) with ⟨e, hn⟩ | ⟨pr, a, post, e, h0, hA, hn⟩
  · rw [e]
    have hc : c ∉ t.drop p := fun hm => by
      obtain ⟨j, hj, ej⟩ := List.mem_iff_getElem.mp hm
      rw [List.length_drop] at hj
      refine hn (p + j) (List.mem_range'_1.mpr ⟨by omega, by omega⟩) ((at_one t c (p + j)).mpr ?_)
      rw [← List.getElem?_drop, List.getElem?_eq_getElem (by rw [List.length_drop]; exact hj), ej]
    rw [if_neg hc]
  · have hn0 : pr.length < t.length + 1 - p := by
      have q := congrArg List.length e
      rw [List.length_range', List.length_append, List.length_cons] at q
      omega
    have ha : a = p + pr.length := by
      have q := congrArg (fun l => l[pr.length]?) e
      simp only [List.getElem?_append_right (Nat.le_refl _), Nat.sub_self, List.getElem?_cons_zero] at q
      rw [List.getElem?_range' hn0] at q
      have := Option.some.inj q; omega
    have hget : t[a]? = some c := (at_one t c a).mp hA
    have hpre : ∀ j, j < pr.length → t[p + j]? ≠ some c := fun j hj z => by
      refine hn (p + j) ?_ ((at_one t c (p + j)).mpr z)
      have q := congrArg (fun l => l[j]?) e
      simp only [List.getElem?_append_left hj] at q
      rw [List.getElem?_range' (by omega : j < t.length + 1 - p)] at q
      have q2 := Option.some.inj ((List.getElem?_eq_getElem hj).symm.trans q.symm)
      have : pr[j] = p + j := by rw [q2]; omega
      rw [← this]; exact List.getElem_mem hj
    have hm : c ∈ t.drop p := by
      refine List.mem_of_getElem? (i := pr.length) ?_
      rw [List.getElem?_drop, ← ha, hget]
    rw [if_pos hm, takeW_len (n := pr.length) (fun j hj => by rw [List.getElem?_drop]; exact hpre j hj) (by rw [List.getElem?_drop, ← ha]; exact hget)]
    rw [← ha]
    generalize (forIn (List.range' p (t.length + 1 - p)) (#[], p) (occBody { cps := t.toArray } { cps := #[c] } t.length 1)).run.fst = arr at h0 ⊢
    obtain ⟨l⟩ := arr
    cases l with
    | nil => simp at h0
    | cons x r => simp at h0; simp [h0]
theorem sw3_pre (t y : List Nat) (p : Nat) (hy : y ≠ []) : Txt.startswith3 ⟨t.toArray⟩ ⟨y.toArray⟩ (p : Int) = TL.pre y (t.drop p) := by
  unfold Txt.startswith3 TL.pre
  rw [sv_len, sv_len, fromIndex_nat, subAt_eq, sv_tl, sv_tl, sv_len]
  have h0 : 0 < y.length := List.length_pos_iff.mpr hy
  by_cases e : (t.drop p).take y.length = y
  · have e1 := congrArg List.length e
    rw [List.length_take, List.length_drop] at e1
    rw [e, beq_self_eq_true, decide_eq_true (by omega : p + y.length ≤ t.length)]
    rfl
  · rw [beq_eq_false_iff_ne.mpr e, Bool.and_false]
theorem sw_pre (t y : List Nat) (hy : y ≠ []) : Txt.startswith ⟨t.toArray⟩ ⟨y.toArray⟩ = TL.pre y t := by
  have h := sw3_pre t y 0 hy
  unfold Txt.startswith3 at h
  rw [show ((0 : Nat) : Int) = 0 from rfl, show fromIndex (⟨t.toArray⟩ : Str).length 0 = 0 from fromIndex_nat _ 0, List.drop_zero] at h
  exact h
theorem ew_pre (t y : List Nat) (hy : y ≠ []) : Txt.endswith ⟨t.toArray⟩ ⟨y.toArray⟩ = decide (t.drop (t.length - y.length) = y) := by
  unfold Txt.endswith
  rw [subAt_eq, sv_tl, sv_tl, sv_len, sv_len]
  have h0 : 0 < y.length := List.length_pos_iff.mpr hy
  have e0 : (t.drop (t.length - y.length)).take y.length = t.drop (t.length - y.length) := List.take_of_length_le (by rw [List.length_drop]; omega)
  rw [e0]
  by_cases e : t.drop (t.length - y.length) = y
  · have e1 := congrArg List.length e
    rw [List.length_drop] at e1
    rw [e, beq_self_eq_true, decide_eq_true (by omega : 0 + y.length ≤ t.length), decide_eq_true rfl]
    rfl
  · rw [beq_eq_false_iff_ne.mpr e, Bool.and_false, decide_eq_false e]
section
variable {X : Cx}
theorem mt_find3 : MtR X "str.find" (fun x xs H Q => ∃ (t : List Nat) (c p : Nat), x = sv t ∧ xs = [sv [c], .int (p : Int)] ∧ p ≤ t.length ∧ Q (.int (if c ∈ t.drop p then ((p + ((t.drop p).takeWhile (· != c)).length : Nat) : Int) else -1)) H) := by
  intro pins s σ H x xs v us Q I rx rs h
  obtain ⟨t, c, p, rfl, rfl, hp, h⟩ := h
  obtain ⟨t1, rfl⟩ := rx
  obtain ⟨u1, u2, rfl, r1, r2⟩ := Vals.two rs
  obtain ⟨t2, rfl⟩ := r1
  obtain ⟨t3, rfl⟩ := r2
  refine SC.find3 ?_
  rw [find3_one t c p hp]
  exact ⟨.int _, H, I.tok _, ⟨_, rfl⟩, h⟩
theorem mt_sw3 : MtR X "str.startswith" (fun x xs H Q => ∃ (t y : List Nat) (p : Nat), x = sv t ∧ xs = [sv y, .int (p : Int)] ∧ y ≠ [] ∧ Q (.bl (TL.pre y (t.drop p))) H) := by
  intro pins s σ H x xs v us Q I rx rs h
  obtain ⟨t, y, p, rfl, rfl, hy, h⟩ := h
  obtain ⟨t1, rfl⟩ := rx
  obtain ⟨u1, u2, rfl, r1, r2⟩ := Vals.two rs
  obtain ⟨t2, rfl⟩ := r1
  obtain ⟨t3, rfl⟩ := r2
  refine SC.startswith3 ?_
  rw [sw3_pre t y p hy]
  exact ⟨.bl _, H, I, rfl, h⟩
theorem mt_sw : MtR X "str.startswith" (fun x xs H Q => ∃ (t y : List Nat), x = sv t ∧ xs = [sv y] ∧ y ≠ [] ∧ Q (.bl (TL.pre y t)) H) := by
  intro pins s σ H x xs v us Q I rx rs h
  obtain ⟨t, y, rfl, rfl, hy, h⟩ := h
  exact mt_startswith pins s σ H _ _ v us Q I rx rs ⟨_, _, rfl, rfl, by rw [sw_pre t y hy]; exact h⟩
theorem mt_ew : MtR X "str.endswith" (fun x xs H Q => ∃ (t y : List Nat), x = sv t ∧ xs = [sv y] ∧ y ≠ [] ∧ Q (.bl (decide (t.drop (t.length - y.length) = y))) H) := by
  intro pins s σ H x xs v us Q I rx rs h
  obtain ⟨t, y, rfl, rfl, hy, h⟩ := h
  exact mt_endswith pins s σ H _ _ v us Q I rx rs ⟨_, _, rfl, rfl, by rw [ew_pre t y hy]; exact h⟩
theorem mt_islower : MtR X "str.islower" (fun x xs H Q => ∃ a, x = .str a ∧ xs = [] ∧ True ∧ Q (.bl (Txt.islower a)) H) :=
  mt0 (C := fun _ => True) (g := fun a => .bl (Txt.islower a)) fun _ _ s _ _ h => SC.islower (h _ s.toks rfl)
theorem mt_isupper : MtR X "str.isupper" (fun x xs H Q => ∃ a, x = .str a ∧ xs = [] ∧ True ∧ Q (.bl (Txt.isupper a)) H) :=
  mt0 (C := fun _ => True) (g := fun a => .bl (Txt.isupper a)) fun _ _ s _ _ h => SC.isupper (h _ s.toks rfl)
end
def lowC (c : Nat) : Bool := decide (97 ≤ c ∧ c ≤ 122)
def upC (c : Nat) : Bool := decide (65 ≤ c ∧ c ≤ 90)
theorem one_low : ∀ c, c < 128 → Txt.islower ⟨#[c]⟩ = lowC c := by decide +kernel
theorem one_up : ∀ c, c < 128 → Txt.isupper ⟨#[c]⟩ = upC c := by decide +kernel
theorem one_alpha : ∀ c, c < 128 → Txt.isalpha ⟨#[c]⟩ = (lowC c || upC c) := by decide +kernel
end L2
set_option Elab.async false
set_option linter.all false
set_option maxRecDepth 100000
set_option maxHeartbeats 4000000
namespace L2
open PySem PySem.Spec PyProof.Rows
structure Df (K : PySem.W.Frag) (mg : Str → Option Value) (x : Str) (st : Stmt) (ps : List Str) : Prop where
  ex : ∃ f fd, Fun K x x st f fd ∧ mg x = some (.ref f) ∧ Binds K fd ps []
structure Ok (P : Program) (w : World) (K : PySem.W.Frag) (mg : Str → Option Value) (base : Heap) (CX : CXT) (k : Nat) (x : Str) (ps : List Str) (sp : Sp) : Prop where
  ex : ∃ f fd, FnOk P w K mg base CX k f fd ps sp ∧ mg x = some (.ref f) ∧ PySem.W.keepIn K (.ref f) = true ∧ Binds K fd ps []
section
variable {P : Program} {w : World} {K : PySem.W.Frag} {mg : Str → Option Value} {base : Heap}
theorem Df.ok {x : Str} {st : Stmt} {N ps : List Str} {k : Nat} {sp : Sp} (D : Df K mg x st ps) (S : FnScope N ps (defScope st)) (len : ∀ vs H Q E, sp vs H Q E → vs.length = ps.length)
    (hbody : ∀ (f : Addr) (cdv : Value) (A : Around) (outer : List Env) (s : Shared) (H : Hp) (vs : List V) (Q : VK) (E : XK), Room k (A.deeper (envOfC x (defScope st) s.heap.objs.size f cdv)) → sp vs H Q E →
      ∃ t, PSs (cxOf CX0 P w K mg base N x (defScope st) f cdv A outer s H E).nox (defBody st) t ∧ t { nx := fun _ H' => Q .non H', rt := Q } (start N vs) H) : Ok P w K mg base CX0 (k + 1) x ps sp := by
  obtain ⟨f, fd, F, hm, hb⟩ := D.ex
  exact ⟨f, fd, F.ok S len (hbody f), hm, F.kp, hb⟩
theorem Df.okX {x : Str} {st : Stmt} {N ps : List Str} {k : Nat} {sp : Sp} (D : Df K mg x st ps) (S : FnScope N ps (defScope st)) (len : ∀ vs H Q E, sp vs H Q E → vs.length = ps.length)
    (hbody : ∀ (f : Addr) (cdv : Value) (A : Around) (outer : List Env) (s : Shared) (H : Hp) (vs : List V) (Q : VK) (E : XK), Room k (A.deeper (envOfC x (defScope st) s.heap.objs.size f cdv)) → sp vs H Q E →
      ∃ t, PSs (cxOf (CXW P w) P w K mg base N x (defScope st) f cdv A outer s H E) (defBody st) t ∧ t { nx := fun _ H' => Q .non H', rt := Q } (start N vs) H) : Ok P w K mg base (CXW P w) (k + 1) x ps sp := by
  obtain ⟨f, fd, F, hm, hb⟩ := D.ex
  exact ⟨f, fd, F.okX S len (hbody f), hm, F.kp, hb⟩
end
theorem pe_c {X : Cx} {CX : CXT} {k : Nat} {x : Str} {ps : List Str} {sp : Sp} {E : XK} {e : Expr} {es : List Expr} {t : TA} {p pos : Pos} (G : Ok X.prog X.w X.K X.mg X.base CX k x ps sp) (hr : Room k X.A) (hx : Passes CX X E) (ha : PA X (e :: es) t) (hg : Gl X x := by rfl)
    (hdb : (x == ("__debug__" : Str)) = false := by decide) (he : starEach (e :: es) X.env = (false, eval e X.env) :: starEach es X.env := by rfl) (hpl : (backTo pos (starEach es X.env)).any (·.1) = false := by rfl) :
    PE X (.Call (.Name x p) (e :: es) [] pos) (tCall sp [] E t) := by
  obtain ⟨f, fd, F, hm, hk, hb⟩ := G.ex
  exact pe_call F hr hg hm hk hb .nil hx ha hdb he hpl
def Cst (mg : Str → Option Value) (x : Str) (v : V) : Prop := ∃ u, mg x = some u ∧ RelV v u
theorem pe_k {X : Cx} {x : Str} {v : V} {pos : Pos} (h : Cst X.mg x v) (hg : Gl X x := by rfl) (hd : (x == ("__debug__" : Str)) = false := by decide) : PE X (.Name x pos) (tC v) := by
  obtain ⟨u, hm, r⟩ := h
  exact pe_glob hg hm r hd
end L2
set_option Elab.async false
set_option linter.all false
set_option maxRecDepth 100000
namespace Th
open PySem L2
def top (i : Nat) : Stmt := PySem.Challenge.pw_thinbits_s01_schema.main.body.getD i (.Pass ⟨0, 0, 0, 0⟩)
abbrev sLetterOf : Stmt := top 17
abbrev sTextOf : Stmt := top 18
abbrev sRemarkEnd : Stmt := top 19
abbrev sSkipBlanks : Stmt := top 20
abbrev sRunEnd : Stmt := top 21
abbrev sWordToken : Stmt := top 22
abbrev sNumberToken : Stmt := top 23
abbrev sOnlyOf : Stmt := top 24
abbrev sStringEnd : Stmt := top 25
abbrev sStringToken : Stmt := top 26
abbrev sSignEnd : Stmt := top 27
abbrev sBeginsNumber : Stmt := top 28
abbrev sTokenEnd : Stmt := top 29
abbrev sTokenOf : Stmt := top 30
abbrev sTokensOf : Stmt := top 31
abbrev sReaderInit : Stmt := inClass (top 33) 0
abbrev sReaderEnded : Stmt := inClass (top 33) 1
abbrev sReaderSkips : Stmt := inClass (top 33) 2
abbrev sReaderSkipsSign : Stmt := inClass (top 33) 3
abbrev sReaderSkipsWord : Stmt := inClass (top 33) 4
abbrev sReaderNeedsSign : Stmt := inClass (top 33) 5
abbrev sReaderNeedsWord : Stmt := inClass (top 33) 6
abbrev sReaderTakes : Stmt := inClass (top 33) 7
abbrev sReaderTakesNumber : Stmt := inClass (top 33) 8
abbrev sKindInit : Stmt := inClass (top 42) 0
abbrev sCheckedKindName : Stmt := top 43
abbrev sReadHigh : Stmt := top 44
abbrev sReadInteger : Stmt := top 45
abbrev sReadSize : Stmt := top 46
abbrev sReadString : Stmt := top 47
abbrev sAddName : Stmt := top 48
abbrev sNextName : Stmt := top 49
abbrev sReadEnumerated : Stmt := top 50
abbrev sBeginChoice : Stmt := top 51
abbrev sBeginSequenceOf : Stmt := top 52
abbrev sBeginSequence : Stmt := top 53
abbrev sNamedKind : Stmt := top 54
abbrev sBeginKind : Stmt := top 55
abbrev sTakeInner : Stmt := top 56
abbrev sReadKind : Stmt := top 57
abbrev sJoinNamed : Stmt := top 58
abbrev sReadSchema : Stmt := top 59
abbrev sSchema : Stmt := top 64
end Th
set_option Elab.async false
set_option linter.all false
set_option maxRecDepth 100000
set_option maxHeartbeats 4000000
namespace Th
open PySem L2
def LET : List Nat := [63,63,63,63,63,63,63,63,63,32,10,63,63,32,63,63,63,63,63,63,63,63,63,63,63,63,63,63,63,63,63,63,32,63,63,63,63,63,63,39,40,41,63,63,44,45,46,63,48,49,50,51,52,53,54,55,56,57,58,63,63,61,63,63,63,65,66,67,68,69,70,71,72,73,74,75,76,77,78,79,80,81,82,83,84,85,86,87,88,89,90,63,63,63,63,63,63,97,98,99,100,101,102,103,104,105,106,107,108,109,110,111,112,113,114,115,116,117,118,119,120,121,122,123,63,125,63,63]
def lc (n : Nat) : Nat := LET.getD n 63
def BITD : List Nat := [48, 49]
def DIG : List Nat := [48, 49, 50, 51, 52, 53, 54, 55, 56, 57]
def OCTD : List Nat := [48, 49, 50, 51, 52, 53, 54, 55, 56, 57, 65, 66, 67, 68, 69, 70]
def WLET : List Nat := [45, 48, 49, 50, 51, 52, 53, 54, 55, 56, 57, 65, 66, 67, 68, 69, 70, 71, 72, 73, 74, 75, 76, 77, 78, 79, 80, 81, 82, 83, 84, 85, 86, 87, 88, 89, 90, 97, 98, 99, 100, 101, 102, 103, 104, 105, 106, 107, 108, 109, 110, 111, 112, 113, 114, 115, 116, 117, 118, 119, 120, 121, 122]
def SGN : List (List Nat) := [[58, 58, 61], [46, 46, 46], [46, 46], [123], [125], [40], [41], [44], [58]]
abbrev VE : List Value := [.type "ValueError", .type "Exception", .type "BaseException", .type "object"]
structure Txt (K : PySem.W.Frag) (mg : Str → Option Value) (WT : Addr) : Prop where
  len : mg "len" = none
  exc : PySem.W.excIn K WT VE "ValueError.__new__" = true
  wt : mg "WrongText" = some (.ref WT)
  letters : Cst mg "LETTERS" (sv LET)
  blanks : Cst mg "BLANKS" (sv [32, 10])
  bitd : Cst mg "BIT_DIGITS" (sv BITD)
  dig : Cst mg "DIGITS" (sv DIG)
  octd : Cst mg "OCTET_DIGITS" (sv OCTD)
  wlet : Cst mg "WORD_LETTERS" (sv WLET)
  word : Cst mg "WORD" (.str "word")
  number : Cst mg "NUMBER" (.str "number")
  bits : Cst mg "BITS" (.str "bits")
  octets : Cst mg "OCTETS" (.str "octets")
  sign : Cst mg "SIGN" (.str "sign")
  lword : Cst mg "LONGEST_WORD" (.int 64)
  mdig : Cst mg "MOST_DIGITS" (.int 20)
  signs : ∃ a, mg "SIGNS" = some (.ref a) ∧ ∀ H, SqT K H a (SGN.map sv)
  int_ : mg "int" = none
  all_ : mg "all" = none
theorem small {t : List Nat} (h : t.length ≤ 65536) : (⟨t.toArray⟩ : Str).length ≤ sizeLine := by rw [sv_len]; exact Nat.le_trans h (by decide)
theorem at_sv {t : List Nat} {p c : Nat} (h : t[p]? = some c) : atI (⟨t.toArray⟩ : Str).cps.toList (p : Int) = some c := by rw [sv_tl]; exact atI_nat h
def isB (c : Nat) : Bool := decide (c ∈ ([32, 10] : List Nat))
def remN (l : List Nat) : Nat := if 10 ∈ l then (l.takeWhile (· != 10)).length + 1 else l.length
theorem remN_le (l : List Nat) : remN l ≤ l.length := by
  unfold remN
  split
  · rename_i h
    have h1 : l.takeWhile (· != 10) ≠ l := fun e => by
      have h4 := List.all_eq_true.mp (List.all_takeWhile (p := (· != 10)) (l := l)) 10 (by rw [e]; exact h)
      simp at h4
    have h2 := (List.takeWhile_sublist (p := (· != 10)) (l := l)).length_le
    have h3 : (l.takeWhile (· != 10)).length ≠ l.length := fun e => h1 ((List.takeWhile_sublist _).eq_of_length e)
    omega
  · omega
theorem remN_pos {l : List Nat} (h : l ≠ []) : 0 < remN l := by
  unfold remN
  split
  · omega
  · exact List.length_pos_iff.mpr h
def skipN (l : List Nat) : Nat := match l with
  | [] => 0
  | c :: r => if isB c = true then 1 + skipN r
    else if TL.pre [45, 45] (c :: r) = true then remN (c :: r) + skipN ((c :: r).drop (remN (c :: r))) else 0
termination_by l.length
decreasing_by
  · simp
  · have := remN_pos (l := c :: r) (by simp); rw [List.length_drop]; simp at *; omega
theorem skipN_le (l : List Nat) : skipN l ≤ l.length := by
  induction hn : l.length using Nat.strongRecOn generalizing l with
  | ind n ih =>
    match l with
    | [] => unfold skipN; omega
    | c :: r =>
      unfold skipN
      split
      · have := ih r.length (by rw [← hn]; simp) r rfl
        rw [← hn, List.length_cons]; omega
      · split
        · have h1 := remN_le (c :: r)
          have h2 := remN_pos (l := c :: r) (by simp)
          have := ih ((c :: r).drop (remN (c :: r))).length (by rw [List.length_drop, ← hn]; simp at *; omega) _ rfl
          rw [List.length_drop] at this
          omega
        · omega
section
variable {P : Program} {w : World} {K : PySem.W.Frag} {mg : Str → Option Value} {base : Heap} {WT : Addr}
def spLetterOf : Sp := fun vs H Q _ => ∃ n : Nat, vs = [.int (n : Int)] ∧ Q (sv [lc n]) H
theorem scLetterOf : FnScope ["code"] ["code"] (defScope sLetterOf) := ⟨rfl, rfl, rfl, by decide +kernel, rfl, by decide +kernel, by decide +kernel⟩
theorem ok_letter_of (D : Df K mg "letter_of" sLetterOf ["code"]) (T : Txt K mg WT) : Ok P w K mg base CX0 1 "letter_of" ["code"] spLetterOf := by
  refine D.ok scLetterOf (fun vs H Q E h => ?_) (fun f cdv A outer s H vs Q E hr h => ?_)
  · obtain ⟨n, rfl, _⟩ := h; rfl
  · obtain ⟨n, rfl, k⟩ := h
    refine ⟨_, pss_one (ps_ret (pe_ifExp (pt_cmpR op_lt (pv 0) (pe_callB call_len_str (by rfl) T.len PySem.boot_len (pa_cons (pe_k T.letters) pa_nil)) (nomark _)) (pe_ix ix_str (pe_k T.letters) (pv 0) (fun _ _ => rfl)) pe_str)), ?_⟩
    refine ⟨_, rfl, _, rfl, by decide, ?_⟩
    refine ⟨_, _, rfl, rfl, _, rfl, ?_⟩
    refine ite2 (fun hc => ?_) (fun hc => ?_)
    · have hn : n < LET.length := by have := of_decide_eq_true hc; rw [sv_len] at this; omega
      refine ⟨_, rfl, _, _, LET[n], rfl, rfl, by decide, at_sv (List.getElem?_eq_getElem hn), ?_⟩
      have e : lc n = LET[n] := by unfold lc; rw [List.getD_eq_getElem?_getD, List.getElem?_eq_getElem hn]; rfl
      rw [e] at k; exact k
    · have hn : ¬ n < LET.length := fun z => hc (by rw [sv_len]; exact decide_eq_true (by omega))
      have e : lc n = 63 := by unfold lc; rw [List.getD_eq_getElem?_getD, List.getElem?_eq_none (by omega)]; rfl
      rw [e] at k; exact k
def spRemarkEnd : Sp := fun vs H Q _ => ∃ (t : List Nat) (p : Nat), vs = [sv t, .int (p : Int)] ∧ t.length ≤ 65536 ∧ p ≤ t.length ∧ Q (.int ((p + remN (t.drop p) : Nat) : Int)) H
theorem scRemarkEnd : FnScope ["text", "start", "end"] ["text", "start"] (defScope sRemarkEnd) := ⟨rfl, rfl, rfl, by decide +kernel, rfl, by decide +kernel, by decide +kernel⟩
theorem ok_remark_end (D : Df K mg "remark_end" sRemarkEnd ["text", "start"]) (T : Txt K mg WT) : Ok P w K mg base CX0 1 "remark_end" ["text", "start"] spRemarkEnd := by
  refine D.ok scRemarkEnd (fun vs H Q E h => ?_) (fun f cdv A outer s H vs Q E hr h => ?_)
  · obtain ⟨t, p, rfl, _⟩ := h; rfl
  · obtain ⟨t, p, rfl, ht, hp, k⟩ := h
    refine ⟨_, pss_cons (ps_set (i := 2) scRemarkEnd.nd rfl (Or.inl rfl) (pe_bm PySem.F.plainAttrs_str PySem.F.slot_str_find PySem.F.type_str_find mt_find3 (pv 0) (pa_cons pe_str (pa_cons (pv 1) pa_nil))))
      (pss_one (ps_ret (pe_ifExp (pt_cmpR op_lt (pv 2) pe_int (nomark _)) (pe_callB call_len_str (by rfl) T.len PySem.boot_len (pa_cons (pv 0) pa_nil)) (pe_op op_add (pv 2) pe_int)))), ?_⟩
    refine ⟨_, rfl, rfl, _, rfl, t, 10, p, rfl, rfl, hp, ?_⟩
    refine ⟨_, rfl, _, _, rfl, rfl, _, rfl, ?_⟩
    refine ite2 (fun hc => ?_) (fun hc => ?_)
    · have hc := of_decide_eq_true hc
      by_cases hm : 10 ∈ t.drop p
      · rw [if_pos hm] at hc; omega
      · refine ⟨_, rfl, _, rfl, small ht, ?_⟩
        rw [sv_len]
        have e : p + remN (t.drop p) = t.length := by unfold remN; rw [if_neg hm, List.length_drop]; omega
        rw [e] at k; exact k
    · by_cases hm : 10 ∈ t.drop p
      · refine ⟨_, rfl, _, _, rfl, rfl, ?_⟩
        rw [if_pos hm]
        have e : p + remN (t.drop p) = p + ((t.drop p).takeWhile (· != 10)).length + 1 := by unfold remN; rw [if_pos hm]; omega
        rw [e] at k
        exact k
      · rw [if_neg hm] at hc; exact absurd (by decide) hc
end
end Th
set_option Elab.async false
set_option linter.all false
set_option maxRecDepth 100000
set_option maxHeartbeats 4000000
namespace Th
open PySem L2
section
variable {P : Program} {w : World} {K : PySem.W.Frag} {mg : Str → Option Value} {base : Heap} {WT : Addr}
def spSkip : Sp := fun vs H Q _ => ∃ (t : List Nat) (p : Nat), vs = [sv t, .int (p : Int)] ∧ t.length ≤ 65536 ∧ p ≤ t.length ∧ Q (.int ((p + skipN (t.drop p) : Nat) : Int)) H
theorem scSkip : FnScope ["text", "start", "place"] ["text", "start"] (defScope sSkipBlanks) := ⟨rfl, rfl, rfl, by decide +kernel, rfl, by decide +kernel, by decide +kernel⟩
theorem skipN_cons (c : Nat) (r : List Nat) : skipN (c :: r) = if isB c = true then 1 + skipN r
    else if TL.pre [45, 45] (c :: r) = true then remN (c :: r) + skipN ((c :: r).drop (remN (c :: r))) else 0 := by rw [skipN]
theorem skipN_nil : skipN [] = 0 := by rw [skipN]
theorem drop_at {t : List Nat} {p : Nat} (h : p < t.length) : t.drop p = t[p] :: t.drop (p + 1) := List.drop_eq_getElem_cons h
theorem ok_skip (D : Df K mg "skip_blanks" sSkipBlanks ["text", "start"]) (T : Txt K mg WT) (GR : Ok P w K mg base CX0 1 "remark_end" ["text", "start"] spRemarkEnd) : Ok P w K mg base CX0 2 "skip_blanks" ["text", "start"] spSkip := by
  refine D.ok scSkip (fun vs H Q E h => ?_) (fun f cdv A outer s H vs Q E hr h => ?_)
  · obtain ⟨t, p, rfl, _⟩ := h; rfl
  · obtain ⟨t, p, rfl, ht, hp, k⟩ := h
    refine ⟨_, pss_cons (ps_set (i := 2) scSkip.nd rfl (Or.inl rfl) (pv 1))
      (pss_cons (ps_while PassesOwn.never (pt_cmpR op_lt (pv 2) (pe_callB call_len_str (by rfl) T.len PySem.boot_len (pa_cons (pv 0) pa_nil)) (nomark _))
        (pss_one (ps_if (pt_cmpR op_in_sign (pe_ix ix_str (pv 0) (pv 2) (fun _ _ => rfl)) (pe_k T.blanks) (by with_unfolding_all rfl))
          (pss_one (ps_aug (i := 2) scSkip.nd rfl (Or.inl rfl) pe_int ip_add))
          (pss_one (ps_if (pt_val (pe_bm PySem.F.plainAttrs_str PySem.F.slot_str_startswith PySem.F.type_str_startswith mt_sw3 (pv 0) (pa_cons pe_str (pa_cons (pv 2) pa_nil))))
            (pss_one (ps_set (i := 2) scSkip.nd rfl (Or.inl rfl) (pe_c GR hr pass0 (pa_cons (pv 0) (pa_cons (pv 2) pa_nil)))))
            (pss_one (ps_ret (pv 2))))))))
      (pss_one (ps_ret (pv 2)))), ?_⟩
    refine ⟨_, rfl, fun m σ' H' => ∃ p1 : Nat, σ' = [some (sv t), some (.int (p : Int)), some (.int (p1 : Int))] ∧ H' = H ∧ p1 ≤ t.length ∧ p1 + skipN (t.drop p1) = p + skipN (t.drop p) ∧ m = t.length - p1, ⟨_, p, rfl, rfl, hp, rfl, rfl⟩, ?_⟩
    rintro m σ' H' ⟨p1, rfl, rfl, h1, h2, rfl⟩
    refine ⟨_, rfl, _, rfl, _, rfl, small ht, _, _, rfl, rfl, _, rfl, ?_⟩
    rw [sv_len]
    refine ite2 (fun hc => ?_) (fun hc => ?_)
    · have hlt : p1 < t.length := by have := of_decide_eq_true hc; omega
      have hd := drop_at hlt
      refine ⟨_, fun σ'' H'' z => z, ?_⟩
      refine ⟨_, rfl, _, rfl, _, _, t[p1], rfl, rfl, small ht, at_sv (List.getElem?_eq_getElem hlt), _, _, rfl, rfl, _, rfl, ?_⟩
      rw [sv_tl]
      refine ite2 (fun hb => ?_) (fun hb => ?_)
      · have hb' : isB t[p1] = true := hb
        refine ⟨_, rfl, _, _, rfl, rfl, _, ?_, p1 + 1, rfl, rfl, hlt, ?_, rfl⟩
        · omega
        · rw [← h2, hd, skipN_cons, if_pos hb']; omega
      · have hb' : ¬ isB t[p1] = true := hb
        refine ⟨_, rfl, rfl, _, rfl, t, [45, 45], p1, rfl, rfl, by simp, _, rfl, ?_⟩
        refine ite2 (fun hs => ?_) (fun hs => ?_)
        · refine ⟨_, rfl, _, rfl, t, p1, rfl, ht, h1, ?_⟩
          have e1 := remN_le (t.drop p1)
          have e2 := remN_pos (l := t.drop p1) (by rw [hd]; exact List.cons_ne_nil _ _)
          rw [List.length_drop] at e1
          refine ⟨_, ?_, p1 + remN (t.drop p1), rfl, rfl, by omega, ?_, rfl⟩
          · omega
          · rw [← h2]
            conv => rhs; rw [hd, skipN_cons, if_neg hb', if_pos (by rw [← hd]; exact hs)]
            rw [← hd, List.drop_drop]; omega
        · have : skipN (t.drop p1) = 0 := by rw [hd, skipN_cons, if_neg hb', if_neg (by rw [← hd]; exact hs)]
          rw [this, Nat.add_zero] at h2
          rw [← h2] at k
          exact ⟨_, rfl, k⟩
    · have hlt : ¬ p1 < t.length := fun z => hc (decide_eq_true (by omega))
      have : skipN (t.drop p1) = 0 := by rw [List.drop_of_length_le (by omega), skipN_nil]
      rw [this, Nat.add_zero] at h2
      rw [← h2] at k
      exact ⟨_, rfl, k⟩
def spRunEnd : Sp := fun vs H Q _ => ∃ (t ls : List Nat) (p : Nat), vs = [sv t, .int (p : Int), sv ls] ∧ t.length ≤ 65536 ∧ p ≤ t.length ∧ Q (.int ((p + ((t.drop p).takeWhile fun c => decide (c ∈ ls)).length : Nat) : Int)) H
theorem scRunEnd : FnScope ["text", "start", "letters", "end"] ["text", "start", "letters"] (defScope sRunEnd) := ⟨rfl, rfl, rfl, by decide +kernel, rfl, by decide +kernel, by decide +kernel⟩
theorem ok_run_end (D : Df K mg "run_end" sRunEnd ["text", "start", "letters"]) (T : Txt K mg WT) : Ok P w K mg base CX0 1 "run_end" ["text", "start", "letters"] spRunEnd := by
  refine D.ok scRunEnd (fun vs H Q E h => ?_) (fun f cdv A outer s H vs Q E hr h => ?_)
  · obtain ⟨t, ls, p, rfl, _⟩ := h; rfl
  · obtain ⟨t, ls, p, rfl, ht, hp, k⟩ := h
    refine ⟨_, pss_cons (ps_set (i := 3) scRunEnd.nd rfl (Or.inl rfl) (pv 1))
      (pss_cons (ps_while PassesOwn.never (PW.pt (pw_and (pt_cmpR op_lt (pv 3) (pe_callB call_len_str (by rfl) T.len PySem.boot_len (pa_cons (pv 0) pa_nil)) (nomark _))
          (pw_and1 (pt_cmpR op_in_sign (pe_ix ix_str (pv 0) (pv 3) (fun _ _ => rfl)) (pv 2) (by with_unfolding_all rfl)))))
        (pss_one (ps_aug (i := 3) scRunEnd.nd rfl (Or.inl rfl) pe_int ip_add)))
      (pss_one (ps_ret (pv 3)))), ?_⟩
    refine ⟨_, rfl, fun m σ' H' => ∃ p1 : Nat, σ' = [some (sv t), some (.int (p : Int)), some (sv ls), some (.int (p1 : Int))] ∧ H' = H ∧ p1 ≤ t.length ∧ p1 + ((t.drop p1).takeWhile fun c => decide (c ∈ ls)).length = p + ((t.drop p).takeWhile fun c => decide (c ∈ ls)).length ∧ m = t.length - p1, ⟨_, p, rfl, rfl, hp, rfl, rfl⟩, ?_⟩
    rintro m σ' H' ⟨p1, rfl, rfl, h1, h2, rfl⟩
    refine ⟨_, rfl, _, rfl, _, rfl, small ht, _, _, rfl, rfl, _, rfl, ?_⟩
    rw [sv_len]
    refine ite2 (fun hc => ?_) (fun hc => ?_)
    · have hlt : p1 < t.length := by have := of_decide_eq_true hc; omega
      have hd := drop_at hlt
      refine ⟨_, rfl, _, rfl, _, _, t[p1], rfl, rfl, small ht, at_sv (List.getElem?_eq_getElem hlt), _, rfl, _, _, rfl, rfl, _, rfl, ?_⟩
      rw [sv_tl]
      refine ite2 (fun hb => ?_) (fun hb => ?_)
      · refine ⟨_, fun σ'' H'' z => z, _, rfl, _, _, rfl, rfl, _, ?_, p1 + 1, rfl, rfl, hlt, ?_, rfl⟩
        · omega
        · rw [← h2, hd, List.takeWhile_cons_of_pos (p := fun c => decide (c ∈ ls)) hb, List.length_cons]; omega
      · have : ((t.drop p1).takeWhile fun c => decide (c ∈ ls)).length = 0 := by rw [hd, List.takeWhile_cons_of_neg (p := fun c => decide (c ∈ ls)) hb]; rfl
        rw [this, Nat.add_zero] at h2
        rw [← h2] at k
        exact ⟨_, rfl, k⟩
    · have hlt : ¬ p1 < t.length := fun z => hc (decide_eq_true (by omega))
      have : ((t.drop p1).takeWhile fun c => decide (c ∈ ls)).length = 0 := by rw [List.drop_of_length_le (by omega)]; rfl
      rw [this, Nat.add_zero] at h2
      rw [← h2] at k
      exact iteF ⟨_, rfl, k⟩
end
end Th
set_option Elab.async false
set_option linter.all false
set_option maxRecDepth 100000
set_option maxHeartbeats 4000000
namespace L2
open PySem
theorem boot_int0 : bootBuiltins "int" = some (.type "int") := by decide +kernel
theorem boot_all0 : bootBuiltins "all" = some (.builtin "all") := by decide +kernel
theorem if_val {c : Prop} [Decidable c] {ta tb : TE} {σ : St} {H : Hp} {Q : VK} (v : V) (h1 : c → ∀ Q : VK, Q v H → ta σ H Q) (h2 : ¬ c → ∀ Q : VK, Q v H → tb σ H Q) (g : Q v H) : if c then ta σ H Q else tb σ H Q := by
  by_cases h : c
  · rw [if_pos h]; exact h1 h Q g
  · rw [if_neg h]; exact h2 h Q g
end L2
namespace Th
open PySem L2
inductive Tk where
  | word (l : List Nat) | num (z : Int) | bits (l : List Nat) | octs (l : List Nat) | sign (l : List Nat)
  deriving DecidableEq
def Tk.vs : Tk → List V
  | .word l => [.str "word", sv l]
  | .num z => [.str "number", .int z]
  | .bits l => [.str "bits", sv l]
  | .octs l => [.str "octets", sv l]
  | .sign l => [.str "sign", sv l]
def wordTk (l : List Nat) : Option Tk := if 64 < l.length ∨ l.drop (l.length - 1) = [45] then none else some (.word l)
def numD (l : List Nat) : List Nat := if TL.pre [45] l = true then l.drop 1 else l
def numTk (l : List Nat) : Option Tk :=
  if (numD l).length < 1 ∨ 20 < (numD l).length then none
  else if TL.pre [48] (numD l) = true ∧ l ≠ [48] then none
  else some (.num (if TL.pre [45] l = true then -((NumText.digitsVal (numD l) : Nat) : Int) else ((NumText.digitsVal (numD l) : Nat) : Int)))
def strD (l : List Nat) : List Nat := (l.drop 1).take (l.length - 3)
def strTk (l : List Nat) : Option Tk :=
  if l.drop (l.length - 2) = [39, 66] ∧ (strD l).all (fun c => decide (c ∈ BITD)) = true then some (.bits (strD l))
  else if l.drop (l.length - 2) = [39, 72] ∧ (strD l).length % 2 = 0 ∧ (strD l).all (fun c => decide (c ∈ OCTD)) = true then some (.octs (strD l))
  else none
def alphaC (c : Nat) : Bool := lowC c || upC c
def numC (c : Nat) : Bool := decide (c = 45) || decide (c ∈ DIG)
def signLen (l : List Nat) : Option Nat := (SGN.find? fun s => TL.pre s l).map List.length
def tokEnd (l : List Nat) : Option Nat := match l with
  | [] => none
  | c :: r =>
    if alphaC c = true then some ((c :: r).takeWhile fun c => decide (c ∈ WLET)).length
    else if numC c = true then some (1 + (r.takeWhile fun c => decide (c ∈ DIG)).length)
    else if c = 39 then (if 39 ∈ r then some ((r.takeWhile (· != 39)).length + 3) else none)
    else signLen (c :: r)
def tokOf (l : List Nat) : Option Tk := match l with
  | [] => none
  | c :: r => if alphaC c = true then wordTk (c :: r) else if numC c = true then numTk (c :: r) else if c = 39 then strTk (c :: r) else some (.sign (c :: r))
def giveTk (WT : Addr) (o : Option Tk) (H : Hp) (Q : VK) (E : XK) : Prop := match o with
  | some k => ∀ p, H p = none → Q (.ref p) (upd H p (.tup k.vs))
  | none => ∀ H', E (.ref WT) none H'
def giveN (WT : Addr) (o : Option Nat) (p : Nat) (H : Hp) (Q : VK) (E : XK) : Prop := match o with
  | some n => Q (.int ((p + n : Nat) : Int)) H
  | none => ∀ H', E (.ref WT) none H'
theorem cut_from (l : List Nat) (a : Nat) : cutS ⟨l.toArray⟩ (some (a : Int)) none = ⟨(l.drop a).toArray⟩ := by
  unfold cutS
  rw [sv_tl, sv_len, HT.sIx_nat, HT.sIx_none]
  by_cases h : a ≤ l.length
  · rw [Nat.min_eq_left h, List.take_of_length_le (by rw [List.length_drop]; omega)]
  · rw [Nat.min_eq_right (by omega), List.drop_of_length_le (by omega : l.length ≤ a), List.drop_of_length_le (Nat.le_refl _), List.take_nil]
theorem cut_nat (l : List Nat) (a b : Nat) (h : a ≤ l.length) : cutS ⟨l.toArray⟩ (some (a : Int)) (some (b : Int)) = ⟨((l.drop a).take (b - a)).toArray⟩ := by
  unfold cutS
  rw [sv_tl, sv_len, HT.sIx_nat, HT.sIx_nat, Nat.min_eq_left h]
  by_cases hb : b ≤ l.length
  · rw [Nat.min_eq_left hb]
  · rw [Nat.min_eq_right (by omega), List.take_of_length_le (by rw [List.length_drop]; omega), List.take_of_length_le (by rw [List.length_drop]; omega)]
theorem cut_12 (l : List Nat) : cutS ⟨l.toArray⟩ (some 1) (some (-2)) = ⟨(strD l).toArray⟩ := by
  unfold cutS strD
  rw [sv_tl, sv_len, show HT.sIx l.length 0 (some 1) = min 1 l.length from HT.sIx_nat l.length 0 1]
  show Str.mk ((List.take ((if (-2 : Int) < 0 then ((-2 : Int) + (l.length : Int)).toNat else min (-2 : Int).toNat l.length) - min 1 l.length) (List.drop (min 1 l.length) l)).toArray) = _
  rw [if_pos (by decide)]
  by_cases h : 1 ≤ l.length
  · rw [Nat.min_eq_left h]
    rw [show ((-2 : Int) + (l.length : Int)).toNat - 1 = l.length - 3 by omega]
  · rw [show l = [] from List.length_eq_zero_iff.mp (by omega)]
    rfl
section
variable {P : Program} {w : World} {K : PySem.W.Frag} {mg : Str → Option Value} {base : Heap} {WT : Addr}
def spWordToken (WT : Addr) : Sp := fun vs H Q E => ∃ l : List Nat, vs = [sv l] ∧ l.length ≤ 65536 ∧ giveTk WT (wordTk l) H Q E
theorem scWordToken : FnScope ["piece"] ["piece"] (defScope sWordToken) := ⟨rfl, rfl, rfl, by decide +kernel, rfl, by decide +kernel, by decide +kernel⟩
theorem ok_word_token (D : Df K mg "word_token" sWordToken ["piece"]) (T : Txt K mg WT) : Ok P w K mg base (CXW P w) 1 "word_token" ["piece"] (spWordToken WT) := by
  refine D.okX scWordToken (fun vs H Q E h => ?_) (fun f cdv A outer s H vs Q E hr h => ?_)
  · obtain ⟨l, rfl, _⟩ := h; rfl
  · obtain ⟨l, rfl, hl, k⟩ := h
    refine ⟨_, pss_cons (ps_if (PW.pt (pw_or (pt_cmpR op_gt (pe_callB call_len_str (by rfl) T.len PySem.boot_len (pa_cons (pv 0) pa_nil)) (pe_k T.lword) (nomark _))
        (pw_or1 (pt_val (pe_m1 PySem.F.slot_str_endswith PySem.F.type_str_endswith mt_ew (pv 0) pe_str)))))
        (pss_one (ps_raise PySem.F.excBase_ValueError T.exc rfl (by rfl) T.wt (pa_cons pe_str pa_nil) rz_cx)) pss_nil)
      (pss_one (ps_ret (pe_tup (pa_cons (pe_k T.word) (pa_cons (pv 0) pa_nil))))), ?_⟩
    refine ⟨_, rfl, _, rfl, small hl, _, _, rfl, rfl, _, rfl, ?_⟩
    rw [sv_len]
    refine ite2 (fun hc => ?_) (fun hc => ?_)
    · have h1 : 64 < l.length := by have := of_decide_eq_true hc; omega
      rw [wordTk, if_pos (.inl h1)] at k
      exact iteT ⟨by decide, k _⟩
    · have h1 : ¬ 64 < l.length := fun z => hc (decide_eq_true (by omega))
      refine ⟨_, rfl, ⟨_, rfl⟩, l, [45], rfl, rfl, by simp, _, rfl, ?_⟩
      refine ite2 (fun hd => ?_) (fun hd => ?_)
      · rw [wordTk, if_pos (.inr (of_decide_eq_true hd))] at k
        exact ⟨by decide, k _⟩
      · rw [wordTk, if_neg (fun z => z.elim h1 fun z => hd (decide_eq_true z))] at k
        exact ⟨_, rfl, by show 2 ≤ sizeLine; decide, fun p hp => k p hp⟩
def numForm (l : List Nat) : Prop := ∃ d, NumText.AllDigits d ∧ (l = d ∨ l = 45 :: d)
theorem numForm.cases {l : List Nat} (h : numForm l) : (TL.pre [45] l = false ∧ NumText.AllDigits l) ∨ (∃ d, l = 45 :: d ∧ TL.pre [45] l = true ∧ NumText.AllDigits d) := by
  obtain ⟨d, hd, rfl | rfl⟩ := h
  · refine .inl ⟨?_, hd⟩
    cases l with
    | nil => rfl
    | cons c r => exact TL.pre_of_head [] r (fun e => by have := hd.head; omega)
  · exact .inr ⟨d, rfl, TL.pre_self [45] d, hd⟩
theorem numForm.int {l : List Nat} (h : numForm l) (h1 : ¬ ((numD l).length < 1 ∨ 20 < (numD l).length)) : intText? (⟨l.toArray⟩ : Str) = some (if TL.pre [45] l = true then -((NumText.digitsVal (numD l) : Nat) : Int) else ((NumText.digitsVal (numD l) : Nat) : Int)) ∧ l.length ≤ 21 := by
  rcases h.cases with ⟨e, hd⟩ | ⟨d, rfl, e, hd⟩
  · have en : numD l = l := by unfold numD; rw [e]; rfl
    rw [en] at h1 ⊢
    rw [e]
    refine ⟨?_, by omega⟩
    have q := PySem.intText_digits (x := (⟨l.toArray⟩ : Str)) (by rw [sv_tl]; exact hd) (by rw [sv_tl]; intro z; rw [z] at h1; simp at h1) (by rw [sv_len]; omega)
    rw [sv_tl] at q
    rw [q]; rfl
  · have en : numD (45 :: d) = d := by unfold numD; rw [e]; rfl
    rw [en] at h1 ⊢
    rw [e]
    refine ⟨?_, by rw [List.length_cons]; omega⟩
    have q := PySem.intText_neg (x := (⟨(45 :: d).toArray⟩ : Str)) (cs := d) (sv_tl _) hd (by intro z; rw [z] at h1; simp at h1) (by rw [sv_len, List.length_cons]; omega)
    rw [q]; rfl
def spNumberToken (WT : Addr) : Sp := fun vs H Q E => ∃ l : List Nat, vs = [sv l] ∧ l.length ≤ 65536 ∧ numForm l ∧ giveTk WT (numTk l) H Q E
theorem scNumberToken : FnScope ["piece", "digits"] ["piece"] (defScope sNumberToken) := ⟨rfl, rfl, rfl, by decide +kernel, rfl, by decide +kernel, by decide +kernel⟩
theorem ok_number_token (D : Df K mg "number_token" sNumberToken ["piece"]) (T : Txt K mg WT) : Ok P w K mg base (CXW P w) 1 "number_token" ["piece"] (spNumberToken WT) := by
  refine D.okX scNumberToken (fun vs H Q E h => ?_) (fun f cdv A outer s H vs Q E hr h => ?_)
  · obtain ⟨l, rfl, _⟩ := h; rfl
  · obtain ⟨l, rfl, hl, hf, k⟩ := h
    refine ⟨_, pss_cons (ps_set (i := 1) scNumberToken.nd rfl (Or.inl rfl) (pe_ifExp (pt_val (pe_m1 PySem.F.slot_str_startswith PySem.F.type_str_startswith mt_sw (pv 0) pe_str)) (pe_slice sl_str (pv 0) (po_some pe_int) po_none) (pv 0)))
      (pss_cons (ps_if (PW.pt (pw_or (pt_cmpR op_lt (pe_callB call_len_str (by rfl) T.len PySem.boot_len (pa_cons (pv 1) pa_nil)) pe_int (nomark _))
          (pw_or1 (pt_cmpR op_gt (pe_callB call_len_str (by rfl) T.len PySem.boot_len (pa_cons (pv 1) pa_nil)) (pe_k T.mdig) (nomark _)))))
        (pss_one (ps_raise PySem.F.excBase_ValueError T.exc rfl (by rfl) T.wt (pa_cons pe_str pa_nil) rz_cx)) pss_nil)
      (pss_cons (ps_if (PW.pt (pw_and (pt_val (pe_m1 PySem.F.slot_str_startswith PySem.F.type_str_startswith mt_sw (pv 1) pe_str))
          (pw_and1 (pt_cmpR op_ne (pv 0) pe_str (nomark _)))))
        (pss_one (ps_raise PySem.F.excBase_ValueError T.exc rfl (by rfl) T.wt (pa_cons pe_str pa_nil) rz_cx)) pss_nil)
      (pss_one (ps_ret (pe_tup (pa_cons (pe_k T.number) (pa_cons (pe_callTy call_int_str (by rfl) T.int_ boot_int0 (pa_cons (pv 0) pa_nil)) pa_nil))))))), ?_⟩
    refine ⟨_, rfl, ⟨_, rfl⟩, l, [45], rfl, rfl, by simp, _, rfl, ?_⟩
    have hD : (numD l).length ≤ 65536 := by unfold numD; split; rw [List.length_drop]; omega; omega
    refine if_val (sv (numD l)) (fun hc Q g => ?_) (fun hc Q g => ?_) ?_
    · refine ⟨_, rfl, _, rfl, _, rfl, small hl, ?_⟩
      rw [show cutS ⟨l.toArray⟩ (some 1) none = ⟨(numD l).toArray⟩ by rw [show (1 : Int) = ((1 : Nat) : Int) from rfl, cut_from, numD, if_pos hc]]
      exact g
    · refine ⟨_, rfl, ?_⟩
      have e : numD l = l := by rw [numD, if_neg hc]
      rw [e] at g
      exact g
    · refine ⟨_, rfl, _, rfl, small hD, _, _, rfl, rfl, _, rfl, ?_⟩
      rw [sv_len]
      refine ite2 (fun hc => ?_) (fun hc => ?_)
      · have h1 : (numD l).length < 1 := by have := of_decide_eq_true hc; omega
        rw [numTk, if_pos (.inl h1)] at k
        exact iteT ⟨by decide, k _⟩
      · have h1 : ¬ (numD l).length < 1 := fun z => hc (decide_eq_true (by omega))
        refine ⟨_, rfl, _, rfl, small hD, _, _, rfl, rfl, _, rfl, ?_⟩
        rw [sv_len]
        refine ite2 (fun hc => ?_) (fun hc => ?_)
        · have h2 : 20 < (numD l).length := by have := of_decide_eq_true hc; omega
          rw [numTk, if_pos (.inr h2)] at k
          exact ⟨by decide, k _⟩
        · have h2 : ¬ 20 < (numD l).length := fun z => hc (decide_eq_true (by omega))
          have h12 : ¬ ((numD l).length < 1 ∨ 20 < (numD l).length) := fun z => z.elim h1 h2
          rw [numTk, if_neg h12] at k
          obtain ⟨hi, hz⟩ := hf.int h12
          refine ⟨_, rfl, ⟨_, rfl⟩, numD l, [48], rfl, rfl, by simp, _, rfl, ?_⟩
          have fin : ¬ (TL.pre [48] (numD l) = true ∧ l ≠ [48]) → tRet (tTup (tCons (tC (V.str "number")) (tCons (tCB (fun xs H Q => ∃ a n, xs = [V.str a] ∧ intText? a = some n ∧ a.length ≤ 640 ∧ Q (V.int n) H) (tCons (tVar 0) tNil)) tNil))) { nx := fun _ H' => Q .non H', rt := Q } [some (sv l), some (sv (numD l))] H := fun h3 => by
            rw [if_neg h3] at k
            exact ⟨_, rfl, _, _, rfl, hi, by rw [sv_len]; omega, by show 2 ≤ sizeLine; decide, fun p hp => k p hp⟩
          refine ite2 (fun hc => ?_) (fun hc => ?_)
          · refine ⟨_, rfl, rfl, _, rfl, ?_⟩
            refine ite2 (fun hd => ?_) (fun hd => ?_)
            · have hd' : ¬ (V.str ⟨l.toArray⟩ = V.str (Str.ofString "0")) := by simpa using hd
              rw [if_pos ⟨hc, fun z => hd' (by rw [z]; rfl)⟩] at k
              exact ⟨by decide, k _⟩
            · have hd' : V.str ⟨l.toArray⟩ = V.str (Str.ofString "0") := by simpa using hd
              exact fin fun z => z.2 (sv_inj (m := [48]) (hd'.trans rfl))
          · exact iteF (fin fun z => hc z.1)
end
end Th
set_option Elab.async false
set_option linter.all false
set_option maxRecDepth 100000
set_option maxHeartbeats 4000000
namespace L2
open PySem PySem.Spec PyProof.Rows
theorem yes_if {σ : St} {H : Hp} {A B : Hp → Prop} (h : A H) : tYes σ H (fun b H3 => if b = true then A H3 else B H3) := by
  show ite (true = true) (A H) (B H)
  rw [if_pos rfl]; exact h
theorem lc_str {x : Str} {g : TG} {tt : TT} {te : TE} {vs : List Nat} {σ : St} {H1 : Hp} {D : Addr} {Qd : Hp → Prop} (Pv : Nat → Hp → Prop) (h0 : Pv 0 (upd H1 D (.lst [])))
    (hs : ∀ i c H, x.cps.toList[i]? = some c → Pv i H → g (sv [c]) (wipe σ vs) H fun σ2 H2 => wipe σ2 vs = wipe σ vs ∧ tt σ2 H2 fun b H3 =>
      if b = true then te σ2 H3 fun y H4 => ∃ acc, H4 D = some (.lst acc) ∧ acc.length < sizeLine ∧ Pv (i + 1) (upd H4 D (.lst (acc ++ [y]))) else Pv (i + 1) H3) (hd : ∀ H, Pv x.cps.toList.length H → Qd H) :
    ∃ W : Nat → Nat → Hp → Prop, (∃ m, W 0 m (upd H1 D (.lst []))) ∧ ∀ i m H, W i m H →
      ((Its x).stop i H ∧ Qd H) ∨ ((Its x).go i H ∧ ∃ Nx : Hp → Prop, (∀ H', Nx H' → ∃ m', m' < m ∧ W (i + 1) m' H') ∧ ∀ z H', (Its x).yld i H z H' → g z (wipe σ vs) H' fun σ2 H2 => wipe σ2 vs = wipe σ vs ∧ tt σ2 H2 fun b H3 =>
        if b = true then te σ2 H3 fun y H4 => ∃ acc, H4 D = some (.lst acc) ∧ acc.length < sizeLine ∧ Nx (upd H4 D (.lst (acc ++ [y]))) else Nx H3) := by
  refine ⟨fun i m H => Pv i H ∧ i + m = x.cps.size, ⟨x.cps.size, h0, by omega⟩, fun i m H h => ?_⟩
  obtain ⟨hp, hm⟩ := h
  by_cases hi : i < x.cps.size
  · refine .inr ⟨hi, fun H' => Pv (i + 1) H', fun H' h => ⟨m - 1, by omega, h, by omega⟩, fun z H' hy => ?_⟩
    obtain ⟨rfl, c, hc, rfl⟩ := hy
    exact hs i c _ (by rw [Array.getElem?_toList]; exact hc) hp
  · refine .inl ⟨by show x.cps.size ≤ i; omega, hd H ?_⟩
    rw [Array.length_toList, show x.cps.size = i by omega]; exact hp
end L2
namespace Th
open PySem L2
section
variable {P : Program} {w : World} {K : PySem.W.Frag} {mg : Str → Option Value} {base : Heap} {WT : Addr}
def spOnlyOf : Sp := fun vs H Q _ => ∃ l ls : List Nat, vs = [sv l, sv ls] ∧ l.length ≤ 65536 ∧ ∀ H', (∀ b o, H b = some o → H' b = some o) → Q (.bl (l.all fun c => decide (c ∈ ls))) H'
theorem scOnlyOf : FnScope ["digits", "allowed", "digit"] ["digits", "allowed"] (defScope sOnlyOf) := ⟨rfl, rfl, rfl, by decide +kernel, rfl, by decide +kernel, by decide +kernel⟩
theorem ok_only_of (D : Df K mg "only_of" sOnlyOf ["digits", "allowed"]) (T : Txt K mg WT) : Ok P w K mg base CX0 1 "only_of" ["digits", "allowed"] spOnlyOf := by
  refine D.ok scOnlyOf (fun vs H Q E h => ?_) (fun f cdv A outer s H vs Q E hr h => ?_)
  · obtain ⟨l, ls, rfl, _⟩ := h; rfl
  · obtain ⟨l, ls, rfl, hl, k⟩ := h
    refine ⟨_, pss_one (ps_ret (pe_callB (cr_all rfl) (by rfl) T.all_ boot_all0 (pa_cons (pe_lc (own := [("digit", 2)]) rfl scOnlyOf.nd (pi_str (pv 0)) (blkOk_by (by show blkC ["digits", "allowed", "digit"] (defScope sOnlyOf) _ _ = true; decide +kernel)) (fun _ _ _ _ _ => pg_name (i := 2) scOnlyOf.nd rfl (Or.inl rfl)) (fun _ _ _ _ _ => pts_nil)
      (fun _ _ _ _ _ => pe_cmpR op_in_sign (pv 2) (pv 1) (by with_unfolding_all rfl))) pa_nil))), ?_⟩
    refine ⟨_, rfl, _, rfl, fun d hd => ?_⟩
    refine lc_str (Qd := fun H' => _) (fun i H' => (∀ b o, H b = some o → H' b = some o) ∧ H' d = some (.lst (((l.take i).map fun c => decide (c ∈ ls)).map V.bl))) ⟨fun b o e => by rw [upd_ne (ne_of_none e hd)]; exact e, by rw [upd_same]; rfl⟩ (fun i c H' hc hP => ?_) (fun H' hP => ?_)
    · rw [sv_tl] at hc
      obtain ⟨hk, hdd⟩ := hP
      have hil : i < l.length := (List.getElem?_eq_some_iff.mp hc).1
      refine ⟨rfl, ?_⟩
      refine yes_if ?_
      refine ⟨_, rfl, _, rfl, c, _, rfl, rfl, _, hdd, by simp; exact Nat.lt_of_le_of_lt (Nat.le_trans (Nat.min_le_right _ _) hl) (by decide), fun b o e => ?_, ?_⟩
      · by_cases hb : b = d
        · subst hb; rw [hd] at e; cases e
        · rw [upd_ne hb]; exact hk b o e
      · rw [upd_same, sv_tl]
        simp only [List.map_map, ← List.map_append]
        rw [List.take_succ, hc]
        simp
    · obtain ⟨hk, hdd⟩ := hP
      rw [sv_tl, List.take_length] at hdd
      refine ⟨d, _, rfl, SqL.of hdd, ?_⟩
      have := k H' hk
      rw [List.all_map]
      exact this
end
end Th
set_option Elab.async false
set_option linter.all false
set_option maxRecDepth 100000
set_option maxHeartbeats 4000000
namespace L2
open PySem
theorem seq_hold {t u : TS} {D : Ends} {σ : St} {H : Hp} (h : ∀ R : St → Hp → Prop, R = u D → t { D with nx := R } σ H) : tSeq t u D σ H := h _ rfl
end L2
namespace Th
open PySem L2
section
variable {P : Program} {w : World} {K : PySem.W.Frag} {mg : Str → Option Value} {base : Heap} {WT : Addr}
def spStringEnd (WT : Addr) : Sp := fun vs H Q E => ∃ (t : List Nat) (p : Nat), vs = [sv t, .int (p : Int)] ∧ t.length ≤ 65536 ∧ p < t.length ∧
  giveN WT (if 39 ∈ t.drop (p + 1) then some (((t.drop (p + 1)).takeWhile (· != 39)).length + 3) else none) p H Q E
theorem scStringEnd : FnScope ["text", "start", "closing"] ["text", "start"] (defScope sStringEnd) := ⟨rfl, rfl, rfl, by decide +kernel, rfl, by decide +kernel, by decide +kernel⟩
theorem ok_string_end (D : Df K mg "string_end" sStringEnd ["text", "start"]) (T : Txt K mg WT) : Ok P w K mg base (CXW P w) 1 "string_end" ["text", "start"] (spStringEnd WT) := by
  refine D.okX scStringEnd (fun vs H Q E h => ?_) (fun f cdv A outer s H vs Q E hr h => ?_)
  · obtain ⟨t, p, rfl, _⟩ := h; rfl
  · obtain ⟨t, p, rfl, ht, hp, k⟩ := h
    refine ⟨_, pss_cons (ps_set (i := 2) scStringEnd.nd rfl (Or.inl rfl) (pe_bm PySem.F.plainAttrs_str PySem.F.slot_str_find PySem.F.type_str_find mt_find3 (pv 0) (pa_cons pe_str (pa_cons (pe_op op_add (pv 1) pe_int) pa_nil))))
      (pss_cons (ps_if (pt_cmpR op_lt (pv 2) pe_int (nomark _)) (pss_one (ps_raise PySem.F.excBase_ValueError T.exc rfl (by rfl) T.wt (pa_cons pe_str pa_nil) rz_cx)) pss_nil)
      (pss_one (ps_ret (pe_op op_add (pv 2) (pe_callB call_len_str (by rfl) T.len PySem.boot_len (pa_cons pe_str pa_nil)))))), ?_⟩
    refine ⟨_, rfl, rfl, _, rfl, _, _, rfl, rfl, t, 39, p + 1, rfl, rfl, hp, ?_⟩
    refine ⟨_, rfl, _, _, rfl, rfl, _, rfl, ?_⟩
    refine ite2 (fun hc => ?_) (fun hc => ?_)
    · have hc := of_decide_eq_true hc
      by_cases hm : 39 ∈ t.drop (p + 1)
      · rw [if_pos hm] at hc; omega
      · rw [if_neg hm] at k
        exact ⟨by decide, k _⟩
    · by_cases hm : 39 ∈ t.drop (p + 1)
      · refine ⟨_, rfl, _, rfl, by decide, _, _, rfl, rfl, ?_⟩
        rw [if_pos hm] at k ⊢
        have e : ((p + 1 + ((t.drop (p + 1)).takeWhile (· != 39)).length : Nat) : Int) + ((Str.ofString "'B").length : Int) = ((p + (((t.drop (p + 1)).takeWhile (· != 39)).length + 3) : Nat) : Int) := by
          have : ((Str.ofString "'B").length : Int) = 2 := by decide +kernel
          rw [this]; omega
        show Q (V.int (_ + _)) H
        rw [e]; exact k
      · rw [if_neg hm] at hc; exact absurd (by decide) hc
def spStringToken (WT : Addr) : Sp := fun vs H Q E => ∃ l : List Nat, vs = [sv l] ∧ l.length ≤ 65536 ∧ (∀ H0, (∀ b o, H b = some o → H0 b = some o) → giveTk WT (strTk l) H0 Q E)
theorem scStringToken : FnScope ["piece", "digits"] ["piece"] (defScope sStringToken) := ⟨rfl, rfl, rfl, by decide +kernel, rfl, by decide +kernel, by decide +kernel⟩
theorem ok_string_token (D : Df K mg "string_token" sStringToken ["piece"]) (T : Txt K mg WT) (GO : Ok P w K mg base CX0 1 "only_of" ["digits", "allowed"] spOnlyOf) : Ok P w K mg base (CXW P w) 2 "string_token" ["piece"] (spStringToken WT) := by
  refine D.okX scStringToken (fun vs H Q E h => ?_) (fun f cdv A outer s H vs Q E hr h => ?_)
  · obtain ⟨l, rfl, _⟩ := h; rfl
  · obtain ⟨l, rfl, hl, k⟩ := h
    refine ⟨_, pss_cons (ps_set (i := 1) scStringToken.nd rfl (Or.inl rfl) (pe_slice sl_str (pv 0) (po_some pe_int) (po_some (pe_un un_neg pe_int))))
      (pss_cons (ps_if (PW.pt (pw_and (pt_val (pe_m1 PySem.F.slot_str_endswith PySem.F.type_str_endswith mt_ew (pv 0) pe_str))
          (pw_and1 (pt_val (pe_c GO hr pass0 (pa_cons (pv 1) (pa_cons (pe_k T.bitd) pa_nil)))))))
        (pss_one (ps_ret (pe_tup (pa_cons (pe_k T.bits) (pa_cons (pv 1) pa_nil))))) pss_nil)
      (pss_cons (ps_if (PW.pt (pw_and (pt_val (pe_m1 PySem.F.slot_str_endswith PySem.F.type_str_endswith mt_ew (pv 0) pe_str))
          (pw_and (pt_cmpR op_eq (pe_op op_mod (pe_callB call_len_str (by rfl) T.len PySem.boot_len (pa_cons (pv 1) pa_nil)) pe_int) pe_int (nomark _))
          (pw_and1 (pt_val (pe_c GO hr pass0 (pa_cons (pv 1) (pa_cons (pe_k T.octd) pa_nil))))))))
        (pss_one (ps_ret (pe_tup (pa_cons (pe_k T.octets) (pa_cons (pv 1) pa_nil))))) pss_nil)
      (pss_one (ps_raise PySem.F.excBase_ValueError T.exc rfl (by rfl) T.wt (pa_cons pe_str pa_nil) rz_cx)))), ?_⟩
    have hD : (strD l).length ≤ 65536 := by unfold strD; rw [List.length_take, List.length_drop]; omega
    refine ⟨_, rfl, _, rfl, _, rfl, _, rfl, _, rfl, small hl, ?_⟩
    rw [show cutS ⟨l.toArray⟩ (some 1) (some (-2)) = _ from cut_12 l]
    dsimp only [gName]
    refine seq_hold fun R hR => ?_
    have two : ¬ (l.drop (l.length - 2) = [39, 66] ∧ (strD l).all (fun c => decide (c ∈ BITD)) = true) → ∀ H0 : Hp, (∀ b o, H b = some o → H0 b = some o) → R [some (sv l), some (sv (strD l))] H0 := by
      intro h1 H0 hk0
      rw [hR]
      refine seq_hold fun R2 hR2 => ?_
      have three : ¬ (l.drop (l.length - 2) = [39, 72] ∧ (strD l).length % 2 = 0 ∧ (strD l).all (fun c => decide (c ∈ OCTD)) = true) → ∀ H1 : Hp, R2 [some (sv l), some (sv (strD l))] H1 := by
        intro h2 H1
        rw [hR2]
        have kk := k H0 hk0
        rw [strTk, if_neg h1, if_neg h2] at kk
        exact ⟨by decide, kk _⟩
      refine ⟨_, rfl, ⟨_, rfl⟩, l, [39, 72], rfl, rfl, by simp, _, rfl, ?_⟩
      refine ite2 (fun hc => ?_) (fun hc => ?_)
      · have hc := of_decide_eq_true hc
        refine ⟨_, rfl, _, rfl, small hD, _, _, rfl, rfl, (by show (0 : Int) < 2; decide), rfl, _, rfl, ?_⟩
        rw [sv_len]
        refine ite2 (fun hd => ?_) (fun hd => ?_)
        · have hd : (strD l).length % 2 = 0 := by
            have := of_decide_eq_true hd
            injection this with this
            omega
          refine ⟨_, rfl, strD l, OCTD, rfl, hD, fun H2 hk => ⟨_, rfl, ?_⟩⟩
          refine ite2 (fun he => ?_) (fun he => ?_)
          · have kk := k H2 fun b o e => hk b o (hk0 b o e)
            rw [strTk, if_neg h1, if_pos ⟨hc, hd, he⟩] at kk
            exact ⟨_, rfl, by show 2 ≤ sizeLine; decide, fun p hp => kk p hp⟩
          · exact three (fun z => he z.2.2) _
        · refine iteF (three (fun z => hd (decide_eq_true ?_)) _)
          show V.int (_ % _) = V.int 0
          rw [show ((strD l).length : Int) % 2 = 0 by omega]
      · exact iteF (three (fun z => hc (decide_eq_true z.1)) _)
    refine ⟨_, rfl, ⟨_, rfl⟩, l, [39, 66], rfl, rfl, by simp, _, rfl, ?_⟩
    refine ite2 (fun hc => ?_) (fun hc => ?_)
    · have hc := of_decide_eq_true hc
      refine ⟨_, rfl, strD l, BITD, rfl, hD, fun H0 hk => ⟨_, rfl, ?_⟩⟩
      refine ite2 (fun hd => ?_) (fun hd => ?_)
      · have kk := k H0 hk
        rw [strTk, if_pos ⟨hc, hd⟩] at kk
        exact ⟨_, rfl, by show 2 ≤ sizeLine; decide, fun p hp => kk p hp⟩
      · exact two (fun z => hd z.2) H0 hk
    · exact iteF (two (fun z => hc (decide_eq_true z.1)) H fun b o e => e)
end
end Th
set_option Elab.async false
set_option linter.all false
set_option maxRecDepth 100000
set_option maxHeartbeats 4000000
namespace Th
open PySem L2
section
variable {P : Program} {w : World} {K : PySem.W.Frag} {mg : Str → Option Value} {base : Heap} {WT : Addr}
theorem find_at {α : Type} {p : α → Bool} : ∀ {l : List α} {i : Nat} {x : α}, l[i]? = some x → p x = true → (∀ j y, j < i → l[j]? = some y → p y = false) → l.find? p = some x
  | [], i, x, h, _, _ => by simp at h
  | a :: r, 0, x, h, hp, _ => by
    have e : a = x := by simpa using h
    subst e
    rw [List.find?_cons, hp]
  | a :: r, i + 1, x, h, hp, hn => by
    rw [List.find?_cons, hn 0 a (by omega) rfl]
    exact find_at (l := r) (i := i) h hp fun j y hj e => hn (j + 1) y (by omega) e
theorem find_no {α : Type} {p : α → Bool} {l : List α} (hn : ∀ (j : Nat) y, l[j]? = some y → p y = false) : l.find? p = none := by
  refine List.find?_eq_none.mpr fun x hx => ?_
  obtain ⟨j, hj, e⟩ := List.mem_iff_getElem.mp hx
  rw [hn j x (by rw [List.getElem?_eq_getElem hj, e])]
  simp
def spSignEnd (WT : Addr) : Sp := fun vs H Q E => ∃ (t : List Nat) (p : Nat), vs = [sv t, .int (p : Int)] ∧ t.length ≤ 65536 ∧ giveN WT (signLen (t.drop p)) p H Q E
theorem scSignEnd : FnScope ["text", "start", "sign"] ["text", "start"] (defScope sSignEnd) := ⟨rfl, rfl, rfl, by decide +kernel, rfl, by decide +kernel, by decide +kernel⟩
theorem ok_sign_end (D : Df K mg "sign_end" sSignEnd ["text", "start"]) (T : Txt K mg WT) : Ok P w K mg base (CXW P w) 1 "sign_end" ["text", "start"] (spSignEnd WT) := by
  refine D.okX scSignEnd (fun vs H Q E h => ?_) (fun f cdv A outer s H vs Q E hr h => ?_)
  · obtain ⟨t, p, rfl, _⟩ := h; rfl
  · obtain ⟨t, p, rfl, ht, k⟩ := h
    obtain ⟨a, ha, hs⟩ := T.signs
    refine ⟨_, pss_cons (ps_for own_cx rfl (pi_tup (pe_glob (v := .ref a) (by rfl) ha rfl)) (pg_name (i := 2) scSignEnd.nd rfl (Or.inl rfl))
        (pss_one (ps_if (pt_val (pe_bm PySem.F.plainAttrs_str PySem.F.slot_str_startswith PySem.F.type_str_startswith mt_sw3 (pv 0) (pa_cons (pv 2) (pa_cons (pv 1) pa_nil))))
          (pss_one (ps_ret (pe_op op_add (pv 1) (pe_callB call_len_str (by rfl) T.len PySem.boot_len (pa_cons (pv 2) pa_nil))))) pss_nil)))
      (pss_one (ps_raise PySem.F.excBase_ValueError T.exc rfl (by rfl) T.wt (pa_cons pe_str pa_nil) rz_cx)), ?_⟩
    refine ⟨a, rfl, ⟨_, hs H⟩, ?_⟩
    refine for_tup (xs := SGN.map sv) (fun i σ' H' => H' = H ∧ (∃ o, σ' = [some (sv t), some (.int (p : Int)), o]) ∧ ∀ (j : Nat) y, j < i → SGN[j]? = some y → TL.pre y (t.drop p) = false) ⟨rfl, ⟨none, rfl⟩, fun j y hj => absurd hj (Nat.not_lt_zero _)⟩ (fun i σ' H' _ h => hs H') (fun i x σ' H' hx h => ?_) (fun σ' H' h => ?_)
    · obtain ⟨rfl, ⟨o, rfl⟩, hn⟩ := h
      obtain ⟨y, hy, rfl⟩ : ∃ y, SGN[i]? = some y ∧ sv y = x := by
        rw [List.getElem?_map] at hx
        cases e : SGN[i]? with
        | none => rw [e] at hx; cases hx
        | some y => rw [e] at hx; exact ⟨y, rfl, Option.some.inj hx⟩
      have hmem : y ∈ SGN := List.mem_of_getElem? hy
      have hne : y ≠ [] := by
        have : ∀ y ∈ SGN, y ≠ [] := by decide
        exact this y hmem
      have hle : y.length ≤ 3 := by
        have : ∀ y ∈ SGN, y.length ≤ 3 := by decide
        exact this y hmem
      refine ⟨_, rfl, rfl, _, rfl, _, rfl, t, y, p, rfl, rfl, hne, _, rfl, ?_⟩
      refine ite2 (fun hc => ?_) (fun hc => ?_)
      · refine ⟨_, rfl, _, rfl, _, rfl, small (by omega), _, _, rfl, rfl, ?_⟩
        rw [sv_len]
        have e : signLen (t.drop p) = some y.length := by
          unfold signLen
          rw [find_at (p := fun s => TL.pre s (t.drop p)) hy hc fun j z hj e => hn j z hj e]
          rfl
        rw [e] at k
        show Q (V.int (_ + _)) _
        rw [← Int.natCast_add]
        exact k
      · refine ⟨rfl, ⟨_, rfl⟩, fun j z hj e => ?_⟩
        by_cases hji : j = i
        · subst hji
          rw [hy] at e
          cases e
          simpa using hc
        · exact hn j z (by omega) e
    · obtain ⟨rfl, ⟨o, rfl⟩, hn⟩ := h
      have e : signLen (t.drop p) = none := by
        unfold signLen
        rw [find_no fun j y e => hn j y (by rw [List.length_map]; exact (List.getElem?_eq_some_iff.mp e).1) e]
        rfl
      rw [e] at k
      exact ⟨by decide, k _⟩
def spBeginsNumber : Sp := fun vs H Q _ => ∃ c : Nat, vs = [sv [c]] ∧ Q (.bl (numC c)) H
theorem scBeginsNumber : FnScope ["letter"] ["letter"] (defScope sBeginsNumber) := ⟨rfl, rfl, rfl, by decide +kernel, rfl, by decide +kernel, by decide +kernel⟩
theorem dash (c : Nat) : (V.str ⟨#[c]⟩ = V.str (Str.ofString "-")) ↔ c = 45 := by
  constructor
  · intro h
    have := sv_inj (l := [c]) (m := [45]) (h.trans rfl)
    simpa using this
  · rintro rfl; rfl
theorem ok_begins_number (D : Df K mg "begins_number" sBeginsNumber ["letter"]) (T : Txt K mg WT) : Ok P w K mg base CX0 1 "begins_number" ["letter"] spBeginsNumber := by
  refine D.ok scBeginsNumber (fun vs H Q E h => ?_) (fun f cdv A outer s H vs Q E hr h => ?_)
  · obtain ⟨c, rfl, _⟩ := h; rfl
  · obtain ⟨c, rfl, k⟩ := h
    refine ⟨_, pss_one (ps_ret (pe_or (pe_cmpR op_eq (pv 0) pe_str (nomark _)) (pe_one (pe_cmpR op_in_sign (pv 0) (pe_k T.dig) (by with_unfolding_all rfl))))), ?_⟩
    refine ⟨_, rfl, rfl, _, rfl, ?_⟩
    refine ite2 (fun hc => ?_) (fun hc => ?_)
    · have hc := (dash c).mp (of_decide_eq_true hc)
      rw [numC, decide_eq_true hc, Bool.true_or] at k
      exact k
    · have hc : ¬ c = 45 := fun z => hc (decide_eq_true ((dash c).mpr z))
      rw [numC, decide_eq_false hc, Bool.false_or] at k
      exact ⟨_, rfl, c, _, rfl, rfl, by rw [sv_tl]; exact k⟩
def spTokenEnd (WT : Addr) : Sp := fun vs H Q E => ∃ (t : List Nat) (p : Nat), vs = [sv t, .int (p : Int)] ∧ t.length ≤ 65536 ∧ p < t.length ∧ (∀ c ∈ t, c < 128) ∧ giveN WT (tokEnd (t.drop p)) p H Q E
theorem scTokenEnd : FnScope ["text", "start", "first"] ["text", "start"] (defScope sTokenEnd) := ⟨rfl, rfl, rfl, by decide +kernel, rfl, by decide +kernel, by decide +kernel⟩
theorem quote (c : Nat) : (V.str ⟨#[c]⟩ = V.str (Str.ofString "'")) ↔ c = 39 := by
  constructor
  · intro h
    have := sv_inj (l := [c]) (m := [39]) (h.trans rfl)
    simpa using this
  · rintro rfl; rfl
theorem ok_token_end (D : Df K mg "token_end" sTokenEnd ["text", "start"]) (T : Txt K mg WT) (GR : Ok P w K mg base CX0 1 "run_end" ["text", "start", "letters"] spRunEnd) (GB : Ok P w K mg base CX0 1 "begins_number" ["letter"] spBeginsNumber)
    (GS : Ok P w K mg base (CXW P w) 1 "string_end" ["text", "start"] (spStringEnd WT)) (GG : Ok P w K mg base (CXW P w) 1 "sign_end" ["text", "start"] (spSignEnd WT)) : Ok P w K mg base (CXW P w) 2 "token_end" ["text", "start"] (spTokenEnd WT) := by
  refine D.okX scTokenEnd (fun vs H Q E h => ?_) (fun f cdv A outer s H vs Q E hr h => ?_)
  · obtain ⟨t, p, rfl, _⟩ := h; rfl
  · obtain ⟨t, p, rfl, ht, hp, h128, k⟩ := h
    refine ⟨_, pss_cons (ps_set (i := 2) scTokenEnd.nd rfl (Or.inl rfl) (pe_ix ix_str (pv 0) (pv 1) (fun _ _ => rfl)))
      (pss_cons (ps_if (pt_val (pe_m0 PySem.F.slot_str_isalpha PySem.F.type_str_isalpha mt_isalpha (pv 2))) (pss_one (ps_ret (pe_c GR hr pass0 (pa_cons (pv 0) (pa_cons (pv 1) (pa_cons (pe_k T.wlet) pa_nil)))))) pss_nil)
      (pss_cons (ps_if (pt_val (pe_c GB hr pass0 (pa_cons (pv 2) pa_nil))) (pss_one (ps_ret (pe_c GR hr pass0 (pa_cons (pv 0) (pa_cons (pe_op op_add (pv 1) pe_int) (pa_cons (pe_k T.dig) pa_nil)))))) pss_nil)
      (pss_cons (ps_if (pt_cmpR op_eq (pv 2) pe_str (nomark _)) (pss_one (ps_ret (pe_c GS hr pass_cx (pa_cons (pv 0) (pa_cons (pv 1) pa_nil))))) pss_nil)
      (pss_one (ps_ret (pe_c GG hr pass_cx (pa_cons (pv 0) (pa_cons (pv 1) pa_nil)))))))), ?_⟩
    have hd := drop_at hp
    have hc128 : t[p] < 128 := h128 _ (List.getElem_mem hp)
    rw [hd, tokEnd] at k
    refine ⟨_, rfl, _, rfl, _, _, t[p], rfl, rfl, small ht, at_sv (List.getElem?_eq_getElem hp), ?_⟩
    refine ⟨_, rfl, ⟨_, rfl⟩, _, rfl, rfl, trivial, _, rfl, ?_⟩
    rw [one_alpha _ hc128]
    refine ite2 (fun hc => ?_) (fun hc => ?_)
    · rw [if_pos (show alphaC t[p] = true from hc), ← hd] at k
      exact ⟨_, rfl, _, rfl, t, WLET, p, rfl, ht, by omega, k⟩
    · rw [if_neg (show ¬ alphaC t[p] = true from hc)] at k
      refine ⟨_, rfl, t[p], rfl, _, rfl, ?_⟩
      refine ite2 (fun hc2 => ?_) (fun hc2 => ?_)
      · rw [if_pos hc2] at k
        refine ⟨_, rfl, _, rfl, _, _, rfl, rfl, t, DIG, p + 1, rfl, ht, hp, ?_⟩
        rw [Nat.add_assoc]; exact k
      · rw [if_neg hc2] at k
        refine ⟨_, rfl, rfl, _, rfl, ?_⟩
        refine ite2 (fun hc3 => ?_) (fun hc3 => ?_)
        · rw [if_pos ((quote _).mp (of_decide_eq_true hc3))] at k
          exact ⟨_, rfl, _, rfl, t, p, rfl, ht, hp, k⟩
        · rw [if_neg (fun z => hc3 (decide_eq_true ((quote _).mpr z))), ← hd] at k
          exact ⟨_, rfl, _, rfl, t, p, rfl, ht, k⟩
end
end Th
set_option Elab.async false
set_option linter.all false
set_option maxRecDepth 100000
set_option maxHeartbeats 4000000
namespace Th
open PySem L2
theorem takeW_pos {p : Nat → Bool} {c : Nat} {r : List Nat} (h : p c = true) : 0 < ((c :: r).takeWhile p).length := by rw [List.takeWhile_cons_of_pos h]; simp
theorem alpha_wlet : ∀ c, c < 128 → alphaC c = true → decide (c ∈ WLET) = true := by decide +kernel
theorem signLen_pos {l : List Nat} {n : Nat} (h : signLen l = some n) : 0 < n := by
  unfold signLen at h
  cases e : SGN.find? (fun s => TL.pre s l) with
  | none => rw [e] at h; cases h
  | some y =>
    rw [e] at h
    have hm := List.mem_of_find?_eq_some e
    have : ∀ y ∈ SGN, 0 < y.length := by decide
    have h2 := this y hm
    have h3 : y.length = n := Option.some.inj h
    omega
theorem tokEnd_pos {l : List Nat} {n : Nat} (h8 : ∀ c ∈ l, c < 128) (h : tokEnd l = some n) : 0 < n := by
  match l with
  | [] => cases h
  | c :: r =>
    rw [tokEnd] at h
    split at h
    · rename_i ha
      have := Option.some.inj h
      have h2 := takeW_pos (p := fun c => decide (c ∈ WLET)) (c := c) (r := r) (alpha_wlet c (h8 c List.mem_cons_self) ha)
      omega
    · split at h
      · have := Option.some.inj h; omega
      · split at h
        · split at h
          · have := Option.some.inj h; omega
          · cases h
        · exact signLen_pos h
def toksF : Nat → List Nat → Option (List Tk)
  | 0, _ => none
  | k + 1, l => match l.drop (skipN l) with
    | [] => some []
    | c :: r => match tokEnd (c :: r) with
      | none => none
      | some n => match tokOf ((c :: r).take n) with
        | none => none
        | some t => (toksF k ((c :: r).drop n)).map (t :: ·)
theorem toksF_enough : ∀ (k : Nat) (l : List Nat), (∀ c ∈ l, c < 128) → l.length < k → toksF k l = toksF (l.length + 1) l := by
  intro k
  induction k using Nat.strongRecOn with
  | ind k ih =>
    intro l h8 hk
    match k with
    | 0 => omega
    | k + 1 =>
      rw [toksF, toksF]
      split
      · rfl
      · rename_i c r e
        split
        · rfl
        · rename_i n en
          split
          · rfl
          · have hsub : ∀ x ∈ c :: r, x ∈ l := fun x hx => List.mem_of_mem_drop (by rw [e]; exact hx)
            have hpos := tokEnd_pos (fun x hx => h8 x (hsub x hx)) en
            have hlen : (c :: r).length ≤ l.length := by rw [← e, List.length_drop]; omega
            have h1 : ((c :: r).drop n).length < l.length := by rw [List.length_drop]; simp at hlen ⊢; omega
            have h82 : ∀ x ∈ (c :: r).drop n, x < 128 := fun x hx => h8 x (hsub x (List.mem_of_mem_drop hx))
            rw [ih k (by omega) _ h82 (by omega)]
            by_cases hl : l.length = 0
            · omega
            · rw [ih l.length (by omega) _ h82 h1]
def toks (l : List Nat) : Option (List Tk) := toksF (l.length + 1) l
def TksAt (H : Hp) (as : List Addr) (ts : List Tk) : Prop := Paired (fun a t => H a = some (.tup (Tk.vs t))) as ts
theorem TksAt.mono {H H' : Hp} {as : List Addr} {ts : List Tk} (h : TksAt H as ts) (k : ∀ b o, H b = some o → H' b = some o) : TksAt H' as ts := Paired.mapP h fun a t e => k a _ e
theorem Paired.snoc {α β : Type} {R : α → β → Prop} {x : α} {y : β} (r : R x y) : ∀ {l : List α} {m : List β}, Paired R l m → Paired R (l ++ [x]) (m ++ [y])
  | _, _, .nil => .cons r .nil
  | _, _, .cons a b => .cons a (Paired.snoc r b)
theorem Paired.len {α β : Type} {R : α → β → Prop} : ∀ {l : List α} {m : List β}, Paired R l m → l.length = m.length
  | _, _, .nil => rfl
  | _, _, .cons _ b => by rw [List.length_cons, List.length_cons, Paired.len b]
section
variable {P : Program} {w : World} {K : PySem.W.Frag} {mg : Str → Option Value} {base : Heap} {WT : Addr}
def spTokenOf (WT : Addr) : Sp := fun vs H Q E => ∃ (c : Nat) (r : List Nat), vs = [sv (c :: r)] ∧ (c :: r).length ≤ 65536 ∧ c < 128 ∧ (alphaC c = false → numC c = true → numForm (c :: r)) ∧ (∀ H0, (∀ b o, H b = some o → H0 b = some o) → giveTk WT (tokOf (c :: r)) H0 Q E)
theorem scTokenOf : FnScope ["piece", "first"] ["piece"] (defScope sTokenOf) := ⟨rfl, rfl, rfl, by decide +kernel, rfl, by decide +kernel, by decide +kernel⟩
theorem ok_token_of (D : Df K mg "token_of" sTokenOf ["piece"]) (T : Txt K mg WT) (GB : Ok P w K mg base CX0 1 "begins_number" ["letter"] spBeginsNumber) (GW : Ok P w K mg base (CXW P w) 1 "word_token" ["piece"] (spWordToken WT))
    (GN : Ok P w K mg base (CXW P w) 1 "number_token" ["piece"] (spNumberToken WT)) (GS : Ok P w K mg base (CXW P w) 2 "string_token" ["piece"] (spStringToken WT)) : Ok P w K mg base (CXW P w) 3 "token_of" ["piece"] (spTokenOf WT) := by
  refine D.okX scTokenOf (fun vs H Q E h => ?_) (fun f cdv A outer s H vs Q E hr h => ?_)
  · obtain ⟨c, r, rfl, _⟩ := h; rfl
  · obtain ⟨c, r, rfl, hl, hc8, hnf, k⟩ := h
    have hr1 := hr.mono (show 1 ≤ 2 by decide)
    refine ⟨_, pss_cons (ps_set (i := 1) scTokenOf.nd rfl (Or.inl rfl) (pe_ix ix_str (pv 0) pe_int (fun _ _ => rfl)))
      (pss_cons (ps_if (pt_val (pe_m0 PySem.F.slot_str_isalpha PySem.F.type_str_isalpha mt_isalpha (pv 1))) (pss_one (ps_ret (pe_c GW hr1 pass_cx (pa_cons (pv 0) pa_nil)))) pss_nil)
      (pss_cons (ps_if (pt_val (pe_c GB hr1 pass0 (pa_cons (pv 1) pa_nil))) (pss_one (ps_ret (pe_c GN hr1 pass_cx (pa_cons (pv 0) pa_nil)))) pss_nil)
      (pss_cons (ps_if (pt_cmpR op_eq (pv 1) pe_str (nomark _)) (pss_one (ps_ret (pe_c GS hr pass_cx (pa_cons (pv 0) pa_nil)))) pss_nil)
      (pss_one (ps_ret (pe_tup (pa_cons (pe_k T.sign) (pa_cons (pv 0) pa_nil)))))))), ?_⟩
    refine ⟨_, rfl, _, _, c, rfl, rfl, small hl, at_sv (p := 0) rfl, ?_⟩
    refine ⟨_, rfl, ⟨_, rfl⟩, _, rfl, rfl, trivial, _, rfl, ?_⟩
    rw [one_alpha _ hc8]
    have kk := k H fun b o e => e
    rw [tokOf] at kk
    refine ite2 (fun hc => ?_) (fun hc => ?_)
    · rw [if_pos (show alphaC c = true from hc)] at kk
      exact ⟨_, rfl, _, rfl, hl, kk⟩
    · rw [if_neg (show ¬ alphaC c = true from hc)] at kk
      refine ⟨_, rfl, c, rfl, _, rfl, ?_⟩
      refine ite2 (fun hc2 => ?_) (fun hc2 => ?_)
      · rw [if_pos hc2] at kk
        exact ⟨_, rfl, _, rfl, hl, hnf (by simpa [alphaC] using hc) hc2, kk⟩
      · rw [if_neg hc2] at kk
        refine ⟨_, rfl, rfl, _, rfl, ?_⟩
        refine ite2 (fun hc3 => ?_) (fun hc3 => ?_)
        · refine ⟨_, rfl, _, rfl, hl, fun H0 hk => ?_⟩
          have k2 := k H0 hk
          rw [tokOf, if_neg (show ¬ alphaC c = true from hc), if_neg hc2, if_pos ((quote _).mp (of_decide_eq_true hc3))] at k2
          exact k2
        · rw [if_neg (fun z => hc3 (decide_eq_true ((quote _).mpr z)))] at kk
          exact ⟨_, rfl, by show 2 ≤ sizeLine; decide, fun p hp => kk p hp⟩
end
end Th
set_option Elab.async false
set_option linter.all false
set_option maxRecDepth 100000
set_option maxHeartbeats 4000000
namespace Th
open PySem L2
theorem skipN_idem (l : List Nat) : skipN (l.drop (skipN l)) = 0 := by
  induction hn : l.length using Nat.strongRecOn generalizing l with
  | ind n ih =>
    match l with
    | [] => rw [skipN_nil, List.drop_zero, skipN_nil]
    | c :: r =>
      rw [skipN_cons]
      split
      · rename_i h
        rw [show 1 + skipN r = skipN r + 1 by omega, List.drop_succ_cons]
        exact ih r.length (by rw [← hn]; simp) r rfl
      · split
        · have h2 := remN_pos (l := c :: r) (by simp)
          have := ih ((c :: r).drop (remN (c :: r))).length (by rw [List.length_drop, ← hn]; simp at *; omega) _ rfl
          rw [List.drop_drop] at this
          rw [← List.drop_drop] at this ⊢
          exact this
        · rename_i h1 h2
          rw [List.drop_zero, skipN_cons, if_neg h1, if_neg h2]
theorem takeW_le (p : Nat → Bool) (l : List Nat) : (l.takeWhile p).length ≤ l.length := (List.takeWhile_sublist p).length_le
theorem take_takeW (p : Nat → Bool) : ∀ l : List Nat, l.take (l.takeWhile p).length = l.takeWhile p
  | [] => rfl
  | c :: r => by
    by_cases h : p c = true
    · rw [List.takeWhile_cons_of_pos h, List.length_cons, List.take_succ_cons, take_takeW p r]
    · rw [List.takeWhile_cons_of_neg h]; rfl
theorem pre_le {s l : List Nat} (h : TL.pre s l = true) : s.length ≤ l.length := by
  have e : l.take s.length = s := eq_of_beq h
  have e1 := congrArg List.length e
  rw [List.length_take] at e1
  omega
theorem tok_in {l : List Nat} {n : Nat} {t : Tk} (h : tokEnd l = some n) (ht : tokOf (l.take n) = some t) : n ≤ l.length := by
  match l with
  | [] => cases h
  | c :: r =>
    rw [tokEnd] at h
    split at h
    · have := Option.some.inj h
      have h2 := takeW_le (fun c => decide (c ∈ WLET)) (c :: r)
      omega
    · rename_i ha
      split at h
      · have := Option.some.inj h
        have h2 := takeW_le (fun c => decide (c ∈ DIG)) r
        simp; omega
      · rename_i hb
        split at h
        · rename_i hc
          split at h
          · rename_i hm
            have e := Option.some.inj h
            refine Nat.le_of_not_lt fun hlt => ?_
            have h2 := takeW_le (· != 39) r
            have hr : r.length = (r.takeWhile (· != 39)).length + 1 := by
              have h3 : (r.takeWhile (· != 39)).length ≠ r.length := fun e2 => by
                have e3 := (List.takeWhile_sublist (· != 39)).eq_of_length e2
                have h4 := List.all_eq_true.mp (List.all_takeWhile (p := (· != 39)) (l := r)) 39 (by rw [e3]; exact hm)
                simp at h4
              simp at hlt; omega
            have hlast : r.drop (r.length - 1) = [39] := by
              rw [hr, Nat.add_sub_cancel]
              have h5 : r.takeWhile (· != 39) ++ r.dropWhile (· != 39) = r := List.takeWhile_append_dropWhile
              have h6 : r.drop (r.takeWhile (· != 39)).length = r.dropWhile (· != 39) := by
                conv => lhs; arg 2; rw [← h5]
                rw [List.drop_left]
              rw [h6]
              have h7 : (r.dropWhile (· != 39)).length = 1 := by rw [← h6, List.length_drop]; omega
              obtain ⟨x, hx⟩ := List.length_eq_one_iff.mp h7
              have h8 := List.head_dropWhile_not (p := (· != 39)) (l := r) (by rw [hx]; simp)
              rw [hx]
              simp [hx] at h8
              rw [h8]
            rw [List.take_of_length_le (by omega), tokOf, if_neg ha, if_neg hb, if_pos hc] at ht
            have hr1 : 1 ≤ r.length := by omega
            have hd : (c :: r).drop ((c :: r).length - 2) = r.drop (r.length - 2) ∨ (c :: r).drop ((c :: r).length - 2) = c :: r := by
              by_cases h1 : r.length = 1
              · right; rw [List.length_cons, h1]; rfl
              · left
                rw [List.length_cons, show r.length + 1 - 2 = (r.length - 2) + 1 by omega, List.drop_succ_cons]
            have hno : ∀ y, y ≠ 39 → (c :: r).drop ((c :: r).length - 2) ≠ [39, y] := fun y hy z => by
              have z2 : ((c :: r).drop ((c :: r).length - 2)).drop 1 = [y] := by rw [z]; rfl
              rw [List.drop_drop, List.length_cons, show r.length + 1 - 2 + 1 = (r.length - 1) + 1 by omega, List.drop_succ_cons, hlast] at z2
              exact hy (by simpa using z2.symm)
            rw [strTk, if_neg (fun z => hno 66 (by decide) z.1), if_neg (fun z => hno 72 (by decide) z.1)] at ht
            cases ht
          · cases h
        · unfold signLen at h
          cases e : SGN.find? (fun s => TL.pre s (c :: r)) with
          | none => rw [e] at h; cases h
          | some y =>
            rw [e] at h
            have h3 : y.length = n := Option.some.inj h
            rw [← h3]
            exact pre_le (List.find?_some (p := fun s => TL.pre s (c :: r)) e)
theorem dig_digits {l : List Nat} (h : ∀ c ∈ l, c ∈ DIG) : NumText.AllDigits l := fun c hc => by
  have : ∀ c ∈ DIG, 48 ≤ c ∧ c ≤ 57 := by decide
  exact this c (h c hc)
theorem num_piece {c : Nat} {r : List Nat} {n : Nat} (ha : alphaC c = false) (hb : numC c = true) (h : tokEnd (c :: r) = some n) : numForm ((c :: r).take n) := by
  rw [tokEnd, if_neg (by rw [ha]; simp), if_pos hb] at h
  have e := Option.some.inj h
  rw [← e, Nat.add_comm, List.take_succ_cons, take_takeW]
  have hd : ∀ x ∈ r.takeWhile (fun c => decide (c ∈ DIG)), x ∈ DIG := fun x hx => of_decide_eq_true (List.all_eq_true.mp (List.all_takeWhile (p := fun c => decide (c ∈ DIG)) (l := r)) x hx)
  unfold numC at hb
  rcases Bool.or_eq_true_iff.mp hb with h1 | h1
  · have h1 := of_decide_eq_true h1
    exact ⟨_, dig_digits hd, .inr (by rw [h1])⟩
  · have h1 := of_decide_eq_true h1
    refine ⟨_, dig_digits (l := c :: r.takeWhile fun c => decide (c ∈ DIG)) (fun x hx => ?_), .inl rfl⟩
    rcases List.mem_cons.mp hx with z | z
    · rw [z]; exact h1
    · exact hd x z
theorem toks_step {l : List Nat} (h8 : ∀ c ∈ l, c < 128) (hs : skipN l = 0) {c : Nat} {r : List Nat} (e : l = c :: r) : toks l = match tokEnd l with
    | none => none
    | some n => match tokOf (l.take n) with
      | none => none
      | some t => (toks (l.drop n)).map (t :: ·) := by
  unfold toks
  rw [toksF, hs, List.drop_zero]
  subst e
  dsimp only
  cases h : tokEnd (c :: r) with
  | none => rfl
  | some n =>
    dsimp only
    cases h2 : tokOf ((c :: r).take n) with
    | none => rfl
    | some t =>
      have hpos := tokEnd_pos h8 h
      dsimp only
      rw [toksF_enough (c :: r).length _ (fun x hx => h8 x (List.mem_of_mem_drop hx)) (by rw [List.length_drop]; simp; omega)]
theorem lc_lt : ∀ n, lc n < 128 := fun n => by
  unfold lc
  rw [List.getD_eq_getElem?_getD]
  cases e : LET[n]? with
  | none => decide
  | some x =>
    have : ∀ x ∈ LET, x < 128 := by decide
    exact this x (List.mem_of_getElem? e)
theorem toks_drop {l : List Nat} (h8 : ∀ c ∈ l, c < 128) : toks (l.drop (skipN l)) = toks l := by
  unfold toks
  rw [toksF, toksF, skipN_idem, List.drop_zero]
  split
  · rfl
  · rename_i c r e
    split
    · rfl
    · rename_i n en
      split
      · rfl
      · rename_i t et
        have hsub : ∀ x ∈ c :: r, x ∈ l := fun x hx => List.mem_of_mem_drop (by rw [e]; exact hx)
        have hpos := tokEnd_pos (fun x hx => h8 x (hsub x hx)) en
        have hlen : (c :: r).length ≤ l.length := by rw [← e, List.length_drop]; omega
        have h82 : ∀ x ∈ (c :: r).drop n, x < 128 := fun x hx => h8 x (hsub x (List.mem_of_mem_drop hx))
        rw [toksF_enough l.length _ h82 (by rw [List.length_drop]; simp at *; omega), toksF_enough (l.drop (skipN l)).length _ h82 (by rw [e, List.length_drop]; simp; omega)]
theorem toks_nil : toks [] = some [] := by unfold toks; rw [toksF, skipN_nil]; rfl
end Th
set_option Elab.async false
set_option linter.all false
set_option maxRecDepth 100000
set_option maxHeartbeats 4000000
namespace Th
open PySem L2
section
variable {P : Program} {w : World} {K : PySem.W.Frag} {mg : Str → Option Value} {base : Heap} {WT : Addr}
def giveTks (WT : Addr) (o : Option (List Tk)) (H : Hp) (Q : VK) (E : XK) : Prop := match o with
  | some ts => ∀ (p : Addr) (as : List Addr) (H' : Hp), H' p = some (.lst (as.map V.ref)) → TksAt H' as ts → (∀ b o, H b = some o → H' b = some o) → H p = none → Q (.ref p) H'
  | none => ∀ H', E (.ref WT) none H'
def spTokensOf (K : PySem.W.Frag) (WT : Addr) : Sp := fun vs H Q E => ∃ (a : Addr) (ns : List Nat), vs = [.ref a] ∧ SqL K H a (ns.map fun (n : Nat) => V.int (n : Int)) ∧ ns.length ≤ 65536 ∧ giveTks WT (toks (ns.map lc)) H Q E
theorem scTokensOf : FnScope ["codes", "text", "tokens", "place", "end"] ["codes"] (defScope sTokensOf) := ⟨rfl, rfl, rfl, by decide +kernel, rfl, by decide +kernel, by decide +kernel⟩
theorem joinL_ones (l : List Nat) : TL.joinL [] (l.map fun c => [c]) = l := by
  induction l with
  | nil => rfl
  | cons c r ih =>
    cases r with
    | nil => rfl
    | cons d r =>
      show [c] ++ ([] ++ TL.joinL [] ((d :: r).map fun c => [c])) = c :: d :: r
      rw [ih]; rfl
theorem join_ones (l : List Nat) : Txt.join (Str.ofString "") (l.map fun c => (⟨#[c]⟩ : Str)) = ⟨l.toArray⟩ := by
  apply TL.ext_tl
  rw [TL.join_eq, TL.tl_join, List.map_map]
  show TL.joinL [] (l.map fun c => [c]) = _
  rw [joinL_ones]
def spTextOf (K : PySem.W.Frag) : Sp := fun vs H Q _ => ∃ (a : Addr) (ns : List Nat), vs = [.ref a] ∧ SqL K H a (ns.map fun (n : Nat) => V.int (n : Int)) ∧ ns.length ≤ 65536 ∧ ∀ H', (∀ b o, H b = some o → H' b = some o) → Q (sv (ns.map lc)) H'
theorem scTextOf : FnScope ["codes", "code"] ["codes"] (defScope sTextOf) := ⟨rfl, rfl, rfl, by decide +kernel, rfl, by decide +kernel, by decide +kernel⟩
theorem ok_text_of (D : Df K mg "text_of" sTextOf ["codes"]) (GL : Ok P w K mg base CX0 1 "letter_of" ["code"] spLetterOf) : Ok P w K mg base CX0 2 "text_of" ["codes"] (spTextOf K) := by
  refine D.ok scTextOf (fun vs H Q E h => ?_) (fun f cdv A outer s H vs Q E hr h => ?_)
  · obtain ⟨a, ns, rfl, _⟩ := h; rfl
  · obtain ⟨a, ns, rfl, hS, hl, k⟩ := h
    refine ⟨_, pss_one (ps_ret (pe_join pe_str (pe_lc (own := [("code", 1)]) rfl scTextOf.nd (pi_list (pv 0)) (blkOk_by (by show blkC ["codes", "code"] (defScope sTextOf) _ _ = true; decide +kernel)) (fun _ _ _ _ _ => pg_name (i := 1) scTextOf.nd rfl (Or.inl rfl)) (fun _ _ _ _ _ => pts_nil)
        (fun _ _ _ _ _ => pe_c GL hr pass0 (pa_cons (pv 1) pa_nil))))), ?_⟩
    refine ⟨⟨_, rfl⟩, _, rfl, a, rfl, ⟨_, hS⟩, fun d hd => ?_⟩
    refine lc_list (xs := ns.map fun (n : Nat) => V.int (n : Int)) (Qd := fun H' => _) (fun i H' => (∀ b o, H b = some o → H' b = some o) ∧ H' d = some (.lst (((ns.take i).map fun n => (⟨#[lc n]⟩ : Str)).map V.str))) ⟨fun b o e => by rw [upd_ne (ne_of_none e hd)]; exact e, by rw [upd_same]; rfl⟩
      (fun i H' _ hP => Same.seq (fun b o e => hP.1 b o e) hS) (fun i x H' hx hP => ?_) (fun H' hP => ?_)
    · obtain ⟨hk, hdd⟩ := hP
      rw [List.getElem?_map] at hx
      obtain ⟨n, hn, rfl⟩ : ∃ n, ns[i]? = some n ∧ V.int (n : Int) = x := by
        cases e : ns[i]? with
        | none => rw [e] at hx; cases hx
        | some y => rw [e] at hx; exact ⟨y, rfl, Option.some.inj hx⟩
      refine ⟨rfl, yes_if ?_⟩
      refine ⟨_, rfl, n, rfl, _, hdd, by simp; exact Nat.lt_of_le_of_lt (Nat.le_trans (Nat.min_le_right _ _) hl) (by decide), fun b o e => ?_, ?_⟩
      · by_cases hb : b = d
        · subst hb; rw [hd] at e; cases e
        · rw [upd_ne hb]; exact hk b o e
      · rw [upd_same, List.take_succ, hn]
        simp
    · obtain ⟨hk, hdd⟩ := hP
      rw [List.length_map, List.take_length] at hdd
      refine ⟨_, d, ns.map fun n => (⟨#[lc n]⟩ : Str), rfl, rfl, .inl (SqL.of hdd), ?_, ?_⟩
      · rw [List.map_map]
        have e1 : ∀ l : List Nat, (l.map ((fun x : Str => x.length) ∘ fun n => (⟨#[lc n]⟩ : Str))).sum = l.length := fun l => by
          induction l with
          | nil => rfl
          | cons c r ih => rw [List.map_cons, List.sum_cons, ih, List.length_cons]; show 1 + r.length = _; omega
        rw [e1, List.length_map, show (Str.ofString "").length = 0 from rfl, Nat.mul_zero]
        omega
      rw [show (ns.map fun n => (⟨#[lc n]⟩ : Str)) = (ns.map lc).map (fun c => (⟨#[c]⟩ : Str)) by rw [List.map_map]; rfl, join_ones]
      exact k H' hk
theorem ok_tokens_of (D : Df K mg "tokens_of" sTokensOf ["codes"]) (T : Txt K mg WT) (GX : Ok P w K mg base CX0 2 "text_of" ["codes"] (spTextOf K)) (GS : Ok P w K mg base CX0 2 "skip_blanks" ["text", "start"] spSkip)
    (GE : Ok P w K mg base (CXW P w) 2 "token_end" ["text", "start"] (spTokenEnd WT)) (GT : Ok P w K mg base (CXW P w) 3 "token_of" ["piece"] (spTokenOf WT)) : Ok P w K mg base (CXW P w) 4 "tokens_of" ["codes"] (spTokensOf K WT) := by
  refine D.okX scTokensOf (fun vs H Q E h => ?_) (fun f cdv A outer s H vs Q E hr h => ?_)
  · obtain ⟨a, ns, rfl, _⟩ := h; rfl
  · obtain ⟨a, ns, rfl, hS, hl, k⟩ := h
    have hr2 := hr.mono (show 2 ≤ 3 by decide)
    refine ⟨_, pss_cons (ps_set (i := 1) scTokensOf.nd rfl (Or.inl rfl) (pe_c GX hr2 pass0 (pa_cons (pv 0) pa_nil)))
      (pss_cons (ps_set (i := 2) scTokensOf.nd rfl (Or.inl rfl) (pe_lst pa_nil))
      (pss_cons (ps_set (i := 3) scTokensOf.nd rfl (Or.inl rfl) (pe_c GS hr2 pass0 (pa_cons (pv 1) (pa_cons pe_int pa_nil))))
      (pss_cons (ps_while own_cx (pt_cmpR op_lt (pv 3) (pe_callB call_len_str (by rfl) T.len PySem.boot_len (pa_cons (pv 1) pa_nil)) (nomark _))
        (pss_cons (ps_set (i := 4) scTokensOf.nd rfl (Or.inl rfl) (pe_c GE hr2 pass_cx (pa_cons (pv 1) (pa_cons (pv 3) pa_nil))))
        (pss_cons (ps_expr (pe_bm PySem.F.plainAttrs_list PySem.F.slot_list_append PySem.F.type_list_append mt_append (pv 2) (pa_cons (pe_c GT hr pass_cx (pa_cons (pe_slice sl_str (pv 1) (po_some (pv 3)) (po_some (pv 4))) pa_nil)) pa_nil)))
        (pss_one (ps_set (i := 3) scTokensOf.nd rfl (Or.inl rfl) (pe_c GS hr2 pass0 (pa_cons (pv 1) (pa_cons (pv 4) pa_nil))))))))
      (pss_one (ps_ret (pv 2)))))), ?_⟩
    refine ⟨_, rfl, a, ns, rfl, hS, hl, fun H' hk => ?_⟩
    · generalize ht : ns.map lc = t at k ⊢
      have htl : t.length ≤ 65536 := by rw [← ht, List.length_map]; exact hl
      have h8 : ∀ c ∈ t, c < 128 := fun c hc => by
        rw [← ht] at hc
        obtain ⟨n, _, rfl⟩ := List.mem_map.mp hc
        exact lc_lt n
      refine ⟨by decide, fun q hq => ?_⟩
      have hkq : ∀ b o, H b = some o → (upd H' q (.lst [])) b = some o := fun b o e => by rw [upd_ne (ne_of_none (hk b o e) hq)]; exact hk b o e
      have hHq : H q = none := by
        cases e : H q with
        | none => rfl
        | some o => rw [hk q o e] at hq; cases hq
      refine ⟨_, rfl, t, 0, rfl, htl, Nat.zero_le _, ?_⟩
      rw [List.drop_zero, Nat.zero_add]
      refine ⟨fun m σ' H1 => ∃ (p1 : Nat) (as : List Addr) (done : List Tk) (oe : Option V), σ' = [some (.ref a), some (sv t), some (.ref q), some (.int (p1 : Int)), oe] ∧ H1 q = some (.lst (as.map V.ref)) ∧ TksAt H1 as done ∧ as.length ≤ p1 ∧ (∀ b o, H b = some o → H1 b = some o) ∧
        p1 ≤ t.length ∧ skipN (t.drop p1) = 0 ∧ toks t = (toks (t.drop p1)).map (done ++ ·) ∧ m = t.length - p1, ⟨_, skipN t, [], [], none, rfl, upd_same, .nil, Nat.zero_le _, hkq, skipN_le t, skipN_idem t, ?_, rfl⟩, ?_⟩
      · rw [toks_drop h8]; simp
      rintro m σ' H1 ⟨p1, as, done, oe, rfl, hq1, hA, hal, hk1, hp1, hs1, hT, rfl⟩
      refine ⟨_, rfl, _, rfl, _, rfl, small htl, _, _, rfl, rfl, _, rfl, ?_⟩
      rw [sv_len]
      refine ite2 (fun hc => ?_) (fun hc => ?_)
      · have hlt : p1 < t.length := by have := of_decide_eq_true hc; omega
        have hd1 := drop_at hlt
        have h81 : ∀ c ∈ t.drop p1, c < 128 := fun c hc => h8 c (List.mem_of_mem_drop hc)
        have hst := toks_step h81 hs1 hd1
        refine ⟨_, fun σ'' H'' z => z, _, rfl, _, rfl, t, p1, rfl, htl, hlt, h8, ?_⟩
        cases en : tokEnd (t.drop p1) with
        | none =>
          rw [en] at hst
          rw [hT, hst] at k
          exact fun H' => k H'
        | some n =>
          rw [en] at hst
          dsimp only at hst
          have hpos := tokEnd_pos h81 en
          refine ⟨_, rfl, .inl ⟨rfl, _, SqL.of hq1⟩, _, rfl, _, rfl, _, rfl, _, rfl, _, rfl, _, rfl, small htl, ?_⟩
          rw [cut_nat t p1 (p1 + n) hp1, show p1 + n - p1 = n by omega]
          have hpc : (t.drop p1).take n = t[p1] :: (t.drop (p1 + 1)).take (n - 1) := by
            rw [hd1, show n = (n - 1) + 1 by omega, List.take_succ_cons]; rfl
          refine ⟨t[p1], (t.drop (p1 + 1)).take (n - 1), by rw [hpc]; rfl, ?_, h8 _ (List.getElem_mem hlt), fun h1 h2 => ?_, fun H0 hk0 => ?_⟩
          · rw [← hpc, List.length_take, List.length_drop]; omega
          · rw [← hpc]
            have en' := en
            rw [hd1] at en' ⊢
            exact num_piece h1 h2 en'
          · rw [← hpc]
            cases et : tokOf ((t.drop p1).take n) with
            | none =>
              rw [et] at hst
              rw [hT, hst] at k
              exact fun H' => k H'
            | some tk =>
              rw [et] at hst
              dsimp only at hst
              have hin := tok_in en et
              rw [List.length_drop] at hin
              intro p hp
              have hq0 := hk0 q _ hq1
              have hqp : q ≠ p := ne_of_none hq0 hp
              refine ⟨q, as.map V.ref, .ref p, rfl, rfl, by rw [upd_ne hqp]; exact hq0, by rw [List.length_map]; exact Nat.lt_of_le_of_lt (Nat.le_trans hal hp1) (Nat.lt_of_le_of_lt htl (by decide)), ?_⟩
              have k2 : ∀ b o, b ≠ q → H1 b = some o → (upd (upd H0 p (.tup tk.vs)) q (.lst (as.map V.ref ++ [.ref p]))) b = some o := fun b o hb e => by
                have e0 := hk0 b o e
                rw [upd_ne hb, upd_ne (ne_of_none e0 hp)]; exact e0
              refine ⟨_, rfl, _, rfl, t, p1 + n, rfl, htl, by omega, ?_⟩
              have hsk := skipN_le (t.drop (p1 + n))
              rw [List.length_drop] at hsk
              refine ⟨_, ?_, p1 + n + skipN (t.drop (p1 + n)), as ++ [p], done ++ [tk], _, rfl, by rw [upd_same, List.map_append]; rfl, ?_, ?_, ?_, by omega, ?_, ?_, rfl⟩
              · omega
              · refine Paired.snoc ?_ (Paired.mapP hA fun b tt e => k2 b _ (fun z => ?_) e)
                · rw [upd_ne (Ne.symm hqp), upd_same]
                · rw [z, hq1] at e; cases e
              · rw [List.length_append]; simp; omega
              · intro b o e
                by_cases hb : b = q
                · subst hb; rw [hHq] at e; cases e
                · exact k2 b o hb (hk1 b o e)
              · rw [← List.drop_drop]; exact skipN_idem _
              · rw [hT, hst, List.drop_drop, ← toks_drop (l := t.drop (p1 + n)) (fun c hc => h8 c (List.mem_of_mem_drop hc)), List.drop_drop]
                cases toks (t.drop (p1 + n + skipN (t.drop (p1 + n)))) with
                | none => rfl
                | some r => simp
      · have hlt : ¬ p1 < t.length := fun z => hc (decide_eq_true (by omega))
        rw [List.drop_of_length_le (by omega : t.length ≤ p1), toks_nil] at hT
        rw [hT] at k
        refine ⟨_, rfl, ?_⟩
        refine k q as H1 hq1 (by show TksAt H1 as (done ++ []); rw [List.append_nil]; exact hA) hk1 hHq
end
end Th
set_option Elab.async false
set_option linter.all false
set_option maxRecDepth 100000
set_option maxHeartbeats 4000000
namespace Sp
open Th
def lb (c : UInt8) : Nat := lc c.toNat
def L (b : List UInt8) : List Nat := b.map lb
def TC : List Nat := [10, 39, 40, 41, 44, 45, 46, 48, 49, 50, 51, 52, 53, 54, 55, 56, 57, 58, 61, 65, 66, 67, 68, 69, 70, 71, 72, 73, 74, 75, 76, 77, 78, 79, 80, 81, 82, 83, 84, 85, 86, 87, 88, 89, 90, 97, 98, 99, 100, 101, 102, 103, 104, 105, 106, 107, 108, 109, 110, 111, 112, 113, 114, 115, 116, 117, 118, 119, 120, 121, 122, 123, 125]
theorem lc_own : ∀ n, n < 256 → ∀ y ∈ TC, decide (n = y) = decide (lc n = y) := by decide +kernel
theorem lb_own {y : Nat} (hy : y ∈ TC) (c : UInt8) : c.toNat = y ↔ lb c = y := by
  have h := lc_own c.toNat c.toNat_lt y hy
  unfold lb
  constructor
  · intro e; exact of_decide_eq_true (by rw [← h]; exact decide_eq_true e)
  · intro e; exact of_decide_eq_true (by rw [h]; exact decide_eq_true e)
theorem lb_eq (y : UInt8) (hy : y.toNat ∈ TC) (c : UInt8) : c = y ↔ lb c = y.toNat := by
  rw [← lb_own hy c]
  exact ⟨fun e => by rw [e], fun e => UInt8.toNat_inj.mp e⟩
theorem n_blank : ∀ n, n < 256 → Ql51.blank (UInt8.ofNat n) = isB (lc n) := by decide +kernel
theorem b_blank (c : UInt8) : Ql51.blank c = isB (lb c) := by
  have := n_blank c.toNat c.toNat_lt
  simp at this
  exact this
theorem n_alpha : ∀ n, n < 256 → (Ql51.big (UInt8.ofNat n) || Ql51.small (UInt8.ofNat n)) = alphaC (lc n) := by decide +kernel
theorem b_alpha (c : UInt8) : (Ql51.big c || Ql51.small c) = alphaC (lb c) := by
  have := n_alpha c.toNat c.toNat_lt
  simp only [UInt8.ofNat_toNat] at this
  exact this
theorem n_word : ∀ n, n < 256 → Ql51.wordChar (UInt8.ofNat n) = decide (lc n ∈ WLET) := by decide +kernel
theorem b_word (c : UInt8) : Ql51.wordChar c = decide (lb c ∈ WLET) := by
  have := n_word c.toNat c.toNat_lt
  simp only [UInt8.ofNat_toNat] at this
  exact this
theorem n_digit : ∀ n, n < 256 → Ql51.digit (UInt8.ofNat n) = decide (lc n ∈ DIG) := by decide +kernel
theorem b_digit (c : UInt8) : Ql51.digit c = decide (lb c ∈ DIG) := by
  have := n_digit c.toNat c.toNat_lt
  simp only [UInt8.ofNat_toNat] at this
  exact this
theorem n_hex : ∀ n, n < 256 → (Ql51.hexOf (UInt8.ofNat n)).isSome = decide (lc n ∈ OCTD) := by decide +kernel
theorem b_hex (c : UInt8) : (Ql51.hexOf c).isSome = decide (lb c ∈ OCTD) := by
  have := n_hex c.toNat c.toNat_lt
  simp only [UInt8.ofNat_toNat] at this
  exact this
theorem n_bit : ∀ n, n < 256 → ((UInt8.ofNat n) == 48 || (UInt8.ofNat n) == 49) = decide (lc n ∈ BITD) := by decide +kernel
theorem b_bit (c : UInt8) : (c == 48 || c == 49) = decide (lb c ∈ BITD) := by
  have := n_bit c.toNat c.toNat_lt
  simp only [UInt8.ofNat_toNat] at this
  exact this
theorem wlet_tc : ∀ x ∈ WLET, x ∈ TC := by decide
theorem dig_wlet : ∀ x ∈ DIG, x ∈ WLET := by decide
theorem octd_wlet : ∀ x ∈ OCTD, x ∈ WLET := by decide
theorem bitd_wlet : ∀ x ∈ BITD, x ∈ WLET := by decide
theorem own_of {c : UInt8} (h : lb c ∈ TC) : lb c = c.toNat := ((lb_own h c).mpr rfl).symm
theorem L_own : ∀ {b : List UInt8}, (∀ c ∈ b, lb c ∈ TC) → L b = b.map UInt8.toNat
  | [], _ => rfl
  | c :: r, h => by
    show lb c :: L r = c.toNat :: r.map UInt8.toNat
    rw [own_of (h c List.mem_cons_self), L_own fun x hx => h x (List.mem_cons_of_mem _ hx)]
theorem L_length (b : List UInt8) : (L b).length = b.length := List.length_map _
theorem L_drop (b : List UInt8) (n : Nat) : L (b.drop n) = (L b).drop n := by unfold L; rw [List.map_drop]
theorem takeW_map {p : UInt8 → Bool} {q : Nat → Bool} (h : ∀ c, p c = q (lb c)) (b : List UInt8) : L (b.takeWhile p) = (L b).takeWhile q := by
  unfold L
  rw [List.takeWhile_map]
  congr 1
  have : p = q ∘ lb := funext h
  rw [this]
theorem dropW_map {p : UInt8 → Bool} {q : Nat → Bool} (h : ∀ c, p c = q (lb c)) (b : List UInt8) : L (b.dropWhile p) = (L b).dropWhile q := by
  unfold L
  rw [List.dropWhile_map]
  congr 1
  have : p = q ∘ lb := funext h
  rw [this]
theorem ne_map {y : UInt8} (hy : y.toNat ∈ TC) (c : UInt8) : (c != y) = (lb c != y.toNat) := by
  by_cases e : c = y
  · rw [e, own_of (by rw [(lb_eq y hy y).mp rfl]; exact hy)]; simp
  · have e2 : ¬ lb c = y.toNat := fun z => e ((lb_eq y hy c).mpr z)
    rw [bne_iff_ne.mpr e, bne_iff_ne.mpr e2]
theorem L_lt (b : List UInt8) : ∀ c ∈ L b, c < 128 := fun c hc => by
  obtain ⟨x, _, rfl⟩ := List.mem_map.mp hc
  exact lc_lt _
theorem pre_map : ∀ {s b : List UInt8}, (∀ y ∈ s, y.toNat ∈ TC) → s.isPrefixOf b = TL.pre (s.map UInt8.toNat) (L b)
  | [], b, _ => by simp [TL.pre]
  | y :: s, [], _ => by
    show false = _
    rw [show L [] = [] from rfl, TL.pre_nil (by simp)]
  | y :: s, c :: b, h => by
    have ih := pre_map (s := s) (b := b) fun z hz => h z (List.mem_cons_of_mem _ hz)
    have hy := h y List.mem_cons_self
    show (y == c && s.isPrefixOf b) = (((lb c :: L b).take (s.map UInt8.toNat).length.succ) == y.toNat :: s.map UInt8.toNat)
    rw [List.take_succ_cons, ih]
    unfold TL.pre
    by_cases e : c = y
    · subst e
      rw [own_of (by rw [(lb_eq c hy c).mp rfl]; exact hy)]
      simp
    · have e2 : ¬ lb c = y.toNat := fun z => e ((lb_eq y hy c).mpr z)
      have e3 : (y == c) = false := by simpa using fun z => e z.symm
      rw [e3, Bool.false_and]
      simp [e2]
end Sp
set_option Elab.async false
set_option linter.all false
set_option maxRecDepth 100000
set_option maxHeartbeats 4000000
namespace Sp
open Th
def un (l : List Nat) : List UInt8 := l.map UInt8.ofNat
theorem un_map (b : List UInt8) : un (b.map UInt8.toNat) = b := by
  unfold un
  rw [List.map_map]
  have : (UInt8.ofNat ∘ UInt8.toNat) = id := by funext c; simp
  rw [this, List.map_id]
def tkOf : Tk → Ql51.Tok
  | .word l => .word (un l)
  | .num z => .num z
  | .bits l => .bits ((un l).map fun c => c == 49)
  | .octs l => .hex ((((un l).mapM Ql51.hexOf).bind Ql51.pairs).getD [])
  | .sign l => .sign (un l)
theorem toks_blank {x : Nat} {l : List Nat} (h8 : ∀ c ∈ x :: l, c < 128) (hx : isB x = true) : toks (x :: l) = toks l := by
  rw [← toks_drop h8, skipN_cons, if_pos hx, Nat.add_comm, List.drop_succ_cons, toks_drop fun c hc => h8 c (List.mem_cons_of_mem _ hc)]
theorem dropW_nil {p : Nat → Bool} : ∀ {l : List Nat}, (∀ x ∈ l, p x = true) → l.dropWhile p = []
  | [], _ => rfl
  | c :: r, h => by rw [List.dropWhile_cons_of_pos (h c List.mem_cons_self), dropW_nil fun x hx => h x (List.mem_cons_of_mem _ hx)]
theorem drop_remN (l : List Nat) (h8 : ∀ c ∈ l, c < 128) : toks (l.drop (remN l)) = toks (l.dropWhile (· != 10)) := by
  unfold remN
  have h5 : l.takeWhile (· != 10) ++ l.dropWhile (· != 10) = l := List.takeWhile_append_dropWhile
  have h6 : l.drop (l.takeWhile (· != 10)).length = l.dropWhile (· != 10) := by
    conv => lhs; arg 2; rw [← h5]
    rw [List.drop_left]
  split
  · rename_i hm
    rw [← List.drop_drop, h6]
    cases e : l.dropWhile (· != 10) with
    | nil =>
      rw [e, List.append_nil] at h5
      have h4 := List.all_eq_true.mp (List.all_takeWhile (p := (· != 10)) (l := l)) 10 (by rw [h5]; exact hm)
      simp at h4
    | cons x r =>
      have h8' := List.head_dropWhile_not (p := (· != 10)) (l := l) (by rw [e]; simp)
      simp [e] at h8'
      subst h8'
      rw [List.drop_succ_cons, List.drop_zero, toks_blank (fun c hc => h8 c ?_) (by decide)]
      have : (10 :: r) = l.drop (l.takeWhile (· != 10)).length := by rw [h6, e]
      rw [this] at hc
      exact List.mem_of_mem_drop hc
  · rename_i hm
    rw [List.drop_length]
    have : l.dropWhile (· != 10) = [] := by
      exact dropW_nil fun x hx => by simp; intro z; subst z; exact hm hx
    rw [this]
theorem toks_remark {l : List Nat} {x : Nat} (h8 : ∀ c ∈ x :: l, c < 128) (hx : isB x = false) (h : TL.pre [45, 45] (x :: l) = true) : toks (x :: l) = toks (l.dropWhile (· != 10)) := by
  have e : x = 45 := by
    cases l with
    | nil => simp [TL.pre] at h
    | cons y r => simp [TL.pre] at h; exact h.1
  subst e
  rw [← toks_drop h8, skipN_cons, if_neg (by rw [hx]; simp), if_pos h, ← List.drop_drop,
    toks_drop (fun c hc => h8 c (List.mem_of_mem_drop hc)), drop_remN _ h8, List.dropWhile_cons_of_pos (by decide)]
theorem num_val : ∀ (b : List UInt8) (a : Nat), b.foldl (fun n c => 10 * n + (c.toNat - 48)) a = (b.map UInt8.toNat).foldl (fun acc c => acc * 10 + (c - 48)) a
  | [], _ => rfl
  | c :: r, a => by
    rw [List.foldl_cons, List.map_cons, List.foldl_cons, num_val r, Nat.mul_comm]
theorem number_eq (b : List UInt8) : Ql51.number b = PySem.NumText.digitsVal (b.map UInt8.toNat) := num_val b 0
theorem mapM_some {f : UInt8 → Option Nat} : ∀ {b : List UInt8}, (∀ c ∈ b, (f c).isSome = true) → ∃ l, b.mapM f = some l ∧ l.length = b.length
  | [], _ => ⟨[], rfl, rfl⟩
  | c :: r, h => by
    obtain ⟨l, hl, hn⟩ := mapM_some (b := r) fun x hx => h x (List.mem_cons_of_mem _ hx)
    obtain ⟨y, hy⟩ := Option.isSome_iff_exists.mp (h c List.mem_cons_self)
    exact ⟨y :: l, by rw [List.mapM_cons, hy, hl]; rfl, by simp [hn]⟩
theorem mapM_none {f : UInt8 → Option Nat} : ∀ {b : List UInt8}, (∃ c ∈ b, f c = none) → b.mapM f = none
  | [], h => by obtain ⟨c, hc, _⟩ := h; simp at hc
  | c :: r, h => by
    rw [List.mapM_cons]
    cases e : f c with
    | none => rfl
    | some y =>
      obtain ⟨x, hx, ex⟩ := h
      rcases List.mem_cons.mp hx with z | z
      · rw [z, e] at ex; cases ex
      · rw [mapM_none ⟨x, z, ex⟩]; rfl
theorem pairs_some : ∀ (n : Nat) (l : List Nat), l.length = n → (Ql51.pairs l).isSome = decide (n % 2 = 0) := by
  intro n
  induction n using Nat.strongRecOn with
  | ind n ih =>
    intro l hl
    match l with
    | [] => subst hl; rfl
    | [a] => subst hl; rfl
    | a :: b :: r =>
      rw [Ql51.pairs, Option.isSome_map, ih r.length (by rw [← hl]; simp; omega) r rfl]
      have : n = r.length + 2 := by rw [← hl]; rfl
      rw [this]
      by_cases h : r.length % 2 = 0
      · rw [decide_eq_true h, decide_eq_true (by omega)]
      · rw [decide_eq_false h, decide_eq_false (by omega)]
end Sp
set_option Elab.async false
set_option linter.all false
set_option maxRecDepth 100000
set_option maxHeartbeats 4000000
namespace Sp
open Th
def strCase (k : Nat) (s : List UInt8) (rest : List UInt8) : Option (List Ql51.Tok) := match rest with
  | 39 :: 66 :: q => if (s.all fun c => c == 48 || c == 49) = true then (Ql51.tokens k q).map fun l => .bits (s.map fun c => c == 49) :: l else none
  | 39 :: 72 :: q => (match (s.mapM Ql51.hexOf).bind Ql51.pairs with
    | some h => (Ql51.tokens k q).map fun l => .hex h :: l
    | none => none)
  | _ => none
theorem strCase_66 (k : Nat) (s q : List UInt8) : strCase k s (39 :: 66 :: q) = if (s.all fun c => c == 48 || c == 49) = true then (Ql51.tokens k q).map fun l => .bits (s.map fun c => c == 49) :: l else none := rfl
theorem strCase_72 (k : Nat) (s q : List UInt8) : strCase k s (39 :: 72 :: q) = match (s.mapM Ql51.hexOf).bind Ql51.pairs with
    | some h => (Ql51.tokens k q).map fun l => .hex h :: l
    | none => none := rfl
theorem strCase_no (k : Nat) (s q : List UInt8) {y : UInt8} (h1 : ¬ y = 66) (h2 : ¬ y = 72) : strCase k s (39 :: y :: q) = none := by
  unfold strCase
  split
  · rename_i z; injection z with z1 z; injection z with z2 z; exact absurd z2 h1
  · rename_i z; injection z with z1 z; injection z with z2 z; exact absurd z2 h2
  · rfl
theorem strCase_one (k : Nat) (s : List UInt8) : strCase k s [39] = none := rfl
theorem strCase_nil (k : Nat) (s : List UInt8) : strCase k s [] = none := rfl
theorem tokens_nil (k : Nat) : Ql51.tokens (k + 1) [] = some [] := by rw [Ql51.tokens]
theorem tokens_cons (k : Nat) (c : UInt8) (r : List UInt8) : Ql51.tokens (k + 1) (c :: r) =
      if Ql51.blank c = true then Ql51.tokens k r
      else if (Ql51.txt "--").isPrefixOf (c :: r) = true then Ql51.tokens k (r.dropWhile fun c => c != 10)
      else if Ql51.big c = true ∨ Ql51.small c = true then
        (if ((c :: r).takeWhile Ql51.wordChar).getLast? = some 45 ∨ 64 < ((c :: r).takeWhile Ql51.wordChar).length then none else (Ql51.tokens k ((c :: r).drop ((c :: r).takeWhile Ql51.wordChar).length)).map fun l => .word ((c :: r).takeWhile Ql51.wordChar) :: l)
      else if Ql51.digit c = true ∨ c = 45 then
        (if (if c = 45 then r else (c :: r)).takeWhile Ql51.digit = [] ∨ 20 < ((if c = 45 then r else (c :: r)).takeWhile Ql51.digit).length ∨ (1 < ((if c = 45 then r else (c :: r)).takeWhile Ql51.digit).length ∧ ((if c = 45 then r else (c :: r)).takeWhile Ql51.digit).head? = some 48) ∨ (c = 45 ∧ (if c = 45 then r else (c :: r)).takeWhile Ql51.digit = [48]) then none
          else (Ql51.tokens k ((c :: r).drop (((if c = 45 then r else (c :: r)).takeWhile Ql51.digit).length + (if c = 45 then 1 else 0)))).map fun l => .num (if c = 45 then -((Ql51.number ((if c = 45 then r else (c :: r)).takeWhile Ql51.digit) : Nat) : Int) else ((Ql51.number ((if c = 45 then r else (c :: r)).takeWhile Ql51.digit) : Nat) : Int)) :: l)
      else if c = 39 then
        strCase k (r.takeWhile fun c => c != 39) (r.drop (r.takeWhile fun c => c != 39).length)
      else match Ql51.signs.find? fun s => s.isPrefixOf (c :: r) with
        | some s => (Ql51.tokens k ((c :: r).drop s.length)).map fun l => .sign s :: l
        | none => none := by
  rw [Ql51.tokens]
  rfl
theorem drop_takeW (p : UInt8 → Bool) (l : List UInt8) : l.drop (l.takeWhile p).length = l.dropWhile p := by
  have h5 : l.takeWhile p ++ l.dropWhile p = l := List.takeWhile_append_dropWhile
  conv => lhs; arg 2; rw [← h5]
  rw [List.drop_left]
theorem skip0 {x : Nat} {l : List Nat} (hb : isB x = false) (h : TL.pre [45, 45] (x :: l) = false) : skipN (x :: l) = 0 := by
  rw [skipN_cons, if_neg (by rw [hb]; simp), if_neg (by rw [h]; simp)]
theorem mem_takeW {p : UInt8 → Bool} {l : List UInt8} : ∀ c ∈ l.takeWhile p, p c = true := fun c hc => List.all_eq_true.mp (List.all_takeWhile (p := p) (l := l)) c hc
theorem map_map_tk (o : Option (List Tk)) (t : Tk) : (o.map (t :: ·)).map (List.map tkOf) = (o.map (List.map tkOf)).map (tkOf t :: ·) := by cases o <;> rfl
theorem last_iff {w : List UInt8} (hw : w ≠ []) (ho : L w = w.map UInt8.toNat) : (L w).drop ((L w).length - 1) = [45] ↔ w.getLast? = some 45 := by
  rcases List.eq_nil_or_concat w with h | ⟨xs, x, h⟩
  · exact absurd h hw
  subst h
  rw [ho]
  have e1 : (List.map UInt8.toNat (xs.concat x)).drop ((List.map UInt8.toNat (xs.concat x)).length - 1) = [x.toNat] := by
    simp
  have e2 : (xs.concat x).getLast? = some x := by simp
  rw [e1, e2]
  constructor
  · intro h
    have : x.toNat = 45 := by simpa using h
    rw [show x = 45 from UInt8.toNat_inj.mp this]
  · intro h
    have : x = 45 := by simpa using h
    rw [this]; rfl
theorem step_to {k : Nat} {b : List UInt8} {n : Nat} (ih : ∀ b' : List UInt8, b'.length < k → Ql51.tokens k b' = (toks (L b')).map (List.map tkOf)) (hk : b.length < k + 1) (hs : skipN (L b) = 0) {c : UInt8} {r : List UInt8} (e : b = c :: r)
    (hE : tokEnd (L b) = some n) {t : Tk} (hT : tokOf ((L b).take n) = some t) : (toks (L b)).map (List.map tkOf) = (Ql51.tokens k (b.drop n)).map (tkOf t :: ·) := by
  have hpos := tokEnd_pos (L_lt b) hE
  have hlt : (b.drop n).length < k := by rw [List.length_drop]; have : 0 < b.length := by { rw [e]; simp }; omega
  have := toks_step (L_lt b) hs (c := lb c) (r := L r) (by rw [e]; rfl)
  rw [hE] at this
  dsimp only at this
  rw [hT] at this
  dsimp only at this
  rw [this, map_map_tk, ih (b.drop n) hlt, L_drop]
theorem step_no {b : List UInt8} {c : UInt8} {r : List UInt8} (hs : skipN (L b) = 0) (e : b = c :: r) (h : tokEnd (L b) = none ∨ ∃ n, tokEnd (L b) = some n ∧ tokOf ((L b).take n) = none) : (toks (L b)).map (List.map tkOf) = none := by
  have := toks_step (L_lt b) hs (c := lb c) (r := L r) (by rw [e]; rfl)
  rcases h with h | ⟨n, h, h2⟩
  · rw [h] at this
    rw [this]; rfl
  · rw [h] at this
    dsimp only at this
    rw [h2] at this
    rw [this]; rfl
theorem find_congr {α : Type} {p q : α → Bool} : ∀ {l : List α}, (∀ x ∈ l, p x = q x) → l.find? p = l.find? q
  | [], _ => rfl
  | a :: r, h => by rw [List.find?_cons, List.find?_cons, h a List.mem_cons_self, find_congr fun x hx => h x (List.mem_cons_of_mem _ hx)]
theorem dashes : Ql51.txt "--" = [45, 45] := by decide +kernel
theorem tokens_eq : ∀ (k : Nat) (b : List UInt8), b.length < k → Ql51.tokens k b = (toks (L b)).map (List.map tkOf) := by
  intro k
  induction k with
  | zero => intro b h; omega
  | succ k ih =>
    intro b hk
    match b with
    | [] => rw [tokens_nil, show L [] = [] from rfl, toks_nil]; rfl
    | c :: r =>
      have hk' : r.length < k := by simp at hk; omega
      have hL : L (c :: r) = lb c :: L r := rfl
      rw [tokens_cons, b_blank]
      by_cases hb : isB (lb c) = true
      · rw [if_pos hb, ih r hk', hL, toks_blank (by rw [← hL]; exact L_lt _) hb]
      rw [if_neg hb, dashes, pre_map (by decide)]
      have hb' : isB (lb c) = false := by simpa using hb
      show (if TL.pre [45, 45] (L (c :: r)) = true then _ else _) = _
      by_cases hd : TL.pre [45, 45] (L (c :: r)) = true
      · rw [if_pos hd, hL, toks_remark (x := lb c) (l := L r) (fun x hx => L_lt (c :: r) x hx) hb' hd, ih _ (Nat.lt_of_le_of_lt (List.dropWhile_sublist _).length_le hk'), dropW_map (p := fun c => c != 10) (q := fun x => x != 10) (ne_map (y := 10) (by decide))]
      rw [if_neg hd]
      have hd' : TL.pre [45, 45] (lb c :: L r) = false := by rw [← hL]; simpa using hd
      have hs : skipN (L (c :: r)) = 0 := skip0 hb' hd'
      have ha : (Ql51.big c = true ∨ Ql51.small c = true) ↔ alphaC (lb c) = true := by rw [← b_alpha, Bool.or_eq_true]
      by_cases hal : alphaC (lb c) = true
      · rw [if_pos (ha.mpr hal)]
        have hwc : Ql51.wordChar c = true := by rw [b_word]; exact alpha_wlet _ (lc_lt _) hal
        have hwe : (c :: r).takeWhile Ql51.wordChar = c :: r.takeWhile Ql51.wordChar := List.takeWhile_cons_of_pos hwc
        have hLw : L ((c :: r).takeWhile Ql51.wordChar) = (L (c :: r)).takeWhile fun c => decide (c ∈ WLET) := takeW_map b_word _
        have hE : tokEnd (L (c :: r)) = some ((c :: r).takeWhile Ql51.wordChar).length := by
          rw [hL, tokEnd, if_pos hal, ← hL, ← hLw, L_length]
        have hP : (L (c :: r)).take ((c :: r).takeWhile Ql51.wordChar).length = L ((c :: r).takeWhile Ql51.wordChar) := by
          rw [hLw, ← take_takeW, ← hLw, L_length]
        have ho : L ((c :: r).takeWhile Ql51.wordChar) = ((c :: r).takeWhile Ql51.wordChar).map UInt8.toNat := L_own fun x hx => wlet_tc _ (of_decide_eq_true (by rw [← b_word]; exact mem_takeW x hx))
        have hT : tokOf (L ((c :: r).takeWhile Ql51.wordChar)) = wordTk (L ((c :: r).takeWhile Ql51.wordChar)) := by
          rw [hwe]
          show tokOf (lb c :: L _) = _
          rw [tokOf, if_pos hal]; rfl
        have hne : (c :: r).takeWhile Ql51.wordChar ≠ [] := by rw [hwe]; simp
        by_cases hc : ((c :: r).takeWhile Ql51.wordChar).getLast? = some 45 ∨ 64 < ((c :: r).takeWhile Ql51.wordChar).length
        · rw [if_pos hc, step_no hs rfl (.inr ⟨_, hE, by rw [hP, hT, wordTk, if_pos (by rw [last_iff hne ho, L_length]; exact hc.symm)]⟩)]
        · rw [if_neg hc, step_to ih hk hs rfl hE (t := .word (L ((c :: r).takeWhile Ql51.wordChar))) (by rw [hP, hT, wordTk, if_neg (by rw [last_iff hne ho, L_length]; exact fun z => hc z.symm)])]
          show _ = (Ql51.tokens k _).map (Ql51.Tok.word (un _) :: ·)
          rw [ho, un_map]
      rw [if_neg (fun z => hal (ha.mp z))]
      have hal' : alphaC (lb c) = false := by simpa using hal
      have h45 : c = 45 ↔ lb c = 45 := lb_eq 45 (by decide) c
      have hn : (Ql51.digit c = true ∨ c = 45) ↔ numC (lb c) = true := by
        unfold numC
        rw [b_digit, h45, Bool.or_eq_true, decide_eq_true_iff, decide_eq_true_iff, or_comm]
      by_cases hnum : numC (lb c) = true
      · rw [if_pos (hn.mpr hnum)]
        have hLd : L (r.takeWhile Ql51.digit) = (L r).takeWhile fun c => decide (c ∈ DIG) := takeW_map b_digit _
        have hE : tokEnd (L (c :: r)) = some (1 + (r.takeWhile Ql51.digit).length) := by
          rw [hL, tokEnd, if_neg hal, if_pos hnum, ← hLd, L_length]
        have hP : (L (c :: r)).take (1 + (r.takeWhile Ql51.digit).length) = lb c :: L (r.takeWhile Ql51.digit) := by
          rw [hL, Nat.add_comm, List.take_succ_cons]
          congr 1
          rw [hLd, ← take_takeW, ← hLd, L_length]
        have hT : tokOf (lb c :: L (r.takeWhile Ql51.digit)) = numTk (lb c :: L (r.takeWhile Ql51.digit)) := by rw [tokOf, if_neg hal, if_pos hnum]
        have hod : ∀ x ∈ r.takeWhile Ql51.digit, lb x ∈ TC := fun x hx => wlet_tc _ (dig_wlet _ (of_decide_eq_true (by rw [← b_digit]; exact mem_takeW x hx)))
        by_cases hc : c = 45
        · have hlc : lb c = 45 := h45.mp hc
          simp only [if_pos hc]
          have hpre : TL.pre [45] (lb c :: L (r.takeWhile Ql51.digit)) = true := by rw [hlc]; exact TL.pre_self [45] _
          have hD : numD (lb c :: L (r.takeWhile Ql51.digit)) = L (r.takeWhile Ql51.digit) := by unfold numD; rw [if_pos hpre]; rfl
          have hho : TL.pre [48] (L (r.takeWhile Ql51.digit)) = true ↔ (r.takeWhile Ql51.digit).head? = some 48 := by
            cases hh : r.takeWhile Ql51.digit with
            | nil => simp [L, TL.pre]
            | cons y q =>
              show TL.pre [48] (lb y :: L q) = true ↔ _
              simp only [TL.pre, List.length_cons, List.length_nil, List.take_succ_cons, List.take_zero, List.head?_cons, Option.some.injEq, lb_eq 48 (by decide) y]
              constructor
              · intro z; have := eq_of_beq z; simpa using this
              · intro z; rw [z]; rfl
          have hiff : (r.takeWhile Ql51.digit = [] ∨ 20 < (r.takeWhile Ql51.digit).length ∨ (1 < (r.takeWhile Ql51.digit).length ∧ (r.takeWhile Ql51.digit).head? = some 48) ∨ (c = 45 ∧ r.takeWhile Ql51.digit = [48])) ↔
              (((r.takeWhile Ql51.digit).length < 1 ∨ 20 < (r.takeWhile Ql51.digit).length) ∨ (r.takeWhile Ql51.digit).head? = some 48) := by
            cases hh : r.takeWhile Ql51.digit with
            | nil => simp
            | cons y q =>
              cases q with
              | nil => simp [hc]
              | cons z q => simp
          by_cases hcond : r.takeWhile Ql51.digit = [] ∨ 20 < (r.takeWhile Ql51.digit).length ∨ (1 < (r.takeWhile Ql51.digit).length ∧ (r.takeWhile Ql51.digit).head? = some 48) ∨ (c = 45 ∧ r.takeWhile Ql51.digit = [48])
          · rw [if_pos hcond, step_no hs rfl (.inr ⟨_, hE, ?_⟩)]
            rw [hP, hT, numTk, hD, L_length]
            rcases hiff.mp hcond with h1 | h1
            · rw [if_pos h1]
            · by_cases h2 : (r.takeWhile Ql51.digit).length < 1 ∨ 20 < (r.takeWhile Ql51.digit).length
              · rw [if_pos h2]
              · rw [if_neg h2, if_pos ⟨hho.mpr h1, fun z => by rw [hlc] at z; cases z⟩]
          · have hno := fun z => hcond (hiff.mpr z)
            rw [if_neg hcond, step_to ih hk hs rfl hE (t := .num (-((Ql51.number (r.takeWhile Ql51.digit) : Nat) : Int))) ?_]
            · rw [Nat.add_comm]; rfl
            · rw [hP, hT, numTk, hD, L_length, if_neg (fun z => hno (.inl z)), if_neg (fun z => hno (.inr (hho.mp z.1))), if_pos hpre, number_eq, L_own hod]
        · have hlc : ¬ lb c = 45 := fun z => hc (h45.mpr z)
          simp only [if_neg hc]
          have hdc : Ql51.digit c = true := (hn.mpr hnum).resolve_right hc
          have hde : (c :: r).takeWhile Ql51.digit = c :: r.takeWhile Ql51.digit := List.takeWhile_cons_of_pos hdc
          rw [hde]
          have hpre : TL.pre [45] (lb c :: L (r.takeWhile Ql51.digit)) = false := TL.pre_of_head [] _ hlc
          have hD : numD (lb c :: L (r.takeWhile Ql51.digit)) = L (c :: r.takeWhile Ql51.digit) := by unfold numD; rw [hpre]; rfl
          have hho : TL.pre [48] (L (c :: r.takeWhile Ql51.digit)) = true ↔ c = 48 := by
            show TL.pre [48] (lb c :: L _) = true ↔ _
            rw [lb_eq 48 (by decide) c]
            simp only [TL.pre, List.length_cons, List.length_nil, List.take_succ_cons, List.take_zero]
            constructor
            · intro z; have := eq_of_beq z; simpa using this
            · intro z; rw [z]; rfl
          have hpz : (lb c :: L (r.takeWhile Ql51.digit) ≠ [48]) ↔ ¬ (c = 48 ∧ r.takeWhile Ql51.digit = []) := by
            rw [lb_eq 48 (by decide) c]
            constructor
            · intro z ⟨z1, z2⟩; apply z; rw [z1, z2]; rfl
            · intro z z1
              injection z1 with z1 z2
              exact z ⟨z1, List.map_eq_nil_iff.mp z2⟩
          have hod2 : ∀ x ∈ c :: r.takeWhile Ql51.digit, lb x ∈ TC := fun x hx => by
            rcases List.mem_cons.mp hx with z | z
            · rw [z]; exact wlet_tc _ (dig_wlet _ (of_decide_eq_true (by rw [← b_digit]; exact hdc)))
            · exact hod x z
          have hiff : (c :: r.takeWhile Ql51.digit = [] ∨ 20 < (c :: r.takeWhile Ql51.digit).length ∨ (1 < (c :: r.takeWhile Ql51.digit).length ∧ (c :: r.takeWhile Ql51.digit).head? = some 48) ∨ (c = 45 ∧ c :: r.takeWhile Ql51.digit = [48])) ↔
              (((c :: r.takeWhile Ql51.digit).length < 1 ∨ 20 < (c :: r.takeWhile Ql51.digit).length) ∨ (c = 48 ∧ ¬ (c = 48 ∧ r.takeWhile Ql51.digit = []))) := by
            cases hh : r.takeWhile Ql51.digit with
            | nil => simp [hc]
            | cons z q => simp [hc]
          by_cases hcond : c :: r.takeWhile Ql51.digit = [] ∨ 20 < (c :: r.takeWhile Ql51.digit).length ∨ (1 < (c :: r.takeWhile Ql51.digit).length ∧ (c :: r.takeWhile Ql51.digit).head? = some 48) ∨ (c = 45 ∧ c :: r.takeWhile Ql51.digit = [48])
          · rw [if_pos hcond, step_no hs rfl (.inr ⟨_, hE, ?_⟩)]
            rw [hP, hT, numTk, hD, L_length]
            rcases hiff.mp hcond with h1 | h1
            · rw [if_pos h1]
            · by_cases h2 : (c :: r.takeWhile Ql51.digit).length < 1 ∨ 20 < (c :: r.takeWhile Ql51.digit).length
              · rw [if_pos h2]
              · rw [if_neg h2, if_pos ⟨hho.mpr h1.1, hpz.mpr h1.2⟩]
          · have hno := fun z => hcond (hiff.mpr z)
            rw [if_neg hcond, step_to ih hk hs rfl hE (t := .num ((Ql51.number (c :: r.takeWhile Ql51.digit) : Nat) : Int)) ?_]
            · rw [show 1 + (r.takeWhile Ql51.digit).length = (c :: r.takeWhile Ql51.digit).length + 0 by simp; omega]; rfl
            · rw [hP, hT, numTk, hD, L_length, if_neg (fun z => hno (.inl z)), if_neg (fun z => hno (.inr ⟨hho.mp z.1, hpz.mp z.2⟩)), if_neg (by rw [hpre]; simp), number_eq, L_own hod2]
      rw [if_neg (fun z => hnum (hn.mp z))]
      have h39 : c = 39 ↔ lb c = 39 := lb_eq 39 (by decide) c
      by_cases hq : c = 39
      · rw [if_pos hq]
        have hlq : lb c = 39 := h39.mp hq
        have hne39 : ∀ x : UInt8, (x != 39) = (lb x != 39) := ne_map (y := 39) (by decide)
        have hLs : L (r.takeWhile fun c => c != 39) = (L r).takeWhile (· != 39) := takeW_map hne39 _
        have hdr : r.drop (r.takeWhile fun c => c != 39).length = r.dropWhile fun c => c != 39 := drop_takeW _ _
        have hsp : r.takeWhile (fun c => c != 39) ++ r.dropWhile (fun c => c != 39) = r := List.takeWhile_append_dropWhile
        rw [hdr]
        generalize hS : (r.takeWhile fun c => c != 39) = S at *
        cases hR : r.dropWhile (fun c => c != 39) with
        | nil =>
          rw [hR, List.append_nil] at hsp
          have hno : ¬ 39 ∈ L r := fun hm => by
            rw [← hsp, hLs] at hm
            have := List.all_eq_true.mp (List.all_takeWhile (p := (· != 39)) (l := L r)) 39 hm
            simp at this
          rw [step_no hs rfl (.inl (by rw [hL, tokEnd, if_neg hal, if_neg hnum, if_pos hlq, if_neg hno])), strCase_nil]
        | cons x q =>
          have hx : x = 39 := by
            have h8' := List.head_dropWhile_not (p := fun c : UInt8 => c != 39) (l := r) (by rw [hR]; simp)
            simpa [hR] using h8'
          subst hx
          rw [hR] at hsp
          have hLr : L r = L S ++ 39 :: L q := by rw [← hsp]; unfold L; rw [List.map_append, List.map_cons]; rfl
          have hm : 39 ∈ L r := by rw [hLr]; simp
          have hE : tokEnd (L (c :: r)) = some (S.length + 3) := by
            rw [hL, tokEnd, if_neg hal, if_neg hnum, if_pos hlq, if_pos hm, ← hLs, L_length]
          have hbe : c :: r = 39 :: (S ++ 39 :: q) := by rw [hq, hsp]
          cases q with
          | nil =>
            have hnone : tokOf ((L (c :: r)).take (S.length + 3)) = none := by
              cases et : tokOf ((L (c :: r)).take (S.length + 3)) with
              | none => rfl
              | some t =>
                have := tok_in hE et
                rw [hL, hLr] at this
                simp [L] at this
                omega
            rw [step_no hs rfl (.inr ⟨_, hE, hnone⟩), strCase_one]
          | cons y q =>
            have hLb : L (c :: r) = 39 :: (L S ++ (39 :: lb y :: L q)) := by rw [hL, hlq, hLr]; rfl
            have hP : (L (c :: r)).take (S.length + 3) = 39 :: (L S ++ [39, lb y]) := by
              rw [hLb, show S.length + 3 = (S.length + 2) + 1 by omega, List.take_succ_cons, List.take_append, L_length, List.take_of_length_le (by rw [L_length]; omega), show S.length + 2 - S.length = 2 by omega]
              rfl
            have hT : tokOf (39 :: (L S ++ [39, lb y])) = strTk (39 :: (L S ++ [39, lb y])) := by rw [tokOf, if_neg (by decide), if_neg (by decide), if_pos rfl]
            have hlen : (39 :: (L S ++ [39, lb y])).length = S.length + 3 := by simp [L_length]
            have hd2 : (39 :: (L S ++ [39, lb y])).drop ((39 :: (L S ++ [39, lb y])).length - 2) = [39, lb y] := by
              rw [hlen, show S.length + 3 - 2 = S.length + 1 by omega, List.drop_succ_cons, ← L_length S, List.drop_left]
            have hsd : strD (39 :: (L S ++ [39, lb y])) = L S := by
              unfold strD
              rw [hlen, show S.length + 3 - 3 = S.length by omega, List.drop_succ_cons, List.drop_zero, ← L_length S, List.take_left]
            have hbd : (c :: r).drop (S.length + 3) = q := by
              rw [hbe, show S.length + 3 = (S.length + 2) + 1 by omega, List.drop_succ_cons, List.drop_append, List.drop_of_length_le (by omega : S.length ≤ S.length + 2), show S.length + 2 - S.length = 2 by omega]
              rfl
            have h66 : y = 66 ↔ lb y = 66 := lb_eq 66 (by decide) y
            have h72 : y = 72 ↔ lb y = 72 := lb_eq 72 (by decide) y
            have hall : (S.all fun c => c == 48 || c == 49) = (L S).all fun c => decide (c ∈ BITD) := by
              unfold L; rw [List.all_map]; congr 1; funext x; exact b_bit x
            by_cases hy : y = 66
            · subst hy
              rw [strCase_66]
              by_cases hbits : (S.all fun c => c == 48 || c == 49) = true
              · rw [if_pos hbits, step_to ih hk hs rfl hE (t := .bits (L S)) (by rw [hP, hT, strTk, hd2, hsd, if_pos ⟨by rw [← h66.mp rfl], by rw [← hall]; exact hbits⟩]), hbd]
                show _ = (Ql51.tokens k q).map (Ql51.Tok.bits ((un (L S)).map _) :: ·)
                rw [L_own (fun x hx => wlet_tc _ (bitd_wlet _ (of_decide_eq_true (by rw [← b_bit]; exact List.all_eq_true.mp hbits x hx)))), un_map]
              · rw [if_neg hbits, step_no hs rfl (.inr ⟨_, hE, ?_⟩)]
                rw [hP, hT, strTk, hd2, hsd, if_neg (fun z => hbits (by rw [hall]; exact z.2)), if_neg (fun z => ?_)]
                have z1 := z.1
                rw [h66.mp rfl] at z1
                simp at z1
            · have hy' : ¬ lb y = 66 := fun z => hy (h66.mpr z)
              have no1 : ¬ ([39, lb y] = [39, 66] ∧ (L S).all (fun c => decide (c ∈ BITD)) = true) := fun z => hy' (by simpa using z.1)
              by_cases hy2 : y = 72
              · subst hy2
                rw [strCase_72]
                have hhex : (∀ x ∈ S, (Ql51.hexOf x).isSome = true) ↔ (L S).all (fun c => decide (c ∈ OCTD)) = true := by
                  unfold L
                  rw [List.all_map, List.all_eq_true]
                  constructor
                  · intro z x hx; show decide (lb x ∈ OCTD) = true; rw [← b_hex]; exact z x hx
                  · intro z x hx; rw [b_hex]; exact z x hx
                by_cases hh : ∀ x ∈ S, (Ql51.hexOf x).isSome = true
                · obtain ⟨l, hl, hll⟩ := mapM_some hh
                  rw [hl]
                  have hps := pairs_some l.length l rfl
                  rw [hll] at hps
                  show (match Ql51.pairs l with | some h => _ | none => _) = _
                  have ho : L S = S.map UInt8.toNat := L_own fun x hx => wlet_tc _ (octd_wlet _ (of_decide_eq_true (by rw [← b_hex]; exact hh x hx)))
                  cases hp : Ql51.pairs l with
                  | none =>
                    rw [hp] at hps
                    have hodd : ¬ S.length % 2 = 0 := fun z => by rw [decide_eq_true z] at hps; cases hps
                    rw [step_no hs rfl (.inr ⟨_, hE, ?_⟩)]
                    rw [hP, hT, strTk, hd2, hsd, if_neg no1, if_neg (fun z => hodd (by rw [← L_length S]; exact z.2.1))]
                  | some h =>
                    rw [hp] at hps
                    have hev : S.length % 2 = 0 := of_decide_eq_true hps.symm
                    dsimp only
                    rw [step_to ih hk hs rfl hE (t := .octs (L S)) (by rw [hP, hT, strTk, hd2, hsd, if_neg no1, if_pos ⟨by rw [← h72.mp rfl], by rw [L_length]; exact hev, hhex.mp hh⟩]), hbd]
                    show _ = (Ql51.tokens k q).map (Ql51.Tok.hex ((((un (L S)).mapM Ql51.hexOf).bind Ql51.pairs).getD []) :: ·)
                    rw [ho, un_map, hl]
                    show _ = (Ql51.tokens k q).map (Ql51.Tok.hex ((Ql51.pairs l).getD []) :: ·)
                    rw [hp]
                    rfl
                · have hex : ∃ x ∈ S, Ql51.hexOf x = none := by
                    apply Classical.byContradiction
                    intro z
                    apply hh
                    intro x hx
                    cases e : Ql51.hexOf x with
                    | none => exact absurd ⟨x, hx, e⟩ z
                    | some v => rfl
                  rw [mapM_none hex]
                  show none = _
                  rw [step_no hs rfl (.inr ⟨_, hE, ?_⟩)]
                  rw [hP, hT, strTk, hd2, hsd, if_neg no1, if_neg (fun z => hh (hhex.mpr z.2.2))]
              · have hy2' : ¬ lb y = 72 := fun z => hy2 (h72.mpr z)
                rw [strCase_no k S q hy hy2, step_no hs rfl (.inr ⟨_, hE, ?_⟩)]
                rw [hP, hT, strTk, hd2, hsd, if_neg no1, if_neg (fun z => hy2' (by simpa using z.1))]
      rw [if_neg hq]
      have hlq : ¬ lb c = 39 := fun z => hq (h39.mpr z)
      have hsg : SGN.find? (fun s => TL.pre s (L (c :: r))) = (Ql51.signs.find? fun s => s.isPrefixOf (c :: r)).map (List.map UInt8.toNat) := by
        rw [show SGN = Ql51.signs.map (List.map UInt8.toNat) by decide +kernel, List.find?_map]
        congr 1
        apply find_congr
        intro s hs
        show TL.pre (s.map UInt8.toNat) _ = _
        rw [pre_map]
        have : ∀ s ∈ Ql51.signs, ∀ y ∈ s, y.toNat ∈ TC := by decide +kernel
        exact this s hs
      have hE0 : tokEnd (L (c :: r)) = signLen (L (c :: r)) := by rw [hL, tokEnd, if_neg hal, if_neg hnum, if_neg hlq]
      cases hf : Ql51.signs.find? (fun s => s.isPrefixOf (c :: r)) with
      | none =>
        dsimp only
        rw [step_no hs rfl (.inl (by rw [hE0, signLen, hsg, hf]; rfl))]
      | some sg =>
        dsimp only
        have hE : tokEnd (L (c :: r)) = some sg.length := by rw [hE0, signLen, hsg, hf]; simp
        have hpr : TL.pre (sg.map UInt8.toNat) (L (c :: r)) = true := by
          have := List.find?_some (p := fun s => TL.pre s (L (c :: r))) (l := SGN) (a := sg.map UInt8.toNat) (by rw [hsg, hf]; rfl)
          exact this
        have hP : (L (c :: r)).take sg.length = sg.map UInt8.toNat := by
          have := eq_of_beq hpr
          rw [List.length_map] at this
          exact this
        have hpos := tokEnd_pos (L_lt _) hE
        have hT : tokOf (sg.map UInt8.toNat) = some (.sign (sg.map UInt8.toNat)) := by
          have e : sg.map UInt8.toNat = lb c :: (L r).take (sg.length - 1) := by
            rw [← hP, hL, show sg.length = (sg.length - 1) + 1 by omega, List.take_succ_cons]; rfl
          rw [e, tokOf, if_neg hal, if_neg hnum, if_neg hlq]
        rw [step_to ih hk hs rfl hE (t := .sign (sg.map UInt8.toNat)) (by rw [hP, hT])]
        show _ = (Ql51.tokens k _).map (Ql51.Tok.sign (un _) :: ·)
        rw [un_map]
end Sp
set_option Elab.async false
set_option linter.all false
set_option maxRecDepth 100000
set_option maxHeartbeats 4000000
namespace L2
open PySem PySem.Spec PyProof.Rows
structure DfM (K : PySem.W.Frag) (C : Addr) (m qual : Str) (st : Stmt) (ps : List Str) : Prop where
  ex : ∃ f fd, Fun K m qual st f fd ∧ Meth K C m f ∧ Binds K fd ps []
structure OkM (P : Program) (w : World) (K : PySem.W.Frag) (mg : Str → Option Value) (base : Heap) (CX : CXT) (k : Nat) (C : Addr) (m : Str) (ps : List Str) (sp : Sp) : Prop where
  ex : ∃ f fd, FnOk P w K mg base CX k f fd ps sp ∧ Meth K C m f ∧ Binds K fd ps []
structure DfI (K : PySem.W.Frag) (mg : Str → Option Value) (x : Str) (C : Addr) (qual : Str) (st : Stmt) (ps : List Str) : Prop where
  ex : ∃ f fd, Fun K "__init__" qual st f fd ∧ Mk K C f ∧ Binds K fd ps [] ∧ mg x = some (.ref C)
structure OkI (P : Program) (w : World) (K : PySem.W.Frag) (mg : Str → Option Value) (base : Heap) (CX : CXT) (k : Nat) (x : Str) (C : Addr) (ps : List Str) (sp : Sp) : Prop where
  ex : ∃ f fd, FnOk P w K mg base CX k f fd ps sp ∧ Mk K C f ∧ Binds K fd ps [] ∧ mg x = some (.ref C)
section
variable {P : Program} {w : World} {K : PySem.W.Frag} {mg : Str → Option Value} {base : Heap} {C : Addr}
theorem DfM.ok {m qual : Str} {st : Stmt} {N ps : List Str} {k : Nat} {sp : Sp} (D : DfM K C m qual st ps) (S : FnScope N ps (defScope st)) (len : ∀ vs H Q E, sp vs H Q E → vs.length = ps.length)
    (hbody : ∀ (f : Addr) (cdv : Value) (A : Around) (outer : List Env) (s : Shared) (H : Hp) (vs : List V) (Q : VK) (E : XK), Room k (A.deeper (envOfC qual (defScope st) s.heap.objs.size f cdv)) → sp vs H Q E →
      ∃ t, PSs (cxOf CX0 P w K mg base N qual (defScope st) f cdv A outer s H E).nox (defBody st) t ∧ t { nx := fun _ H' => Q .non H', rt := Q } (start N vs) H) : OkM P w K mg base CX0 (k + 1) C m ps sp := by
  obtain ⟨f, fd, F, hm, hb⟩ := D.ex
  exact ⟨f, fd, F.ok S len (hbody f), hm, hb⟩
theorem DfM.okX {m qual : Str} {st : Stmt} {N ps : List Str} {k : Nat} {sp : Sp} (D : DfM K C m qual st ps) (S : FnScope N ps (defScope st)) (len : ∀ vs H Q E, sp vs H Q E → vs.length = ps.length)
    (hbody : ∀ (f : Addr) (cdv : Value) (A : Around) (outer : List Env) (s : Shared) (H : Hp) (vs : List V) (Q : VK) (E : XK), Room k (A.deeper (envOfC qual (defScope st) s.heap.objs.size f cdv)) → sp vs H Q E →
      ∃ t, PSs (cxOf (CXW P w) P w K mg base N qual (defScope st) f cdv A outer s H E) (defBody st) t ∧ t { nx := fun _ H' => Q .non H', rt := Q } (start N vs) H) : OkM P w K mg base (CXW P w) (k + 1) C m ps sp := by
  obtain ⟨f, fd, F, hm, hb⟩ := D.ex
  exact ⟨f, fd, F.okX S len (hbody f), hm, hb⟩
theorem DfI.ok {x qual : Str} {st : Stmt} {N ps : List Str} {k : Nat} {sp : Sp} (D : DfI K mg x C qual st ps) (S : FnScope N ps (defScope st)) (len : ∀ vs H Q E, sp vs H Q E → vs.length = ps.length)
    (hbody : ∀ (f : Addr) (cdv : Value) (A : Around) (outer : List Env) (s : Shared) (H : Hp) (vs : List V) (Q : VK) (E : XK), Room k (A.deeper (envOfC qual (defScope st) s.heap.objs.size f cdv)) → sp vs H Q E →
      ∃ t, PSs (cxOf CX0 P w K mg base N qual (defScope st) f cdv A outer s H E).nox (defBody st) t ∧ t { nx := fun _ H' => Q .non H', rt := Q } (start N vs) H) : OkI P w K mg base CX0 (k + 1) x C ps sp := by
  obtain ⟨f, fd, F, hm, hb, hx⟩ := D.ex
  exact ⟨f, fd, F.ok S len (hbody f), hm, hb, hx⟩
end
section
variable {X : Cx} {CX : CXT} {k : Nat} {C : Addr} {m x : Str} {ps : List Str} {sp : Sp} {E : XK} {e o : Expr} {es : List Expr} {ta : TE} {t : TA} {p apos pos : Pos}
theorem pe_mt {pl : Sem Bool} (G : OkM X.prog X.w X.K X.mg X.base CX k C m ps sp) (c : Cls X.K C) (hr : Room k X.A) (hx : Passes CX X E) (he : PE X o ta) (ha : PA X (e :: es) t)
    (hst : starEach (e :: es) X.env = (false, eval e X.env) :: starEach es X.env := by rfl) (hpl : (backTo pos (starEach es X.env)).any (·.1) = false := by rfl)
    (ht : eval (.Call (.Attribute o m apos) (e :: es) [] pos) X.env = (do
      let ov ← eval o X.env
      standAt apos.atName
      let (f, first) ← holding [ov] (getMethod ov m pl)
      callWith pos f first (backTo pos (starEach (e :: es) X.env)) (backToKw pos (keywordEach [] X.env))) := by rfl) :
    PE X (.Call (.Attribute o m apos) (e :: es) [] pos) (tMeth C m sp [] E ta t) := by
  obtain ⟨f, fd, F, hm, hb⟩ := G.ex
  exact pe_meth he c hm F hr hb .nil hx ha hst hpl ht
theorem pe_mt0 {pl : Sem Bool} (G : OkM X.prog X.w X.K X.mg X.base CX k C m ps sp) (c : Cls X.K C) (hr : Room k X.A) (hx : Passes CX X E) (he : PE X o ta)
    (ht : eval (.Call (.Attribute o m apos) [] [] pos) X.env = (do
      let ov ← eval o X.env
      standAt apos.atName
      let (f, first) ← holding [ov] (getMethod ov m pl)
      callWith pos f first (backTo pos (starEach [] X.env)) (backToKw pos (keywordEach [] X.env))) := by rfl) :
    PE X (.Call (.Attribute o m apos) [] [] pos) (tMeth C m sp [] E ta tNil) := by
  obtain ⟨f, fd, F, hm, hb⟩ := G.ex
  exact pe_meth0 he c hm F hr hb .nil hx ht
theorem pe_mkc (G : OkI X.prog X.w X.K X.mg X.base CX k x C ps sp) (hr : Room (k + 1) X.A) (hx : Passes CX X E) (ha : PA X (e :: es) t) (hg : Gl X x := by rfl) (hdb : (x == ("__debug__" : Str)) = false := by decide)
    (he : starEach (e :: es) X.env = (false, eval e X.env) :: starEach es X.env := by rfl) (hpl : (backTo pos (starEach es X.env)).any (·.1) = false := by rfl) : PE X (.Call (.Name x p) (e :: es) [] pos) (tMake C sp [] E t) := by
  obtain ⟨f, fd, F, M, hb, hm⟩ := G.ex
  exact pe_make M F hr hg hm hb .nil hx ha hdb he hpl
end
theorem str_len_append (x y : Str) : (x ++ y).length = x.length + y.length := by
  rw [TL.len_tl, TL.tl_append, List.length_append, ← TL.len_tl, ← TL.len_tl]
theorem pe_f3 {X : Cx} {x y : Str} {v : Expr} {tv : TE} {j j' : Nat} {p1 p2 p3 pos : Pos} (hv : PE X v tv) (hx : x.length ≤ sizeLine := by decide) : PE X (.JoinedStr [.Constant (.str x) j p1, .FormattedValue v (-1) none p2, .Constant (.str y) j' p3] pos)
    (fun σ H Q => tv σ H fun z H1 => ∃ w : Str, z = .str w ∧ x.length + w.length + y.length ≤ sizeLine ∧ Q (.str (x ++ w ++ y)) H1) := by
  intro pins s σ H Q I h
  have e0 : Str.empty.length = 0 := rfl
  refine wpAny_JoinedStr ?_
  show wpAny (model X.prog X.w) X.A (eval (.Constant (.str x) j p1) X.env) _ X.xe s
  refine wpAny_mono (pe_str pins s σ H (fun v H1 => v = .str x ∧ H1 = H) I ⟨rfl, rfl⟩) (fun u s1 hu => ?_) fun _ _ z => z
  obtain ⟨v1, H1, I1, rv, rfl, rfl⟩ := hu
  obtain ⟨t1, rfl⟩ := rv
  · refine ⟨x, t1, rfl, by rw [str_len_append, e0, Nat.zero_add]; exact hx, ?_⟩
    show wpAny (model X.prog X.w) X.A (eval (.FormattedValue v (-1) none p2) X.env) _ X.xe s1
    refine wpAny_FormattedValue_plain ?_
    refine wpAny_mono (hv pins s1 σ H1 _ I1 h) (fun u s2 hu => ?_) fun _ _ z => z
    obtain ⟨z, H2, I2, rz, w, rfl, hl, q⟩ := hu
    obtain ⟨t2, rfl⟩ := rz
    have fin : ∀ (t3 : Tok) (tk : Nat), ∃ y' t, (Value.str w t3) = .str y' t ∧ ((Str.empty ++ x) ++ y').length ≤ sizeLine ∧
        Joins (model X.prog X.w) X.A X.xe [eval (.Constant (.str y) j' p3) X.env] ((Str.empty ++ x) ++ y') (fun out s₁ => out.length ≤ sizeLine ∧ EP X pins σ Q (.str out s₁.toks) { s₁ with toks := s₁.toks + 1 }) { s2 with toks := tk } := fun t3 tk => by
      refine ⟨w, t3, rfl, by rw [str_len_append, str_len_append, e0]; omega, ?_⟩
      show wpAny (model X.prog X.w) X.A (eval (.Constant (.str y) j' p3) X.env) _ X.xe _
      refine wpAny_mono (pe_str pins _ σ H2 (fun v H3 => v = .str y ∧ H3 = H2) (I2.tok tk) ⟨rfl, rfl⟩) (fun u s3 hu => ?_) fun _ _ z => z
      obtain ⟨v3, H3, I3, rv3, rfl, rfl⟩ := hu
      obtain ⟨t4, rfl⟩ := rv3
      have hs : ((Str.empty ++ x) ++ w ++ y).length ≤ sizeLine := by rw [str_len_append, str_len_append, str_len_append, e0]; omega
      refine ⟨y, t4, rfl, hs, hs, ?_⟩
      have ee : Str.empty ++ x = x := TL.ext_tl (by rw [TL.tl_append]; rfl)
      rw [ee]
      exact ⟨.str _, H3, I3.tok _, ⟨_, rfl⟩, q⟩
    exact wpAny_formatField_str (fin t2 s2.toks) (fin s2.toks (s2.toks + 1)) (by omega)
def Fx (M : List Addr) (H H' : Hp) : Prop := ∀ b o, b ∉ M → H b = some o → H' b = some o
theorem Fx.refl {M : List Addr} {H : Hp} : Fx M H H := fun _ _ _ e => e
theorem Fx.trans {M : List Addr} {H H1 H2 : Hp} (a : Fx M H H1) (b : Fx M H1 H2) : Fx M H H2 := fun x o n e => b x o n (a x o n e)
theorem Fx.mono {M M' : List Addr} {H H1 : Hp} (a : Fx M H H1) (h : ∀ b ∈ M, b ∈ M') : Fx M' H H1 := fun x o n e => a x o (fun z => n (h x z)) e
theorem Fx.set {M : List Addr} {H : Hp} {a : Addr} {o : HO} (h : a ∈ M) : Fx M H (L2.upd H a o) := fun x u n e => by rw [upd_ne (fun z => n (by rw [z]; exact h))]; exact e
theorem Fx.new {M : List Addr} {H : Hp} {a : Addr} {o : HO} (h : H a = none) : Fx M H (L2.upd H a o) := fun x u n e => by rw [upd_ne (ne_of_none e h)]; exact e
end L2
set_option Elab.async false
set_option linter.all false
set_option maxRecDepth 100000
set_option maxHeartbeats 4000000
namespace Th
open PySem L2
def Tk.ok : Tk → Prop
  | .word l => l ≠ [] ∧ (∀ c ∈ l, c < 128) ∧ l.length ≤ 64
  | .num _ => True
  | .bits l => ∀ c ∈ l, c < 128
  | .octs l => ∀ c ∈ l, c < 128
  | .sign l => ∀ c ∈ l, c < 128
theorem tokOf_ok {l : List Nat} {t : Tk} (h8 : ∀ c ∈ l, c < 128) (h : tokOf l = some t) : t.ok := by
  match l with
  | [] => cases h
  | c :: r =>
    rw [tokOf] at h
    split at h
    · unfold wordTk at h
      split at h
      · cases h
      · rename_i hn; cases h; exact ⟨by simp, h8, Nat.le_of_not_lt fun z => hn (.inl z)⟩
    · split at h
      · unfold numTk at h
        split at h
        · cases h
        · split at h
          · cases h
          · cases h; trivial
      · split at h
        · have hs : ∀ x ∈ strD (c :: r), x < 128 := fun x hx => h8 x (by unfold strD at hx; exact List.mem_of_mem_drop (List.mem_of_mem_take hx))
          unfold strTk at h
          split at h
          · cases h; exact hs
          · split at h
            · cases h; exact hs
            · cases h
        · cases h; exact h8
theorem toksF_ok : ∀ (k : Nat) {l : List Nat} {ts : List Tk}, (∀ c ∈ l, c < 128) → toksF k l = some ts → (∀ t ∈ ts, t.ok) ∧ ts.length ≤ l.length
  | 0, l, ts, _, h => by cases h
  | k + 1, l, ts, h8, h => by
    rw [toksF] at h
    split at h
    · cases h; exact ⟨by simp, by simp⟩
    · rename_i c r e
      have hsub : ∀ x ∈ c :: r, x ∈ l := fun x hx => List.mem_of_mem_drop (by rw [e]; exact hx)
      have hlen : (c :: r).length ≤ l.length := by rw [← e, List.length_drop]; omega
      split at h
      · cases h
      · rename_i n en
        split at h
        · cases h
        · rename_i t et
          cases hr : toksF k ((c :: r).drop n) with
          | none => rw [hr] at h; cases h
          | some ts' =>
            rw [hr] at h
            cases h
            obtain ⟨h1, h2⟩ := toksF_ok k (fun x hx => h8 x (hsub x (List.mem_of_mem_drop hx))) hr
            have hpos := tokEnd_pos (fun x hx => h8 x (hsub x hx)) en
            refine ⟨fun x hx => ?_, ?_⟩
            · rcases List.mem_cons.mp hx with z | z
              · rw [z]; exact tokOf_ok (fun y hy => h8 y (hsub y (List.mem_of_mem_take hy))) et
              · exact h1 x z
            · rw [List.length_drop] at h2
              simp at hlen h2 ⊢; omega
structure RdT (K : PySem.W.Frag) (RC : Addr) : Prop where
  cl : Cls K RC
  tokens : NoAttr K RC "tokens"
  place : NoAttr K RC "place"
def rf (l : Addr) (p : Nat) : List (Str × V) := [("tokens", .ref l), ("place", .int (p : Int))]
theorem rf_tokens (l : Addr) (p : Nat) : (rf l p).lookup ("tokens" : Str) = some (.ref l) := rfl
theorem rf_place (l : Addr) (p : Nat) : (rf l p).lookup ("place" : Str) = some (.int (p : Int)) := by rfl
theorem rf_put (l : Addr) (p q : Nat) : putF "place" (.int (q : Int)) (rf l p) = rf l q := by rfl
theorem rf_no (l : Addr) (p : Nat) {m : Str} (h1 : (m == ("tokens" : Str)) = false) (h2 : (m == ("place" : Str)) = false) : (rf l p).lookup m = none := by
  unfold rf
  rw [List.lookup_cons, h1, List.lookup_cons, h2]; rfl
structure RdAt (RC : Addr) (H : Hp) (r l : Addr) (ts : List Tk) : Prop where
  ex : ∃ (dx : Addr) (as : List Addr) (all : List Tk) (p : Nat), H r = some (.ins RC dx (rf l p)) ∧ H l = some (.lst (as.map V.ref)) ∧ TksAt H as all ∧ p ≤ all.length ∧ all.length ≤ 65536 ∧ (∀ t ∈ all, t.ok) ∧ ts = all.drop p
theorem RdAt.keep {RC : Addr} {H H' : Hp} {r l : Addr} {ts : List Tk} {M : List Addr} (h : RdAt RC H r l ts) (k : Fx M H H') (hr : r ∉ M) (hl : l ∉ M) (hM : ∀ b ∈ M, ∀ xs, H b ≠ some (.tup xs)) : RdAt RC H' r l ts := by
  obtain ⟨dx, as, all, p, h1, h2, h3, h4⟩ := h.ex
  refine ⟨dx, as, all, p, k r _ hr h1, k l _ hl h2, Paired.mapP h3 fun a t e => k a _ (fun z => hM a z _ e) e, h4⟩
section
variable {P : Program} {w : World} {K : PySem.W.Frag} {mg : Str → Option Value} {base : Heap} {WT RC : Addr}
def spReaderInit (RC : Addr) : Sp := fun vs H Q _ => ∃ (r dx l : Addr), vs = [.ref r, .ref l] ∧ H r = some (.ins RC dx []) ∧ ∀ H' : Hp, H' r = some (.ins RC dx (rf l 0)) → Fx [r] H H' → Q .non H'
theorem scReaderInit : FnScope ["self", "tokens"] ["self", "tokens"] (defScope sReaderInit) := ⟨rfl, rfl, rfl, by decide +kernel, rfl, by decide +kernel, by decide +kernel⟩
theorem ok_reader_init (D : DfI K mg "Reader" RC "Reader.__init__" sReaderInit ["self", "tokens"]) (T : RdT K RC) : OkI P w K mg base CX0 1 "Reader" RC ["self", "tokens"] (spReaderInit RC) := by
  refine D.ok scReaderInit (fun vs H Q E h => ?_) (fun f cdv A outer s H vs Q E hr h => ?_)
  · obtain ⟨r, dx, l, rfl, _⟩ := h; rfl
  · obtain ⟨r, dx, l, rfl, h1, k⟩ := h
    refine ⟨_, pss_cons (ps_fld (pv 0) (pv 1) rfl) (pss_one (ps_fld (pv 0) pe_int rfl)), ?_⟩
    refine ⟨_, rfl, _, rfl, r, RC, dx, [], rfl, h1, T.cl, T.tokens, (by show 0 < 1000; decide), _, rfl, r, RC, dx, _, rfl, upd_same, T.cl, T.place, (by show 1 < 1000; decide), ?_⟩
    refine k _ (by rw [upd_same]; rfl) fun b o n e => ?_
    have hb : b ≠ r := fun z => n (by rw [z]; exact List.mem_cons_self)
    rw [upd_ne hb, upd_ne hb]; exact e
def spReaderEnded (RC : Addr) : Sp := fun vs H Q _ => ∃ (r l : Addr) (ts : List Tk), vs = [.ref r] ∧ RdAt RC H r l ts ∧ Q (.bl ts.isEmpty) H
theorem scReaderEnded : FnScope ["self"] ["self"] (defScope sReaderEnded) := ⟨rfl, rfl, rfl, by decide +kernel, rfl, by decide +kernel, by decide +kernel⟩
theorem TksAt.len {H : Hp} {as : List Addr} {ts : List Tk} (h : TksAt H as ts) : as.length = ts.length := Paired.len h
theorem ok_reader_ended (D : DfM K RC "ended" "Reader.ended" sReaderEnded ["self"]) (T : RdT K RC) (hlen : mg "len" = none) : OkM P w K mg base CX0 1 RC "ended" ["self"] (spReaderEnded RC) := by
  refine D.ok scReaderEnded (fun vs H Q E h => ?_) (fun f cdv A outer s H vs Q E hr h => ?_)
  · obtain ⟨r, l, ts, rfl, _⟩ := h; rfl
  · obtain ⟨r, l, ts, rfl, hR, k⟩ := h
    obtain ⟨dx, as, all, p, h1, h2, h3, h4, h5, h6, rfl⟩ := hR.ex
    refine ⟨_, pss_one (ps_ret (pe_cmpR op_eq (pe_fld (pv 0) rfl) (pe_callB call_len_seq (by rfl) hlen PySem.boot_len (pa_cons (pe_fld (pv 0) rfl) pa_nil)) (nomark _))), ?_⟩
    refine ⟨_, rfl, r, RC, dx, _, _, rfl, h1, T.cl, T.place, rf_place _ _, _, rfl, r, RC, dx, _, _, rfl, h1, T.cl, T.tokens, rf_tokens _ _, l, _, rfl, .inl (SqL.of h2), rfl, ?_⟩
    rw [List.length_map, h3.len]
    have e : decide (V.int (p : Int) = V.int (all.length : Int)) = (all.drop p).isEmpty := by
      by_cases hp : p = all.length
      · rw [hp, decide_eq_true rfl, List.drop_length]; rfl
      · rw [decide_eq_false (by intro z; injection z with z; exact hp (by omega))]
        rw [List.drop_eq_getElem_cons (by omega : p < all.length)]; rfl
    rw [e]; exact k
def Tk.pd : Tk → PyData
  | .word l => .tuple [.str "word", .str ⟨l.toArray⟩]
  | .num z => .tuple [.str "number", .int z]
  | .bits l => .tuple [.str "bits", .str ⟨l.toArray⟩]
  | .octs l => .tuple [.str "octets", .str ⟨l.toArray⟩]
  | .sign l => .tuple [.str "sign", .str ⟨l.toArray⟩]
theorem Tk.dp {K : PySem.W.Frag} {H : Hp} {a : Addr} (t : Tk) (h : H a = some (.tup t.vs)) : Dp K H (.ref a) t.pd := by
  cases t with
  | num z => exact .tup (SqT.of h) (.cons (.str _) (.cons (.int _) .nil))
  | _ => exact .tup (SqT.of h) (.cons (.str _) (.cons (.str _) .nil))
theorem str_eq (l m : List Nat) : ((⟨l.toArray⟩ : Str) == (⟨m.toArray⟩ : Str)) = decide (l = m) := by
  by_cases e : l = m
  · rw [e, decide_eq_true rfl]; simp
  · rw [decide_eq_false e]
    exact beq_eq_false_iff_ne.mpr fun z => e (by injection z with z; simpa using z)
theorem Tk.eqv (t u : Tk) : PyData.eqv t.pd u.pd = decide (t = u) := by
  have d : ∀ x y : String, ((Str.ofString x) == (Str.ofString y)) = false ∨ True := fun _ _ => .inr trivial
  have n1 : ((Str.ofString "word") == (Str.ofString "number")) = false := by decide +kernel
  have n2 : ((Str.ofString "word") == (Str.ofString "bits")) = false := by decide +kernel
  have n3 : ((Str.ofString "word") == (Str.ofString "octets")) = false := by decide +kernel
  have n4 : ((Str.ofString "word") == (Str.ofString "sign")) = false := by decide +kernel
  have n5 : ((Str.ofString "number") == (Str.ofString "bits")) = false := by decide +kernel
  have n6 : ((Str.ofString "number") == (Str.ofString "octets")) = false := by decide +kernel
  have n7 : ((Str.ofString "number") == (Str.ofString "sign")) = false := by decide +kernel
  have n8 : ((Str.ofString "bits") == (Str.ofString "octets")) = false := by decide +kernel
  have n9 : ((Str.ofString "bits") == (Str.ofString "sign")) = false := by decide +kernel
  have n10 : ((Str.ofString "octets") == (Str.ofString "sign")) = false := by decide +kernel
  have sy : ∀ a b : Str, (a == b) = (b == a) := fun a b => by
    by_cases e : a = b
    · rw [e]
    · rw [beq_eq_false_iff_ne.mpr e, beq_eq_false_iff_ne.mpr (Ne.symm e)]
  cases t <;> cases u <;> simp only [Tk.pd, PyData.eqv, PyData.eqvAll, beq_self_eq_true, Bool.true_and, Bool.and_true, str_eq, n1, n2, n3, n4, n5, n6, n7, n8, n9, n10, sy (Str.ofString "number") (Str.ofString "word"), sy (Str.ofString "bits") (Str.ofString "word"), sy (Str.ofString "octets") (Str.ofString "word"), sy (Str.ofString "sign") (Str.ofString "word"), sy (Str.ofString "bits") (Str.ofString "number"), sy (Str.ofString "octets") (Str.ofString "number"), sy (Str.ofString "sign") (Str.ofString "number"), sy (Str.ofString "octets") (Str.ofString "bits"), sy (Str.ofString "sign") (Str.ofString "bits"), sy (Str.ofString "sign") (Str.ofString "octets"), Bool.false_and, Tk.word.injEq, Tk.num.injEq, Tk.bits.injEq, Tk.octs.injEq, Tk.sign.injEq] <;> first | rfl | (symm; exact decide_eq_false (by intro z; cases z)) | (rw [Bool.eq_iff_iff]; simp)
end
end Th
set_option Elab.async false
set_option linter.all false
set_option maxRecDepth 100000
set_option maxHeartbeats 4000000
namespace Th
open PySem L2
theorem strOk_sv {l : List Nat} (h : ∀ c ∈ l, c < 128) : PyData.strOk (⟨l.toArray⟩ : Str) = true := by
  unfold PyData.strOk
  rw [List.all_toArray, List.all_eq_true]
  intro c hc
  have := h c hc
  exact decide_eq_true (by omega)
theorem Tk.shaped {t : Tk} (h : t.ok) : SeqAt.shaped t.pd = true := by
  have w1 : PyData.strOk "word" = true := by decide +kernel
  have w2 : PyData.strOk "number" = true := by decide +kernel
  have w3 : PyData.strOk "bits" = true := by decide +kernel
  have w4 : PyData.strOk "octets" = true := by decide +kernel
  have w5 : PyData.strOk "sign" = true := by decide +kernel
  cases t with
  | word l =>
    show (PyData.strOk "word" && (PyData.strOk (⟨l.toArray⟩ : Str) && true) && _) = true
    rw [w1, strOk_sv h.2.1]; rfl
  | num z => show (PyData.strOk "number" && _ && _) = true; rw [w2]; rfl
  | bits l => show (PyData.strOk "bits" && (PyData.strOk (⟨l.toArray⟩ : Str) && true) && _) = true; rw [w3, strOk_sv h]; rfl
  | octs l => show (PyData.strOk "octets" && (PyData.strOk (⟨l.toArray⟩ : Str) && true) && _) = true; rw [w4, strOk_sv h]; rfl
  | sign l => show (PyData.strOk "sign" && (PyData.strOk (⟨l.toArray⟩ : Str) && true) && _) = true; rw [w5, strOk_sv h]; rfl
def skipT (t : Tk) : List Tk → Option (List Tk)
  | [] => none
  | u :: r => if u = t then some r else none
def giveSkip (RC r l : Addr) (t : Tk) (ts : List Tk) (H : Hp) (Q : VK) : Prop := match skipT t ts with
  | some ts' => ∀ H', RdAt RC H' r l ts' → Fx [r] H H' → Q (.bl true) H'
  | none => ∀ H', RdAt RC H' r l ts → Fx [r] H H' → Q (.bl false) H'
theorem pairs_at {H : Hp} {as : List Addr} {ts : List Tk} {t : Tk} (h0 : TksAt H as ts) : ∀ {i : Nat}, ts[i]? = some t → ∃ a, as[i]? = some a ∧ H a = some (.tup t.vs) := by
  unfold TksAt at h0
  induction h0 with
  | nil => intro i h; simp at h
  | cons a b ih =>
    intro i h
    cases i with
    | zero =>
      have := Option.some.inj h
      subst this
      exact ⟨_, rfl, a⟩
    | succ i => exact ih h
theorem skipT_cons (t u : Tk) (r : List Tk) : skipT t (u :: r) = if u = t then some r else none := rfl
theorem skipT_nil (t : Tk) : skipT t [] = none := rfl
section
variable {P : Program} {w : World} {K : PySem.W.Frag} {mg : Str → Option Value} {base : Heap} {WT RC : Addr}
theorem RdAt.next {H : Hp} {r dx l : Addr} {as : List Addr} {all : List Tk} {p : Nat} {t : Tk} {ts : List Tk} (h1 : H r = some (.ins RC dx (rf l p))) (h2 : H l = some (.lst (as.map V.ref))) (h3 : TksAt H as all) (h5 : all.length ≤ 65536) (h6 : ∀ t ∈ all, t.ok) (e : all.drop p = t :: ts) :
    RdAt RC (upd H r (.ins RC dx (rf l (p + 1)))) r l ts := by
  have hp : p < all.length := by
    refine Nat.lt_of_not_le fun z => ?_
    rw [List.drop_of_length_le z] at e; cases e
  refine ⟨dx, as, all, p + 1, upd_same, ?_, Paired.mapP h3 fun a u z => ?_, hp, h5, h6, ?_⟩
  · rw [upd_ne (ne_of h2 h1 (by intro z; cases z))]; exact h2
  · rw [upd_ne (ne_of z h1 (by intro z; cases z))]; exact z
  · rw [← List.drop_drop, e]; rfl
def spSkips (RC : Addr) : Sp := fun vs H Q _ => ∃ (r l tk : Addr) (t : Tk) (ts : List Tk), vs = [.ref r, .ref tk] ∧ RdAt RC H r l ts ∧ H tk = some (.tup t.vs) ∧ t.ok ∧ giveSkip RC r l t ts H Q
theorem scSkips : FnScope ["self", "token"] ["self", "token"] (defScope sReaderSkips) := ⟨rfl, rfl, rfl, by decide +kernel, rfl, by decide +kernel, by decide +kernel⟩
theorem ok_skips (D : DfM K RC "skips" "Reader.skips" sReaderSkips ["self", "token"]) (T : RdT K RC) (GE : OkM P w K mg base CX0 1 RC "ended" ["self"] (spReaderEnded RC)) : OkM P w K mg base CX0 2 RC "skips" ["self", "token"] (spSkips RC) := by
  refine D.ok scSkips (fun vs H Q E h => ?_) (fun f cdv A outer s H vs Q E hr h => ?_)
  · obtain ⟨r, l, tk, t, ts, rfl, _⟩ := h; rfl
  · obtain ⟨r, l, tk, t, ts, rfl, hR, ht, hto, k⟩ := h
    refine ⟨_, pss_cons (ps_if (PW.pt (pw_or (pt_val (pe_mt0 GE T.cl hr pass0 (pv 0))) (pw_or1 (pt_cmpR (op_neD hr.units) (pe_ix ix_list (pe_fld (pv 0) rfl) (pe_fld (pv 0) rfl) (fun _ _ => rfl)) (pv 1) (nomark _))))) (pss_one (ps_ret pe_bl)) pss_nil)
      (pss_cons (ps_fldaug (pv 0) pe_int in_add) (pss_one (ps_ret pe_bl))), ?_⟩
    obtain ⟨dx, as, all, p, h1, h2, h3, h4, h5, h6, he⟩ := hR.ex
    refine ⟨_, rfl, r, dx, _, rfl, h1, rf_no _ _ (by decide +kernel) (by decide +kernel), r, l, ts, rfl, hR, _, rfl, ?_⟩
    cases hts : ts with
    | nil =>
      subst hts
      show if true = true then _ else _
      rw [if_pos rfl]
      refine iteT ?_
      exact k H hR Fx.refl
    | cons u ts' =>
      show if false = true then _ else _
      rw [if_neg (by simp)]
      rw [hts] at he
      have hp : p < all.length := by
        refine Nat.lt_of_not_le fun z => ?_
        rw [List.drop_of_length_le z] at he; cases he
      have hu : all[p]? = some u := by
        have := congrArg (fun l => l[0]?) he.symm
        rw [List.getElem?_drop] at this
        exact this
      obtain ⟨ua, hua, hu2⟩ := pairs_at h3 hu
      refine ⟨_, rfl, r, RC, dx, _, _, rfl, h1, T.cl, T.tokens, rf_tokens _ _, _, rfl, r, RC, dx, _, _, rfl, h1, T.cl, T.place, rf_place _ _, l, _, _, .ref ua, rfl, rfl, SqL.of h2, atI_nat (by rw [List.getElem?_map, hua]; rfl), ?_⟩
      refine ⟨_, rfl, u.pd, t.pd, u.dp hu2, t.dp ht, Tk.shaped (h6 u (List.mem_of_getElem? hu)), Tk.shaped hto, _, rfl, ?_⟩
      rw [Tk.eqv]
      rw [hts] at k
      unfold giveSkip at k
      rw [skipT_cons] at k
      by_cases hut : u = t
      · rw [if_pos hut] at k
        rw [decide_eq_true hut]
        refine iteF ?_
        refine ⟨_, rfl, r, RC, dx, _, _, rfl, h1, T.cl, T.place, rf_place _ _, _, _, rfl, rfl, dx, _, h1, (by show 2 < 1000; decide), ?_⟩
        have e : putF "place" (V.int ((p : Int) + 1)) (rf l p) = rf l (p + 1) := rf_put l p (p + 1)
        rw [e]
        exact k _ (RdAt.next h1 h2 h3 h5 h6 he.symm) (Fx.set List.mem_cons_self)
      · rw [if_neg hut] at k
        rw [decide_eq_false hut]
        refine iteT ?_
        exact k H (hts ▸ hR) Fx.refl
end
end Th
set_option Elab.async false
set_option linter.all false
set_option maxRecDepth 100000
set_option maxHeartbeats 4000000
namespace Th
open PySem L2
def Tk.sort : Tk → Str
  | .word _ => "word"
  | .num _ => "number"
  | .bits _ => "bits"
  | .octs _ => "octets"
  | .sign _ => "sign"
def Tk.held : Tk → V
  | .word l => sv l
  | .num z => .int z
  | .bits l => sv l
  | .octs l => sv l
  | .sign l => sv l
theorem Tk.vs_eq (t : Tk) : t.vs = [.str t.sort, t.held] := by cases t <;> rfl
def giveNeed (RC WT r l : Addr) (t : Tk) (ts : List Tk) (H : Hp) (Q : VK) (E : XK) : Prop := match skipT t ts with
  | some ts' => ∀ H', RdAt RC H' r l ts' → Fx [r] H H' → Q .non H'
  | none => ∀ H', E (.ref WT) none H'
def giveTake (RC WT r l : Addr) (srt : Str) (ts : List Tk) (H : Hp) (Q : VK) (E : XK) : Prop := match ts with
  | t :: ts' => if t.sort = srt then ∀ H', RdAt RC H' r l ts' → Fx [r] H H' → t.ok → Q t.held H' else ∀ H', E (.ref WT) none H'
  | [] => ∀ H', E (.ref WT) none H'
theorem giveTake_cons (RC WT r l : Addr) (srt : Str) (t : Tk) (ts : List Tk) (H : Hp) (Q : VK) (E : XK) : giveTake RC WT r l srt (t :: ts) H Q E = if t.sort = srt then ∀ H', RdAt RC H' r l ts → Fx [r] H H' → t.ok → Q t.held H' else ∀ H', E (.ref WT) none H' := rfl
theorem RdAt.obj {RC : Addr} {H : Hp} {r l : Addr} {ts : List Tk} (h : RdAt RC H r l ts) : ∃ dx p, H r = some (.ins RC dx (rf l p)) := by
  obtain ⟨dx, as, all, p, h1, _⟩ := h.ex
  exact ⟨dx, p, h1⟩
theorem RdAt.new {RC : Addr} {H : Hp} {r l a : Addr} {o : HO} {ts : List Tk} (h : RdAt RC H r l ts) (ha : H a = none) : RdAt RC (upd H a o) r l ts :=
  h.keep (M := []) (Fx.new ha) (by simp) (by simp) (fun b hb => by simp at hb)
section
variable {P : Program} {w : World} {K : PySem.W.Frag} {mg : Str → Option Value} {base : Heap} {WT RC : Addr}
def spSkipsSign (RC : Addr) : Sp := fun vs H Q _ => ∃ (r l : Addr) (s : List Nat) (ts : List Tk), vs = [.ref r, sv s] ∧ (∀ c ∈ s, c < 128) ∧ RdAt RC H r l ts ∧ giveSkip RC r l (.sign s) ts H Q
theorem scSkipsSign : FnScope ["self", "sign"] ["self", "sign"] (defScope sReaderSkipsSign) := ⟨rfl, rfl, rfl, by decide +kernel, rfl, by decide +kernel, by decide +kernel⟩
theorem ok_skips_sign (D : DfM K RC "skips_sign" "Reader.skips_sign" sReaderSkipsSign ["self", "sign"]) (T : RdT K RC) (hsg : Cst mg "SIGN" (.str "sign")) (GS : OkM P w K mg base CX0 2 RC "skips" ["self", "token"] (spSkips RC)) :
    OkM P w K mg base CX0 3 RC "skips_sign" ["self", "sign"] (spSkipsSign RC) := by
  refine D.ok scSkipsSign (fun vs H Q E h => ?_) (fun f cdv A outer s H vs Q E hr h => ?_)
  · obtain ⟨r, l, sg, ts, rfl, _⟩ := h; rfl
  · obtain ⟨r, l, sg, ts, rfl, h8, hR, k⟩ := h
    refine ⟨_, pss_one (ps_ret (pe_mt GS T.cl hr pass0 (pv 0) (pa_cons (pe_tup (pa_cons (pe_k hsg) (pa_cons (pv 1) pa_nil))) pa_nil))), ?_⟩
    obtain ⟨dx, p, h1⟩ := hR.obj
    refine ⟨_, rfl, r, dx, _, rfl, h1, rf_no _ _ (by decide +kernel) (by decide +kernel), _, rfl, by show 2 ≤ sizeLine; decide, fun q hq => ?_⟩
    refine ⟨r, l, q, .sign sg, ts, rfl, hR.new hq, upd_same, h8, ?_⟩
    unfold giveSkip at k ⊢
    cases e : skipT (.sign sg) ts with
    | none => rw [e] at k; exact fun H' a b => k H' a ((Fx.new hq).trans b)
    | some ts' => rw [e] at k; exact fun H' a b => k H' a ((Fx.new hq).trans b)
def spSkipsWord (RC : Addr) : Sp := fun vs H Q _ => ∃ (r l : Addr) (s : List Nat) (ts : List Tk), vs = [.ref r, sv s] ∧ (s ≠ [] ∧ (∀ c ∈ s, c < 128) ∧ s.length ≤ 64) ∧ RdAt RC H r l ts ∧ giveSkip RC r l (.word s) ts H Q
theorem scSkipsWord : FnScope ["self", "word"] ["self", "word"] (defScope sReaderSkipsWord) := ⟨rfl, rfl, rfl, by decide +kernel, rfl, by decide +kernel, by decide +kernel⟩
theorem ok_skips_word (D : DfM K RC "skips_word" "Reader.skips_word" sReaderSkipsWord ["self", "word"]) (T : RdT K RC) (hsg : Cst mg "WORD" (.str "word")) (GS : OkM P w K mg base CX0 2 RC "skips" ["self", "token"] (spSkips RC)) :
    OkM P w K mg base CX0 3 RC "skips_word" ["self", "word"] (spSkipsWord RC) := by
  refine D.ok scSkipsWord (fun vs H Q E h => ?_) (fun f cdv A outer s H vs Q E hr h => ?_)
  · obtain ⟨r, l, sg, ts, rfl, _⟩ := h; rfl
  · obtain ⟨r, l, sg, ts, rfl, h8, hR, k⟩ := h
    refine ⟨_, pss_one (ps_ret (pe_mt GS T.cl hr pass0 (pv 0) (pa_cons (pe_tup (pa_cons (pe_k hsg) (pa_cons (pv 1) pa_nil))) pa_nil))), ?_⟩
    obtain ⟨dx, p, h1⟩ := hR.obj
    refine ⟨_, rfl, r, dx, _, rfl, h1, rf_no _ _ (by decide +kernel) (by decide +kernel), _, rfl, by show 2 ≤ sizeLine; decide, fun q hq => ?_⟩
    refine ⟨r, l, q, .word sg, ts, rfl, hR.new hq, upd_same, h8, ?_⟩
    unfold giveSkip at k ⊢
    cases e : skipT (.word sg) ts with
    | none => rw [e] at k; exact fun H' a b => k H' a ((Fx.new hq).trans b)
    | some ts' => rw [e] at k; exact fun H' a b => k H' a ((Fx.new hq).trans b)
def spNeedsSign (RC WT : Addr) : Sp := fun vs H Q E => ∃ (r l : Addr) (s : List Nat) (ts : List Tk), vs = [.ref r, sv s] ∧ ((∀ c ∈ s, c < 128) ∧ s.length ≤ 1000) ∧ RdAt RC H r l ts ∧ giveNeed RC WT r l (.sign s) ts H Q E
theorem scNeedsSign : FnScope ["self", "sign"] ["self", "sign"] (defScope sReaderNeedsSign) := ⟨rfl, rfl, rfl, by decide +kernel, rfl, by decide +kernel, by decide +kernel⟩
theorem ok_needs_sign (D : DfM K RC "needs_sign" "Reader.needs_sign" sReaderNeedsSign ["self", "sign"]) (T : RdT K RC) (T0 : Txt K mg WT) (GS : OkM P w K mg base CX0 3 RC "skips_sign" ["self", "sign"] (spSkipsSign RC)) :
    OkM P w K mg base (CXW P w) 4 RC "needs_sign" ["self", "sign"] (spNeedsSign RC WT) := by
  refine D.okX scNeedsSign (fun vs H Q E h => ?_) (fun f cdv A outer s H vs Q E hr h => ?_)
  · obtain ⟨r, l, sg, ts, rfl, _⟩ := h; rfl
  · obtain ⟨r, l, sg, ts, rfl, ⟨h8, hl⟩, hR, k⟩ := h
    refine ⟨_, pss_one (ps_if (pt_not (pt_val (pe_mt GS T.cl hr pass0 (pv 0) (pa_cons (pv 1) pa_nil)))) (pss_one (ps_raise PySem.F.excBase_ValueError T0.exc rfl (by rfl) T0.wt (pa_cons (pe_f3 (pv 1)) pa_nil) rz_cx)) pss_nil), ?_⟩
    obtain ⟨dx, p, h1⟩ := hR.obj
    refine ⟨_, rfl, r, dx, _, rfl, h1, rf_no _ _ (by decide +kernel) (by decide +kernel), _, rfl, r, l, sg, ts, rfl, h8, hR, ?_⟩
    unfold giveNeed at k
    unfold giveSkip
    cases e : skipT (.sign sg) ts with
    | none =>
      rw [e] at k
      intro H' a b
      refine ⟨_, rfl, ?_⟩
      refine iteT ?_
      have hsz : (Str.ofString "there is no ").length + (⟨sg.toArray⟩ : Str).length + (Str.ofString " where it must be").length ≤ sizeLine := by
        have e1 : (Str.ofString "there is no ").length = 12 := by decide +kernel
        have e2 : (Str.ofString " where it must be").length = 17 := by decide +kernel
        rw [e1, e2, sv_len]
        have : (1029 : Nat) ≤ sizeLine := by decide
        omega
      exact ⟨_, rfl, _, rfl, hsz, by show 1 ≤ sizeLine; decide, k _⟩
    | some ts' =>
      rw [e] at k
      intro H' a b
      refine ⟨_, rfl, ?_⟩
      refine iteF ?_
      exact k H' a b
def spNeedsWord (RC WT : Addr) : Sp := fun vs H Q E => ∃ (r l : Addr) (s : List Nat) (ts : List Tk), vs = [.ref r, sv s] ∧ ((s ≠ [] ∧ (∀ c ∈ s, c < 128) ∧ s.length ≤ 64) ∧ s.length ≤ 1000) ∧ RdAt RC H r l ts ∧ giveNeed RC WT r l (.word s) ts H Q E
theorem scNeedsWord : FnScope ["self", "word"] ["self", "word"] (defScope sReaderNeedsWord) := ⟨rfl, rfl, rfl, by decide +kernel, rfl, by decide +kernel, by decide +kernel⟩
theorem ok_needs_word (D : DfM K RC "needs_word" "Reader.needs_word" sReaderNeedsWord ["self", "word"]) (T : RdT K RC) (T0 : Txt K mg WT) (GS : OkM P w K mg base CX0 3 RC "skips_word" ["self", "word"] (spSkipsWord RC)) :
    OkM P w K mg base (CXW P w) 4 RC "needs_word" ["self", "word"] (spNeedsWord RC WT) := by
  refine D.okX scNeedsWord (fun vs H Q E h => ?_) (fun f cdv A outer s H vs Q E hr h => ?_)
  · obtain ⟨r, l, sg, ts, rfl, _⟩ := h; rfl
  · obtain ⟨r, l, sg, ts, rfl, ⟨h8, hl⟩, hR, k⟩ := h
    refine ⟨_, pss_one (ps_if (pt_not (pt_val (pe_mt GS T.cl hr pass0 (pv 0) (pa_cons (pv 1) pa_nil)))) (pss_one (ps_raise PySem.F.excBase_ValueError T0.exc rfl (by rfl) T0.wt (pa_cons (pe_f3 (pv 1)) pa_nil) rz_cx)) pss_nil), ?_⟩
    obtain ⟨dx, p, h1⟩ := hR.obj
    refine ⟨_, rfl, r, dx, _, rfl, h1, rf_no _ _ (by decide +kernel) (by decide +kernel), _, rfl, r, l, sg, ts, rfl, h8, hR, ?_⟩
    unfold giveNeed at k
    unfold giveSkip
    cases e : skipT (.word sg) ts with
    | none =>
      rw [e] at k
      intro H' a b
      refine ⟨_, rfl, ?_⟩
      refine iteT ?_
      have hsz : (Str.ofString "there is no ").length + (⟨sg.toArray⟩ : Str).length + (Str.ofString " where it must be").length ≤ sizeLine := by
        have e1 : (Str.ofString "there is no ").length = 12 := by decide +kernel
        have e2 : (Str.ofString " where it must be").length = 17 := by decide +kernel
        rw [e1, e2, sv_len]
        have : (1029 : Nat) ≤ sizeLine := by decide
        omega
      exact ⟨_, rfl, _, rfl, hsz, by show 1 ≤ sizeLine; decide, k _⟩
    | some ts' =>
      rw [e] at k
      intro H' a b
      refine ⟨_, rfl, ?_⟩
      refine iteF ?_
      exact k H' a b
def spTakes (RC WT : Addr) : Sp := fun vs H Q E => ∃ (r l : Addr) (srt : Str) (ts : List Tk), vs = [.ref r, .str srt] ∧ srt.length ≤ 1000 ∧ RdAt RC H r l ts ∧ giveTake RC WT r l srt ts H Q E
theorem scTakes : FnScope ["self", "sort", "held"] ["self", "sort"] (defScope sReaderTakes) := ⟨rfl, rfl, rfl, by decide +kernel, rfl, by decide +kernel, by decide +kernel⟩
theorem ok_takes (D : DfM K RC "takes" "Reader.takes" sReaderTakes ["self", "sort"]) (T : RdT K RC) (T0 : Txt K mg WT) (GE : OkM P w K mg base CX0 1 RC "ended" ["self"] (spReaderEnded RC)) :
    OkM P w K mg base (CXW P w) 2 RC "takes" ["self", "sort"] (spTakes RC WT) := by
  refine D.okX scTakes (fun vs H Q E h => ?_) (fun f cdv A outer s H vs Q E hr h => ?_)
  · obtain ⟨r, l, srt, ts, rfl, _⟩ := h; rfl
  · obtain ⟨r, l, srt, ts, rfl, hl, hR, k⟩ := h
    refine ⟨_, pss_cons (ps_if (PW.pt (pw_or (pt_val (pe_mt0 GE T.cl hr pass0 (pv 0))) (pw_or1 (pt_cmpR op_ne (pe_ix ix_tup (pe_ix ix_list (pe_fld (pv 0) rfl) (pe_fld (pv 0) rfl) (fun _ _ => rfl)) pe_int (fun _ _ => rfl)) (pv 1) (nomark _)))))
        (pss_one (ps_raise PySem.F.excBase_ValueError T0.exc rfl (by rfl) T0.wt (pa_cons (pe_f3 (pv 1)) pa_nil) rz_cx)) pss_nil)
      (pss_cons (ps_set (i := 2) scTakes.nd rfl (Or.inl rfl) (pe_ix ix_tup (pe_ix ix_list (pe_fld (pv 0) rfl) (pe_fld (pv 0) rfl) (fun _ _ => rfl)) pe_int (fun _ _ => rfl)))
      (pss_cons (ps_fldaug (pv 0) pe_int in_add) (pss_one (ps_ret (pv 2))))), ?_⟩
    obtain ⟨dx, as, all, p, h1, h2, h3, h4, h5, h6, he⟩ := hR.ex
    have hsz : (Str.ofString "there is no ").length + srt.length + (Str.ofString " where it must be").length ≤ sizeLine := by
      have e1 : (Str.ofString "there is no ").length = 12 := by decide +kernel
      have e2 : (Str.ofString " where it must be").length = 17 := by decide +kernel
      rw [e1, e2]
      have : (1029 : Nat) ≤ sizeLine := by decide
      omega
    refine ⟨_, rfl, r, dx, _, rfl, h1, rf_no _ _ (by decide +kernel) (by decide +kernel), r, l, ts, rfl, hR, _, rfl, ?_⟩
    cases hts : ts with
    | nil =>
      subst hts
      show if true = true then _ else _
      rw [if_pos rfl]
      refine iteT ?_
      exact ⟨_, rfl, _, rfl, hsz, by show 1 ≤ sizeLine; decide, k _⟩
    | cons u ts' =>
      show if false = true then _ else _
      rw [if_neg (by simp)]
      rw [hts] at he k
      have hp : p < all.length := by
        refine Nat.lt_of_not_le fun z => ?_
        rw [List.drop_of_length_le z] at he; cases he
      have hu : all[p]? = some u := by
        have := congrArg (fun l => l[0]?) he.symm
        rw [List.getElem?_drop] at this
        exact this
      obtain ⟨ua, hua, hu2⟩ := pairs_at h3 hu
      rw [u.vs_eq] at hu2
      refine ⟨_, rfl, r, RC, dx, _, _, rfl, h1, T.cl, T.tokens, rf_tokens _ _, _, rfl, r, RC, dx, _, _, rfl, h1, T.cl, T.place, rf_place _ _, l, _, _, .ref ua, rfl, rfl, SqL.of h2, atI_nat (by rw [List.getElem?_map, hua]; rfl), ?_⟩
      refine ⟨ua, _, 0, _, rfl, rfl, SqT.of hu2, atI_nat (j := 0) rfl, _, rfl, rfl, _, rfl, ?_⟩
      show if (!decide (V.str u.sort = V.str srt)) = true then _ else _
      by_cases hs : u.sort = srt
      · have k2 : ∀ H', RdAt RC H' r l ts' → Fx [r] H H' → u.ok → Q u.held H' := by
          have := k; rw [giveTake_cons, if_pos hs] at this; exact this
        rw [decide_eq_true (by rw [hs])]
        refine iteF ?_
        refine ⟨_, rfl, r, RC, dx, _, _, rfl, h1, T.cl, T.tokens, rf_tokens _ _, _, rfl, r, RC, dx, _, _, rfl, h1, T.cl, T.place, rf_place _ _, l, _, _, .ref ua, rfl, rfl, SqL.of h2, atI_nat (by rw [List.getElem?_map, hua]; rfl), ?_⟩
        refine ⟨ua, _, 1, _, rfl, rfl, SqT.of hu2, atI_nat (j := 1) rfl, ?_⟩
        refine ⟨_, rfl, r, RC, dx, _, _, rfl, h1, T.cl, T.place, rf_place _ _, _, _, rfl, rfl, dx, _, h1, (by show 2 < 1000; decide), ?_⟩
        have e : putF "place" (V.int ((p : Int) + 1)) (rf l p) = rf l (p + 1) := rf_put l p (p + 1)
        rw [e]
        exact ⟨_, rfl, k2 _ (RdAt.next h1 h2 h3 h5 h6 he.symm) (Fx.set List.mem_cons_self) (h6 u (List.mem_of_getElem? hu))⟩
      · have k2 : ∀ H', E (.ref WT) none H' := by
          have := k; rw [giveTake_cons, if_neg hs] at this; exact this
        rw [decide_eq_false (by intro z; injection z with z; exact hs z)]
        refine iteT ?_
        exact ⟨_, rfl, _, rfl, hsz, by show 1 ≤ sizeLine; decide, k2 _⟩
end
end Th
set_option Elab.async false
set_option linter.all false
set_option maxRecDepth 100000
set_option maxHeartbeats 4000000
namespace Th
open PySem L2
def oi : Option Int → V
  | none => .non
  | some z => .int z
def kf (form : Str) (target : List Nat) (low high : Option Int) (pl : Addr) (roots : Nat) (ext : Bool) (pa op : Addr) (waits : Bool) : List (Str × V) :=
  [("form", .str form), ("target", sv target), ("low", oi low), ("high", oi high), ("places", .ref pl), ("roots", .int (roots : Int)), ("extensible", .bl ext), ("parts", .ref pa), ("needed", .ref op), ("waits", .bl waits)]
section
variable (form : Str) (target : List Nat) (low high : Option Int) (pl : Addr) (roots : Nat) (ext : Bool) (pa op : Addr) (waits : Bool)
theorem kf_form : (kf form target low high pl roots ext pa op waits).lookup ("form" : Str) = some (.str form) := by rfl
theorem kf_target : (kf form target low high pl roots ext pa op waits).lookup ("target" : Str) = some (sv target) := by rfl
theorem kf_low : (kf form target low high pl roots ext pa op waits).lookup ("low" : Str) = some (oi low) := by rfl
theorem kf_places : (kf form target low high pl roots ext pa op waits).lookup ("places" : Str) = some (.ref pl) := by rfl
theorem kf_roots : (kf form target low high pl roots ext pa op waits).lookup ("roots" : Str) = some (.int (roots : Int)) := by rfl
theorem kf_ext : (kf form target low high pl roots ext pa op waits).lookup ("extensible" : Str) = some (.bl ext) := by rfl
theorem kf_parts : (kf form target low high pl roots ext pa op waits).lookup ("parts" : Str) = some (.ref pa) := by rfl
theorem kf_opt : (kf form target low high pl roots ext pa op waits).lookup ("needed" : Str) = some (.ref op) := by rfl
theorem kf_waits : (kf form target low high pl roots ext pa op waits).lookup ("waits" : Str) = some (.bl waits) := by rfl
theorem kf_target_put (t : List Nat) : putF "target" (sv t) (kf form target low high pl roots ext pa op waits) = kf form t low high pl roots ext pa op waits := by rfl
theorem kf_low_put (z : Option Int) : putF "low" (oi z) (kf form target low high pl roots ext pa op waits) = kf form target z high pl roots ext pa op waits := by rfl
theorem kf_high_put (z : Option Int) : putF "high" (oi z) (kf form target low high pl roots ext pa op waits) = kf form target low z pl roots ext pa op waits := by rfl
theorem kf_roots_put (n : Nat) : putF "roots" (.int (n : Int)) (kf form target low high pl roots ext pa op waits) = kf form target low high pl n ext pa op waits := by rfl
theorem kf_ext_put (b : Bool) : putF "extensible" (.bl b) (kf form target low high pl roots ext pa op waits) = kf form target low high pl roots b pa op waits := by rfl
theorem kf_waits_put (b : Bool) : putF "waits" (.bl b) (kf form target low high pl roots ext pa op waits) = kf form target low high pl roots ext pa op b := by rfl
end
structure KdT (K : PySem.W.Frag) (KC : Addr) : Prop where
  cl : Cls K KC
  form : NoAttr K KC "form"
  target : NoAttr K KC "target"
  low : NoAttr K KC "low"
  high : NoAttr K KC "high"
  places : NoAttr K KC "places"
  roots : NoAttr K KC "roots"
  ext : NoAttr K KC "extensible"
  parts : NoAttr K KC "parts"
  opt : NoAttr K KC "needed"
  waits : NoAttr K KC "waits"
inductive Kd where
  | mk (form : Str) (target : List Nat) (low high : Option Int) (names : List (List Nat)) (roots : Nat) (ext : Bool) (parts : List Kd) (opts : List Bool)
structure Kr where
  form : Str
  target : List Nat := []
  low : Option Int := none
  high : Option Int := none
  names : List (List Nat) := []
  roots : Nat := 0
  ext : Bool := false
  parts : List Kd := []
  opts : List Bool := []
  waits : Bool := false
def Kr.fin (k : Kr) : Kd := .mk k.form k.target k.low k.high k.names k.roots k.ext k.parts k.opts
structure Fm where
  a : Addr
  pl : Addr
  pa : Addr
  op : Addr
def Fm.l (f : Fm) : List Addr := [f.a, f.pl, f.pa, f.op]
def nmdF (i : Nat) : List (List Nat) → List (Key × V)
  | [] => []
  | n :: r => (Sum.inr ⟨n.toArray⟩, .int (i : Int)) :: nmdF (i + 1) r
def nmd (l : List (List Nat)) : List (Key × V) := nmdF 0 l
theorem nmdF_snoc (n : List Nat) : ∀ (l : List (List Nat)) (i : Nat), nmdF i (l ++ [n]) = nmdF i l ++ [(Sum.inr ⟨n.toArray⟩, .int ((i + l.length : Nat) : Int))]
  | [], i => rfl
  | m :: r, i => by
    show _ :: nmdF (i + 1) (r ++ [n]) = _ :: _
    rw [nmdF_snoc n r (i + 1)]
    simp only [List.length_cons, List.cons_append]
    rw [show i + 1 + r.length = i + (r.length + 1) by omega]
    rfl
theorem nmdF_len : ∀ (l : List (List Nat)) (i : Nat), (nmdF i l).length = l.length
  | [], _ => rfl
  | _ :: r, i => by show (nmdF (i + 1) r).length + 1 = _; rw [nmdF_len r]; rfl
theorem nmdF_val (n : List Nat) : ∀ (l : List (List Nat)) (i : Nat), (valV (nmdF i l) (Sum.inr (⟨n.toArray⟩ : Str))).isSome = decide (n ∈ l)
  | [], i => rfl
  | m :: r, i => by
    by_cases e : m = n
    · subst e
      rw [nmdF, valV_pos rfl]
      simp
    · have e1 : ¬ ((Sum.inr ⟨m.toArray⟩ : Key) = Sum.inr ⟨n.toArray⟩) := fun z => e (by injection z with z; injection z with z; simpa using z)
      rw [nmdF, valV_neg e1, nmdF_val n r (i + 1)]
      have : n ∈ m :: r ↔ n ∈ r := by rw [List.mem_cons]; exact ⟨fun z => z.resolve_left (fun z => e z.symm), .inr⟩
      simp only [this]
def cnt (l : List Bool) : Nat := l.countP fun b => !b
def need (l : List Bool) : List V := (List.range (l.length + 1)).map fun i => V.int ((cnt (l.take i) : Nat) : Int)
theorem need_last (l : List Bool) : need l = ((List.range l.length).map fun i => V.int ((cnt (l.take i) : Nat) : Int)) ++ [V.int ((cnt l : Nat) : Int)] := by
  unfold need; rw [List.range_succ, List.map_append, List.map_singleton, List.take_length]
theorem cnt_snoc (l : List Bool) (b : Bool) : cnt (l ++ [b]) = cnt l + (if b = true then 0 else 1) := by
  unfold cnt; rw [List.countP_append]; cases b <;> rfl
theorem need_snoc (l : List Bool) (b : Bool) : need (l ++ [b]) = need l ++ [V.int ((cnt l + (if b = true then 0 else 1) : Nat) : Int)] := by
  rw [need_last (l ++ [b]), cnt_snoc, List.length_append, List.length_singleton]
  congr 1
  unfold need
  refine List.map_congr_left fun i hi => ?_
  rw [List.take_append_of_le_length (by have := List.mem_range.mp hi; omega)]
theorem need_len (l : List Bool) : (need l).length = l.length + 1 := by unfold need; rw [List.length_map, List.length_range]
mutual
/-- a read kind stands at an address, apart from M -/
inductive KAt (KC : Addr) (M : List Addr) (H : Hp) : Addr → Kd → Prop
  | mk {f : Fm} {dx : Addr} {as : List Addr} {form : Str} {target : List Nat} {low high : Option Int} {names : List (List Nat)} {roots : Nat} {ext : Bool} {parts : List Kd} {opts : List Bool} :
      H f.a = some (.ins KC dx (kf form target low high f.pl roots ext f.pa f.op false)) → H f.pl = some (.dK (nmd names)) → H f.pa = some (.lst (as.map V.ref)) → H f.op = some (.lst (need opts)) →
      (∀ b ∈ f.l, b ∉ M) → KsAt KC M H as parts → KAt KC M H f.a (.mk form target low high names roots ext parts opts)
inductive KsAt (KC : Addr) (M : List Addr) (H : Hp) : List Addr → List Kd → Prop
  | nil : KsAt KC M H [] []
  | cons {a : Addr} {as : List Addr} {k : Kd} {ks : List Kd} : KAt KC M H a k → KsAt KC M H as ks → KsAt KC M H (a :: as) (k :: ks)
end
mutual
theorem KAt.move {KC : Addr} {M M' : List Addr} {H H' : Hp} (hF : Fx M H H') (hM : ∀ b, b ∈ M' → b ∈ M ∨ H b = none) : ∀ {a : Addr} {k : Kd}, KAt KC M H a k → KAt KC M' H' a k
  | _, _, .mk (f := f) h1 h2 h3 h4 h5 h6 => by
    have m : ∀ {b : Addr} {o : HO}, b ∈ f.l → H b = some o → H' b = some o ∧ b ∉ M' := fun {b o} hb e => ⟨hF b o (h5 b hb) e, fun z => by
      rcases hM b z with q | q
      · exact h5 b hb q
      · rw [q] at e; cases e⟩
    have i1 : f.a ∈ f.l := by simp [Fm.l]
    have i2 : f.pl ∈ f.l := by simp [Fm.l]
    have i3 : f.pa ∈ f.l := by simp [Fm.l]
    have i4 : f.op ∈ f.l := by simp [Fm.l]
    refine .mk (m i1 h1).1 (m i2 h2).1 (m i3 h3).1 (m i4 h4).1 (fun b hb => ?_) (KsAt.move hF hM h6)
    have hb' : b = f.a ∨ b = f.pl ∨ b = f.pa ∨ b = f.op := by simpa [Fm.l] using hb
    rcases hb' with z | z | z | z
    · rw [z]; exact (m i1 h1).2
    · rw [z]; exact (m i2 h2).2
    · rw [z]; exact (m i3 h3).2
    · rw [z]; exact (m i4 h4).2
theorem KsAt.move {KC : Addr} {M M' : List Addr} {H H' : Hp} (hF : Fx M H H') (hM : ∀ b, b ∈ M' → b ∈ M ∨ H b = none) : ∀ {as : List Addr} {ks : List Kd}, KsAt KC M H as ks → KsAt KC M' H' as ks
  | _, _, .nil => .nil
  | _, _, .cons a b => .cons (KAt.move hF hM a) (KsAt.move hF hM b)
end
structure KrAt (KC : Addr) (M : List Addr) (H : Hp) (f : Fm) (k : Kr) : Prop where
  ex : ∃ (dx : Addr) (as : List Addr), H f.a = some (.ins KC dx (kf k.form k.target k.low k.high f.pl k.roots k.ext f.pa f.op k.waits)) ∧ H f.pl = some (.dK (nmd k.names)) ∧ H f.pa = some (.lst (as.map V.ref)) ∧ H f.op = some (.lst (need k.opts)) ∧ KsAt KC M H as k.parts ∧ f.l.Nodup
end Th
set_option Elab.async false
set_option linter.all false
set_option maxRecDepth 100000
set_option maxHeartbeats 4000000
namespace Th
open PySem L2
section
variable {P : Program} {w : World} {K : PySem.W.Frag} {mg : Str → Option Value} {base : Heap} {WT RC KC : Addr}
def spKindInit (KC : Addr) : Sp := fun vs H Q _ => ∃ (x dx : Addr) (form : Str), vs = [.ref x, .str form] ∧ H x = some (.ins KC dx []) ∧
  ∀ (f : Fm) (H' : Hp), f.a = x → H' x = some (.ins KC dx (kf form [] none none f.pl 0 false f.pa f.op false)) → H' f.pl = some (.dK []) → H' f.pa = some (.lst []) → H' f.op = some (.lst [.int 0]) → H f.pl = none → H f.pa = none → H f.op = none → f.pa ≠ f.op → Fx [x] H H' → Q .non H'
theorem scKindInit : FnScope ["self", "form"] ["self", "form"] (defScope sKindInit) := ⟨rfl, rfl, rfl, by decide +kernel, rfl, by decide +kernel, by decide +kernel⟩
theorem ok_kind_init (D : DfI K mg "Kind" KC "Kind.__init__" sKindInit ["self", "form"]) (T : KdT K KC) : OkI P w K mg base CX0 1 "Kind" KC ["self", "form"] (spKindInit KC) := by
  refine D.ok scKindInit (fun vs H Q E h => ?_) (fun f cdv A outer s H vs Q E hr h => ?_)
  · obtain ⟨r, dx, l, rfl, _⟩ := h; rfl
  · obtain ⟨x, dx, form, rfl, h1, k⟩ := h
    refine ⟨_, pss_cons (ps_fld (pv 0) (pv 1) rfl) (pss_cons (ps_fld (pv 0) pe_str rfl) (pss_cons (ps_fld (pv 0) pe_non rfl) (pss_cons (ps_fld (pv 0) pe_non rfl) (pss_cons (ps_fld (pv 0) pe_dnewK rfl)
      (pss_cons (ps_fld (pv 0) pe_int rfl) (pss_cons (ps_fld (pv 0) pe_bl rfl) (pss_cons (ps_fld (pv 0) (pe_lst pa_nil) rfl) (pss_cons (ps_fld (pv 0) (pe_lst (pa_cons pe_int pa_nil)) rfl) (pss_one (ps_fld (pv 0) pe_bl rfl)))))))))), ?_⟩
    refine ⟨_, rfl, _, rfl, x, KC, dx, [], rfl, h1, T.cl, T.form, (by show 0 < 1000; decide), ?_⟩
    refine ⟨_, rfl, x, KC, dx, _, rfl, upd_same, T.cl, T.target, (by show 1 < 1000; decide), ?_⟩
    refine ⟨_, rfl, x, KC, dx, _, rfl, upd_same, T.cl, T.low, (by show 2 < 1000; decide), ?_⟩
    refine ⟨_, rfl, x, KC, dx, _, rfl, upd_same, T.cl, T.high, (by show 3 < 1000; decide), ?_⟩
    intro pl hpl
    have npl : pl ≠ x := fun z => by rw [z, upd_same] at hpl; cases hpl
    refine ⟨_, rfl, x, KC, dx, _, rfl, by rw [upd_ne npl.symm]; exact upd_same, T.cl, T.places, (by show 4 < 1000; decide), ?_⟩
    refine ⟨_, rfl, x, KC, dx, _, rfl, upd_same, T.cl, T.roots, (by show 5 < 1000; decide), ?_⟩
    refine ⟨_, rfl, x, KC, dx, _, rfl, upd_same, T.cl, T.ext, (by show 6 < 1000; decide), ?_⟩
    refine ⟨by decide, fun pa hpa => ?_⟩
    have npa : pa ≠ x := fun z => by rw [z, upd_same] at hpa; cases hpa
    refine ⟨_, rfl, x, KC, dx, _, rfl, by rw [upd_ne npa.symm]; exact upd_same, T.cl, T.parts, (by show 7 < 1000; decide), ?_⟩
    refine ⟨by decide, fun op hop => ?_⟩
    have nop : op ≠ x := fun z => by rw [z, upd_same] at hop; cases hop
    refine ⟨_, rfl, x, KC, dx, _, rfl, by rw [upd_ne nop.symm]; exact upd_same, T.cl, T.opt, (by show 8 < 1000; decide), ?_⟩
    refine ⟨_, rfl, x, KC, dx, _, rfl, upd_same, T.cl, T.waits, (by show 9 < 1000; decide), ?_⟩
    repeat rw [upd_ne npl] at hpl
    repeat rw [upd_ne npa] at hpa
    repeat rw [upd_ne nop] at hop
    have n1 : pa ≠ pl := fun z => by rw [z, upd_same] at hpa; cases hpa
    rw [upd_ne n1] at hpa
    repeat rw [upd_ne npa] at hpa
    have n2 : op ≠ pa := fun z => by rw [z, upd_same] at hop; cases hop
    rw [upd_ne n2] at hop
    repeat rw [upd_ne nop] at hop
    have n3 : op ≠ pl := fun z => by rw [z, upd_same] at hop; cases hop
    rw [upd_ne n3] at hop
    repeat rw [upd_ne nop] at hop
    refine k ⟨x, pl, pa, op⟩ _ rfl (by rw [upd_same]; rfl) ?_ ?_ ?_ hpl hpa hop n2.symm fun b o n e => ?_
    · repeat first | rw [upd_ne npl] | rw [upd_ne n1.symm] | rw [upd_ne n3.symm] | rw [upd_same]
    · repeat first | rw [upd_ne npa] | rw [upd_ne n2.symm] | rw [upd_same]
    · repeat first | rw [upd_ne nop] | rw [upd_same]
    · have hb : b ≠ x := fun z => n (by rw [z]; exact List.mem_cons_self)
      repeat first | rw [upd_ne hb] | rw [upd_ne (ne_of_none e hop)] | rw [upd_ne (ne_of_none e hpa)] | rw [upd_ne (ne_of_none e hpl)]
      exact e
structure NewK (KC : Addr) (H H' : Hp) (f : Fm) (form : Str) : Prop where
  at_ : ∀ M, KrAt KC M H' f { form := form }
  new : ∀ b ∈ f.l, H b = none
  keep : Fx [] H H'
theorem make_kind {form : Str} {H : Hp} {Q : VK} (h : ∀ (f : Fm) (H' : Hp), NewK KC H H' f form → Q (.ref f.a) H') : ∀ x dx, H x = none → H dx = none → dx ≠ x →
    spKindInit KC [.ref x, .str form] (upd (upd H dx (.own x)) x (.ins KC dx [])) (fun v H2 => v = .non ∧ Q (.ref x) H2) E0 := by
  intro x dx hx hdx hne
  refine ⟨x, dx, form, rfl, upd_same, fun f H' e h1 h2 h3 h4 n2 n3 n4 n5 hF => ⟨rfl, ?_⟩⟩
  subst e
  have a1 : f.pl ≠ f.a := fun z => by rw [z, upd_same] at n2; cases n2
  have a2 : f.pa ≠ f.a := fun z => by rw [z, upd_same] at n3; cases n3
  have a3 : f.op ≠ f.a := fun z => by rw [z, upd_same] at n4; cases n4
  have d1 : f.pl ≠ dx := fun z => by rw [z, upd_ne hne, upd_same] at n2; cases n2
  have d2 : f.pa ≠ dx := fun z => by rw [z, upd_ne hne, upd_same] at n3; cases n3
  have d3 : f.op ≠ dx := fun z => by rw [z, upd_ne hne, upd_same] at n4; cases n4
  rw [upd_ne a1, upd_ne d1] at n2
  rw [upd_ne a2, upd_ne d2] at n3
  rw [upd_ne a3, upd_ne d3] at n4
  have n12 : f.pl ≠ f.pa := ne_of h2 h3 (by intro z; cases z)
  have n13 : f.pl ≠ f.op := ne_of h2 h4 (by intro z; cases z)
  refine h f H' ⟨fun M => ⟨dx, [], h1, h2, h3, h4, .nil, ?_⟩, fun b hb => ?_, fun b o _ e => ?_⟩
  · simp [Fm.l, a1.symm, a2.symm, a3.symm, n12, n13, n5]
  · have hb' : b = f.a ∨ b = f.pl ∨ b = f.pa ∨ b = f.op := by simpa [Fm.l] using hb
    rcases hb' with z | z | z | z
    · rw [z]; exact hx
    · rw [z]; exact n2
    · rw [z]; exact n3
    · rw [z]; exact n4
  · have b1 : b ≠ f.a := ne_of_none e hx
    refine hF b o (by simpa using b1) ?_
    rw [upd_ne b1, upd_ne (ne_of_none e hdx)]; exact e
end
end Th
set_option Elab.async false
set_option linter.all false
set_option maxRecDepth 100000
set_option maxHeartbeats 4000000
namespace Th
open PySem L2
abbrev cd (s : String) : List Nat := s.toList.map Char.toNat
def OWN : List (List Nat) := [cd "BIT", cd "BOOLEAN", cd "CHOICE", cd "ENUMERATED", cd "FALSE", cd "INTEGER", cd "MAX", cd "MIN", cd "NULL", cd "OCTET", cd "OF", cd "OPTIONAL", cd "SEQUENCE", cd "SIZE", cd "STRING", cd "TRUE"]
def LEAST : Int := -9223372036854775808
def MOST : Int := 9223372036854775807
structure Txs (K : PySem.W.Frag) (mg : Str → Option Value) : Prop where
  kinds : Cst mg "MOST_KINDS" (.int 256)
  least : Cst mg "LEAST_INTEGER" (.int LEAST)
  most : Cst mg "MOST_INTEGER" (.int MOST)
  size : Cst mg "MOST_SIZE" (.int 65535)
  named : Cst mg "NAMED" (.str "a name")
  seqof : Cst mg "SEQUENCE_OF" (.str "SEQUENCE OF")
  own : ∃ a, mg "OWN_WORDS" = some (.ref a) ∧ ∀ H, SqT K H a (OWN.map sv)
theorem srt_num (z : Int) : (Tk.num z).sort = "number" := rfl
theorem srt_word (l : List Nat) : (Tk.word l).sort = "word" := rfl
theorem srt_not_num {t : Tk} (h : ∀ z, t ≠ .num z) : ¬ t.sort = "number" := by
  have n1 : ¬ (Str.ofString "word" = Str.ofString "number") := by decide +kernel
  have n2 : ¬ (Str.ofString "bits" = Str.ofString "number") := by decide +kernel
  have n3 : ¬ (Str.ofString "octets" = Str.ofString "number") := by decide +kernel
  have n4 : ¬ (Str.ofString "sign" = Str.ofString "number") := by decide +kernel
  cases t with
  | word l => exact n1
  | num z => exact absurd rfl (h z)
  | bits l => exact n2
  | octs l => exact n3
  | sign l => exact n4
theorem srt_not_word {t : Tk} (h : ∀ z, t ≠ .word z) : ¬ t.sort = "word" := by
  have n1 : ¬ (Str.ofString "number" = Str.ofString "word") := by decide +kernel
  have n2 : ¬ (Str.ofString "bits" = Str.ofString "word") := by decide +kernel
  have n3 : ¬ (Str.ofString "octets" = Str.ofString "word") := by decide +kernel
  have n4 : ¬ (Str.ofString "sign" = Str.ofString "word") := by decide +kernel
  cases t with
  | word l => exact absurd rfl (h l)
  | num z => exact n1
  | bits l => exact n2
  | octs l => exact n3
  | sign l => exact n4
def headUp (w : List Nat) : Bool := match w with | c :: _ => upC c | [] => false
def headLow (w : List Nat) : Bool := match w with | c :: _ => lowC c | [] => false
def kindName (w : List Nat) : Bool := headUp w && !decide (w ∈ OWN)
def mNumber (lo hi : Int) : List Tk → Option (Int × List Tk)
  | .num z :: r => if z < lo ∨ hi < z then none else some (z, r)
  | _ => none
def mHigh (low : Option Int) (lo hi : Int) (ts : List Tk) : Option (Option Int × List Tk) := match skipT (.sign (cd "..")) ts with
  | none => match low with
    | none => none
    | some a => some (some a, ts)
  | some r => match skipT (.word (cd "MAX")) r with
    | some r2 => some (none, r2)
    | none => match mNumber lo hi r with
      | none => none
      | some (h, r2) => if (low.any fun a => decide (h < a)) = true then none else some (some h, r2)
def giveO {α : Type} (RC WT r l : Addr) (o : Option (α × List Tk)) (val : α → V) (H : Hp) (Q : VK) (E : XK) : Prop := match o with
  | some x => ∀ H', RdAt RC H' r l x.2 → Fx [r] H H' → Q (val x.1) H'
  | none => ∀ H', E (.ref WT) none H'
theorem inV_sv (w : List Nat) : ∀ l : List (List Nat), inV (sv w) (l.map sv) = decide (w ∈ l)
  | [] => rfl
  | m :: r => by
    show (eqV (sv m) (sv w) || inV (sv w) (r.map sv)) = _
    rw [inV_sv w r]
    show (((⟨m.toArray⟩ : Str) == (⟨w.toArray⟩ : Str)) || decide (w ∈ r)) = _
    rw [str_eq]
    by_cases e : m = w
    · rw [decide_eq_true e, Bool.true_or, decide_eq_true (by rw [e]; exact List.mem_cons_self)]
    · rw [decide_eq_false e, Bool.false_or]
      have : w ∈ m :: r ↔ w ∈ r := by rw [List.mem_cons]; exact ⟨fun z => z.resolve_left (fun z => e z.symm), .inr⟩
      simp only [this]
theorem flat_sv (l : List (List Nat)) : (l.map sv).all flatV = true := by
  rw [List.all_map, List.all_eq_true]; intro x _; rfl
section
variable {P : Program} {w : World} {K : PySem.W.Frag} {mg : Str → Option Value} {base : Heap} {WT RC KC : Addr}
def spCheckedName (WT : Addr) : Sp := fun vs H Q E => ∃ w : List Nat, vs = [sv w] ∧ (w ≠ [] ∧ ∀ c ∈ w, c < 128) ∧ w.length ≤ 65536 ∧ (kindName w = true → Q (sv w) H) ∧ (kindName w = false → ∀ H', E (.ref WT) none H')
theorem scCheckedName : FnScope ["word"] ["word"] (defScope sCheckedKindName) := ⟨rfl, rfl, rfl, by decide +kernel, rfl, by decide +kernel, by decide +kernel⟩
theorem ok_checked_name (D : Df K mg "checked_kind_name" sCheckedKindName ["word"]) (T0 : Txt K mg WT) (T : Txs K mg) : Ok P w K mg base (CXW P w) 1 "checked_kind_name" ["word"] (spCheckedName WT) := by
  refine D.okX scCheckedName (fun vs H Q E h => ?_) (fun f cdv A outer s H vs Q E hr h => ?_)
  · obtain ⟨w, rfl, _⟩ := h; rfl
  · obtain ⟨w, rfl, ⟨hne, h8⟩, hl, k1, k2⟩ := h
    obtain ⟨ow, how, hs⟩ := T.own
    refine ⟨_, pss_cons (ps_if (PW.pt (pw_or (pt_not (pt_val (pe_m0 PySem.F.slot_str_isupper PySem.F.type_str_isupper mt_isupper (pe_ix ix_str (pv 0) pe_int (fun _ _ => rfl))))) (pw_or1 (pt_cmpR op_in_seq (pv 0) (pe_glob (v := .ref ow) (by rfl) how rfl) (by with_unfolding_all rfl)))))
        (pss_one (ps_raise PySem.F.excBase_ValueError T0.exc rfl (by rfl) T0.wt (pa_cons pe_str pa_nil) rz_cx)) pss_nil) (pss_one (ps_ret (pv 0))), ?_⟩
    cases w with
    | nil => exact absurd rfl hne
    | cons c r =>
      refine ⟨_, rfl, _, _, c, rfl, rfl, small hl, at_sv (p := 0) rfl, ⟨_, rfl⟩, _, rfl, rfl, trivial, _, rfl, ?_⟩
      rw [one_up c (h8 c List.mem_cons_self)]
      have hn : kindName (c :: r) = (upC c && !decide (c :: r ∈ OWN)) := rfl
      by_cases hu : upC c = true
      · rw [hu] at hn ⊢
        rw [Bool.true_and] at hn
        show if (!true) = true then _ else _
        rw [if_neg (by simp)]
        refine ⟨_, rfl, ow, _, rfl, .inr (hs _), rfl, flat_sv _, _, rfl, ?_⟩
        show if inV (sv (c :: r)) (OWN.map sv) = true then _ else _
        rw [inV_sv]
        refine ite2 (fun hc => ?_) (fun hc => ?_)
        · exact ⟨by decide, k2 (by rw [hn, hc]; rfl) _⟩
        · exact ⟨_, rfl, k1 (by rw [hn]; simpa using hc)⟩
      · have hu' : upC c = false := by simpa using hu
        rw [hu'] at hn ⊢
        show if (!false) = true then _ else _
        rw [if_pos (by decide)]
        exact iteT ⟨by decide, k2 hn _⟩
def spReadNumber (RC WT : Addr) : Sp := fun vs H Q E => ∃ (r l : Addr) (lo hi : Int) (ts : List Tk), vs = [.ref r, .int lo, .int hi] ∧ RdAt RC H r l ts ∧ giveO RC WT r l (mNumber lo hi ts) V.int H Q E
theorem scReadNumber : FnScope ["self", "least", "most", "number"] ["self", "least", "most"] (defScope sReaderTakesNumber) := ⟨rfl, rfl, rfl, by decide +kernel, rfl, by decide +kernel, by decide +kernel⟩
theorem ok_takes_number (D : DfM K RC "takes_number" "Reader.takes_number" sReaderTakesNumber ["self", "least", "most"]) (T0 : Txt K mg WT) (TR : RdT K RC) (GT : OkM P w K mg base (CXW P w) 2 RC "takes" ["self", "sort"] (spTakes RC WT)) : OkM P w K mg base (CXW P w) 3 RC "takes_number" ["self", "least", "most"] (spReadNumber RC WT) := by
  refine D.okX scReadNumber (fun vs H Q E h => ?_) (fun f cdv A outer s H vs Q E hr h => ?_)
  · obtain ⟨r, l, lo, hi, ts, rfl, _⟩ := h; rfl
  · obtain ⟨r, l, lo, hi, ts, rfl, hR, k⟩ := h
    refine ⟨_, pss_cons (ps_set (i := 3) scReadNumber.nd rfl (Or.inl rfl) (pe_mt GT TR.cl hr pass_cx (pv 0) (pa_cons (pe_k T0.number) pa_nil)))
      (pss_cons (ps_if (PW.pt (pw_or (pt_cmpR op_lt (pv 3) (pv 1) (nomark _)) (pw_or1 (pt_cmpR op_gt (pv 3) (pv 2) (nomark _))))) (pss_one (ps_raise PySem.F.excBase_ValueError T0.exc rfl (by rfl) T0.wt (pa_cons pe_str pa_nil) rz_cx)) pss_nil)
      (pss_one (ps_ret (pv 3)))), ?_⟩
    obtain ⟨dx, p, h1⟩ := hR.obj
    refine ⟨_, rfl, r, dx, _, rfl, h1, rf_no _ _ (by decide +kernel) (by decide +kernel), r, l, "number", ts, rfl, by decide +kernel, hR, ?_⟩
    cases ts with
    | nil => exact fun H' => k H'
    | cons t ts' =>
      rw [giveTake_cons]
      cases t with
      | num z =>
        rw [if_pos (srt_num z)]
        intro H' hR' hF _
        have km : mNumber lo hi (.num z :: ts') = if z < lo ∨ hi < z then none else some (z, ts') := rfl
        rw [km] at k
        refine ⟨_, rfl, _, rfl, _, _, rfl, rfl, _, rfl, ?_⟩
        refine ite2 (fun hc => ?_) (fun hc => ?_)
        · rw [if_pos (.inl (of_decide_eq_true hc))] at k
          exact iteT ⟨by decide, k _⟩
        · refine ⟨_, rfl, _, rfl, _, _, rfl, rfl, _, rfl, ?_⟩
          refine ite2 (fun hc2 => ?_) (fun hc2 => ?_)
          · rw [if_pos (.inr (of_decide_eq_true hc2))] at k
            exact ⟨by decide, k _⟩
          · rw [if_neg (fun z => z.elim (fun z => hc (decide_eq_true z)) fun z => hc2 (decide_eq_true z))] at k
            exact ⟨_, rfl, k H' hR' hF⟩
      | word a => rw [if_neg (srt_not_num (by intro z e; cases e))]; exact fun H' => k H'
      | bits a => rw [if_neg (srt_not_num (by intro z e; cases e))]; exact fun H' => k H'
      | octs a => rw [if_neg (srt_not_num (by intro z e; cases e))]; exact fun H' => k H'
      | sign a => rw [if_neg (srt_not_num (by intro z e; cases e))]; exact fun H' => k H'
def spReadHigh (RC WT : Addr) : Sp := fun vs H Q E => ∃ (r l : Addr) (low : Option Int) (lo hi : Int) (ts : List Tk), vs = [.ref r, oi low, .int lo, .int hi] ∧ RdAt RC H r l ts ∧ giveO RC WT r l (mHigh low lo hi ts) oi H Q E
theorem scReadHigh : FnScope ["reader", "low", "least", "most", "high"] ["reader", "low", "least", "most"] (defScope sReadHigh) := ⟨rfl, rfl, rfl, by decide +kernel, rfl, by decide +kernel, by decide +kernel⟩
theorem ok_read_high (D : Df K mg "read_high" sReadHigh ["reader", "low", "least", "most"]) (T0 : Txt K mg WT) (TR : RdT K RC) (GS : OkM P w K mg base CX0 3 RC "skips_sign" ["self", "sign"] (spSkipsSign RC)) (GW : OkM P w K mg base CX0 3 RC "skips_word" ["self", "word"] (spSkipsWord RC))
    (GNS : OkM P w K mg base (CXW P w) 4 RC "needs_sign" ["self", "sign"] (spNeedsSign RC WT)) (GN : OkM P w K mg base (CXW P w) 3 RC "takes_number" ["self", "least", "most"] (spReadNumber RC WT)) : Ok P w K mg base (CXW P w) 5 "read_high" ["reader", "low", "least", "most"] (spReadHigh RC WT) := by
  refine D.okX scReadHigh (fun vs H Q E h => ?_) (fun f cdv A outer s H vs Q E hr h => ?_)
  · obtain ⟨r, l, low, lo, hi, ts, rfl, _⟩ := h; rfl
  · obtain ⟨r, l, low, lo, hi, ts, rfl, hR, k⟩ := h
    have hr3 := hr.mono (show 3 ≤ 4 by decide)
    refine ⟨_, pss_cons (ps_if (pt_cmpR op_isN (pv 1) pe_non (nomark _)) (pss_one (ps_expr (pe_mt GNS TR.cl hr pass_cx (pv 0) (pa_cons pe_str pa_nil))))
        (pss_one (ps_if (pt_not (pt_val (pe_mt GS TR.cl hr3 pass0 (pv 0) (pa_cons pe_str pa_nil)))) (pss_one (ps_ret (pv 1))) pss_nil)))
      (pss_cons (ps_if (pt_val (pe_mt GW TR.cl hr3 pass0 (pv 0) (pa_cons pe_str pa_nil))) (pss_one (ps_ret pe_non)) pss_nil)
      (pss_cons (ps_set (i := 4) scReadHigh.nd rfl (Or.inl rfl) (pe_mt GN TR.cl hr3 pass_cx (pv 0) (pa_cons (pv 2) (pa_cons (pv 3) pa_nil))))
      (pss_cons (ps_if (PW.pt (pw_and (pt_cmpR op_notN (pv 1) pe_non (nomark _)) (pw_and1 (pt_cmpR op_lt (pv 4) (pv 1) (nomark _))))) (pss_one (ps_raise PySem.F.excBase_ValueError T0.exc rfl (by rfl) T0.wt (pa_cons pe_str pa_nil) rz_cx)) pss_nil)
      (pss_one (ps_ret (pv 4)))))), ?_⟩
    obtain ⟨dx, p, h1⟩ := hR.obj
    unfold mHigh at k
    refine seq_hold fun R hR0 => ?_
    have rest : ∀ (H1 : Hp) (ts1 : List Tk), skipT (.sign (cd "..")) ts = some ts1 → RdAt RC H1 r l ts1 → Fx [r] H H1 → R [some (.ref r), some (oi low), some (.int lo), some (.int hi), none] H1 := by
      intro H1 ts1 e hR1 hF1
      rw [e] at k
      dsimp only at k
      rw [hR0]
      obtain ⟨dx1, p1, h11⟩ := hR1.obj
      refine ⟨_, rfl, r, dx1, _, rfl, h11, rf_no _ _ (by decide +kernel) (by decide +kernel), r, l, cd "MAX", ts1, rfl, by decide +kernel, hR1, ?_⟩
      unfold giveSkip
      cases e2 : skipT (.word (cd "MAX")) ts1 with
      | some ts2 =>
        rw [e2] at k
        intro H2 hR2 hF2
        refine ⟨_, rfl, iteT ?_⟩
        exact k H2 hR2 (hF1.trans hF2)
      | none =>
        rw [e2] at k
        dsimp only at k
        intro H2 hR2 hF2
        refine ⟨_, rfl, iteF ?_⟩
        obtain ⟨dx2, p2, h12⟩ := hR2.obj
        refine ⟨_, rfl, r, dx2, _, rfl, h12, rf_no _ _ (by decide +kernel) (by decide +kernel), _, rfl, _, rfl, r, l, lo, hi, ts1, rfl, hR2, ?_⟩
        unfold giveO
        cases e3 : mNumber lo hi ts1 with
        | none => rw [e3] at k; exact fun H' => k H'
        | some x =>
          obtain ⟨z, ts3⟩ := x
          rw [e3] at k
          dsimp only at k
          intro H3 hR3 hF3
          cases low with
          | none =>
            refine ⟨_, rfl, rfl, _, rfl, iteF (iteF ?_)⟩
            exact ⟨_, rfl, k H3 hR3 ((hF1.trans hF2).trans hF3)⟩
          | some a =>
            refine ⟨_, rfl, rfl, _, rfl, iteT ?_⟩
            refine ⟨_, rfl, _, rfl, _, _, rfl, rfl, _, rfl, ?_⟩
            refine ite2 (fun hc => ?_) (fun hc => ?_)
            · rw [if_pos (show ((some a).any fun a => decide (z < a)) = true from hc)] at k
              exact ⟨by decide, k _⟩
            · rw [if_neg (show ¬ ((some a).any fun a => decide (z < a)) = true from hc)] at k
              exact ⟨_, rfl, k H3 hR3 ((hF1.trans hF2).trans hF3)⟩
    cases low with
    | none =>
      refine ⟨_, rfl, rfl, _, rfl, iteT ?_⟩
      refine ⟨_, rfl, r, dx, _, rfl, h1, rf_no _ _ (by decide +kernel) (by decide +kernel), r, l, cd "..", ts, rfl, by decide +kernel, hR, ?_⟩
      unfold giveNeed
      cases e : skipT (.sign (cd "..")) ts with
      | none => rw [e] at k; exact fun H' => k H'
      | some ts1 => exact fun H1 hR1 hF1 => rest H1 ts1 e hR1 hF1
    | some a =>
      refine ⟨_, rfl, rfl, _, rfl, iteF ?_⟩
      refine ⟨_, rfl, r, dx, _, rfl, h1, rf_no _ _ (by decide +kernel) (by decide +kernel), r, l, cd "..", ts, rfl, by decide +kernel, hR, ?_⟩
      unfold giveSkip
      cases e : skipT (.sign (cd "..")) ts with
      | none =>
        rw [e] at k
        intro H1 hR1 hF1
        refine ⟨_, rfl, iteT ?_⟩
        exact ⟨_, rfl, k H1 hR1 hF1⟩
      | some ts1 =>
        intro H1 hR1 hF1
        refine ⟨_, rfl, iteF ?_⟩
        exact rest H1 ts1 e hR1 hF1
end
end Th
set_option Elab.async false
set_option linter.all false
set_option maxRecDepth 100000
set_option maxHeartbeats 4000000
namespace Th
open PySem L2
theorem Fx.putNew {M : List Addr} {H H1 : Hp} {a : Addr} {o : HO} (h : Fx M H H1) (ha : H a = none) : Fx M H (upd H1 a o) := fun b u n e => by
  rw [upd_ne (ne_of_none e ha)]; exact h b u n e
theorem KrAt.keep0 {KC : Addr} {M M' : List Addr} {H H' : Hp} {f : Fm} {k : Kr} (h : KrAt KC M H f k) (hp : k.parts = []) (hF : Fx M' H H') (hd : ∀ b ∈ f.l, b ∉ M') : KrAt KC [] H' f k := by
  obtain ⟨dx, as, h1, h2, h3, h4, h5, h6⟩ := h.ex
  refine ⟨dx, as, hF _ _ (hd _ (by simp [Fm.l])) h1, hF _ _ (hd _ (by simp [Fm.l])) h2, hF _ _ (hd _ (by simp [Fm.l])) h3, hF _ _ (hd _ (by simp [Fm.l])) h4, ?_, h6⟩
  rw [hp] at h5 ⊢
  cases h5
  exact .nil
theorem r_out {RC KC : Addr} {H : Hp} {r l : Addr} {ts : List Tk} {M : List Addr} {f : Fm} {k : Kr} (hR : RdAt RC H r l ts) (hk : KrAt KC M H f k) : r ∉ f.l := fun z => by
  obtain ⟨dx, p, h1⟩ := hR.obj
  obtain ⟨dx', as, h2, h3, h4, h5, _⟩ := hk.ex
  have hb' : r = f.a ∨ r = f.pl ∨ r = f.pa ∨ r = f.op := by simpa [Fm.l] using z
  rcases hb' with z | z | z | z
  · rw [z, h2] at h1
    injection h1 with h1; injection h1 with _ _ h1; cases h1
  · rw [z, h3] at h1; cases h1
  · rw [z, h4] at h1; cases h1
  · rw [z, h5] at h1; cases h1
theorem Fm.out {f : Fm} {r : Addr} (h : r ∉ f.l) : ∀ b ∈ f.l, b ∉ [r] := fun b hb z => h (by rw [← List.mem_singleton.mp z]; exact hb)
def giveK (RC WT KC r l : Addr) (o : Option (Kr × List Tk)) (H : Hp) (Q : VK) (E : XK) : Prop := match o with
  | some x => ∀ (f : Fm) (H' : Hp), KrAt KC [] H' f x.1 → (∀ b ∈ f.l, H b = none) → RdAt RC H' r l x.2 → Fx [r] H H' → Q (.ref f.a) H'
  | none => ∀ H', E (.ref WT) none H'
def mInt2 (low : Option Int) (ts : List Tk) : Option (Kr × List Tk) := match mHigh low LEAST MOST ts with
  | none => none
  | some (high, r3) => match skipT (.sign (cd ")")) r3 with
    | none => none
    | some r4 => some ({ form := "INTEGER", low := low, high := high }, r4)
def mInteger (ts : List Tk) : Option (Kr × List Tk) := match skipT (.sign (cd "(")) ts with
  | none => some ({ form := "INTEGER" }, ts)
  | some r1 => match skipT (.word (cd "MIN")) r1 with
    | some r2 => mInt2 none r2
    | none => match mNumber LEAST MOST r1 with
      | none => none
      | some (z, r2) => mInt2 (some z) r2
theorem RdAt.newK {RC KC : Addr} {H H' : Hp} {r l : Addr} {ts : List Tk} {f : Fm} {form : Str} (h : RdAt RC H r l ts) (n : NewK KC H H' f form) : RdAt RC H' r l ts := h.keep (M := []) n.keep (by simp) (by simp) (fun b hb => by simp at hb)
theorem RdAt.put {RC KC : Addr} {H : Hp} {r l : Addr} {ts : List Tk} {f : Fm} {k : Kr} {M : List Addr} {o : HO} (h : RdAt RC H r l ts) (hk : KrAt KC M H f k) : RdAt RC (upd H f.a o) r l ts := by
  obtain ⟨dx', as, h2, h3, h4, h5, _⟩ := hk.ex
  have hr := r_out h hk
  obtain ⟨dx, as', all, p, h1, h2', _⟩ := h.ex
  refine h.keep (M := [f.a]) (Fx.set List.mem_cons_self) (fun z => hr (by rw [List.mem_singleton.mp z]; simp [Fm.l])) (fun z => ?_) (fun b hb xs e => ?_)
  · rw [List.mem_singleton.mp z, h2] at h2'; cases h2'
  · rw [List.mem_singleton.mp hb, h2] at e; cases e
theorem KrAt.put0 {KC : Addr} {M : List Addr} {H : Hp} {f : Fm} {k : Kr} {dx dx' : Addr} (k' : Kr) (h : KrAt KC M H f k) (hp : k.parts = []) (e1 : k'.names = k.names) (e2 : k'.parts = k.parts) (e3 : k'.opts = k.opts) :
    KrAt KC [] (upd H f.a (.ins KC dx (kf k'.form k'.target k'.low k'.high f.pl k'.roots k'.ext f.pa f.op k'.waits))) f k' := by
  obtain ⟨dx', as, h1, h2, h3, h4, h5, h6⟩ := h.ex
  have hh := h6
  simp [Fm.l] at hh
  refine ⟨dx, as, upd_same, ?_, ?_, ?_, ?_, h6⟩
  · rw [upd_ne (fun z => hh.1.1 z.symm), e1]; exact h2
  · rw [upd_ne (fun z => hh.1.2.1 z.symm)]; exact h3
  · rw [upd_ne (fun z => hh.1.2.2 z.symm), e3]; exact h4
  · rw [e2, hp]; rw [hp] at h5; cases h5; exact .nil
section
variable {P : Program} {w : World} {K : PySem.W.Frag} {mg : Str → Option Value} {base : Heap} {WT RC KC : Addr}
theorem mk_kind {form : Str} {σ : St} {H : Hp} {Q : VK} (h : ∀ (f : Fm) (H' : Hp), NewK KC H H' f form → Q (.ref f.a) H') : tMake KC (spKindInit KC) [] E0 (tCons (tC (.str form)) tNil) σ H Q := make_kind h
theorem set_kind {form : Str} {i : Nat} {u : TS} {D : Ends} {σ : St} {H : Hp} (h : ∀ (f : Fm) (H' : Hp), NewK KC H H' f form → u D (σ.set i (some (.ref f.a))) H') : tSeq (tAsg (tMake KC (spKindInit KC) [] E0 (tCons (tC (.str form)) tNil)) (gName i)) u D σ H :=
  mk_kind (σ := σ) (Q := fun x H1 => u D (σ.set i (some x)) H1) h
def spReadInteger (RC WT KC : Addr) : Sp := fun vs H Q E => ∃ (r l : Addr) (ts : List Tk), vs = [.ref r] ∧ RdAt RC H r l ts ∧ giveK RC WT KC r l (mInteger ts) H Q E
theorem scReadInteger : FnScope ["reader", "kind"] ["reader"] (defScope sReadInteger) := ⟨rfl, rfl, rfl, by decide +kernel, rfl, by decide +kernel, by decide +kernel⟩
theorem ok_read_integer (D : Df K mg "read_integer" sReadInteger ["reader"]) (T : Txs K mg) (TR : RdT K RC) (TK : KdT K KC) (GK : OkI P w K mg base CX0 1 "Kind" KC ["self", "form"] (spKindInit KC))
    (GS : OkM P w K mg base CX0 3 RC "skips_sign" ["self", "sign"] (spSkipsSign RC)) (GW : OkM P w K mg base CX0 3 RC "skips_word" ["self", "word"] (spSkipsWord RC)) (GNS : OkM P w K mg base (CXW P w) 4 RC "needs_sign" ["self", "sign"] (spNeedsSign RC WT))
    (GN : OkM P w K mg base (CXW P w) 3 RC "takes_number" ["self", "least", "most"] (spReadNumber RC WT)) (GH : Ok P w K mg base (CXW P w) 5 "read_high" ["reader", "low", "least", "most"] (spReadHigh RC WT)) : Ok P w K mg base (CXW P w) 6 "read_integer" ["reader"] (spReadInteger RC WT KC) := by
  refine D.okX scReadInteger (fun vs H Q E h => ?_) (fun fa cdv A outer s H vs Q E hr h => ?_)
  · obtain ⟨r, l, ts, rfl, _⟩ := h; rfl
  · obtain ⟨r, l, ts, rfl, hR, k⟩ := h
    have hr2 := hr.mono (show 2 ≤ 5 by decide)
    have hr3 := hr.mono (show 3 ≤ 5 by decide)
    have hr4 := hr.mono (show 4 ≤ 5 by decide)
    refine ⟨_, pss_cons (ps_set (i := 1) scReadInteger.nd rfl (Or.inl rfl) (pe_mkc GK hr2 pass0 (pa_cons pe_str pa_nil)))
      (pss_cons (ps_if (pt_val (pe_mt GS TR.cl hr3 pass0 (pv 0) (pa_cons pe_str pa_nil)))
        (pss_cons (ps_if (pt_not (pt_val (pe_mt GW TR.cl hr3 pass0 (pv 0) (pa_cons pe_str pa_nil)))) (pss_one (ps_fld (pv 1) (pe_mt GN TR.cl hr3 pass_cx (pv 0) (pa_cons (pe_k T.least) (pa_cons (pe_k T.most) pa_nil))) rfl)) pss_nil)
        (pss_cons (ps_fld (pv 1) (pe_c GH hr pass_cx (pa_cons (pv 0) (pa_cons (pe_fld (pv 1) rfl) (pa_cons (pe_k T.least) (pa_cons (pe_k T.most) pa_nil))))) rfl)
        (pss_one (ps_expr (pe_mt GNS TR.cl hr4 pass_cx (pv 0) (pa_cons pe_str pa_nil))))))
        pss_nil)
      (pss_one (ps_ret (pv 1)))), ?_⟩
    refine set_kind fun f H1 hN => ?_
    have hK1 := hN.at_ []
    have hR1 := hR.newK hN
    have hlf : ∀ b ∈ f.l, H b = none := hN.new
    have ho1 := r_out hR1 hK1
    obtain ⟨dx1, p1, h11⟩ := hR1.obj
    have hF1 : Fx [r] H H1 := hN.keep.mono (by simp)
    refine ⟨_, rfl, r, dx1, _, rfl, h11, rf_no _ _ (by decide +kernel) (by decide +kernel), r, l, cd "(", ts, rfl, by decide +kernel, hR1, ?_⟩
    unfold mInteger at k
    unfold giveSkip
    cases e : skipT (.sign (cd "(")) ts with
    | none =>
      rw [e] at k
      intro H2 hR2 hF2
      refine ⟨_, rfl, iteF ?_⟩
      exact ⟨_, rfl, k f H2 (hK1.keep0 rfl hF2 (Fm.out ho1)) hlf hR2 (hF1.trans hF2)⟩
    | some ts1 =>
      rw [e] at k
      dsimp only at k
      intro H2 hR2 hF2
      have hK2 := hK1.keep0 rfl hF2 (Fm.out ho1)
      have hF02 := hF1.trans hF2
      refine ⟨_, rfl, iteT ?_⟩
      dsimp only [gName]
      refine seq_hold fun R hR0 => ?_
      have rest : ∀ (low : Option Int) (H3 : Hp) (ts3 : List Tk), KrAt KC [] H3 f { form := "INTEGER", low := low } → RdAt RC H3 r l ts3 → Fx [r] H H3 → giveK RC WT KC r l (mInt2 low ts3) H Q E → R [some (.ref r), some (.ref f.a)] H3 := by
        intro low H3 ts3 hK3 hR3 hF3 k3
        rw [hR0]
        obtain ⟨dk, as, q1, q2, q3, q4, q5, q6⟩ := hK3.ex
        refine ⟨_, rfl, _, rfl, f.a, KC, dk, _, _, rfl, q1, TK.cl, TK.low, kf_low _ _ _ _ _ _ _ _ _ _, r, l, low, LEAST, MOST, ts3, rfl, hR3, ?_⟩
        unfold mInt2 at k3
        unfold giveO
        cases e3 : mHigh low LEAST MOST ts3 with
        | none => rw [e3] at k3; exact fun H' => k3 H'
        | some x =>
          obtain ⟨high, ts4⟩ := x
          rw [e3] at k3
          dsimp only at k3
          intro H4 hR4 hF4
          have hK4 := hK3.keep0 rfl hF4 (Fm.out (r_out hR3 hK3))
          obtain ⟨dk4, as4, t1, _⟩ := hK4.ex
          refine ⟨_, rfl, f.a, KC, dk4, _, rfl, t1, TK.cl, TK.high, (by show 10 < 1000; decide), ?_⟩
          rw [kf_high_put]
          have hK5 := hK4.put0 (dx := dk4) (dx' := dk4) { form := "INTEGER", low := low, high := high } rfl rfl rfl rfl
          have hR5 := hR4.put (o := .ins KC dk4 (kf "INTEGER" [] low high f.pl 0 false f.pa f.op false)) hK4
          obtain ⟨dx5, p5, h15⟩ := hR5.obj
          refine ⟨_, rfl, r, dx5, _, rfl, h15, rf_no _ _ (by decide +kernel) (by decide +kernel), r, l, cd ")", ts4, rfl, by decide +kernel, hR5, ?_⟩
          unfold giveNeed
          cases e4 : skipT (.sign (cd ")")) ts4 with
          | none => rw [e4] at k3; exact fun H' => k3 H'
          | some ts5 =>
            rw [e4] at k3
            intro H6 hR6 hF6
            refine ⟨_, rfl, k3 f H6 (hK5.keep0 rfl hF6 (Fm.out (r_out hR5 hK5))) hlf hR6 ?_⟩
            exact (Fx.putNew (hF3.trans hF4) (hlf f.a (by simp [Fm.l]))).trans hF6
      obtain ⟨dx2, p2, h12⟩ := hR2.obj
      refine ⟨_, rfl, r, dx2, _, rfl, h12, rf_no _ _ (by decide +kernel) (by decide +kernel), r, l, cd "MIN", ts1, rfl, by decide +kernel, hR2, ?_⟩
      unfold giveSkip
      cases e2 : skipT (.word (cd "MIN")) ts1 with
      | some ts2 =>
        rw [e2] at k
        intro H3 hR3 hF3
        refine ⟨_, rfl, iteF ?_⟩
        exact rest none H3 ts2 (hK2.keep0 rfl hF3 (Fm.out (r_out hR2 hK2))) hR3 (hF02.trans hF3) k
      | none =>
        rw [e2] at k
        dsimp only at k
        intro H3 hR3 hF3
        have hK3 := hK2.keep0 rfl hF3 (Fm.out (r_out hR2 hK2))
        refine ⟨_, rfl, iteT ?_⟩
        obtain ⟨dx3, p3, h13⟩ := hR3.obj
        refine ⟨_, rfl, r, dx3, _, rfl, h13, rf_no _ _ (by decide +kernel) (by decide +kernel), r, l, LEAST, MOST, ts1, rfl, hR3, ?_⟩
        unfold giveO
        cases e3 : mNumber LEAST MOST ts1 with
        | none => rw [e3] at k; exact fun H' => k H'
        | some x =>
          obtain ⟨z, ts2⟩ := x
          rw [e3] at k
          dsimp only at k
          intro H4 hR4 hF4
          have hK4 := hK3.keep0 rfl hF4 (Fm.out (r_out hR3 hK3))
          obtain ⟨dk4, as4, t1, _⟩ := hK4.ex
          refine ⟨_, rfl, f.a, KC, dk4, _, rfl, t1, TK.cl, TK.low, (by show 10 < 1000; decide), ?_⟩
          have e5 : putF "low" (V.int z) (kf "INTEGER" [] none none f.pl 0 false f.pa f.op false) = kf "INTEGER" [] (some z) none f.pl 0 false f.pa f.op false := kf_low_put _ _ _ _ _ _ _ _ _ _ (some z)
          refine rest (some z) _ ts2 ?_ ?_ (Fx.putNew ((hF02.trans hF3).trans hF4) (hlf f.a (by simp [Fm.l]))) k
          · have q := hK4.put0 (dx := dk4) (dx' := dk4) { form := "INTEGER", low := some z } rfl rfl rfl rfl
            rw [← e5] at q
            exact q
          · exact hR4.put hK4
end
end Th
set_option Elab.async false
set_option linter.all false
set_option maxRecDepth 100000
set_option maxHeartbeats 4000000
namespace Th
open PySem L2
theorem KrAt.keep {KC : Addr} {M M' : List Addr} {H H' : Hp} {f : Fm} {k : Kr} (h : KrAt KC M H f k) (hF : Fx M' H H') (hM : ∀ b ∈ M', b ∈ M) (hd : ∀ b ∈ f.l, b ∉ M') : KrAt KC M H' f k := by
  obtain ⟨dx, as, h1, h2, h3, h4, h5, h6⟩ := h.ex
  exact ⟨dx, as, hF _ _ (hd _ (by simp [Fm.l])) h1, hF _ _ (hd _ (by simp [Fm.l])) h2, hF _ _ (hd _ (by simp [Fm.l])) h3, hF _ _ (hd _ (by simp [Fm.l])) h4, h5.move (hF.mono hM) (fun b hb => .inl hb), h6⟩
theorem KrAt.any {KC : Addr} {M M' : List Addr} {H : Hp} {f : Fm} {k : Kr} (h : KrAt KC M H f k) (hp : k.parts = []) : KrAt KC M' H f k := by
  obtain ⟨dx, as, h1, h2, h3, h4, h5, h6⟩ := h.ex
  refine ⟨dx, as, h1, h2, h3, h4, ?_, h6⟩
  rw [hp] at h5 ⊢
  cases h5
  exact .nil
theorem KrAt.put {KC : Addr} {M : List Addr} {H : Hp} {f : Fm} {k : Kr} {dx : Addr} (k' : Kr) (h : KrAt KC M H f k) (ha : f.a ∈ M) (e1 : k'.names = k.names) (e2 : k'.parts = k.parts) (e3 : k'.opts = k.opts) :
    KrAt KC M (upd H f.a (.ins KC dx (kf k'.form k'.target k'.low k'.high f.pl k'.roots k'.ext f.pa f.op k'.waits))) f k' := by
  obtain ⟨dx', as, h1, h2, h3, h4, h5, h6⟩ := h.ex
  have hh := h6
  simp [Fm.l] at hh
  refine ⟨dx, as, upd_same, ?_, ?_, ?_, ?_, h6⟩
  · rw [upd_ne (fun z => hh.1.1 z.symm), e1]; exact h2
  · rw [upd_ne (fun z => hh.1.2.1 z.symm)]; exact h3
  · rw [upd_ne (fun z => hh.1.2.2 z.symm), e3]; exact h4
  · rw [e2]; exact h5.move (Fx.set ha) fun b hb => .inl hb
theorem KrAt.name {KC : Addr} {M : List Addr} {H : Hp} {f : Fm} {k : Kr} {n : List Nat} (h : KrAt KC M H f k) (ha : f.pl ∈ M) (hn : n ∉ k.names) :
    KrAt KC M (upd H f.pl (.dK (putK (nmd k.names) (Sum.inr ⟨n.toArray⟩) (.int (k.names.length : Int))))) f { k with names := k.names ++ [n] } := by
  obtain ⟨dx', as, h1, h2, h3, h4, h5, h6⟩ := h.ex
  have hh := h6
  simp [Fm.l] at hh
  have hv : valV (nmd k.names) (Sum.inr (⟨n.toArray⟩ : Str)) = none := by
    have := nmdF_val n k.names 0
    rw [decide_eq_false hn] at this
    show valV (nmdF 0 k.names) _ = none
    cases e : valV (nmdF 0 k.names) (Sum.inr (⟨n.toArray⟩ : Str)) with
    | none => rfl
    | some v => rw [e] at this; cases this
  refine ⟨dx', as, ?_, ?_, ?_, ?_, h5.move (Fx.set ha) fun b hb => .inl hb, h6⟩
  · rw [upd_ne hh.1.1]; exact h1
  · rw [upd_same, putK_new _ hv]
    show some (HO.dK (nmdF 0 k.names ++ _)) = some (HO.dK (nmdF 0 (k.names ++ [n])))
    rw [nmdF_snoc, Nat.zero_add]
  · rw [upd_ne (fun z => hh.2.1.1 z.symm)]; exact h3
  · rw [upd_ne (fun z => hh.2.1.2 z.symm)]; exact h4
theorem RdAt.keepF {RC KC : Addr} {H H' : Hp} {r l : Addr} {ts : List Tk} {f : Fm} {k : Kr} {M : List Addr} (h : RdAt RC H r l ts) (hk : KrAt KC M H f k) (hl : l ∉ f.l) (hF : Fx f.l H H') : RdAt RC H' r l ts := by
  obtain ⟨dx', as, h1, h2, h3, h4, h5, h6⟩ := hk.ex
  refine h.keep hF (r_out h hk) hl fun b hb xs e => ?_
  have hb' : b = f.a ∨ b = f.pl ∨ b = f.pa ∨ b = f.op := by simpa [Fm.l] using hb
  rcases hb' with z | z | z | z
  · rw [z, h1] at e; cases e
  · rw [z, h2] at e; cases e
  · rw [z, h3] at e; cases e
  · rw [z, h4] at e; cases e
def giveM (RC WT KC r l : Addr) (M : List Addr) (f : Fm) {α : Type} (val : α → V) (o : Option ((α × Kr) × List Tk)) (H : Hp) (Q : VK) (E : XK) : Prop := match o with
  | some x => ∀ H' : Hp, KrAt KC M H' f x.1.2 → RdAt RC H' r l x.2 → Fx (r :: f.l) H H' → Q (val x.1.1) H'
  | none => ∀ H', E (.ref WT) none H'
def mSize (k : Kr) (ts : List Tk) : Option ((Unit × Kr) × List Tk) := match skipT (.sign (cd "(")) ts with
  | none => some (((), k), ts)
  | some r1 => match skipT (.word (cd "SIZE")) r1 with
    | none => none
    | some r2 => match skipT (.sign (cd "(")) r2 with
      | none => none
      | some r3 => match mNumber 0 65535 r3 with
        | none => none
        | some (z, r4) => match mHigh (some z) 0 65535 r4 with
          | none => none
          | some (h, r5) => match skipT (.sign (cd ")")) r5 with
            | none => none
            | some r6 => match skipT (.sign (cd ")")) r6 with
              | none => none
              | some r7 => some (((), { k with low := some z, high := h }), r7)
section
variable {P : Program} {w : World} {K : PySem.W.Frag} {mg : Str → Option Value} {base : Heap} {WT RC KC : Addr}
def spReadSize (RC WT KC : Addr) : Sp := fun vs H Q E => ∃ (r l : Addr) (ts : List Tk) (f : Fm) (k : Kr) (M : List Addr), vs = [.ref r, .ref f.a] ∧ RdAt RC H r l ts ∧ KrAt KC M H f k ∧ l ∉ f.l ∧ (∀ b ∈ r :: f.l, b ∈ M) ∧ giveM RC WT KC r l M f (fun _ => .non) (mSize k ts) H Q E
theorem scReadSize : FnScope ["reader", "kind"] ["reader", "kind"] (defScope sReadSize) := ⟨rfl, rfl, rfl, by decide +kernel, rfl, by decide +kernel, by decide +kernel⟩
theorem ok_read_size (D : Df K mg "read_size" sReadSize ["reader", "kind"]) (T : Txs K mg) (TR : RdT K RC) (TK : KdT K KC)
    (GS : OkM P w K mg base CX0 3 RC "skips_sign" ["self", "sign"] (spSkipsSign RC)) (GNW : OkM P w K mg base (CXW P w) 4 RC "needs_word" ["self", "word"] (spNeedsWord RC WT)) (GNS : OkM P w K mg base (CXW P w) 4 RC "needs_sign" ["self", "sign"] (spNeedsSign RC WT))
    (GN : OkM P w K mg base (CXW P w) 3 RC "takes_number" ["self", "least", "most"] (spReadNumber RC WT)) (GH : Ok P w K mg base (CXW P w) 5 "read_high" ["reader", "low", "least", "most"] (spReadHigh RC WT)) : Ok P w K mg base (CXW P w) 6 "read_size" ["reader", "kind"] (spReadSize RC WT KC) := by
  refine D.okX scReadSize (fun vs H Q E h => ?_) (fun fa cdv A outer s H vs Q E hr h => ?_)
  · obtain ⟨r, l, ts, f, k, M, rfl, _⟩ := h; rfl
  · obtain ⟨r, l, ts, f, k, M, rfl, hR, hK, hlf, hM, g⟩ := h
    have hr3 := hr.mono (show 3 ≤ 5 by decide)
    have hr4 := hr.mono (show 4 ≤ 5 by decide)
    refine ⟨_, pss_one (ps_if (pt_val (pe_mt GS TR.cl hr3 pass0 (pv 0) (pa_cons pe_str pa_nil)))
        (pss_cons (ps_expr (pe_mt GNW TR.cl hr4 pass_cx (pv 0) (pa_cons pe_str pa_nil)))
        (pss_cons (ps_expr (pe_mt GNS TR.cl hr4 pass_cx (pv 0) (pa_cons pe_str pa_nil)))
        (pss_cons (ps_fld (pv 1) (pe_mt GN TR.cl hr3 pass_cx (pv 0) (pa_cons pe_int (pa_cons (pe_k T.size) pa_nil))) rfl)
        (pss_cons (ps_fld (pv 1) (pe_c GH hr pass_cx (pa_cons (pv 0) (pa_cons (pe_fld (pv 1) rfl) (pa_cons pe_int (pa_cons (pe_k T.size) pa_nil))))) rfl)
        (pss_cons (ps_expr (pe_mt GNS TR.cl hr4 pass_cx (pv 0) (pa_cons pe_str pa_nil)))
        (pss_one (ps_expr (pe_mt GNS TR.cl hr4 pass_cx (pv 0) (pa_cons pe_str pa_nil)))))))))
        pss_nil), ?_⟩
    have hrM : ∀ b ∈ [r], b ∈ M := fun b hb => hM b (by rw [List.mem_singleton.mp hb]; exact List.mem_cons_self)
    have haM : f.a ∈ M := hM _ (by simp [Fm.l])
    have up : ∀ {X Y : Hp}, Fx [r] X Y → Fx (r :: f.l) X Y := fun h => h.mono (by intro b hb; rw [List.mem_singleton.mp hb]; exact List.mem_cons_self)
    have upa : ∀ {X : Hp} {o : HO}, Fx (r :: f.l) X (upd X f.a o) := fun {X o} => Fx.set (by simp [Fm.l])
    obtain ⟨dx0, p0, h10⟩ := hR.obj
    refine ⟨_, rfl, r, dx0, _, rfl, h10, rf_no _ _ (by decide +kernel) (by decide +kernel), r, l, cd "(", ts, rfl, by decide +kernel, hR, ?_⟩
    unfold mSize at g
    unfold giveSkip
    have kp : ∀ {X Y : Hp} {tt : List Tk} {k : Kr}, RdAt RC X r l tt → KrAt KC M X f k → Fx [r] X Y → KrAt KC M Y f k := fun a b c => b.keep c hrM (Fm.out (r_out a b))
    cases e : skipT (.sign (cd "(")) ts with
    | none =>
      rw [e] at g
      intro H1 hR1 hF1
      refine ⟨_, rfl, iteF ?_⟩
      exact g H1 (kp hR hK hF1) hR1 (up hF1)
    | some ts1 =>
      rw [e] at g
      dsimp only at g
      intro H1 hR1 hF1
      have hK1 := kp hR hK hF1
      refine ⟨_, rfl, iteT ?_⟩
      obtain ⟨dx1, p1, h11⟩ := hR1.obj
      refine ⟨_, rfl, r, dx1, _, rfl, h11, rf_no _ _ (by decide +kernel) (by decide +kernel), r, l, cd "SIZE", ts1, rfl, by decide +kernel, hR1, ?_⟩
      unfold giveNeed
      cases e1 : skipT (.word (cd "SIZE")) ts1 with
      | none => rw [e1] at g; exact fun H' => g H'
      | some ts2 =>
        rw [e1] at g
        dsimp only at g
        intro H2 hR2 hF2
        have hK2 := kp hR1 hK1 hF2
        obtain ⟨dx2, p2, h12⟩ := hR2.obj
        refine ⟨_, rfl, r, dx2, _, rfl, h12, rf_no _ _ (by decide +kernel) (by decide +kernel), r, l, cd "(", ts2, rfl, by decide +kernel, hR2, ?_⟩
        unfold giveNeed
        cases e2 : skipT (.sign (cd "(")) ts2 with
        | none => rw [e2] at g; exact fun H' => g H'
        | some ts3 =>
          rw [e2] at g
          dsimp only at g
          intro H3 hR3 hF3
          have hK3 := kp hR2 hK2 hF3
          obtain ⟨dx3, p3, h13⟩ := hR3.obj
          refine ⟨_, rfl, r, dx3, _, rfl, h13, rf_no _ _ (by decide +kernel) (by decide +kernel), r, l, 0, 65535, ts3, rfl, hR3, ?_⟩
          unfold giveO
          cases e3 : mNumber 0 65535 ts3 with
          | none => rw [e3] at g; exact fun H' => g H'
          | some x =>
            obtain ⟨z, ts4⟩ := x
            rw [e3] at g
            dsimp only at g
            intro H4 hR4 hF4
            have hK4 := kp hR3 hK3 hF4
            obtain ⟨dk4, as4, t1, _⟩ := hK4.ex
            refine ⟨_, rfl, f.a, KC, dk4, _, rfl, t1, TK.cl, TK.low, (by show 10 < 1000; decide), ?_⟩
            have e5 := kf_low_put k.form k.target k.low k.high f.pl k.roots k.ext f.pa f.op k.waits (some z)
            have hK5 := hK4.put (dx := dk4) { k with low := some z } haM rfl rfl rfl
            rw [← e5] at hK5
            have hR5 := hR4.put (o := .ins KC dk4 (putF "low" (oi (some z)) (kf k.form k.target k.low k.high f.pl k.roots k.ext f.pa f.op k.waits))) hK4
            obtain ⟨dk5, as5, t5, _⟩ := hK5.ex
            refine ⟨_, rfl, _, rfl, f.a, KC, dk5, _, _, rfl, t5, TK.cl, TK.low, kf_low _ _ _ _ _ _ _ _ _ _, r, l, some z, 0, 65535, ts4, rfl, hR5, ?_⟩
            unfold giveO
            cases e6 : mHigh (some z) 0 65535 ts4 with
            | none => rw [e6] at g; exact fun H' => g H'
            | some x =>
              obtain ⟨hi, ts5⟩ := x
              rw [e6] at g
              dsimp only at g
              intro H6 hR6 hF6
              have hK6 := kp hR5 hK5 hF6
              obtain ⟨dk6, as6, t6, _⟩ := hK6.ex
              refine ⟨_, rfl, f.a, KC, dk6, _, rfl, t6, TK.cl, TK.high, (by show 10 < 1000; decide), ?_⟩
              have e7 := kf_high_put k.form k.target (some z) k.high f.pl k.roots k.ext f.pa f.op k.waits hi
              have hK7 := hK6.put (dx := dk6) { k with low := some z, high := hi } haM rfl rfl rfl
              rw [← e7] at hK7
              have hR7 := hR6.put (o := .ins KC dk6 (putF "high" (oi hi) (kf k.form k.target (some z) k.high f.pl k.roots k.ext f.pa f.op k.waits))) hK6
              obtain ⟨dx7, p7, h17⟩ := hR7.obj
              refine ⟨_, rfl, r, dx7, _, rfl, h17, rf_no _ _ (by decide +kernel) (by decide +kernel), r, l, cd ")", ts5, rfl, by decide +kernel, hR7, ?_⟩
              unfold giveNeed
              cases e8 : skipT (.sign (cd ")")) ts5 with
              | none => rw [e8] at g; exact fun H' => g H'
              | some ts6 =>
                rw [e8] at g
                dsimp only at g
                intro H8 hR8 hF8
                have hK8 := kp hR7 hK7 hF8
                obtain ⟨dx8, p8, h18⟩ := hR8.obj
                refine ⟨_, rfl, r, dx8, _, rfl, h18, rf_no _ _ (by decide +kernel) (by decide +kernel), r, l, cd ")", ts6, rfl, by decide +kernel, hR8, ?_⟩
                unfold giveNeed
                cases e9 : skipT (.sign (cd ")")) ts6 with
                | none => rw [e9] at g; exact fun H' => g H'
                | some ts7 =>
                  rw [e9] at g
                  intro H9 hR9 hF9
                  refine g H9 (kp hR8 hK8 hF9) hR9 ?_
                  exact (((((((up hF1).trans (up hF2)).trans (up hF3)).trans (up hF4)).trans upa).trans (up hF6)).trans upa).trans ((up hF8).trans (up hF9))
end
end Th
set_option Elab.async false
set_option linter.all false
set_option maxRecDepth 100000
set_option maxHeartbeats 4000000
namespace Th
open PySem L2
def mString (form : Str) (ts : List Tk) : Option (Kr × List Tk) := match skipT (.word (cd "STRING")) ts with
  | none => none
  | some r1 => match mSize { form := form } r1 with
    | none => none
    | some x => some (x.1.2, x.2)
theorem mSize_parts {k : Kr} {ts : List Tk} {x : (Unit × Kr) × List Tk} (h : mSize k ts = some x) : x.1.2.parts = k.parts ∧ x.1.2.names = k.names ∧ x.1.2.form = k.form := by
  unfold mSize at h
  repeat (first | (cases h; exact ⟨rfl, rfl, rfl⟩) | cases h | split at h)
def mAddName (k : Kr) (ts : List Tk) : Option ((Unit × Kr) × List Tk) := match ts with
  | .word w :: r => if headLow w = true ∧ w ∉ k.names then some (((), { k with names := k.names ++ [w], roots := if k.ext = true then k.roots else k.roots + 1 }), r) else none
  | _ => none
def mNext (k : Kr) (ts : List Tk) : Option ((Bool × Kr) × List Tk) := match skipT (.sign (cd "}")) ts with
  | some r1 => some ((false, k), r1)
  | none => match skipT (.sign (cd ",")) ts with
    | none => none
    | some r1 => match (if k.ext = true then none else skipT (.sign (cd "...")) r1) with
      | none => (mAddName k r1).map fun x => ((true, x.1.2), x.2)
      | some r2 => match skipT (.sign (cd "}")) r2 with
        | some r3 => some ((false, { k with ext := true }), r3)
        | none => match skipT (.sign (cd ",")) r2 with
          | none => none
          | some r3 => (mAddName { k with ext := true } r3).map fun x => ((true, x.1.2), x.2)
section
variable {P : Program} {w : World} {K : PySem.W.Frag} {mg : Str → Option Value} {base : Heap} {WT RC KC : Addr}
def spReadString (RC WT KC : Addr) : Sp := fun vs H Q E => ∃ (r l : Addr) (form : Str) (ts : List Tk), vs = [.ref r, .str form] ∧ RdAt RC H r l ts ∧ giveK RC WT KC r l (mString form ts) H Q E
theorem scReadString : FnScope ["reader", "form", "kind"] ["reader", "form"] (defScope sReadString) := ⟨rfl, rfl, rfl, by decide +kernel, rfl, by decide +kernel, by decide +kernel⟩
theorem RdAt.l_out {H : Hp} {r l : Addr} {ts : List Tk} {f : Fm} (h : RdAt RC H r l ts) (hn : ∀ b ∈ f.l, H b = none) : l ∉ f.l := fun z => by
  obtain ⟨dx, as, all, p, h1, h2, _⟩ := h.ex
  rw [hn l z] at h2; cases h2
theorem set_kindV {form : Str} {i j : Nat} {u : TS} {D : Ends} {σ : St} {H : Hp} (hj : σ[j]? = some (some (.str form))) (h : ∀ (f : Fm) (H' : Hp), NewK KC H H' f form → u D (σ.set i (some (.ref f.a))) H') :
    tSeq (tAsg (tMake KC (spKindInit KC) [] E0 (tCons (tVar j) tNil)) (gName i)) u D σ H :=
  ⟨_, hj, mk_kind (σ := σ) (Q := fun x H1 => u D (σ.set i (some x)) H1) h⟩
theorem ok_read_string (D : Df K mg "read_string" sReadString ["reader", "form"]) (TR : RdT K RC) (GK : OkI P w K mg base CX0 1 "Kind" KC ["self", "form"] (spKindInit KC))
    (GNW : OkM P w K mg base (CXW P w) 4 RC "needs_word" ["self", "word"] (spNeedsWord RC WT)) (GZ : Ok P w K mg base (CXW P w) 6 "read_size" ["reader", "kind"] (spReadSize RC WT KC)) : Ok P w K mg base (CXW P w) 7 "read_string" ["reader", "form"] (spReadString RC WT KC) := by
  refine D.okX scReadString (fun vs H Q E h => ?_) (fun fa cdv A outer s H vs Q E hr h => ?_)
  · obtain ⟨r, l, form, ts, rfl, _⟩ := h; rfl
  · obtain ⟨r, l, form, ts, rfl, hR, k⟩ := h
    have hr2 := hr.mono (show 2 ≤ 6 by decide)
    have hr4 := hr.mono (show 4 ≤ 6 by decide)
    refine ⟨_, pss_cons (ps_set (i := 2) scReadString.nd rfl (Or.inl rfl) (pe_mkc GK hr2 pass0 (pa_cons (pv 1) pa_nil)))
      (pss_cons (ps_expr (pe_mt GNW TR.cl hr4 pass_cx (pv 0) (pa_cons pe_str pa_nil)))
      (pss_cons (ps_expr (pe_c GZ hr pass_cx (pa_cons (pv 0) (pa_cons (pv 2) pa_nil))))
      (pss_one (ps_ret (pv 2))))), ?_⟩
    refine set_kindV rfl fun f H1 hN => ?_
    have hK1 := hN.at_ (r :: f.l)
    have hR1 := hR.newK hN
    have hlf : ∀ b ∈ f.l, H b = none := hN.new
    have ho1 := r_out hR1 hK1
    obtain ⟨dx1, p1, h11⟩ := hR1.obj
    have hF1 : Fx [r] H H1 := hN.keep.mono (by simp)
    refine ⟨_, rfl, r, dx1, _, rfl, h11, rf_no _ _ (by decide +kernel) (by decide +kernel), r, l, cd "STRING", ts, rfl, by decide +kernel, hR1, ?_⟩
    unfold mString at k
    unfold giveNeed
    cases e : skipT (.word (cd "STRING")) ts with
    | none => rw [e] at k; exact fun H' => k H'
    | some ts1 =>
      rw [e] at k
      dsimp only at k
      intro H2 hR2 hF2
      have hK2 := hK1.keep hF2 (fun b hb => by rw [List.mem_singleton.mp hb]; exact List.mem_cons_self) (Fm.out ho1)
      refine ⟨_, rfl, _, rfl, r, l, ts1, f, { form := form }, r :: f.l, rfl, hR2, hK2, hR.l_out hlf, fun b hb => hb, ?_⟩
      unfold giveM
      cases e2 : mSize { form := form } ts1 with
      | none => rw [e2] at k; exact fun H' => k H'
      | some x =>
        rw [e2] at k
        intro H3 hK3 hR3 hF3
        obtain ⟨x1, x2, x3⟩ := mSize_parts e2
        refine ⟨_, rfl, k f H3 (hK3.any x1) hlf hR3 fun b o n e => ?_⟩
        refine hF3 b o (fun z => ?_) ((hF1.trans hF2) b o n e)
        rcases List.mem_cons.mp z with z | z
        · exact n (by rw [z]; exact List.mem_cons_self)
        · rw [hlf b z] at e; cases e
def spAddName (RC WT KC : Addr) : Sp := fun vs H Q E => ∃ (r l : Addr) (ts : List Tk) (f : Fm) (k : Kr) (M : List Addr), vs = [.ref r, .ref f.a] ∧ RdAt RC H r l ts ∧ KrAt KC M H f k ∧ l ∉ f.l ∧ (∀ b ∈ r :: f.l, b ∈ M) ∧ k.names.length ≤ 65536 ∧ giveM RC WT KC r l M f (fun _ => .non) (mAddName k ts) H Q E
theorem scAddName : FnScope ["reader", "kind", "name"] ["reader", "kind"] (defScope sAddName) := ⟨rfl, rfl, rfl, by decide +kernel, rfl, by decide +kernel, by decide +kernel⟩
theorem ok_add_name (D : Df K mg "add_name" sAddName ["reader", "kind"]) (T0 : Txt K mg WT) (TR : RdT K RC) (TK : KdT K KC) (GT : OkM P w K mg base (CXW P w) 2 RC "takes" ["self", "sort"] (spTakes RC WT)) : Ok P w K mg base (CXW P w) 3 "add_name" ["reader", "kind"] (spAddName RC WT KC) := by
  refine D.okX scAddName (fun vs H Q E h => ?_) (fun fa cdv A outer s H vs Q E hr h => ?_)
  · obtain ⟨r, l, ts, f, k, M, rfl, _⟩ := h; rfl
  · obtain ⟨r, l, ts, f, k, M, rfl, hR, hK, hlf, hM, hz, g⟩ := h
    have hu := hu_of hr
    refine ⟨_, pss_cons (ps_set (i := 2) scAddName.nd rfl (Or.inl rfl) (pe_mt GT TR.cl hr pass_cx (pv 0) (pa_cons (pe_k T0.word) pa_nil)))
      (pss_cons (ps_if (PW.pt (pw_or (pt_not (pt_val (pe_m0 PySem.F.slot_str_islower PySem.F.type_str_islower mt_islower (pe_ix ix_str (pv 2) pe_int (fun _ _ => rfl))))) (pw_or1 (pt_cmp (pc_din hu (pv 2) (pe_fld (pv 1) rfl))))))
        (pss_one (ps_raise PySem.F.excBase_ValueError T0.exc rfl (by rfl) T0.wt (pa_cons pe_str pa_nil) rz_cx)) pss_nil)
      (pss_cons (ps_dput hu (pe_fld (pv 1) rfl) (pv 2) (pe_callB call_lenD (by rfl) T0.len PySem.boot_len (pa_cons (pe_fld (pv 1) rfl) pa_nil)) rfl)
      (pss_one (ps_if (pt_not (pt_val (pe_fld (pv 1) rfl))) (pss_one (ps_fldaug (pv 1) pe_int in_add)) pss_nil)))), ?_⟩
    have hrM : ∀ b ∈ [r], b ∈ M := fun b hb => hM b (by rw [List.mem_singleton.mp hb]; exact List.mem_cons_self)
    have up : ∀ {X Y : Hp}, Fx [r] X Y → Fx (r :: f.l) X Y := fun h => h.mono (by intro b hb; rw [List.mem_singleton.mp hb]; exact List.mem_cons_self)
    obtain ⟨dx0, p0, h10⟩ := hR.obj
    refine ⟨_, rfl, r, dx0, _, rfl, h10, rf_no _ _ (by decide +kernel) (by decide +kernel), r, l, "word", ts, rfl, by decide +kernel, hR, ?_⟩
    cases ts with
    | nil => exact fun H' => g H'
    | cons t ts' =>
      rw [giveTake_cons]
      cases t with
      | num z => rw [if_neg (srt_not_word (by intro z e; cases e))]; exact fun H' => g H'
      | bits a => rw [if_neg (srt_not_word (by intro z e; cases e))]; exact fun H' => g H'
      | octs a => rw [if_neg (srt_not_word (by intro z e; cases e))]; exact fun H' => g H'
      | sign a => rw [if_neg (srt_not_word (by intro z e; cases e))]; exact fun H' => g H'
      | word n =>
        rw [if_pos (srt_word n)]
        intro H1 hR1 hF1 hok
        have hK1 := hK.keep hF1 hrM (Fm.out (r_out hR hK))
        obtain ⟨dk, as, t1, t2, t3, t4, t5, t6⟩ := hK1.ex
        have hn0 : n ≠ [] := hok.1
        cases n with
        | nil => exact absurd rfl hn0
        | cons c n' =>
          have hc8 : c < 128 := hok.2.1 c List.mem_cons_self
          have hnl : (c :: n').length ≤ 65536 := Nat.le_trans hok.2.2 (by decide)
          have hg : mAddName k (.word (c :: n') :: ts') = if headLow (c :: n') = true ∧ c :: n' ∉ k.names then some (((), { k with names := k.names ++ [c :: n'], roots := if k.ext = true then k.roots else k.roots + 1 }), ts') else none := rfl
          rw [hg] at g
          have hh : headLow (c :: n') = lowC c := rfl
          refine ⟨_, rfl, _, _, c, rfl, rfl, small hnl, at_sv (p := 0) rfl, ⟨_, rfl⟩, _, rfl, rfl, trivial, _, rfl, ?_⟩
          rw [one_low c hc8]
          by_cases hl : lowC c = true
          · rw [hl]
            show if (!true) = true then _ else _
            rw [if_neg (by decide)]
            refine ⟨_, rfl, _, rfl, f.a, KC, dk, _, _, rfl, t1, TK.cl, TK.places, kf_places _ _ _ _ _ _ _ _ _ _, f.pl, _, rfl, DGet.k (k := Sum.inr ⟨(c :: n').toArray⟩) t2, _, rfl, ?_⟩
            rw [show (valV (nmd k.names) (Sum.inr (⟨(c :: n').toArray⟩ : Str))).isSome = decide (c :: n' ∈ k.names) from nmdF_val _ _ _]
            refine ite2 (fun hc => ?_) (fun hc => ?_)
            · rw [if_neg (fun z => z.2 (of_decide_eq_true hc))] at g
              exact ⟨by decide, g _⟩
            · have hnew : c :: n' ∉ k.names := fun z => hc (decide_eq_true z)
              rw [if_pos ⟨by rw [hh]; exact hl, hnew⟩] at g
              have hK2 := hK1.name (n := c :: n') (hM f.pl (by simp [Fm.l])) hnew
              have hFp : Fx f.l H1 (upd H1 f.pl (.dK (putK (nmd k.names) (Sum.inr ⟨(c :: n').toArray⟩) (.int (k.names.length : Int))))) := Fx.set (by simp [Fm.l])
              have hR2 := hR1.keepF hK1 hlf hFp
              refine ⟨_, rfl, f.a, KC, dk, _, _, rfl, t1, TK.cl, TK.places, kf_places _ _ _ _ _ _ _ _ _ _, f.pl, _, rfl, t2, ?_⟩
              refine ⟨_, rfl, f.a, KC, dk, _, _, rfl, t1, TK.cl, TK.places, kf_places _ _ _ _ _ _ _ _ _ _, _, rfl, f.pl, _, rfl, DPut.k (k := Sum.inr ⟨(c :: n').toArray⟩) t2 ?_, ?_⟩
              · show (nmdF 0 k.names).length < sizeLine
                rw [nmdF_len]; exact Nat.lt_of_le_of_lt hz (by decide)
              rw [show ((nmd k.names).length : Int) = (k.names.length : Int) by show ((nmdF 0 k.names).length : Int) = _; rw [nmdF_len]]
              obtain ⟨dk2, as2, u1, u2, u3, u4, u5, u6⟩ := hK2.ex
              refine ⟨_, rfl, f.a, KC, dk2, _, _, rfl, u1, TK.cl, TK.ext, kf_ext _ _ _ _ _ _ _ _ _ _, _, rfl, ?_⟩
              cases he : k.ext with
              | true =>
                refine iteF ?_
                have q : (if k.ext = true then k.roots else k.roots + 1) = k.roots := by rw [he]; rfl
                have := g _ (by
                  have : ({ k with names := k.names ++ [c :: n'], roots := if k.ext = true then k.roots else k.roots + 1 } : Kr) = { k with names := k.names ++ [c :: n'] } := by rw [q]
                  rw [this]; exact hK2) hR2 ((up hF1).trans (hFp.mono fun b hb => List.mem_cons_of_mem _ hb))
                exact this
              | false =>
                refine iteT ?_
                refine ⟨_, rfl, f.a, KC, dk2, _, _, rfl, u1, TK.cl, TK.roots, kf_roots _ _ _ _ _ _ _ _ _ _, _, _, rfl, rfl, dk2, _, u1, (by show 10 < 1000; decide), ?_⟩
                have q : (if k.ext = true then k.roots else k.roots + 1) = k.roots + 1 := by rw [he]; rfl
                have e5 := kf_roots_put k.form k.target k.low k.high f.pl k.roots k.ext f.pa f.op k.waits (k.roots + 1)
                have hK3 := hK2.put (dx := dk2) { k with names := k.names ++ [c :: n'], roots := if k.ext = true then k.roots else k.roots + 1 } (hM f.a (by simp [Fm.l])) rfl rfl rfl
                rw [q] at hK3
                rw [q] at g
                dsimp only at hK3
                rw [← e5] at hK3
                have hFa : ∀ o, Fx f.l (upd H1 f.pl (.dK (putK (nmd k.names) (Sum.inr ⟨(c :: n').toArray⟩) (.int (k.names.length : Int))))) (upd (upd H1 f.pl (.dK (putK (nmd k.names) (Sum.inr ⟨(c :: n').toArray⟩) (.int (k.names.length : Int))))) f.a o) := fun o => Fx.set (by simp [Fm.l])
                exact g _ hK3 (hR2.keepF hK2 hlf (hFa _)) (((up hF1).trans (hFp.mono fun b hb => List.mem_cons_of_mem _ hb)).trans ((hFa _).mono fun b hb => List.mem_cons_of_mem _ hb))
          · have hl' : lowC c = false := by simpa using hl
            rw [hl']
            show if (!false) = true then _ else _
            rw [if_pos (by decide)]
            rw [if_neg (fun z => hl (by rw [← hh]; exact z.1))] at g
            exact iteT ⟨by decide, g _⟩
end
end Th
set_option Elab.async false
set_option linter.all false
set_option maxRecDepth 100000
set_option maxHeartbeats 4000000
namespace Th
open PySem L2
section
variable {P : Program} {w : World} {K : PySem.W.Frag} {mg : Str → Option Value} {base : Heap} {WT RC KC : Addr}
def spNextName (RC WT KC : Addr) : Sp := fun vs H Q E => ∃ (r l : Addr) (ts : List Tk) (f : Fm) (k : Kr) (M : List Addr), vs = [.ref r, .ref f.a] ∧ RdAt RC H r l ts ∧ KrAt KC M H f k ∧ l ∉ f.l ∧ (∀ b ∈ r :: f.l, b ∈ M) ∧ k.names.length ≤ 65536 ∧ giveM RC WT KC r l M f V.bl (mNext k ts) H Q E
theorem scNextName : FnScope ["reader", "kind"] ["reader", "kind"] (defScope sNextName) := ⟨rfl, rfl, rfl, by decide +kernel, rfl, by decide +kernel, by decide +kernel⟩
theorem ok_next_name (D : Df K mg "next_name" sNextName ["reader", "kind"]) (TR : RdT K RC) (TK : KdT K KC) (GS : OkM P w K mg base CX0 3 RC "skips_sign" ["self", "sign"] (spSkipsSign RC)) (GNS : OkM P w K mg base (CXW P w) 4 RC "needs_sign" ["self", "sign"] (spNeedsSign RC WT))
    (GA : Ok P w K mg base (CXW P w) 3 "add_name" ["reader", "kind"] (spAddName RC WT KC)) : Ok P w K mg base (CXW P w) 5 "next_name" ["reader", "kind"] (spNextName RC WT KC) := by
  refine D.okX scNextName (fun vs H Q E h => ?_) (fun fa cdv A outer s H vs Q E hr h => ?_)
  · obtain ⟨r, l, ts, f, k, M, rfl, _⟩ := h; rfl
  · obtain ⟨r, l, ts, f, k, M, rfl, hR, hK, hlf, hM, hz, g⟩ := h
    have hr3 := hr.mono (show 3 ≤ 4 by decide)
    refine ⟨_, pss_cons (ps_if (pt_val (pe_mt GS TR.cl hr3 pass0 (pv 0) (pa_cons pe_str pa_nil))) (pss_one (ps_ret pe_bl)) pss_nil)
      (pss_cons (ps_expr (pe_mt GNS TR.cl hr pass_cx (pv 0) (pa_cons pe_str pa_nil)))
      (pss_cons (ps_if (PW.pt (pw_and (pt_not (pt_val (pe_fld (pv 1) rfl))) (pw_and1 (pt_val (pe_mt GS TR.cl hr3 pass0 (pv 0) (pa_cons pe_str pa_nil))))))
        (pss_cons (ps_fld (pv 1) pe_bl rfl)
        (pss_cons (ps_if (pt_val (pe_mt GS TR.cl hr3 pass0 (pv 0) (pa_cons pe_str pa_nil))) (pss_one (ps_ret pe_bl)) pss_nil)
        (pss_one (ps_expr (pe_mt GNS TR.cl hr pass_cx (pv 0) (pa_cons pe_str pa_nil)))))) pss_nil)
      (pss_cons (ps_expr (pe_c GA hr3 pass_cx (pa_cons (pv 0) (pa_cons (pv 1) pa_nil)))) (pss_one (ps_ret pe_bl))))), ?_⟩
    have hrM : ∀ b ∈ [r], b ∈ M := fun b hb => hM b (by rw [List.mem_singleton.mp hb]; exact List.mem_cons_self)
    have haM : f.a ∈ M := hM _ (by simp [Fm.l])
    have up : ∀ {X Y : Hp}, Fx [r] X Y → Fx (r :: f.l) X Y := fun h => h.mono (by intro b hb; rw [List.mem_singleton.mp hb]; exact List.mem_cons_self)
    have upa : ∀ {X : Hp} {o : HO}, Fx (r :: f.l) X (upd X f.a o) := fun {X o} => Fx.set (by simp [Fm.l])
    have kp : ∀ {X Y : Hp} {tt : List Tk} {k : Kr}, RdAt RC X r l tt → KrAt KC M X f k → Fx [r] X Y → KrAt KC M Y f k := fun a b c => b.keep c hrM (Fm.out (r_out a b))
    obtain ⟨dx0, p0, h10⟩ := hR.obj
    refine ⟨_, rfl, r, dx0, _, rfl, h10, rf_no _ _ (by decide +kernel) (by decide +kernel), r, l, cd "}", ts, rfl, by decide +kernel, hR, ?_⟩
    unfold mNext at g
    unfold giveSkip
    cases e : skipT (.sign (cd "}")) ts with
    | some ts1 =>
      rw [e] at g
      intro H1 hR1 hF1
      refine ⟨_, rfl, iteT ?_⟩
      exact g H1 (kp hR hK hF1) hR1 (up hF1)
    | none =>
      rw [e] at g
      dsimp only at g
      intro H1 hR1 hF1
      have hK1 := kp hR hK hF1
      refine ⟨_, rfl, iteF ?_⟩
      obtain ⟨dx1, p1, h11⟩ := hR1.obj
      refine ⟨_, rfl, r, dx1, _, rfl, h11, rf_no _ _ (by decide +kernel) (by decide +kernel), r, l, cd ",", ts, rfl, by decide +kernel, hR1, ?_⟩
      unfold giveNeed
      cases e1 : skipT (.sign (cd ",")) ts with
      | none => rw [e1] at g; exact fun H' => g H'
      | some ts1 =>
        rw [e1] at g
        dsimp only at g
        intro H2 hR2 hF2
        have hK2 := kp hR1 hK1 hF2
        have hF02 := (up hF1).trans (up hF2)
        dsimp only
        refine seq_hold fun R hR0 => ?_
        have rest : ∀ (k' : Kr) (H3 : Hp) (ts3 : List Tk), KrAt KC M H3 f k' → RdAt RC H3 r l ts3 → Fx (r :: f.l) H H3 → k'.names.length ≤ 65536 → giveM RC WT KC r l M f V.bl ((mAddName k' ts3).map fun x => ((true, x.1.2), x.2)) H Q E → R [some (.ref r), some (.ref f.a)] H3 := by
          intro k' H3 ts3 hK3 hR3 hF3 hz3 g3
          rw [hR0]
          refine ⟨_, rfl, _, rfl, r, l, ts3, f, k', M, rfl, hR3, hK3, hlf, hM, hz3, ?_⟩
          unfold giveM at g3 ⊢
          cases e3 : mAddName k' ts3 with
          | none => rw [e3] at g3; exact fun H' => g3 H'
          | some x =>
            rw [e3] at g3
            intro H4 hK4 hR4 hF4
            exact g3 H4 hK4 hR4 (hF3.trans hF4)
        obtain ⟨dk, as, t1, t2, t3, t4, t5, t6⟩ := hK2.ex
        refine ⟨_, rfl, f.a, KC, dk, _, _, rfl, t1, TK.cl, TK.ext, kf_ext _ _ _ _ _ _ _ _ _ _, _, rfl, ?_⟩
        cases he : k.ext with
        | true =>
          rw [he, if_pos rfl] at g
          refine iteF (iteF ?_)
          exact rest k H2 ts1 hK2 hR2 hF02 hz g
        | false =>
          rw [he, if_neg (by decide)] at g
          refine iteT ?_
          obtain ⟨dx2, p2, h12⟩ := hR2.obj
          refine ⟨_, rfl, r, dx2, _, rfl, h12, rf_no _ _ (by decide +kernel) (by decide +kernel), r, l, cd "...", ts1, rfl, by decide +kernel, hR2, ?_⟩
          unfold giveSkip
          cases e2 : skipT (.sign (cd "...")) ts1 with
          | none =>
            rw [e2] at g
            intro H3 hR3 hF3
            refine ⟨_, rfl, iteF ?_⟩
            exact rest k H3 ts1 (kp hR2 hK2 hF3) hR3 (hF02.trans (up hF3)) hz g
          | some ts2 =>
            rw [e2] at g
            dsimp only at g
            intro H3 hR3 hF3
            have hK3 := kp hR2 hK2 hF3
            refine ⟨_, rfl, iteT ?_⟩
            obtain ⟨dk3, as3, u1, u2, u3, u4, u5, u6⟩ := hK3.ex
            refine ⟨_, rfl, f.a, KC, dk3, _, rfl, u1, TK.cl, TK.ext, (by show 10 < 1000; decide), ?_⟩
            have e5 := kf_ext_put k.form k.target k.low k.high f.pl k.roots k.ext f.pa f.op k.waits true
            have hK4 := hK3.put (dx := dk3) { k with ext := true } haM rfl rfl rfl
            rw [← e5] at hK4
            have hR4 := hR3.put (o := .ins KC dk3 (putF "extensible" (.bl true) (kf k.form k.target k.low k.high f.pl k.roots k.ext f.pa f.op k.waits))) hK3
            have hF04 := (hF02.trans (up hF3)).trans (upa (o := .ins KC dk3 (putF "extensible" (.bl true) (kf k.form k.target k.low k.high f.pl k.roots k.ext f.pa f.op k.waits))))
            obtain ⟨dx4, p4, h14⟩ := hR4.obj
            refine ⟨_, rfl, r, dx4, _, rfl, h14, rf_no _ _ (by decide +kernel) (by decide +kernel), r, l, cd "}", ts2, rfl, by decide +kernel, hR4, ?_⟩
            unfold giveSkip
            cases e6 : skipT (.sign (cd "}")) ts2 with
            | some ts3 =>
              rw [e6] at g
              intro H5 hR5 hF5
              refine ⟨_, rfl, iteT ?_⟩
              exact g H5 (kp hR4 hK4 hF5) hR5 (hF04.trans (up hF5))
            | none =>
              rw [e6] at g
              dsimp only at g
              intro H5 hR5 hF5
              have hK5 := kp hR4 hK4 hF5
              refine ⟨_, rfl, iteF ?_⟩
              obtain ⟨dx5, p5, h15⟩ := hR5.obj
              refine ⟨_, rfl, r, dx5, _, rfl, h15, rf_no _ _ (by decide +kernel) (by decide +kernel), r, l, cd ",", ts2, rfl, by decide +kernel, hR5, ?_⟩
              unfold giveNeed
              cases e7 : skipT (.sign (cd ",")) ts2 with
              | none => rw [e7] at g; exact fun H' => g H'
              | some ts3 =>
                rw [e7] at g
                dsimp only at g
                intro H6 hR6 hF6
                exact rest { k with ext := true } H6 ts3 (kp hR5 hK5 hF6) hR6 ((hF04.trans (up hF5)).trans (up hF6)) hz g
end
end Th
set_option Elab.async false
set_option linter.all false
set_option maxRecDepth 100000
set_option maxHeartbeats 4000000
namespace Th
open PySem L2
theorem skipT_len {t : Tk} {ts r : List Tk} (h : skipT t ts = some r) : r.length + 1 = ts.length := by
  cases ts with
  | nil => cases h
  | cons u q =>
    rw [skipT_cons] at h
    split at h
    · cases h; rfl
    · cases h
theorem mAddName_len {k : Kr} {ts : List Tk} {x : (Unit × Kr) × List Tk} (h : mAddName k ts = some x) : x.2.length + 1 = ts.length ∧ x.1.2.names.length = k.names.length + 1 ∧ x.1.2.parts = k.parts ∧ x.1.2.form = k.form ∧ x.1.2.waits = k.waits ∧ x.1.2.opts = k.opts := by
  unfold mAddName at h
  split at h
  · split at h
    · cases h; exact ⟨rfl, by simp, rfl, rfl, rfl, rfl⟩
    · cases h
  · cases h
theorem mNext_len {k : Kr} {ts : List Tk} {x : (Bool × Kr) × List Tk} (h : mNext k ts = some x) : x.2.length < ts.length ∧ x.1.2.names.length + x.2.length ≤ k.names.length + ts.length ∧ x.1.2.parts = k.parts ∧ x.1.2.form = k.form ∧ x.1.2.waits = k.waits ∧ x.1.2.opts = k.opts := by
  unfold mNext at h
  split at h
  · rename_i r1 e1
    cases h
    have := skipT_len e1
    exact ⟨by show r1.length < _; omega, by show k.names.length + r1.length ≤ _; omega, rfl, rfl, rfl, rfl⟩
  · split at h
    · cases h
    · rename_i r1 e1
      have l1 := skipT_len e1
      split at h
      · cases e2 : mAddName k r1 with
        | none => rw [e2] at h; cases h
        | some y =>
          rw [e2] at h
          cases h
          obtain ⟨a, b, c, d, e, f⟩ := mAddName_len e2
          exact ⟨by show y.2.length < _; omega, by show y.1.2.names.length + y.2.length ≤ _; omega, c, d, e, f⟩
      · rename_i r2 e2
        have l2 : r2.length + 1 = r1.length := by
          split at e2
          · cases e2
          · exact skipT_len e2
        split at h
        · rename_i r3 e3
          have l3 := skipT_len e3
          cases h
          exact ⟨by show r3.length < _; omega, by show k.names.length + r3.length ≤ _; omega, rfl, rfl, rfl, rfl⟩
        · split at h
          · cases h
          · rename_i r3 e3
            have l3 := skipT_len e3
            cases e4 : mAddName { k with ext := true } r3 with
            | none => rw [e4] at h; cases h
            | some y =>
              rw [e4] at h
              cases h
              obtain ⟨a, b, c, d, e, f⟩ := mAddName_len e4
              exact ⟨by show y.2.length < _; omega, by show y.1.2.names.length + y.2.length ≤ _; rw [b]; show k.names.length + 1 + _ ≤ _; omega, c, d, e, f⟩
def mEnumF : Nat → Kr → List Tk → Option (Kr × List Tk)
  | 0, _, _ => none
  | n + 1, k, ts => match mNext k ts with
    | none => none
    | some x => if x.1.1 = true then mEnumF n x.1.2 x.2 else some (x.1.2, x.2)
theorem mEnumF_enough : ∀ (n : Nat) (k : Kr) (ts : List Tk), ts.length < n → mEnumF n k ts = mEnumF (ts.length + 1) k ts := by
  intro n
  induction n using Nat.strongRecOn with
  | ind n ih =>
    intro k ts h
    match n with
    | 0 => omega
    | n + 1 =>
      rw [mEnumF, mEnumF]
      cases e : mNext k ts with
      | none => rfl
      | some x =>
        have hl := (mNext_len e).1
        dsimp only
        split
        · rw [ih n (by omega) _ _ (by omega)]
          by_cases h0 : ts.length = 0
          · omega
          · rw [ih ts.length (by omega) _ _ hl]
        · rfl
def mEnum (ts : List Tk) : Option (Kr × List Tk) := match skipT (.sign (cd "{")) ts with
  | none => none
  | some r1 => match mAddName { form := "ENUMERATED" } r1 with
    | none => none
    | some x => mEnumF (x.2.length + 1) x.1.2 x.2
def mChoice (ts : List Tk) : Option (Kr × List Tk) := match skipT (.sign (cd "{")) ts with
  | none => none
  | some r1 => match mAddName { form := "CHOICE" } r1 with
    | none => none
    | some x => some ({ x.1.2 with waits := true }, x.2)
section
variable {P : Program} {w : World} {K : PySem.W.Frag} {mg : Str → Option Value} {base : Heap} {WT RC KC : Addr}
theorem Fx.overNew {H H1 H2 : Hp} {r : Addr} {f : Fm} (h : Fx [r] H H1) (hn : ∀ b ∈ f.l, H b = none) (h2 : Fx (r :: f.l) H1 H2) : Fx [r] H H2 := fun b o n e => by
  refine h2 b o (fun z => ?_) (h b o n e)
  rcases List.mem_cons.mp z with z | z
  · exact n (by rw [z]; exact List.mem_cons_self)
  · rw [hn b z] at e; cases e
theorem RdAt.len {H : Hp} {r l : Addr} {ts : List Tk} (h : RdAt RC H r l ts) : ts.length ≤ 65536 := by
  obtain ⟨dx, as, all, p, _, _, _, _, h5, _, rfl⟩ := h.ex
  rw [List.length_drop]; omega
def spReadEnumerated (RC WT KC : Addr) : Sp := fun vs H Q E => ∃ (r l : Addr) (ts : List Tk), vs = [.ref r] ∧ RdAt RC H r l ts ∧ giveK RC WT KC r l (mEnum ts) H Q E
theorem scReadEnumerated : FnScope ["reader", "kind", "goes_on"] ["reader"] (defScope sReadEnumerated) := ⟨rfl, rfl, rfl, by decide +kernel, rfl, by decide +kernel, by decide +kernel⟩
theorem ok_read_enumerated (D : Df K mg "read_enumerated" sReadEnumerated ["reader"]) (TR : RdT K RC) (GK : OkI P w K mg base CX0 1 "Kind" KC ["self", "form"] (spKindInit KC)) (GNS : OkM P w K mg base (CXW P w) 4 RC "needs_sign" ["self", "sign"] (spNeedsSign RC WT))
    (GA : Ok P w K mg base (CXW P w) 3 "add_name" ["reader", "kind"] (spAddName RC WT KC)) (GX : Ok P w K mg base (CXW P w) 5 "next_name" ["reader", "kind"] (spNextName RC WT KC)) : Ok P w K mg base (CXW P w) 6 "read_enumerated" ["reader"] (spReadEnumerated RC WT KC) := by
  refine D.okX scReadEnumerated (fun vs H Q E h => ?_) (fun fa cdv A outer s H vs Q E hr h => ?_)
  · obtain ⟨r, l, ts, rfl, _⟩ := h; rfl
  · obtain ⟨r, l, ts, rfl, hR, k⟩ := h
    have hr2 := hr.mono (show 2 ≤ 5 by decide)
    have hr3 := hr.mono (show 3 ≤ 5 by decide)
    have hr4 := hr.mono (show 4 ≤ 5 by decide)
    refine ⟨_, pss_cons (ps_set (i := 1) scReadEnumerated.nd rfl (Or.inl rfl) (pe_mkc GK hr2 pass0 (pa_cons pe_str pa_nil)))
      (pss_cons (ps_expr (pe_mt GNS TR.cl hr4 pass_cx (pv 0) (pa_cons pe_str pa_nil)))
      (pss_cons (ps_expr (pe_c GA hr3 pass_cx (pa_cons (pv 0) (pa_cons (pv 1) pa_nil))))
      (pss_cons (ps_set (i := 2) scReadEnumerated.nd rfl (Or.inl rfl) (pe_c GX hr pass_cx (pa_cons (pv 0) (pa_cons (pv 1) pa_nil))))
      (pss_cons (ps_while own_cx (pt_val (pv 2)) (pss_one (ps_set (i := 2) scReadEnumerated.nd rfl (Or.inl rfl) (pe_c GX hr pass_cx (pa_cons (pv 0) (pa_cons (pv 1) pa_nil))))))
      (pss_one (ps_ret (pv 1))))))), ?_⟩
    refine set_kind fun f H1 hN => ?_
    have hK1 := hN.at_ (r :: f.l)
    have hR1 := hR.newK hN
    have hlf : ∀ b ∈ f.l, H b = none := hN.new
    have hlo := hR.l_out hlf
    have hF1 : Fx [r] H H1 := hN.keep.mono (by simp)
    obtain ⟨dx1, p1, h11⟩ := hR1.obj
    refine ⟨_, rfl, r, dx1, _, rfl, h11, rf_no _ _ (by decide +kernel) (by decide +kernel), r, l, cd "{", ts, rfl, by decide +kernel, hR1, ?_⟩
    unfold mEnum at k
    unfold giveNeed
    cases e : skipT (.sign (cd "{")) ts with
    | none => rw [e] at k; exact fun H' => k H'
    | some ts1 =>
      rw [e] at k
      dsimp only at k
      intro H2 hR2 hF2
      have hK2 := hK1.keep hF2 (fun b hb => by rw [List.mem_singleton.mp hb]; exact List.mem_cons_self) (Fm.out (r_out hR1 hK1))
      refine ⟨_, rfl, _, rfl, r, l, ts1, f, { form := "ENUMERATED" }, r :: f.l, rfl, hR2, hK2, hlo, fun b hb => hb, Nat.zero_le _, ?_⟩
      unfold giveM
      cases e2 : mAddName { form := "ENUMERATED" } ts1 with
      | none => rw [e2] at k; exact fun H' => k H'
      | some x =>
        rw [e2] at k
        dsimp only at k
        intro H3 hK3 hR3 hF3
        have hF03 := Fx.overNew (hF1.trans hF2) hlf hF3
        obtain ⟨a1, a2, a3, a4, a5, a6⟩ := mAddName_len e2
        have b1 := skipT_len e
        have hz3 : x.1.2.names.length + x.2.length ≤ 65536 := by rw [a2]; have := hR.len; show 0 + 1 + _ ≤ _; omega
        refine ⟨_, rfl, _, rfl, r, l, x.2, f, x.1.2, r :: f.l, rfl, hR3, hK3, hlo, fun b hb => hb, by omega, ?_⟩
        -- the loop, from the answer of next_name
        have loop : ∀ (y : (Bool × Kr) × List Tk) (H4 : Hp), KrAt KC (r :: f.l) H4 f y.1.2 → RdAt RC H4 r l y.2 → Fx [r] H H4 → y.1.2.names.length + y.2.length ≤ 65536 → y.1.2.parts = [] →
            giveK RC WT KC r l (if y.1.1 = true then mEnumF (y.2.length + 1) y.1.2 y.2 else some (y.1.2, y.2)) H Q E →
            tSeq (tWhile (tB (tVar 2)) (tAsg (tCall (spNextName RC WT KC) [] E (tCons (tVar 0) (tCons (tVar 1) tNil))) (gName 2))) (tRet (tVar 1)) { nx := fun _ H' => Q .non H', rt := Q } [some (.ref r), some (.ref f.a), some (.bl y.1.1)] H4 := by
          intro y H4 hK4 hR4 hF4 hz4 hp4 k4
          refine ⟨fun m σ' H' => ∃ y : (Bool × Kr) × List Tk, σ' = [some (.ref r), some (.ref f.a), some (.bl y.1.1)] ∧ KrAt KC (r :: f.l) H' f y.1.2 ∧ RdAt RC H' r l y.2 ∧ Fx [r] H H' ∧ y.1.2.names.length + y.2.length ≤ 65536 ∧ y.1.2.parts = [] ∧
            giveK RC WT KC r l (if y.1.1 = true then mEnumF (y.2.length + 1) y.1.2 y.2 else some (y.1.2, y.2)) H Q E ∧ m = y.2.length, ⟨_, y, rfl, hK4, hR4, hF4, hz4, hp4, k4, rfl⟩, ?_⟩
          rintro m σ' H' ⟨y, rfl, hK5, hR5, hF5, hz5, hp5, k5, rfl⟩
          refine ⟨_, rfl, _, rfl, ?_⟩
          cases hb : y.1.1 with
          | false =>
            rw [hb, if_neg (by decide)] at k5
            refine iteF ⟨_, rfl, ?_⟩
            exact k5 f H' (hK5.any hp5) hlf hR5 hF5
          | true =>
            rw [hb, if_pos rfl, mEnumF] at k5
            refine iteT ⟨_, fun σ'' H'' z => z, _, rfl, _, rfl, r, l, y.2, f, y.1.2, r :: f.l, rfl, hR5, hK5, hlo, fun b hb => hb, by omega, ?_⟩
            unfold giveM
            cases e5 : mNext y.1.2 y.2 with
            | none => rw [e5] at k5; exact fun H' => k5 H'
            | some z =>
              rw [e5] at k5
              dsimp only at k5
              intro H6 hK6 hR6 hF6
              obtain ⟨c1, c2, c3, _⟩ := mNext_len e5
              refine ⟨_, c1, z, rfl, hK6, hR6, Fx.overNew hF5 hlf hF6, by omega, by rw [c3]; exact hp5, ?_, rfl⟩
              rw [mEnumF_enough y.2.length z.1.2 z.2 c1] at k5
              exact k5
        unfold giveM
        rw [mEnumF] at k
        cases e3 : mNext x.1.2 x.2 with
        | none => rw [e3] at k; exact fun H' => k H'
        | some y =>
          rw [e3] at k
          dsimp only at k
          intro H4 hK4 hR4 hF4
          obtain ⟨c1, c2, c3, _⟩ := mNext_len e3
          rw [mEnumF_enough x.2.length y.1.2 y.2 c1] at k
          exact loop y H4 hK4 hR4 (Fx.overNew hF03 hlf hF4) (by omega) (by rw [c3, a3]) k
end
end Th
set_option Elab.async false
set_option linter.all false
set_option maxRecDepth 100000
set_option maxHeartbeats 4000000
namespace Th
open PySem L2
def mSeqOf (ts : List Tk) : Option (Kr × List Tk) := match mSize { form := "SEQUENCE OF" } ts with
  | none => none
  | some x => match skipT (.word (cd "OF")) x.2 with
    | none => none
    | some r => some ({ x.1.2 with waits := true }, r)
def mSeq2 (ts : List Tk) : Option (Kr × List Tk) := match skipT (.sign (cd "}")) ts with
  | some r => some ({ form := "SEQUENCE" }, r)
  | none => match skipT (.sign (cd "...")) ts with
    | some r => match skipT (.sign (cd "}")) r with
      | none => none
      | some r2 => some ({ form := "SEQUENCE", ext := true }, r2)
    | none => match mAddName { form := "SEQUENCE" } ts with
      | none => none
      | some x => some ({ x.1.2 with waits := true }, x.2)
def mSeq (ts : List Tk) : Option (Kr × List Tk) := match skipT (.sign (cd "{")) ts with
  | none => mSeqOf ts
  | some r => mSeq2 r
theorem new_back {H H1 : Hp} {r : Addr} {L : List Addr} (hF : Fx [r] H H1) (hr : H1 r ≠ none) (hn : ∀ b ∈ L, H1 b = none) : ∀ b ∈ L, H b = none := fun b hb => by
  cases e : H b with
  | none => rfl
  | some o =>
    by_cases hbr : b = r
    · exact absurd (hbr ▸ hn b hb) hr
    · have := hF b o (by simpa using hbr) e
      rw [hn b hb] at this; cases this
section
variable {P : Program} {w : World} {K : PySem.W.Frag} {mg : Str → Option Value} {base : Heap} {WT RC KC : Addr}
theorem fin_waits {H H3 : Hp} {r l : Addr} {ts : List Tk} {f : Fm} {k : Kr} {i : Nat} {σ : St} {Q : VK} (TK : KdT K KC) (hK : KrAt KC (r :: f.l) H3 f k) (hp : k.parts = []) (hR : RdAt RC H3 r l ts) (hF : Fx [r] H H3) (hlf : ∀ b ∈ f.l, H b = none)
    (g : ∀ (f' : Fm) (H' : Hp), KrAt KC [] H' f' { k with waits := true } → (∀ b ∈ f'.l, H b = none) → RdAt RC H' r l ts → Fx [r] H H' → Q (.ref f'.a) H') :
    ∃ (C dx : Addr) (fs : List (Str × V)), H3 f.a = some (.ins C dx fs) ∧ Cls K C ∧ NoAttr K C "waits" ∧ fs.length < 1000 ∧ Q (.ref f.a) (upd H3 f.a (.ins C dx (putF "waits" (.bl true) fs))) := by
  obtain ⟨dk, as, t1, _⟩ := hK.ex
  refine ⟨KC, dk, _, t1, TK.cl, TK.waits, (by show 10 < 1000; decide), ?_⟩
  rw [kf_waits_put]
  have hK5 := hK.put (dx := dk) { k with waits := true } (by simp [Fm.l]) rfl rfl rfl
  exact g f _ (hK5.any hp) hlf (hR.put hK) (Fx.putNew hF (hlf f.a (by simp [Fm.l])))
def spBeginChoice (RC WT KC : Addr) : Sp := fun vs H Q E => ∃ (r l : Addr) (ts : List Tk), vs = [.ref r] ∧ RdAt RC H r l ts ∧ giveK RC WT KC r l (mChoice ts) H Q E
theorem scBeginChoice : FnScope ["reader", "kind"] ["reader"] (defScope sBeginChoice) := ⟨rfl, rfl, rfl, by decide +kernel, rfl, by decide +kernel, by decide +kernel⟩
theorem ok_begin_choice (D : Df K mg "begin_choice" sBeginChoice ["reader"]) (TR : RdT K RC) (TK : KdT K KC) (GK : OkI P w K mg base CX0 1 "Kind" KC ["self", "form"] (spKindInit KC)) (GNS : OkM P w K mg base (CXW P w) 4 RC "needs_sign" ["self", "sign"] (spNeedsSign RC WT))
    (GA : Ok P w K mg base (CXW P w) 3 "add_name" ["reader", "kind"] (spAddName RC WT KC)) : Ok P w K mg base (CXW P w) 5 "begin_choice" ["reader"] (spBeginChoice RC WT KC) := by
  refine D.okX scBeginChoice (fun vs H Q E h => ?_) (fun fa cdv A outer s H vs Q E hr h => ?_)
  · obtain ⟨r, l, ts, rfl, _⟩ := h; rfl
  · obtain ⟨r, l, ts, rfl, hR, k⟩ := h
    have hr2 := hr.mono (show 2 ≤ 4 by decide)
    have hr3 := hr.mono (show 3 ≤ 4 by decide)
    refine ⟨_, pss_cons (ps_set (i := 1) scBeginChoice.nd rfl (Or.inl rfl) (pe_mkc GK hr2 pass0 (pa_cons pe_str pa_nil)))
      (pss_cons (ps_expr (pe_mt GNS TR.cl hr pass_cx (pv 0) (pa_cons pe_str pa_nil)))
      (pss_cons (ps_expr (pe_c GA hr3 pass_cx (pa_cons (pv 0) (pa_cons (pv 1) pa_nil))))
      (pss_cons (ps_fld (pv 1) pe_bl rfl) (pss_one (ps_ret (pv 1)))))), ?_⟩
    refine set_kind fun f H1 hN => ?_
    have hK1 := hN.at_ (r :: f.l)
    have hR1 := hR.newK hN
    have hlf : ∀ b ∈ f.l, H b = none := hN.new
    have hlo := hR.l_out hlf
    have hF1 : Fx [r] H H1 := hN.keep.mono (by simp)
    obtain ⟨dx1, p1, h11⟩ := hR1.obj
    refine ⟨_, rfl, r, dx1, _, rfl, h11, rf_no _ _ (by decide +kernel) (by decide +kernel), r, l, cd "{", ts, rfl, by decide +kernel, hR1, ?_⟩
    unfold mChoice at k
    unfold giveNeed
    cases e : skipT (.sign (cd "{")) ts with
    | none => rw [e] at k; exact fun H' => k H'
    | some ts1 =>
      rw [e] at k
      dsimp only at k
      intro H2 hR2 hF2
      have hK2 := hK1.keep hF2 (fun b hb => by rw [List.mem_singleton.mp hb]; exact List.mem_cons_self) (Fm.out (r_out hR1 hK1))
      refine ⟨_, rfl, _, rfl, r, l, ts1, f, { form := "CHOICE" }, r :: f.l, rfl, hR2, hK2, hlo, fun b hb => hb, Nat.zero_le _, ?_⟩
      unfold giveM
      cases e2 : mAddName { form := "CHOICE" } ts1 with
      | none => rw [e2] at k; exact fun H' => k H'
      | some x =>
        rw [e2] at k
        dsimp only at k
        intro H3 hK3 hR3 hF3
        have hF03 := Fx.overNew (hF1.trans hF2) hlf hF3
        obtain ⟨a1, a2, a3, a4, a5, a6⟩ := mAddName_len e2
        obtain ⟨C, dx, fs, q1, q2, q3, q4, q5⟩ := fin_waits TK hK3 a3 hR3 hF03 hlf k (i := 1) (σ := [])
        exact ⟨_, rfl, f.a, C, dx, fs, rfl, q1, q2, q3, q4, _, rfl, q5⟩
def spBeginSeqOf (RC WT KC : Addr) : Sp := fun vs H Q E => ∃ (r l : Addr) (ts : List Tk), vs = [.ref r] ∧ RdAt RC H r l ts ∧ giveK RC WT KC r l (mSeqOf ts) H Q E
theorem scBeginSeqOf : FnScope ["reader", "kind"] ["reader"] (defScope sBeginSequenceOf) := ⟨rfl, rfl, rfl, by decide +kernel, rfl, by decide +kernel, by decide +kernel⟩
theorem ok_begin_sequence_of (D : Df K mg "begin_sequence_of" sBeginSequenceOf ["reader"]) (T : Txs K mg) (TR : RdT K RC) (TK : KdT K KC) (GK : OkI P w K mg base CX0 1 "Kind" KC ["self", "form"] (spKindInit KC)) (GNW : OkM P w K mg base (CXW P w) 4 RC "needs_word" ["self", "word"] (spNeedsWord RC WT))
    (GZ : Ok P w K mg base (CXW P w) 6 "read_size" ["reader", "kind"] (spReadSize RC WT KC)) : Ok P w K mg base (CXW P w) 7 "begin_sequence_of" ["reader"] (spBeginSeqOf RC WT KC) := by
  refine D.okX scBeginSeqOf (fun vs H Q E h => ?_) (fun fa cdv A outer s H vs Q E hr h => ?_)
  · obtain ⟨r, l, ts, rfl, _⟩ := h; rfl
  · obtain ⟨r, l, ts, rfl, hR, k⟩ := h
    have hr2 := hr.mono (show 2 ≤ 6 by decide)
    have hr4 := hr.mono (show 4 ≤ 6 by decide)
    refine ⟨_, pss_cons (ps_set (i := 1) scBeginSeqOf.nd rfl (Or.inl rfl) (pe_mkc GK hr2 pass0 (pa_cons (pe_k T.seqof) pa_nil)))
      (pss_cons (ps_expr (pe_c GZ hr pass_cx (pa_cons (pv 0) (pa_cons (pv 1) pa_nil))))
      (pss_cons (ps_expr (pe_mt GNW TR.cl hr4 pass_cx (pv 0) (pa_cons pe_str pa_nil)))
      (pss_cons (ps_fld (pv 1) pe_bl rfl) (pss_one (ps_ret (pv 1)))))), ?_⟩
    refine set_kind fun f H1 hN => ?_
    have hK1 := hN.at_ (r :: f.l)
    have hR1 := hR.newK hN
    have hlf : ∀ b ∈ f.l, H b = none := hN.new
    have hlo := hR.l_out hlf
    have hF1 : Fx [r] H H1 := hN.keep.mono (by simp)
    unfold mSeqOf at k
    refine ⟨_, rfl, _, rfl, r, l, ts, f, { form := "SEQUENCE OF" }, r :: f.l, rfl, hR1, hK1, hlo, fun b hb => hb, ?_⟩
    unfold giveM
    cases e : mSize { form := "SEQUENCE OF" } ts with
    | none => rw [e] at k; exact fun H' => k H'
    | some x =>
      rw [e] at k
      dsimp only at k
      intro H2 hK2 hR2 hF2
      have hF02 := Fx.overNew hF1 hlf hF2
      obtain ⟨x1, x2, x3⟩ := mSize_parts e
      obtain ⟨dx2, p2, h12⟩ := hR2.obj
      refine ⟨_, rfl, r, dx2, _, rfl, h12, rf_no _ _ (by decide +kernel) (by decide +kernel), r, l, cd "OF", x.2, rfl, by decide +kernel, hR2, ?_⟩
      unfold giveNeed
      cases e2 : skipT (.word (cd "OF")) x.2 with
      | none => rw [e2] at k; exact fun H' => k H'
      | some ts3 =>
        rw [e2] at k
        intro H3 hR3 hF3
        have hK3 := hK2.keep hF3 (fun b hb => by rw [List.mem_singleton.mp hb]; exact List.mem_cons_self) (Fm.out (r_out hR2 hK2))
        obtain ⟨C, dx, fs, q1, q2, q3, q4, q5⟩ := fin_waits TK hK3 x1 hR3 (hF02.trans hF3) hlf k (i := 1) (σ := [])
        exact ⟨_, rfl, f.a, C, dx, fs, rfl, q1, q2, q3, q4, _, rfl, q5⟩
def spBeginSeq (RC WT KC : Addr) : Sp := fun vs H Q E => ∃ (r l : Addr) (ts : List Tk), vs = [.ref r] ∧ RdAt RC H r l ts ∧ giveK RC WT KC r l (mSeq ts) H Q E
theorem scBeginSeq : FnScope ["reader", "kind"] ["reader"] (defScope sBeginSequence) := ⟨rfl, rfl, rfl, by decide +kernel, rfl, by decide +kernel, by decide +kernel⟩
theorem ok_begin_sequence (D : Df K mg "begin_sequence" sBeginSequence ["reader"]) (TR : RdT K RC) (TK : KdT K KC) (GK : OkI P w K mg base CX0 1 "Kind" KC ["self", "form"] (spKindInit KC)) (GS : OkM P w K mg base CX0 3 RC "skips_sign" ["self", "sign"] (spSkipsSign RC)) (GNS : OkM P w K mg base (CXW P w) 4 RC "needs_sign" ["self", "sign"] (spNeedsSign RC WT))
    (GA : Ok P w K mg base (CXW P w) 3 "add_name" ["reader", "kind"] (spAddName RC WT KC)) (GO : Ok P w K mg base (CXW P w) 7 "begin_sequence_of" ["reader"] (spBeginSeqOf RC WT KC)) : Ok P w K mg base (CXW P w) 8 "begin_sequence" ["reader"] (spBeginSeq RC WT KC) := by
  refine D.okX scBeginSeq (fun vs H Q E h => ?_) (fun fa cdv A outer s H vs Q E hr h => ?_)
  · obtain ⟨r, l, ts, rfl, _⟩ := h; rfl
  · obtain ⟨r, l, ts, rfl, hR, k⟩ := h
    have hr2 := hr.mono (show 2 ≤ 7 by decide)
    have hr3 := hr.mono (show 3 ≤ 7 by decide)
    have hr4 := hr.mono (show 4 ≤ 7 by decide)
    refine ⟨_, pss_cons (ps_if (pt_not (pt_val (pe_mt GS TR.cl hr3 pass0 (pv 0) (pa_cons pe_str pa_nil)))) (pss_one (ps_ret (pe_c GO hr pass_cx (pa_cons (pv 0) pa_nil)))) pss_nil)
      (pss_cons (ps_set (i := 1) scBeginSeq.nd rfl (Or.inl rfl) (pe_mkc GK hr2 pass0 (pa_cons pe_str pa_nil)))
      (pss_cons (ps_if (pt_val (pe_mt GS TR.cl hr3 pass0 (pv 0) (pa_cons pe_str pa_nil))) (pss_one (ps_ret (pv 1))) pss_nil)
      (pss_cons (ps_if (pt_val (pe_mt GS TR.cl hr3 pass0 (pv 0) (pa_cons pe_str pa_nil))) (pss_cons (ps_fld (pv 1) pe_bl rfl) (pss_cons (ps_expr (pe_mt GNS TR.cl hr4 pass_cx (pv 0) (pa_cons pe_str pa_nil))) (pss_one (ps_ret (pv 1))))) pss_nil)
      (pss_cons (ps_expr (pe_c GA hr3 pass_cx (pa_cons (pv 0) (pa_cons (pv 1) pa_nil))))
      (pss_cons (ps_fld (pv 1) pe_bl rfl) (pss_one (ps_ret (pv 1)))))))), ?_⟩
    obtain ⟨dx0, p0, h10⟩ := hR.obj
    refine ⟨_, rfl, r, dx0, _, rfl, h10, rf_no _ _ (by decide +kernel) (by decide +kernel), r, l, cd "{", ts, rfl, by decide +kernel, hR, ?_⟩
    unfold mSeq at k
    unfold giveSkip
    cases e : skipT (.sign (cd "{")) ts with
    | none =>
      rw [e] at k
      dsimp only at k
      intro H1 hR1 hF1
      refine ⟨_, rfl, iteT ?_⟩
      refine ⟨_, rfl, r, l, ts, rfl, hR1, ?_⟩
      unfold giveK at k ⊢
      cases e2 : mSeqOf ts with
      | none => rw [e2] at k; exact fun H' => k H'
      | some x =>
        rw [e2] at k
        intro f H' a b c d
        obtain ⟨dx1, p1, h11⟩ := hR1.obj
        exact k f H' a (new_back hF1 (by rw [h11]; simp) b) c (hF1.trans d)
    | some ts1 =>
      rw [e] at k
      dsimp only at k
      intro H0 hR0 hF0
      refine ⟨_, rfl, iteF ?_⟩
      refine set_kind fun f H1 hN => ?_
      have hK1 := hN.at_ (r :: f.l)
      have hR1 := hR0.newK hN
      obtain ⟨dx00, p00, h00⟩ := hR0.obj
      have hlf : ∀ b ∈ f.l, H b = none := new_back hF0 (by rw [h00]; simp) hN.new
      have hlo := hR.l_out hlf
      have hF1 : Fx [r] H H1 := hF0.trans (hN.keep.mono (by simp))
      have kp : ∀ {X Y : Hp} {tt : List Tk} {k : Kr}, RdAt RC X r l tt → KrAt KC (r :: f.l) X f k → Fx [r] X Y → KrAt KC (r :: f.l) Y f k := fun a b c => b.keep c (fun b hb => by rw [List.mem_singleton.mp hb]; exact List.mem_cons_self) (Fm.out (r_out a b))
      obtain ⟨dx1, p1, h11⟩ := hR1.obj
      refine ⟨_, rfl, r, dx1, _, rfl, h11, rf_no _ _ (by decide +kernel) (by decide +kernel), r, l, cd "}", ts1, rfl, by decide +kernel, hR1, ?_⟩
      unfold mSeq2 at k
      unfold giveSkip
      cases e1 : skipT (.sign (cd "}")) ts1 with
      | some ts2 =>
        rw [e1] at k
        intro H2 hR2 hF2
        refine ⟨_, rfl, iteT ⟨_, rfl, ?_⟩⟩
        exact k f H2 ((kp hR1 hK1 hF2).any rfl) hlf hR2 (hF1.trans hF2)
      | none =>
        rw [e1] at k
        dsimp only at k
        intro H2 hR2 hF2
        have hK2 := kp hR1 hK1 hF2
        refine ⟨_, rfl, iteF ?_⟩
        obtain ⟨dx2, p2, h12⟩ := hR2.obj
        refine ⟨_, rfl, r, dx2, _, rfl, h12, rf_no _ _ (by decide +kernel) (by decide +kernel), r, l, cd "...", ts1, rfl, by decide +kernel, hR2, ?_⟩
        unfold giveSkip
        cases e2 : skipT (.sign (cd "...")) ts1 with
        | some ts2 =>
          rw [e2] at k
          dsimp only at k
          intro H3 hR3 hF3
          have hK3 := kp hR2 hK2 hF3
          have hF03 := (hF1.trans hF2).trans hF3
          refine ⟨_, rfl, iteT ?_⟩
          obtain ⟨dk3, as3, u1, _⟩ := hK3.ex
          refine ⟨_, rfl, f.a, KC, dk3, _, rfl, u1, TK.cl, TK.ext, (by show 10 < 1000; decide), ?_⟩
          rw [kf_ext_put]
          have hK4 := hK3.put (dx := dk3) { form := "SEQUENCE", ext := true } (by simp [Fm.l]) rfl rfl rfl
          have hR4 := hR3.put (o := .ins KC dk3 (kf "SEQUENCE" [] none none f.pl 0 true f.pa f.op false)) hK3
          have hF04 := Fx.putNew (o := .ins KC dk3 (kf "SEQUENCE" [] none none f.pl 0 true f.pa f.op false)) hF03 (hlf f.a (by simp [Fm.l]))
          obtain ⟨dx4, p4, h14⟩ := hR4.obj
          refine ⟨_, rfl, r, dx4, _, rfl, h14, rf_no _ _ (by decide +kernel) (by decide +kernel), r, l, cd "}", ts2, rfl, by decide +kernel, hR4, ?_⟩
          unfold giveNeed
          cases e4 : skipT (.sign (cd "}")) ts2 with
          | none => rw [e4] at k; exact fun H' => k H'
          | some ts3 =>
            rw [e4] at k
            intro H5 hR5 hF5
            exact ⟨_, rfl, k f H5 ((kp hR4 hK4 hF5).any rfl) hlf hR5 (hF04.trans hF5)⟩
        | none =>
          rw [e2] at k
          dsimp only at k
          intro H3 hR3 hF3
          have hK3 := kp hR2 hK2 hF3
          have hF03 := (hF1.trans hF2).trans hF3
          refine ⟨_, rfl, iteF ?_⟩
          refine ⟨_, rfl, _, rfl, r, l, ts1, f, { form := "SEQUENCE" }, r :: f.l, rfl, hR3, hK3, hlo, fun b hb => hb, Nat.zero_le _, ?_⟩
          unfold giveM
          cases e3 : mAddName { form := "SEQUENCE" } ts1 with
          | none => rw [e3] at k; exact fun H' => k H'
          | some x =>
            rw [e3] at k
            dsimp only at k
            intro H4 hK4 hR4 hF4
            have hF04 := Fx.overNew hF03 hlf hF4
            obtain ⟨a1, a2, a3, a4, a5, a6⟩ := mAddName_len e3
            obtain ⟨C, dx, fs, q1, q2, q3, q4, q5⟩ := fin_waits TK hK4 a3 hR4 hF04 hlf k (i := 1) (σ := [])
            exact ⟨_, rfl, f.a, C, dx, fs, rfl, q1, q2, q3, q4, _, rfl, q5⟩
end
end Th
set_option Elab.async false
set_option linter.all false
set_option maxRecDepth 100000
set_option maxHeartbeats 4000000
namespace Th
open PySem L2
def addN (w : List Nat) (ns : List (List Nat)) : List (List Nat) := ns ++ [w]
theorem addN_len (w : List Nat) (l : List (List Nat)) : (addN w l).length ≤ l.length + 1 := by
  unfold addN; rw [List.length_append, List.length_singleton]; exact Nat.le_refl _
def NmK (KC : Addr) (H : Hp) (g : Fm) (n : List Nat) : Prop := (∃ dx, H g.a = some (.ins KC dx (kf "a name" n none none g.pl 0 false g.pa g.op false))) ∧ H g.pa = some (.lst [])
def NmsAt (KC : Addr) (H : Hp) : List Fm → List (List Nat) → Prop
  | [], [] => True
  | g :: gs, n :: ns => NmK KC H g n ∧ NmsAt KC H gs ns
  | _, _ => False
def nas (gs : List Fm) : List Addr := gs.flatMap fun g => [g.a, g.pa]
theorem nas_cons (g : Fm) (gs : List Fm) : nas (g :: gs) = g.a :: g.pa :: nas gs := rfl
theorem nas_app (gs hs : List Fm) : nas (gs ++ hs) = nas gs ++ nas hs := by unfold nas; rw [List.flatMap_append]
theorem nas_one {f : Fm} {b : Addr} (h : b ∈ nas [f]) : b ∈ f.l := by
  have : b = f.a ∨ b = f.pa := by simpa [nas] using h
  rcases this with z | z <;> simp [Fm.l, z]
theorem NmsAt.len {KC : Addr} {H : Hp} : ∀ {gs : List Fm} {ns : List (List Nat)}, NmsAt KC H gs ns → gs.length = ns.length
  | [], [], _ => rfl
  | g :: gs, n :: ns, h => by rw [List.length_cons, List.length_cons, NmsAt.len h.2]
  | [], _ :: _, h => h.elim
  | _ :: _, [], h => h.elim
theorem NmsAt.mem {KC : Addr} {H : Hp} : ∀ {gs : List Fm} {ns : List (List Nat)}, NmsAt KC H gs ns → ∀ b ∈ nas gs, (∃ (dx : Addr) (g : Fm) (n : List Nat), H b = some (.ins KC dx (kf "a name" n none none g.pl 0 false g.pa g.op false))) ∨ H b = some (.lst [])
  | [], [], _, b, hb => by simp [nas] at hb
  | g :: gs, n :: ns, h, b, hb => by
    rw [nas_cons] at hb
    rcases List.mem_cons.mp hb with z | z
    · obtain ⟨dx, q⟩ := h.1.1
      exact .inl ⟨dx, g, n, by rw [z]; exact q⟩
    · rcases List.mem_cons.mp z with z | z
      · exact .inr (by rw [z]; exact h.1.2)
      · exact NmsAt.mem h.2 b z
  | [], _ :: _, h, _, _ => h.elim
  | _ :: _, [], h, _, _ => h.elim
theorem NmsAt.move {KC : Addr} {H H' : Hp} : ∀ {gs : List Fm} {ns : List (List Nat)}, NmsAt KC H gs ns → (∀ b ∈ nas gs, ∀ o, H b = some o → H' b = some o) → NmsAt KC H' gs ns
  | [], [], _, _ => trivial
  | g :: gs, n :: ns, h, hk => by
    rw [nas_cons] at hk
    obtain ⟨dx, q⟩ := h.1.1
    exact ⟨⟨⟨dx, hk _ (by simp) _ q⟩, hk _ (by simp) _ h.1.2⟩, NmsAt.move h.2 fun b hb => hk b (by simp [hb])⟩
  | [], _ :: _, h, _ => h.elim
  | _ :: _, [], h, _ => h.elim
theorem NmsAt.snoc {KC : Addr} {H : Hp} {f : Fm} {w : List Nat} (hf : NmK KC H f w) : ∀ {gs : List Fm} {ns : List (List Nat)}, NmsAt KC H gs ns → NmsAt KC H (gs ++ [f]) (ns ++ [w])
  | [], [], _ => ⟨hf, trivial⟩
  | g :: gs, n :: ns, h => ⟨h.1, NmsAt.snoc hf h.2⟩
  | [], _ :: _, h => h.elim
  | _ :: _, [], h => h.elim
theorem NmsAt.at {KC : Addr} {H : Hp} : ∀ {gs : List Fm} {ns : List (List Nat)} {i : Nat} {g : Fm}, NmsAt KC H gs ns → gs[i]? = some g → ∃ n, ns[i]? = some n ∧ NmK KC H g n
  | [], [], i, g, _, e => by simp at e
  | g :: gs, n :: ns, 0, g', h, e => by
    have : g = g' := by simpa using e
    subst this
    exact ⟨n, rfl, h.1⟩
  | g :: gs, n :: ns, i + 1, g', h, e => NmsAt.at (i := i) h.2 (by simpa using e)
  | [], _ :: _, _, _, h, _ => h.elim
  | _ :: _, [], _, _, h, _ => h.elim
structure NmAt (KC : Addr) (H : Hp) (nd : Addr) (gs : List Fm) (ns : List (List Nat)) : Prop where
  lst : H nd = some (.lst (gs.map fun g => V.ref g.a))
  all : NmsAt KC H gs ns
theorem NmAt.move {KC : Addr} {H H' : Hp} {nd : Addr} {gs : List Fm} {ns : List (List Nat)} {M : List Addr} (h : NmAt KC H nd gs ns) (hF : Fx M H H') (h1 : nd ∉ M) (h2 : ∀ b ∈ nas gs, b ∉ M) : NmAt KC H' nd gs ns :=
  ⟨hF nd _ h1 h.lst, h.all.move fun b hb o e => hF b o (h2 b hb) e⟩
theorem NmAt.full {KC : Addr} {H : Hp} {nd : Addr} {gs : List Fm} {ns : List (List Nat)} (h : NmAt KC H nd gs ns) {b : Addr} (hb : b ∈ nas gs) : H b ≠ none := by
  rcases h.all.mem b hb with ⟨dx, g, n, q⟩ | q <;> rw [q] <;> simp
theorem NmAt.nd_out {KC : Addr} {H : Hp} {nd : Addr} {gs : List Fm} {ns : List (List Nat)} (h : NmAt KC H nd gs ns) : nd ∉ nas gs := fun z => by
  have hl := h.lst
  rcases h.all.mem nd z with ⟨dx, g, n, q⟩ | q
  · rw [q] at hl; cases hl
  · rw [q] at hl
    cases gs with
    | nil => simp [nas] at z
    | cons g gs => injection hl with hl; injection hl with hl; cases hl
theorem NmAt.r_out {RC KC : Addr} {H : Hp} {nd : Addr} {gs : List Fm} {ns : List (List Nat)} {r l : Addr} {ts : List Tk} (h : NmAt KC H nd gs ns) (hR : RdAt RC H r l ts) : r ∉ nas gs := fun z => by
  obtain ⟨dx, p, h1⟩ := hR.obj
  rcases h.all.mem r z with ⟨dx, g, n, q⟩ | q
  · rw [q] at h1
    injection h1 with h1; injection h1 with _ _ h1; cases h1
  · rw [q] at h1; cases h1
theorem NmAt.d_out {KC : Addr} {H : Hp} {nd kd : Addr} {gs : List Fm} {ns : List (List Nat)} {d : List (Key × V)} (h : NmAt KC H nd gs ns) (hk : H kd = some (.dK d)) : kd ∉ nas gs := fun z => by
  rcases h.all.mem kd z with ⟨dx, g, n, q⟩ | q <;> rw [q] at hk <;> cases hk
theorem sv_inj {a b : List Nat} : sv a = sv b ↔ a = b := by
  refine ⟨fun z => ?_, fun z => by rw [z]⟩
  injection z with z; injection z with z; simpa using z
def giveB (RC WT KC r l nd : Addr) (gs : List Fm) (o : Option ((Kr × List (List Nat)) × List Tk)) (H : Hp) (Q : VK) (E : XK) : Prop := match o with
  | some x => ∀ (f : Fm) (gs' : List Fm) (H' : Hp), KrAt KC [] H' f x.1.1 → (∀ b ∈ f.l, H b = none) → RdAt RC H' r l x.2 → NmAt KC H' nd gs' x.1.2 → (gs' = gs ∨ (gs' = gs ++ [f] ∧ x.1.1.waits = false)) → Fx [r, nd] H H' → Q (.ref f.a) H'
  | none => ∀ H', E (.ref WT) none H'
def withN (ns : List (List Nat)) (o : Option (Kr × List Tk)) : Option ((Kr × List (List Nat)) × List Tk) := match o with
  | none => none
  | some x => some ((x.1, ns), x.2)
def mWord (ns : List (List Nat)) (w : List Nat) (r : List Tk) : Option ((Kr × List (List Nat)) × List Tk) :=
  if w = cd "BOOLEAN" then some (({ form := ⟨w.toArray⟩ }, ns), r)
  else if w = cd "NULL" then some (({ form := ⟨w.toArray⟩ }, ns), r)
  else if w = cd "INTEGER" then withN ns (mInteger r)
  else if w = cd "ENUMERATED" then withN ns (mEnum r)
  else if w = cd "BIT" then withN ns (mString ⟨w.toArray⟩ r)
  else if w = cd "OCTET" then withN ns (mString ⟨w.toArray⟩ r)
  else if w = cd "SEQUENCE" then withN ns (mSeq r)
  else if w = cd "CHOICE" then withN ns (mChoice r)
  else if kindName w = true then some (({ form := "a name", target := w }, addN w ns), r)
  else none
def mBegin (ns : List (List Nat)) (ts : List Tk) : Option ((Kr × List (List Nat)) × List Tk) := match ts with
  | .word w :: r => mWord ns w r
  | _ => none
section
variable {P : Program} {w : World} {K : PySem.W.Frag} {mg : Str → Option Value} {base : Heap} {WT RC KC : Addr}
def spNamedKind (WT KC : Addr) : Sp := fun vs H Q E => ∃ (w : List Nat) (nd : Addr) (gs : List Fm) (ns : List (List Nat)), vs = [sv w, .ref nd] ∧ (w ≠ [] ∧ ∀ c ∈ w, c < 128) ∧ w.length ≤ 65536 ∧ NmAt KC H nd gs ns ∧ ns.length ≤ 65536 ∧
  (kindName w = true → ∀ (f : Fm) (H' : Hp), KrAt KC [] H' f { form := "a name", target := w } → (∀ b ∈ f.l, H b = none) → NmAt KC H' nd (gs ++ [f]) (addN w ns) → Fx [nd] H H' → Q (.ref f.a) H') ∧ (kindName w = false → ∀ H', E (.ref WT) none H')
theorem scNamedKind : FnScope ["word", "named", "kind"] ["word", "named"] (defScope sNamedKind) := ⟨rfl, rfl, rfl, by decide +kernel, rfl, by decide +kernel, by decide +kernel⟩
theorem ok_named_kind (D : Df K mg "named_kind" sNamedKind ["word", "named"]) (T : Txs K mg) (TK : KdT K KC) (GK : OkI P w K mg base CX0 1 "Kind" KC ["self", "form"] (spKindInit KC)) (GC : Ok P w K mg base (CXW P w) 1 "checked_kind_name" ["word"] (spCheckedName WT)) :
    Ok P w K mg base (CXW P w) 3 "named_kind" ["word", "named"] (spNamedKind WT KC) := by
  refine D.okX scNamedKind (fun vs H Q E h => ?_) (fun fa cdv A outer s H vs Q E hr h => ?_)
  · obtain ⟨w, nd, gs, ns, rfl, _⟩ := h; rfl
  · obtain ⟨w, nd, gs, ns, rfl, hw, hl, hnm, hns, k1, k2⟩ := h
    have hr1 := hr.mono (show 1 ≤ 2 by decide)
    refine ⟨_, pss_cons (ps_set (i := 2) scNamedKind.nd rfl (Or.inl rfl) (pe_mkc GK hr pass0 (pa_cons (pe_k T.named) pa_nil)))
      (pss_cons (ps_fld (pv 2) (pe_c GC hr1 pass_cx (pa_cons (pv 0) pa_nil)) rfl)
      (pss_cons (ps_expr (pe_bm PySem.F.plainAttrs_list PySem.F.slot_list_append PySem.F.type_list_append mt_append (pv 1) (pa_cons (pv 2) pa_nil))) (pss_one (ps_ret (pv 2))))), ?_⟩
    refine set_kind fun f H1 hN => ?_
    have hK1 := hN.at_ f.l
    have hlf : ∀ b ∈ f.l, H b = none := hN.new
    have hnd := hnm.lst
    have hnl : nd ∉ f.l := fun z => by rw [hlf nd z] at hnd; cases hnd
    have hnd1 := hN.keep nd _ (by simp) hnd
    refine ⟨_, rfl, w, rfl, hw, hl, fun hk => ?_, fun hk => k2 hk⟩
    obtain ⟨dk, as, t1, _⟩ := hK1.ex
    refine ⟨_, rfl, f.a, KC, dk, _, rfl, t1, TK.cl, TK.target, (by show 10 < 1000; decide), ?_⟩
    rw [kf_target_put]
    have hK2 := hK1.put (dx := dk) { form := "a name", target := w } (by simp [Fm.l]) rfl rfl rfl
    have hna : nd ≠ f.a := fun z => hnl (by rw [z]; simp [Fm.l])
    have hnp : nd ≠ f.pa := fun z => hnl (by rw [z]; simp [Fm.l])
    have hnd2 : upd H1 f.a (.ins KC dk (kf "a name" w none none f.pl 0 false f.pa f.op false)) nd = some (.lst (gs.map fun g => V.ref g.a)) := by rw [upd_ne hna]; exact hnd1
    refine ⟨_, rfl, .inl ⟨rfl, _, SqL.of hnd2⟩, _, rfl, nd, _, _, rfl, rfl, hnd2, ?_, ?_⟩
    · rw [List.length_map, hnm.all.len]; exact Nat.lt_of_le_of_lt hns (by decide)
    · refine ⟨_, rfl, k1 hk f _ ?_ hlf ⟨?_, ?_⟩ ?_⟩
      · exact (hK2.any rfl).keep (M' := [nd]) (Fx.set List.mem_cons_self) (M := [nd]) (fun b hb => hb) (fun b hb z => hnl (by rw [← List.mem_singleton.mp z]; exact hb)) |>.any rfl
      · rw [upd_same, List.map_append]; rfl
      · obtain ⟨dk2, as2, u1, _, u3, _, u5, _⟩ := hK2.ex
        cases u5
        refine NmsAt.snoc ⟨⟨dk2, by rw [upd_ne hna.symm]; exact u1⟩, by rw [upd_ne hnp.symm]; exact u3⟩ (hnm.all.move fun b hb o e => ?_)
        rw [upd_ne (fun z => hnm.nd_out (by rw [← z]; exact hb)), upd_ne (ne_of_none e (hlf f.a (by simp [Fm.l])))]
        exact hN.keep b o (by simp) e
      · refine Fx.trans (H1 := upd H1 f.a (.ins KC dk (kf "a name" w none none f.pl 0 false f.pa f.op false))) ?_ (Fx.set List.mem_cons_self)
        exact Fx.putNew (hN.keep.mono (by simp)) (hlf f.a (by simp [Fm.l]))
end
end Th
set_option Elab.async false
set_option linter.all false
set_option maxRecDepth 100000
set_option maxHeartbeats 4000000
namespace Th
open PySem L2
section
variable {P : Program} {w : World} {K : PySem.W.Frag} {mg : Str → Option Value} {base : Heap} {WT RC KC : Addr}
theorem give_BK {H H1 : Hp} {r l nd : Addr} {ts : List Tk} {gs : List Fm} {ns : List (List Nat)} {o : Option (Kr × List Tk)} {Q : VK} {E : XK} (hnd : NmAt KC H nd gs ns) (hR1 : RdAt RC H1 r l ts) (hF : Fx [r] H H1) (hrn : nd ≠ r) (hro : ∀ b ∈ nas gs, b ∉ [r])
    (g : giveB RC WT KC r l nd gs (withN ns o) H Q E) : giveK RC WT KC r l o H1 Q E := by
  unfold giveK
  unfold giveB withN at g
  cases o with
  | none => exact g
  | some x =>
    intro f H' a b c d
    obtain ⟨dx1, p1, h11⟩ := hR1.obj
    have hF' := hF.trans d
    exact g f gs H' a (new_back hF (by rw [h11]; simp) b) c (hnd.move hF' (by simpa using hrn) hro) (.inl rfl) (hF'.mono (by simp))
def spBeginKind (RC WT KC : Addr) : Sp := fun vs H Q E => ∃ (r l nd : Addr) (ts : List Tk) (gs : List Fm) (ns : List (List Nat)), vs = [.ref r, .ref nd] ∧ RdAt RC H r l ts ∧ NmAt KC H nd gs ns ∧ ns.length ≤ 65536 ∧ nd ≠ l ∧ giveB RC WT KC r l nd gs (mBegin ns ts) H Q E
theorem scBeginKind : FnScope ["reader", "named", "word"] ["reader", "named"] (defScope sBeginKind) := ⟨rfl, rfl, rfl, by decide +kernel, rfl, by decide +kernel, by decide +kernel⟩
theorem ok_begin_kind (D : Df K mg "begin_kind" sBeginKind ["reader", "named"]) (T0 : Txt K mg WT) (TR : RdT K RC) (GT : OkM P w K mg base (CXW P w) 2 RC "takes" ["self", "sort"] (spTakes RC WT)) (GK : OkI P w K mg base CX0 1 "Kind" KC ["self", "form"] (spKindInit KC))
    (GI : Ok P w K mg base (CXW P w) 6 "read_integer" ["reader"] (spReadInteger RC WT KC)) (GE : Ok P w K mg base (CXW P w) 6 "read_enumerated" ["reader"] (spReadEnumerated RC WT KC)) (GS : Ok P w K mg base (CXW P w) 7 "read_string" ["reader", "form"] (spReadString RC WT KC))
    (GQ : Ok P w K mg base (CXW P w) 8 "begin_sequence" ["reader"] (spBeginSeq RC WT KC)) (GC : Ok P w K mg base (CXW P w) 5 "begin_choice" ["reader"] (spBeginChoice RC WT KC)) (GN : Ok P w K mg base (CXW P w) 3 "named_kind" ["word", "named"] (spNamedKind WT KC)) :
    Ok P w K mg base (CXW P w) 9 "begin_kind" ["reader", "named"] (spBeginKind RC WT KC) := by
  refine D.okX scBeginKind (fun vs H Q E h => ?_) (fun fa cdv A outer s H vs Q E hr h => ?_)
  · obtain ⟨r, l, nd, ts, gs, ns, rfl, _⟩ := h; rfl
  · obtain ⟨r, l, nd, ts, gs, ns, rfl, hR, hnd, hns, hnl, k⟩ := h
    have hr2 := hr.mono (show 2 ≤ 8 by decide)
    have hr3 := hr.mono (show 3 ≤ 8 by decide)
    have hr5 := hr.mono (show 5 ≤ 8 by decide)
    have hr6 := hr.mono (show 6 ≤ 8 by decide)
    have hr7 := hr.mono (show 7 ≤ 8 by decide)
    refine ⟨_, pss_cons (ps_set (i := 2) scBeginKind.nd rfl (Or.inl rfl) (pe_mt GT TR.cl hr2 pass_cx (pv 0) (pa_cons (pe_k T0.word) pa_nil)))
      (pss_cons (ps_if (PW.pt (pw_or (pt_cmpR op_eq (pv 2) pe_str (nomark _)) (pw_or1 (pt_cmpR op_eq (pv 2) pe_str (nomark _))))) (pss_one (ps_ret (pe_mkc GK hr2 pass0 (pa_cons (pv 2) pa_nil)))) pss_nil)
      (pss_cons (ps_if (pt_cmpR op_eq (pv 2) pe_str (nomark _)) (pss_one (ps_ret (pe_c GI hr6 pass_cx (pa_cons (pv 0) pa_nil)))) pss_nil)
      (pss_cons (ps_if (pt_cmpR op_eq (pv 2) pe_str (nomark _)) (pss_one (ps_ret (pe_c GE hr6 pass_cx (pa_cons (pv 0) pa_nil)))) pss_nil)
      (pss_cons (ps_if (PW.pt (pw_or (pt_cmpR op_eq (pv 2) pe_str (nomark _)) (pw_or1 (pt_cmpR op_eq (pv 2) pe_str (nomark _))))) (pss_one (ps_ret (pe_c GS hr7 pass_cx (pa_cons (pv 0) (pa_cons (pv 2) pa_nil))))) pss_nil)
      (pss_cons (ps_if (pt_cmpR op_eq (pv 2) pe_str (nomark _)) (pss_one (ps_ret (pe_c GQ hr pass_cx (pa_cons (pv 0) pa_nil)))) pss_nil)
      (pss_cons (ps_if (pt_cmpR op_eq (pv 2) pe_str (nomark _)) (pss_one (ps_ret (pe_c GC hr5 pass_cx (pa_cons (pv 0) pa_nil)))) pss_nil)
      (pss_one (ps_ret (pe_c GN hr3 pass_cx (pa_cons (pv 2) (pa_cons (pv 1) pa_nil))))))))))), ?_⟩
    obtain ⟨dx0, p0, h10⟩ := hR.obj
    have hrn : nd ≠ r := fun z => by have := hnd.lst; rw [z, h10] at this; cases this
    have hro : ∀ b ∈ nas gs, b ∉ [r] := fun b hb z => hnd.r_out hR (by rw [← List.mem_singleton.mp z]; exact hb)
    refine ⟨_, rfl, r, dx0, _, rfl, h10, rf_no _ _ (by decide +kernel) (by decide +kernel), r, l, "word", ts, rfl, by decide +kernel, hR, ?_⟩
    cases ts with
    | nil => exact fun H' => k H'
    | cons t ts' =>
      rw [giveTake_cons]
      cases t with
      | num z => rw [if_neg (srt_not_word (by intro z e; cases e))]; exact fun H' => k H'
      | bits a => rw [if_neg (srt_not_word (by intro z e; cases e))]; exact fun H' => k H'
      | octs a => rw [if_neg (srt_not_word (by intro z e; cases e))]; exact fun H' => k H'
      | sign a => rw [if_neg (srt_not_word (by intro z e; cases e))]; exact fun H' => k H'
      | word v =>
        rw [if_pos (srt_word v)]
        intro H1 hR1 hF1 hok
        have km : mBegin ns (.word v :: ts') = mWord ns v ts' := rfl
        rw [km] at k
        unfold mWord at k
        have hnd1 := hnd.move hF1 (by simpa using hrn) hro
        obtain ⟨dx1, p1, h11⟩ := hR1.obj
        have hr0 : H1 r ≠ none := by rw [h11]; simp
        have simple : ∀ {Q' : VK}, (∀ x, Q' x = Q x) → (giveB RC WT KC r l nd gs (some (({ form := ⟨v.toArray⟩ }, ns), ts')) H Q E) → tMake KC (spKindInit KC) [] E0 (tCons (tVar 2) tNil) [some (.ref r), some (.ref nd), some (sv v)] H1 Q' := by
          intro Q' hQ g
          refine ⟨_, rfl, mk_kind (σ := []) (Q := Q') fun f H2 hN => ?_⟩
          rw [hQ]
          refine g f gs H2 (hN.at_ []) (new_back hF1 hr0 hN.new) (hR1.newK hN) (hnd1.move hN.keep (by simp) (by simp)) (.inl rfl) ?_
          exact (hF1.mono (by simp)).trans (hN.keep.mono (by simp))
        -- BOOLEAN
        refine ⟨_, rfl, rfl, _, rfl, ?_⟩
        refine ite2 (fun hc => ?_) (fun hc => ?_)
        · rw [if_pos (show v = cd "BOOLEAN" from sv_inj.mp (of_decide_eq_true hc))] at k
          exact iteT (simple (fun _ => rfl) k)
        rw [if_neg (show ¬ v = cd "BOOLEAN" from fun z => hc (decide_eq_true (sv_inj.mpr z)))] at k
        -- NULL
        refine ⟨_, rfl, rfl, _, rfl, ?_⟩
        refine ite2 (fun hc => ?_) (fun hc => ?_)
        · rw [if_pos (show v = cd "NULL" from sv_inj.mp (of_decide_eq_true hc))] at k
          exact simple (fun _ => rfl) k
        rw [if_neg (show ¬ v = cd "NULL" from fun z => hc (decide_eq_true (sv_inj.mpr z)))] at k
        -- INTEGER
        refine ⟨_, rfl, rfl, _, rfl, ?_⟩
        refine ite2 (fun hc => ?_) (fun hc => ?_)
        · rw [if_pos (show v = cd "INTEGER" from sv_inj.mp (of_decide_eq_true hc))] at k
          exact ⟨_, rfl, r, l, ts', rfl, hR1, give_BK hnd hR1 hF1 hrn hro k⟩
        rw [if_neg (show ¬ v = cd "INTEGER" from fun z => hc (decide_eq_true (sv_inj.mpr z)))] at k
        -- ENUMERATED
        refine ⟨_, rfl, rfl, _, rfl, ?_⟩
        refine ite2 (fun hc => ?_) (fun hc => ?_)
        · rw [if_pos (show v = cd "ENUMERATED" from sv_inj.mp (of_decide_eq_true hc))] at k
          exact ⟨_, rfl, r, l, ts', rfl, hR1, give_BK hnd hR1 hF1 hrn hro k⟩
        rw [if_neg (show ¬ v = cd "ENUMERATED" from fun z => hc (decide_eq_true (sv_inj.mpr z)))] at k
        -- BIT
        refine ⟨_, rfl, rfl, _, rfl, ?_⟩
        refine ite2 (fun hc => ?_) (fun hc => ?_)
        · rw [if_pos (show v = cd "BIT" from sv_inj.mp (of_decide_eq_true hc))] at k
          exact iteT ⟨_, rfl, _, rfl, r, l, _, ts', rfl, hR1, give_BK hnd hR1 hF1 hrn hro k⟩
        rw [if_neg (show ¬ v = cd "BIT" from fun z => hc (decide_eq_true (sv_inj.mpr z)))] at k
        -- OCTET
        refine ⟨_, rfl, rfl, _, rfl, ?_⟩
        refine ite2 (fun hc => ?_) (fun hc => ?_)
        · rw [if_pos (show v = cd "OCTET" from sv_inj.mp (of_decide_eq_true hc))] at k
          exact ⟨_, rfl, _, rfl, r, l, _, ts', rfl, hR1, give_BK hnd hR1 hF1 hrn hro k⟩
        rw [if_neg (show ¬ v = cd "OCTET" from fun z => hc (decide_eq_true (sv_inj.mpr z)))] at k
        -- SEQUENCE
        refine ⟨_, rfl, rfl, _, rfl, ?_⟩
        refine ite2 (fun hc => ?_) (fun hc => ?_)
        · rw [if_pos (show v = cd "SEQUENCE" from sv_inj.mp (of_decide_eq_true hc))] at k
          exact ⟨_, rfl, r, l, ts', rfl, hR1, give_BK hnd hR1 hF1 hrn hro k⟩
        rw [if_neg (show ¬ v = cd "SEQUENCE" from fun z => hc (decide_eq_true (sv_inj.mpr z)))] at k
        -- CHOICE
        refine ⟨_, rfl, rfl, _, rfl, ?_⟩
        refine ite2 (fun hc => ?_) (fun hc => ?_)
        · rw [if_pos (show v = cd "CHOICE" from sv_inj.mp (of_decide_eq_true hc))] at k
          exact ⟨_, rfl, r, l, ts', rfl, hR1, give_BK hnd hR1 hF1 hrn hro k⟩
        rw [if_neg (show ¬ v = cd "CHOICE" from fun z => hc (decide_eq_true (sv_inj.mpr z)))] at k
        refine ⟨_, rfl, _, rfl, v, nd, gs, ns, rfl, ⟨hok.1, hok.2.1⟩, Nat.le_trans hok.2.2 (by decide), hnd1, hns, fun hk => ?_, fun hk => ?_⟩
        · rw [if_pos hk] at k
          intro f H2 a b c d
          have hrf : r ∉ f.l := fun z => hr0 (b r z)
          refine k f (gs ++ [f]) H2 a (new_back hF1 hr0 b) ?_ c (.inr ⟨rfl, rfl⟩) ((hF1.mono (by simp)).trans (d.mono (by simp)))
          refine hR1.keep d (by simpa using hrn.symm) (fun z => ?_) (fun b hb xs e => ?_)
          · exact hnl (List.mem_singleton.mp z).symm
          · rw [List.mem_singleton.mp hb, hnd1.lst] at e; cases e
        · rw [if_neg (by rw [hk]; decide)] at k
          exact fun H' => k H'
end
end Th
set_option Elab.async false
set_option linter.all false
set_option maxRecDepth 100000
set_option maxHeartbeats 4000000
namespace Th
open PySem L2
theorem KsAt.len {KC : Addr} {M : List Addr} {H : Hp} : ∀ {as : List Addr} {ks : List Kd}, KsAt KC M H as ks → as.length = ks.length
  | _, _, .nil => rfl
  | _, _, .cons _ b => by rw [List.length_cons, List.length_cons, b.len]
theorem KsAt.snoc {KC : Addr} {M : List Addr} {H : Hp} {a : Addr} {k : Kd} (h : KAt KC M H a k) : ∀ {as : List Addr} {ks : List Kd}, KsAt KC M H as ks → KsAt KC M H (as ++ [a]) (ks ++ [k])
  | _, _, .nil => .cons h .nil
  | _, _, .cons a b => .cons a (KsAt.snoc h b)
theorem KrAt.part {KC : Addr} {M : List Addr} {H : Hp} {f : Fm} {k : Kr} {ia : Addr} {kd : Kd} (h : KrAt KC M H f k) (ha : f.pa ∈ M) (hi : KAt KC M H ia kd) :
    ∃ as : List Addr, H f.pa = some (.lst (as.map V.ref)) ∧ as.length = k.parts.length ∧ KrAt KC M (upd H f.pa (.lst (as.map V.ref ++ [.ref ia]))) f { k with parts := k.parts ++ [kd] } := by
  obtain ⟨dx', as, h1, h2, h3, h4, h5, h6⟩ := h.ex
  have hh := h6
  simp [Fm.l] at hh
  refine ⟨as, h3, h5.len, dx', as ++ [ia], ?_, ?_, ?_, ?_, ?_, h6⟩
  · rw [upd_ne hh.1.2.1]; exact h1
  · rw [upd_ne hh.2.1.1]; exact h2
  · rw [upd_same, List.map_append]; rfl
  · rw [upd_ne (fun z => hh.2.2 z.symm)]; exact h4
  · exact (h5.snoc hi).move (Fx.set ha) fun b hb => .inl hb
theorem KrAt.opt {KC : Addr} {M : List Addr} {H : Hp} {f : Fm} {k : Kr} {b : Bool} (h : KrAt KC M H f k) (ha : f.op ∈ M) :
    H f.op = some (.lst (need k.opts)) ∧ KrAt KC M (upd H f.op (.lst (need k.opts ++ [.int ((cnt k.opts + (if b = true then 0 else 1) : Nat) : Int)]))) f { k with opts := k.opts ++ [b] } := by
  obtain ⟨dx', as, h1, h2, h3, h4, h5, h6⟩ := h.ex
  have hh := h6
  simp [Fm.l] at hh
  refine ⟨h4, dx', as, ?_, ?_, ?_, ?_, ?_, h6⟩
  · rw [upd_ne hh.1.2.2]; exact h1
  · rw [upd_ne hh.2.1.2]; exact h2
  · rw [upd_ne hh.2.2]; exact h3
  · rw [upd_same, need_snoc]
  · exact h5.move (Fx.set ha) fun b hb => .inl hb
theorem need_at (l : List Bool) : atI (need l) (-1) = some (V.int ((cnt l : Nat) : Int)) := by rw [need_last]; exact atI_last _ _
theorem KrAt.fin {KC : Addr} {M M' : List Addr} {H : Hp} {f : Fm} {k : Kr} (h : KrAt KC M H f k) (hw : k.waits = false) (hM : ∀ b ∈ M', b ∈ M) (hd : ∀ b ∈ f.l, b ∉ M') : KAt KC M' H f.a k.fin := by
  obtain ⟨dx', as, h1, h2, h3, h4, h5, h6⟩ := h.ex
  rw [hw] at h1
  exact .mk h1 h2 h3 h4 hd (h5.move (M' := M') (H' := H) (fun b o _ e => e) fun b hb => .inl (hM b hb))
def mTake2 (k : Kr) (ts : List Tk) : Option ((Unit × Kr) × List Tk) := match mNext k ts with
  | none => none
  | some x => some (((), { x.1.2 with waits := x.1.1 }), x.2)
def mTake (k : Kr) (kd : Kd) (ts : List Tk) : Option ((Unit × Kr) × List Tk) :=
  if k.form = "SEQUENCE OF" then some (((), { k with parts := k.parts ++ [kd], waits := false }), ts)
  else if k.form = "SEQUENCE" then match skipT (.word (cd "OPTIONAL")) ts with
    | some r => mTake2 { k with parts := k.parts ++ [kd], opts := k.opts ++ [true] } r
    | none => mTake2 { k with parts := k.parts ++ [kd], opts := k.opts ++ [false] } ts
  else mTake2 { k with parts := k.parts ++ [kd] } ts
section
variable {P : Program} {w : World} {K : PySem.W.Frag} {mg : Str → Option Value} {base : Heap} {WT RC KC : Addr}
def spTakeInner (RC WT KC : Addr) : Sp := fun vs H Q E => ∃ (r l : Addr) (ts : List Tk) (f : Fm) (k : Kr) (M : List Addr) (ia : Addr) (kd : Kd), vs = [.ref r, .ref f.a, .ref ia] ∧ RdAt RC H r l ts ∧ KrAt KC M H f k ∧ KAt KC M H ia kd ∧ l ∉ f.l ∧ (∀ b ∈ r :: f.l, b ∈ M) ∧
  k.names.length ≤ 65536 ∧ k.parts.length ≤ 65536 ∧ k.opts.length ≤ 65536 ∧ giveM RC WT KC r l M f (fun _ => .non) (mTake k kd ts) H Q E
theorem scTakeInner : FnScope ["reader", "outer", "inner", "needed"] ["reader", "outer", "inner"] (defScope sTakeInner) := ⟨rfl, rfl, rfl, by decide +kernel, rfl, by decide +kernel, by decide +kernel⟩
theorem ok_take_inner (D : Df K mg "take_inner" sTakeInner ["reader", "outer", "inner"]) (T : Txs K mg) (TR : RdT K RC) (TK : KdT K KC) (GW : OkM P w K mg base CX0 3 RC "skips_word" ["self", "word"] (spSkipsWord RC))
    (GX : Ok P w K mg base (CXW P w) 5 "next_name" ["reader", "kind"] (spNextName RC WT KC)) : Ok P w K mg base (CXW P w) 6 "take_inner" ["reader", "outer", "inner"] (spTakeInner RC WT KC) := by
  refine D.okX scTakeInner (fun vs H Q E h => ?_) (fun fa cdv A outer s H vs Q E hr h => ?_)
  · obtain ⟨r, l, ts, f, k, M, ia, kd, rfl, _⟩ := h; rfl
  · obtain ⟨r, l, ts, f, k, M, ia, kd, rfl, hR, hK, hI, hlf, hM, hz1, hz2, hz3, g⟩ := h
    have hr3 := hr.mono (show 3 ≤ 5 by decide)
    refine ⟨_, pss_cons (ps_expr (pe_bm PySem.F.plainAttrs_list PySem.F.slot_list_append PySem.F.type_list_append mt_append (pe_fld (pv 1) rfl) (pa_cons (pv 2) pa_nil)))
      (pss_cons (ps_if (pt_cmpR op_eq (pe_fld (pv 1) rfl) (pe_k T.seqof) (nomark _)) (pss_cons (ps_fld (pv 1) pe_bl rfl) (pss_one ps_retN)) pss_nil)
      (pss_cons (ps_if (pt_cmpR op_eq (pe_fld (pv 1) rfl) pe_str (nomark _)) 
        (pss_cons (ps_set (i := 3) scTakeInner.nd rfl (Or.inl rfl) (pe_ifExp (pt_val (pe_mt GW TR.cl hr3 pass0 (pv 0) (pa_cons pe_str pa_nil))) pe_int pe_int))
        (pss_one (ps_expr (pe_bm PySem.F.plainAttrs_list PySem.F.slot_list_append PySem.F.type_list_append mt_append (pe_fld (pv 1) rfl) (pa_cons (pe_op op_add (pe_ix ix_list (pe_fld (pv 1) rfl) (pe_un un_neg pe_int) (fun _ _ => rfl)) (pv 3)) pa_nil))))) pss_nil)
      (pss_one (ps_fld (pv 1) (pe_c GX hr pass_cx (pa_cons (pv 0) (pa_cons (pv 1) pa_nil))) rfl)))), ?_⟩
    have hrM : ∀ b ∈ [r], b ∈ M := fun b hb => hM b (by rw [List.mem_singleton.mp hb]; exact List.mem_cons_self)
    have haM : f.a ∈ M := hM _ (by simp [Fm.l])
    have up : ∀ {X Y : Hp}, Fx [r] X Y → Fx (r :: f.l) X Y := fun h => h.mono (by intro b hb; rw [List.mem_singleton.mp hb]; exact List.mem_cons_self)
    have upf : ∀ {X Y : Hp}, Fx f.l X Y → Fx (r :: f.l) X Y := fun h => h.mono (by intro b hb; exact List.mem_cons_of_mem _ hb)
    have kp : ∀ {X Y : Hp} {tt : List Tk} {k : Kr}, RdAt RC X r l tt → KrAt KC M X f k → Fx [r] X Y → KrAt KC M Y f k := fun a b c => b.keep c hrM (Fm.out (r_out a b))
    obtain ⟨dk0, as0, t0, _, t3, _⟩ := hK.ex
    obtain ⟨as, h3, has, hK1⟩ := hK.part (hM f.pa (by simp [Fm.l])) hI
    have hF1 : Fx f.l H (upd H f.pa (.lst (as.map V.ref ++ [.ref ia]))) := Fx.set (by simp [Fm.l])
    have hR1 := hR.keepF hK hlf hF1
    refine ⟨_, rfl, f.a, KC, dk0, _, _, rfl, t0, TK.cl, TK.parts, kf_parts _ _ _ _ _ _ _ _ _ _, .inl ⟨rfl, _, SqL.of h3⟩, _, rfl, f.pa, _, _, rfl, rfl, h3, by rw [List.length_map, has]; exact Nat.lt_of_le_of_lt hz2 (by decide), ?_⟩
    obtain ⟨dk1, as1, t1, _⟩ := hK1.ex
    refine ⟨_, rfl, f.a, KC, dk1, _, _, rfl, t1, TK.cl, TK.form, kf_form _ _ _ _ _ _ _ _ _ _, rfl, _, rfl, ?_⟩
    unfold mTake at g
    refine ite2 (fun hc => ?_) (fun hc => ?_)
    · have hf : k.form = "SEQUENCE OF" := by have := of_decide_eq_true hc; injection this
      rw [if_pos hf] at g
      refine ⟨_, rfl, f.a, KC, dk1, _, rfl, t1, TK.cl, TK.waits, (by show 10 < 1000; decide), ?_⟩
      rw [kf_waits_put]
      have hK2 := hK1.put (dx := dk1) { k with parts := k.parts ++ [kd], waits := false } haM rfl rfl rfl
      refine g _ hK2 (hR1.put hK1) ((upf hF1).trans (Fx.set (by simp [Fm.l])))
    · have hf : ¬ k.form = "SEQUENCE OF" := fun z => hc (decide_eq_true (by show V.str k.form = V.str "SEQUENCE OF"; rw [z]))
      rw [if_neg hf] at g
      dsimp only [tNext]
      refine seq_hold fun R hR0 => ?_
      have rest : ∀ (oo : Option V) (k' : Kr) (H3 : Hp) (ts3 : List Tk), KrAt KC M H3 f k' → RdAt RC H3 r l ts3 → Fx (r :: f.l) H H3 → k'.names.length ≤ 65536 → giveM RC WT KC r l M f (fun _ => .non) (mTake2 k' ts3) H Q E → R [some (.ref r), some (.ref f.a), some (.ref ia), oo] H3 := by
        intro oo k' H3 ts3 hK3 hR3 hF3 hz3 g3
        rw [hR0]
        refine ⟨_, rfl, _, rfl, r, l, ts3, f, k', M, rfl, hR3, hK3, hlf, hM, hz3, ?_⟩
        unfold mTake2 at g3
        unfold giveM at g3 ⊢
        cases e3 : mNext k' ts3 with
        | none => rw [e3] at g3; exact fun H' => g3 H'
        | some x =>
          rw [e3] at g3
          intro H4 hK4 hR4 hF4
          obtain ⟨dk4, as4, u1, _⟩ := hK4.ex
          refine ⟨_, rfl, f.a, KC, dk4, _, rfl, u1, TK.cl, TK.waits, (by show 10 < 1000; decide), ?_⟩
          rw [kf_waits_put]
          exact g3 _ (hK4.put (dx := dk4) { x.1.2 with waits := x.1.1 } haM rfl rfl rfl) (hR4.put hK4) ((hF3.trans hF4).trans (Fx.set (by simp [Fm.l])))
      refine ⟨_, rfl, f.a, KC, dk1, _, _, rfl, t1, TK.cl, TK.form, kf_form _ _ _ _ _ _ _ _ _ _, rfl, _, rfl, ?_⟩
      refine ite2 (fun hc => ?_) (fun hc => ?_)
      · have hf2 : k.form = "SEQUENCE" := by have := of_decide_eq_true hc; injection this
        rw [if_pos hf2] at g
        obtain ⟨dx1, p1, h11⟩ := hR1.obj
        refine ⟨_, rfl, r, dx1, _, rfl, h11, rf_no _ _ (by decide +kernel) (by decide +kernel), r, l, cd "OPTIONAL", ts, rfl, by decide +kernel, hR1, ?_⟩
        unfold giveSkip
        cases e2 : skipT (.word (cd "OPTIONAL")) ts with
        | some ts2 =>
          rw [e2] at g
          intro H2 hR2 hF2
          refine ⟨_, rfl, iteT ?_⟩
          have hK2 := kp hR1 hK1 hF2
          obtain ⟨dk2, as2, t2, _⟩ := hK2.ex
          obtain ⟨o1, o2⟩ := hK2.opt (b := true) (hM f.op (by simp [Fm.l]))
          refine ⟨_, rfl, f.a, KC, dk2, _, _, rfl, t2, TK.cl, TK.opt, kf_opt _ _ _ _ _ _ _ _ _ _, .inl ⟨rfl, _, SqL.of o1⟩, ?_⟩
          refine ⟨_, rfl, f.a, KC, dk2, _, _, rfl, t2, TK.cl, TK.opt, kf_opt _ _ _ _ _ _ _ _ _ _, _, rfl, f.op, _, _, _, rfl, rfl, SqL.of o1, need_at _, _, rfl, _, _, rfl, rfl, ?_⟩
          refine ⟨f.op, _, _, rfl, rfl, o1, by rw [need_len]; exact Nat.lt_of_le_of_lt (Nat.succ_le_succ hz3) (by decide), ?_⟩
          have hF3 : Fx f.l H2 (upd H2 f.op (.lst (need k.opts ++ [.int ((cnt k.opts + (if true = true then 0 else 1) : Nat) : Int)]))) := Fx.set (by simp [Fm.l])
          exact rest _ _ _ ts2 o2 (hR2.keepF hK2 hlf hF3) (((upf hF1).trans (up hF2)).trans (upf hF3)) hz1 g
        | none =>
          rw [e2] at g
          intro H2 hR2 hF2
          refine ⟨_, rfl, iteF ?_⟩
          have hK2 := kp hR1 hK1 hF2
          obtain ⟨dk2, as2, t2, _⟩ := hK2.ex
          obtain ⟨o1, o2⟩ := hK2.opt (b := false) (hM f.op (by simp [Fm.l]))
          refine ⟨_, rfl, f.a, KC, dk2, _, _, rfl, t2, TK.cl, TK.opt, kf_opt _ _ _ _ _ _ _ _ _ _, .inl ⟨rfl, _, SqL.of o1⟩, ?_⟩
          refine ⟨_, rfl, f.a, KC, dk2, _, _, rfl, t2, TK.cl, TK.opt, kf_opt _ _ _ _ _ _ _ _ _ _, _, rfl, f.op, _, _, _, rfl, rfl, SqL.of o1, need_at _, _, rfl, _, _, rfl, rfl, ?_⟩
          refine ⟨f.op, _, _, rfl, rfl, o1, by rw [need_len]; exact Nat.lt_of_le_of_lt (Nat.succ_le_succ hz3) (by decide), ?_⟩
          have hF3 : Fx f.l H2 (upd H2 f.op (.lst (need k.opts ++ [.int ((cnt k.opts + (if false = true then 0 else 1) : Nat) : Int)]))) := Fx.set (by simp [Fm.l])
          exact rest _ _ _ ts o2 (hR2.keepF hK2 hlf hF3) (((upf hF1).trans (up hF2)).trans (upf hF3)) hz1 g
      · have hf2 : ¬ k.form = "SEQUENCE" := fun z => hc (decide_eq_true (by show V.str k.form = V.str "SEQUENCE"; rw [z]))
        rw [if_neg hf2] at g
        exact rest _ _ _ ts hK1 hR1 (upf hF1) hz1 g
end
end Th
set_option Elab.async false
set_option linter.all false
set_option maxRecDepth 100000
set_option maxHeartbeats 4000000
namespace Th
open PySem L2
def Kr.fit (k : Kr) (n : Nat) : Prop := k.names.length + n ≤ 65536 ∧ k.parts.length + n ≤ 65536 ∧ k.opts.length + n ≤ 65536
theorem Kr.fit.mono {k : Kr} {n m : Nat} (h : k.fit n) (hm : m ≤ n) : k.fit m := ⟨by have := h.1; omega, by have := h.2.1; omega, by have := h.2.2; omega⟩
theorem mNumber_len {lo hi : Int} {ts : List Tk} {x : Int × List Tk} (h : mNumber lo hi ts = some x) : x.2.length + 1 = ts.length := by
  unfold mNumber at h
  split at h
  · split at h
    · cases h
    · cases h; rfl
  · cases h
theorem mHigh_len {low : Option Int} {lo hi : Int} {ts : List Tk} {x : Option Int × List Tk} (h : mHigh low lo hi ts = some x) : x.2.length ≤ ts.length := by
  unfold mHigh at h
  split at h
  · cases low with
    | none => cases h
    | some a => cases h; exact Nat.le_refl _
  · rename_i r e
    have l1 := skipT_len e
    split at h
    · rename_i r2 e2
      have l2 := skipT_len e2
      cases h; show r2.length ≤ _; omega
    · split at h
      · cases h
      · rename_i z r2 e3
        have l3 := mNumber_len e3
        dsimp only at l3
        split at h
        · cases h
        · cases h; show r2.length ≤ _; omega
structure Kr.bare (k : Kr) : Prop where
  names : k.names = []
  parts : k.parts = []
  opts : k.opts = []
theorem mInt2_len {low : Option Int} {ts : List Tk} {x : Kr × List Tk} (h : mInt2 low ts = some x) : x.2.length ≤ ts.length ∧ x.1.bare ∧ x.1.waits = false := by
  unfold mInt2 at h
  split at h
  · cases h
  · rename_i hi r3 e
    have l1 := mHigh_len e
    dsimp only at l1
    split at h
    · cases h
    · rename_i r4 e2
      have l2 := skipT_len e2
      cases h
      exact ⟨by show r4.length ≤ _; omega, ⟨rfl, rfl, rfl⟩, rfl⟩
theorem mInteger_len {ts : List Tk} {x : Kr × List Tk} (h : mInteger ts = some x) : x.2.length ≤ ts.length ∧ x.1.bare ∧ x.1.waits = false := by
  unfold mInteger at h
  split at h
  · cases h; exact ⟨Nat.le_refl _, ⟨rfl, rfl, rfl⟩, rfl⟩
  · rename_i r1 e1
    have l1 := skipT_len e1
    split at h
    · rename_i r2 e2
      have l2 := skipT_len e2
      obtain ⟨a, b⟩ := mInt2_len h
      exact ⟨by omega, b⟩
    · split at h
      · cases h
      · rename_i z r2 e2
        have l2 := mNumber_len e2
        dsimp only at l2
        obtain ⟨a, b⟩ := mInt2_len h
        exact ⟨by omega, b⟩
theorem mSize_len {k : Kr} {ts : List Tk} {x : (Unit × Kr) × List Tk} (h : mSize k ts = some x) : x.2.length ≤ ts.length ∧ x.1.2.names = k.names ∧ x.1.2.parts = k.parts ∧ x.1.2.opts = k.opts ∧ x.1.2.form = k.form ∧ x.1.2.waits = k.waits := by
  unfold mSize at h
  split at h
  · cases h; exact ⟨Nat.le_refl _, rfl, rfl, rfl, rfl, rfl⟩
  · rename_i r1 e1
    have l1 := skipT_len e1
    split at h
    · cases h
    · rename_i r2 e2
      have l2 := skipT_len e2
      split at h
      · cases h
      · rename_i r3 e3
        have l3 := skipT_len e3
        split at h
        · cases h
        · rename_i z r4 e4
          have l4 := mNumber_len e4
          dsimp only at l4
          split at h
          · cases h
          · rename_i hi r5 e5
            have l5 := mHigh_len e5
            dsimp only at l5
            split at h
            · cases h
            · rename_i r6 e6
              have l6 := skipT_len e6
              split at h
              · cases h
              · rename_i r7 e7
                have l7 := skipT_len e7
                cases h
                exact ⟨by show r7.length ≤ _; omega, rfl, rfl, rfl, rfl, rfl⟩
theorem mString_len {form : Str} {ts : List Tk} {x : Kr × List Tk} (h : mString form ts = some x) : x.2.length ≤ ts.length ∧ x.1.bare ∧ x.1.waits = false := by
  unfold mString at h
  split at h
  · cases h
  · rename_i r1 e1
    have l1 := skipT_len e1
    split at h
    · cases h
    · rename_i y e2
      obtain ⟨a, b, c, d, _, e⟩ := mSize_len e2
      cases h
      exact ⟨by show y.2.length ≤ _; omega, ⟨b, c, d⟩, e⟩
theorem mEnumF_len : ∀ (n : Nat) {k : Kr} {ts : List Tk} {x : Kr × List Tk}, mEnumF n k ts = some x → x.2.length ≤ ts.length ∧ x.1.names.length + x.2.length ≤ k.names.length + ts.length ∧ x.1.parts = k.parts ∧ x.1.opts = k.opts ∧ x.1.waits = k.waits
  | 0, _, _, _, h => by cases h
  | n + 1, k, ts, x, h => by
    rw [mEnumF] at h
    split at h
    · cases h
    · rename_i y e
      obtain ⟨a1, a2, a3, a4, a5, a6⟩ := mNext_len e
      split at h
      · obtain ⟨b1, b2, b3, b4, b5⟩ := mEnumF_len n h
        exact ⟨by omega, by omega, b3.trans a3, b4.trans a6, b5.trans a5⟩
      · cases h
        exact ⟨by show y.2.length ≤ _; omega, a2, a3, a6, a5⟩
theorem mEnum_len {ts : List Tk} {x : Kr × List Tk} (h : mEnum ts = some x) : x.2.length ≤ ts.length ∧ x.1.names.length + x.2.length ≤ ts.length ∧ x.1.parts = [] ∧ x.1.opts = [] ∧ x.1.waits = false := by
  unfold mEnum at h
  split at h
  · cases h
  · rename_i r1 e1
    have l1 := skipT_len e1
    split at h
    · cases h
    · rename_i y e2
      obtain ⟨a1, a2, a3, a4, a5, a6⟩ := mAddName_len e2
      obtain ⟨b1, b2, b3, b4, b5⟩ := mEnumF_len _ h
      rw [a2] at b2
      have : ({ form := "ENUMERATED" } : Kr).names.length = 0 := rfl
      exact ⟨by omega, by omega, b3.trans a3, b4.trans a6, b5.trans a5⟩
theorem mChoice_len {ts : List Tk} {x : Kr × List Tk} (h : mChoice ts = some x) : x.2.length ≤ ts.length ∧ x.1.names.length + x.2.length ≤ ts.length ∧ x.1.parts = [] ∧ x.1.opts = [] ∧ x.1.form = "CHOICE" ∧ x.1.waits = true := by
  unfold mChoice at h
  split at h
  · cases h
  · rename_i r1 e1
    have l1 := skipT_len e1
    split at h
    · cases h
    · rename_i y e2
      obtain ⟨a1, a2, a3, a4, a5, a6⟩ := mAddName_len e2
      have z : ({ form := "CHOICE" } : Kr).names.length = 0 := rfl
      cases h
      exact ⟨by show y.2.length ≤ _; omega, by show y.1.2.names.length + y.2.length ≤ _; omega, a3, a6, a4, rfl⟩
theorem mSeqOf_len {ts : List Tk} {x : Kr × List Tk} (h : mSeqOf ts = some x) : x.2.length ≤ ts.length ∧ x.1.bare ∧ x.1.form = "SEQUENCE OF" ∧ x.1.waits = true := by
  unfold mSeqOf at h
  split at h
  · cases h
  · rename_i y e1
    obtain ⟨a, b, c, d, f, e⟩ := mSize_len e1
    split at h
    · cases h
    · rename_i r e2
      have l2 := skipT_len e2
      cases h
      exact ⟨by show r.length ≤ _; omega, ⟨b, c, d⟩, f, rfl⟩
theorem mSeq2_len {ts : List Tk} {x : Kr × List Tk} (h : mSeq2 ts = some x) : x.2.length ≤ ts.length ∧ x.1.names.length + x.2.length ≤ ts.length ∧ x.1.parts = [] ∧ x.1.opts = [] ∧ x.1.form = "SEQUENCE" := by
  unfold mSeq2 at h
  split at h
  · rename_i r e
    have l1 := skipT_len e
    cases h
    exact ⟨by show r.length ≤ _; omega, by show 0 + r.length ≤ _; omega, rfl, rfl, rfl⟩
  · split at h
    · rename_i r e
      have l1 := skipT_len e
      split at h
      · cases h
      · rename_i r2 e2
        have l2 := skipT_len e2
        cases h
        exact ⟨by show r2.length ≤ _; omega, by show 0 + r2.length ≤ _; omega, rfl, rfl, rfl⟩
    · split at h
      · cases h
      · rename_i y e2
        obtain ⟨a1, a2, a3, a4, a5, a6⟩ := mAddName_len e2
        have z : ({ form := "SEQUENCE" } : Kr).names.length = 0 := rfl
        cases h
        exact ⟨by show y.2.length ≤ _; omega, by show y.1.2.names.length + y.2.length ≤ _; omega, a3, a6, a4⟩
theorem mBegin_len {ns : List (List Nat)} {ts : List Tk} {x : (Kr × List (List Nat)) × List Tk} (hz : ts.length ≤ 65536) (h : mBegin ns ts = some x) :
    x.2.length + 1 ≤ ts.length ∧ x.1.1.fit x.2.length ∧ x.1.1.parts = [] ∧ x.1.1.opts = [] ∧ x.1.2.length + x.2.length ≤ ns.length + ts.length := by
  unfold mBegin at h
  split at h
  · rename_i w r
    rw [List.length_cons] at hz ⊢
    unfold mWord at h
    have bare : ∀ {y : Kr × List Tk}, y.2.length ≤ r.length → y.1.bare → withN ns (some y) = some x → x.2.length + 1 ≤ r.length + 1 ∧ x.1.1.fit x.2.length ∧ x.1.1.parts = [] ∧ x.1.1.opts = [] ∧ x.1.2.length + x.2.length ≤ ns.length + (r.length + 1) := by
      intro y a b e
      cases e
      refine ⟨by show y.2.length + 1 ≤ _; omega, ⟨?_, ?_, ?_⟩, b.parts, b.opts, by show ns.length + y.2.length ≤ _; omega⟩
      · show y.1.names.length + y.2.length ≤ _; rw [b.names]; simp; omega
      · show y.1.parts.length + y.2.length ≤ _; rw [b.parts]; simp; omega
      · show y.1.opts.length + y.2.length ≤ _; rw [b.opts]; simp; omega
    have named : ∀ {y : Kr × List Tk}, y.2.length ≤ r.length → y.1.names.length + y.2.length ≤ r.length → y.1.parts = [] → y.1.opts = [] → withN ns (some y) = some x → x.2.length + 1 ≤ r.length + 1 ∧ x.1.1.fit x.2.length ∧ x.1.1.parts = [] ∧ x.1.1.opts = [] ∧ x.1.2.length + x.2.length ≤ ns.length + (r.length + 1) := by
      intro y a b c d e
      cases e
      refine ⟨by show y.2.length + 1 ≤ _; omega, ⟨?_, ?_, ?_⟩, c, d, by show ns.length + y.2.length ≤ _; omega⟩
      · show y.1.names.length + y.2.length ≤ _; omega
      · show y.1.parts.length + y.2.length ≤ _; rw [c]; simp; omega
      · show y.1.opts.length + y.2.length ≤ _; rw [d]; simp; omega
    have some_of : ∀ {o : Option (Kr × List Tk)}, withN ns o = some x → ∃ y, o = some y := by
      intro o e
      cases o with
      | none => cases e
      | some y => exact ⟨y, rfl⟩
    split at h
    · exact bare (y := ({ form := ⟨w.toArray⟩ }, r)) (Nat.le_refl _) ⟨rfl, rfl, rfl⟩ h
    split at h
    · exact bare (y := ({ form := ⟨w.toArray⟩ }, r)) (Nat.le_refl _) ⟨rfl, rfl, rfl⟩ h
    split at h
    · obtain ⟨y, e⟩ := some_of h
      rw [e] at h
      exact bare (mInteger_len e).1 (mInteger_len e).2.1 h
    split at h
    · obtain ⟨y, e⟩ := some_of h
      rw [e] at h
      obtain ⟨a, b, c, d, _⟩ := mEnum_len e
      exact named a b c d h
    split at h
    · obtain ⟨y, e⟩ := some_of h
      rw [e] at h
      exact bare (mString_len e).1 (mString_len e).2.1 h
    split at h
    · obtain ⟨y, e⟩ := some_of h
      rw [e] at h
      exact bare (mString_len e).1 (mString_len e).2.1 h
    split at h
    · obtain ⟨y, e⟩ := some_of h
      rw [e] at h
      unfold mSeq at e
      split at e
      · exact bare (mSeqOf_len e).1 (mSeqOf_len e).2.1 h
      · rename_i r1 e1
        have l1 := skipT_len e1
        obtain ⟨a, b, c, d, _⟩ := mSeq2_len e
        exact named (by omega) (by omega) c d h
    split at h
    · obtain ⟨y, e⟩ := some_of h
      rw [e] at h
      obtain ⟨a, b, c, d, _⟩ := mChoice_len e
      exact named a b c d h
    split at h
    · have := addN_len w ns
      cases h
      refine ⟨Nat.le_refl _, ⟨?_, ?_, ?_⟩, rfl, rfl, by show (addN w ns).length + r.length ≤ _; omega⟩
      · show 0 + r.length ≤ _; omega
      · show 0 + r.length ≤ _; omega
      · show 0 + r.length ≤ _; omega
    · cases h
  · cases h
theorem mTake2_len {k : Kr} {ts : List Tk} {y : (Unit × Kr) × List Tk} (hf : k.fit ts.length) (h : mTake2 k ts = some y) : y.2.length < ts.length ∧ y.1.2.fit y.2.length := by
  unfold mTake2 at h
  split at h
  · cases h
  · rename_i x e
    obtain ⟨a1, a2, a3, a4, a5, a6⟩ := mNext_len e
    cases h
    refine ⟨a1, ?_, ?_, ?_⟩
    · have := hf.1; show x.1.2.names.length + x.2.length ≤ _; omega
    · have := hf.2.1; show x.1.2.parts.length + x.2.length ≤ _; rw [a3]; omega
    · have := hf.2.2; show x.1.2.opts.length + x.2.length ≤ _; rw [a6]; omega
theorem mTake_len {k : Kr} {kd : Kd} {ts : List Tk} {y : (Unit × Kr) × List Tk} (hf : k.fit (ts.length + 1)) (h : mTake k kd ts = some y) : y.2.length ≤ ts.length ∧ y.1.2.fit y.2.length := by
  obtain ⟨f1, f2, f3⟩ := hf
  unfold mTake at h
  split at h
  · cases h
    refine ⟨Nat.le_refl _, ?_, ?_, ?_⟩
    · show k.names.length + ts.length ≤ _; omega
    · show (k.parts ++ [kd]).length + ts.length ≤ _; rw [List.length_append, List.length_singleton]; omega
    · show k.opts.length + ts.length ≤ _; omega
  · split at h
    · split at h
      · rename_i r e
        have l1 := skipT_len e
        obtain ⟨a, b⟩ := mTake2_len (k := { k with parts := k.parts ++ [kd], opts := k.opts ++ [true] }) ⟨by show k.names.length + _ ≤ _; omega, by show (k.parts ++ [kd]).length + _ ≤ _; rw [List.length_append, List.length_singleton]; omega, by show (k.opts ++ [true]).length + _ ≤ _; rw [List.length_append, List.length_singleton]; omega⟩ h
        exact ⟨by omega, b⟩
      · obtain ⟨a, b⟩ := mTake2_len (k := { k with parts := k.parts ++ [kd], opts := k.opts ++ [false] }) ⟨by show k.names.length + _ ≤ _; omega, by show (k.parts ++ [kd]).length + _ ≤ _; rw [List.length_append, List.length_singleton]; omega, by show (k.opts ++ [false]).length + _ ≤ _; rw [List.length_append, List.length_singleton]; omega⟩ h
        exact ⟨by omega, b⟩
    · obtain ⟨a, b⟩ := mTake2_len (k := { k with parts := k.parts ++ [kd] }) ⟨by show k.names.length + _ ≤ _; omega, by show (k.parts ++ [kd]).length + _ ≤ _; rw [List.length_append, List.length_singleton]; omega, by show k.opts.length + _ ≤ _; omega⟩ h
      exact ⟨by omega, b⟩
end Th
set_option Elab.async false
set_option linter.all false
set_option maxRecDepth 100000
set_option maxHeartbeats 4000000
namespace Th
open PySem L2
def mRunF : Nat → List (List Nat) → List Kr → Kr → List Tk → Option ((Kr × List (List Nat)) × List Tk)
  | 0, _, _, _, _ => none
  | n + 1, ns, stk, k, ts => if k.waits = true then match mBegin ns ts with
      | none => none
      | some x => mRunF n x.1.2 (k :: stk) x.1.1 x.2
    else match stk with
      | [] => some ((k, ns), ts)
      | o :: st => match mTake o k.fin ts with
        | none => none
        | some y => mRunF n ns st y.1.2 y.2
theorem mRunF_succ (n : Nat) (ns : List (List Nat)) (stk : List Kr) (k : Kr) (ts : List Tk) : mRunF (n + 1) ns stk k ts = (if k.waits = true then match mBegin ns ts with
      | none => none
      | some x => mRunF n x.1.2 (k :: stk) x.1.1 x.2
    else match stk with
      | [] => some ((k, ns), ts)
      | o :: st => match mTake o k.fin ts with
        | none => none
        | some y => mRunF n ns st y.1.2 y.2) := by rw [mRunF.eq_def]
def mKind (ns : List (List Nat)) (ts : List Tk) : Option ((Kr × List (List Nat)) × List Tk) := match mBegin ns ts with
  | none => none
  | some x => mRunF (2 * x.2.length + 1) x.1.2 [] x.1.1 x.2
def frs (fs : List Fm) : List Addr := fs.flatMap Fm.l
theorem frs_cons (f : Fm) (fs : List Fm) : frs (f :: fs) = f.l ++ frs fs := rfl
def StAt (KC : Addr) (M : List Addr) (H : Hp) : List Fm → List Kr → Prop
  | [], [] => True
  | f :: fs, k :: ks => KrAt KC M H f k ∧ StAt KC M H fs ks
  | _, _ => False
theorem KrAt.move {KC : Addr} {M M' N : List Addr} {H H' : Hp} {f : Fm} {k : Kr} (h : KrAt KC M H f k) (hF : Fx N H H') (hN : ∀ b ∈ N, b ∈ M) (hM : ∀ b ∈ M', b ∈ M ∨ H b = none) (hd : ∀ b ∈ f.l, b ∉ N) : KrAt KC M' H' f k := by
  obtain ⟨dx, as, h1, h2, h3, h4, h5, h6⟩ := h.ex
  exact ⟨dx, as, hF _ _ (hd _ (by simp [Fm.l])) h1, hF _ _ (hd _ (by simp [Fm.l])) h2, hF _ _ (hd _ (by simp [Fm.l])) h3, hF _ _ (hd _ (by simp [Fm.l])) h4, h5.move (hF.mono hN) hM, h6⟩
theorem StAt.move {KC : Addr} {M M' N : List Addr} {H H' : Hp} (hF : Fx N H H') (hN : ∀ b ∈ N, b ∈ M) (hM : ∀ b ∈ M', b ∈ M ∨ H b = none) : ∀ {fs : List Fm} {ks : List Kr}, StAt KC M H fs ks → (∀ b ∈ frs fs, b ∉ N) → StAt KC M' H' fs ks
  | [], [], _, _ => trivial
  | f :: fs, k :: ks, h, hd => ⟨h.1.move hF hN hM (fun b hb => hd b (by rw [frs_cons]; exact List.mem_append_left _ hb)), StAt.move hF hN hM h.2 fun b hb => hd b (by rw [frs_cons]; exact List.mem_append_right _ hb)⟩
  | [], _ :: _, h, _ => h.elim
  | _ :: _, [], h, _ => h.elim
theorem StAt.len {KC : Addr} {M : List Addr} {H : Hp} : ∀ {fs : List Fm} {ks : List Kr}, StAt KC M H fs ks → fs.length = ks.length
  | [], [], _ => rfl
  | f :: fs, k :: ks, h => by rw [List.length_cons, List.length_cons, StAt.len h.2]
  | [], _ :: _, h => h.elim
  | _ :: _, [], h => h.elim
def giveR (RC WT KC r l nd : Addr) (gs : List Fm) (M0 : List Addr) (o : Option ((Kr × List (List Nat)) × List Tk)) (H : Hp) (Q : VK) (E : XK) : Prop := match o with
  | some x => ∀ (a : Addr) (gs' : List Fm) (H' : Hp), KAt KC M0 H' a x.1.1.fin → RdAt RC H' r l x.2 → NmAt KC H' nd gs' x.1.2 → (∀ b ∈ nas gs', b ∈ nas gs ∨ H b = none) → Fx [r, nd] H H' → Q (.ref a) H'
  | none => ∀ H', E (.ref WT) none H'
structure Stk (RC KC r l nd ar : Addr) (gs0 : List Fm) (M0 : List Addr) (H H' : Hp) (gs : List Fm) (ns : List (List Nat)) (stk : List Kr) (k : Kr) (ts : List Tk) (f : Fm) (fs : List Fm) : Prop where
  arr : H' ar = some (.lst (fs.reverse.map fun f => V.ref f.a))
  ndd : NmAt KC H' nd gs ns
  gnw : ∀ b ∈ nas gs, b ∈ nas gs0 ∨ H b = none
  ap1 : ∀ b ∈ nas gs, b ∉ ar :: frs fs
  ap2 : k.waits = true → ∀ b ∈ nas gs, b ∉ f.l
  rd : RdAt RC H' r l ts
  st : StAt KC (M0 ++ ar :: frs (f :: fs)) H' (f :: fs) (k :: stk)
  dup : (ar :: frs (f :: fs)).Nodup
  new : ∀ b ∈ ar :: frs (f :: fs), H b = none
  fx : Fx [r, nd] H H'
  fit : k.fit ts.length
  fits : ∀ o ∈ stk, o.fit (ts.length + 1)
  deep : stk.length + ts.length ≤ 65536
  few : ns.length + ts.length ≤ 65536
section
variable {P : Program} {w : World} {K : PySem.W.Frag} {mg : Str → Option Value} {base : Heap} {WT RC KC : Addr}
def spReadKind (RC WT KC : Addr) : Sp := fun vs H Q E => ∃ (r l nd : Addr) (ts : List Tk) (gs : List Fm) (ns : List (List Nat)) (M0 : List Addr), vs = [.ref r, .ref nd] ∧ RdAt RC H r l ts ∧ NmAt KC H nd gs ns ∧ ns.length + ts.length ≤ 65536 ∧ r ∈ M0 ∧ nd ∈ M0 ∧ (∀ b ∈ M0, H b ≠ none) ∧ nd ≠ l ∧ giveR RC WT KC r l nd gs M0 (mKind ns ts) H Q E
theorem scReadKind : FnScope ["reader", "named", "around", "kind", "outer"] ["reader", "named"] (defScope sReadKind) := ⟨rfl, rfl, rfl, by decide +kernel, rfl, by decide +kernel, by decide +kernel⟩
theorem ok_read_kind (D : Df K mg "read_kind" sReadKind ["reader", "named"]) (T0 : Txt K mg WT) (TK : KdT K KC) (GB : Ok P w K mg base (CXW P w) 9 "begin_kind" ["reader", "named"] (spBeginKind RC WT KC)) (GT : Ok P w K mg base (CXW P w) 6 "take_inner" ["reader", "outer", "inner"] (spTakeInner RC WT KC)) :
    Ok P w K mg base (CXW P w) 10 "read_kind" ["reader", "named"] (spReadKind RC WT KC) := by
  refine D.okX scReadKind (fun vs H Q E h => ?_) (fun fa cdv A outer s H vs Q E hr h => ?_)
  · obtain ⟨r, l, nd, ts, gs0, ns, M0, rfl, _⟩ := h; rfl
  · obtain ⟨r, l, nd, ts, gs0, ns, M0, rfl, hR, hnd, hz, hrM, hnM, hM0, hndl, g⟩ := h
    have hr6 := hr.mono (show 6 ≤ 9 by decide)
    refine ⟨_, pss_cons (ps_set (i := 2) scReadKind.nd rfl (Or.inl rfl) (pe_lst pa_nil))
      (pss_cons (ps_set (i := 3) scReadKind.nd rfl (Or.inl rfl) (pe_c GB hr pass_cx (pa_cons (pv 0) (pa_cons (pv 1) pa_nil))))
      (pss_cons (ps_while own_cx (PW.pt (pw_or (pt_val (pe_fld (pv 3) rfl)) (pw_or1 (pt_cmpR op_gt (pe_callB call_len_seq (by rfl) T0.len PySem.boot_len (pa_cons (pv 2) pa_nil)) pe_int (nomark _)))))
        (pss_one (ps_if (pt_val (pe_fld (pv 3) rfl))
          (pss_cons (ps_expr (pe_bm PySem.F.plainAttrs_list PySem.F.slot_list_append PySem.F.type_list_append mt_append (pv 2) (pa_cons (pv 3) pa_nil)))
            (pss_one (ps_set (i := 3) scReadKind.nd rfl (Or.inl rfl) (pe_c GB hr pass_cx (pa_cons (pv 0) (pa_cons (pv 1) pa_nil))))))
          (pss_cons (ps_set (i := 4) scReadKind.nd rfl (Or.inl rfl) (pe_bm0 PySem.F.plainAttrs_list PySem.F.slot_list_pop PySem.F.type_list_pop mt_pop (pv 2)))
            (pss_cons (ps_expr (pe_c GT hr6 pass_cx (pa_cons (pv 0) (pa_cons (pv 4) (pa_cons (pv 3) pa_nil)))))
            (pss_one (ps_set (i := 3) scReadKind.nd rfl (Or.inl rfl) (pv 4))))))))
      (pss_one (ps_ret (pv 3))))), ?_⟩
    have hll : H l ≠ none := by obtain ⟨dx, as, all, p, h1, h2, _⟩ := hR.ex; rw [h2]; simp
    have hrr : H r ≠ none := hM0 r hrM
    have hnr : nd ≠ r := fun z => by obtain ⟨dx, p, h1⟩ := hR.obj; have := hnd.lst; rw [z, h1] at this; cases this
    refine ⟨by decide, fun ar har => ?_⟩
    have h0 : Fx [r, nd] H (upd H ar (.lst [])) := Fx.new har
    have hR0 : RdAt RC (upd H ar (.lst [])) r l ts := hR.keep (M := []) (Fx.new har) (by simp) (by simp) (by simp)
    have hnd0 : NmAt KC (upd H ar (.lst [])) nd gs0 ns := hnd.move (M := []) (Fx.new har) (by simp) (by simp)
    refine ⟨_, rfl, _, rfl, r, l, nd, ts, gs0, ns, rfl, hR0, hnd0, by omega, hndl, ?_⟩
    unfold mKind at g
    unfold giveB
    cases e0 : mBegin ns ts with
    | none => rw [e0] at g; exact fun H' => g H'
    | some x =>
      rw [e0] at g
      dsimp only at g
      intro f0 gs1 H1 hK1 hn1 hR1 hnd1 hgs1 hF1
      obtain ⟨b1, b2, b3, b4, b5⟩ := mBegin_len (by omega) e0
      have new0 : ∀ b ∈ f0.l, H b = none ∧ b ≠ ar := fun b hb => by
        have := hn1 b hb
        have hba : b ≠ ar := fun z => by rw [z, upd_same] at this; cases this
        rw [upd_ne hba] at this
        exact ⟨this, hba⟩
      have old0 : ∀ b ∈ nas gs0, H b ≠ none := fun b hb => hnd.full hb
      have init : Stk RC KC r l nd ar gs0 M0 H H1 gs1 x.1.2 [] x.1.1 x.2 f0 [] := by
        obtain ⟨dx, as, q1, q2, q3, q4, q5, q6⟩ := hK1.ex
        refine ⟨hF1 ar _ ?_ upd_same, hnd1, ?_, ?_, ?_, hR1, ⟨hK1.any b3, trivial⟩, ?_, ?_, h0.trans hF1, b2, by simp, by simp; omega, by omega⟩
        · simp only [List.mem_cons, List.not_mem_nil, or_false]
          rintro (z | z)
          · exact hrr (by rw [← z]; exact har)
          · exact (hM0 nd hnM) (by rw [← z]; exact har)
        · intro b hb
          rcases hgs1 with z | z
          · rw [z] at hb; exact .inl hb
          · rw [z.1, nas_app] at hb
            rcases List.mem_append.mp hb with y | y
            · exact .inl y
            · exact .inr (new0 b (nas_one y)).1
        · intro b hb y
          have y : b = ar := by simpa [frs] using y
          rcases hgs1 with z | z
          · rw [z] at hb; exact old0 b hb (by rw [y]; exact har)
          · rw [z.1, nas_app] at hb
            rcases List.mem_append.mp hb with u | u
            · exact old0 b u (by rw [y]; exact har)
            · exact (new0 b (nas_one u)).2 y
        · intro hw b hb y
          rcases hgs1 with z | z
          · rw [z] at hb; exact old0 b hb (new0 b y).1
          · rw [z.2] at hw; cases hw
        · rw [frs_cons, show frs [] = [] from rfl, List.append_nil, List.nodup_cons]
          exact ⟨fun z => (new0 ar z).2 rfl, q6⟩
        · intro b hb
          rw [frs_cons, show frs [] = [] from rfl, List.append_nil] at hb
          rcases List.mem_cons.mp hb with z | z
          · rw [z]; exact har
          · exact (new0 b z).1
      refine ⟨fun m σ' H' => ∃ (gs : List Fm) (ns : List (List Nat)) (stk : List Kr) (k : Kr) (ts : List Tk) (f : Fm) (fs : List Fm) (oo : Option V), σ' = [some (.ref r), some (.ref nd), some (.ref ar), some (.ref f.a), oo] ∧ Stk RC KC r l nd ar gs0 M0 H H' gs ns stk k ts f fs ∧ 2 * ts.length + stk.length < m ∧
        giveR RC WT KC r l nd gs0 M0 (mRunF m ns stk k ts) H Q E, ⟨_, gs1, x.1.2, [], x.1.1, x.2, f0, [], none, rfl, init, by simp, g⟩, ?_⟩
      rintro m σ' H2 ⟨gs2, ns2, stk, k, ts2, f, fs, oo, rfl, S, hm, g2⟩
      match m, hm with
      | 0, hm => omega
      | m + 1, hm =>
      obtain ⟨dk, as, q1, q2, q3, q4, q5, q6⟩ := S.st.1.ex
      rw [mRunF_succ] at g2
      have narM : ∀ b ∈ M0, b ≠ ar := fun b hb z => hM0 b hb (by rw [z]; exact har)
      have hfsd : (frs (f :: fs)).Nodup := (List.nodup_cons.mp S.dup).2
      have harf : ar ∉ frs (f :: fs) := (List.nodup_cons.mp S.dup).1
      have hlen := StAt.len S.st.2
      refine ⟨_, rfl, f.a, KC, dk, _, _, rfl, q1, TK.cl, TK.waits, kf_waits _ _ _ _ _ _ _ _ _ _, _, rfl, ?_⟩
      cases hw : k.waits with
      | true =>
        rw [hw, if_pos rfl] at g2
        refine iteT (iteT ⟨_, fun σ'' H'' z => z, ?_⟩)
        refine ⟨_, rfl, f.a, KC, dk, _, _, rfl, q1, TK.cl, TK.waits, kf_waits _ _ _ _ _ _ _ _ _ _, _, rfl, ?_⟩
        rw [hw]
        refine iteT ?_
        refine ⟨_, rfl, .inl ⟨rfl, _, SqL.of S.arr⟩, _, rfl, ar, _, _, rfl, rfl, S.arr, ?_, ?_⟩
        · rw [List.length_map, List.length_reverse, hlen]
          have := S.deep
          exact Nat.lt_of_le_of_lt (show stk.length ≤ 65536 by omega) (by decide)
        have hFa : Fx [ar] H2 (upd H2 ar (.lst ((fs.reverse.map fun f => V.ref f.a) ++ [.ref f.a]))) := Fx.set List.mem_cons_self
        have hR3 : RdAt RC (upd H2 ar (.lst ((fs.reverse.map fun f => V.ref f.a) ++ [.ref f.a]))) r l ts2 := S.rd.keep hFa (by simpa using (narM r hrM)) (fun z => hll (by rw [List.mem_singleton.mp z]; exact har)) (fun b hb xs e => by rw [List.mem_singleton.mp hb, S.arr] at e; cases e)
        have hnd3 : NmAt KC (upd H2 ar (.lst ((fs.reverse.map fun f => V.ref f.a) ++ [.ref f.a]))) nd gs2 ns2 := S.ndd.move hFa (by simpa using (narM nd hnM)) (fun b hb z => S.ap1 b hb (by rw [List.mem_singleton.mp z]; exact List.mem_cons_self))
        refine ⟨_, rfl, _, rfl, r, l, nd, ts2, gs2, ns2, rfl, hR3, hnd3, by have := S.few; omega, hndl, ?_⟩
        unfold giveB
        cases e1 : mBegin ns2 ts2 with
        | none => rw [e1] at g2; exact fun H' => g2 H'
        | some y =>
          rw [e1] at g2
          intro f' gs4 H4 hK4 hn4 hR4 hnd4 hgs4 hF4
          obtain ⟨c1, c2, c3, c4, c5⟩ := mBegin_len (by have := S.few; omega) e1
          -- the new one is apart from all
          have new1 : ∀ b ∈ f'.l, H2 b = none ∧ b ≠ ar := fun b hb => by
            have := hn4 b hb
            have hba : b ≠ ar := fun z => by rw [z, upd_same] at this; cases this
            rw [upd_ne hba] at this
            exact ⟨this, hba⟩
          have newH : ∀ b ∈ f'.l, H b = none := fun b hb => by
            cases e : H b with
            | none => rfl
            | some o =>
              by_cases hbM : b ∈ [r, nd]
              · simp only [List.mem_cons, List.not_mem_nil, or_false] at hbM
                have := (new1 b hb).1
                obtain ⟨dxr, pr, hrd⟩ := S.rd.obj
                rcases hbM with z | z
                · rw [z, hrd] at this; cases this
                · rw [z, S.ndd.lst] at this; cases this
              · have := S.fx b o hbM e
                rw [(new1 b hb).1] at this; cases this
          have tracked : ∀ b ∈ frs (f :: fs), H2 b ≠ none := by
            have : ∀ (fs : List Fm) (ks : List Kr), StAt KC (M0 ++ ar :: frs (f :: fs)) H2 fs ks → True := fun _ _ _ => trivial
            have aux : ∀ {M : List Addr} {fs : List Fm} {ks : List Kr}, StAt KC M H2 fs ks → ∀ b ∈ frs fs, H2 b ≠ none := by
              intro M fs
              induction fs with
              | nil => intro ks _ b hb; simp [frs] at hb
              | cons f fs ih =>
                intro ks hs b hb
                cases ks with
                | nil => exact hs.elim
                | cons k ks =>
                  rw [frs_cons] at hb
                  rcases List.mem_append.mp hb with z | z
                  · obtain ⟨dk, as, q1, q2, q3, q4, _⟩ := hs.1.ex
                    have hb' : b = f.a ∨ b = f.pl ∨ b = f.pa ∨ b = f.op := by simpa [Fm.l] using z
                    rcases hb' with z | z | z | z
                    · rw [z, q1]; simp
                    · rw [z, q2]; simp
                    · rw [z, q3]; simp
                    · rw [z, q4]; simp
                  · exact ih hs.2 b z
            exact aux S.st
          refine ⟨m, Nat.lt_succ_self m, gs4, y.1.2, k :: stk, y.1.1, y.2, f', f :: fs, oo, rfl, ⟨?_, hnd4, ?_, ?_, ?_, hR4, ⟨hK4.any c3, ?_⟩, ?_, ?_, ?_, c2, ?_, ?_, ?_⟩, ?_, g2⟩
          · rw [List.reverse_cons, List.map_append]
            refine hF4 ar _ ?_ upd_same
            simp only [List.mem_cons, List.not_mem_nil, or_false]
            rintro (z | z)
            · exact narM r hrM z.symm
            · exact narM nd hnM z.symm
          · intro b hb
            rcases hgs4 with z | z
            · rw [z] at hb; exact S.gnw b hb
            · rw [z.1, nas_app] at hb
              rcases List.mem_append.mp hb with u | u
              · exact S.gnw b u
              · exact .inr (newH b (nas_one u))
          · have ha : ∀ b ∈ nas gs2, b ∉ ar :: frs (f :: fs) := fun b hb z => by
              rcases List.mem_cons.mp z with u | u
              · exact S.ap1 b hb (by rw [u]; exact List.mem_cons_self)
              · rw [frs_cons] at u
                rcases List.mem_append.mp u with u | u
                · exact S.ap2 hw b hb u
                · exact S.ap1 b hb (List.mem_cons_of_mem _ u)
            intro b hb
            rcases hgs4 with z | z
            · rw [z] at hb; exact ha b hb
            · rw [z.1, nas_app] at hb
              rcases List.mem_append.mp hb with u | u
              · exact ha b u
              · intro v
                have n1 := new1 b (nas_one u)
                rcases List.mem_cons.mp v with v | v
                · exact n1.2 v
                · exact tracked b v n1.1
          · intro hw' b hb v
            rcases hgs4 with z | z
            · rw [z] at hb; exact S.ndd.full hb (new1 b v).1
            · rw [z.2] at hw'; cases hw'
          · have hs := StAt.move (M' := M0 ++ ar :: frs (f :: fs)) hFa (by simp) (fun b hb => .inl hb) S.st (fun b hb z => harf (by rw [← List.mem_singleton.mp z]; exact hb))
            refine StAt.move (M' := M0 ++ ar :: frs (f' :: f :: fs)) hF4 ?_ ?_ hs ?_
            · intro b hb
              simp only [List.mem_cons, List.not_mem_nil, or_false] at hb
              rcases hb with z | z
              · rw [z]; exact List.mem_append_left _ hrM
              · rw [z]; exact List.mem_append_left _ hnM
            · intro b hb
              rw [frs_cons f' (f :: fs)] at hb
              rcases List.mem_append.mp hb with z | z
              · exact .inl (List.mem_append_left _ z)
              · rcases List.mem_cons.mp z with z | z
                · exact .inl (List.mem_append_right _ (by rw [z]; exact List.mem_cons_self))
                · rcases List.mem_append.mp z with z | z
                  · exact .inr (hn4 b z)
                  · exact .inl (List.mem_append_right _ (List.mem_cons_of_mem _ z))
            · intro b hb z
              have hn := S.new b (List.mem_cons_of_mem _ hb)
              simp only [List.mem_cons, List.not_mem_nil, or_false] at z
              rcases z with z | z
              · exact hrr (by rw [← z]; exact hn)
              · exact hM0 nd hnM (by rw [← z]; exact hn)
          · rw [frs_cons f' (f :: fs), List.nodup_cons]
            refine ⟨fun z => ?_, ?_⟩
            · rcases List.mem_append.mp z with z | z
              · exact (new1 ar z).2 rfl
              · exact harf z
            · obtain ⟨_, _, _, _, _, _, _, hd'⟩ := hK4.ex
              exact List.nodup_append.mpr ⟨hd', hfsd, fun a ha b hb z => tracked b hb (by rw [← z]; exact (new1 a ha).1)⟩
          · intro b hb
            rw [frs_cons f' (f :: fs)] at hb
            rcases List.mem_cons.mp hb with z | z
            · rw [z]; exact har
            · rcases List.mem_append.mp z with z | z
              · exact newH b z
              · exact S.new b (List.mem_cons_of_mem _ z)
          · refine Fx.trans (H1 := upd H2 ar (.lst ((fs.reverse.map fun f => V.ref f.a) ++ [.ref f.a]))) ?_ hF4
            intro b o n e
            rw [upd_ne (ne_of_none e har)]
            exact S.fx b o n e
          · intro o ho
            rcases List.mem_cons.mp ho with z | z
            · rw [z]; exact S.fit.mono c1
            · exact (S.fits o z).mono (by omega)
          · have := S.deep; rw [List.length_cons]; omega
          · have := S.few; omega
          · rw [List.length_cons]; omega
      | false =>
        rw [hw, if_neg (by decide)] at g2
        refine iteF ?_
        refine ⟨_, rfl, ar, _, rfl, .inl (SqL.of S.arr), _, _, rfl, rfl, _, rfl, ?_⟩
        rw [List.length_map, List.length_reverse, hlen]
        cases stk with
        | nil =>
          refine iteF ⟨_, rfl, ?_⟩
          refine g2 f.a gs2 H2 (S.st.1.fin hw (fun b hb => List.mem_append_left _ hb) fun b hb z => ?_) S.rd S.ndd S.gnw S.fx
          exact hM0 b z (S.new b (by rw [frs_cons]; exact List.mem_cons_of_mem _ (List.mem_append_left _ hb)))
        | cons o st =>
          cases fs with
          | nil => exact S.st.2.elim
          | cons fo fs' =>
          refine ite2 (fun _ => ⟨_, fun σ'' H'' z => z, ?_⟩) (fun hc => absurd (decide_eq_true (by rw [List.length_cons]; omega)) hc)
          refine ⟨_, rfl, f.a, KC, dk, _, _, rfl, q1, TK.cl, TK.waits, kf_waits _ _ _ _ _ _ _ _ _ _, _, rfl, ?_⟩
          rw [hw]
          refine iteF ?_
          have hrev : ((fo :: fs').reverse.map fun f => V.ref f.a) = (fs'.reverse.map fun f => V.ref f.a) ++ [V.ref fo.a] := by rw [List.reverse_cons, List.map_append]; rfl
          have hlast : ((fo :: fs').reverse.map fun f => V.ref f.a)[((fo :: fs').reverse.map fun f => V.ref f.a).length - 1]? = some (V.ref fo.a) := by rw [hrev]; simp
          refine ⟨_, rfl, .inl ⟨rfl, _, SqL.of S.arr⟩, ar, _, _, rfl, rfl, S.arr, hlast, ?_⟩
          rw [hrev, List.dropLast_concat]
          have hFa : Fx [ar] H2 (upd H2 ar (.lst (fs'.reverse.map fun f => V.ref f.a))) := Fx.set List.mem_cons_self
          generalize hH3 : upd H2 ar (.lst (fs'.reverse.map fun f => V.ref f.a)) = H3 at hFa ⊢
          have har3 : H3 ar = some (.lst (fs'.reverse.map fun f => V.ref f.a)) := by rw [← hH3]; exact upd_same
          have hR3 : RdAt RC H3 r l ts2 := S.rd.keep hFa (by simpa using (narM r hrM)) (fun z => hll (by rw [List.mem_singleton.mp z]; exact har)) (fun b hb xs e => by rw [List.mem_singleton.mp hb, S.arr] at e; cases e)
          have hnd3 : NmAt KC H3 nd gs2 ns2 := S.ndd.move hFa (by simpa using (narM nd hnM)) (fun b hb z => S.ap1 b hb (by rw [List.mem_singleton.mp z]; exact List.mem_cons_self))
          have hs3 := StAt.move (M' := M0 ++ ar :: frs (f :: fo :: fs')) hFa (by simp) (fun b hb => .inl hb) S.st (fun b hb z => harf (by rw [← List.mem_singleton.mp z]; exact hb))
          -- what stays to be read
          have hsub : ∀ b ∈ M0 ++ ar :: frs (fo :: fs'), b ∈ M0 ++ ar :: frs (f :: fo :: fs') := fun b hb => by
            rcases List.mem_append.mp hb with z | z
            · exact List.mem_append_left _ z
            · rcases List.mem_cons.mp z with z | z
              · exact List.mem_append_right _ (by rw [z]; exact List.mem_cons_self)
              · exact List.mem_append_right _ (List.mem_cons_of_mem _ (by rw [frs_cons f]; exact List.mem_append_right _ z))
          have hs4 : StAt KC (M0 ++ ar :: frs (fo :: fs')) H3 (fo :: fs') (o :: st) := StAt.move (N := []) (M' := M0 ++ ar :: frs (fo :: fs')) Fx.refl (by simp) (fun b hb => .inl (hsub b hb)) hs3.2 (by simp)
          have hd1 : ∀ b ∈ f.l, b ∉ frs (fo :: fs') := fun b hb z => by
            rw [frs_cons f] at hfsd
            exact (List.nodup_append.mp hfsd).2.2 b hb b z rfl
          have hap : ∀ b ∈ f.l, b ∉ M0 ++ ar :: frs (fo :: fs') := fun b hb z => by
            have hn := S.new b (by rw [frs_cons]; exact List.mem_cons_of_mem _ (List.mem_append_left _ hb))
            rcases List.mem_append.mp z with z | z
            · exact hM0 b z hn
            · rcases List.mem_cons.mp z with z | z
              · exact harf (by rw [← z, frs_cons]; exact List.mem_append_left _ hb)
              · exact hd1 b hb z
          have hI : KAt KC (M0 ++ ar :: frs (fo :: fs')) H3 f.a k.fin := hs3.1.fin hw hsub hap
          have hfo := S.fits o List.mem_cons_self
          have hlfo : l ∉ fo.l := fun z => hll (S.new l (by rw [frs_cons, frs_cons]; exact List.mem_cons_of_mem _ (List.mem_append_right _ (List.mem_append_left _ z))))
          have hMo : ∀ b ∈ r :: fo.l, b ∈ M0 ++ ar :: frs (fo :: fs') := fun b hb => by
            rcases List.mem_cons.mp hb with z | z
            · rw [z]; exact List.mem_append_left _ hrM
            · exact List.mem_append_right _ (List.mem_cons_of_mem _ (by rw [frs_cons]; exact List.mem_append_left _ z))
          refine ⟨_, rfl, _, rfl, _, rfl, r, l, ts2, fo, o, M0 ++ ar :: frs (fo :: fs'), f.a, k.fin, rfl, hR3, hs4.1, hI, hlfo, hMo, by have := hfo.1; omega, by have := hfo.2.1; omega, by have := hfo.2.2; omega, ?_⟩
          unfold giveM
          dsimp only at g2
          cases e1 : mTake o k.fin ts2 with
          | none => rw [e1] at g2; exact fun H' => g2 H'
          | some y =>
            rw [e1] at g2
            dsimp only at g2
            intro H4 hK4 hR4 hF4
            obtain ⟨c1, c2⟩ := mTake_len hfo e1
            have hd2 : (frs (fo :: fs')).Nodup := by rw [frs_cons f] at hfsd; exact (List.nodup_append.mp hfsd).2.1
            have hd3 : ∀ b ∈ fo.l, b ∉ frs fs' := fun b hb z => by
              rw [frs_cons fo] at hd2
              exact (List.nodup_append.mp hd2).2.2 b hb b z rfl
            have new4 : ∀ b ∈ ar :: frs (fo :: fs'), H b = none := fun b hb => S.new b (by
              rcases List.mem_cons.mp hb with z | z
              · rw [z]; exact List.mem_cons_self
              · exact List.mem_cons_of_mem _ (by rw [frs_cons f]; exact List.mem_append_right _ z))
            have hnl : ∀ b ∈ M0, b ≠ r → b ∉ r :: fo.l := fun b hb hn z => by
              rcases List.mem_cons.mp z with z | z
              · exact hn z
              · exact hM0 b hb (new4 b (by rw [frs_cons]; exact List.mem_cons_of_mem _ (List.mem_append_left _ z)))
            have harfo : ar ∉ frs (fo :: fs') := fun z => harf (by rw [frs_cons f]; exact List.mem_append_right _ z)
            refine ⟨_, rfl, m, Nat.lt_succ_self m, gs2, ns2, st, y.1.2, y.2, fo, fs', _, rfl, ⟨?_, ?_, S.gnw, ?_, ?_, hR4, ⟨hK4, ?_⟩, ?_, new4, ?_, c2, ?_, ?_, ?_⟩, ?_, g2⟩
            · refine hF4 ar _ (fun z => ?_) har3
              rcases List.mem_cons.mp z with z | z
              · exact narM r hrM z.symm
              · exact harfo (by rw [frs_cons]; exact List.mem_append_left _ z)
            · refine hnd3.move hF4 (hnl nd hnM hnr) (fun b hb z => ?_)
              rcases List.mem_cons.mp z with z | z
              · exact hnd3.r_out hR3 (by rw [← z]; exact hb)
              · exact S.ap1 b hb (by rw [frs_cons]; exact List.mem_cons_of_mem _ (List.mem_append_left _ z))
            · intro b hb z
              refine S.ap1 b hb ?_
              rcases List.mem_cons.mp z with z | z
              · rw [z]; exact List.mem_cons_self
              · rw [frs_cons]; exact List.mem_cons_of_mem _ (List.mem_append_right _ z)
            · exact fun _ b hb z => S.ap1 b hb (by rw [frs_cons]; exact List.mem_cons_of_mem _ (List.mem_append_left _ z))
            · refine StAt.move hF4 hMo (fun b hb => .inl hb) hs4.2 (fun b hb z => ?_)
              rcases List.mem_cons.mp z with z | z
              · exact hrr (by rw [← z]; exact new4 b (by rw [frs_cons]; exact List.mem_cons_of_mem _ (List.mem_append_right _ hb)))
              · exact hd3 b z hb
            · exact List.nodup_cons.mpr ⟨harfo, hd2⟩
            · intro b oo n e
              refine hF4 b oo (fun z => ?_) (hFa b oo (by simpa using ne_of_none e har) (S.fx b oo n e))
              rcases List.mem_cons.mp z with z | z
              · exact n (by rw [z]; simp)
              · rw [new4 b (by rw [frs_cons]; exact List.mem_cons_of_mem _ (List.mem_append_left _ z))] at e; cases e
            · intro o' ho'
              exact (S.fits o' (List.mem_cons_of_mem _ ho')).mono (by omega)
            · have := S.deep; rw [List.length_cons] at this; omega
            · have := S.few; omega
            · rw [List.length_cons] at hm; omega
end
end Th
set_option Elab.async false
set_option linter.all false
set_option maxRecDepth 100000
set_option maxHeartbeats 4000000
namespace Th
open PySem L2
theorem mTake2_le {k : Kr} {ts : List Tk} {y : (Unit × Kr) × List Tk} (h : mTake2 k ts = some y) : y.2.length ≤ ts.length := by
  unfold mTake2 at h
  split at h
  · cases h
  · rename_i x e
    have := (mNext_len e).1
    cases h
    show x.2.length ≤ _; omega
theorem mTake_le {k : Kr} {kd : Kd} {ts : List Tk} {y : (Unit × Kr) × List Tk} (h : mTake k kd ts = some y) : y.2.length ≤ ts.length := by
  unfold mTake at h
  split at h
  · cases h; exact Nat.le_refl _
  · split at h
    · split at h
      · rename_i r e
        have := skipT_len e
        have := mTake2_le h
        omega
      · exact mTake2_le h
    · exact mTake2_le h
theorem mRunF_len : ∀ (n : Nat) {ns : List (List Nat)} {stk : List Kr} {k : Kr} {ts : List Tk} {x : (Kr × List (List Nat)) × List Tk}, ts.length ≤ 65536 → mRunF n ns stk k ts = some x → x.2.length ≤ ts.length ∧ x.1.2.length + x.2.length ≤ ns.length + ts.length
  | 0, _, _, _, _, _, _, h => by rw [mRunF.eq_def] at h; cases h
  | n + 1, ns, stk, k, ts, x, hz, h => by
    rw [mRunF_succ] at h
    split at h
    · split at h
      · cases h
      · rename_i y e
        obtain ⟨a1, a2, a3, a4, a5⟩ := mBegin_len hz e
        obtain ⟨b1, b2⟩ := mRunF_len n (by omega) h
        exact ⟨by omega, by omega⟩
    · split at h
      · cases h; exact ⟨Nat.le_refl _, Nat.le_refl _⟩
      · split at h
        · cases h
        · rename_i y e
          have a1 := mTake_le e
          obtain ⟨b1, b2⟩ := mRunF_len n (by omega) h
          exact ⟨by omega, by omega⟩
theorem mKind_len {ns : List (List Nat)} {ts : List Tk} {x : (Kr × List (List Nat)) × List Tk} (hz : ts.length ≤ 65536) (h : mKind ns ts = some x) : x.2.length < ts.length ∧ x.1.2.length + x.2.length ≤ ns.length + ts.length := by
  unfold mKind at h
  split at h
  · cases h
  · rename_i y e
    obtain ⟨a1, a2, a3, a4, a5⟩ := mBegin_len hz e
    obtain ⟨b1, b2⟩ := mRunF_len _ (by omega) h
    exact ⟨by omega, by omega⟩
def mDefsF : Nat → List (List Nat) → List (List Nat × Kd) → List Tk → Option (List (List Nat × Kd) × List (List Nat))
  | 0, _, _, _ => none
  | n + 1, ns, ds, ts => match ts with
    | [] => some (ds, ns)
    | .word w :: r => if kindName w = true ∧ w ∉ ds.map Prod.fst then match skipT (.sign (cd "::=")) r with
        | none => none
        | some r2 => match mKind ns r2 with
          | none => none
          | some x => mDefsF n x.1.2 (ds ++ [(w, x.1.1.fin)]) x.2
      else none
    | _ => none
theorem mDefsF_succ (n : Nat) (ns : List (List Nat)) (ds : List (List Nat × Kd)) (ts : List Tk) : mDefsF (n + 1) ns ds ts = (match ts with
    | [] => some (ds, ns)
    | .word w :: r => if kindName w = true ∧ w ∉ ds.map Prod.fst then match skipT (.sign (cd "::=")) r with
        | none => none
        | some r2 => match mKind ns r2 with
          | none => none
          | some x => mDefsF n x.1.2 (ds ++ [(w, x.1.1.fin)]) x.2
      else none
    | _ => none) := by rw [mDefsF.eq_def]
def mFin (ds : List (List Nat × Kd)) (ns : List (List Nat)) : Option (List (List Nat × Kd)) :=
  if ds.length < 1 ∨ 256 < ds.length then none else if (ns.all fun n => decide (n ∈ ds.map Prod.fst)) = true then some ds else none
def mSchema (ts : List Tk) : Option (List (List Nat × Kd)) := match mDefsF (ts.length + 1) [] [] ts with
  | none => none
  | some x => mFin x.1 x.2
def kdd (ps : List (List Nat × Addr)) : List (Key × V) := ps.map fun p => (Sum.inr ⟨p.1.toArray⟩, .ref p.2)
theorem kdd_val (n : List Nat) : ∀ l : List (List Nat × Addr), (valV (kdd l) (Sum.inr (⟨n.toArray⟩ : Str))).isSome = decide (n ∈ l.map Prod.fst)
  | [] => rfl
  | m :: r => by
    by_cases e : m.1 = n
    · subst e
      show (valV (_ :: kdd r) _).isSome = _
      rw [valV_pos rfl]
      simp
    · have e1 : ¬ ((Sum.inr ⟨m.1.toArray⟩ : Key) = Sum.inr ⟨n.toArray⟩) := fun z => e (by injection z with z; injection z with z; simpa using z)
      show (valV (_ :: kdd r) _).isSome = _
      rw [valV_neg e1, kdd_val n r]
      have : n ∈ (m :: r).map Prod.fst ↔ n ∈ r.map Prod.fst := by rw [List.map_cons, List.mem_cons]; exact ⟨fun z => z.resolve_left (fun z => e z.symm), .inr⟩
      simp only [this]
theorem kdd_put {n : List Nat} {l : List (List Nat × Addr)} (a : Addr) (h : n ∉ l.map Prod.fst) : putK (kdd l) (Sum.inr (⟨n.toArray⟩ : Str)) (.ref a) = kdd (l ++ [(n, a)]) := by
  have hv := kdd_val n l
  rw [decide_eq_false h] at hv
  rw [putK_new]
  · unfold kdd; rw [List.map_append]; rfl
  · cases e : valV (kdd l) (Sum.inr (⟨n.toArray⟩ : Str)) with
    | none => rfl
    | some v => rw [e] at hv; cases hv
theorem kdd_len (l : List (List Nat × Addr)) : (kdd l).length = l.length := by unfold kdd; rw [List.length_map]
def giveS (WT KC : Addr) (o : Option (List (List Nat × Kd))) (H : Hp) (Q : VK) (E : XK) : Prop := match o with
  | some ds => ∀ (kd : Addr) (ps : List (List Nat × Addr)) (H' : Hp), H' kd = some (.dK (kdd ps)) → ps.map Prod.fst = ds.map Prod.fst → (∀ b o, H b = some o → H' b = some o) → Q (.ref kd) H'
  | none => ∀ H', E (.ref WT) none H'
structure Dfs (RC KC r l nd kd : Addr) (H H' : Hp) (gs : List Fm) (ns : List (List Nat)) (ds : List (List Nat × Kd)) (ps : List (List Nat × Addr)) (ts : List Tk) : Prop where
  rd : RdAt RC H' r l ts
  ndd : NmAt KC H' nd gs ns
  nw : ∀ b ∈ nas gs, H b = none
  kdk : H' kd = some (.dK (kdd ps))
  nms : ps.map Prod.fst = ds.map Prod.fst
  kin : KsAt KC [r, nd, kd] H' (ps.map Prod.snd) (ds.map Prod.snd)
  old : ∀ b o, H b = some o → H' b = some o
  few : ns.length + ts.length ≤ 65536
  fed : ds.length + ts.length ≤ 65536
section
variable {P : Program} {w : World} {K : PySem.W.Frag} {mg : Str → Option Value} {base : Heap} {WT RC KC : Addr}
def spReadSchema (K : PySem.W.Frag) (WT KC : Addr) : Sp := fun vs H Q E => ∃ (a : Addr) (ns : List Nat), vs = [.ref a] ∧ SqL K H a (ns.map fun (n : Nat) => V.int (n : Int)) ∧ ns.length ≤ 65536 ∧
  giveS WT KC (match toks (ns.map lc) with | none => none | some ts => mSchema ts) H Q E
def spJoin (WT KC : Addr) : Sp := fun vs H Q E => ∃ (kd nd : Addr) (ps : List (List Nat × Addr)) (gs : List Fm) (ns : List (List Nat)), vs = [.ref kd, .ref nd] ∧ H kd = some (.dK (kdd ps)) ∧ NmAt KC H nd gs ns ∧ ns.length ≤ 65536 ∧
  ((ns.all fun n => decide (n ∈ ps.map Prod.fst)) = true → ∀ H', (∀ b o, b ∉ nas gs → H b = some o → H' b = some o) → Q .non H') ∧ (¬ (ns.all fun n => decide (n ∈ ps.map Prod.fst)) = true → ∀ H', E (.ref WT) none H')
theorem scJoin : FnScope ["kinds", "named", "kind"] ["kinds", "named"] (defScope sJoinNamed) := ⟨rfl, rfl, rfl, by decide +kernel, rfl, by decide +kernel, by decide +kernel⟩
theorem pa_nas {gs : List Fm} {b : Addr} (h : b ∈ gs.map Fm.pa) : b ∈ nas gs := by
  obtain ⟨g, hg, rfl⟩ := List.mem_map.mp h
  exact List.mem_flatMap.mpr ⟨g, hg, by simp⟩
theorem ok_join (D : Df K mg "join_named" sJoinNamed ["kinds", "named"]) (T0 : Txt K mg WT) (TK : KdT K KC) : Ok P w K mg base (CXW P w) 1 "join_named" ["kinds", "named"] (spJoin WT KC) := by
  refine D.okX scJoin (fun vs H Q E h => ?_) (fun fa cdv A outer s H vs Q E hr h => ?_)
  · obtain ⟨kd, nd, ps, gs, ns, rfl, _⟩ := h; rfl
  · obtain ⟨kd, nd, ps, gs, ns, rfl, hkd, hnm, hns, g1, g2⟩ := h
    have hu := hu_of hr
    refine ⟨_, pss_one (ps_for own_cx rfl (pi_list (pv 1)) (pg_name (i := 2) scJoin.nd rfl (Or.inl rfl))
      (pss_cons (ps_if (pt_cmp (pc_dnotin hu (pe_fld (pv 2) rfl) (pv 0))) (pss_one (ps_raise PySem.F.excBase_ValueError T0.exc rfl (by rfl) T0.wt (pa_cons pe_str pa_nil) rz_cx)) pss_nil)
      (pss_one (ps_expr (pe_bm PySem.F.plainAttrs_list PySem.F.slot_list_append PySem.F.type_list_append mt_append (pe_fld (pv 2) rfl) (pa_cons (pe_dget hu (pv 0) (pe_fld (pv 2) rfl) (fun _ _ => rfl)) pa_nil)))))), ?_⟩
    have hpaL : ∀ g ∈ gs, H g.pa = some (.lst []) := fun g hg => by
      obtain ⟨i, hi⟩ := List.mem_iff_getElem?.mp hg
      obtain ⟨n, _, q⟩ := hnm.all.at hi
      exact q.2
    have hno : ∀ b o, H b = some o → o ≠ .lst [] → b ∉ gs.map Fm.pa := fun b o e n z => by
      obtain ⟨g, hg, rfl⟩ := List.mem_map.mp z
      rw [hpaL g hg] at e
      exact n (Option.some.inj e).symm
    have hndp : nd ∉ gs.map Fm.pa := fun z => hnm.nd_out (pa_nas z)
    have hlen := hnm.all.len
    refine ⟨_, rfl, nd, rfl, ⟨_, SqL.of hnm.lst⟩, ?_⟩
    refine for_list (xs := gs.map fun g => V.ref g.a) (fun i σ' H' => (∃ o, σ' = [some (.ref kd), some (.ref nd), o]) ∧ (∀ b o, b ∉ gs.map Fm.pa → H b = some o → H' b = some o) ∧ (∀ g ∈ gs, ∃ xs : List V, H' g.pa = some (.lst xs) ∧ xs.length ≤ i) ∧ ∀ n ∈ ns.take i, n ∈ ps.map Prod.fst)
      ⟨⟨_, rfl⟩, fun b o _ e => e, fun g hg => ⟨[], hpaL g hg, Nat.le_refl _⟩, by simp⟩ (fun i σ' H' _ h => SqL.of (h.2.1 nd _ hndp hnm.lst)) (fun i x σ' H' hx h => ?_) (fun σ' H' h => ?_)
    · obtain ⟨⟨o, rfl⟩, hk, hp, hall⟩ := h
      rw [List.getElem?_map] at hx
      obtain ⟨g, hg, rfl⟩ : ∃ g, gs[i]? = some g ∧ V.ref g.a = x := by
        cases e : gs[i]? with
        | none => rw [e] at hx; cases hx
        | some y => rw [e] at hx; exact ⟨y, rfl, Option.some.inj hx⟩
      have hgm : g ∈ gs := List.mem_of_getElem? hg
      obtain ⟨n, hn, ⟨dx, q1⟩, q2⟩ := hnm.all.at hg
      have q1' := hk g.a _ (hno _ _ q1 (by intro z; cases z)) q1
      have hkd' := hk kd _ (hno _ _ hkd (by intro z; cases z)) hkd
      obtain ⟨xs, hxs, hxl⟩ := hp g hgm
      have hin : i < gs.length := (List.getElem?_eq_some_iff.mp hg).1
      refine ⟨_, rfl, g.a, KC, dx, _, _, rfl, q1', TK.cl, TK.target, kf_target _ _ _ _ _ _ _ _ _ _, _, rfl, kd, _, rfl, DGet.k (k := Sum.inr ⟨n.toArray⟩) hkd', _, rfl, ?_⟩
      have hv := kdd_val n ps
      by_cases hmem : n ∈ ps.map Prod.fst
      · rw [decide_eq_true hmem] at hv
        rw [hv]
        refine iteF ?_
        obtain ⟨v, hv'⟩ := Option.isSome_iff_exists.mp hv
        refine ⟨_, rfl, g.a, KC, dx, _, _, rfl, q1', TK.cl, TK.parts, kf_parts _ _ _ _ _ _ _ _ _ _, .inl ⟨rfl, _, SqL.of hxs⟩, ?_⟩
        refine ⟨_, rfl, _, rfl, g.a, KC, dx, _, _, rfl, q1', TK.cl, TK.target, kf_target _ _ _ _ _ _ _ _ _ _, kd, v, rfl, by rw [← hv']; exact DGet.k (k := Sum.inr ⟨n.toArray⟩) hkd', ?_⟩
        refine ⟨g.pa, _, _, rfl, rfl, hxs, Nat.lt_of_le_of_lt (Nat.le_trans hxl (show i ≤ 65536 by omega)) (by decide), ?_⟩
        refine ⟨⟨_, rfl⟩, fun b o hb e => ?_, fun g' hg' => ?_, fun m hm => ?_⟩
        · rw [upd_ne (fun z => hb (by rw [z]; exact List.mem_map.mpr ⟨g, hgm, rfl⟩))]; exact hk b o hb e
        · by_cases e : g'.pa = g.pa
          · exact ⟨_, by rw [e, upd_same], by rw [List.length_append, List.length_singleton]; omega⟩
          · obtain ⟨ys, hy, hyl⟩ := hp g' hg'
            exact ⟨ys, by rw [upd_ne e]; exact hy, by omega⟩
        · rw [List.take_succ, hn] at hm
          rcases List.mem_append.mp hm with z | z
          · exact hall m z
          · have : m = n := by simpa using z
            rw [this]; exact hmem
      · rw [decide_eq_false hmem] at hv
        rw [hv]
        refine iteT ⟨by decide, g2 (fun z => ?_) _⟩
        exact hmem (of_decide_eq_true (List.all_eq_true.mp z _ (List.mem_of_getElem? hn)))
    · obtain ⟨_, hk, _, hall⟩ := h
      rw [List.length_map, hlen, List.take_length] at hall
      exact g1 (List.all_eq_true.mpr fun n hn => decide_eq_true (hall n hn)) H' fun b o hb e => hk b o (fun z => hb (pa_nas z)) e
theorem scReadSchema : FnScope ["text", "reader", "named", "kinds", "name"] ["text"] (defScope sReadSchema) := ⟨rfl, rfl, rfl, by decide +kernel, rfl, by decide +kernel, by decide +kernel⟩
theorem ok_read_schema (D : Df K mg "read_schema" sReadSchema ["text"]) (T0 : Txt K mg WT) (T : Txs K mg) (TR : RdT K RC) (GR : OkI P w K mg base CX0 1 "Reader" RC ["self", "tokens"] (spReaderInit RC)) (GO : Ok P w K mg base (CXW P w) 4 "tokens_of" ["codes"] (spTokensOf K WT))
    (GE : OkM P w K mg base CX0 1 RC "ended" ["self"] (spReaderEnded RC)) (GT : OkM P w K mg base (CXW P w) 2 RC "takes" ["self", "sort"] (spTakes RC WT)) (GC : Ok P w K mg base (CXW P w) 1 "checked_kind_name" ["word"] (spCheckedName WT)) (GNS : OkM P w K mg base (CXW P w) 4 RC "needs_sign" ["self", "sign"] (spNeedsSign RC WT))
    (GK : Ok P w K mg base (CXW P w) 10 "read_kind" ["reader", "named"] (spReadKind RC WT KC)) (GJ : Ok P w K mg base (CXW P w) 1 "join_named" ["kinds", "named"] (spJoin WT KC)) : Ok P w K mg base (CXW P w) 11 "read_schema" ["text"] (spReadSchema K WT KC) := by
  refine D.okX scReadSchema (fun vs H Q E h => ?_) (fun fa cdv A outer s H vs Q E hr h => ?_)
  · obtain ⟨a, ns, rfl, _⟩ := h; rfl
  · obtain ⟨a, cs, rfl, hS, hl, g⟩ := h
    have hu := hu_of hr
    have hr1 := hr.mono (show 1 ≤ 10 by decide)
    have hr2 := hr.mono (show 2 ≤ 10 by decide)
    have hr4 := hr.mono (show 4 ≤ 10 by decide)
    refine ⟨_, pss_cons (ps_set (i := 1) scReadSchema.nd rfl (Or.inl rfl) (pe_mkc GR hr2 pass0 (pa_cons (pe_c GO hr4 pass_cx (pa_cons (pv 0) pa_nil)) pa_nil)))
      (pss_cons (ps_set (i := 2) scReadSchema.nd rfl (Or.inl rfl) (pe_lst pa_nil))
      (pss_cons (ps_set (i := 3) scReadSchema.nd rfl (Or.inl rfl) pe_dnewK)
      (pss_cons (ps_while own_cx (pt_not (pt_val (pe_mt0 GE TR.cl hr1 pass0 (pv 1))))
        (pss_cons (ps_set (i := 4) scReadSchema.nd rfl (Or.inl rfl) (pe_c GC hr1 pass_cx (pa_cons (pe_mt GT TR.cl hr2 pass_cx (pv 1) (pa_cons (pe_k T0.word) pa_nil)) pa_nil)))
        (pss_cons (ps_if (pt_cmp (pc_din hu (pv 4) (pv 3))) (pss_one (ps_raise PySem.F.excBase_ValueError T0.exc rfl (by rfl) T0.wt (pa_cons pe_str pa_nil) rz_cx)) pss_nil)
        (pss_cons (ps_expr (pe_mt GNS TR.cl hr4 pass_cx (pv 1) (pa_cons pe_str pa_nil)))
        (pss_one (ps_dput hu (pv 3) (pv 4) (pe_c GK hr pass_cx (pa_cons (pv 1) (pa_cons (pv 2) pa_nil))) rfl))))))
      (pss_cons (ps_if (PW.pt (pw_or (pt_cmpR op_lt (pe_callB call_lenD (by rfl) T0.len PySem.boot_len (pa_cons (pv 3) pa_nil)) pe_int (nomark _)) (pw_or1 (pt_cmpR op_gt (pe_callB call_lenD (by rfl) T0.len PySem.boot_len (pa_cons (pv 3) pa_nil)) (pe_k T.kinds) (nomark _)))))
        (pss_one (ps_raise PySem.F.excBase_ValueError T0.exc rfl (by rfl) T0.wt (pa_cons pe_str pa_nil) rz_cx)) pss_nil)
      (pss_cons (ps_expr (pe_c GJ hr1 pass_cx (pa_cons (pv 3) (pa_cons (pv 2) pa_nil))))
      (pss_one (ps_ret (pv 3)))))))), ?_⟩
    have hlm : (cs.map lc).length ≤ 65536 := by rw [List.length_map]; exact hl
    have h8 : ∀ c ∈ cs.map lc, c < 128 := fun c hc => by
      obtain ⟨n, _, rfl⟩ := List.mem_map.mp hc
      exact lc_lt n
    refine ⟨_, rfl, a, cs, rfl, hS, hl, ?_⟩
    cases et : toks (cs.map lc) with
    | none => rw [et] at g; exact fun H' => g H'
    | some ts =>
      rw [et] at g
      dsimp only at g
      obtain ⟨tok, tlen⟩ := toksF_ok _ h8 et
      intro p as H1 hp hA hold hpn r dx hr0 hdx hne
      refine ⟨r, dx, p, rfl, upd_same, fun H2 h2r hF2 => ⟨rfl, ?_⟩⟩
      have k12 : ∀ b o, H1 b = some o → H2 b = some o := fun b o e => by
        have b1 : b ≠ r := ne_of_none e hr0
        refine hF2 b o (by simpa using b1) ?_
        rw [upd_ne b1, upd_ne (ne_of_none e hdx)]; exact e
      have hR2 : RdAt RC H2 r p ts := ⟨dx, as, ts, 0, h2r, k12 p _ hp, hA.mono k12, Nat.zero_le _, by omega, tok, rfl⟩
      refine ⟨by decide, fun nd hnd => ?_⟩
      have hnp : nd ≠ p := fun z => by rw [z, k12 p _ hp] at hnd; cases hnd
      have hR3 : RdAt RC (upd H2 nd (.lst [])) r p ts := hR2.keep (M := []) (Fx.new hnd) (by simp) (by simp) (by simp)
      have k23 : ∀ b o, H2 b = some o → upd H2 nd (.lst []) b = some o := fun b o e => by rw [upd_ne (ne_of_none e hnd)]; exact e
      have hnd3 : upd H2 nd (.lst []) nd = some (.lst []) := upd_same
      generalize upd H2 nd (.lst []) = H3 at hR3 k23 hnd3 ⊢
      intro kd hkd
      have hR4 : RdAt RC (upd H3 kd (.dK [])) r p ts := hR3.keep (M := []) (Fx.new hkd) (by simp) (by simp) (by simp)
      have k34 : ∀ b o, H3 b = some o → upd H3 kd (.dK []) b = some o := fun b o e => by rw [upd_ne (ne_of_none e hkd)]; exact e
      have hkd4 : upd H3 kd (.dK []) kd = some (.dK []) := upd_same
      have hkn : kd ≠ nd := fun z => by rw [z, hnd3] at hkd; cases hkd
      have hkr : kd ≠ r := fun z => by obtain ⟨_, _, q⟩ := hR3.obj; rw [z, q] at hkd; cases hkd
      have hnr : nd ≠ r := fun z => by obtain ⟨_, _, q⟩ := hR3.obj; rw [z, q] at hnd3; cases hnd3
      have hnd4 := k34 nd _ hnd3
      generalize upd H3 kd (.dK []) = H4 at hR4 k34 hkd4 hnd4 ⊢
      have init : Dfs RC KC r p nd kd H H4 [] [] [] [] ts := ⟨hR4, ⟨hnd4, trivial⟩, by simp [nas], hkd4, rfl, .nil, fun b o e => k34 b o (k23 b o (k12 b o (hold b o e))), by simp; omega, by simp; omega⟩
      unfold mSchema at g
      refine ⟨fun m σ' H' => ∃ (gs : List Fm) (ns : List (List Nat)) (ds : List (List Nat × Kd)) (ps : List (List Nat × Addr)) (ts : List Tk) (oo : Option V), σ' = [some (.ref a), some (.ref r), some (.ref nd), some (.ref kd), oo] ∧ Dfs RC KC r p nd kd H H' gs ns ds ps ts ∧ ts.length < m ∧
        giveS WT KC (match mDefsF m ns ds ts with | none => none | some x => mFin x.1 x.2) H Q E, ⟨_, [], [], [], [], ts, none, rfl, init, Nat.lt_succ_self _, g⟩, ?_⟩
      rintro m σ' H5 ⟨gs, ns, ds, ps, ts5, oo, rfl, S, hm, g5⟩
      match m, hm with
      | 0, hm => omega
      | m + 1, hm =>
      rw [mDefsF_succ] at g5
      obtain ⟨dx5, p5, h15⟩ := S.rd.obj
      refine ⟨_, rfl, r, dx5, _, rfl, h15, rf_no _ _ (by decide +kernel) (by decide +kernel), r, p, ts5, rfl, S.rd, _, rfl, ?_⟩
      have hpl : ps.length = ds.length := by have := congrArg List.length S.nms; rwa [List.length_map, List.length_map] at this
      cases ts5 with
      | nil =>
        refine iteF ?_
        dsimp only at g5
        unfold mFin at g5
        have hlen : ((kdd ps).length : Int) = (ds.length : Int) := by rw [kdd_len, hpl]
        refine ⟨_, rfl, kd, _, rfl, S.kdk, _, _, rfl, rfl, _, rfl, ?_⟩
        rw [hlen]
        refine ite2 (fun hc => ?_) (fun hc => ?_)
        · rw [if_pos (.inl (by have := of_decide_eq_true hc; omega))] at g5
          exact iteT ⟨by decide, g5 _⟩
        refine ⟨_, rfl, kd, _, rfl, S.kdk, _, _, rfl, rfl, _, rfl, ?_⟩
        rw [hlen]
        refine ite2 (fun hc2 => ?_) (fun hc2 => ?_)
        · rw [if_pos (.inr (by have := of_decide_eq_true hc2; omega))] at g5
          exact ⟨by decide, g5 _⟩
        rw [if_neg (fun z => z.elim (fun z => hc (decide_eq_true (by omega))) fun z => hc2 (decide_eq_true (by omega)))] at g5
        refine ⟨_, rfl, _, rfl, kd, nd, ps, gs, ns, rfl, S.kdk, S.ndd, by have := S.few; simp at this; omega, fun ha H' hk => ?_, fun ha H' => ?_⟩
        · rw [S.nms] at ha
          rw [if_pos ha] at g5
          refine ⟨_, rfl, g5 kd ps H' (hk kd _ (S.ndd.d_out S.kdk) S.kdk) S.nms fun b o e => hk b o (fun z => ?_) (S.old b o e)⟩
          rw [S.nw b z] at e; cases e
        · rw [S.nms] at ha
          rw [if_neg ha] at g5
          exact g5 _
      | cons t ts6 =>
        refine iteT ⟨_, fun σ'' H'' z => z, ?_⟩
        refine ⟨_, rfl, r, dx5, _, rfl, h15, rf_no _ _ (by decide +kernel) (by decide +kernel), r, p, "word", _, rfl, by decide +kernel, S.rd, ?_⟩
        rw [giveTake_cons]
        cases t with
        | num z => rw [if_neg (srt_not_word (by intro z e; cases e))]; exact fun H' => g5 H'
        | bits a => rw [if_neg (srt_not_word (by intro z e; cases e))]; exact fun H' => g5 H'
        | octs a => rw [if_neg (srt_not_word (by intro z e; cases e))]; exact fun H' => g5 H'
        | sign a => rw [if_neg (srt_not_word (by intro z e; cases e))]; exact fun H' => g5 H'
        | word v =>
          rw [if_pos (srt_word v)]
          intro H6 hR6 hF6 hok
          dsimp only at g5
          refine ⟨v, rfl, ⟨hok.1, hok.2.1⟩, Nat.le_trans hok.2.2 (by decide), fun hk => ?_, fun hk => ?_⟩
          · have hkd6 := hF6 kd _ (by simpa using hkr) S.kdk
            have hro : ∀ b ∈ nas gs, b ∉ [r] := fun b hb z => S.ndd.r_out S.rd (by rw [← List.mem_singleton.mp z]; exact hb)
            have hnd6 := S.ndd.move hF6 (by simpa using hnr) hro
            refine ⟨_, rfl, _, rfl, kd, _, rfl, DGet.k (k := Sum.inr ⟨v.toArray⟩) hkd6, _, rfl, ?_⟩
            rw [kdd_val, S.nms]
            refine ite2 (fun hc => ?_) (fun hc => ?_)
            · rw [if_neg (fun z => z.2 (of_decide_eq_true hc))] at g5
              exact ⟨by decide, g5 _⟩
            have hnew : v ∉ ds.map Prod.fst := fun z => hc (decide_eq_true z)
            rw [if_pos ⟨hk, hnew⟩] at g5
            obtain ⟨dx6, p6, h16⟩ := hR6.obj
            refine ⟨_, rfl, r, dx6, _, rfl, h16, rf_no _ _ (by decide +kernel) (by decide +kernel), r, p, cd "::=", ts6, rfl, by decide +kernel, hR6, ?_⟩
            unfold giveNeed
            cases e1 : skipT (.sign (cd "::=")) ts6 with
            | none => rw [e1] at g5; exact fun H' => g5 H'
            | some ts7 =>
              rw [e1] at g5
              dsimp only at g5
              intro H7 hR7 hF7
              have hkd7 := hF7 kd _ (by simpa using hkr) hkd6
              have hnd7 := hnd6.move hF7 (by simpa using hnr) hro
              have l1 := skipT_len e1
              have f1 := S.few
              have f2 := S.fed
              rw [List.length_cons] at f1 f2 hm
              have hF57 : Fx [r] H5 H7 := hF6.trans hF7
              refine ⟨_, rfl, _, rfl, r, p, nd, ts7, gs, ns, [r, nd, kd], rfl, hR7, hnd7, by omega, by simp, by simp, ?_, hnp, ?_⟩
              · obtain ⟨dx7, p7, h17⟩ := hR7.obj
                intro b hb
                simp only [List.mem_cons, List.not_mem_nil, or_false] at hb
                rcases hb with z | z | z
                · rw [z, h17]; simp
                · rw [z, hnd7.lst]; simp
                · rw [z, hkd7]; simp
              unfold giveR
              cases e2 : mKind ns ts7 with
              | none => rw [e2] at g5; exact fun H' => g5 H'
              | some x =>
                rw [e2] at g5
                dsimp only at g5
                intro ka gs8 H8 hK8 hR8 hnd8 hgs8 hF8
                obtain ⟨c1, c2⟩ := mKind_len (by omega) e2
                have hkd8 := hF8 kd _ (by simp [hkn, hkr]) hkd7
                refine ⟨_, rfl, _, rfl, kd, _, rfl, DPut.k (k := Sum.inr ⟨v.toArray⟩) hkd8 ?_, ?_⟩
                · show (kdd ps).length < sizeLine
                  rw [kdd_len, hpl]; exact Nat.lt_of_le_of_lt (show ds.length ≤ 65536 by omega) (by decide)
                rw [kdd_put ka (by rw [S.nms]; exact hnew)]
                have hFk : Fx [kd] H8 (upd H8 kd (.dK (kdd (ps ++ [(v, ka)])))) := Fx.set List.mem_cons_self
                have hk8 : KsAt KC [r, nd, kd] H8 (ps.map Prod.snd) (ds.map Prod.snd) := (S.kin.move (hF57.mono (by simp)) (fun b hb => .inl hb)).move (hF8.mono (by simp)) (fun b hb => .inl hb)
                have hk9 : KsAt KC [r, nd, kd] H8 ((ps ++ [(v, ka)]).map Prod.snd) ((ds ++ [(v, x.1.1.fin)]).map Prod.snd) := by rw [List.map_append, List.map_append]; exact hk8.snoc hK8
                refine ⟨m, Nat.lt_succ_self m, gs8, x.1.2, ds ++ [(v, x.1.1.fin)], ps ++ [(v, ka)], x.2, _, rfl, ⟨?_, ?_, ?_, upd_same, ?_, hk9.move (hFk.mono (by simp)) (fun b hb => .inl hb), ?_, by omega, ?_⟩, by omega, g5⟩
                · refine hR8.keep hFk (by simpa using hkr.symm) (fun z => ?_) (fun b hb xs e => ?_)
                  · obtain ⟨_, _, _, _, _, q2, _⟩ := hR8.ex
                    rw [List.mem_singleton.mp z, hkd8] at q2; cases q2
                  · rw [List.mem_singleton.mp hb, hkd8] at e; cases e
                · exact hnd8.move hFk (by simpa using hkn.symm) (fun b hb z => hnd8.d_out hkd8 (by rw [← List.mem_singleton.mp z]; exact hb))
                · intro b hb
                  rcases hgs8 b hb with z | z
                  · exact S.nw b z
                  · cases e : H b with
                    | none => rfl
                    | some o =>
                      have hbr : b ≠ r := fun y => by
                        have := hold b o e
                        rw [y, hr0] at this; cases this
                      rw [hF57 b o (by simpa using hbr) (S.old b o e)] at z; cases z
                · rw [List.map_append, List.map_append, S.nms]; rfl
                · intro b o e
                  have hbr : b ≠ r := fun z => by
                    have := hold b o e
                    rw [z, hr0] at this; cases this
                  have hbn : b ≠ nd := fun z => by
                    have := k12 b o (hold b o e)
                    rw [z, hnd] at this; cases this
                  have hbk : b ≠ kd := fun z => by
                    have := k23 b o (k12 b o (hold b o e))
                    rw [z, hkd] at this; cases this
                  refine hFk b o (by simpa using hbk) (hF8 b o (by simp [hbr, hbn]) (hF57 b o (by simpa using hbr) (S.old b o e)))
                · rw [List.length_append, List.length_singleton]; omega
          · rw [if_neg (fun z => by rw [hk] at z; exact absurd z.1 (by decide))] at g5
            exact fun H' => g5 H'
end
end Th
set_option Elab.async false
set_option linter.all false
set_option maxRecDepth 100000
set_option maxHeartbeats 4000000
namespace Th
open PySem L2
structure Txp (mg : Str → Option Value) : Prop where
  bytes : Cst mg "MOST_BYTES" (.int 65536)
  much : Cst mg "TOO_MUCH" (.int (-1))
  nos : Cst mg "NO_SCHEMA" (.int (-2))
def mAll (cs : List Nat) : Option (List (List Nat × Kd)) := match toks (cs.map lc) with
  | none => none
  | some ts => mSchema ts
def mAns (cs : List Nat) : Int := match mAll cs with
  | none => -2
  | some ds => (ds.length : Int)
section
variable {P : Program} {w : World} {K : PySem.W.Frag} {mg : Str → Option Value} {base : Heap} {WT RC KC : Addr}
def spSchema (K : PySem.W.Frag) : Sp := fun vs H Q E => ∃ (a : Addr) (cs : List Nat), vs = [.ref a] ∧ SqL K H a (cs.map fun (n : Nat) => V.int (n : Int)) ∧ cs.length ≤ 65536 ∧ ∀ (p : Addr) (H' : Hp), H' p = some (.lst [.int (mAns cs)]) → Q (.ref p) H'
theorem scSchema : FnScope ["text", "kinds"] ["text"] (defScope sSchema) := ⟨rfl, rfl, rfl, by decide +kernel, rfl, by decide +kernel, by decide +kernel⟩
theorem fn_schema {fa : Addr} {fd : FuncData} (D : Fun K "schema" "schema" sSchema fa fd) (T0 : Txt K mg WT) (T : Txp mg) (GS : Ok P w K mg base (CXW P w) 11 "read_schema" ["text"] (spReadSchema K WT KC)) : FnOk P w K mg base (CXW P w) 12 fa fd ["text"] (spSchema K) := by
  refine D.okX scSchema (fun vs H Q E h => ?_) (fun cdv A outer s H vs Q E hr h => ?_)
  · obtain ⟨a, ns, rfl, _⟩ := h; rfl
  · obtain ⟨a, cs, rfl, hS, hl, g⟩ := h
    refine ⟨_, pss_cons (ps_if (pt_cmpR op_gt (pe_callB call_len_seq (by rfl) T0.len PySem.boot_len (pa_cons (pv 0) pa_nil)) (pe_k T.bytes) (nomark _)) (pss_one (ps_ret (pe_lst (pa_cons (pe_k T.much) pa_nil)))) pss_nil)
      (pss_cons (ps_try (C := WT) (tb := fun E' => tAsg (tCall (spReadSchema K WT KC) [] E' (tCons (tVar 0) tNil)) (gName 1)) fncx PySem.F.excBase_ValueError T0.exc (by rfl) T0.wt (fun E' pn xe hp ho => pss_one (ps_set (i := 1) scSchema.nd rfl (Or.inl rfl) (pe_c GS hr hp (pa_cons (pv 0) pa_nil)))) (fun e => pss_one (ps_ret (pe_lst (pa_cons (pe_k T.nos) pa_nil)))))
      (pss_one (ps_ret (pe_lst (pa_cons (pe_callB call_lenD (by rfl) T0.len PySem.boot_len (pa_cons (pv 1) pa_nil)) pa_nil))))), ?_⟩
    refine ⟨_, rfl, a, _, rfl, .inl hS, _, _, rfl, rfl, _, rfl, ?_⟩
    rw [List.length_map]
    refine ite2 (fun hc => absurd (of_decide_eq_true hc) (by omega)) (fun hc => ?_)
    refine ⟨fun cls od H' => cls = .ref WT ∧ mAll cs = none, fun cls od H' z => z.1, fun σ' H' hσ z => ?_, ?_⟩
    · refine ⟨by decide, fun p hp => g p _ ?_⟩
      rw [upd_same]
      unfold mAns
      rw [z.2]
    · refine ⟨_, rfl, a, cs, rfl, hS, hl, ?_⟩
      show giveS WT KC (mAll cs) _ _ _
      cases e : mAll cs with
      | none => exact fun H' => ⟨rfl, rfl⟩
      | some ds =>
        intro kd ps H' h1 h2 h4
        refine ⟨_, rfl, kd, _, rfl, h1, (by show 1 ≤ sizeLine; decide), fun p hp => g p _ ?_⟩
        rw [upd_same]
        unfold mAns
        rw [e, kdd_len]
        have hpl : ps.length = ds.length := by have := congrArg List.length h2; rwa [List.length_map, List.length_map] at this
        rw [hpl]
end
end Th
set_option Elab.async false
set_option linter.all false
set_option maxRecDepth 100000
set_option maxHeartbeats 4000000
namespace L2
open PySem PySem.Spec PyProof.Rows
section
variable {K : PySem.W.Frag} {h : Heap} {mg : Str → Option Value} {C f : Addr} {oc : Value} {od an : Option Addr} {osl : Array (Option Value)} {kV doc pm cdv ct : Value} {x m qual : Str} {st : Stmt} {ps : List Str}
theorem df_mk (X : K.In h) (G : h.Ns mainGlobals mg) (a : PySem.W.nsIn K mainGlobals x = some (some (.ref f))) (l : K.lookup f = some ⟨oc, od, .func (PySem.W.fnOf x x (defArgs st) (defBody st) (defScope st) .none kV doc pm an cdv ct), osl⟩)
    (c : PySem.W.codeIn K cdv x = true) (k : PySem.W.keepIn K (.ref f) = true)
    (b : ∀ (kV doc pm : Value) (an : Option Addr) (cdv ct : Value) (us : List Value), us.length = ps.length → bindArgs (PySem.W.fnOf x x (defArgs st) (defBody st) (defScope st) .none kV doc pm an cdv ct) ⟨us, []⟩ = pure (ps.zip us)) : Df K mg x st ps :=
  ⟨f, _, fun_mk l c k, PySem.W.mg_of X G a, (fun_mk l c k).binds b⟩
theorem dfm_mk (a : PySem.W.findIn K (.ref C) m = some (some (.ref f))) (i : PySem.W.isFn K (.ref f) = true) (l : K.lookup f = some ⟨oc, od, .func (PySem.W.fnOf m qual (defArgs st) (defBody st) (defScope st) .none kV doc pm an cdv ct), osl⟩)
    (c : PySem.W.codeIn K cdv qual = true) (k : PySem.W.keepIn K (.ref f) = true)
    (b : ∀ (kV doc pm : Value) (an : Option Addr) (cdv ct : Value) (us : List Value), us.length = ps.length → bindArgs (PySem.W.fnOf m qual (defArgs st) (defBody st) (defScope st) .none kV doc pm an cdv ct) ⟨us, []⟩ = pure (ps.zip us)) : DfM K C m qual st ps :=
  ⟨f, _, fun_mk l c k, ⟨a, i, k⟩, (fun_mk l c k).binds b⟩
theorem dfi_mk (X : K.In h) (G : h.Ns mainGlobals mg) (ax : PySem.W.nsIn K mainGlobals x = some (some (.ref C))) (mk : PySem.W.makesIn K C = true) (kc : PySem.W.keepIn K (.ref C) = true)
    (a : PySem.W.findIn K (.ref C) "__init__" = some (some (.ref f))) (i : PySem.W.isFn K (.ref f) = true) (l : K.lookup f = some ⟨oc, od, .func (PySem.W.fnOf "__init__" qual (defArgs st) (defBody st) (defScope st) .none kV doc pm an cdv ct), osl⟩)
    (c : PySem.W.codeIn K cdv qual = true) (k : PySem.W.keepIn K (.ref f) = true)
    (b : ∀ (kV doc pm : Value) (an : Option Addr) (cdv ct : Value) (us : List Value), us.length = ps.length → bindArgs (PySem.W.fnOf "__init__" qual (defArgs st) (defBody st) (defScope st) .none kV doc pm an cdv ct) ⟨us, []⟩ = pure (ps.zip us)) : DfI K mg x C qual st ps :=
  ⟨f, _, fun_mk l c k, ⟨mk, a, i, kc⟩, (fun_mk l c k).binds b, PySem.W.mg_of X G ax⟩
theorem cst_mk {u : Value} {v : V} (X : K.In h) (G : h.Ns mainGlobals mg) (a : PySem.W.nsIn K mainGlobals x = some (some u)) (r : RelV v u) : Cst mg x v := ⟨u, PySem.W.mg_of X G a, r⟩
theorem tup_mk {cs : Value} {d : Option Addr} {its : Array Value} {n : Nat} {sl : Array (Option Value)} {xs : List V} (X : K.In h) (G : h.Ns mainGlobals mg) (a : PySem.W.nsIn K mainGlobals x = some (some (.ref f))) (l : K.lookup f = some ⟨cs, d, .seq its n, sl⟩)
    (c : cs = .type "tuple") (z : its.size ≤ sizeLine) (v : Vals xs its.toList) : ∃ a, mg x = some (.ref a) ∧ ∀ H, SqT K H a xs := ⟨f, PySem.W.mg_of X G a, fun H => .inr ⟨_, its, n, l, c, rfl, z, v⟩⟩
end
end L2
namespace Th
open PySem L2
structure Prog (K : PySem.W.Frag) (mg : Str → Option Value) (WT RC KC : Addr) : Prop where
  t0 : Txt K mg WT
  t1 : Txs K mg
  t2 : Txp mg
  tr : RdT K RC
  tk : KdT K KC
  letter_of : Df K mg "letter_of" sLetterOf ["code"]
  remark_end : Df K mg "remark_end" sRemarkEnd ["text", "start"]
  skip_blanks : Df K mg "skip_blanks" sSkipBlanks ["text", "start"]
  run_end : Df K mg "run_end" sRunEnd ["text", "start", "letters"]
  word_token : Df K mg "word_token" sWordToken ["piece"]
  number_token : Df K mg "number_token" sNumberToken ["piece"]
  only_of : Df K mg "only_of" sOnlyOf ["digits", "allowed"]
  string_end : Df K mg "string_end" sStringEnd ["text", "start"]
  string_token : Df K mg "string_token" sStringToken ["piece"]
  sign_end : Df K mg "sign_end" sSignEnd ["text", "start"]
  begins_number : Df K mg "begins_number" sBeginsNumber ["letter"]
  token_end : Df K mg "token_end" sTokenEnd ["text", "start"]
  token_of : Df K mg "token_of" sTokenOf ["piece"]
  text_of : Df K mg "text_of" sTextOf ["codes"]
  tokens_of : Df K mg "tokens_of" sTokensOf ["codes"]
  r_init : DfI K mg "Reader" RC "Reader.__init__" sReaderInit ["self", "tokens"]
  r_ended : DfM K RC "ended" "Reader.ended" sReaderEnded ["self"]
  r_skips : DfM K RC "skips" "Reader.skips" sReaderSkips ["self", "token"]
  r_skips_sign : DfM K RC "skips_sign" "Reader.skips_sign" sReaderSkipsSign ["self", "sign"]
  r_skips_word : DfM K RC "skips_word" "Reader.skips_word" sReaderSkipsWord ["self", "word"]
  r_needs_sign : DfM K RC "needs_sign" "Reader.needs_sign" sReaderNeedsSign ["self", "sign"]
  r_needs_word : DfM K RC "needs_word" "Reader.needs_word" sReaderNeedsWord ["self", "word"]
  r_takes : DfM K RC "takes" "Reader.takes" sReaderTakes ["self", "sort"]
  r_takes_number : DfM K RC "takes_number" "Reader.takes_number" sReaderTakesNumber ["self", "least", "most"]
  k_init : DfI K mg "Kind" KC "Kind.__init__" sKindInit ["self", "form"]
  checked_kind_name : Df K mg "checked_kind_name" sCheckedKindName ["word"]
  read_high : Df K mg "read_high" sReadHigh ["reader", "low", "least", "most"]
  read_integer : Df K mg "read_integer" sReadInteger ["reader"]
  read_size : Df K mg "read_size" sReadSize ["reader", "kind"]
  read_string : Df K mg "read_string" sReadString ["reader", "form"]
  add_name : Df K mg "add_name" sAddName ["reader", "kind"]
  next_name : Df K mg "next_name" sNextName ["reader", "kind"]
  read_enumerated : Df K mg "read_enumerated" sReadEnumerated ["reader"]
  begin_choice : Df K mg "begin_choice" sBeginChoice ["reader"]
  begin_sequence_of : Df K mg "begin_sequence_of" sBeginSequenceOf ["reader"]
  begin_sequence : Df K mg "begin_sequence" sBeginSequence ["reader"]
  named_kind : Df K mg "named_kind" sNamedKind ["word", "named"]
  begin_kind : Df K mg "begin_kind" sBeginKind ["reader", "named"]
  take_inner : Df K mg "take_inner" sTakeInner ["reader", "outer", "inner"]
  read_kind : Df K mg "read_kind" sReadKind ["reader", "named"]
  join_named : Df K mg "join_named" sJoinNamed ["kinds", "named"]
  read_schema : Df K mg "read_schema" sReadSchema ["text"]
theorem Prog.ok {K : PySem.W.Frag} {mg : Str → Option Value} {WT RC KC fa : Addr} {fd : FuncData} (D : Prog K mg WT RC KC) (F : Fun K "schema" "schema" sSchema fa fd) (P : Program) (w : World) (base : Heap) : FnOk P w K mg base (CXW P w) 12 fa fd ["text"] (spSchema K) := by
  have g1 := ok_letter_of (P := P) (w := w) (base := base) D.letter_of D.t0
  have g2 := ok_remark_end (P := P) (w := w) (base := base) D.remark_end D.t0
  have g3 := ok_skip D.skip_blanks D.t0 g2
  have g4 := ok_run_end (P := P) (w := w) (base := base) D.run_end D.t0
  have g5 := ok_word_token (P := P) (w := w) (base := base) D.word_token D.t0
  have g6 := ok_number_token (P := P) (w := w) (base := base) D.number_token D.t0
  have g7 := ok_only_of (P := P) (w := w) (base := base) D.only_of D.t0
  have g8 := ok_string_end (P := P) (w := w) (base := base) D.string_end D.t0
  have g9 := ok_string_token D.string_token D.t0 g7
  have g10 := ok_sign_end (P := P) (w := w) (base := base) D.sign_end D.t0
  have g11 := ok_begins_number (P := P) (w := w) (base := base) D.begins_number D.t0
  have g12 := ok_token_end D.token_end D.t0 g4 g11 g8 g10
  have g13 := ok_token_of D.token_of D.t0 g11 g5 g6 g9
  have g15 := ok_text_of D.text_of g1
  have g14 := ok_tokens_of D.tokens_of D.t0 g15 g3 g12 g13
  have r1 := ok_reader_init (P := P) (w := w) (base := base) D.r_init D.tr
  have r2 := ok_reader_ended (P := P) (w := w) (base := base) D.r_ended D.tr D.t0.len
  have r3 := ok_skips D.r_skips D.tr r2
  have r4 := ok_skips_sign D.r_skips_sign D.tr D.t0.sign r3
  have r5 := ok_skips_word D.r_skips_word D.tr D.t0.word r3
  have r6 := ok_needs_sign D.r_needs_sign D.tr D.t0 r4
  have r7 := ok_needs_word D.r_needs_word D.tr D.t0 r5
  have r8 := ok_takes D.r_takes D.tr D.t0 r2
  have k0 := ok_kind_init (P := P) (w := w) (base := base) D.k_init D.tk
  have k1 := ok_checked_name (P := P) (w := w) (base := base) D.checked_kind_name D.t0 D.t1
  have k2 := ok_takes_number D.r_takes_number D.t0 D.tr r8
  have k3 := ok_read_high D.read_high D.t0 D.tr r4 r5 r6 k2
  have k4 := ok_read_integer D.read_integer D.t1 D.tr D.tk k0 r4 r5 r6 k2 k3
  have k5 := ok_read_size D.read_size D.t1 D.tr D.tk r4 r7 r6 k2 k3
  have k6 := ok_read_string D.read_string D.tr k0 r7 k5
  have k7 := ok_add_name D.add_name D.t0 D.tr D.tk r8
  have k8 := ok_next_name D.next_name D.tr D.tk r4 r6 k7
  have k9 := ok_read_enumerated D.read_enumerated D.tr k0 r6 k7 k8
  have k10 := ok_begin_choice D.begin_choice D.tr D.tk k0 r6 k7
  have k11 := ok_begin_sequence_of D.begin_sequence_of D.t1 D.tr D.tk k0 r7 k5
  have k12 := ok_begin_sequence D.begin_sequence D.tr D.tk k0 r4 r6 k7 k11
  have k13 := ok_named_kind D.named_kind D.t1 D.tk k0 k1
  have k14 := ok_begin_kind D.begin_kind D.t0 D.tr r8 k0 k4 k9 k6 k12 k10 k13
  have k15 := ok_take_inner D.take_inner D.t1 D.tr D.tk r5 k8
  have k16 := ok_read_kind D.read_kind D.t0 D.tk k14 k15
  have k18 := ok_join (P := P) (w := w) (base := base) D.join_named D.t0 D.tk
  have k17 := ok_read_schema D.read_schema D.t0 D.t1 D.tr r1 g14 r2 r8 k1 r6 k16 k18
  exact fn_schema F D.t0 D.t2 k17
end Th
namespace Th
open PySem PySem.Spec PyProof.Rows L2
theorem fin_mk {P : Program} {w : World} {K : PySem.W.Frag} {h : Heap} {mg : Str → Option Value} {fa f WT RC KC : Addr} {oc : Value} {od an : Option Addr} {osl : Array (Option Value)} {kV doc pm cdv ct : Value} (X : K.In h) (G : h.Ns mainGlobals mg) (hmg : mg "schema" = some (.ref fa))
    (aW : PySem.W.nsIn K mainGlobals "WrongText" = some (some (.ref WT))) (aR : PySem.W.nsIn K mainGlobals "Reader" = some (some (.ref RC))) (aK : PySem.W.nsIn K mainGlobals "Kind" = some (some (.ref KC)))
    (a : PySem.W.nsIn K mainGlobals "schema" = some (some (.ref f))) (l : K.lookup f = some ⟨oc, od, .func (PySem.W.fnOf "schema" "schema" (defArgs sSchema) (defBody sSchema) (defScope sSchema) .none kV doc pm an cdv ct), osl⟩)
    (c : PySem.W.codeIn K cdv "schema" = true) (k : PySem.W.keepIn K (.ref f) = true) (D : mg "WrongText" = some (.ref WT) → Prog K mg WT RC KC) :
    ∃ fd : FuncData, (∀ (s : Shared) (u : Value), BindsTo s fd ⟨[u], []⟩ [("text", u)]) ∧ ∀ base : Heap, K.In base → base.Ns mainGlobals mg → FnOk P w K mg base (CXW P w) 12 fa fd ["text"] (spSchema K) := by
  have e := hmg.symm.trans (PySem.W.mg_of X G a)
  cases e
  exact ⟨_, fun s v => .of_eq rfl, fun base _ _ => (D (PySem.W.mg_of X G aW)).ok (fun_mk l c k) P w base⟩
theorem walk {r : PySem.W.OpenSpec} {q : Program} {loose : List Str} {XP : (Str → Option Value) → Heap → Prop} {YP : World → Heap → Prop} {d : DefRec} {K : Params → PySem.W.Frag}
    (hpre : ∀ args, r.pre args = true → ∃ ns : List Int, args = [.list (ns.map .int)] ∧ ns.length ≤ 65536 ∧ (∀ x ∈ ns, 0 ≤ x ∧ x ≤ 255) ∧ r.post args (.list (([mAns (ns.map Int.toNat)] : List Int).map .int)) = true)
    (hdf : d.params.defaults = []) (hY : ∀ (w : World) (h : Heap), YP w h → (K w.params).In h)
    (F : ∀ (w : World) (mg : Str → Option Value) (fa : Addr) (h : Heap), (K w.params).In h → h.Ns mainGlobals mg → mg d.name = some (.ref fa) →
      ∃ fd : FuncData, (∀ (s : Shared) (u : Value), BindsTo s fd ⟨[u], []⟩ [("text", u)]) ∧ ∀ base : Heap, (K w.params).In base → base.Ns mainGlobals mg → FnOk r.prog w (K w.params) mg base (CXW r.prog w) 12 fa fd ["text"] (spSchema (K w.params))) :
    PySem.W.WalkOS q loose XP YP r d [] (fun f vs => PySem.call f vs) := by
  refine L2.spec_walk1 (n := 65536) (k := 12) (x := "text") (CX := fun w => CXW r.prog w) (sp := fun w => spSchema (K w.params)) (f := fun ns => [mAns (ns.map Int.toNat)]) (ok := fun ns => ∀ x ∈ ns, 0 ≤ x ∧ x ≤ 255) hpre (by decide) hdf ⟨rfl, by decide, by decide⟩ hY F (fun w H a ns hl hok hO hS => ?_) ?_
  · refine ⟨a, ns.map Int.toNat, rfl, ?_, by rw [List.length_map]; exact hl, fun p H' h => ⟨p, rfl, h⟩⟩
    have e : ((ns.map Int.toNat).map fun (n : Nat) => V.int (n : Int)) = ns.map V.int := by
      rw [List.map_map]
      refine List.map_congr_left fun x hx => ?_
      show V.int ((x.toNat : Nat) : Int) = V.int x
      rw [Int.toNat_of_nonneg (hok x hx).1]
    rw [e]; exact hS
  · intro w H s e s' z
    obtain ⟨ea, cls, a0, B, H', rfl, os, bare, un, hok, fl, cov1, cov2, hE⟩ := z
    exact hE
end Th
namespace Th
open PySem PySem.W
theorem pre_schema (hm : ∀ ns : List Int, ns.length ≤ 65536 → (∀ x ∈ ns, 0 ≤ x ∧ x ≤ 255) → PyQl51.schema ns = [mAns (ns.map Int.toNat)]) (args : List WData) (hp : PySem.Challenge.rw_thinbits_s01_schema.pre args = true) :
    ∃ ns : List Int, args = [.list (ns.map .int)] ∧ ns.length ≤ 65536 ∧ (∀ x ∈ ns, 0 ≤ x ∧ x ≤ 255) ∧ PySem.Challenge.rw_thinbits_s01_schema.post args (.list (([mAns (ns.map Int.toNat)] : List Int).map .int)) = true := by
  have said : PySem.Challenge.rw_thinbits_s01_schema.wellSaid = true := by decide +kernel
  obtain ⟨a, hw, _, rfl⟩ := (OpenSpec.pre_iff said args).mp hp
  obtain ⟨ns, u⟩ := a
  change List Int at ns
  have h1 : ((Codec.inNat 0 65536 ns.length && ns.all (Codec.inInt 0 255)) && true) = true := hw
  rw [Bool.and_true, Bool.and_eq_true] at h1
  obtain ⟨h2, h3⟩ := h1
  unfold Codec.inNat at h2
  simp only [Bool.and_eq_true, decide_eq_true_eq] at h2
  have h4 : ∀ x ∈ ns, 0 ≤ x ∧ x ≤ 255 := fun x hx => by
    have := List.all_eq_true.mp h3 x hx
    unfold Codec.inInt at this
    simpa only [Bool.and_eq_true, decide_eq_true_eq] using this
  refine ⟨ns, rfl, h2.2, h4, ?_⟩
  refine (OpenSpec.post_iff said hw _ []).mpr ?_
  show WData.list _ = WData.list ((PyQl51.schema ns).map WData.int)
  rw [hm ns h2.2 h4]
end Th
set_option Elab.async false
set_option linter.all false
set_option maxRecDepth 100000
set_option maxHeartbeats 4000000
namespace Sp
open Th
open L2 (lowC upC)
abbrev T (ts : List Tk) : List Ql51.Tok := ts.map tkOf
def Oks (ts : List Tk) : Prop := ∀ t ∈ ts, t.ok
theorem Oks.tail {t : Tk} {ts : List Tk} (h : Oks (t :: ts)) : Oks ts := fun x hx => h x (List.mem_cons_of_mem _ hx)
theorem Oks.head {t : Tk} {ts : List Tk} (h : Oks (t :: ts)) : t.ok := h t List.mem_cons_self
theorem un_back {l : List Nat} (h : ∀ c ∈ l, c < 128) : (un l).map UInt8.toNat = l := by
  unfold un
  rw [List.map_map]
  conv => rhs; rw [← List.map_id l]
  refine List.map_congr_left fun c hc => ?_
  have := h c hc
  show (UInt8.ofNat c).toNat = c
  rw [UInt8.toNat_ofNat']
  omega
theorem un_inj {l m : List Nat} (h : ∀ c ∈ l, c < 128) (h' : ∀ c ∈ m, c < 128) (e : un l = un m) : l = m := by rw [← un_back h, ← un_back h', e]
theorem tk_sign {t : Tk} {b : List UInt8} (h : t.ok) (e : tkOf t = .sign b) : t = .sign (b.map UInt8.toNat) := by
  cases t with
  | sign l => injection e with e; rw [← e, un_back h]
  | word l => cases e
  | num z => cases e
  | bits l => cases e
  | octs l => cases e
theorem tk_word {t : Tk} {b : List UInt8} (h : t.ok) (e : tkOf t = .word b) : t = .word (b.map UInt8.toNat) := by
  cases t with
  | word l => injection e with e; rw [← e, un_back h.2.1]
  | sign l => cases e
  | num z => cases e
  | bits l => cases e
  | octs l => cases e
theorem tk_num {t : Tk} {z : Int} (e : tkOf t = .num z) : t = .num z := by
  cases t with
  | num z => injection e with e; rw [e]
  | sign l => cases e
  | word z => cases e
  | bits l => cases e
  | octs l => cases e
theorem T_sign {ts : List Tk} {b : List UInt8} {s : List Ql51.Tok} (h : Oks ts) (e : T ts = .sign b :: s) : ∃ r, ts = .sign (b.map UInt8.toNat) :: r ∧ T r = s := by
  cases ts with
  | nil => cases e
  | cons t r => injection e with e1 e2; exact ⟨r, by rw [tk_sign h.head e1], e2⟩
theorem T_word {ts : List Tk} {b : List UInt8} {s : List Ql51.Tok} (h : Oks ts) (e : T ts = .word b :: s) : ∃ r, ts = .word (b.map UInt8.toNat) :: r ∧ T r = s := by
  cases ts with
  | nil => cases e
  | cons t r => injection e with e1 e2; exact ⟨r, by rw [tk_word h.head e1], e2⟩
theorem T_num {ts : List Tk} {z : Int} {s : List Ql51.Tok} (e : T ts = .num z :: s) : ∃ r, ts = .num z :: r ∧ T r = s := by
  cases ts with
  | nil => cases e
  | cons t r => injection e with e1 e2; exact ⟨r, by rw [tk_num e1], e2⟩
theorem skip_some {t : Tk} {ts r : List Tk} (h : skipT t ts = some r) : ts = t :: r := by
  cases ts with
  | nil => cases h
  | cons u q =>
    rw [skipT_cons] at h
    split at h
    · rename_i e; cases h; rw [e]
    · cases h
theorem skip_same (t : Tk) (r : List Tk) : skipT t (t :: r) = some r := by rw [skipT_cons, if_pos rfl]
theorem skip_ne {t u : Tk} {r : List Tk} (h : u ≠ t) : skipT t (u :: r) = none := by rw [skipT_cons, if_neg h]
theorem name_eq {w : List Nat} (h : (Tk.word w).ok) : Ql51.isName (un w) = headLow w := by
  cases w with
  | nil => rfl
  | cons c r =>
    have hc : c < 128 := h.2.1 c List.mem_cons_self
    have e : (UInt8.ofNat c).toNat = c := by rw [UInt8.toNat_ofNat']; omega
    show Ql51.small (UInt8.ofNat c) = lowC c
    unfold Ql51.small lowC
    rw [e, Bool.decide_and]
theorem type_eq {w : List Nat} (h : (Tk.word w).ok) : Ql51.isType (un w) = headUp w := by
  cases w with
  | nil => rfl
  | cons c r =>
    have hc : c < 128 := h.2.1 c List.mem_cons_self
    have e : (UInt8.ofNat c).toNat = c := by rw [UInt8.toNat_ofNat']; omega
    show Ql51.big (UInt8.ofNat c) = upC c
    unfold Ql51.big upC
    rw [e, Bool.decide_and]
theorem txt_un (s : String) : Ql51.txt s = un (cd s) := by unfold Ql51.txt un cd; rw [List.map_map]; rfl
theorem txt_eq {w : List Nat} (h : (Tk.word w).ok) {s : String} (hs : ∀ c ∈ cd s, c < 128) : un w = Ql51.txt s ↔ w = cd s := by
  rw [txt_un]
  exact ⟨fun e => un_inj h.2.1 hs e, fun e => by rw [e]⟩
theorem contains_eq {w : List Nat} (h : (Tk.word w).ok) : ∀ {ws : List String}, (∀ s ∈ ws, ∀ c ∈ cd s, c < 128) → (ws.map Ql51.txt).contains (un w) = decide (w ∈ ws.map fun s => cd s)
  | [], _ => rfl
  | s :: r, hs => by
    have e1 := txt_eq h (hs s List.mem_cons_self)
    have ih := contains_eq h (ws := r) fun x hx => hs x (List.mem_cons_of_mem _ hx)
    rw [List.map_cons, List.contains_cons, ih, List.map_cons]
    by_cases q : w = cd s
    · have : (un w == Ql51.txt s) = true := by rw [beq_iff_eq]; exact e1.mpr q
      rw [this, Bool.true_or, decide_eq_true (by rw [q]; exact List.mem_cons_self)]
    · have : (un w == Ql51.txt s) = false := beq_eq_false_iff_ne.mpr fun z => q (e1.mp z)
      rw [this, Bool.false_or]
      have : w ∈ cd s :: r.map (fun s => cd s) ↔ w ∈ r.map fun s => cd s := by rw [List.mem_cons]; exact ⟨fun z => z.resolve_left q, .inr⟩
      simp only [this]
theorem mBegin_lt {ns : List (List Nat)} {ts : List Tk} {x : (Kr × List (List Nat)) × List Tk} (h : mBegin ns ts = some x) : x.2.length + 1 ≤ ts.length := by
  unfold mBegin at h
  split at h
  · rename_i w r
    have key : ∀ {o : Option (Kr × List Tk)}, (∀ y, o = some y → y.2.length ≤ r.length) → withN ns o = some x → x.2.length ≤ r.length := by
      intro o ho e
      cases o with
      | none => cases e
      | some y => have := ho y rfl; cases e; exact this
    have go : x.2.length ≤ r.length := by
      unfold mWord at h
      split at h
      · cases h; exact Nat.le_refl _
      split at h
      · cases h; exact Nat.le_refl _
      split at h
      · exact key (fun y e => (mInteger_len e).1) h
      split at h
      · exact key (fun y e => (mEnum_len e).1) h
      split at h
      · exact key (fun y e => (mString_len e).1) h
      split at h
      · exact key (fun y e => (mString_len e).1) h
      split at h
      · refine key (fun y e => ?_) h
        unfold mSeq at e
        split at e
        · exact (mSeqOf_len e).1
        · rename_i r1 e1
          have l1 := skipT_len e1
          have := (mSeq2_len e).1
          omega
      split at h
      · exact key (fun y e => (mChoice_len e).1) h
      split at h
      · cases h; exact Nat.le_refl _
      · cases h
    rw [List.length_cons]; omega
  · cases h
theorem mRunF_enough : ∀ (n : Nat) (ns : List (List Nat)) (stk : List Kr) (k : Kr) (ts : List Tk), 2 * ts.length + stk.length < n → mRunF n ns stk k ts = mRunF (2 * ts.length + stk.length + 1) ns stk k ts := by
  intro n
  induction n using Nat.strongRecOn with
  | ind n ih =>
    intro ns stk k ts h
    match n with
    | 0 => omega
    | n + 1 =>
      rw [mRunF_succ, mRunF_succ]
      split
      · cases e : mBegin ns ts with
        | none => rfl
        | some x =>
          have hl := mBegin_lt e
          dsimp only
          rw [ih n (by omega) _ _ _ _ (by rw [List.length_cons]; omega)]
          rw [ih (2 * ts.length + stk.length) (by omega) _ _ _ _ (by rw [List.length_cons]; omega)]
      · cases stk with
        | nil => rfl
        | cons o st =>
          dsimp only
          cases e : mTake o k.fin ts with
          | none => rfl
          | some y =>
            have hl := mTake_le e
            dsimp only
            rw [List.length_cons] at h ⊢
            rw [ih n (by omega) _ _ _ _ (by omega)]
            rw [ih (2 * ts.length + (st.length + 1)) (by omega) _ _ _ _ (by omega)]
def mRun (ns : List (List Nat)) (stk : List Kr) (k : Kr) (ts : List Tk) : Option ((Kr × List (List Nat)) × List Tk) := mRunF (2 * ts.length + stk.length + 1) ns stk k ts
def mGo (ns : List (List Nat)) (stk : List Kr) (ts : List Tk) : Option ((Kr × List (List Nat)) × List Tk) := match mBegin ns ts with
  | none => none
  | some x => mRun x.1.2 stk x.1.1 x.2
theorem mRun_wait {ns : List (List Nat)} {stk : List Kr} {k : Kr} {ts : List Tk} (h : k.waits = true) : mRun ns stk k ts = mGo ns (k :: stk) ts := by
  unfold mRun mGo
  rw [mRunF_succ, if_pos h]
  cases e : mBegin ns ts with
  | none => rfl
  | some x =>
    have hl := mBegin_lt e
    dsimp only
    rw [mRunF_enough _ _ _ _ _ (by rw [List.length_cons]; omega)]
    rfl
theorem mRun_end {ns : List (List Nat)} {k : Kr} {ts : List Tk} (h : k.waits = false) : mRun ns [] k ts = some ((k, ns), ts) := by
  unfold mRun
  rw [mRunF_succ, if_neg (by rw [h]; decide)]
theorem mRun_take {ns : List (List Nat)} {o : Kr} {st : List Kr} {k : Kr} {ts : List Tk} (h : k.waits = false) : mRun ns (o :: st) k ts = match mTake o k.fin ts with
    | none => none
    | some y => mRun ns st y.1.2 y.2 := by
  unfold mRun
  rw [mRunF_succ, if_neg (by rw [h]; decide)]
  dsimp only
  cases e : mTake o k.fin ts with
  | none => rfl
  | some y =>
    have hl := mTake_le e
    dsimp only
    rw [mRunF_enough _ _ _ _ _ (by rw [List.length_cons]; omega)]
theorem mKind_eq (ns : List (List Nat)) (ts : List Tk) : mKind ns ts = mGo ns [] ts := by
  unfold mKind mGo mRun
  rfl
end Sp
set_option Elab.async false
set_option linter.all false
set_option maxRecDepth 100000
set_option maxHeartbeats 4000000
namespace Sp
open Th
open L2 (lowC upC)
inductive Shape (r : List Tk) : Prop
  | one (z : Int) (q : List Tk) (e : r = .num z :: .sign [41] :: q)
  | two (a b : Tk) (q : List Tk) (e : r = a :: .sign [46, 46] :: b :: .sign [41] :: q)
theorem bounds_no {r : List Tk} (h : Oks r) (hn : ¬ Shape r) : Ql51.bounds (.sign [40] :: T r) = none := by
  unfold Ql51.bounds
  split
  · rename_i a q e
    exfalso
    injection e with _ e
    obtain ⟨r1, e1, e2⟩ := T_num (ts := r) e
    rw [e1] at h
    obtain ⟨r2, e3, e4⟩ := T_sign (Oks.tail h) e2
    exact hn (.one a r2 (by rw [e1, e3]; rfl))
  · rename_i a b q hx e
    exfalso
    injection e with _ e
    cases r with
    | nil => cases e
    | cons t r1 =>
      injection e with e0 e
      obtain ⟨r2, e3, e4⟩ := T_sign h.tail e
      cases r2 with
      | nil => cases e4
      | cons u r3 =>
        injection e4 with e5 e6
        rw [e3] at h
        obtain ⟨r4, e7, e8⟩ := T_sign h.tail.tail.tail e6
        exact hn (.two t u r4 (by rw [e3, e7]; rfl))
  · rfl
  · rename_i hx hy hz
    exact absurd rfl (hz _)
theorem bounds_one (z : Int) (q : List Tk) : Ql51.bounds (.sign [40] :: T (.num z :: .sign [41] :: q)) = if -Ql51.BOUND ≤ z ∧ z < Ql51.BOUND then some ((some z, some z), T q) else none := rfl
def lowT (a : Ql51.Tok) : Option (Option Int) := match a with
  | .num z => if -Ql51.BOUND ≤ z ∧ z < Ql51.BOUND then some (some z) else none
  | t => if t = Ql51.W "MIN" then some none else none
def highT (b : Ql51.Tok) : Option (Option Int) := match b with
  | .num z => if -Ql51.BOUND ≤ z ∧ z < Ql51.BOUND then some (some z) else none
  | t => if t = Ql51.W "MAX" then some none else none
def pairT (x y : Option (Option Int)) (q : List Ql51.Tok) : Option ((Option Int × Option Int) × List Ql51.Tok) := match x, y with
  | some x, some y => (match x, y with
    | some u, some v => if u ≤ v then some ((x, y), q) else none
    | _, _ => some ((x, y), q))
  | _, _ => none
theorem bounds_two (a b : Tk) (q : List Tk) : Ql51.bounds (.sign [40] :: T (a :: .sign [46, 46] :: b :: .sign [41] :: q)) = pairT (lowT (tkOf a)) (highT (tkOf b)) (T q) := by
  cases a <;> rfl
theorem W_max : Ql51.W "MAX" = .word (un (cd "MAX")) := by unfold Ql51.W; rw [txt_un]
theorem W_min : Ql51.W "MIN" = .word (un (cd "MIN")) := by unfold Ql51.W; rw [txt_un]
theorem highT_word {w : List Nat} (h : (Tk.word w).ok) : highT (tkOf (.word w)) = if w = cd "MAX" then some none else none := by
  show (if (Ql51.Tok.word (un w)) = Ql51.W "MAX" then some none else none) = _
  rw [W_max]
  by_cases e : w = cd "MAX"
  · rw [if_pos e, if_pos (by rw [e])]
  · rw [if_neg e, if_neg (fun z => e (un_inj h.2.1 (by decide) (by injection z)))]
theorem lowT_word {w : List Nat} (h : (Tk.word w).ok) : lowT (tkOf (.word w)) = if w = cd "MIN" then some none else none := by
  show (if (Ql51.Tok.word (un w)) = Ql51.W "MIN" then some none else none) = _
  rw [W_min]
  by_cases e : w = cd "MIN"
  · rw [if_pos e, if_pos (by rw [e])]
  · rw [if_neg e, if_neg (fun z => e (un_inj h.2.1 (by decide) (by injection z)))]
theorem highT_else {t : Tk} (h1 : ∀ z, t ≠ .num z) (h2 : ∀ w, t ≠ .word w) : highT (tkOf t) = none := by
  cases t with
  | num z => exact absurd rfl (h1 z)
  | word w => exact absurd rfl (h2 w)
  | bits l => exact if_neg (t := some none) (show ¬ tkOf (.bits l) = Ql51.W "MAX" from fun z => by cases z)
  | octs l => exact if_neg (t := some none) (show ¬ tkOf (.octs l) = Ql51.W "MAX" from fun z => by cases z)
  | sign l => exact if_neg (t := some none) (show ¬ tkOf (.sign l) = Ql51.W "MAX" from fun z => by cases z)
theorem lowT_else {t : Tk} (h1 : ∀ z, t ≠ .num z) (h2 : ∀ w, t ≠ .word w) : lowT (tkOf t) = none := by
  cases t with
  | num z => exact absurd rfl (h1 z)
  | word w => exact absurd rfl (h2 w)
  | bits l => exact if_neg (t := some none) (show ¬ tkOf (.bits l) = Ql51.W "MIN" from fun z => by cases z)
  | octs l => exact if_neg (t := some none) (show ¬ tkOf (.octs l) = Ql51.W "MIN" from fun z => by cases z)
  | sign l => exact if_neg (t := some none) (show ¬ tkOf (.sign l) = Ql51.W "MIN" from fun z => by cases z)
def mSizeIn (r : List Tk) : Option ((Int × Option Int) × List Tk) := match mNumber 0 65535 r with
  | none => none
  | some (z, r4) => match mHigh (some z) 0 65535 r4 with
    | none => none
    | some (h, r5) => match skipT (.sign (cd ")")) r5 with
      | none => none
      | some r6 => some ((z, h), r6)
theorem mSizeIn_no {r : List Tk} (hn : ¬ Shape r) : mSizeIn r = none := by
  unfold mSizeIn
  cases e1 : mNumber 0 65535 r with
  | none => rfl
  | some x =>
    obtain ⟨z, r4⟩ := x
    have hr : r = .num z :: r4 := by
      unfold mNumber at e1
      split at e1
      · split at e1
        · cases e1
        · cases e1; rfl
      · cases e1
    dsimp only
    cases e2 : mHigh (some z) 0 65535 r4 with
    | none => rfl
    | some y =>
      obtain ⟨h, r5⟩ := y
      dsimp only
      cases e3 : skipT (.sign (cd ")")) r5 with
      | none => rfl
      | some r6 =>
        exfalso
        have h5 := skip_some e3
        unfold mHigh at e2
        split at e2
        · cases e2
          exact hn (.one z r6 (by rw [hr, h5]; rfl))
        · rename_i r7 e7
          have h7 := skip_some e7
          split at e2
          · rename_i r8 e8
            have h8 := skip_some e8
            cases e2
            exact hn (.two (.num z) (.word (cd "MAX")) r6 (by rw [hr, h7, h8, h5]; rfl))
          · split at e2
            · cases e2
            · rename_i z2 r8 e8
              have h8 : r7 = .num z2 :: r8 := by
                unfold mNumber at e8
                split at e8
                · split at e8
                  · cases e8
                  · cases e8; rfl
                · cases e8
              split at e2
              · cases e2
              · cases e2
                exact hn (.two (.num z) (.num z2) r6 (by rw [hr, h7, h8, h5]; rfl))
def szB (x : (Option Int × Option Int) × List Ql51.Tok) : Option ((Int × Option Int) × List Ql51.Tok) := match x with
  | ((some a, b), q) => if 0 ≤ a ∧ a ≤ Ql51.SIZE ∧ (b.all fun x => decide (x ≤ Ql51.SIZE)) = true then some ((a, b), q) else none
  | _ => none
theorem bound_val : Ql51.BOUND = 9223372036854775808 := by decide
theorem size_val : Ql51.SIZE = 65535 := rfl
theorem sizeIn_eq {r : List Tk} (h : Oks r) : (Ql51.bounds (.sign [40] :: T r)).bind szB = (mSizeIn r).map fun x => (x.1, T x.2) := by
  by_cases hs : Shape r
  · cases hs with
    | one z q e =>
      subst e
      rw [bounds_one, bound_val]
      unfold mSizeIn
      have e1 : mNumber 0 65535 (.num z :: .sign [41] :: q) = if z < 0 ∨ 65535 < z then none else some (z, .sign [41] :: q) := rfl
      rw [e1]
      by_cases hz : z < 0 ∨ 65535 < z
      · rw [if_pos hz]
        dsimp only
        split
        · show (if _ then _ else _) = _
          rw [if_neg (fun q => by rw [size_val] at q; omega)]; rfl
        · rfl
      · rw [if_neg hz]
        dsimp only
        have e2 : mHigh (some z) 0 65535 (.sign [41] :: q) = some (some z, .sign [41] :: q) := by
          unfold mHigh
          rw [skip_ne (by intro z; injection z with z; revert z; decide)]
        rw [e2]
        dsimp only
        rw [show skipT (.sign (cd ")")) (.sign [41] :: q) = some q from skip_same _ _]
        rw [if_pos ⟨by omega, by omega⟩]
        show (if _ then _ else _) = _
        rw [if_pos ⟨by omega, by rw [size_val]; omega, by show decide (z ≤ Ql51.SIZE) = true; rw [size_val]; exact decide_eq_true (by omega)⟩]
        rfl
    | two a b q e =>
      subst e
      rw [bounds_two]
      unfold mSizeIn
      cases a with
      | num z =>
        have e1 : mNumber 0 65535 (.num z :: .sign [46, 46] :: b :: .sign [41] :: q) = if z < 0 ∨ 65535 < z then none else some (z, .sign [46, 46] :: b :: .sign [41] :: q) := rfl
        rw [e1]
        have eh : mHigh (some z) 0 65535 (.sign [46, 46] :: b :: .sign [41] :: q) = match skipT (.word (cd "MAX")) (b :: .sign [41] :: q) with
          | some r2 => some (none, r2)
          | none => match mNumber 0 65535 (b :: .sign [41] :: q) with
            | none => none
            | some (h, r2) => if ((some z).any fun a => decide (h < a)) = true then none else some (some h, r2) := by
          unfold mHigh
          rw [show skipT (.sign (cd "..")) (.sign [46, 46] :: b :: .sign [41] :: q) = some (b :: .sign [41] :: q) from skip_same _ _] <;> rfl
        have sk : skipT (.sign (cd ")")) (.sign [41] :: q) = some q := skip_same _ _
        have el : lowT (tkOf (.num z)) = if -9223372036854775808 ≤ z ∧ z < 9223372036854775808 then some (some z) else none := by rw [← bound_val]; rfl
        rw [el]
        by_cases hz : z < 0 ∨ 65535 < z
        · rw [if_pos hz]
          dsimp only
          show _ = none
          split
          · cases eb : highT (tkOf b) with
            | none => rfl
            | some y =>
              cases y with
              | none =>
                show szB ((some z, none), T q) = none
                show (if _ then _ else _) = _
                rw [if_neg (fun q => by rw [size_val] at q; omega)]
              | some v =>
                show (if z ≤ v then some ((some z, some v), T q) else none).bind szB = none
                split
                · show (if _ then _ else _) = _
                  rw [if_neg (fun q => by rw [size_val] at q; omega)]
                · rfl
          · rfl
        · rw [if_neg hz, if_pos ⟨by omega, by omega⟩]
          dsimp only
          rw [eh]
          cases b with
          | num h2 =>
            rw [skip_ne (by intro z; cases z)]
            have e3 : mNumber 0 65535 (.num h2 :: .sign [41] :: q) = if h2 < 0 ∨ 65535 < h2 then none else some (h2, .sign [41] :: q) := rfl
            rw [e3]
            have eh2 : highT (tkOf (.num h2)) = if -9223372036854775808 ≤ h2 ∧ h2 < 9223372036854775808 then some (some h2) else none := by rw [← bound_val]; rfl
            rw [eh2]
            dsimp only
            by_cases hh : h2 < 0 ∨ 65535 < h2
            · rw [if_pos hh]
              dsimp only
              show _ = none
              split
              · show (if z ≤ h2 then some ((some z, some h2), T q) else none).bind szB = none
                split
                · show (if _ then _ else _) = _
                  rw [if_neg (fun y => ?_)]
                  have y3 := of_decide_eq_true (show decide (h2 ≤ Ql51.SIZE) = true from y.2.2)
                  rw [size_val] at y3
                  omega
                · rfl
              · rfl
            · rw [if_neg hh, if_pos ⟨by omega, by omega⟩]
              dsimp only
              show (if z ≤ h2 then some ((some z, some h2), T q) else none).bind szB = _
              by_cases hv : z ≤ h2
              · rw [if_pos hv, if_neg (show ¬ ((some z).any fun a => decide (h2 < a)) = true from fun y => by
                  have := of_decide_eq_true (show decide (h2 < z) = true from y); omega)]
                dsimp only
                rw [sk]
                show (if _ then _ else _) = _
                rw [if_pos ⟨by omega, by rw [size_val]; omega, by show decide (h2 ≤ Ql51.SIZE) = true; rw [size_val]; exact decide_eq_true (by omega)⟩]
                rfl
              · rw [if_neg hv, if_pos (show ((some z).any fun a => decide (h2 < a)) = true from by show decide (h2 < z) = true; exact decide_eq_true (by omega))]
                rfl
          | word w =>
            have hw : (Tk.word w).ok := h.tail.tail.head
            rw [highT_word hw]
            by_cases e : w = cd "MAX"
            · rw [if_pos e, e, skip_same]
              dsimp only
              rw [sk]
              show (if _ then _ else _) = _
              rw [if_pos ⟨by omega, by rw [size_val]; omega, rfl⟩]
              rfl
            · rw [if_neg e, skip_ne (fun z => e (by injection z))]
              rfl
          | bits l => rw [highT_else (by intro z e; cases e) (by intro z e; cases e), skip_ne (by intro z; cases z)]; rfl
          | octs l => rw [highT_else (by intro z e; cases e) (by intro z e; cases e), skip_ne (by intro z; cases z)]; rfl
          | sign l => rw [highT_else (by intro z e; cases e) (by intro z e; cases e), skip_ne (by intro z; cases z)]; rfl
      | word w =>
        have hw : (Tk.word w).ok := h.head
        rw [lowT_word hw]
        show _ = none
        split
        · cases eb : highT (tkOf b) with
          | none => rfl
          | some y => cases y <;> rfl
        · rfl
      | bits l => rw [lowT_else (by intro z e; cases e) (by intro z e; cases e)]; rfl
      | octs l => rw [lowT_else (by intro z e; cases e) (by intro z e; cases e)]; rfl
      | sign l => rw [lowT_else (by intro z e; cases e) (by intro z e; cases e)]; rfl
  · rw [bounds_no h hs, mSizeIn_no hs]; rfl
end Sp
set_option Elab.async false
set_option linter.all false
set_option maxRecDepth 100000
set_option maxHeartbeats 4000000
namespace Sp
open Th
open L2 (lowC upC)
theorem mSize_view (k : Kr) (r : List Tk) : mSize k r = match skipT (.sign (cd "(")) r with
  | none => some (((), k), r)
  | some r1 => match skipT (.word (cd "SIZE")) r1 with
    | none => none
    | some r2 => match skipT (.sign (cd "(")) r2 with
      | none => none
      | some r3 => match mSizeIn r3 with
        | none => none
        | some x => match skipT (.sign (cd ")")) x.2 with
          | none => none
          | some r7 => some (((), { k with low := some x.1.1, high := x.1.2 }), r7) := by
  unfold mSize mSizeIn
  cases skipT (.sign (cd "(")) r with
  | none => rfl
  | some r1 =>
    dsimp only
    cases skipT (.word (cd "SIZE")) r1 with
    | none => rfl
    | some r2 =>
      dsimp only
      cases skipT (.sign (cd "(")) r2 with
      | none => rfl
      | some r3 =>
        dsimp only
        cases mNumber 0 65535 r3 with
        | none => rfl
        | some x =>
          obtain ⟨z, r4⟩ := x
          dsimp only
          cases mHigh (some z) 0 65535 r4 with
          | none => rfl
          | some y =>
            obtain ⟨h, r5⟩ := y
            dsimp only
            cases skipT (.sign (cd ")")) r5 with
            | none => rfl
            | some r6 => rfl
theorem Oks.skip {t : Tk} {ts r : List Tk} (h : Oks ts) (e : skipT t ts = some r) : Oks r := by rw [skip_some e] at h; exact h.tail
theorem sizes_word {w : List UInt8} {l : List Ql51.Tok} : Ql51.sizes (.sign [40] :: .word w :: l) = if w ≠ Ql51.txt "SIZE" then none else (match l, Ql51.bounds l with
    | .sign [40] :: _, some ((some a, b), .sign [41] :: q) => if 0 ≤ a ∧ a ≤ Ql51.SIZE ∧ (b.all fun x => decide (x ≤ Ql51.SIZE)) = true then some ((a.toNat, b.map Int.toNat), q) else none
    | _, _ => none) := rfl
theorem mSizeIn_oks {r : List Tk} {x : (Int × Option Int) × List Tk} (h : Oks r) (e : mSizeIn r = some x) : Oks x.2 := by
  unfold mSizeIn at e
  split at e
  · cases e
  · rename_i z r4 e1
    have h4 : Oks r4 := by
      unfold mNumber at e1
      split at e1
      · split at e1
        · cases e1
        · cases e1; exact h.tail
      · cases e1
    split at e
    · cases e
    · rename_i hh r5 e2
      have h5 : Oks r5 := by
        unfold mHigh at e2
        split at e2
        · cases e2; exact h4
        · rename_i r6 e6
          have h6 := h4.skip e6
          split at e2
          · rename_i r7 e7
            cases e2; exact h6.skip e7
          · split at e2
            · cases e2
            · rename_i z2 r7 e7
              have h7 : Oks r7 := by
                unfold mNumber at e7
                split at e7
                · split at e7
                  · cases e7
                  · cases e7; exact h6.tail
                · cases e7
              split at e2
              · cases e2
              · cases e2; exact h7
      split at e
      · cases e
      · rename_i r6 e3
        cases e; exact h5.skip e3
theorem sizes_eq {r : List Tk} (h : Oks r) (k : Kr) (h1 : k.low = none) (h2 : k.high = none) : Ql51.sizes (T r) = (mSize k r).map fun x => (((x.1.2.low.getD 0).toNat, x.1.2.high.map Int.toNat), T x.2) := by
  rw [mSize_view]
  cases r with
  | nil =>
    show some ((0, none), []) = _
    rw [skipT_nil]
    show _ = some (((k.low.getD 0).toNat, k.high.map Int.toNat), _)
    rw [h1, h2]; rfl
  | cons t r1 =>
    by_cases e1 : t = .sign (cd "(")
    · subst e1
      rw [skip_same]
      dsimp only
      cases r1 with
      | nil => rfl
      | cons u r2 =>
        cases u with
        | word w =>
          have hw : (Tk.word w).ok := h.tail.head
          show Ql51.sizes (.sign [40] :: .word (un w) :: T r2) = _
          rw [sizes_word]
          by_cases e2 : w = cd "SIZE"
          · rw [if_neg (fun z => z ((txt_eq hw (by decide)).mpr e2)), e2, skip_same]
            dsimp only
            cases r2 with
            | nil => rfl
            | cons v r3 =>
              by_cases e3 : v = .sign (cd "(")
              · subst e3
                rw [skip_same]
                dsimp only
                have hs := sizeIn_eq h.tail.tail.tail
                have ho := fun x => mSizeIn_oks (x := x) h.tail.tail.tail
                show (match Ql51.Tok.sign [40] :: T r3, Ql51.bounds (.sign [40] :: T r3) with
                  | .sign [40] :: _, some ((some a, b), .sign [41] :: q) => if 0 ≤ a ∧ a ≤ Ql51.SIZE ∧ (b.all fun x => decide (x ≤ Ql51.SIZE)) = true then some ((a.toNat, b.map Int.toNat), q) else none
                  | _, _ => none) = _
                cases eb : Ql51.bounds (.sign [40] :: T r3) with
                | none =>
                  rw [eb] at hs
                  cases em : mSizeIn r3 with
                  | none => rfl
                  | some x => rw [em] at hs; cases hs
                | some y =>
                  obtain ⟨⟨lo, hi⟩, l⟩ := y
                  rw [eb] at hs
                  cases lo with
                  | none =>
                    cases em : mSizeIn r3 with
                    | none => rfl
                    | some x => rw [em] at hs; cases hs
                  | some a =>
                    have hs' : (if 0 ≤ a ∧ a ≤ Ql51.SIZE ∧ (hi.all fun x => decide (x ≤ Ql51.SIZE)) = true then some ((a, hi), l) else none) = (mSizeIn r3).map fun x => (x.1, T x.2) := hs
                    cases em : mSizeIn r3 with
                    | none =>
                      rw [em] at hs'
                      have hc : ¬ (0 ≤ a ∧ a ≤ Ql51.SIZE ∧ (hi.all fun x => decide (x ≤ Ql51.SIZE)) = true) := fun z => by rw [if_pos z] at hs'; cases hs'
                      dsimp only
                      split
                      · rename_i e5 e6
                        cases e6
                        exact if_neg hc
                      · rfl
                    | some x =>
                      rw [em] at hs'
                      have hc : 0 ≤ a ∧ a ≤ Ql51.SIZE ∧ (hi.all fun x => decide (x ≤ Ql51.SIZE)) = true := by
                        by_cases z : 0 ≤ a ∧ a ≤ Ql51.SIZE ∧ (hi.all fun x => decide (x ≤ Ql51.SIZE)) = true
                        · exact z
                        · rw [if_neg z] at hs'; cases hs'
                      rw [if_pos hc] at hs'
                      have hs2 := Option.some.inj hs'
                      obtain ⟨⟨xz, xh⟩, xr⟩ := x
                      have i1 : a = xz := congrArg (fun p => p.1.1) hs2
                      have i2 : hi = xh := congrArg (fun p => p.1.2) hs2
                      have i3 : l = T xr := congrArg (fun p => p.2) hs2
                      subst i1 i2 i3
                      have hx : Oks xr := ho _ em
                      dsimp only
                      cases xr with
                      | nil => rfl
                      | cons s r7 =>
                        by_cases e4 : s = .sign (cd ")")
                        · subst e4
                          rw [skip_same]
                          show (if 0 ≤ a ∧ a ≤ Ql51.SIZE ∧ (hi.all fun x => decide (x ≤ Ql51.SIZE)) = true then some ((a.toNat, hi.map Int.toNat), T r7) else none) = _
                          rw [if_pos hc]
                          rfl
                        · rw [skip_ne e4]
                          show _ = none
                          split
                          · rename_i e5 e6
                            exfalso
                            have e7 := congrArg (fun o : Option ((Option Int × Option Int) × List Ql51.Tok) => o.map (·.2)) e6
                            have e8 : T (s :: r7) = _ := Option.some.inj e7
                            obtain ⟨q1, q2, q3⟩ := T_sign hx e8
                            injection q2 with q4 q5
                            exact e4 (by rw [q4]; rfl)
                          · rfl
              · rw [skip_ne e3]
                show _ = none
                split
                · rename_i e5 e6
                  exfalso
                  obtain ⟨q1, q2, q3⟩ := T_sign (ts := v :: r3) h.tail.tail e5
                  injection q2 with q4 q5
                  exact e3 (by rw [q4]; rfl)
                · rfl
          · rw [if_pos (fun z => e2 ((txt_eq hw (by decide)).mp z)), skip_ne (fun z => e2 (by injection z))]
            rfl
        | num z => rfl
        | bits l => rfl
        | octs l => rfl
        | sign l => rfl
    · rw [skip_ne e1]
      show _ = some (((k.low.getD 0).toNat, k.high.map Int.toNat), _)
      rw [h1, h2]
      unfold Ql51.sizes
      split
      · rename_i w q e
        exfalso
        obtain ⟨q1, q2, q3⟩ := T_sign h e
        injection q2 with q4 q5
        exact e1 (by rw [q4]; rfl)
      · rename_i q hx e
        exfalso
        obtain ⟨q1, q2, q3⟩ := T_sign h e
        injection q2 with q4 q5
        exact e1 (by rw [q4]; rfl)
      · rfl
end Sp
set_option Elab.async false
set_option linter.all false
set_option maxRecDepth 100000
set_option maxHeartbeats 4000000
namespace Sp
open Th
open L2 (lowC upC)
def mEnum0 (o : Kr) (r : List Tk) : Option (Kr × List Tk) := mEnumF (r.length + 1) o r
theorem mEnum0_eq (o : Kr) (r : List Tk) : mEnum0 o r = match mNext o r with
    | none => none
    | some x => if x.1.1 = true then mEnum0 x.1.2 x.2 else some (x.1.2, x.2) := by
  unfold mEnum0
  rw [mEnumF]
  cases e : mNext o r with
  | none => rfl
  | some x =>
    dsimp only
    split
    · rw [mEnumF_enough _ _ _ (mNext_len e).1]
    · rfl
def NotCW (r : List Tk) : Prop := ∀ v q, r ≠ .sign (cd ",") :: .word v :: q
theorem mAddName_word (o : Kr) (v : List Nat) (q : List Tk) : mAddName o (.word v :: q) = if headLow v = true ∧ v ∉ o.names then some (((), { o with names := o.names ++ [v], roots := if o.ext = true then o.roots else o.roots + 1 }), q) else none := rfl
theorem mAddName_no {o : Kr} {r : List Tk} (h : ∀ v q, r ≠ .word v :: q) : mAddName o r = none := by
  cases r with
  | nil => rfl
  | cons t q =>
    cases t with
    | word v => exact absurd rfl (h v q)
    | num z => rfl
    | bits l => rfl
    | octs l => rfl
    | sign l => rfl
theorem sg_ne {a b : List Nat} (h : a ≠ b) : Tk.sign a ≠ Tk.sign b := fun z => h (by injection z)
theorem mNext_word (o : Kr) (v : List Nat) (q : List Tk) : mNext o (.sign (cd ",") :: .word v :: q) = (mAddName o (.word v :: q)).map fun x => ((true, x.1.2), x.2) := by
  unfold mNext
  rw [skip_ne (sg_ne (by decide)), skip_same]
  dsimp only
  have : (if o.ext = true then none else skipT (.sign (cd "...")) (.word v :: q)) = none := by
    split
    · rfl
    · exact skip_ne (by intro z; cases z)
  rw [this]
def mClose (o : Kr) (r : List Tk) : Option ((Bool × Kr) × List Tk) := match skipT (.sign (cd "}")) r with
  | some s => some ((false, o), s)
  | none => if o.ext = true then none else match skipT (.sign (cd ",")) r with
    | none => none
    | some r1 => match skipT (.sign (cd "...")) r1 with
      | none => none
      | some r2 => match skipT (.sign (cd "}")) r2 with
        | some r3 => some ((false, { o with ext := true }), r3)
        | none => match skipT (.sign (cd ",")) r2 with
          | none => none
          | some r3 => (mAddName { o with ext := true } r3).map fun x => ((true, x.1.2), x.2)
theorem mNext_close {o : Kr} {r : List Tk} (h : NotCW r) : mNext o r = mClose o r := by
  unfold mNext mClose
  cases e1 : skipT (.sign (cd "}")) r with
  | some s => rfl
  | none =>
    dsimp only
    cases e2 : skipT (.sign (cd ",")) r with
    | none => dsimp only; split <;> rfl
    | some r1 =>
      have hr := skip_some e2
      have no : ∀ o : Kr, mAddName o r1 = none := fun o => mAddName_no fun v q e => h v q (by rw [hr, e])
      dsimp only
      cases he : o.ext with
      | true => rw [if_pos rfl]; dsimp only; rw [no]; rfl
      | false =>
        rw [if_neg (by decide)]
        cases e3 : skipT (.sign (cd "...")) r1 with
        | none => dsimp only; rw [no]; rfl
        | some r2 => rfl
def Kr.more (o : Kr) (ns : List (List Nat)) : Kr := { o with names := o.names ++ ns, roots := if o.ext = true then o.roots else o.roots + ns.length }
theorem more_nil (o : Kr) : Kr.more o [] = o := by
  unfold Kr.more
  cases o
  dsimp only
  rw [List.append_nil]
  congr
  split <;> rfl
theorem more_more (o : Kr) (a b : List (List Nat)) : Kr.more (Kr.more o a) b = Kr.more o (a ++ b) := by
  unfold Kr.more
  dsimp only
  rw [List.append_assoc, List.length_append]
  congr 1
  split
  · rfl
  · omega
theorem list_word {k : Nat} {w : List UInt8} {r : List Ql51.Tok} : Ql51.list_ (k + 1) (.word w :: r) = if Ql51.isName w = false then none else (match r with
      | .sign [44] :: .word v :: q => (Ql51.list_ k (.word v :: q)).map fun x => (w :: x.1, x.2)
      | _ => some ([w], r)) := by rw [Ql51.list_.eq_def]; rfl
theorem list_eq : ∀ (K : Nat) {o : Kr} {n : List Nat} {r : List Tk}, r.length + 1 < K → Oks (.word n :: r) → headLow n = true → o.names.Nodup →
    match Ql51.list_ K (.word (un n) :: T r) with
    | none => mEnum0 o r = none
    | some (a, l') => ∃ (ns : List (List Nat)) (r' : List Tk), a = un n :: ns.map un ∧ l' = T r' ∧ r'.length ≤ r.length ∧ Oks r' ∧ NotCW r' ∧ (∀ v ∈ ns, (Tk.word v).ok) ∧
      ((o.names ++ ns).Nodup → mEnum0 o r = mEnum0 (Kr.more o ns) r') ∧ (¬ (o.names ++ ns).Nodup → mEnum0 o r = none)
  | 0, o, n, r, h, ho, hn, hd => by omega
  | K + 1, o, n, r, h, ho, hn, hd => by
    rw [list_word, name_eq ho.head, hn, if_neg (by decide)]
    have same : NotCW r → ∃ (ns : List (List Nat)) (r' : List Tk), [un n] = un n :: ns.map un ∧ T r = T r' ∧ r'.length ≤ r.length ∧ Oks r' ∧ NotCW r' ∧ (∀ v ∈ ns, (Tk.word v).ok) ∧
        ((o.names ++ ns).Nodup → mEnum0 o r = mEnum0 (Kr.more o ns) r') ∧ (¬ (o.names ++ ns).Nodup → mEnum0 o r = none) := fun hc =>
      ⟨[], r, rfl, rfl, Nat.le_refl _, ho.tail, hc, by simp, fun _ => by rw [more_nil], fun z => absurd (by rw [List.append_nil]; exact hd) z⟩
    by_cases hc : NotCW r
    · have e : (match T r with
          | .sign [44] :: .word v :: q => (Ql51.list_ K (.word v :: q)).map fun x => (un n :: x.1, x.2)
          | _ => some ([un n], T r)) = some ([un n], T r) := by
        split
        · rename_i v q e
          exfalso
          obtain ⟨r1, e1, e2⟩ := T_sign ho.tail e
          have h1 := ho.tail
          rw [e1] at h1
          obtain ⟨r2, e3, e4⟩ := T_word h1.tail e2
          exact hc _ r2 (by rw [e1, e3]; rfl)
        · rfl
      rw [e]
      exact same hc
    · obtain ⟨v, q, rfl⟩ : ∃ v q, r = .sign (cd ",") :: .word v :: q := Classical.byContradiction fun z => hc fun v q e => z ⟨v, q, e⟩
      have hv : (Tk.word v).ok := ho.tail.tail.head
      have e : (match T (.sign (cd ",") :: .word v :: q) with
          | .sign [44] :: .word v :: q => (Ql51.list_ K (.word v :: q)).map fun x => (un n :: x.1, x.2)
          | _ => some ([un n], T (.sign (cd ",") :: .word v :: q))) = (Ql51.list_ K (.word (un v) :: T q)).map fun x => (un n :: x.1, x.2) := rfl
      rw [e]
      have hm : mEnum0 o (.sign (cd ",") :: .word v :: q) = if headLow v = true ∧ v ∉ o.names then mEnum0 (Kr.more o [v]) q else none := by
        rw [mEnum0_eq, mNext_word, mAddName_word]
        by_cases z : headLow v = true ∧ v ∉ o.names
        · rw [if_pos z, if_pos z]; rfl
        · rw [if_neg z, if_neg z]; rfl
      rw [hm]
      simp only [List.length_cons] at h
      by_cases hl : headLow v = true
      · by_cases hin : v ∈ o.names
        · rw [if_neg (fun z => z.2 hin)]
          cases el : Ql51.list_ K (.word (un v) :: T q) with
          | none => rfl
          | some x =>
            obtain ⟨a, l'⟩ := x
            have ih := list_eq K (o := { form := "", names := [v] }) (n := v) (r := q) (by omega) (ho.tail.tail) hl (by simp)
            rw [el] at ih
            obtain ⟨ns, r', i1, i2, i3, i4, i5, i6, _⟩ := ih
            refine ⟨v :: ns, r', by show un n :: a = _; rw [i1]; rfl, i2, by simp; omega, i4, i5, fun x hx => ?_, fun z => ?_, fun _ => rfl⟩
            · rcases List.mem_cons.mp hx with y | y
              · rw [y]; exact hv
              · exact i6 x y
            · exfalso
              exact (List.nodup_append.mp z).2.2 v hin v List.mem_cons_self rfl
        · rw [if_pos ⟨hl, hin⟩]
          have hd' : (Kr.more o [v]).names.Nodup := by
            show (o.names ++ [v]).Nodup
            rw [List.nodup_append]
            exact ⟨hd, by simp, fun a ha b hb e => hin (by rw [← List.mem_singleton.mp hb, ← e]; exact ha)⟩
          have ih := list_eq K (o := Kr.more o [v]) (n := v) (r := q) (by omega) (ho.tail.tail) hl hd'
          cases el : Ql51.list_ K (.word (un v) :: T q) with
          | none => rw [el] at ih; exact ih
          | some x =>
            obtain ⟨a, l'⟩ := x
            rw [el] at ih
            obtain ⟨ns, r', i1, i2, i3, i4, i5, i6, i7, i8⟩ := ih
            have en : (Kr.more o [v]).names ++ ns = o.names ++ v :: ns := by show (o.names ++ [v]) ++ ns = _; rw [List.append_assoc]; rfl
            rw [en] at i7 i8
            refine ⟨v :: ns, r', by show un n :: a = _; rw [i1]; rfl, i2, by simp; omega, i4, i5, fun x hx => ?_, fun z => ?_, fun z => i8 z⟩
            · rcases List.mem_cons.mp hx with y | y
              · rw [y]; exact hv
              · exact i6 x y
            · rw [i7 z, more_more]; rfl
      · have hl' : headLow v = false := by simpa using hl
        rw [if_neg (fun z => hl z.1)]
        match K, h with
        | 0, h => omega
        | K + 1, h => rw [list_word, name_eq hv, hl', if_pos rfl]; rfl
end Sp
set_option Elab.async false
set_option linter.all false
set_option maxRecDepth 100000
set_option maxHeartbeats 4000000
namespace Sp
open Th
open L2 (lowC upC)
def specClose {β : Type} (A B C : List Ql51.Tok → Option β) (l : List Ql51.Tok) : Option β := match l with
  | .sign [125] :: s => A s
  | .sign [44] :: .sign [46, 46, 46] :: .sign [125] :: s => B s
  | .sign [44] :: .sign [46, 46, 46] :: .sign [44] :: s => C s
  | _ => none
def specEnd {β : Type} (A : List Ql51.Tok → Option β) (l : List Ql51.Tok) : Option β := match l with
  | .sign [125] :: s => A s
  | _ => none
inductive Shut (r : List Tk) : Prop
  | fin (s : List Tk) (e : r = .sign (cd "}") :: s)
  | dots (s : List Tk) (e : r = .sign (cd ",") :: .sign (cd "...") :: .sign (cd "}") :: s)
  | more (s : List Tk) (e : r = .sign (cd ",") :: .sign (cd "...") :: .sign (cd ",") :: s)
theorem sc_fin {β : Type} {A B C : List Ql51.Tok → Option β} (s : List Tk) : specClose A B C (T (.sign (cd "}") :: s)) = A (T s) := rfl
theorem sc_dots {β : Type} {A B C : List Ql51.Tok → Option β} (s : List Tk) : specClose A B C (T (.sign (cd ",") :: .sign (cd "...") :: .sign (cd "}") :: s)) = B (T s) := rfl
theorem sc_more {β : Type} {A B C : List Ql51.Tok → Option β} (s : List Tk) : specClose A B C (T (.sign (cd ",") :: .sign (cd "...") :: .sign (cd ",") :: s)) = C (T s) := rfl
theorem se_fin {β : Type} {A : List Ql51.Tok → Option β} (s : List Tk) : specEnd A (T (.sign (cd "}") :: s)) = A (T s) := rfl
theorem sc_bad {β : Type} {A B C : List Ql51.Tok → Option β} {r : List Tk} (h : Oks r) (hn : ¬ Shut r) : specClose A B C (T r) = none := by
  unfold specClose
  split
  · rename_i s e
    obtain ⟨r1, e1, e2⟩ := T_sign h e
    exact absurd (.fin r1 (by rw [e1]; rfl)) hn
  · rename_i s e
    obtain ⟨r1, e1, e2⟩ := T_sign h e
    rw [e1] at h
    obtain ⟨r2, e3, e4⟩ := T_sign h.tail e2
    rw [e3] at h
    obtain ⟨r3, e5, e6⟩ := T_sign h.tail.tail e4
    exact absurd (.dots r3 (by rw [e1, e3, e5]; rfl)) hn
  · rename_i s e
    obtain ⟨r1, e1, e2⟩ := T_sign h e
    rw [e1] at h
    obtain ⟨r2, e3, e4⟩ := T_sign h.tail e2
    rw [e3] at h
    obtain ⟨r3, e5, e6⟩ := T_sign h.tail.tail e4
    exact absurd (.more r3 (by rw [e1, e3, e5]; rfl)) hn
  · rfl
theorem se_bad {β : Type} {A : List Ql51.Tok → Option β} {r : List Tk} (h : Oks r) (hn : ∀ s, r ≠ .sign (cd "}") :: s) : specEnd A (T r) = none := by
  unfold specEnd
  split
  · rename_i s e
    obtain ⟨r1, e1, e2⟩ := T_sign h e
    exact absurd (by rw [e1]; rfl) (hn r1)
  · rfl
theorem mc_fin (o : Kr) (s : List Tk) : mClose o (.sign (cd "}") :: s) = some ((false, o), s) := by
  unfold mClose
  rw [skip_same]
theorem mc_dots (o : Kr) (s : List Tk) (h : o.ext = false) : mClose o (.sign (cd ",") :: .sign (cd "...") :: .sign (cd "}") :: s) = some ((false, { o with ext := true }), s) := by
  unfold mClose
  rw [skip_ne (sg_ne (by decide)), skip_same, h]
  dsimp only
  rw [if_neg (by decide), skip_same]
  dsimp only
  rw [skip_same]
theorem mc_more (o : Kr) (s : List Tk) (h : o.ext = false) : mClose o (.sign (cd ",") :: .sign (cd "...") :: .sign (cd ",") :: s) = (mAddName { o with ext := true } s).map fun x => ((true, x.1.2), x.2) := by
  unfold mClose
  rw [skip_ne (sg_ne (by decide)), skip_same, h]
  dsimp only
  rw [if_neg (by decide), skip_same]
  dsimp only
  rw [skip_ne (sg_ne (by decide)), skip_same]
theorem mc_ext {o : Kr} {r : List Tk} (h : o.ext = true) (hn : ∀ s, r ≠ .sign (cd "}") :: s) : mClose o r = none := by
  unfold mClose
  cases e : skipT (.sign (cd "}")) r with
  | some s => exact absurd (skip_some e) (hn s)
  | none => dsimp only; rw [if_pos h]
theorem mc_bad {o : Kr} {r : List Tk} (hn : ¬ Shut r) : mClose o r = none := by
  unfold mClose
  cases e : skipT (.sign (cd "}")) r with
  | some s => exact absurd (.fin s (skip_some e)) hn
  | none =>
    dsimp only
    split
    · rfl
    · cases e1 : skipT (.sign (cd ",")) r with
      | none => rfl
      | some r1 =>
        dsimp only
        cases e2 : skipT (.sign (cd "...")) r1 with
        | none => rfl
        | some r2 =>
          dsimp only
          cases e3 : skipT (.sign (cd "}")) r2 with
          | some r3 => exact absurd (.dots r3 (by rw [skip_some e1, skip_some e2, skip_some e3])) hn
          | none =>
            dsimp only
            cases e4 : skipT (.sign (cd ",")) r2 with
            | none => rfl
            | some r3 => exact absurd (.more r3 (by rw [skip_some e1, skip_some e2, skip_some e4])) hn
mutual
inductive KT : Kd → Ql51.Ty → Prop
  | bool : KT (.mk ⟨(cd "BOOLEAN").toArray⟩ [] none none [] 0 false [] []) .bool
  | null : KT (.mk ⟨(cd "NULL").toArray⟩ [] none none [] 0 false [] []) .null
  | int (lo hi : Option Int) : KT (.mk "INTEGER" [] lo hi [] 0 false [] []) (.int lo hi)
  | bits (lo hi : Option Int) : KT (.mk ⟨(cd "BIT").toArray⟩ [] lo hi [] 0 false [] []) (.bits (lo.getD 0).toNat (hi.map Int.toNat))
  | octets (lo hi : Option Int) : KT (.mk ⟨(cd "OCTET").toArray⟩ [] lo hi [] 0 false [] []) (.octets (lo.getD 0).toNat (hi.map Int.toNat))
  | named (w : List Nat) : KT (.mk "a name" w none none [] 0 false [] []) (.ref (un w))
  | enum (na nb : List (List Nat)) (ext : Bool) : (ext = false → nb = []) → KT (.mk "ENUMERATED" [] none none (na ++ nb) na.length ext [] []) (.names (na.map un) (if ext = true then some (nb.map un) else none))
  | many (lo hi : Option Int) (k : Kd) (t : Ql51.Ty) : KT k t → KT (.mk "SEQUENCE OF" [] lo hi [] 0 false [k] []) (.many (lo.getD 0).toNat (hi.map Int.toNat) t)
  | one (na nb : List (List Nat)) (ext : Bool) (pa pb : List Kd) (a b : List (Ql51.B × Ql51.Ty)) : (ext = false → nb = [] ∧ pb = [] ∧ b = []) → a.map (·.1) = na.map un → b.map (·.1) = nb.map un → KTs pa (a.map (·.2)) → KTs pb (b.map (·.2)) →
      KT (.mk "CHOICE" [] none none (na ++ nb) na.length ext (pa ++ pb) []) (.one a (if ext = true then some b else none))
  | row (na nb : List (List Nat)) (ext : Bool) (pa pb : List Kd) (a b : List (Ql51.B × Bool × Ql51.Ty)) : (ext = false → nb = [] ∧ pb = [] ∧ b = []) → a.map (·.1) = na.map un → b.map (·.1) = nb.map un → KTs pa (a.map (·.2.2)) → KTs pb (b.map (·.2.2)) →
      KT (.mk "SEQUENCE" [] none none (na ++ nb) na.length ext (pa ++ pb) ((a ++ b).map (·.2.1))) (.row a (if ext = true then some b else none))
inductive KTs : List Kd → List Ql51.Ty → Prop
  | nil : KTs [] []
  | cons {k : Kd} {t : Ql51.Ty} {ks : List Kd} {ts : List Ql51.Ty} : KT k t → KTs ks ts → KTs (k :: ks) (t :: ts)
end
inductive Gd : Ql51.Ty → Prop
  | bool : Gd .bool
  | null : Gd .null
  | int (lo hi : Option Int) : Gd (.int lo hi)
  | bits (lo : Nat) (hi : Option Nat) : Gd (.bits lo hi)
  | octets (lo : Nat) (hi : Option Nat) : Gd (.octets lo hi)
  | named (n : Ql51.B) : Gd (.ref n)
  | enum (l : List Ql51.B) (m : Option (List Ql51.B)) : (l ++ m.getD []).Nodup → Gd (.names l m)
  | many (lo : Nat) (hi : Option Nat) (t : Ql51.Ty) : Gd t → Gd (.many lo hi t)
  | one (l : List (Ql51.B × Ql51.Ty)) (m : Option (List (Ql51.B × Ql51.Ty))) : ((l ++ m.getD []).map (·.1)).Nodup → (∀ x ∈ l ++ m.getD [], Gd x.2) → Gd (.one l m)
  | row (l : List (Ql51.B × Bool × Ql51.Ty)) (m : Option (List (Ql51.B × Bool × Ql51.Ty))) : ((l ++ m.getD []).map (·.1)).Nodup → (∀ x ∈ l ++ m.getD [], Gd x.2.2) → Gd (.row l m)
inductive Rf (n : Ql51.B) : Ql51.Ty → Prop
  | named : Rf n (.ref n)
  | many (lo : Nat) (hi : Option Nat) (t : Ql51.Ty) : Rf n t → Rf n (.many lo hi t)
  | one (l : List (Ql51.B × Ql51.Ty)) (m : Option (List (Ql51.B × Ql51.Ty))) (x : Ql51.B × Ql51.Ty) : x ∈ l ++ m.getD [] → Rf n x.2 → Rf n (.one l m)
  | row (l : List (Ql51.B × Bool × Ql51.Ty)) (m : Option (List (Ql51.B × Bool × Ql51.Ty))) (x : Ql51.B × Bool × Ql51.Ty) : x ∈ l ++ m.getD [] → Rf n x.2.2 → Rf n (.row l m)
theorem nodup_of_map {α β : Type} {f : α → β} : ∀ {l : List α}, (l.map f).Nodup → l.Nodup
  | [], _ => by simp
  | a :: r, h => by
    rw [List.map_cons, List.nodup_cons] at h
    rw [List.nodup_cons]
    exact ⟨fun z => h.1 (List.mem_map.mpr ⟨a, z, rfl⟩), nodup_of_map h.2⟩
theorem nodup_un {l : List (List Nat)} (h : ∀ v ∈ l, (Tk.word v).ok) : (l.map un).Nodup ↔ l.Nodup := by
  constructor
  · intro hn
    exact nodup_of_map hn
  · intro hn
    induction l with
    | nil => simp
    | cons v r ih =>
      rw [List.nodup_cons] at hn
      rw [List.map_cons, List.nodup_cons]
      refine ⟨fun z => ?_, ih (fun x hx => h x (List.mem_cons_of_mem _ hx)) hn.2⟩
      obtain ⟨w, hw, e⟩ := List.mem_map.mp z
      have := un_inj (h w (List.mem_cons_of_mem _ hw)).2.1 (h v List.mem_cons_self).2.1 e
      exact hn.1 (by rw [← this]; exact hw)
def mEnumQ (q : List Tk) : Option (Kr × List Tk) := match mAddName { form := "ENUMERATED" } q with
  | none => none
  | some x => mEnum0 x.1.2 x.2
def specEnum (k : Nat) (q : List Ql51.Tok) : Option (Ql51.Ty × List Ql51.Tok) := match Ql51.list_ k q with
  | some (a, .sign [125] :: s) => some (.names a none, s)
  | some (a, .sign [44] :: .sign [46, 46, 46] :: .sign [125] :: s) => some (.names a (some []), s)
  | some (a, .sign [44] :: .sign [46, 46, 46] :: .sign [44] :: s) => (match Ql51.list_ k s with
    | some (b, .sign [125] :: t) => some (.names a (some b), t)
    | _ => none)
  | _ => none
theorem specEnum_eq (k : Nat) (q : List Ql51.Tok) : specEnum k q = match Ql51.list_ k q with
  | none => none
  | some (a, l) => specClose (fun s => some (.names a none, s)) (fun s => some (.names a (some []), s)) (fun s => match Ql51.list_ k s with
    | none => none
    | some (b, l2) => specEnd (fun t => some (.names a (some b), t)) l2) l := by
  unfold specEnum
  cases Ql51.list_ k q with
  | none => rfl
  | some x =>
    obtain ⟨a, l⟩ := x
    unfold specClose
    dsimp only
    split
    · rename_i e; cases e; rfl
    · rename_i e; cases e; rfl
    · rename_i s e
      cases e
      show _ = match Ql51.list_ k s with
        | none => none
        | some (b, l2) => specEnd (fun t => some (Ql51.Ty.names a (some b), t)) l2
      cases Ql51.list_ k s with
      | none => rfl
      | some y =>
        obtain ⟨b, l2⟩ := y
        unfold specEnd
        dsimp only
        split
        · rename_i e; cases e; rfl
        · rename_i h1
          split
          · exact (h1 _ _ rfl).elim
          · rfl
    · rename_i h1 h2 h3
      split
      · exact (h1 _ _ rfl).elim
      · exact (h2 _ _ rfl).elim
      · exact (h3 _ _ rfl).elim
      · rfl
end Sp
set_option Elab.async false
set_option linter.all false
set_option maxRecDepth 100000
set_option maxHeartbeats 4000000
namespace Sp
open Th
open L2 (lowC upC)
def EClaim (o : Option (Ql51.Ty × List Ql51.Tok)) (q : List Tk) (m : Option (Kr × List Tk)) : Prop := match o with
  | none => m = none
  | some (t, l') => ∃ r', l' = T r' ∧ r'.length ≤ q.length ∧ Oks r' ∧ (Gd t → ∃ k : Kr, m = some (k, r') ∧ k.waits = false ∧ KT k.fin t) ∧ (¬ Gd t → m = none)
theorem EClaim.no {q : List Tk} {m : Option (Kr × List Tk)} (h : m = none) : EClaim none q m := h
theorem list_no {K : Nat} {q : List Tk} (h : Oks q) (hn : ∀ v r, q = .word v :: r → headLow v = false) : Ql51.list_ K (T q) = none := by
  cases K with
  | zero => rw [Ql51.list_]
  | succ K =>
    cases q with
    | nil => rfl
    | cons t r =>
      cases t with
      | word v =>
        show Ql51.list_ (K + 1) (.word (un v) :: T r) = none
        rw [list_word, name_eq h.head, hn v r rfl, if_pos rfl]
      | num z => rfl
      | bits l => rfl
      | octs l => rfl
      | sign l => rfl
theorem addName_no {o : Kr} {q : List Tk} (hn : ∀ v r, q = .word v :: r → headLow v = false) : mAddName o q = none := by
  cases q with
  | nil => rfl
  | cons t r =>
    cases t with
    | word v => rw [mAddName_word, if_neg (fun z => by rw [hn v r rfl] at z; exact absurd z.1 (by decide))]
    | num z => rfl
    | bits l => rfl
    | octs l => rfl
    | sign l => rfl
theorem gd_names {l : List Ql51.B} {m : Option (List Ql51.B)} : Gd (.names l m) ↔ (l ++ m.getD []).Nodup := ⟨fun h => by cases h; assumption, .enum l m⟩
theorem enum_eq {K : Nat} {q : List Tk} (hK : q.length < K) (h : Oks q) : EClaim (specEnum K (T q)) q (mEnumQ q) := by
  rw [specEnum_eq]
  unfold mEnumQ
  by_cases hw : ∀ v r, q = .word v :: r → headLow v = false
  · rw [list_no h hw, addName_no hw]; exact rfl
  · obtain ⟨n, r, rfl, hn⟩ : ∃ n r, q = .word n :: r ∧ headLow n = true := Classical.byContradiction fun z => hw fun v r e => by
      cases hv : headLow v with
      | false => rfl
      | true => exact absurd ⟨v, r, e, hv⟩ z
    rw [mAddName_word, if_pos ⟨hn, by simp⟩]
    dsimp only
    have hok : (Tk.word n).ok := h.head
    show EClaim (match Ql51.list_ K (.word (un n) :: T r) with
      | none => none
      | some (a, l) => specClose (fun s => some (.names a none, s)) (fun s => some (.names a (some []), s)) (fun s => match Ql51.list_ K s with
        | none => none
        | some (b, l2) => specEnd (fun t => some (.names a (some b), t)) l2) l) _ (mEnum0 (Kr.more { form := "ENUMERATED" } [n]) r)
    have L := list_eq K (o := Kr.more { form := "ENUMERATED" } [n]) hK h hn (by show ([] ++ [n]).Nodup; simp)
    cases el : Ql51.list_ K (.word (un n) :: T r) with
    | none => rw [el] at L; exact L
    | some x =>
      obtain ⟨a, l'⟩ := x
      rw [el] at L
      obtain ⟨ns, r', i1, i2, i3, i4, i5, i6, i7, i8⟩ := L
      dsimp only
      subst i1 i2
      have en : (Kr.more { form := "ENUMERATED" } [n]).names ++ ns = n :: ns := rfl
      rw [en] at i7 i8
      have oks : ∀ v ∈ n :: ns, (Tk.word v).ok := fun v hv => by
        rcases List.mem_cons.mp hv with z | z
        · rw [z]; exact hok
        · exact i6 v z
      have nd : (un n :: ns.map un).Nodup ↔ (n :: ns).Nodup := nodup_un oks
      have em : Kr.more (Kr.more { form := "ENUMERATED" } [n]) ns = { form := "ENUMERATED", names := n :: ns, roots := (n :: ns).length } := by
        rw [more_more]
        show ({ form := "ENUMERATED", names := [] ++ ([n] ++ ns), roots := 0 + ([n] ++ ns).length } : Kr) = _
        rw [Nat.zero_add]; rfl
      rw [em] at i7
      have hlen : ∀ {s : List Tk} {x : List Tk}, r' = x ++ s → s.length ≤ (Tk.word n :: r).length := fun e => by
        have := congrArg List.length e
        rw [List.length_append] at this
        rw [List.length_cons]; omega
      by_cases hs : Shut r'
      · cases hs with
        | fin s e =>
          subst e
          rw [sc_fin]
          refine ⟨s, rfl, hlen (x := [_]) rfl, i4.tail, fun g => ?_, fun g => i8 fun z => g (gd_names.mpr (by rw [Option.getD_none, List.append_nil]; exact nd.mpr z))⟩
          have hd := nd.mp (by have := gd_names.mp g; rwa [Option.getD_none, List.append_nil] at this)
          refine ⟨{ form := "ENUMERATED", names := n :: ns, roots := (n :: ns).length }, ?_, rfl, ?_⟩
          · rw [i7 hd, mEnum0_eq, mNext_close i5, mc_fin]; rfl
          · have := KT.enum (n :: ns) [] false (fun _ => rfl)
            rw [List.append_nil] at this
            exact this
        | dots s e =>
          subst e
          rw [sc_dots]
          refine ⟨s, rfl, hlen (x := [_, _, _]) rfl, i4.tail.tail.tail, fun g => ?_, fun g => i8 fun z => g (gd_names.mpr (by rw [Option.getD_some, List.append_nil]; exact nd.mpr z))⟩
          have hd := nd.mp (by have := gd_names.mp g; rwa [Option.getD_some, List.append_nil] at this)
          refine ⟨{ form := "ENUMERATED", names := n :: ns, roots := (n :: ns).length, ext := true }, ?_, rfl, ?_⟩
          · rw [i7 hd, mEnum0_eq, mNext_close i5, mc_dots _ _ rfl]; rfl
          · have := KT.enum (n :: ns) [] true (fun z => by cases z)
            rw [List.append_nil] at this
            exact this
        | more s e =>
          subst e
          rw [sc_more]
          have hos : Oks s := i4.tail.tail.tail
          have hls : s.length + 3 ≤ r.length := by have := i3; simp only [List.length_cons] at this; omega
          have run : (n :: ns).Nodup → mEnum0 (Kr.more { form := "ENUMERATED" } [n]) r = match mAddName { form := "ENUMERATED", names := n :: ns, roots := (n :: ns).length, ext := true } s with
              | none => none
              | some x => mEnum0 x.1.2 x.2 := fun hd => by
            rw [i7 hd, mEnum0_eq, mNext_close i5, mc_more _ _ rfl]
            cases mAddName { form := "ENUMERATED", names := n :: ns, roots := (n :: ns).length, ext := true } s with
            | none => rfl
            | some x => rfl
          by_cases hw2 : ∀ v r, s = .word v :: r → headLow v = false
          · rw [list_no hos hw2]
            dsimp only
            by_cases hd : (n :: ns).Nodup
            · refine EClaim.no ?_
              rw [run hd, addName_no hw2]
            · exact EClaim.no (i8 hd)
          · obtain ⟨m, r2, rfl, hm⟩ : ∃ n r, s = .word n :: r ∧ headLow n = true := Classical.byContradiction fun z => hw2 fun v r e => by
              cases hv : headLow v with
              | false => rfl
              | true => exact absurd ⟨v, r, e, hv⟩ z
            simp only [List.length_cons] at hls hK
            have hokm : (Tk.word m).ok := hos.head
            by_cases hd : (n :: ns).Nodup ∧ m ∉ n :: ns
            · have hadd : mAddName { form := "ENUMERATED", names := n :: ns, roots := (n :: ns).length, ext := true } (.word m :: r2) = some (((), Kr.more { form := "ENUMERATED", names := n :: ns, roots := (n :: ns).length, ext := true } [m]), r2) := by
                rw [mAddName_word, if_pos ⟨hm, hd.2⟩]; rfl
              have run2 := run hd.1
              rw [hadd] at run2
              dsimp only at run2
              have hd2 : (Kr.more { form := "ENUMERATED", names := n :: ns, roots := (n :: ns).length, ext := true } [m]).names.Nodup := by
                show ((n :: ns) ++ [m]).Nodup
                rw [List.nodup_append]
                exact ⟨hd.1, by simp, fun a ha b hb e => hd.2 (by rw [← List.mem_singleton.mp hb, ← e]; exact ha)⟩
              have L2 := list_eq K (o := Kr.more { form := "ENUMERATED", names := n :: ns, roots := (n :: ns).length, ext := true } [m]) (by omega) hos hm hd2
              show EClaim (match Ql51.list_ K (.word (un m) :: T r2) with
                | none => none
                | some (b, l2) => specEnd (fun t => some (.names (un n :: ns.map un) (some b), t)) l2) _ _
              cases el2 : Ql51.list_ K (.word (un m) :: T r2) with
              | none => rw [el2] at L2; exact EClaim.no (by rw [run2]; exact L2)
              | some y =>
                obtain ⟨b, l2⟩ := y
                rw [el2] at L2
                obtain ⟨ns2, r3, j1, j2, j3, j4, j5, j6, j7, j8⟩ := L2
                dsimp only
                subst j1 j2
                have en2 : (Kr.more { form := "ENUMERATED", names := n :: ns, roots := (n :: ns).length, ext := true } [m]).names ++ ns2 = (n :: ns) ++ (m :: ns2) := by
                  show ((n :: ns) ++ [m]) ++ ns2 = _
                  rw [List.append_assoc]; rfl
                rw [en2] at j7 j8
                have nd2 : ((un n :: ns.map un) ++ (some (un m :: ns2.map un)).getD []).Nodup ↔ ((n :: ns) ++ (m :: ns2)).Nodup := by
                  rw [Option.getD_some, ← nodup_un (l := (n :: ns) ++ (m :: ns2)) (fun v hv => ?_), List.map_append]
                  · rfl
                  · rcases List.mem_append.mp hv with z | z
                    · exact oks v z
                    · rcases List.mem_cons.mp z with y | y
                      · rw [y]; exact hokm
                      · exact j6 v y
                have em2 : Kr.more (Kr.more { form := "ENUMERATED", names := n :: ns, roots := (n :: ns).length, ext := true } [m]) ns2 = { form := "ENUMERATED", names := (n :: ns) ++ (m :: ns2), roots := (n :: ns).length, ext := true } := by
                  rw [more_more]; rfl
                rw [em2] at j7
                by_cases hf : ∃ t, r3 = .sign (cd "}") :: t
                · obtain ⟨t, rfl⟩ := hf
                  rw [se_fin]
                  simp only [List.length_cons] at j3
                  refine ⟨t, rfl, by simp only [List.length_cons]; omega, j4.tail, fun g => ?_, fun g => by rw [run2]; exact j8 fun z => g (gd_names.mpr (nd2.mpr z))⟩
                  have hdd := nd2.mp (gd_names.mp g)
                  refine ⟨{ form := "ENUMERATED", names := (n :: ns) ++ (m :: ns2), roots := (n :: ns).length, ext := true }, ?_, rfl, ?_⟩
                  · rw [run2, j7 hdd, mEnum0_eq, mNext_close j5, mc_fin]; rfl
                  · exact KT.enum (n :: ns) (m :: ns2) true (fun z => by cases z)
                · have hf' : ∀ t, r3 ≠ .sign (cd "}") :: t := fun t e => hf ⟨t, e⟩
                  rw [se_bad j4 hf']
                  refine EClaim.no ?_
                  rw [run2]
                  by_cases hdd : ((n :: ns) ++ (m :: ns2)).Nodup
                  · rw [j7 hdd, mEnum0_eq, mNext_close j5, mc_ext rfl hf']
                  · exact j8 hdd
            · -- a name that is there already
              have none_ : mEnum0 (Kr.more { form := "ENUMERATED" } [n]) r = none := by
                by_cases hd1 : (n :: ns).Nodup
                · rw [run hd1, mAddName_word, if_neg (fun z => hd ⟨hd1, z.2⟩)]
                · exact i8 hd1
              have L2 := list_eq K (o := { form := "", names := [m] }) (n := m) (r := r2) (by omega) hos hm (by simp)
              show EClaim (match Ql51.list_ K (.word (un m) :: T r2) with
                | none => none
                | some (b, l2) => specEnd (fun t => some (.names (un n :: ns.map un) (some b), t)) l2) _ _
              cases el2 : Ql51.list_ K (.word (un m) :: T r2) with
              | none => exact EClaim.no none_
              | some y =>
                obtain ⟨b, l2⟩ := y
                rw [el2] at L2
                obtain ⟨ns2, r3, j1, j2, j3, j4, j5, j6, j7, j8⟩ := L2
                dsimp only
                subst j1 j2
                by_cases hf : ∃ t, r3 = .sign (cd "}") :: t
                · obtain ⟨t, rfl⟩ := hf
                  rw [se_fin]
                  simp only [List.length_cons] at j3
                  refine ⟨t, rfl, by simp only [List.length_cons]; omega, j4.tail, fun g => ?_, fun _ => none_⟩
                  exfalso
                  have g2 := gd_names.mp g
                  rw [Option.getD_some] at g2
                  refine hd ⟨nd.mp (List.nodup_append.mp g2).1, fun z => ?_⟩
                  exact (List.nodup_append.mp g2).2.2 (un m) (List.mem_map.mpr ⟨m, z, rfl⟩) (un m) List.mem_cons_self rfl
                · rw [se_bad j4 fun t e => hf ⟨t, e⟩]
                  exact EClaim.no none_
      · rw [sc_bad i4 hs]
        refine EClaim.no ?_
        by_cases hd : (n :: ns).Nodup
        · rw [i7 hd, mEnum0_eq, mNext_close i5, mc_bad hs]
        · exact i8 hd
end Sp
set_option Elab.async false
set_option linter.all false
set_option maxRecDepth 100000
set_option maxHeartbeats 4000000
namespace Sp
open Th
open L2 (lowC upC)
abbrev okW (n : List Nat) : Prop := (Tk.word n).ok
def RefOk (t : Ql51.Ty) : Prop := ∀ b, Rf b t → ∃ n, okW n ∧ b = un n
structure NsUp (ns ns' : List (List Nat)) (R : Ql51.B → Prop) : Prop where
  ok : ∀ n ∈ ns', okW n
  iff : ∀ n, okW n → (n ∈ ns' ↔ n ∈ ns ∨ R (un n))
theorem NsUp.refl {ns : List (List Nat)} {R : Ql51.B → Prop} (h : ∀ n ∈ ns, okW n) (hR : ∀ b, ¬ R b) : NsUp ns ns R := ⟨h, fun n _ => ⟨.inl, fun z => z.resolve_right (hR _)⟩⟩
theorem NsUp.trans {a b c : List (List Nat)} {R S U : Ql51.B → Prop} (h1 : NsUp a b R) (h2 : NsUp b c S) (hU : ∀ x, U x ↔ R x ∨ S x) : NsUp a c U :=
  ⟨h2.ok, fun n hn => by rw [h2.iff n hn, h1.iff n hn, hU]; exact or_assoc⟩
theorem NsUp.congr {a b : List (List Nat)} {R U : Ql51.B → Prop} (h1 : NsUp a b R) (hU : ∀ x, U x ↔ R x) : NsUp a b U := ⟨h1.ok, fun n hn => by rw [h1.iff n hn, hU]⟩
def MClaim (o : Option (Ql51.Ty × List Ql51.Tok)) (ns : List (List Nat)) (stk : List Kr) (b : Nat) (m : Option ((Kr × List (List Nat)) × List Tk)) : Prop := match o with
  | none => m = none
  | some (t, l') => ∃ r', l' = T r' ∧ r'.length ≤ b ∧ Oks r' ∧ RefOk t ∧ (Gd t → ∃ (k : Kr) (ns' : List (List Nat)), m = mRun ns' stk k r' ∧ k.waits = false ∧ KT k.fin t ∧ NsUp ns ns' (fun b => Rf b t)) ∧ (¬ Gd t → m = none)
theorem MClaim.no {ns : List (List Nat)} {stk : List Kr} {b : Nat} {m : Option ((Kr × List (List Nat)) × List Tk)} (h : m = none) : MClaim none ns stk b m := h
def after (ns : List (List Nat)) (stk : List Kr) (o : Kr) (r : List Tk) : Option ((Kr × List (List Nat)) × List Tk) := match mNext o r with
  | none => none
  | some x => mRun ns stk { x.1.2 with waits := x.1.1 } x.2
theorem after_eq (ns : List (List Nat)) (stk : List Kr) (o : Kr) (r : List Tk) : (match mTake2 o r with
    | none => none
    | some y => mRun ns stk y.1.2 y.2) = after ns stk o r := by
  unfold mTake2 after
  cases mNext o r with
  | none => rfl
  | some x => rfl
structure Mem (α : Type) where
  nm : α → Ql51.B
  tf : α → Ql51.Ty
  ops : List α → List Bool
  form : PySem.Str
  P : Nat → List Ql51.Tok → Option (List α × List Ql51.Tok)
  ty : List α → Option (List α) → Ql51.Ty
structure MemOk {α : Type} (M : Mem α) : Prop where
  gd : ∀ l m, Gd (M.ty l m) ↔ ((l ++ m.getD []).map M.nm).Nodup ∧ ∀ x ∈ l ++ m.getD [], Gd (M.tf x)
  rf : ∀ b l m, Rf b (M.ty l m) ↔ ∃ x ∈ l ++ m.getD [], Rf b (M.tf x)
  kt : ∀ na nb ext pa pb a b, (ext = false → nb = [] ∧ pb = [] ∧ b = []) → a.map M.nm = na.map un → b.map M.nm = nb.map un → KTs pa (a.map M.tf) → KTs pb (b.map M.tf) →
    KT (.mk M.form [] none none (na ++ nb) na.length ext (pa ++ pb) (M.ops a ++ M.ops b)) (M.ty a (if ext = true then some b else none))
  nil : M.ops [] = []
  no : ∀ K q, Oks q → (∀ v r, q = .word v :: r → headLow v = false) → M.P K (T q) = none
def grow {α : Type} (M : Mem α) (o : Kr) (vs : List (List Nat)) (kds : List Kd) (a : List α) : Kr := { Kr.more o vs with parts := o.parts ++ kds, opts := o.opts ++ M.ops a }
def PClaim {α : Type} (M : Mem α) (K : Nat) (o : Kr) (n : List Nat) (r : List Tk) (ns : List (List Nat)) (stk : List Kr) : Prop := match M.P K (.word (un n) :: T r) with
  | none => mGo ns (o :: stk) r = none
  | some (a, l') => ∃ (vs : List (List Nat)) (r' : List Tk), a.map M.nm = un n :: vs.map un ∧ l' = T r' ∧ r'.length ≤ r.length ∧ Oks r' ∧ NotCW r' ∧ (∀ v ∈ vs, okW v) ∧ (∀ x ∈ a, RefOk (M.tf x)) ∧
      (((o.names ++ vs).Nodup ∧ ∀ x ∈ a, Gd (M.tf x)) → ∃ (kds : List Kd) (ns' : List (List Nat)), KTs kds (a.map M.tf) ∧ NsUp ns ns' (fun b => ∃ x ∈ a, Rf b (M.tf x)) ∧ mGo ns (o :: stk) r = after ns' stk (grow M o vs kds a) r') ∧
      (¬ ((o.names ++ vs).Nodup ∧ ∀ x ∈ a, Gd (M.tf x)) → mGo ns (o :: stk) r = none)
def MemS {α : Type} (M : Mem α) (K : Nat) : Prop := ∀ (o : Kr) (n : List Nat) (r : List Tk) (ns : List (List Nat)) (stk : List Kr), r.length + 1 < K → Oks (.word n :: r) → headLow n = true → o.waits = true → o.form = M.form → o.names.Nodup → (∀ n ∈ ns, okW n) → PClaim M K o n r ns stk
def specBr {α : Type} (M : Mem α) (K : Nat) (q : List Ql51.Tok) : Option (Ql51.Ty × List Ql51.Tok) := match M.P K q with
  | none => none
  | some (a, l) => specClose (fun s => some (M.ty a none, s)) (fun s => some (M.ty a (some []), s)) (fun s => match M.P K s with
    | none => none
    | some (b, l2) => specEnd (fun t => some (M.ty a (some b), t)) l2) l
def mBr {α : Type} (M : Mem α) (ns : List (List Nat)) (stk : List Kr) (q : List Tk) : Option ((Kr × List (List Nat)) × List Tk) := match mAddName { form := M.form } q with
  | none => none
  | some x => mRun ns stk { x.1.2 with waits := true } x.2
theorem name_or (q : List Tk) : (∀ v r, q = .word v :: r → headLow v = false) ∨ ∃ n r, q = .word n :: r ∧ headLow n = true := by
  by_cases hw : ∀ v r, q = .word v :: r → headLow v = false
  · exact .inl hw
  · exact .inr (Classical.byContradiction fun z => hw fun v r e => by
      cases hv : headLow v with
      | false => rfl
      | true => exact absurd ⟨v, r, e, hv⟩ z)
theorem refOk_mk {α : Type} {M : Mem α} (H : MemOk M) {l : List α} {m : Option (List α)} (h : ∀ x ∈ l ++ m.getD [], RefOk (M.tf x)) : RefOk (M.ty l m) := fun b hb => by
  obtain ⟨x, hx, hr⟩ := (H.rf b l m).mp hb
  exact h x hx b hr
theorem br_eq {α : Type} {M : Mem α} (H : MemOk M) {K : Nat} (S : MemS M K) {q : List Tk} {ns : List (List Nat)} {stk : List Kr} (hK : q.length < K) (h : Oks q) (hns : ∀ n ∈ ns, okW n) : MClaim (specBr M K (T q)) ns stk q.length (mBr M ns stk q) := by
  unfold specBr mBr
  rcases name_or q with hw | ⟨n, r, rfl, hn⟩
  · rw [H.no K q h hw, addName_no hw]; exact rfl
  · rw [mAddName_word, if_pos ⟨hn, by simp⟩]
    dsimp only
    have hok : okW n := h.head
    have e0 : mRun ns stk { (Kr.more { form := M.form } [n]) with waits := true } r = mGo ns ({ (Kr.more { form := M.form } [n]) with waits := true } :: stk) r := mRun_wait rfl
    show MClaim (match M.P K (.word (un n) :: T r) with
      | none => none
      | some (a, l) => specClose (fun s => some (M.ty a none, s)) (fun s => some (M.ty a (some []), s)) (fun s => match M.P K s with
        | none => none
        | some (b, l2) => specEnd (fun t => some (M.ty a (some b), t)) l2) l) _ _ _ (mRun ns stk { (Kr.more { form := M.form } [n]) with waits := true } r)
    rw [e0]
    have L := S { (Kr.more { form := M.form } [n]) with waits := true } n r ns stk hK h hn rfl rfl (by show ([] ++ [n]).Nodup; simp) hns
    unfold PClaim at L
    cases el : M.P K (.word (un n) :: T r) with
    | none => rw [el] at L; exact L
    | some x =>
      obtain ⟨a, l'⟩ := x
      rw [el] at L
      obtain ⟨vs, r', i1, i2, i3, i4, i5, i6, i6', i7, i8⟩ := L
      dsimp only
      subst i2
      generalize hG : mGo ns ({ (Kr.more { form := M.form } [n]) with waits := true } :: stk) r = G at i7 i8 ⊢
      have en : ({ (Kr.more { form := M.form } [n]) with waits := true } : Kr).names ++ vs = n :: vs := rfl
      rw [en] at i7 i8
      have oks : ∀ v ∈ n :: vs, okW v := fun v hv => by
        rcases List.mem_cons.mp hv with z | z
        · rw [z]; exact hok
        · exact i6 v z
      have nd : (a.map M.nm).Nodup ↔ (n :: vs).Nodup := by rw [i1]; exact nodup_un oks
      have i1' : a.map M.nm = (n :: vs).map un := i1
      have eg : ∀ kds, grow M { (Kr.more { form := M.form } [n]) with waits := true } vs kds a = { form := M.form, names := n :: vs, roots := (n :: vs).length, parts := kds, opts := M.ops a, waits := true } := fun kds => by
        unfold grow Kr.more
        show ({ form := M.form, names := n :: vs, roots := 0 + 1 + vs.length, parts := [] ++ kds, opts := [] ++ M.ops a, waits := true } : Kr) = _
        rw [List.nil_append, List.nil_append, Nat.zero_add, Nat.add_comm 1]
        rfl
      have hlen : ∀ {s : List Tk} {x : List Tk}, r' = x ++ s → s.length ≤ (Tk.word n :: r).length := fun e => by
        have := congrArg List.length e
        rw [List.length_append] at this
        rw [List.length_cons]; omega
      have gd0 : Gd (M.ty a none) ↔ (n :: vs).Nodup ∧ ∀ x ∈ a, Gd (M.tf x) := by rw [H.gd, Option.getD_none, List.append_nil, nd]
      have gd1 : Gd (M.ty a (some [])) ↔ (n :: vs).Nodup ∧ ∀ x ∈ a, Gd (M.tf x) := by rw [H.gd, Option.getD_some, List.append_nil, nd]
      by_cases hs : Shut r'
      · cases hs with
        | fin s e =>
          subst e
          rw [sc_fin]
          refine ⟨s, rfl, hlen (x := [_]) rfl, i4.tail, refOk_mk H (by rw [Option.getD_none, List.append_nil]; exact i6'), fun g => ?_, fun g => i8 fun z => g (gd0.mpr z)⟩
          obtain ⟨kds, ns', j1, j2, j3⟩ := i7 (gd0.mp g)
          refine ⟨{ form := M.form, names := n :: vs, roots := (n :: vs).length, parts := kds, opts := M.ops a }, ns', ?_, rfl, ?_, j2.congr fun b => ?_⟩
          · rw [j3, eg]; unfold after; rw [mNext_close i5, mc_fin]
          · have := H.kt (n :: vs) [] false kds [] a [] (fun _ => ⟨rfl, rfl, rfl⟩) i1' rfl j1 .nil
            rw [List.append_nil, List.append_nil, H.nil, List.append_nil] at this
            exact this
          · rw [H.rf, Option.getD_none, List.append_nil]
        | dots s e =>
          subst e
          rw [sc_dots]
          refine ⟨s, rfl, hlen (x := [_, _, _]) rfl, i4.tail.tail.tail, refOk_mk H (by rw [Option.getD_some, List.append_nil]; exact i6'), fun g => ?_, fun g => i8 fun z => g (gd1.mpr z)⟩
          obtain ⟨kds, ns', j1, j2, j3⟩ := i7 (gd1.mp g)
          refine ⟨{ form := M.form, names := n :: vs, roots := (n :: vs).length, ext := true, parts := kds, opts := M.ops a }, ns', ?_, rfl, ?_, j2.congr fun b => ?_⟩
          · rw [j3, eg]; unfold after; rw [mNext_close i5, mc_dots _ _ rfl]
          · have := H.kt (n :: vs) [] true kds [] a [] (fun z => by cases z) i1' rfl j1 .nil
            rw [List.append_nil, List.append_nil, H.nil, List.append_nil] at this
            exact this
          · rw [H.rf, Option.getD_some, List.append_nil]
        | more s e =>
          subst e
          rw [sc_more]
          have hos : Oks s := i4.tail.tail.tail
          have hls : s.length + 3 ≤ r.length := by have := i3; simp only [List.length_cons] at this; omega
          rcases name_or s with hw2 | ⟨m, r2, rfl, hm⟩
          · rw [H.no K s hos hw2]
            dsimp only
            refine MClaim.no ?_
            by_cases hd : (n :: vs).Nodup ∧ ∀ x ∈ a, Gd (M.tf x)
            · obtain ⟨kds, ns', j1, j2, j3⟩ := i7 hd
              rw [j3, eg]; unfold after; rw [mNext_close i5, mc_more _ _ rfl, addName_no hw2]; rfl
            · exact i8 hd
          · simp only [List.length_cons] at hls hK
            have hokm : okW m := hos.head
            show MClaim (match M.P K (.word (un m) :: T r2) with
              | none => none
              | some (b, l2) => specEnd (fun t => some (M.ty a (some b), t)) l2) _ _ _ _
            by_cases hd : ((n :: vs).Nodup ∧ ∀ x ∈ a, Gd (M.tf x)) ∧ m ∉ n :: vs
            · obtain ⟨kds, ns', j1, j2, j3⟩ := i7 hd.1
              have run : G = mGo ns' ({ form := M.form, names := (n :: vs) ++ [m], roots := (n :: vs).length, ext := true, parts := kds, opts := M.ops a, waits := true } :: stk) r2 := by
                rw [j3, eg]
                unfold after
                rw [mNext_close i5, mc_more _ _ rfl, mAddName_word, if_pos ⟨hm, hd.2⟩]
                exact mRun_wait rfl
              have hd2 : ((n :: vs) ++ [m]).Nodup := by
                rw [List.nodup_append]
                exact ⟨hd.1.1, by simp, fun a ha b hb e => hd.2 (by rw [← List.mem_singleton.mp hb, ← e]; exact ha)⟩
              have L2 := S { form := M.form, names := (n :: vs) ++ [m], roots := (n :: vs).length, ext := true, parts := kds, opts := M.ops a, waits := true } m r2 ns' stk (by omega) hos hm rfl rfl hd2 j2.ok
              unfold PClaim at L2
              cases el2 : M.P K (.word (un m) :: T r2) with
              | none => rw [el2] at L2; exact MClaim.no (by rw [run]; exact L2)
              | some y =>
                obtain ⟨b, l2⟩ := y
                rw [el2] at L2
                obtain ⟨vs2, r3, k1, k2, k3, k4, k5, k6, k6', k7, k8⟩ := L2
                dsimp only
                subst k2
                have en2 : ({ form := M.form, names := (n :: vs) ++ [m], roots := (n :: vs).length, ext := true, parts := kds, opts := M.ops a, waits := true } : Kr).names ++ vs2 = (n :: vs) ++ (m :: vs2) := by
                  show ((n :: vs) ++ [m]) ++ vs2 = _
                  rw [List.append_assoc]; rfl
                rw [en2] at k7 k8
                have k1' : b.map M.nm = (m :: vs2).map un := k1
                have nd2 : ((a ++ (some b).getD []).map M.nm).Nodup ↔ ((n :: vs) ++ (m :: vs2)).Nodup := by
                  rw [Option.getD_some, List.map_append, i1', k1', ← List.map_append]
                  refine nodup_un fun v hv => ?_
                  rcases List.mem_append.mp hv with z | z
                  · exact oks v z
                  · rcases List.mem_cons.mp z with y | y
                    · rw [y]; exact hokm
                    · exact k6 v y
                have gd2 : Gd (M.ty a (some b)) ↔ ((n :: vs) ++ (m :: vs2)).Nodup ∧ ∀ x ∈ b, Gd (M.tf x) := by
                  rw [H.gd, nd2, Option.getD_some]
                  exact ⟨fun z => ⟨z.1, fun x hx => z.2 x (List.mem_append_right _ hx)⟩, fun z => ⟨z.1, fun x hx => (List.mem_append.mp hx).elim (hd.1.2 x) (z.2 x)⟩⟩
                by_cases hf : ∃ t, r3 = .sign (cd "}") :: t
                · obtain ⟨t, rfl⟩ := hf
                  rw [se_fin]
                  simp only [List.length_cons] at k3
                  refine ⟨t, rfl, by simp only [List.length_cons]; omega, k4.tail, refOk_mk H (by rw [Option.getD_some]; exact fun x hx => (List.mem_append.mp hx).elim (i6' x) (k6' x)), fun g => ?_, fun g => by rw [run]; exact k8 fun z => g (gd2.mpr z)⟩
                  obtain ⟨kds2, ns2, p1, p2, p3⟩ := k7 (gd2.mp g)
                  refine ⟨{ form := M.form, names := (n :: vs) ++ (m :: vs2), roots := (n :: vs).length, ext := true, parts := kds ++ kds2, opts := M.ops a ++ M.ops b }, ns2, ?_, rfl, ?_, j2.trans p2 fun x => ?_⟩
                  · rw [run, p3]
                    unfold after
                    rw [mNext_close k5, mc_fin]
                    unfold grow Kr.more
                    show mRun ns2 stk { form := M.form, names := ((n :: vs) ++ [m]) ++ vs2, roots := (n :: vs).length, ext := true, parts := kds ++ kds2, opts := M.ops a ++ M.ops b } t = _
                    rw [List.append_assoc (n :: vs) [m] vs2]; rfl
                  · exact H.kt (n :: vs) (m :: vs2) true kds kds2 a b (fun z => by cases z) i1' k1' j1 p1
                  · rw [H.rf, Option.getD_some]
                    exact ⟨fun ⟨y, hy, q⟩ => (List.mem_append.mp hy).elim (fun z => .inl ⟨y, z, q⟩) (fun z => .inr ⟨y, z, q⟩), fun z => z.elim (fun ⟨y, hy, q⟩ => ⟨y, List.mem_append_left _ hy, q⟩) (fun ⟨y, hy, q⟩ => ⟨y, List.mem_append_right _ hy, q⟩)⟩
                · have hf' : ∀ t, r3 ≠ .sign (cd "}") :: t := fun t e => hf ⟨t, e⟩
                  rw [se_bad k4 hf']
                  refine MClaim.no ?_
                  rw [run]
                  by_cases hdd : ((n :: vs) ++ (m :: vs2)).Nodup ∧ ∀ x ∈ b, Gd (M.tf x)
                  · obtain ⟨kds2, ns2, p1, p2, p3⟩ := k7 hdd
                    rw [p3]; unfold after; rw [mNext_close k5, mc_ext rfl hf']
                  · exact k8 hdd
            · have none_ : G = none := by
                by_cases hd1 : (n :: vs).Nodup ∧ ∀ x ∈ a, Gd (M.tf x)
                · obtain ⟨kds, ns', j1, j2, j3⟩ := i7 hd1
                  rw [j3, eg]; unfold after
                  rw [mNext_close i5, mc_more _ _ rfl, mAddName_word, if_neg (fun z => hd ⟨hd1, z.2⟩)]; rfl
                · exact i8 hd1
              have L2 := S { form := M.form, names := [m], waits := true } m r2 [] stk (by omega) hos hm rfl rfl (by simp) (by simp)
              unfold PClaim at L2
              cases el2 : M.P K (.word (un m) :: T r2) with
              | none => exact MClaim.no none_
              | some y =>
                obtain ⟨b, l2⟩ := y
                rw [el2] at L2
                obtain ⟨vs2, r3, k1, k2, k3, k4, k5, k6, k6', k7, k8⟩ := L2
                dsimp only
                subst k2
                by_cases hf : ∃ t, r3 = .sign (cd "}") :: t
                · obtain ⟨t, rfl⟩ := hf
                  rw [se_fin]
                  simp only [List.length_cons] at k3
                  refine ⟨t, rfl, by simp only [List.length_cons]; omega, k4.tail, refOk_mk H (by rw [Option.getD_some]; exact fun x hx => (List.mem_append.mp hx).elim (i6' x) (k6' x)), fun g => ?_, fun _ => none_⟩
                  exfalso
                  obtain ⟨g1, g2⟩ := (H.gd _ _).mp g
                  rw [Option.getD_some] at g1 g2
                  rw [List.map_append, i1', k1] at g1
                  refine hd ⟨⟨(nodup_un oks).mp (List.nodup_append.mp g1).1, fun x hx => g2 x (List.mem_append_left _ hx)⟩, fun z => ?_⟩
                  exact (List.nodup_append.mp g1).2.2 (un m) (List.mem_map.mpr ⟨m, z, rfl⟩) (un m) List.mem_cons_self rfl
                · rw [se_bad k4 fun t e => hf ⟨t, e⟩]
                  exact MClaim.no none_
      · rw [sc_bad i4 hs]
        refine MClaim.no ?_
        by_cases hd : (n :: vs).Nodup ∧ ∀ x ∈ a, Gd (M.tf x)
        · obtain ⟨kds, ns', j1, j2, j3⟩ := i7 hd
          rw [j3, eg]; unfold after; rw [mNext_close i5, mc_bad hs]
        · exact i8 hd
end Sp
set_option Elab.async false
set_option linter.all false
set_option maxRecDepth 100000
set_option maxHeartbeats 4000000
namespace Sp
open Th
open L2 (lowC upC)
def mOne : Mem (Ql51.B × Ql51.Ty) := ⟨fun x => x.1, fun x => x.2, fun _ => [], "CHOICE", Ql51.parts, Ql51.Ty.one⟩
def mRow : Mem (Ql51.B × Bool × Ql51.Ty) := ⟨fun x => x.1, fun x => x.2.2, fun l => l.map fun x => x.2.1, "SEQUENCE", Ql51.fields, Ql51.Ty.row⟩
theorem parts_word {k : Nat} {n : List UInt8} {r : List Ql51.Tok} : Ql51.parts (k + 1) (.word n :: r) = if Ql51.isName n = false then none else (match Ql51.ty k r with
      | some (t, .sign [44] :: .word v :: q) => (Ql51.parts k (.word v :: q)).map fun x => ((n, t) :: x.1, x.2)
      | some (t, q) => some ([(n, t)], q)
      | none => none) := by rw [Ql51.parts.eq_def]; rfl
theorem fields_word {k : Nat} {n : List UInt8} {r : List Ql51.Tok} : Ql51.fields (k + 1) (.word n :: r) = if Ql51.isName n = false then none else (match Ql51.ty k r with
      | none => none
      | some (t, q) =>
        let (o, q) := (match q with
          | .word w :: s => if w = Ql51.txt "OPTIONAL" then (true, s) else (false, q)
          | _ => (false, q))
        (match q with
        | .sign [44] :: .word v :: s => (Ql51.fields k (.word v :: s)).map fun x => ((n, o, t) :: x.1, x.2)
        | _ => some ([(n, o, t)], q))) := by rw [Ql51.fields.eq_def]; rfl
def specNext {α : Type} (P : List Ql51.Tok → Option (List α × List Ql51.Tok)) (x : α) (l : List Ql51.Tok) : Option (List α × List Ql51.Tok) := match l with
  | .sign [44] :: .word v :: s => (P (.word v :: s)).map fun y => (x :: y.1, y.2)
  | _ => some ([x], l)
theorem sn_not {α : Type} {P : List Ql51.Tok → Option (List α × List Ql51.Tok)} {x : α} {q : List Tk} (h : Oks q) (hc : NotCW q) : specNext P x (T q) = some ([x], T q) := by
  unfold specNext
  split
  · rename_i v s e
    exfalso
    obtain ⟨r1, e1, e2⟩ := T_sign h e
    rw [e1] at h
    obtain ⟨r2, e3, e4⟩ := T_word h.tail e2
    exact hc _ r2 (by rw [e1, e3]; rfl)
  · rfl
theorem one_ok : MemOk mOne where
  gd := fun l m => ⟨fun h => by cases h; exact ⟨by assumption, by assumption⟩, fun h => .one l m h.1 h.2⟩
  rf := fun b l m => ⟨fun h => by cases h with | one _ _ x hx hr => exact ⟨x, hx, hr⟩, fun ⟨x, hx, hr⟩ => .one l m x hx hr⟩
  kt := fun na nb ext pa pb a b h0 h1 h2 h3 h4 => KT.one na nb ext pa pb a b h0 h1 h2 h3 h4
  nil := rfl
  no := fun K q h hn => by
    show Ql51.parts K (T q) = none
    cases K with
    | zero => rw [Ql51.parts]
    | succ K =>
      cases q with
      | nil => rw [Ql51.parts.eq_def]; rfl
      | cons t r =>
        cases t with
        | word v =>
          show Ql51.parts (K + 1) (.word (un v) :: T r) = none
          rw [parts_word, name_eq h.head, hn v r rfl, if_pos rfl]
        | num z => rw [Ql51.parts.eq_def]; rfl
        | bits l => rw [Ql51.parts.eq_def]; rfl
        | octs l => rw [Ql51.parts.eq_def]; rfl
        | sign l => rw [Ql51.parts.eq_def]; rfl
theorem row_ok : MemOk mRow where
  gd := fun l m => ⟨fun h => by cases h; exact ⟨by assumption, by assumption⟩, fun h => .row l m h.1 h.2⟩
  rf := fun b l m => ⟨fun h => by cases h with | row _ _ x hx hr => exact ⟨x, hx, hr⟩, fun ⟨x, hx, hr⟩ => .row l m x hx hr⟩
  kt := fun na nb ext pa pb a b h0 h1 h2 h3 h4 => by
    have := KT.row na nb ext pa pb a b h0 h1 h2 h3 h4
    rw [List.map_append] at this
    exact this
  nil := rfl
  no := fun K q h hn => by
    show Ql51.fields K (T q) = none
    cases K with
    | zero => rw [Ql51.fields]
    | succ K =>
      cases q with
      | nil => rw [Ql51.fields.eq_def]; rfl
      | cons t r =>
        cases t with
        | word v =>
          show Ql51.fields (K + 1) (.word (un v) :: T r) = none
          rw [fields_word, name_eq h.head, hn v r rfl, if_pos rfl]
        | num z => rw [Ql51.fields.eq_def]; rfl
        | bits l => rw [Ql51.fields.eq_def]; rfl
        | octs l => rw [Ql51.fields.eq_def]; rfl
        | sign l => rw [Ql51.fields.eq_def]; rfl
def XClaim {α : Type} (M : Mem α) (s : Option (List α × List Ql51.Tok)) (o : Kr) (n : List Nat) (b : Nat) (ns : List (List Nat)) (stk : List Kr) (mach : Option ((Kr × List (List Nat)) × List Tk)) : Prop := match s with
  | none => mach = none
  | some (a, l') => ∃ (vs : List (List Nat)) (r' : List Tk), a.map M.nm = un n :: vs.map un ∧ l' = T r' ∧ r'.length ≤ b ∧ Oks r' ∧ NotCW r' ∧ (∀ v ∈ vs, okW v) ∧ (∀ x ∈ a, RefOk (M.tf x)) ∧
      (((o.names ++ vs).Nodup ∧ ∀ x ∈ a, Gd (M.tf x)) → ∃ (kds : List Kd) (ns' : List (List Nat)), KTs kds (a.map M.tf) ∧ NsUp ns ns' (fun b => ∃ x ∈ a, Rf b (M.tf x)) ∧ mach = after ns' stk (grow M o vs kds a) r') ∧
      (¬ ((o.names ++ vs).Nodup ∧ ∀ x ∈ a, Gd (M.tf x)) → mach = none)
theorem mem_step {α : Type} {M : Mem α} (H : MemOk M) (hops : ∀ x a, M.ops (x :: a) = M.ops [x] ++ M.ops a) {K : Nat} (S : MemS M K) {o : Kr} {n : List Nat} {b : Nat} {q : List Tk} {ns : List (List Nat)} {stk : List Kr} {x : α} {mach : Option ((Kr × List (List Nat)) × List Tk)}
    (hx : M.nm x = un n) (hr : RefOk (M.tf x)) (hb : q.length ≤ b) (hbK : b < K) (hoq : Oks q) (hw : o.waits = true) (hf : o.form = M.form) (hd : o.names.Nodup) (hns : ∀ n ∈ ns, okW n)
    (g1 : Gd (M.tf x) → ∃ (kd : Kd) (ns1 : List (List Nat)), KT kd (M.tf x) ∧ NsUp ns ns1 (fun b => Rf b (M.tf x)) ∧ mach = after ns1 stk { o with parts := o.parts ++ [kd], opts := o.opts ++ M.ops [x] } q)
    (g2 : ¬ Gd (M.tf x) → mach = none) : XClaim M (specNext (M.P K) x (T q)) o n b ns stk mach := by
  by_cases hc : NotCW q
  · rw [sn_not hoq hc]
    refine ⟨[], q, by rw [List.map_cons, hx]; rfl, rfl, hb, hoq, hc, by simp, by simpa using hr, fun g => ?_, fun g => g2 fun z => g ⟨by rw [List.append_nil]; exact hd, by simpa using z⟩⟩
    obtain ⟨kd, ns1, k1, k2, k3⟩ := g1 (g.2 x List.mem_cons_self)
    refine ⟨[kd], ns1, .cons k1 .nil, k2.congr fun y => ⟨fun ⟨z, hz, q⟩ => by rw [List.mem_singleton.mp hz] at q; exact q, fun z => ⟨x, List.mem_cons_self, z⟩⟩, ?_⟩
    rw [k3]
    unfold grow
    rw [more_nil]
  · obtain ⟨v, q', rfl⟩ : ∃ v q', q = .sign (cd ",") :: .word v :: q' := Classical.byContradiction fun z => hc fun v q e => z ⟨v, q, e⟩
    have hv : okW v := hoq.tail.head
    have e : specNext (M.P K) x (T (.sign (cd ",") :: .word v :: q')) = (M.P K (.word (un v) :: T q')).map fun y => (x :: y.1, y.2) := rfl
    rw [e]
    simp only [List.length_cons] at hb
    have nm : ∀ (ns1 : List (List Nat)) (o1 : Kr), after ns1 stk o1 (.sign (cd ",") :: .word v :: q') = if headLow v = true ∧ v ∉ o1.names then mGo ns1 ({ Kr.more o1 [v] with waits := true } :: stk) q' else none := fun ns1 o1 => by
      unfold after
      rw [mNext_word, mAddName_word]
      by_cases z : headLow v = true ∧ v ∉ o1.names
      · rw [if_pos z, if_pos z]
        exact mRun_wait (k := { Kr.more o1 [v] with waits := true }) rfl
      · rw [if_neg z, if_neg z]; rfl
    by_cases hl : headLow v = true
    · by_cases hg : Gd (M.tf x) ∧ v ∉ o.names
      · obtain ⟨kd, ns1, k1, k2, k3⟩ := g1 hg.1
        rw [nm, if_pos ⟨hl, hg.2⟩] at k3
        have hd' : (o.names ++ [v]).Nodup := by
          rw [List.nodup_append]
          exact ⟨hd, by simp, fun a ha b hb e => hg.2 (by rw [← List.mem_singleton.mp hb, ← e]; exact ha)⟩
        have ih := S { Kr.more { o with parts := o.parts ++ [kd], opts := o.opts ++ M.ops [x] } [v] with waits := true } v q' ns1 stk (by omega) hoq.tail hl rfl hf hd' k2.ok
        unfold PClaim at ih
        cases el : M.P K (.word (un v) :: T q') with
        | none => rw [el] at ih; rw [k3]; exact ih
        | some y =>
          obtain ⟨a, l'⟩ := y
          rw [el] at ih
          obtain ⟨vs, r', i1, i2, i3, i4, i5, i6, i6', i7, i8⟩ := ih
          have en : ({ Kr.more { o with parts := o.parts ++ [kd], opts := o.opts ++ M.ops [x] } [v] with waits := true } : Kr).names ++ vs = o.names ++ v :: vs := by
            show (o.names ++ [v]) ++ vs = _
            rw [List.append_assoc]; rfl
          rw [en] at i7 i8
          refine ⟨v :: vs, r', by show M.nm x :: a.map M.nm = _; rw [hx, i1]; rfl, i2, by omega, i4, i5, fun w hw => ?_, fun w hw => ?_, fun g => ?_, fun g => ?_⟩
          · rcases List.mem_cons.mp hw with z | z
            · rw [z]; exact hv
            · exact i6 w z
          · rcases List.mem_cons.mp hw with z | z
            · rw [z]; exact hr
            · exact i6' w z
          · obtain ⟨kds, ns2, p1, p2, p3⟩ := i7 ⟨g.1, fun w hw => g.2 w (List.mem_cons_of_mem _ hw)⟩
            refine ⟨kd :: kds, ns2, .cons k1 p1, k2.trans p2 fun y => ?_, ?_⟩
            · exact ⟨fun ⟨z, hz, q⟩ => (List.mem_cons.mp hz).elim (fun e => .inl (by rw [e] at q; exact q)) (fun e => .inr ⟨z, e, q⟩), fun z => z.elim (fun q => ⟨x, List.mem_cons_self, q⟩) (fun ⟨w, hw, q⟩ => ⟨w, List.mem_cons_of_mem _ hw, q⟩)⟩
            · rw [k3, p3]
              have eg : grow M { Kr.more { o with parts := o.parts ++ [kd], opts := o.opts ++ M.ops [x] } [v] with waits := true } vs kds a = grow M o (v :: vs) (kd :: kds) (x :: a) := by
                unfold grow Kr.more
                dsimp only
                rw [hops x a, hw]
                simp only [List.append_assoc, List.cons_append, List.nil_append, List.length_cons, List.length_nil]
                congr 1
                split
                · rfl
                · omega
              rw [eg]
          · rw [k3]; exact i8 fun z => g ⟨z.1, fun w hw => (List.mem_cons.mp hw).elim (fun e => by rw [e]; exact hg.1) (z.2 w)⟩
      · have none_ : mach = none := by
          by_cases hg1 : Gd (M.tf x)
          · obtain ⟨kd, ns1, k1, k2, k3⟩ := g1 hg1
            rw [k3, nm, if_neg (fun z => hg ⟨hg1, z.2⟩)]
          · exact g2 hg1
        have ih := S { form := M.form, names := [v], waits := true } v q' [] stk (by omega) hoq.tail hl rfl rfl (by simp) (by simp)
        unfold PClaim at ih
        cases el : M.P K (.word (un v) :: T q') with
        | none => exact none_
        | some y =>
          obtain ⟨a, l'⟩ := y
          rw [el] at ih
          obtain ⟨vs, r', i1, i2, i3, i4, i5, i6, i6', i7, i8⟩ := ih
          refine ⟨v :: vs, r', by show M.nm x :: a.map M.nm = _; rw [hx, i1]; rfl, i2, by omega, i4, i5, fun w hw => ?_, fun w hw => ?_, fun g => ?_, fun _ => none_⟩
          · rcases List.mem_cons.mp hw with z | z
            · rw [z]; exact hv
            · exact i6 w z
          · rcases List.mem_cons.mp hw with z | z
            · rw [z]; exact hr
            · exact i6' w z
          · exfalso
            refine hg ⟨g.2 x List.mem_cons_self, fun z => ?_⟩
            exact (List.nodup_append.mp g.1).2.2 v z v List.mem_cons_self rfl
    · have hl' : headLow v = false := by simpa using hl
      have hno := H.no K (.word v :: q') hoq.tail (fun w r e => by injection e with e1 e2; injection e1 with e1; rw [← e1]; exact hl')
      have hno' : M.P K (.word (un v) :: T q') = none := hno
      rw [hno']
      show mach = none
      by_cases hg1 : Gd (M.tf x)
      · obtain ⟨kd, ns1, k1, k2, k3⟩ := g1 hg1
        rw [k3, nm, if_neg (fun z => hl z.1)]
      · exact g2 hg1
def TyS (K : Nat) : Prop := ∀ (ts : List Tk) (ns : List (List Nat)) (stk : List Kr), ts.length < K → Oks ts → (∀ n ∈ ns, okW n) → MClaim (Ql51.ty K (T ts)) ns stk ts.length (mGo ns stk ts)
theorem parts_match {K : Nat} {n : List UInt8} {t : Ql51.Ty} {l : List Ql51.Tok} : (match some (t, l) with
      | some (t, .sign [44] :: .word v :: q) => (Ql51.parts K (.word v :: q)).map fun x => ((n, t) :: x.1, x.2)
      | some (t, q) => some ([(n, t)], q)
      | none => none) = specNext (mOne.P K) (n, t) l := by
  unfold specNext
  split
  · rename_i e; cases e; rfl
  · rename_i hx e
    cases e
    split
    · exact (hx _ _ rfl).elim
    · rfl
  · rename_i e; cases e
theorem parts_step {K : Nat} (TS : TyS K) (S : MemS mOne K) : MemS mOne (K + 1) := by
  intro o n r ns stk hK h hn hw hf hd hns
  show XClaim mOne (Ql51.parts (K + 1) (.word (un n) :: T r)) o n r.length ns stk (mGo ns (o :: stk) r)
  rw [parts_word, name_eq h.head, hn, if_neg (by decide)]
  have C := TS r ns (o :: stk) (by omega) h.tail hns
  cases et : Ql51.ty K (T r) with
  | none => rw [et] at C; exact C
  | some x =>
    obtain ⟨t, l⟩ := x
    rw [et] at C
    obtain ⟨q, rfl, c2, c3, c4, c5, c6⟩ := C
    rw [parts_match]
    refine mem_step one_ok (fun _ _ => rfl) S (x := (un n, t)) rfl c4 c2 (by omega) c3 hw hf hd hns (fun g => ?_) c6
    obtain ⟨k, ns1, k1, k2, k3, k4⟩ := c5 g
    refine ⟨k.fin, ns1, k3, k4, ?_⟩
    rw [k1, mRun_take k2]
    have hf' : o.form = "CHOICE" := hf
    have et : mTake o k.fin q = mTake2 { o with parts := o.parts ++ [k.fin], opts := o.opts ++ mOne.ops [(un n, t)] } q := by
      unfold mTake
      rw [if_neg (show ¬ o.form = "SEQUENCE OF" by rw [hf']; decide +kernel), if_neg (show ¬ o.form = "SEQUENCE" by rw [hf']; decide +kernel)]
      show mTake2 { o with parts := o.parts ++ [k.fin] } q = mTake2 { o with parts := o.parts ++ [k.fin], opts := o.opts ++ [] } q
      rw [List.append_nil]
    rw [et]; exact after_eq _ _ _ _
theorem fields_step {K : Nat} (TS : TyS K) (S : MemS mRow K) : MemS mRow (K + 1) := by
  intro o n r ns stk hK h hn hw hf hd hns
  show XClaim mRow (Ql51.fields (K + 1) (.word (un n) :: T r)) o n r.length ns stk (mGo ns (o :: stk) r)
  rw [fields_word, name_eq h.head, hn, if_neg (by decide)]
  have C := TS r ns (o :: stk) (by omega) h.tail hns
  cases et : Ql51.ty K (T r) with
  | none => rw [et] at C; exact C
  | some x =>
    obtain ⟨t, l⟩ := x
    rw [et] at C
    obtain ⟨q, rfl, c2, c3, c4, c5, c6⟩ := C
    dsimp only
    have hf' : o.form = "SEQUENCE" := hf
    -- whether it may be left out
    have key : ∀ (b : Bool) (q' : List Tk), q'.length ≤ q.length → Oks q' → (∀ kd, mTake o kd q = mTake2 { o with parts := o.parts ++ [kd], opts := o.opts ++ [b] } q') →
        XClaim mRow (specNext (mRow.P K) (un n, b, t) (T q')) o n r.length ns stk (mGo ns (o :: stk) r) := by
      intro b q' hq' ho' ht
      refine mem_step row_ok (fun _ _ => rfl) S (x := (un n, b, t)) rfl c4 (by omega) (by omega) ho' hw hf hd hns (fun g => ?_) c6
      obtain ⟨k, ns1, k1, k2, k3, k4⟩ := c5 g
      refine ⟨k.fin, ns1, k3, k4, ?_⟩
      rw [k1, mRun_take k2, ht]; exact after_eq _ _ _ _
    by_cases ho : ∃ s, q = .word (cd "OPTIONAL") :: s
    · obtain ⟨s, rfl⟩ := ho
      have e : (match T (.word (cd "OPTIONAL") :: s) with
          | .word w :: s' => if w = Ql51.txt "OPTIONAL" then (true, s') else (false, T (.word (cd "OPTIONAL") :: s))
          | _ => (false, T (.word (cd "OPTIONAL") :: s))) = (true, T s) := by
        show (if un (cd "OPTIONAL") = Ql51.txt "OPTIONAL" then _ else _) = _
        rw [if_pos (by rw [txt_un])]
      rw [e]
      refine key true s (by simp) c3.tail fun kd => ?_
      unfold mTake
      rw [if_neg (show ¬ o.form = "SEQUENCE OF" by rw [hf']; decide +kernel), if_pos hf', skip_same]
    · have e : (match T q with
          | .word w :: s => if w = Ql51.txt "OPTIONAL" then (true, s) else (false, T q)
          | _ => (false, T q)) = (false, T q) := by
        split
        · rename_i w s e
          obtain ⟨r1, e1, e2⟩ := T_word c3 e
          refine if_neg fun z => ho ⟨r1, ?_⟩
          rw [e1, z, txt_un, un_back (by decide)]
        · rfl
      rw [e]
      refine key false q (Nat.le_refl _) c3 fun kd => ?_
      unfold mTake
      have sk : skipT (.word (cd "OPTIONAL")) q = none := by
        cases es : skipT (.word (cd "OPTIONAL")) q with
        | none => rfl
        | some s => exact absurd ⟨s, skip_some es⟩ ho
      rw [if_neg (show ¬ o.form = "SEQUENCE OF" by rw [hf']; decide +kernel), if_pos hf', sk]
end Sp
set_option Elab.async false
set_option linter.all false
set_option maxRecDepth 100000
set_option maxHeartbeats 4000000
namespace Sp
open Th
open L2 (lowC upC)
def IntOk : Prop := ∀ r, Oks r → Ql51.bounds (T r) = (mInteger r).map (fun x => ((x.1.low, x.1.high), T x.2)) ∧ ∀ x, mInteger r = some x → x.1 = { form := "INTEGER", low := x.1.low, high := x.1.high } ∧ Oks x.2
theorem ty_word {k : Nat} {w : List UInt8} {r : List Ql51.Tok} : Ql51.ty (k + 1) (.word w :: r) =
      (if w = Ql51.txt "BOOLEAN" then some (.bool, r)
      else if w = Ql51.txt "NULL" then some (.null, r)
      else if w = Ql51.txt "INTEGER" then (Ql51.bounds r).map fun x => (.int x.1.1 x.1.2, x.2)
      else if w = Ql51.txt "BIT" then (match r with
        | .word s :: q => if s = Ql51.txt "STRING" then (Ql51.sizes q).map fun x => (.bits x.1.1 x.1.2, x.2) else none
        | _ => none)
      else if w = Ql51.txt "OCTET" then (match r with
        | .word s :: q => if s = Ql51.txt "STRING" then (Ql51.sizes q).map fun x => (.octets x.1.1 x.1.2, x.2) else none
        | _ => none)
      else if w = Ql51.txt "ENUMERATED" then (match r with
        | .sign [123] :: q => specEnum k q
        | _ => none)
      else if w = Ql51.txt "CHOICE" then (match r with
        | .sign [123] :: q => (match Ql51.parts k q with
          | some (a, .sign [125] :: s) => some (.one a none, s)
          | some (a, .sign [44] :: .sign [46, 46, 46] :: .sign [125] :: s) => some (.one a (some []), s)
          | some (a, .sign [44] :: .sign [46, 46, 46] :: .sign [44] :: s) => (match Ql51.parts k s with
            | some (b, .sign [125] :: t) => some (.one a (some b), t)
            | _ => none)
          | _ => none)
        | _ => none)
      else if w = Ql51.txt "SEQUENCE" then (match r with
        | .sign [123] :: .sign [125] :: s => some (.row [] none, s)
        | .sign [123] :: .sign [46, 46, 46] :: .sign [125] :: s => some (.row [] (some []), s)
        | .sign [123] :: q => (match Ql51.fields k q with
          | some (a, .sign [125] :: s) => some (.row a none, s)
          | some (a, .sign [44] :: .sign [46, 46, 46] :: .sign [125] :: s) => some (.row a (some []), s)
          | some (a, .sign [44] :: .sign [46, 46, 46] :: .sign [44] :: s) => (match Ql51.fields k s with
            | some (b, .sign [125] :: t) => some (.row a (some b), t)
            | _ => none)
          | _ => none)
        | q => (match Ql51.sizes q with
          | some (x, .word o :: s) => if o ≠ Ql51.txt "OF" then none else (Ql51.ty k s).map fun y => (.many x.1 x.2 y.1, y.2)
          | _ => none))
      else if Ql51.isType w = true ∧ ([Ql51.txt "SIZE", Ql51.txt "MIN", Ql51.txt "MAX", Ql51.txt "OF", Ql51.txt "STRING", Ql51.txt "OPTIONAL", Ql51.txt "TRUE", Ql51.txt "FALSE"].contains w) = false then some (.ref w, r)
      else none) := by rw [Ql51.ty.eq_def]; rfl
theorem sc3 {β : Type} {A B C : List Ql51.Tok → Option β} (s : List Ql51.Tok) : specClose A B C (.sign [44] :: .sign [46, 46, 46] :: .sign [44] :: s) = C s := rfl
theorem br_one (k : Nat) (q : List Ql51.Tok) : (match Ql51.parts k q with
          | some (a, .sign [125] :: s) => some (Ql51.Ty.one a none, s)
          | some (a, .sign [44] :: .sign [46, 46, 46] :: .sign [125] :: s) => some (Ql51.Ty.one a (some []), s)
          | some (a, .sign [44] :: .sign [46, 46, 46] :: .sign [44] :: s) => (match Ql51.parts k s with
            | some (b, .sign [125] :: t) => some (Ql51.Ty.one a (some b), t)
            | _ => none)
          | _ => none) = specBr mOne k q := by
  unfold specBr
  dsimp only [mOne]
  cases Ql51.parts k q with
  | none => rfl
  | some x =>
    obtain ⟨a, l⟩ := x
    dsimp only
    split
    · rename_i e; cases e; rfl
    · rename_i e; cases e; rfl
    · rename_i s e
      cases e
      rw [sc3]
      cases Ql51.parts k s with
      | none => rfl
      | some y =>
        obtain ⟨b, l2⟩ := y
        dsimp only
        split
        · rename_i e; cases e; rfl
        · rename_i h1
          unfold specEnd
          split
          · exact (h1 _ _ rfl).elim
          · rfl
    · rename_i h1 h2 h3
      unfold specClose
      split
      · exact (h1 _ _ rfl).elim
      · exact (h2 _ _ rfl).elim
      · exact (h3 _ _ rfl).elim
      · rfl
theorem br_row (k : Nat) (q : List Ql51.Tok) : (match Ql51.fields k q with
          | some (a, .sign [125] :: s) => some (Ql51.Ty.row a none, s)
          | some (a, .sign [44] :: .sign [46, 46, 46] :: .sign [125] :: s) => some (Ql51.Ty.row a (some []), s)
          | some (a, .sign [44] :: .sign [46, 46, 46] :: .sign [44] :: s) => (match Ql51.fields k s with
            | some (b, .sign [125] :: t) => some (Ql51.Ty.row a (some b), t)
            | _ => none)
          | _ => none) = specBr mRow k q := by
  unfold specBr
  dsimp only [mRow]
  cases Ql51.fields k q with
  | none => rfl
  | some x =>
    obtain ⟨a, l⟩ := x
    dsimp only
    split
    · rename_i e; cases e; rfl
    · rename_i e; cases e; rfl
    · rename_i s e
      cases e
      rw [sc3]
      cases Ql51.fields k s with
      | none => rfl
      | some y =>
        obtain ⟨b, l2⟩ := y
        dsimp only
        split
        · rename_i e; cases e; rfl
        · rename_i h1
          unfold specEnd
          split
          · exact (h1 _ _ rfl).elim
          · rfl
    · rename_i h1 h2 h3
      unfold specClose
      split
      · exact (h1 _ _ rfl).elim
      · exact (h2 _ _ rfl).elim
      · exact (h3 _ _ rfl).elim
      · rfl
theorem go_word (ns : List (List Nat)) (stk : List Kr) (w : List Nat) (r : List Tk) : mGo ns stk (.word w :: r) = match mWord ns w r with
  | none => none
  | some x => mRun x.1.2 stk x.1.1 x.2 := rfl
theorem MClaim.once {t : Ql51.Ty} {ns : List (List Nat)} {stk : List Kr} {b : Nat} {k : Kr} {r' : List Tk} (h1 : r'.length ≤ b) (h2 : Oks r') (h3 : ∀ x, ¬ Rf x t) (h4 : Gd t) (h5 : k.waits = false) (h6 : KT k.fin t) (hns : ∀ n ∈ ns, okW n) : MClaim (some (t, T r')) ns stk b (mRun ns stk k r') :=
  ⟨r', rfl, h1, h2, fun x hx => absurd hx (h3 x), fun _ => ⟨k, ns, rfl, h5, h6, .refl hns h3⟩, fun z => absurd h4 z⟩
theorem EClaim.m {o : Option (Ql51.Ty × List Ql51.Tok)} {q : List Tk} {m : Option (Kr × List Tk)} (C : EClaim o q m) {ns : List (List Nat)} {stk : List Kr} {b : Nat} (hb : q.length ≤ b) (h3 : ∀ t l, o = some (t, l) → ∀ x, ¬ Rf x t) (hns : ∀ n ∈ ns, okW n) :
    MClaim o ns stk b (match withN ns m with
      | none => none
      | some x => mRun x.1.2 stk x.1.1 x.2) := by
  cases o with
  | none =>
    have e : m = none := C
    rw [e]; exact rfl
  | some x =>
    obtain ⟨t, l'⟩ := x
    obtain ⟨r', i1, i2, i3, i4, i5⟩ := C
    refine ⟨r', i1, by omega, i3, fun x hx => absurd hx (h3 t l' rfl x), fun g => ?_, fun g => by rw [i5 g]; rfl⟩
    obtain ⟨k, k1, k2, k3⟩ := i4 g
    exact ⟨k, ns, by rw [k1]; rfl, k2, k3, .refl hns (h3 t l' rfl)⟩
theorem mSize_oks {k : Kr} {r : List Tk} {x : (Unit × Kr) × List Tk} (h : Oks r) (e : mSize k r = some x) : Oks x.2 := by
  rw [mSize_view] at e
  split at e
  · cases e; exact h
  · rename_i r1 e1
    have h1 := h.skip e1
    split at e
    · cases e
    · rename_i r2 e2
      have h2 := h1.skip e2
      split at e
      · cases e
      · rename_i r3 e3
        have h3 := h2.skip e3
        split at e
        · cases e
        · rename_i y e4
          have h4 := mSizeIn_oks h3 e4
          split at e
          · cases e
          · rename_i r7 e5
            cases e; exact h4.skip e5
theorem mSize_shape {k : Kr} {r : List Tk} {x : (Unit × Kr) × List Tk} (e : mSize k r = some x) : x.1.2 = { k with low := x.1.2.low, high := x.1.2.high } := by
  rw [mSize_view] at e
  split at e
  · cases e; rfl
  · split at e
    · cases e
    · split at e
      · cases e
      · split at e
        · cases e
        · split at e
          · cases e
          · cases e; rfl
theorem string_eq {form : PySem.Str} {r : List Tk} {ns : List (List Nat)} {stk : List Kr} (h : Oks r) (hns : ∀ n ∈ ns, okW n) (tt : Nat → Option Nat → Ql51.Ty) (hg : ∀ a b, Gd (tt a b)) (hr : ∀ a b x, ¬ Rf x (tt a b)) (hk : ∀ lo hi : Option Int, KT (.mk form [] lo hi [] 0 false [] []) (tt (lo.getD 0).toNat (hi.map Int.toNat))) :
    MClaim (match T r with
        | .word s :: q => if s = Ql51.txt "STRING" then (Ql51.sizes q).map fun x => (tt x.1.1 x.1.2, x.2) else none
        | _ => none) ns stk r.length (match withN ns (mString form r) with
      | none => none
      | some x => mRun x.1.2 stk x.1.1 x.2) := by
  unfold mString
  cases r with
  | nil => exact rfl
  | cons t q =>
    cases t with
    | word s =>
      show MClaim (if un s = Ql51.txt "STRING" then (Ql51.sizes (T q)).map fun x => (tt x.1.1 x.1.2, x.2) else none) _ _ _ _
      by_cases e : s = cd "STRING"
      · rw [if_pos ((txt_eq h.head (by decide)).mpr e), e, skip_same]
        dsimp only
        rw [sizes_eq h.tail { form := form } rfl rfl]
        cases em : mSize { form := form } q with
        | none => exact rfl
        | some x =>
          have hs := mSize_shape em
          have hl := (mSize_len em).1
          refine MClaim.once (t := tt _ _) (by rw [List.length_cons]; omega) (mSize_oks h.tail em) (hr _ _) (hg _ _) (by rw [hs]) ?_ hns
          have := hk x.1.2.low x.1.2.high
          rw [hs]
          exact this
      · rw [if_neg (fun z => e ((txt_eq h.head (by decide)).mp z)), skip_ne (fun z => e (by injection z))]
        exact rfl
    | num z => exact rfl
    | bits l => exact rfl
    | octs l => exact rfl
    | sign l => exact rfl
end Sp
set_option Elab.async false
set_option linter.all false
set_option maxRecDepth 100000
set_option maxHeartbeats 4000000
namespace Sp
open Th
open L2 (lowC upC)
def specOf (k : Nat) (q : List Ql51.Tok) : Option (Ql51.Ty × List Ql51.Tok) := match Ql51.sizes q with
  | some (x, .word o :: s) => if o ≠ Ql51.txt "OF" then none else (Ql51.ty k s).map fun y => (.many x.1 x.2 y.1, y.2)
  | _ => none
theorem of_eq {K : Nat} (TS : TyS K) {r : List Tk} {ns : List (List Nat)} {stk : List Kr} (hK : r.length < K + 1) (h : Oks r) (hns : ∀ n ∈ ns, okW n) : MClaim (specOf K (T r)) ns stk r.length (match withN ns (mSeqOf r) with
      | none => none
      | some x => mRun x.1.2 stk x.1.1 x.2) := by
  unfold specOf mSeqOf
  rw [sizes_eq h { form := "SEQUENCE OF" } rfl rfl]
  cases em : mSize { form := "SEQUENCE OF" } r with
  | none => exact rfl
  | some x =>
    have hs := mSize_shape em
    have hl := (mSize_len em).1
    have hx := mSize_oks h em
    obtain ⟨⟨u, k0⟩, q⟩ := x
    dsimp only at hs hl hx ⊢
    have no : ∀ m : Option ((Kr × List (List Nat)) × List Tk), m = none → (∀ w s, T q ≠ .word w :: s) → MClaim (match Option.map (fun x : (Unit × Kr) × List Tk => (((x.1.2.low.getD 0).toNat, x.1.2.high.map Int.toNat), T x.2)) (some ((u, k0), q)) with
      | some (x, .word o :: s) => if o ≠ Ql51.txt "OF" then none else (Ql51.ty K s).map fun y => (.many x.1 x.2 y.1, y.2)
      | _ => none) ns stk r.length m := by
      intro m hm hn
      show MClaim (match some (((k0.low.getD 0).toNat, k0.high.map Int.toNat), T q) with
        | some (x, .word o :: s) => if o ≠ Ql51.txt "OF" then none else (Ql51.ty K s).map fun y => (.many x.1 x.2 y.1, y.2)
        | _ => none) ns stk r.length m
      generalize T q = l at hn ⊢
      split
      · rename_i o s e
        cases e
        exact absurd rfl (hn o s)
      · exact MClaim.no hm
    cases q with
    | nil => exact no _ rfl (by intro w s z; cases z)
    | cons t s =>
      cases t with
      | num z => exact no _ rfl (by intro w s z; cases z)
      | bits l => exact no _ rfl (by intro w s z; cases z)
      | octs l => exact no _ rfl (by intro w s z; cases z)
      | sign l => exact no _ rfl (by intro w s z; cases z)
      | word w =>
        show MClaim (if un w ≠ Ql51.txt "OF" then none else (Ql51.ty K (T s)).map fun y => (.many (k0.low.getD 0).toNat (k0.high.map Int.toNat) y.1, y.2)) _ _ _ _
        by_cases e : w = cd "OF"
        · rw [if_neg (fun z => z ((txt_eq hx.head (by decide)).mpr e)), e, skip_same]
          show MClaim _ ns stk r.length (mRun ns stk { k0 with waits := true } s)
          rw [mRun_wait rfl]
          simp only [List.length_cons] at hl
          have C := TS s ns ({ k0 with waits := true } :: stk) (by omega) hx.tail hns
          cases et : Ql51.ty K (T s) with
          | none => rw [et] at C; exact C
          | some y =>
            obtain ⟨t, l⟩ := y
            rw [et] at C
            obtain ⟨q, rfl, c2, c3, c4, c5, c6⟩ := C
            have gm : Gd (.many (k0.low.getD 0).toNat (k0.high.map Int.toNat) t) ↔ Gd t := ⟨fun g => by cases g; assumption, .many _ _ _⟩
            have rm : ∀ b, Rf b (.many (k0.low.getD 0).toNat (k0.high.map Int.toNat) t) ↔ Rf b t := fun b => ⟨fun g => by cases g; assumption, .many _ _ _⟩
            refine ⟨q, rfl, by omega, c3, fun b hb => c4 b ((rm b).mp hb), fun g => ?_, fun g => c6 fun z => g (gm.mpr z)⟩
            obtain ⟨k, ns1, k1, k2, k3, k4⟩ := c5 (gm.mp g)
            refine ⟨{ k0 with parts := [k.fin], waits := false }, ns1, ?_, rfl, ?_, k4.congr rm⟩
            · rw [k1, mRun_take k2]
              have ht : mTake { k0 with waits := true } k.fin q = some (((), { k0 with parts := k0.parts ++ [k.fin], waits := false }), q) := by
                unfold mTake
                rw [if_pos (show ({ k0 with waits := true } : Kr).form = "SEQUENCE OF" by rw [hs])]
              rw [ht]
              have hp : k0.parts = [] := by rw [hs]
              rw [hp]; rfl
            · rw [hs]
              exact KT.many k0.low k0.high k.fin t k3
        · rw [if_pos (fun z => e ((txt_eq hx.head (by decide)).mp z)), skip_ne (fun z => e (by injection z))]
          exact rfl
def specSeq (k : Nat) (r : List Ql51.Tok) : Option (Ql51.Ty × List Ql51.Tok) := match r with
        | .sign [123] :: .sign [125] :: s => some (.row [] none, s)
        | .sign [123] :: .sign [46, 46, 46] :: .sign [125] :: s => some (.row [] (some []), s)
        | .sign [123] :: q => specBr mRow k q
        | q => specOf k q
theorem no_ref_row0 : ∀ x, ¬ Rf x (.row [] none) := fun x h => by
  cases h with
  | row _ _ y hy _ => simp at hy
theorem no_ref_row1 : ∀ x, ¬ Rf x (.row [] (some [])) := fun x h => by
  cases h with
  | row _ _ y hy _ => simp at hy
theorem seq_eq {K : Nat} (TS : TyS K) (S : MemS mRow K) {r : List Tk} {ns : List (List Nat)} {stk : List Kr} (hK : r.length < K + 1) (h : Oks r) (hns : ∀ n ∈ ns, okW n) : MClaim (specSeq K (T r)) ns stk r.length (match withN ns (mSeq r) with
      | none => none
      | some x => mRun x.1.2 stk x.1.1 x.2) := by
  by_cases hb : ∃ q, r = .sign (cd "{") :: q
  · obtain ⟨q, rfl⟩ := hb
    have hq := h.tail
    simp only [List.length_cons] at hK
    unfold mSeq
    rw [skip_same]
    dsimp only
    unfold mSeq2
    by_cases h1 : ∃ s, q = .sign (cd "}") :: s
    · obtain ⟨s, rfl⟩ := h1
      rw [skip_same]
      show MClaim (some (.row [] none, T s)) ns stk _ (mRun ns stk { form := "SEQUENCE" } s)
      refine MClaim.once (by simp only [List.length_cons]; omega) hq.tail no_ref_row0 (.row [] none (by simp) (by simp)) rfl ?_ hns
      exact KT.row [] [] false [] [] [] [] (fun _ => ⟨rfl, rfl, rfl⟩) rfl rfl .nil .nil
    · have n1 : skipT (.sign (cd "}")) q = none := by
        cases e : skipT (.sign (cd "}")) q with
        | none => rfl
        | some s => exact absurd ⟨s, skip_some e⟩ h1
      rw [n1]
      dsimp only
      by_cases h2 : ∃ s, q = .sign (cd "...") :: s
      · obtain ⟨s, rfl⟩ := h2
        rw [skip_same]
        dsimp only
        by_cases h3 : ∃ s2, s = .sign (cd "}") :: s2
        · obtain ⟨s2, rfl⟩ := h3
          rw [skip_same]
          show MClaim (some (.row [] (some []), T s2)) ns stk _ (mRun ns stk { form := "SEQUENCE", ext := true } s2)
          refine MClaim.once (by simp only [List.length_cons]; omega) hq.tail.tail no_ref_row1 (.row [] (some []) (by simp) (by simp)) rfl ?_ hns
          exact KT.row [] [] true [] [] [] [] (fun z => by cases z) rfl rfl .nil .nil
        · have n3 : skipT (.sign (cd "}")) s = none := by
            cases e : skipT (.sign (cd "}")) s with
            | none => rfl
            | some s2 => exact absurd ⟨s2, skip_some e⟩ h3
          rw [n3]
          show MClaim (specSeq K (.sign [123] :: T (.sign (cd "...") :: s))) ns stk _ none
          have e : specSeq K (.sign [123] :: T (.sign (cd "...") :: s)) = none := by
            have hno : specBr mRow K (T (.sign (cd "...") :: s)) = none := by
              unfold specBr
              rw [row_ok.no K _ hq (by intro v r e; cases e)]
            unfold specSeq
            split
            · rename_i s' e
              injection e with _ e; injection e with e _; injection e with e; exact absurd e (by decide)
            · rename_i s' e
              injection e with _ e; injection e with _ e
              obtain ⟨r1, e1, e2⟩ := T_sign hq.tail e
              exact absurd ⟨r1, by rw [e1]; rfl⟩ h3
            · rename_i q' _ _ e
              injection e with _ e
              rw [← e]; exact hno
            · rename_i _ _ hx
              exact absurd rfl (hx _)
          rw [e]; exact rfl
      · have n2 : skipT (.sign (cd "...")) q = none := by
          cases e : skipT (.sign (cd "...")) q with
          | none => rfl
          | some s => exact absurd ⟨s, skip_some e⟩ h2
        rw [n2]
        dsimp only
        have e : specSeq K (T (.sign (cd "{") :: q)) = specBr mRow K (T q) := by
          unfold specSeq
          split
          · rename_i s' e
            injection e with _ e
            obtain ⟨r1, e1, e2⟩ := T_sign hq e
            exact absurd ⟨r1, by rw [e1]; rfl⟩ h1
          · rename_i s' e
            injection e with _ e
            obtain ⟨r1, e1, e2⟩ := T_sign hq e
            exact absurd ⟨r1, by rw [e1]; rfl⟩ h2
          · rename_i q' _ _ e
            injection e with _ e
            rw [← e]
          · rename_i _ _ hx
            exact absurd rfl (hx _)
        rw [e]
        have C := br_eq row_ok S (stk := stk) (q := q) (by omega) hq hns
        have em : (match withN ns (match mAddName { form := "SEQUENCE" } q with
            | none => none
            | some x => some ({ x.1.2 with waits := true }, x.2)) with
            | none => none
            | some x => mRun x.1.2 stk x.1.1 x.2) = mBr mRow ns stk q := by
          unfold mBr
          show _ = match mAddName { form := "SEQUENCE" } q with
            | none => none
            | some x => mRun ns stk { x.1.2 with waits := true } x.2
          cases mAddName { form := "SEQUENCE" } q with
          | none => rfl
          | some x => rfl
        suffices hsuf : MClaim (specBr mRow K (T q)) ns stk (Tk.sign (cd "{") :: q).length (mBr mRow ns stk q) by rw [← em] at hsuf; exact hsuf
        cases es : specBr mRow K (T q) with
        | none => rw [es] at C; exact C
        | some x =>
          obtain ⟨t, l⟩ := x
          rw [es] at C
          obtain ⟨r', c1, c2, c3⟩ := C
          exact ⟨r', c1, by simp only [List.length_cons]; omega, c3⟩
  · have n1 : skipT (.sign (cd "{")) r = none := by
      cases e : skipT (.sign (cd "{")) r with
      | none => rfl
      | some s => exact absurd ⟨s, skip_some e⟩ hb
    unfold mSeq
    rw [n1]
    dsimp only
    have e : specSeq K (T r) = specOf K (T r) := by
      have no : ∀ b s, T r = .sign b :: s → b = [123] → False := fun b s e eb => by
        obtain ⟨r1, e1, e2⟩ := T_sign h e
        exact hb ⟨r1, by rw [e1, eb]; rfl⟩
      unfold specSeq
      split
      · rename_i s' e; exact (no _ _ e rfl).elim
      · rename_i s' e; exact (no _ _ e rfl).elim
      · rename_i q' _ _ e; exact (no _ _ e rfl).elim
      · rfl
    rw [e]
    exact of_eq TS hK h hns
end Sp
set_option Elab.async false
set_option linter.all false
set_option maxRecDepth 100000
set_option maxHeartbeats 4000000
namespace Sp
open Th
open L2 (lowC upC)
theorem MClaim.mono {o : Option (Ql51.Ty × List Ql51.Tok)} {ns : List (List Nat)} {stk : List Kr} {b b' : Nat} {m : Option ((Kr × List (List Nat)) × List Tk)} (C : MClaim o ns stk b m) (h : b ≤ b') : MClaim o ns stk b' m := by
  cases o with
  | none => exact C
  | some x =>
    obtain ⟨t, l⟩ := x
    obtain ⟨r', c1, c2, c3⟩ := C
    exact ⟨r', c1, by omega, c3⟩
theorem own_split (w : List Nat) (h1 : ¬ w = cd "BOOLEAN") (h2 : ¬ w = cd "NULL") (h3 : ¬ w = cd "INTEGER") (h4 : ¬ w = cd "BIT") (h5 : ¬ w = cd "OCTET") (h6 : ¬ w = cd "ENUMERATED") (h7 : ¬ w = cd "CHOICE") (h8 : ¬ w = cd "SEQUENCE") :
    (w ∈ OWN) ↔ w ∈ (["SIZE", "MIN", "MAX", "OF", "STRING", "OPTIONAL", "TRUE", "FALSE"].map fun s => cd s) := by
  unfold OWN
  simp only [List.map_cons, List.map_nil, List.mem_cons, List.not_mem_nil, or_false, h1, h2, h3, h4, h5, h6, h7, h8, false_or]
  constructor
  · rintro (z | z | z | z | z | z | z | z) <;> simp [z]
  · rintro (z | z | z | z | z | z | z | z) <;> simp [z]
theorem ref_ns {w : List Nat} {ns : List (List Nat)} (hw : okW w) (hns : ∀ n ∈ ns, okW n) : NsUp ns (addN w ns) (fun b => Rf b (.ref (un w))) := by
  refine ⟨fun n hn => ?_, fun n hn => ?_⟩
  · unfold addN at hn
    rcases List.mem_append.mp hn with z | z
    · exact hns n z
    · rw [List.mem_singleton.mp z]; exact hw
  · have hr : Rf (un n) (.ref (un w)) ↔ n = w := by
      constructor
      · intro z
        generalize e : un n = b at z
        cases z
        exact un_inj hn.2.1 hw.2.1 e
      · intro z; rw [z]; exact .named
    rw [hr]
    unfold addN
    rw [List.mem_append, List.mem_singleton]
theorem ty_step (I : IntOk) {K : Nat} (TS : TyS K) (SO : MemS mOne K) (SR : MemS mRow K) : TyS (K + 1) := by
  intro ts ns stk hK h hns
  cases ts with
  | nil =>
    have e : Ql51.ty (K + 1) (T []) = none := by rw [Ql51.ty.eq_def]; rfl
    rw [e]; exact rfl
  | cons t r =>
    cases t with
    | num z =>
      have e : Ql51.ty (K + 1) (T (.num z :: r)) = none := by rw [Ql51.ty.eq_def]; rfl
      rw [e]; exact rfl
    | bits z =>
      have e : Ql51.ty (K + 1) (T (.bits z :: r)) = none := by rw [Ql51.ty.eq_def]; rfl
      rw [e]; exact rfl
    | octs z =>
      have e : Ql51.ty (K + 1) (T (.octs z :: r)) = none := by rw [Ql51.ty.eq_def]; rfl
      rw [e]; exact rfl
    | sign z =>
      have e : Ql51.ty (K + 1) (T (.sign z :: r)) = none := by rw [Ql51.ty.eq_def]; rfl
      rw [e]; exact rfl
    | word w =>
      have hw : okW w := h.head
      have hr := h.tail
      have hl : r.length ≤ (Tk.word w :: r).length := by simp
      simp only [List.length_cons] at hK
      show MClaim (Ql51.ty (K + 1) (.word (un w) :: T r)) _ _ _ _
      rw [ty_word, go_word]
      unfold mWord
      have q1 := txt_eq hw (s := "BOOLEAN") (by decide)
      have q2 := txt_eq hw (s := "NULL") (by decide)
      have q3 := txt_eq hw (s := "INTEGER") (by decide)
      have q4 := txt_eq hw (s := "BIT") (by decide)
      have q5 := txt_eq hw (s := "OCTET") (by decide)
      have q6 := txt_eq hw (s := "ENUMERATED") (by decide)
      have q7 := txt_eq hw (s := "CHOICE") (by decide)
      have q8 := txt_eq hw (s := "SEQUENCE") (by decide)
      by_cases h1 : w = cd "BOOLEAN"
      · rw [if_pos (q1.mpr h1), if_pos h1]
        refine MClaim.once (k := { form := ⟨w.toArray⟩ }) hl hr (fun x z => by cases z) .bool rfl ?_ hns
        rw [h1]; exact KT.bool
      rw [if_neg (mt q1.mp h1), if_neg h1]
      by_cases h2 : w = cd "NULL"
      · rw [if_pos (q2.mpr h2), if_pos h2]
        refine MClaim.once (k := { form := ⟨w.toArray⟩ }) hl hr (fun x z => by cases z) .null rfl ?_ hns
        rw [h2]; exact KT.null
      rw [if_neg (mt q2.mp h2), if_neg h2]
      by_cases h3 : w = cd "INTEGER"
      · rw [if_pos (q3.mpr h3), if_pos h3]
        obtain ⟨i1, i2⟩ := I r hr
        rw [i1]
        cases em : mInteger r with
        | none => exact rfl
        | some x =>
          obtain ⟨j1, j2⟩ := i2 x em
          have l1 := (mInteger_len em).1
          refine MClaim.once (t := .int x.1.low x.1.high) (by rw [List.length_cons]; omega) j2 (fun x z => by cases z) (.int _ _) (by rw [j1]) ?_ hns
          rw [j1]; exact KT.int _ _
      rw [if_neg (mt q3.mp h3), if_neg h3]
      by_cases h6 : w = cd "ENUMERATED"
      · rw [if_neg (mt q4.mp (by rw [h6]; decide)), if_neg (mt q5.mp (by rw [h6]; decide)), if_pos (q6.mpr h6), if_pos h6]
        by_cases hb : ∃ q, r = .sign (cd "{") :: q
        · obtain ⟨q, rfl⟩ := hb
          simp only [List.length_cons] at hK
          have C := (enum_eq (K := K) (q := q) (by omega) hr.tail).m (ns := ns) (stk := stk) (b := (Tk.word w :: .sign (cd "{") :: q).length) (by simp only [List.length_cons]; omega) (fun t l e x => by
            rw [specEnum_eq] at e
            have key : ∃ a m, t = .names a m := by
              split at e
              · cases e
              · unfold specClose at e
                split at e
                · cases e; exact ⟨_, _, rfl⟩
                · cases e; exact ⟨_, _, rfl⟩
                · dsimp only at e
                  split at e
                  · cases e
                  · unfold specEnd at e
                    split at e
                    · cases e; exact ⟨_, _, rfl⟩
                    · cases e
                · cases e
            obtain ⟨a, m, rfl⟩ := key
            intro z; cases z) hns
          have em : mEnum (.sign (cd "{") :: q) = mEnumQ q := by
            unfold mEnum mEnumQ
            rw [skip_same]
            dsimp only
            cases mAddName { form := "ENUMERATED" } q with
            | none => rfl
            | some x => rfl
          rw [em]
          exact C
        · have n1 : mEnum r = none := by
            unfold mEnum
            cases e : skipT (.sign (cd "{")) r with
            | none => rfl
            | some s => exact absurd ⟨s, skip_some e⟩ hb
          rw [n1]
          split
          · rename_i q e
            obtain ⟨r1, e1, e2⟩ := T_sign hr e
            exact absurd ⟨r1, by rw [e1]; rfl⟩ hb
          · exact rfl
      rw [if_neg h6]
      by_cases h4 : w = cd "BIT"
      · rw [if_pos (q4.mpr h4), if_pos h4]
        refine MClaim.mono (string_eq hr hns Ql51.Ty.bits (fun _ _ => .bits _ _) (fun _ _ x z => by cases z) fun lo hi => ?_) hl
        rw [h4]; exact KT.bits lo hi
      rw [if_neg (mt q4.mp h4), if_neg h4]
      by_cases h5 : w = cd "OCTET"
      · rw [if_pos (q5.mpr h5), if_pos h5]
        refine MClaim.mono (string_eq hr hns Ql51.Ty.octets (fun _ _ => .octets _ _) (fun _ _ x z => by cases z) fun lo hi => ?_) hl
        rw [h5]; exact KT.octets lo hi
      rw [if_neg (mt q5.mp h5), if_neg h5, if_neg (mt q6.mp h6)]
      by_cases h8 : w = cd "SEQUENCE"
      · rw [if_neg (mt q7.mp (by rw [h8]; decide)), if_pos (q8.mpr h8), if_pos h8]
        have C := seq_eq TS SR (stk := stk) (r := r) (by omega) hr hns
        unfold specSeq at C
        have eb : ∀ q, specBr mRow K q = (match Ql51.fields K q with
          | some (a, .sign [125] :: s) => some (.row a none, s)
          | some (a, .sign [44] :: .sign [46, 46, 46] :: .sign [125] :: s) => some (.row a (some []), s)
          | some (a, .sign [44] :: .sign [46, 46, 46] :: .sign [44] :: s) => (match Ql51.fields K s with
            | some (b, .sign [125] :: t) => some (.row a (some b), t)
            | _ => none)
          | _ => none) := fun q => (br_row K q).symm
        simp only [eb] at C
        exact MClaim.mono C hl
      rw [if_neg h8]
      by_cases h7 : w = cd "CHOICE"
      · rw [if_pos (q7.mpr h7), if_pos h7]
        by_cases hb : ∃ q, r = .sign (cd "{") :: q
        · obtain ⟨q, rfl⟩ := hb
          simp only [List.length_cons] at hK
          have C := br_eq one_ok SO (stk := stk) (q := q) (by omega) hr.tail hns
          have em : (match withN ns (mChoice (.sign (cd "{") :: q)) with
              | none => none
              | some x => mRun x.1.2 stk x.1.1 x.2) = mBr mOne ns stk q := by
            unfold mChoice mBr
            rw [skip_same]
            show (match withN ns (match mAddName { form := "CHOICE" } q with
              | none => none
              | some x => some ({ x.1.2 with waits := true }, x.2)) with
              | none => none
              | some x => mRun x.1.2 stk x.1.1 x.2) = match mAddName { form := "CHOICE" } q with
              | none => none
              | some x => mRun ns stk { x.1.2 with waits := true } x.2
            cases mAddName { form := "CHOICE" } q with
            | none => rfl
            | some x => rfl
          rw [← br_one] at C
          rw [← em] at C
          exact MClaim.mono C (by simp only [List.length_cons]; omega)
        · have n1 : mChoice r = none := by
            unfold mChoice
            cases e : skipT (.sign (cd "{")) r with
            | none => rfl
            | some s => exact absurd ⟨s, skip_some e⟩ hb
          rw [n1]
          split
          · rename_i q e
            obtain ⟨r1, e1, e2⟩ := T_sign hr e
            exact absurd ⟨r1, by rw [e1]; rfl⟩ hb
          · exact rfl
      rw [if_neg (mt q7.mp h7), if_neg h7, if_neg (mt q8.mp h8)]
      have hc : ([Ql51.txt "SIZE", Ql51.txt "MIN", Ql51.txt "MAX", Ql51.txt "OF", Ql51.txt "STRING", Ql51.txt "OPTIONAL", Ql51.txt "TRUE", Ql51.txt "FALSE"].contains (un w)) = decide (w ∈ OWN) := by
        have := contains_eq hw (ws := ["SIZE", "MIN", "MAX", "OF", "STRING", "OPTIONAL", "TRUE", "FALSE"]) (by decide)
        have e2 := own_split w h1 h2 h3 h4 h5 h6 h7 h8
        rw [show decide (w ∈ OWN) = decide (w ∈ (["SIZE", "MIN", "MAX", "OF", "STRING", "OPTIONAL", "TRUE", "FALSE"].map fun s => cd s)) from by simp only [e2]]
        exact this
      rw [hc, type_eq hw]
      have hk : kindName w = (headUp w && !decide (w ∈ OWN)) := rfl
      by_cases hy : headUp w = true ∧ decide (w ∈ OWN) = false
      · rw [if_pos hy, if_pos (by rw [hk, hy.1, hy.2]; rfl)]
        refine ⟨r, rfl, hl, hr, fun b hb => ?_, fun _ => ⟨{ form := "a name", target := w }, addN w ns, rfl, rfl, KT.named w, ref_ns hw hns⟩, fun z => absurd (.named _) z⟩
        cases hb
        exact ⟨w, hw, rfl⟩
      · rw [if_neg hy, if_neg (fun z => hy (by rw [hk, Bool.and_eq_true] at z; exact ⟨z.1, by simpa using z.2⟩))]
        exact rfl
theorem all_S (I : IntOk) : ∀ K, TyS K ∧ MemS mOne K ∧ MemS mRow K
  | 0 => ⟨fun ts ns stk h => by omega, fun o n r ns stk h => by omega, fun o n r ns stk h => by omega⟩
  | K + 1 => by
    obtain ⟨a, b, c⟩ := all_S I K
    exact ⟨ty_step I a b c, parts_step a b, fields_step a c⟩
end Sp
set_option Elab.async false
set_option linter.all false
set_option maxRecDepth 100000
set_option maxHeartbeats 4000000
namespace Sp
open Th
open L2 (lowC upC)
inductive Dp : Nat → Ql51.Ty → Prop
  | bool (k : Nat) : Dp (k + 1) .bool
  | null (k : Nat) : Dp (k + 1) .null
  | int (k : Nat) (lo hi : Option Int) : Dp (k + 1) (.int lo hi)
  | bits (k : Nat) (lo : Nat) (hi : Option Nat) : Dp (k + 1) (.bits lo hi)
  | octets (k : Nat) (lo : Nat) (hi : Option Nat) : Dp (k + 1) (.octets lo hi)
  | named (k : Nat) (n : Ql51.B) : Dp (k + 1) (.ref n)
  | enum (k : Nat) (l : List Ql51.B) (m : Option (List Ql51.B)) : Dp (k + 1) (.names l m)
  | many (k : Nat) (lo : Nat) (hi : Option Nat) (t : Ql51.Ty) : Dp k t → Dp (k + 1) (.many lo hi t)
  | one (k : Nat) (l : List (Ql51.B × Ql51.Ty)) (m : Option (List (Ql51.B × Ql51.Ty))) : (∀ x ∈ l ++ m.getD [], Dp k x.2) → Dp (k + 1) (.one l m)
  | row (k : Nat) (l : List (Ql51.B × Bool × Ql51.Ty)) (m : Option (List (Ql51.B × Bool × Ql51.Ty))) : (∀ x ∈ l ++ m.getD [], Dp k x.2.2) → Dp (k + 1) (.row l m)
theorem Dp.succ {k : Nat} {t : Ql51.Ty} (h : Dp k t) : Dp (k + 1) t := by
  induction h with
  | bool k => exact .bool _
  | null k => exact .null _
  | int k lo hi => exact .int _ _ _
  | bits k lo hi => exact .bits _ _ _
  | octets k lo hi => exact .octets _ _ _
  | named k n => exact .named _ _
  | enum k l m => exact .enum _ _ _
  | many k lo hi t _ ih => exact .many _ _ _ _ ih
  | one k l m _ ih => exact .one _ _ _ ih
  | row k l m _ ih => exact .row _ _ _ ih
theorem sound_iff {ns : List Ql51.B} {k : Nat} {t : Ql51.Ty} (h : Dp k t) : Ql51.sound k ns t = true ↔ Gd t ∧ ∀ b, Rf b t → b ∈ ns := by
  induction h with
  | bool k => exact ⟨fun _ => ⟨.bool, fun b z => by cases z⟩, fun _ => by rw [Ql51.sound] <;> intros <;> contradiction⟩
  | null k => exact ⟨fun _ => ⟨.null, fun b z => by cases z⟩, fun _ => by rw [Ql51.sound] <;> intros <;> contradiction⟩
  | int k lo hi => exact ⟨fun _ => ⟨.int _ _, fun b z => by cases z⟩, fun _ => by rw [Ql51.sound] <;> intros <;> contradiction⟩
  | bits k lo hi => exact ⟨fun _ => ⟨.bits _ _, fun b z => by cases z⟩, fun _ => by rw [Ql51.sound] <;> intros <;> contradiction⟩
  | octets k lo hi => exact ⟨fun _ => ⟨.octets _ _, fun b z => by cases z⟩, fun _ => by rw [Ql51.sound] <;> intros <;> contradiction⟩
  | named k n =>
    rw [Ql51.sound, List.contains_iff_mem]
    exact ⟨fun z => ⟨.named _, fun b q => by cases q; exact z⟩, fun z => z.2 n .named⟩
  | enum k l m =>
    rw [Ql51.sound, decide_eq_true_iff]
    exact ⟨fun z => ⟨.enum _ _ z, fun b q => by cases q⟩, fun z => gd_names.mp z.1⟩
  | many k lo hi t _ ih =>
    rw [Ql51.sound, ih]
    exact ⟨fun z => ⟨.many _ _ _ z.1, fun b q => by cases q with | many _ _ _ r => exact z.2 b r⟩, fun z => ⟨by cases z.1; assumption, fun b q => z.2 b (.many _ _ _ q)⟩⟩
  | one k l m _ ih =>
    rw [Ql51.sound, Bool.and_eq_true, decide_eq_true_iff, List.all_eq_true]
    constructor
    · intro z
      exact ⟨.one _ _ z.1 fun x hx => ((ih x hx).mp (z.2 x hx)).1, fun b q => by cases q with | one _ _ x hx r => exact ((ih x hx).mp (z.2 x hx)).2 b r⟩
    · intro z
      obtain ⟨g, r⟩ := z
      cases g with
      | one _ _ g1 g2 => exact ⟨g1, fun x hx => (ih x hx).mpr ⟨g2 x hx, fun b q => r b (.one _ _ x hx q)⟩⟩
  | row k l m _ ih =>
    rw [Ql51.sound, Bool.and_eq_true, decide_eq_true_iff, List.all_eq_true]
    constructor
    · intro z
      exact ⟨.row _ _ z.1 fun x hx => ((ih x hx).mp (z.2 x hx)).1, fun b q => by cases q with | row _ _ x hx r => exact ((ih x hx).mp (z.2 x hx)).2 b r⟩
    · intro z
      obtain ⟨g, r⟩ := z
      cases g with
      | row _ _ g1 g2 => exact ⟨g1, fun x hx => (ih x hx).mpr ⟨g2 x hx, fun b q => r b (.row _ _ x hx q)⟩⟩
def TyD (K : Nat) : Prop := ∀ l t l', Ql51.ty K l = some (t, l') → Dp K t
def MemD {α : Type} (M : Mem α) (K : Nat) : Prop := ∀ l a l', M.P K l = some (a, l') → ∀ x ∈ a, Dp K (M.tf x)
theorem br_dp {α : Type} {M : Mem α} {K : Nat} (D : MemD M K) (mk : ∀ l m, (∀ x ∈ l ++ m.getD [], Dp K (M.tf x)) → Dp (K + 1) (M.ty l m)) {q : List Ql51.Tok} {t : Ql51.Ty} {l' : List Ql51.Tok} (h : specBr M K q = some (t, l')) : Dp (K + 1) t := by
  unfold specBr at h
  split at h
  · cases h
  · rename_i a l e
    have ha := D _ _ _ e
    unfold specClose at h
    split at h
    · cases h; exact mk _ _ (by rw [Option.getD_none, List.append_nil]; exact ha)
    · cases h; exact mk _ _ (by rw [Option.getD_some, List.append_nil]; exact ha)
    · dsimp only at h
      split at h
      · cases h
      · rename_i b l2 e2
        have hb := D _ _ _ e2
        unfold specEnd at h
        split at h
        · cases h; exact mk _ _ (by rw [Option.getD_some]; exact fun x hx => (List.mem_append.mp hx).elim (ha x) (hb x))
        · cases h
    · cases h
theorem ty_nonword {k : Nat} {l : List Ql51.Tok} (h : ∀ w r, l ≠ .word w :: r) : Ql51.ty (k + 1) l = none := by
  rw [Ql51.ty.eq_def]
  cases l with
  | nil => rfl
  | cons t r =>
    cases t with
    | word w => exact absurd rfl (h w r)
    | num z => rfl
    | bits z => rfl
    | hex z => rfl
    | sign z => rfl
theorem specEnum_names {k : Nat} {q : List Ql51.Tok} {t : Ql51.Ty} {l : List Ql51.Tok} (e : specEnum k q = some (t, l)) : ∃ a m, t = .names a m := by
  rw [specEnum_eq] at e
  split at e
  · cases e
  · unfold specClose at e
    split at e
    · cases e; exact ⟨_, _, rfl⟩
    · cases e; exact ⟨_, _, rfl⟩
    · dsimp only at e
      split at e
      · cases e
      · unfold specEnd at e
        split at e
        · cases e; exact ⟨_, _, rfl⟩
        · cases e
    · cases e
theorem ty_dp_step {K : Nat} (TD : TyD K) (DO : MemD mOne K) (DR : MemD mRow K) : TyD (K + 1) := by
  intro l t l' h
  by_cases hw : ∃ w r, l = .word w :: r
  · obtain ⟨w, r, rfl⟩ := hw
    rw [ty_word] at h
    split at h
    · cases h; exact .bool _
    split at h
    · cases h; exact .null _
    split at h
    · cases e : Ql51.bounds r with
      | none => rw [e] at h; cases h
      | some x => rw [e] at h; cases h; exact .int _ _ _
    split at h
    · split at h
      · rename_i s q
        split at h
        · cases e : Ql51.sizes q with
          | none => rw [e] at h; cases h
          | some x => rw [e] at h; cases h; exact .bits _ _ _
        · cases h
      · cases h
    split at h
    · split at h
      · rename_i s q
        split at h
        · cases e : Ql51.sizes q with
          | none => rw [e] at h; cases h
          | some x => rw [e] at h; cases h; exact .octets _ _ _
        · cases h
      · cases h
    split at h
    · split at h
      · obtain ⟨a, m, rfl⟩ := specEnum_names h
        exact .enum _ _ _
      · cases h
    split at h
    · split at h
      · rw [br_one] at h
        exact br_dp DO (fun l m hx => .one _ _ _ hx) h
      · cases h
    split at h
    · split at h
      · cases h; exact .row _ _ _ (by simp)
      · cases h; exact .row _ _ _ (by simp)
      · rw [br_row] at h
        exact br_dp DR (fun l m hx => .row _ _ _ hx) h
      · split at h
        · split at h
          · cases h
          · rename_i s _ _
            cases e : Ql51.ty K s with
            | none => rw [e] at h; cases h
            | some y =>
              obtain ⟨t2, l2⟩ := y
              rw [e] at h
              cases h
              exact .many _ _ _ _ (TD _ _ _ e)
        · cases h
    split at h
    · cases h; exact .named _ _
    · cases h
  · rw [ty_nonword fun w r e => hw ⟨w, r, e⟩] at h
    cases h
theorem parts_dp_step {K : Nat} (TD : TyD K) (D : MemD mOne K) : MemD mOne (K + 1) := by
  intro l a l' h x hx
  have h : Ql51.parts (K + 1) l = some (a, l') := h
  show Dp (K + 1) x.2
  by_cases hw : ∃ w r, l = .word w :: r
  · obtain ⟨w, r, rfl⟩ := hw
    rw [parts_word] at h
    split at h
    · cases h
    · cases e : Ql51.ty K r with
      | none => rw [e] at h; cases h
      | some y =>
        obtain ⟨t, q⟩ := y
        rw [e, parts_match] at h
        unfold specNext at h
        split at h
        · rename_i v s
          cases e2 : Ql51.parts K (.word v :: s) with
          | none => rw [show mOne.P K (.word v :: s) = none from e2] at h; cases h
          | some z =>
            rw [show mOne.P K (.word v :: s) = some z from e2] at h
            cases h
            rcases List.mem_cons.mp hx with q | q
            · rw [q]; exact (TD _ _ _ e).succ
            · exact (D _ _ _ (show mOne.P K (.word v :: s) = some (z.1, z.2) from e2) x q).succ
        · cases h
          rw [List.mem_singleton.mp hx]; exact (TD _ _ _ e).succ
  · rw [Ql51.parts.eq_def] at h
    cases l with
    | nil => cases h
    | cons t r =>
      cases t with
      | word w => exact absurd ⟨w, r, rfl⟩ hw
      | num z => cases h
      | bits z => cases h
      | hex z => cases h
      | sign z => cases h
theorem fields_dp_step {K : Nat} (TD : TyD K) (D : MemD mRow K) : MemD mRow (K + 1) := by
  intro l a l' h x hx
  have h : Ql51.fields (K + 1) l = some (a, l') := h
  show Dp (K + 1) x.2.2
  by_cases hw : ∃ w r, l = .word w :: r
  · obtain ⟨w, r, rfl⟩ := hw
    rw [fields_word] at h
    split at h
    · cases h
    · cases e : Ql51.ty K r with
      | none => rw [e] at h; cases h
      | some y =>
        obtain ⟨t, q⟩ := y
        rw [e] at h
        dsimp only at h
        generalize (match q with
          | .word w :: s => if w = Ql51.txt "OPTIONAL" then (true, s) else (false, q)
          | _ => (false, q)) = oq at h
        obtain ⟨o, q2⟩ := oq
        split at h
        · rename_i v s _
          cases e2 : Ql51.fields K (.word v :: s) with
          | none => rw [e2] at h; cases h
          | some z =>
            rw [e2] at h
            cases h
            rcases List.mem_cons.mp hx with q | q
            · rw [q]; exact (TD _ _ _ e).succ
            · exact (D _ _ _ (show mRow.P K (.word v :: s) = some (z.1, z.2) from e2) x q).succ
        · cases h
          rw [List.mem_singleton.mp hx]; exact (TD _ _ _ e).succ
  · rw [Ql51.fields.eq_def] at h
    cases l with
    | nil => cases h
    | cons t r =>
      cases t with
      | word w => exact absurd ⟨w, r, rfl⟩ hw
      | num z => cases h
      | bits z => cases h
      | hex z => cases h
      | sign z => cases h
theorem all_D : ∀ K, TyD K ∧ MemD mOne K ∧ MemD mRow K
  | 0 => by
    refine ⟨fun l t l' h => ?_, fun l a l' h => ?_, fun l a l' h => ?_⟩
    · rw [Ql51.ty] at h; cases h
    · rw [show mOne.P 0 l = none from by show Ql51.parts 0 l = none; rw [Ql51.parts]] at h; cases h
    · rw [show mRow.P 0 l = none from by show Ql51.fields 0 l = none; rw [Ql51.fields]] at h; cases h
  | K + 1 => by
    obtain ⟨a, b, c⟩ := all_D K
    exact ⟨ty_dp_step a b c, parts_dp_step a b, fields_dp_step a c⟩
end Sp
set_option Elab.async false
set_option linter.all false
set_option maxRecDepth 100000
set_option maxHeartbeats 4000000
namespace Sp
open Th
open L2 (lowC upC)
def OWNS : List String := ["BOOLEAN", "NULL", "INTEGER", "BIT", "OCTET", "ENUMERATED", "CHOICE", "SEQUENCE", "SIZE", "MIN", "MAX", "OF", "STRING", "OPTIONAL", "TRUE", "FALSE"]
theorem own_all (w : List Nat) : w ∈ OWN ↔ w ∈ OWNS.map fun s => cd s := by
  unfold OWN OWNS
  simp only [List.map_cons, List.map_nil, List.mem_cons, List.not_mem_nil, or_false]
  constructor
  · rintro (z | z | z | z | z | z | z | z | z | z | z | z | z | z | z | z) <;> simp [z]
  · rintro (z | z | z | z | z | z | z | z | z | z | z | z | z | z | z | z) <;> simp [z]
theorem defs_word {k : Nat} {n : List UInt8} {r : List Ql51.Tok} : Ql51.defs (k + 1) (.word n :: .sign [58, 58, 61] :: r) = if Ql51.isType n = false ∨ ((OWNS.map Ql51.txt).contains n) = true then none else (match Ql51.ty k r with
      | some (t, q) => (Ql51.defs k q).map fun s => (n, t) :: s
      | none => none) := by rw [Ql51.defs.eq_def]; rfl
theorem defs_no {k : Nat} {ts : List Tk} (h : Oks ts) (h0 : ts ≠ []) (hn : ∀ w r, ts ≠ .word w :: .sign (cd "::=") :: r) : Ql51.defs (k + 1) (T ts) = none := by
  rw [Ql51.defs.eq_def]
  dsimp only
  split
  · rename_i e
    cases ts with
    | nil => exact absurd rfl h0
    | cons t r => cases e
  · rename_i n r e
    obtain ⟨r1, e1, e2⟩ := T_word h e
    rw [e1] at h
    obtain ⟨r2, e3, e4⟩ := T_sign h.tail e2
    exact absurd (by rw [e1, e3]; rfl) (hn (n.map UInt8.toNat) r2)
  · rfl
theorem name_iff {w : List Nat} (hw : okW w) : (Ql51.isType (un w) = false ∨ ((OWNS.map Ql51.txt).contains (un w)) = true) ↔ kindName w = false := by
  rw [type_eq hw, contains_eq hw (by decide)]
  have hk : kindName w = (headUp w && !decide (w ∈ OWN)) := rfl
  rw [hk]
  have e : decide (w ∈ OWN) = decide (w ∈ OWNS.map fun s => cd s) := by simp only [own_all w]
  rw [e]
  cases headUp w <;> cases decide (w ∈ OWNS.map fun s => cd s) <;> simp
theorem defs_eq (I : IntOk) : ∀ (K N : Nat) (ts : List Tk) (ns : List (List Nat)) (ds : List (List Nat × Kd)), ts.length < K → ts.length < N → Oks ts → (∀ n ∈ ns, okW n) → (ds.map Prod.fst).Nodup →
    match Ql51.defs K (T ts) with
    | none => mDefsF N ns ds ts = none
    | some s => ∃ vs : List (List Nat), s.map (fun x => x.1) = vs.map un ∧ (∀ v ∈ vs, okW v) ∧ (∀ x ∈ s, RefOk x.2) ∧ (∀ x ∈ s, Dp K x.2) ∧
      (((ds.map Prod.fst ++ vs).Nodup ∧ ∀ x ∈ s, Gd x.2) → ∃ (kds : List Kd) (ns' : List (List Nat)), KTs kds (s.map fun x => x.2) ∧ NsUp ns ns' (fun b => ∃ x ∈ s, Rf b x.2) ∧ mDefsF N ns ds ts = some (ds ++ vs.zip kds, ns')) ∧
      (¬ ((ds.map Prod.fst ++ vs).Nodup ∧ ∀ x ∈ s, Gd x.2) → mDefsF N ns ds ts = none)
  | 0, _, _, _, _, h, _, _, _, _ => by omega
  | _, 0, _, _, _, _, h, _, _, _ => by omega
  | K + 1, N + 1, ts, ns, ds, hK, hN, h, hns, hd => by
    rw [mDefsF_succ]
    cases ts with
    | nil =>
      have e : Ql51.defs (K + 1) (T []) = some [] := by rw [Ql51.defs.eq_def]; rfl
      rw [e]
      refine ⟨[], rfl, by simp, by simp, by simp, fun _ => ⟨[], ns, .nil, .refl hns (by simp), by simp⟩, fun z => absurd ⟨by rw [List.append_nil]; exact hd, by simp⟩ z⟩
    | cons t r =>
      by_cases hs : ∃ w r2, t :: r = .word w :: .sign (cd "::=") :: r2
      · obtain ⟨w, r2, e⟩ := hs
        injection e with e1 e2
        subst e1 e2
        have hw : okW w := h.head
        dsimp only
        rw [skip_same]
        dsimp only
        simp only [List.length_cons] at hK hN
        show match Ql51.defs (K + 1) (.word (un w) :: .sign [58, 58, 61] :: T r2) with
          | none => _
          | some s => _
        rw [defs_word]
        by_cases hk : kindName w = false
        · rw [if_pos ((name_iff hw).mpr hk)]
          exact if_neg (fun z => by rw [hk] at z; exact absurd z.1 (by decide))
        · have hk' : kindName w = true := by simpa using hk
          rw [if_neg (mt (name_iff hw).mp hk), mKind_eq]
          have C := (all_S I K).1 r2 ns [] (by omega) h.tail.tail hns
          cases et : Ql51.ty K (T r2) with
          | none =>
            rw [et] at C
            have C' : mGo ns [] r2 = none := C
            rw [C']
            dsimp only
            split <;> rfl
          | some x =>
            obtain ⟨t, l⟩ := x
            have dp := (all_D K).1 _ _ _ et
            rw [et] at C
            obtain ⟨q, rfl, c2, c3, c4, c5, c6⟩ := C
            dsimp only
            by_cases hg : Gd t ∧ w ∉ ds.map Prod.fst
            · rw [if_pos ⟨hk', hg.2⟩]
              obtain ⟨k, ns1, k1, k2, k3, k4⟩ := c5 hg.1
              rw [k1, mRun_end k2]
              dsimp only
              have hd' : ((ds ++ [(w, k.fin)]).map Prod.fst).Nodup := by
                rw [List.map_append, List.nodup_append]
                refine ⟨hd, by simp, fun a ha b hb e => hg.2 ?_⟩
                have hbw : b = w := by simpa using hb
                rw [← hbw, ← e]; exact ha
              have ih := defs_eq I K N q ns1 (ds ++ [(w, k.fin)]) (by omega) (by omega) c3 k4.ok hd'
              cases ed : Ql51.defs K (T q) with
              | none => rw [ed] at ih; exact ih
              | some s =>
                rw [ed] at ih
                obtain ⟨vs, i1, i2, i3, i4, i5, i6⟩ := ih
                have en : (ds ++ [(w, k.fin)]).map Prod.fst ++ vs = ds.map Prod.fst ++ w :: vs := by rw [List.map_append, List.append_assoc]; rfl
                rw [en] at i5 i6
                refine ⟨w :: vs, by show un w :: s.map (fun x => x.1) = _; rw [i1]; rfl, fun v hv => ?_, fun x hx => ?_, fun x hx => ?_, fun g => ?_, fun g => ?_⟩
                · rcases List.mem_cons.mp hv with z | z
                  · rw [z]; exact hw
                  · exact i2 v z
                · rcases List.mem_cons.mp hx with z | z
                  · rw [z]; exact c4
                  · exact i3 x z
                · rcases List.mem_cons.mp hx with z | z
                  · rw [z]; exact dp.succ
                  · exact (i4 x z).succ
                · obtain ⟨kds, ns2, p1, p2, p3⟩ := i5 ⟨g.1, fun x hx => g.2 x (List.mem_cons_of_mem _ hx)⟩
                  refine ⟨k.fin :: kds, ns2, .cons k3 p1, k4.trans p2 fun y => ?_, ?_⟩
                  · exact ⟨fun ⟨z, hz, q⟩ => (List.mem_cons.mp hz).elim (fun e => .inl (by rw [e] at q; exact q)) (fun e => .inr ⟨z, e, q⟩), fun z => z.elim (fun q => ⟨(un w, t), List.mem_cons_self, q⟩) (fun ⟨x, hx, q⟩ => ⟨x, List.mem_cons_of_mem _ hx, q⟩)⟩
                  · rw [p3, List.append_assoc]; rfl
                · exact i6 fun z => g ⟨z.1, fun x hx => (List.mem_cons.mp hx).elim (fun e => by rw [e]; exact hg.1) (z.2 x)⟩
            · have none_ : (if kindName w = true ∧ w ∉ ds.map Prod.fst then match mGo ns [] r2 with
                  | none => none
                  | some x => mDefsF N x.1.2 (ds ++ [(w, x.1.1.fin)]) x.2 else none) = none := by
                by_cases hg1 : Gd t
                · rw [if_neg (fun z => hg ⟨hg1, z.2⟩)]
                · rw [c6 hg1]; dsimp only; split <;> rfl
              have ih := defs_eq I K N q [] [] (by omega) (by omega) c3 (by simp) (by simp)
              cases ed : Ql51.defs K (T q) with
              | none => exact none_
              | some s =>
                rw [ed] at ih
                obtain ⟨vs, i1, i2, i3, i4, i5, i6⟩ := ih
                refine ⟨w :: vs, by show un w :: s.map (fun x => x.1) = _; rw [i1]; rfl, fun v hv => ?_, fun x hx => ?_, fun x hx => ?_, fun g => ?_, fun _ => none_⟩
                · rcases List.mem_cons.mp hv with z | z
                  · rw [z]; exact hw
                  · exact i2 v z
                · rcases List.mem_cons.mp hx with z | z
                  · rw [z]; exact c4
                  · exact i3 x z
                · rcases List.mem_cons.mp hx with z | z
                  · rw [z]; exact dp.succ
                  · exact (i4 x z).succ
                · exfalso
                  refine hg ⟨g.2 (un w, t) List.mem_cons_self, fun z => ?_⟩
                  exact (List.nodup_append.mp g.1).2.2 w z w List.mem_cons_self rfl
      · rw [defs_no h (by simp) fun w r2 e => hs ⟨w, r2, e⟩]
        show _ = none
        cases t with
        | word w =>
          dsimp only
          split
          · cases e : skipT (.sign (cd "::=")) r with
            | none => rfl
            | some r2 => exact absurd ⟨w, r2, by rw [skip_some e]⟩ hs
          · rfl
        | num z => rfl
        | bits z => rfl
        | octs z => rfl
        | sign z => rfl
theorem KTs.len : ∀ {ks : List Kd} {ts : List Ql51.Ty}, KTs ks ts → ks.length = ts.length
  | _, _, .nil => rfl
  | _, _, .cons _ b => by rw [List.length_cons, List.length_cons, KTs.len b]
def SameS (s : Option Ql51.Schema) (d : Option (List (List Nat × Kd))) : Prop := match s, d with
  | none, none => True
  | some s, some ds => s.map (fun x => x.1) = ds.map (fun x => un x.1) ∧ (∀ x ∈ ds, okW x.1) ∧ KTs (ds.map fun x => x.2) (s.map fun x => x.2) ∧ s.length = ds.length
  | _, _ => False
theorem zip_fst {α β : Type} : ∀ {l : List α} {m : List β}, l.length = m.length → (l.zip m).map (fun x => x.1) = l
  | [], [], _ => rfl
  | a :: l, b :: m, h => by
    show a :: (l.zip m).map (fun x => x.1) = _
    rw [zip_fst (by simpa using h)]
theorem zip_snd {α β : Type} : ∀ {l : List α} {m : List β}, l.length = m.length → (l.zip m).map (fun x => x.2) = m
  | [], [], _ => rfl
  | a :: l, b :: m, h => by
    show b :: (l.zip m).map (fun x => x.2) = _
    rw [zip_snd (by simpa using h)]
theorem schema_eq (I : IntOk) (b : List UInt8) (cs : List Nat) (hc : cs.map lc = L b) : SameS (Ql51.schema b) (mAll cs) := by
  unfold Ql51.schema mAll
  rw [tokens_eq (b.length + 1) b (by omega), hc]
  cases et : toks (L b) with
  | none => exact trivial
  | some ts =>
    have hok : Oks ts := (toksF_ok _ (L_lt b) et).1
    show SameS (match Ql51.defs ((T ts).length + 1) (T ts) with
      | none => none
      | some s => if (s.map fun x => x.1).Nodup ∧ s ≠ [] ∧ s.length ≤ Ql51.TYPES ∧ (s.all fun x => Ql51.sound ((T ts).length + 1) (s.map fun x => x.1) x.2) = true then some s else none) (mSchema ts)
    have hl : (T ts).length = ts.length := List.length_map _
    rw [hl]
    have D := defs_eq I (ts.length + 1) (ts.length + 1) ts [] [] (by omega) (by omega) hok (by simp) (by simp)
    unfold mSchema
    cases ed : Ql51.defs (ts.length + 1) (T ts) with
    | none =>
      rw [ed] at D
      rw [show mDefsF (ts.length + 1) [] [] ts = none from D]
      exact trivial
    | some s =>
      rw [ed] at D
      obtain ⟨vs, i1, i2, i3, i4, i5, i6⟩ := D
      rw [show ([] : List (List Nat × Kd)).map Prod.fst ++ vs = vs from rfl] at i5 i6
      dsimp only
      have nd : (s.map fun x => x.1).Nodup ↔ vs.Nodup := by rw [i1]; exact nodup_un i2
      have hlen : vs.length = s.length := by have := congrArg List.length i1; rw [List.length_map, List.length_map] at this; exact this.symm
      have hsound : (s.all fun x => Ql51.sound (ts.length + 1) (s.map fun x => x.1) x.2) = true ↔ (∀ x ∈ s, Gd x.2) ∧ ∀ x ∈ s, ∀ b, Rf b x.2 → b ∈ s.map fun x => x.1 := by
        rw [List.all_eq_true]
        exact ⟨fun z => ⟨fun x hx => ((sound_iff (i4 x hx)).mp (z x hx)).1, fun x hx => ((sound_iff (i4 x hx)).mp (z x hx)).2⟩, fun z x hx => (sound_iff (i4 x hx)).mpr ⟨z.1 x hx, z.2 x hx⟩⟩
      by_cases hg : vs.Nodup ∧ ∀ x ∈ s, Gd x.2
      · obtain ⟨kds, ns', p1, p2, p3⟩ := i5 hg
        have hkl : vs.length = kds.length := by rw [p1.len, List.length_map, hlen]
        rw [show mDefsF (ts.length + 1) [] [] ts = some (vs.zip kds, ns') from p3]
        dsimp only
        unfold mFin
        have zl : (vs.zip kds).length = s.length := by rw [List.length_zip, ← hkl, Nat.min_self, hlen]
        have zf : (vs.zip kds).map Prod.fst = vs := zip_fst hkl
        rw [zl, zf]
        have hrefs : (ns'.all fun n => decide (n ∈ vs)) = true ↔ ∀ x ∈ s, ∀ b, Rf b x.2 → b ∈ s.map fun x => x.1 := by
          rw [List.all_eq_true]
          constructor
          · intro z x hx b hb
            obtain ⟨n, hn, rfl⟩ := i3 x hx b hb
            have := (p2.iff n hn).mpr (.inr ⟨x, hx, hb⟩)
            rw [i1]
            exact List.mem_map.mpr ⟨n, of_decide_eq_true (z n this), rfl⟩
          · intro z n hn
            have hnk := p2.ok n hn
            rcases (p2.iff n hnk).mp hn with q | ⟨x, hx, q⟩
            · cases q
            · have := z x hx _ q
              rw [i1] at this
              obtain ⟨v, hv, e⟩ := List.mem_map.mp this
              have := un_inj (i2 v hv).2.1 hnk.2.1 e
              exact decide_eq_true (by rw [← this]; exact hv)
        by_cases hf : s.length < 1 ∨ 256 < s.length
        · rw [if_pos hf, if_neg (fun z => ?_)]
          · exact trivial
          · rcases hf with q | q
            · exact z.2.1 (List.length_eq_zero_iff.mp (by omega))
            · have : Ql51.TYPES = 256 := rfl
              have := z.2.2.1
              omega
        · rw [if_neg hf]
          by_cases hr : (ns'.all fun n => decide (n ∈ vs)) = true
          · rw [if_pos hr, if_pos ⟨nd.mpr hg.1, fun e => hf (.inl (by rw [e]; simp)), by have : Ql51.TYPES = 256 := rfl; omega, hsound.mpr ⟨hg.2, hrefs.mp hr⟩⟩]
            refine ⟨?_, fun x hx => ?_, ?_, zl.symm⟩
            · rw [i1]
              show vs.map un = (vs.zip kds).map (un ∘ Prod.fst)
              rw [← List.map_map, zf]
            · have : x.1 ∈ (vs.zip kds).map Prod.fst := List.mem_map.mpr ⟨x, hx, rfl⟩
              rw [zf] at this
              exact i2 _ this
            · rw [zip_snd hkl]; exact p1
          · rw [if_neg hr, if_neg (fun z => hr (hrefs.mpr (hsound.mp z.2.2.2).2))]
            exact trivial
      · rw [show mDefsF (ts.length + 1) [] [] ts = none from i6 hg, if_neg (fun z => hg ⟨nd.mp z.1, (hsound.mp z.2.2.2).1⟩)]
        exact trivial
theorem ans_of (I : IntOk) (ns : List Int) (h1 : ns.length ≤ 65536) (h2 : ∀ x ∈ ns, 0 ≤ x ∧ x ≤ 255) : PyQl51.schema ns = [mAns (ns.map Int.toNat)] := by
  have hc : (ns.map Int.toNat).map lc = L (Ql51Neutral.octets ns) := by
    unfold L Ql51Neutral.octets
    rw [List.map_map, List.map_map]
    refine List.map_congr_left fun x hx => ?_
    have := h2 x hx
    show lc x.toNat = lc (UInt8.ofNat x.toNat).toNat
    rw [UInt8.toNat_ofNat']
    have : x.toNat % 2 ^ 8 = x.toNat := Nat.mod_eq_of_lt (by omega)
    rw [this]
  have S := schema_eq I (Ql51Neutral.octets ns) (ns.map Int.toNat) hc
  show (if (65536 : Int) < (ns.length : Int) then [-1] else (match Ql51.schema (Ql51Neutral.octets ns) with
    | none => [-2]
    | some x => [(x.length : Int)])) = _
  rw [if_neg (by omega)]
  unfold mAns
  cases e1 : Ql51.schema (Ql51Neutral.octets ns) with
  | none =>
    cases e2 : mAll (ns.map Int.toNat) with
    | none => rfl
    | some ds => rw [e1, e2] at S; exact S.elim
  | some s =>
    cases e2 : mAll (ns.map Int.toNat) with
    | none => rw [e1, e2] at S; exact S.elim
    | some ds =>
      rw [e1, e2] at S
      show [(s.length : Int)] = [(ds.length : Int)]
      rw [S.2.2.2]
end Sp
set_option Elab.async false
set_option linter.all false
set_option maxRecDepth 100000
set_option maxHeartbeats 4000000
namespace Sp
open Th
open L2 (lowC upC)
def mTop (low : Option Int) (r : List Tk) : Option (Option Int × List Tk) := match skipT (.word (cd "MAX")) r with
  | some r2 => some (none, r2)
  | none => match mNumber LEAST MOST r with
    | none => none
    | some (h, r2) => if (low.any fun a => decide (h < a)) = true then none else some (some h, r2)
def mIntIn (r1 : List Tk) : Option ((Option Int × Option Int) × List Tk) := match skipT (.word (cd "MIN")) r1 with
  | some r2 => match skipT (.sign (cd "..")) r2 with
    | none => none
    | some r3 => match mTop none r3 with
      | none => none
      | some (h, r4) => match skipT (.sign (cd ")")) r4 with
        | none => none
        | some r5 => some ((none, h), r5)
  | none => match mNumber LEAST MOST r1 with
    | none => none
    | some (z, r2) => match mHigh (some z) LEAST MOST r2 with
      | none => none
      | some (h, r3) => match skipT (.sign (cd ")")) r3 with
        | none => none
        | some r4 => some ((some z, h), r4)
theorem mNumber_some {lo hi : Int} {r : List Tk} {z : Int} {r2 : List Tk} (e : mNumber lo hi r = some (z, r2)) : r = .num z :: r2 := by
  unfold mNumber at e
  split at e
  · split at e
    · cases e
    · cases e; rfl
  · cases e
theorem mTop_some {low : Option Int} {r : List Tk} {h : Option Int} {r2 : List Tk} (e : mTop low r = some (h, r2)) : ∃ b, r = b :: r2 := by
  unfold mTop at e
  split at e
  · rename_i r3 e3; cases e; exact ⟨_, skip_some e3⟩
  · split at e
    · cases e
    · rename_i z r3 e3
      split at e
      · cases e
      · cases e; exact ⟨_, mNumber_some e3⟩
theorem mHigh_top (low : Option Int) (r : List Tk) : mHigh low LEAST MOST r = match skipT (.sign (cd "..")) r with
  | none => match low with
    | none => none
    | some a => some (some a, r)
  | some r1 => mTop low r1 := by
  unfold mHigh mTop
  cases skipT (.sign (cd "..")) r with
  | none => rfl
  | some r1 => rfl
theorem mIntIn_no {r : List Tk} (hn : ¬ Shape r) : mIntIn r = none := by
  unfold mIntIn
  cases e1 : skipT (.word (cd "MIN")) r with
  | some r2 =>
    dsimp only
    cases e2 : skipT (.sign (cd "..")) r2 with
    | none => rfl
    | some r3 =>
      dsimp only
      cases e3 : mTop none r3 with
      | none => rfl
      | some x =>
        obtain ⟨h, r4⟩ := x
        dsimp only
        cases e4 : skipT (.sign (cd ")")) r4 with
        | none => rfl
        | some r5 =>
          obtain ⟨b, hb⟩ := mTop_some e3
          exact absurd (.two _ b r5 (by rw [skip_some e1, skip_some e2, hb, skip_some e4]; rfl)) hn
  | none =>
    dsimp only
    cases e2 : mNumber LEAST MOST r with
    | none => rfl
    | some x =>
      obtain ⟨z, r2⟩ := x
      have hz := mNumber_some e2
      dsimp only
      rw [mHigh_top]
      cases e3 : skipT (.sign (cd "..")) r2 with
      | none =>
        dsimp only
        cases e4 : skipT (.sign (cd ")")) r2 with
        | none => rfl
        | some r4 => exact absurd (.one z r4 (by rw [hz, skip_some e4]; rfl)) hn
      | some r3 =>
        dsimp only
        cases e4 : mTop (some z) r3 with
        | none => rfl
        | some x =>
          obtain ⟨h, r4⟩ := x
          dsimp only
          cases e5 : skipT (.sign (cd ")")) r4 with
          | none => rfl
          | some r5 =>
            obtain ⟨b, hb⟩ := mTop_some e4
            exact absurd (.two _ b r5 (by rw [hz, skip_some e3, hb, skip_some e5]; rfl)) hn
theorem lo_val : LEAST = -9223372036854775808 := rfl
theorem hi_val : MOST = 9223372036854775807 := rfl
theorem num_in (z : Int) : (z < LEAST ∨ MOST < z) ↔ ¬ (-9223372036854775808 ≤ z ∧ z < 9223372036854775808) := by rw [lo_val, hi_val]; omega
theorem mNumber_num (z : Int) (q : List Tk) : mNumber LEAST MOST (.num z :: q) = if -9223372036854775808 ≤ z ∧ z < 9223372036854775808 then some (z, q) else none := by
  show (if z < LEAST ∨ MOST < z then none else some (z, q)) = _
  by_cases h : -9223372036854775808 ≤ z ∧ z < 9223372036854775808
  · rw [if_pos h, if_neg (fun x => (num_in z).mp x h)]
  · rw [if_neg h, if_pos ((num_in z).mpr h)]
theorem top_eq {low : Option Int} {b : Tk} {q : List Tk} (h : b.ok) : (match mTop low (b :: .sign [41] :: q) with
    | none => none
    | some (h, r4) => match skipT (.sign (cd ")")) r4 with
      | none => none
      | some r5 => some ((low, h), T r5)) = pairT (some low) (highT (tkOf b)) (T q) := by
  have sk : skipT (.sign (cd ")")) (.sign [41] :: q) = some q := skip_same _ _
  unfold mTop
  cases b with
  | num z =>
    rw [skip_ne (by intro z; cases z)]
    dsimp only
    rw [mNumber_num]
    have eh : highT (tkOf (.num z)) = if -9223372036854775808 ≤ z ∧ z < 9223372036854775808 then some (some z) else none := by rw [← bound_val]; rfl
    rw [eh]
    by_cases hz : -9223372036854775808 ≤ z ∧ z < 9223372036854775808
    · rw [if_pos hz, if_pos hz]
      dsimp only
      cases low with
      | none =>
        rw [if_neg (by simp)]
        dsimp only
        rw [sk]; rfl
      | some a =>
        show _ = if a ≤ z then some ((some a, some z), T q) else none
        by_cases ha : a ≤ z
        · rw [if_pos ha, if_neg (show ¬ ((some a).any fun a => decide (z < a)) = true from fun y => by
            have := of_decide_eq_true (show decide (z < a) = true from y); omega)]
          dsimp only
          rw [sk]
        · rw [if_neg ha, if_pos (show ((some a).any fun a => decide (z < a)) = true from by show decide (z < a) = true; exact decide_eq_true (by omega))]
    · rw [if_neg hz, if_neg hz]
      cases low <;> rfl
  | word w =>
    rw [highT_word h]
    by_cases e : w = cd "MAX"
    · rw [if_pos e, e, skip_same]
      dsimp only
      rw [sk]
      cases low <;> rfl
    · rw [if_neg e, skip_ne (fun z => e (by injection z))]
      cases low <;> rfl
  | bits l => rw [highT_else (by intro z e; cases e) (by intro z e; cases e), skip_ne (by intro z; cases z)]; cases low <;> rfl
  | octs l => rw [highT_else (by intro z e; cases e) (by intro z e; cases e), skip_ne (by intro z; cases z)]; cases low <;> rfl
  | sign l => rw [highT_else (by intro z e; cases e) (by intro z e; cases e), skip_ne (by intro z; cases z)]; cases low <;> rfl
theorem intIn_eq {r : List Tk} (h : Oks r) : Ql51.bounds (.sign [40] :: T r) = (mIntIn r).map fun x => (x.1, T x.2) := by
  by_cases hs : Shape r
  · cases hs with
    | one z q e =>
      subst e
      rw [bounds_one, bound_val]
      unfold mIntIn
      rw [skip_ne (by intro z; cases z)]
      dsimp only
      rw [mNumber_num]
      by_cases hz : -9223372036854775808 ≤ z ∧ z < 9223372036854775808
      · rw [if_pos hz, if_pos hz]
        dsimp only
        rw [mHigh_top, skip_ne (by intro z; injection z with z; revert z; decide)]
        dsimp only
        rw [show skipT (.sign (cd ")")) (.sign [41] :: q) = some q from skip_same _ _]
        rfl
      · rw [if_neg hz, if_neg hz]; rfl
    | two a b q e =>
      subst e
      rw [bounds_two]
      have hb : b.ok := h.tail.tail.head
      unfold mIntIn
      have sd : skipT (.sign (cd "..")) (.sign [46, 46] :: b :: .sign [41] :: q) = some (b :: .sign [41] :: q) := skip_same _ _
      cases a with
      | num z =>
        rw [skip_ne (by intro z; cases z)]
        dsimp only
        rw [mNumber_num]
        have el : lowT (tkOf (.num z)) = if -9223372036854775808 ≤ z ∧ z < 9223372036854775808 then some (some z) else none := by rw [← bound_val]; rfl
        rw [el]
        by_cases hz : -9223372036854775808 ≤ z ∧ z < 9223372036854775808
        · rw [if_pos hz, if_pos hz]
          dsimp only
          rw [mHigh_top, sd]
          dsimp only
          rw [← top_eq hb]
          cases mTop (some z) (b :: .sign [41] :: q) with
          | none => rfl
          | some x =>
            obtain ⟨hh, r4⟩ := x
            dsimp only
            cases skipT (.sign (cd ")")) r4 with
            | none => rfl
            | some r5 => rfl
        · rw [if_neg hz, if_neg hz]; rfl
      | word w =>
        have hw : (Tk.word w).ok := h.head
        rw [lowT_word hw]
        by_cases e : w = cd "MIN"
        · rw [if_pos e, e, skip_same]
          dsimp only
          rw [sd]
          dsimp only
          rw [← top_eq hb]
          cases mTop none (b :: .sign [41] :: q) with
          | none => rfl
          | some x =>
            obtain ⟨hh, r4⟩ := x
            dsimp only
            cases skipT (.sign (cd ")")) r4 with
            | none => rfl
            | some r5 => rfl
        · rw [if_neg e, skip_ne (fun z => e (by injection z))]; rfl
      | bits l => rw [lowT_else (by intro z e; cases e) (by intro z e; cases e), skip_ne (by intro z; cases z)]; rfl
      | octs l => rw [lowT_else (by intro z e; cases e) (by intro z e; cases e), skip_ne (by intro z; cases z)]; rfl
      | sign l => rw [lowT_else (by intro z e; cases e) (by intro z e; cases e), skip_ne (by intro z; cases z)]; rfl
  · rw [bounds_no h hs, mIntIn_no hs]; rfl
theorem int_none {r : List Tk} (h : Oks r) (hn : ∀ q, r ≠ .sign (cd "(") :: q) : Ql51.bounds (T r) = some ((none, none), T r) := by
  unfold Ql51.bounds
  split
  · rename_i e
    obtain ⟨r1, e1, e2⟩ := T_sign h e
    exact absurd (by rw [e1]; rfl) (hn r1)
  · rename_i e
    obtain ⟨r1, e1, e2⟩ := T_sign h e
    exact absurd (by rw [e1]; rfl) (hn r1)
  · rename_i e
    obtain ⟨r1, e1, e2⟩ := T_sign h e
    exact absurd (by rw [e1]; rfl) (hn r1)
  · rfl
end Sp
set_option Elab.async false
set_option linter.all false
set_option maxRecDepth 100000
set_option maxHeartbeats 4000000
namespace Sp
open Th
theorem int_in (r1 : List Tk) : (match skipT (.word (cd "MIN")) r1 with
    | some r2 => mInt2 none r2
    | none => match mNumber LEAST MOST r1 with
      | none => none
      | some (z, r2) => mInt2 (some z) r2) = (mIntIn r1).map fun x => (({ form := "INTEGER", low := x.1.1, high := x.1.2 } : Kr), x.2) := by
  unfold mIntIn
  cases skipT (.word (cd "MIN")) r1 with
  | some r2 =>
    dsimp only
    unfold mInt2
    rw [mHigh_top]
    cases skipT (.sign (cd "..")) r2 with
    | none => rfl
    | some r3 =>
      dsimp only
      cases mTop none r3 with
      | none => rfl
      | some x =>
        obtain ⟨h, r4⟩ := x
        dsimp only
        cases skipT (.sign (cd ")")) r4 with
        | none => rfl
        | some r5 => rfl
  | none =>
    dsimp only
    cases mNumber LEAST MOST r1 with
    | none => rfl
    | some x =>
      obtain ⟨z, r2⟩ := x
      dsimp only
      unfold mInt2
      cases mHigh (some z) LEAST MOST r2 with
      | none => rfl
      | some x =>
        obtain ⟨h, r3⟩ := x
        dsimp only
        cases skipT (.sign (cd ")")) r3 with
        | none => rfl
        | some r4 => rfl
theorem mTop_oks {low : Option Int} {r : List Tk} {x : Option Int × List Tk} (h : Oks r) (e : mTop low r = some x) : Oks x.2 := by
  obtain ⟨hh, r2⟩ := x
  obtain ⟨b, hb⟩ := mTop_some e
  rw [hb] at h
  exact h.tail
theorem mIntIn_oks {r : List Tk} {x : (Option Int × Option Int) × List Tk} (h : Oks r) (e : mIntIn r = some x) : Oks x.2 := by
  unfold mIntIn at e
  cases e1 : skipT (.word (cd "MIN")) r with
  | some r2 =>
    rw [e1] at e
    dsimp only at e
    cases e2 : skipT (.sign (cd "..")) r2 with
    | none => rw [e2] at e; cases e
    | some r3 =>
      rw [e2] at e
      dsimp only at e
      have h3 := (h.skip e1).skip e2
      cases e3 : mTop none r3 with
      | none => rw [e3] at e; cases e
      | some y =>
        have h4 := mTop_oks h3 e3
        obtain ⟨hh, r4⟩ := y
        rw [e3] at e
        dsimp only at e h4
        cases e4 : skipT (.sign (cd ")")) r4 with
        | none => rw [e4] at e; cases e
        | some r5 => rw [e4] at e; cases e; exact h4.skip e4
  | none =>
    rw [e1] at e
    dsimp only at e
    cases e2 : mNumber LEAST MOST r with
    | none => rw [e2] at e; cases e
    | some y =>
      obtain ⟨z, r2⟩ := y
      have h2 : Oks r2 := by rw [mNumber_some e2] at h; exact h.tail
      rw [e2] at e
      dsimp only at e
      rw [mHigh_top] at e
      cases e3 : skipT (.sign (cd "..")) r2 with
      | none =>
        rw [e3] at e
        dsimp only at e
        cases e4 : skipT (.sign (cd ")")) r2 with
        | none => rw [e4] at e; cases e
        | some r4 => rw [e4] at e; cases e; exact h2.skip e4
      | some r3 =>
        rw [e3] at e
        dsimp only at e
        have h3 := h2.skip e3
        cases e4 : mTop (some z) r3 with
        | none => rw [e4] at e; cases e
        | some y =>
          have h4 := mTop_oks h3 e4
          obtain ⟨hh, r4⟩ := y
          rw [e4] at e
          dsimp only at e h4
          cases e5 : skipT (.sign (cd ")")) r4 with
          | none => rw [e5] at e; cases e
          | some r5 => rw [e5] at e; cases e; exact h4.skip e5
theorem mInteger_in {r r1 : List Tk} (e : skipT (.sign (cd "(")) r = some r1) : mInteger r = (mIntIn r1).map fun x => (({ form := "INTEGER", low := x.1.1, high := x.1.2 } : Kr), x.2) := by
  unfold mInteger
  rw [e]
  exact int_in r1
theorem iok : IntOk := fun r hr => by
  cases e : skipT (.sign (cd "(")) r with
  | none =>
    have em : mInteger r = some ({ form := "INTEGER" }, r) := by unfold mInteger; rw [e]
    rw [em]
    refine ⟨?_, fun x hx => ?_⟩
    · rw [int_none hr (fun q z => by rw [z, skip_same] at e; cases e)]; rfl
    · cases hx; exact ⟨rfl, hr⟩
  | some r1 =>
    have h1 := hr.skip e
    rw [mInteger_in e]
    refine ⟨?_, fun x hx => ?_⟩
    · rw [skip_some e]
      show Ql51.bounds (.sign [40] :: T r1) = _
      rw [intIn_eq h1]
      cases mIntIn r1 with
      | none => rfl
      | some y => rfl
    · cases e2 : mIntIn r1 with
      | none => rw [e2] at hx; cases hx
      | some y => rw [e2] at hx; cases hx; exact ⟨rfl, mIntIn_oks h1 e2⟩
end Sp
theorem Th.ans_eq (ns : List Int) (h1 : ns.length ≤ 65536) (h2 : ∀ x ∈ ns, 0 ≤ x ∧ x ≤ 255) : PyQl51.schema ns = [Th.mAns (ns.map Int.toNat)] := Sp.ans_of Sp.iok ns h1 h2
set_option Elab.async false
set_option linter.all false
open PySem PySem.W PyProof.Rows
namespace PySem.W.Fast
def tw1342531110239567866:=()
def tw976141088706130534:=()
def tw12819635931700120504:=()
def tw10883379688599127699:=()
def tw15830360508685883444:=()
def tw14843034378110758730:=()
def tw609731892320941782:=()
def tw13874810756645075475:=()
def tw3810265360567541700:=()
def tw13719286917585461292:=()
def tw17805394476473986751:=()
def tw6925375200478856648:=()
def tw10690344673460368309:=()
def tw11236274605473964612:=()
def tw17340035316477562607:=()
def tw3328618354960436557:=()
def tw1320387898872962047:=()
def tw7502037921107817114:=()
def tw15876122596274247792:=()
def tw5573202174142125187:=()
def tw1151192214630412554:=()
def tw11083248748230255886:=()
def tw291415739005066029:=()
def tw2057398491132693771:=()
def tw13648412507066498658:=()
def tw12258526828627101725:=()
def tw11420065184484039088:=()
def tw5274260651860913326:=()
def tw12778822229719550810:=()
def tw14332716463641509090:=()
def tw17729894204390851733:=()
def tw6764856092704759673:=()
def tw7812712005607370139:=()
def tw3881435055318325337:=()
def tw13269610752328504762:=()
def tw12207157235792003516:=()
def tw5397217272938072888:=()
def tw5877230676273305785:=()
def tw2754524085549833521:=()
def tw6450652185209041492:=()
def tw10495504718807127759:=()
def tw8569946291873157151:=()
def tw15086865596540119595:=()
def tw14596732542543810048:=()
def tw15069401323475762466:=()
def tw4034074423642592240:=()
def tw6805333856699297677:=()
def tw16001241973551965667:=()
def tw2567145057371825280:=()
def tw11880791452564714659:=()
def tw14920654902315105028:=()
def tw1772171238540626904:=()
def tw4646539423336682648:=()
def tw16414449061842275909:=()
def tw15751969218159876740:=()
def tw4080731109993713652:=()
def tw6624788018462529519:=()
def tw12198527767500295572:=()
def tw6857145189997389351:=()
def tw18005711773226931924:=()
def tw17214571949356245234:=()
def tw15053433887198007228:=()
def tw16807979042362836107:=()
def tw7320759885688725463:=()
def tw12699613598472839146:=()
def tw9618492881185189872:=()
def tw9035284583108034003:=()
def tw6248431003928088649:=()
def tw2661874834539114969:=()
def tw2222743925585382450:=()
def tw8016926647446564065:=()
def tw993890797391560210:=()
def tw8106934525503823521:=()
def tw1785808525346721631:=()
def tw4248990783379552252:=()
def tw4590150365196415422:=()
def tw10062448412729437096:=()
def tw6822049335810598083:=()
def tw9938628250192353562:=()
def tw8643704333090538858:=()
def tw1514018239380130931:=()
def tw1938633534749024827:=()
def tw7790432452188406553:=()
def tw4597063634798129469:=()
def tw11831680927584559425:=()
def tw12763793600907472239:=()
def tw4517657134283350154:=()
def tw14665262402530529885:=()
def tw17042992460007155083:=()
def tw16802928164894889565:=()
def tw17577244806362187659:=()
def tw10639884716815056078:=()
def tw11760189715645967503:=()
def tw8479346888453295502:=()
def tw663382924974203122:=()
def tw16066838594668325629:=()
def tw7686679525266668751:=()
def tw8520091890039464354:=()
def tw17871560358479976456:=()
def tw16194405316334012187:=()
def tw5146745797539933556:=()
def tw11938399258651542630:=()
def tw13036628530105165197:=()
def tw16444407420605490202:=()
def tw15317904946485614699:=()
def tw9814004410412873896:=()
def tw586402548972705098:=()
def tw6542223866746880316:=()
def tw1332018422822386151:=()
def tw11141667428459119303:=()
def tw2678857651288761990:=()
def tw12336632415833432650:=()
def tw5337473233349820205:=()
def tw16030799764677140581:=()
def tw17764538006177912282:=()
def tw12630231919032590367:=()
def tw1204524444462526399:=()
def tw1720326747026377812:=()
def tw4487006820041001087:=()
def tw11480284047690550852:=()
def tw14904335028921608510:=()
def tw4717720638833103266:=()
def tw3987662185207034482:=()
def tw9449516475327845319:=()
def tw14150016413561078679:=()
def tw5766415054560876384:=()
def tw9420670952902331935:=()
def tw13240420889926653446:=()
def tw4951506359523742659:=()
def tw2193158416011352611:=()
def tw6926842827693944426:=()
def tw206308506606609748:=()
def tw13285273950356836178:=()
def tw7157382589374588893:=()
def tw548106285576041303:=()
def tw8190395553852572863:=()
def tw7864483181443778145:=()
def tw2258357154500724206:=()
def tw18122883862897146521:=()
def tw15431571645497710265:=()
def tw9806336335633474591:=()
def tw4258961738331173491:=()
def tw4098104281295989594:=()
def tw18350990141915930513:=()
def tw18283131206511906839:=()
def tw11644882471431095777:=()
def tw136283686399431659:=()
def tw10700025047488077440:=()
def tw13047362418100222702:=()
def tw16096859123390001358:=()
def tw4074831802971496012:=()
def tw2314831256956906080:=()
def tw6682941565031083785:=()
def tw12999958492141205202:=()
def tw3599853779743004008:=()
def tw17061386120048281186:=()
def tw307943111865152236:=()
def tw15621709482230629672:=()
def tw12981308174313980579:=()
def tw12181016326562389064:=()
def tw12976846558851607571:=()
def tw10202333775901405916:=()
def tw12076789288635489641:=()
def tw13680181697079419865:=()
def tw8292738737577868739:=()
def tw4107926887940633330:=()
def tw14538085238033609126:=()
def tw7071978293336275300:=()
def tw18154781042579895193:=()
def tw11560351354982358573:=()
def tw8492898660826880483:=()
def tw16121562065016494173:=()
def tw15807687345878421891:=()
def tw11271441383992288581:=()
def tw14096119050072256079:=()
def tw9481162939222760041:=()
def tw16268751960756652315:=()
def tw9908293130947421604:=()
def tw3225026417666963060:=()
def tw16411350237168542083:=()
def tw7475294017964319667:=()
def tw6334088653059664795:=()
def tw8741481743542792851:=()
def tw7922513504310992371:=()
def tw4386501089019744010:=()
def tw8577866282422017923:=()
def tw2496850848048203539:=()
def tw9201814280239197786:=()
def tw3887600454306442755:=()
def tw3323572914951538149:=()
def tw11999535279835490812:=()
def tw9145687598048189981:=()
def tw8351514811486920598:=()
def tw9439846678012311482:=()
def tw3433521229698990137:=()
def tw13599284575840788153:=()
def tw10631559447608703445:=()
def tw6935628230397140351:=()
def tw7169613874033078816:=()
def tw2651416857540975862:=()
def tw5902114229202240991:=()
def tw2931393072407176375:=()
def tw16408719417187493531:=()
def tw17526693532889877946:=()
def tw17082353670728711763:=()
def tw16270830763630220235:=()
def tw4427671802896486456:=()
def tw7122578453615745124:=()
def tw17920559000922028304:=()
def tw14285707287317596252:=()
def tw7157413349267887286:=()
def tw10830288666083859308:=()
def tw16804773534327987411:=()
def tw13459351135127431375:=()
def tw6472941971929254056:=()
def tw13219223151847187927:=()
def tw2793222042567187647:=()
def tw6134580643865756009:=()
def tw7129713844119924751:=()
def tw7508260225799118583:=()
def tw7554657595235561089:=()
def tw852488988662202580:=()
def tw8084122664417397182:=()
def tw3451814369161880374:=()
def tw6878821528543867933:=()
def tw6561913203990907418:=()
def tw14335438912474117442:=()
def tw8726855638292573014:=()
def tw5710952444093084866:=()
def tw1896485480803390091:=()
def tw12926694030725669334:=()
def tw1490547936743042688:=()
def tw2861839917021985899:=()
def tw3180342336358566355:=()
def tw10407142662172872541:=()
def tw17608225156056501140:=()
def tw7198039658855482330:=()
def tw9396565984612968268:=()
def tw10661511836043538839:=()
def tw15805115200847630631:=()
def tw13460795111024008014:=()
def tw17940516199318550568:=()
def tw5910232407890977812:=()
def tw12212801104226164060:=()
def tw10531862014453410235:=()
def tw14048783536854813467:=()
def tw10991645937514213326:=()
def tw7495373127095738682:=()
def tw8137721395368509723:=()
def tw4665477773496570147:=()
def tw15616362983116764350:=()
def tw6449340743634152607:=()
def tw4037581185812250626:=()
def tw9764042432656022804:=()
def tw7249630723964507069:=()
def tw2298374171920785739:=()
def tw6932344386824797997:=()
def tw2963867158292287098:=()
def tw17701477802491596087:=()
def tw16860527597914931895:=()
def tw4435288362954283156:=()
def tw7909671130542447424:=()
def tw13143591045087453006:=()
def tw14456872183205397690:=()
def tw17515793493471100728:=()
def tw16936194091981308798:=()
def tw3493183577601638750:=()
def tw5256574752905170721:=()
def tw12299436805256905394:=()
def tw13550629179886438606:=()
def tw14487335683106776181:=()
def tw12052815810315060112:=()
def tw9497155859091795630:=()
def tw4530984946842390525:=()
def tw6215474929744040361:=()
def tw1314528233890481246:=()
def tw7787976506289373758:=()
def tw12445989866914057172:=()
def tw4928199891570913781:=()
def tw14323672263851329681:=()
def tw13856631245176963157:=()
def tw12149932838298902042:=()
def tw12499184419444601306:=()
def tw9030608779000598714:=()
def tw17529634749356201348:=()
def tw5719940163545369647:=()
def tw16095326844471484620:=()
def tw9140623818311884175:=()
def tw4026871453863909224:=()
def tw3677283073838658513:=()
def tw14202490888027420648:=()
def tw3145774547370459705:=()
def tw9058561793196676852:=()
def tw15341122442124203365:=()
def tw2140343333692317524:=()
def tw13287848498447632515:=()
def tw6301568380353859991:=()
def tw5386267558634939061:=()
def tw3556981129026918438:=()
def tw6546570012684693967:=()
def tw5504621851583254088:=()
def tw11465395514640853022:=()
def tw1419815135615448378:=()
def tw8634423902581289701:=()
def tw12524778070249237198:=()
def tw12604382886020548459:=()
def tw7789482132744536046:=()
def tw8575987500824373355:=()
def tw9283348333985580290:=()
def tw17569517973461655768:=()
def tw15256474232260275466:=()
def tw15409599146624421688:=()
def tw11533322440427595720:=()
def tw16860265953749116137:=()
def tw12007588637090660367:=()
def tw400541023232613371:=()
def tw17352944516198819075:=()
def tw13648710288827203652:=()
def tw6809634285605977412:=()
def tw10876970397695811810:=()
def tw11818843591400173344:=()
def tw6792559253427888268:=()
def tw4184122632360904011:=()
def tw6920808437041318137:=()
def tw16603251228228585943:=()
def tw2386198197775747494:=()
def tw14243981936377105944:=()
end PySem.W.Fast
set_option maxRecDepth 100000 in
set_option maxHeartbeats 0 in
theorem PySem.Challenge.cw_thinbits_s01_schema_holds : PySem.Challenge.rw_thinbits_s01_schema.Holds := by
  w_on; k_headS; (case hw => exact ⟨[.list []], by decide +kernel, by decide +kernel⟩)
  k_fillS
  refine Th.walk ?pre rfl (fun w h Y => PySem.W.kIn_of Y) ?F
  case pre => exact Th.pre_schema Th.ans_eq
  case F =>
    intro w mg fa h KX G hmg
    refine' Th.fin_mk KX G hmg ?aW ?aR ?aK ?a ?l ?c ?k ?D
    (case aW => k_is)
    (case aR => k_is)
    (case aK => k_is)
    (case a => k_is)
    (case l => k_is)
    (case c => k_is)
    (case k => k_is)
    case D =>
      intro hW
      refine' Th.Prog.mk ?t0 ?t1 ?t2 ?tr ?tk ?letter_of ?remark_end ?skip_blanks ?run_end ?word_token ?number_token ?only_of ?string_end ?string_token ?sign_end ?begins_number ?token_end ?token_of ?text_of ?tokens_of ?r_init ?r_ended ?r_skips ?r_skips_sign ?r_skips_word ?r_needs_sign ?r_needs_word ?r_takes ?r_takes_number ?k_init ?checked_kind_name ?read_high ?read_integer ?read_size ?read_string ?add_name ?next_name ?read_enumerated ?begin_choice ?begin_sequence_of ?begin_sequence ?named_kind ?begin_kind ?take_inner ?read_kind ?join_named ?read_schema
      case t0 =>
        constructor
        case len => exact (mg_none_of KX G (by k_is))
        case exc => k_exc
        case wt => exact (hW)
        case letters => exact (by refine' L2.cst_mk KX G ?a ?r; (case a => k_is); (case r => exact ⟨_, rfl⟩))
        case blanks => exact (by refine' L2.cst_mk KX G ?a ?r; (case a => k_is); (case r => exact ⟨_, rfl⟩))
        case bitd => exact (by refine' L2.cst_mk KX G ?a ?r; (case a => k_is); (case r => exact ⟨_, rfl⟩))
        case dig => exact (by refine' L2.cst_mk KX G ?a ?r; (case a => k_is); (case r => exact ⟨_, rfl⟩))
        case octd => exact (by refine' L2.cst_mk KX G ?a ?r; (case a => k_is); (case r => exact ⟨_, rfl⟩))
        case wlet => exact (by refine' L2.cst_mk KX G ?a ?r; (case a => k_is); (case r => exact ⟨_, rfl⟩))
        case word => exact (by refine' L2.cst_mk KX G ?a ?r; (case a => k_is); (case r => exact ⟨_, rfl⟩))
        case number => exact (by refine' L2.cst_mk KX G ?a ?r; (case a => k_is); (case r => exact ⟨_, rfl⟩))
        case bits => exact (by refine' L2.cst_mk KX G ?a ?r; (case a => k_is); (case r => exact ⟨_, rfl⟩))
        case octets => exact (by refine' L2.cst_mk KX G ?a ?r; (case a => k_is); (case r => exact ⟨_, rfl⟩))
        case sign => exact (by refine' L2.cst_mk KX G ?a ?r; (case a => k_is); (case r => exact ⟨_, rfl⟩))
        case lword => exact (by refine' L2.cst_mk KX G ?a ?r; (case a => k_is); (case r => exact ⟨_, rfl⟩))
        case mdig => exact (by refine' L2.cst_mk KX G ?a ?r; (case a => k_is); (case r => exact ⟨_, rfl⟩))
        case signs => exact (by refine' L2.tup_mk KX G ?a ?l ?c ?z ?v; (case a => k_is); (case l => k_is); (case c => rfl); (case z => decide); (case v => repeat' (first | exact .nil | refine .cons ⟨_, rfl⟩ ?_)))
        case int_ => exact (mg_none_of KX G (by k_is))
        case all_ => exact (mg_none_of KX G (by k_is))
      case t1 =>
        constructor
        case kinds => exact (by refine' L2.cst_mk KX G ?a ?r; (case a => k_is); (case r => exact ⟨_, rfl⟩))
        case least => exact (by refine' L2.cst_mk KX G ?a ?r; (case a => k_is); (case r => exact ⟨_, rfl⟩))
        case most => exact (by refine' L2.cst_mk KX G ?a ?r; (case a => k_is); (case r => exact ⟨_, rfl⟩))
        case size => exact (by refine' L2.cst_mk KX G ?a ?r; (case a => k_is); (case r => exact ⟨_, rfl⟩))
        case named => exact (by refine' L2.cst_mk KX G ?a ?r; (case a => k_is); (case r => exact ⟨_, rfl⟩))
        case seqof => exact (by refine' L2.cst_mk KX G ?a ?r; (case a => k_is); (case r => exact ⟨_, rfl⟩))
        case own => exact (by refine' L2.tup_mk KX G ?a ?l ?c ?z ?v; (case a => k_is); (case l => k_is); (case c => rfl); (case z => decide); (case v => repeat' (first | exact .nil | refine .cons ⟨_, rfl⟩ ?_)))
      case t2 =>
        constructor
        case bytes => exact (by refine' L2.cst_mk KX G ?a ?r; (case a => k_is); (case r => exact ⟨_, rfl⟩))
        case much => exact (by refine' L2.cst_mk KX G ?a ?r; (case a => k_is); (case r => exact ⟨_, rfl⟩))
        case nos => exact (by refine' L2.cst_mk KX G ?a ?r; (case a => k_is); (case r => exact ⟨_, rfl⟩))
      case tr =>
        constructor
        case cl => exact (⟨by k_is, by k_is, by k_is, by k_is⟩)
        case tokens => exact (by show PySem.W.findIn _ _ _ = _; k_is)
        case place => exact (by show PySem.W.findIn _ _ _ = _; k_is)
      case tk =>
        constructor
        case cl => exact (⟨by k_is, by k_is, by k_is, by k_is⟩)
        case form => exact (by show PySem.W.findIn _ _ _ = _; k_is)
        case target => exact (by show PySem.W.findIn _ _ _ = _; k_is)
        case low => exact (by show PySem.W.findIn _ _ _ = _; k_is)
        case high => exact (by show PySem.W.findIn _ _ _ = _; k_is)
        case places => exact (by show PySem.W.findIn _ _ _ = _; k_is)
        case roots => exact (by show PySem.W.findIn _ _ _ = _; k_is)
        case ext => exact (by show PySem.W.findIn _ _ _ = _; k_is)
        case parts => exact (by show PySem.W.findIn _ _ _ = _; k_is)
        case opt => exact (by show PySem.W.findIn _ _ _ = _; k_is)
        case waits => exact (by show PySem.W.findIn _ _ _ = _; k_is)
      case letter_of => refine' L2.df_mk KX G ?a ?l ?c ?k (fun _ _ _ _ _ _ us hl => match us, hl with | [_], _ => rfl); (case a => k_is); (case l => k_is); (case c => k_is); (case k => k_is)
      case remark_end => refine' L2.df_mk KX G ?a ?l ?c ?k (fun _ _ _ _ _ _ us hl => match us, hl with | [_, _], _ => rfl); (case a => k_is); (case l => k_is); (case c => k_is); (case k => k_is)
      case skip_blanks => refine' L2.df_mk KX G ?a ?l ?c ?k (fun _ _ _ _ _ _ us hl => match us, hl with | [_, _], _ => rfl); (case a => k_is); (case l => k_is); (case c => k_is); (case k => k_is)
      case run_end => refine' L2.df_mk KX G ?a ?l ?c ?k (fun _ _ _ _ _ _ us hl => match us, hl with | [_, _, _], _ => rfl); (case a => k_is); (case l => k_is); (case c => k_is); (case k => k_is)
      case word_token => refine' L2.df_mk KX G ?a ?l ?c ?k (fun _ _ _ _ _ _ us hl => match us, hl with | [_], _ => rfl); (case a => k_is); (case l => k_is); (case c => k_is); (case k => k_is)
      case number_token => refine' L2.df_mk KX G ?a ?l ?c ?k (fun _ _ _ _ _ _ us hl => match us, hl with | [_], _ => rfl); (case a => k_is); (case l => k_is); (case c => k_is); (case k => k_is)
      case only_of => refine' L2.df_mk KX G ?a ?l ?c ?k (fun _ _ _ _ _ _ us hl => match us, hl with | [_, _], _ => rfl); (case a => k_is); (case l => k_is); (case c => k_is); (case k => k_is)
      case string_end => refine' L2.df_mk KX G ?a ?l ?c ?k (fun _ _ _ _ _ _ us hl => match us, hl with | [_, _], _ => rfl); (case a => k_is); (case l => k_is); (case c => k_is); (case k => k_is)
      case string_token => refine' L2.df_mk KX G ?a ?l ?c ?k (fun _ _ _ _ _ _ us hl => match us, hl with | [_], _ => rfl); (case a => k_is); (case l => k_is); (case c => k_is); (case k => k_is)
      case sign_end => refine' L2.df_mk KX G ?a ?l ?c ?k (fun _ _ _ _ _ _ us hl => match us, hl with | [_, _], _ => rfl); (case a => k_is); (case l => k_is); (case c => k_is); (case k => k_is)
      case begins_number => refine' L2.df_mk KX G ?a ?l ?c ?k (fun _ _ _ _ _ _ us hl => match us, hl with | [_], _ => rfl); (case a => k_is); (case l => k_is); (case c => k_is); (case k => k_is)
      case token_end => refine' L2.df_mk KX G ?a ?l ?c ?k (fun _ _ _ _ _ _ us hl => match us, hl with | [_, _], _ => rfl); (case a => k_is); (case l => k_is); (case c => k_is); (case k => k_is)
      case token_of => refine' L2.df_mk KX G ?a ?l ?c ?k (fun _ _ _ _ _ _ us hl => match us, hl with | [_], _ => rfl); (case a => k_is); (case l => k_is); (case c => k_is); (case k => k_is)
      case text_of => refine' L2.df_mk KX G ?a ?l ?c ?k (fun _ _ _ _ _ _ us hl => match us, hl with | [_], _ => rfl); (case a => k_is); (case l => k_is); (case c => k_is); (case k => k_is)
      case tokens_of => refine' L2.df_mk KX G ?a ?l ?c ?k (fun _ _ _ _ _ _ us hl => match us, hl with | [_], _ => rfl); (case a => k_is); (case l => k_is); (case c => k_is); (case k => k_is)
      case r_init => refine' L2.dfi_mk KX G ?ax ?mk ?kc ?a ?i ?l ?c ?k (fun _ _ _ _ _ _ us hl => match us, hl with | [_, _], _ => rfl); (case ax => k_is); (case mk => k_is); (case kc => k_is); (case a => k_is); (case i => k_is); (case l => k_is); (case c => k_is); (case k => k_is)
      case r_ended => refine' L2.dfm_mk ?a ?i ?l ?c ?k (fun _ _ _ _ _ _ us hl => match us, hl with | [_], _ => rfl); (case a => k_is); (case i => k_is); (case l => k_is); (case c => k_is); (case k => k_is)
      case r_skips => refine' L2.dfm_mk ?a ?i ?l ?c ?k (fun _ _ _ _ _ _ us hl => match us, hl with | [_, _], _ => rfl); (case a => k_is); (case i => k_is); (case l => k_is); (case c => k_is); (case k => k_is)
      case r_skips_sign => refine' L2.dfm_mk ?a ?i ?l ?c ?k (fun _ _ _ _ _ _ us hl => match us, hl with | [_, _], _ => rfl); (case a => k_is); (case i => k_is); (case l => k_is); (case c => k_is); (case k => k_is)
      case r_skips_word => refine' L2.dfm_mk ?a ?i ?l ?c ?k (fun _ _ _ _ _ _ us hl => match us, hl with | [_, _], _ => rfl); (case a => k_is); (case i => k_is); (case l => k_is); (case c => k_is); (case k => k_is)
      case r_needs_sign => refine' L2.dfm_mk ?a ?i ?l ?c ?k (fun _ _ _ _ _ _ us hl => match us, hl with | [_, _], _ => rfl); (case a => k_is); (case i => k_is); (case l => k_is); (case c => k_is); (case k => k_is)
      case r_needs_word => refine' L2.dfm_mk ?a ?i ?l ?c ?k (fun _ _ _ _ _ _ us hl => match us, hl with | [_, _], _ => rfl); (case a => k_is); (case i => k_is); (case l => k_is); (case c => k_is); (case k => k_is)
      case r_takes => refine' L2.dfm_mk ?a ?i ?l ?c ?k (fun _ _ _ _ _ _ us hl => match us, hl with | [_, _], _ => rfl); (case a => k_is); (case i => k_is); (case l => k_is); (case c => k_is); (case k => k_is)
      case r_takes_number => refine' L2.dfm_mk ?a ?i ?l ?c ?k (fun _ _ _ _ _ _ us hl => match us, hl with | [_, _, _], _ => rfl); (case a => k_is); (case i => k_is); (case l => k_is); (case c => k_is); (case k => k_is)
      case k_init => refine' L2.dfi_mk KX G ?ax ?mk ?kc ?a ?i ?l ?c ?k (fun _ _ _ _ _ _ us hl => match us, hl with | [_, _], _ => rfl); (case ax => k_is); (case mk => k_is); (case kc => k_is); (case a => k_is); (case i => k_is); (case l => k_is); (case c => k_is); (case k => k_is)
      case checked_kind_name => refine' L2.df_mk KX G ?a ?l ?c ?k (fun _ _ _ _ _ _ us hl => match us, hl with | [_], _ => rfl); (case a => k_is); (case l => k_is); (case c => k_is); (case k => k_is)
      case read_high => refine' L2.df_mk KX G ?a ?l ?c ?k (fun _ _ _ _ _ _ us hl => match us, hl with | [_, _, _, _], _ => rfl); (case a => k_is); (case l => k_is); (case c => k_is); (case k => k_is)
      case read_integer => refine' L2.df_mk KX G ?a ?l ?c ?k (fun _ _ _ _ _ _ us hl => match us, hl with | [_], _ => rfl); (case a => k_is); (case l => k_is); (case c => k_is); (case k => k_is)
      case read_size => refine' L2.df_mk KX G ?a ?l ?c ?k (fun _ _ _ _ _ _ us hl => match us, hl with | [_, _], _ => rfl); (case a => k_is); (case l => k_is); (case c => k_is); (case k => k_is)
      case read_string => refine' L2.df_mk KX G ?a ?l ?c ?k (fun _ _ _ _ _ _ us hl => match us, hl with | [_, _], _ => rfl); (case a => k_is); (case l => k_is); (case c => k_is); (case k => k_is)
      case add_name => refine' L2.df_mk KX G ?a ?l ?c ?k (fun _ _ _ _ _ _ us hl => match us, hl with | [_, _], _ => rfl); (case a => k_is); (case l => k_is); (case c => k_is); (case k => k_is)
      case next_name => refine' L2.df_mk KX G ?a ?l ?c ?k (fun _ _ _ _ _ _ us hl => match us, hl with | [_, _], _ => rfl); (case a => k_is); (case l => k_is); (case c => k_is); (case k => k_is)
      case read_enumerated => refine' L2.df_mk KX G ?a ?l ?c ?k (fun _ _ _ _ _ _ us hl => match us, hl with | [_], _ => rfl); (case a => k_is); (case l => k_is); (case c => k_is); (case k => k_is)
      case begin_choice => refine' L2.df_mk KX G ?a ?l ?c ?k (fun _ _ _ _ _ _ us hl => match us, hl with | [_], _ => rfl); (case a => k_is); (case l => k_is); (case c => k_is); (case k => k_is)
      case begin_sequence_of => refine' L2.df_mk KX G ?a ?l ?c ?k (fun _ _ _ _ _ _ us hl => match us, hl with | [_], _ => rfl); (case a => k_is); (case l => k_is); (case c => k_is); (case k => k_is)
      case begin_sequence => refine' L2.df_mk KX G ?a ?l ?c ?k (fun _ _ _ _ _ _ us hl => match us, hl with | [_], _ => rfl); (case a => k_is); (case l => k_is); (case c => k_is); (case k => k_is)
      case named_kind => refine' L2.df_mk KX G ?a ?l ?c ?k (fun _ _ _ _ _ _ us hl => match us, hl with | [_, _], _ => rfl); (case a => k_is); (case l => k_is); (case c => k_is); (case k => k_is)
      case begin_kind => refine' L2.df_mk KX G ?a ?l ?c ?k (fun _ _ _ _ _ _ us hl => match us, hl with | [_, _], _ => rfl); (case a => k_is); (case l => k_is); (case c => k_is); (case k => k_is)
      case take_inner => refine' L2.df_mk KX G ?a ?l ?c ?k (fun _ _ _ _ _ _ us hl => match us, hl with | [_, _, _], _ => rfl); (case a => k_is); (case l => k_is); (case c => k_is); (case k => k_is)
      case read_kind => refine' L2.df_mk KX G ?a ?l ?c ?k (fun _ _ _ _ _ _ us hl => match us, hl with | [_, _], _ => rfl); (case a => k_is); (case l => k_is); (case c => k_is); (case k => k_is)
      case join_named => refine' L2.df_mk KX G ?a ?l ?c ?k (fun _ _ _ _ _ _ us hl => match us, hl with | [_, _], _ => rfl); (case a => k_is); (case l => k_is); (case c => k_is); (case k => k_is)
      case read_schema => refine' L2.df_mk KX G ?a ?l ?c ?k (fun _ _ _ _ _ _ us hl => match us, hl with | [_], _ => rfl); (case a => k_is); (case l => k_is); (case c => k_is); (case k => k_is)
