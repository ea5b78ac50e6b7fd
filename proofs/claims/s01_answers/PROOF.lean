import PyProof.Rows.All
import Wide.All
import OpenK.AllK
import Wide.FinOn
import PyProof.EqAt
import PyProof.EqKinds
import PyProof.TupleCall
import KE.BitLaws
import Open.SpecLaws
import KE.OsHead
import KE.OsGo
import PySem.Challenge.RW_bagsaboard_s01_answers
section
set_option Elab.async false
set_option linter.all false
set_option maxRecDepth 100000
namespace L2
open PySem PySem.Spec PyProof.Rows
noncomputable abbrev Key := Sum Int Str
noncomputable def keyIs : Key → Value → Bool
  | .inl k, v => Value.isInt k v
  | .inr x, v => Value.isStrOf x v
noncomputable def keyH (w : World) : Key → Int
  | .inl k => hashInt k
  | .inr x => hashStr w x
theorem keyIs_shape : ∀ {k : Key} {v : Value}, keyIs k v = true → (∃ i t, k = Sum.inl i ∧ v = Value.int i t) ∨ (∃ x t, k = Sum.inr x ∧ v = Value.str x t)
  | .inl i, v, h => by
    obtain ⟨t, e⟩ := Value.isInt_shape (k := i) (v := v) h
    exact .inl ⟨i, t, rfl, e⟩
  | .inr x, v, h => by
    obtain ⟨t, e⟩ := Value.isStrOf_shape (x := x) (v := v) h
    exact .inr ⟨x, t, rfl, e⟩
theorem key_ll (a b : Int) : decide ((Sum.inl a : Key) = Sum.inl b) = (a == b) := by
  by_cases e : a = b
  · subst e; simp
  · have h : ¬ (Sum.inl a : Key) = Sum.inl b := fun q => e (Sum.inl.inj q)
    rw [decide_eq_false h]
    exact (beq_eq_false_iff_ne.mpr e).symm
theorem key_rr (a b : Str) : decide ((Sum.inr a : Key) = Sum.inr b) = decide (a = b) := by
  by_cases e : a = b
  · subst e; simp
  · have h : ¬ (Sum.inr a : Key) = Sum.inr b := fun q => e (Sum.inr.inj q)
    rw [decide_eq_false h, decide_eq_false e]
theorem key_lr (a : Int) (b : Str) : decide ((Sum.inl a : Key) = Sum.inr b) = false := decide_eq_false (fun q => nomatch q)
theorem key_rl (a : Str) (b : Int) : decide ((Sum.inr a : Key) = Sum.inl b) = false := decide_eq_false (fun q => nomatch q)
noncomputable def mixKind (prog : Program) (w : World) : PySem.KeyKind prog w Key where
  is := keyIs
  hash := keyH w
  inj := fun v a b ha hb => by
    rcases keyIs_shape ha with ⟨i, t, rfl, rfl⟩ | ⟨x, t, rfl, rfl⟩
    · rcases keyIs_shape hb with ⟨j, u, rfl, e⟩ | ⟨y, u, rfl, e⟩
      · injection e with e1 _; rw [e1]
      · exact nomatch e
    · rcases keyIs_shape hb with ⟨j, u, rfl, e⟩ | ⟨y, u, rfl, e⟩
      · exact nomatch e
      · injection e with e1 _; rw [e1]
  byValue := fun k v h => by
    rcases keyIs_shape h with ⟨i, t, rfl, rfl⟩ | ⟨x, t, rfl, rfl⟩ <;> rfl
  pyHash := fun hv h => by
    rcases keyIs_shape hv with ⟨i, t, rfl, rfl⟩ | ⟨x, t, rfl, rfl⟩
    · exact wpAny_pyHash_int h
    · exact wpAny_pyHash_str h
  eqBool := fun hu hv h => by
    rcases keyIs_shape hu with ⟨i, t, rfl, rfl⟩ | ⟨x, t, rfl, rfl⟩
    · rcases keyIs_shape hv with ⟨j, u, rfl, rfl⟩ | ⟨y, u, rfl, rfl⟩
      · rw [key_ll] at h; exact wpAny_eqBool_int h
      · rw [key_lr] at h; exact SeqAt.EqAt.int_str i t y u _ _ _ _ h
    · rcases keyIs_shape hv with ⟨j, u, rfl, rfl⟩ | ⟨y, u, rfl, rfl⟩
      · rw [key_rl] at h; exact SeqAt.EqAt.str_int x t j u _ _ _ _ h
      · rw [key_rr] at h; exact wpAny_eqBool_str h
  «strs» := fun k x t v h => by
    rcases keyIs_shape h with ⟨i, u, rfl, e⟩ | ⟨y, u, rfl, e⟩
    · exact nomatch e
    · injection e with e1 _
      subst e1
      cases v <;> rfl
end L2
namespace L2
open PySem PySem.Spec PyProof.Rows
inductive V where
  | non | bl (b : Bool) | int (i : Int) | str (x : Str) | byt (b : Array UInt8) | flt (b : UInt64) | ref (a : Addr) | ty (n : String)
  deriving DecidableEq
noncomputable def RelV : V → Value → Prop
  | .non, u => u = Value.none
  | .bl b, u => u = Value.bool b
  | .int i, u => ∃ t, u = Value.int i t
  | .str x, u => ∃ t, u = Value.str x t
  | .byt b, u => ∃ t, u = Value.bytes b t
  | .flt b, u => ∃ t, u = Value.float b t
  | .ref a, u => u = Value.ref a
  | .ty n, u => u = Value.type n
noncomputable abbrev Vals : List V → List Value → Prop := Paired RelV
theorem Vals.length {xs : List V} {us : List Value} (r : Vals xs us) : xs.length = us.length := Paired.length r
theorem Vals.get : ∀ {xs : List V} {us : List Value} {i : Nat} {x : V}, Vals xs us → xs[i]? = some x → ∃ u, us[i]? = some u ∧ RelV x u
  | _, _, _, _, .nil, e => by simp at e
  | _, _, 0, _, .cons r _, e => by simp at e; subst e; exact ⟨_, rfl, r⟩
  | _, _, i + 1, x, .cons _ t, e => by
    obtain ⟨u, h1, h2⟩ := Vals.get (i := i) (x := x) t (by simpa using e)
    exact ⟨u, by simpa using h1, h2⟩
theorem Vals.append : ∀ {xs ys : List V} {us ws : List Value}, Vals xs us → Vals ys ws → Vals (xs ++ ys) (us ++ ws)
  | _, _, _, _, .nil, s => s
  | _, _, _, _, .cons r t, s => .cons r (Vals.append t s)
theorem Vals.take : ∀ {xs : List V} {us : List Value} (n : Nat), Vals xs us → Vals (xs.take n) (us.take n)
  | _, _, 0, _ => .nil
  | _, _, _ + 1, .nil => .nil
  | _, _, n + 1, .cons r t => .cons r (Vals.take n t)
theorem Vals.drop : ∀ {xs : List V} {us : List Value} (n : Nat), Vals xs us → Vals (xs.drop n) (us.drop n)
  | _, _, 0, r => r
  | _, _, _ + 1, .nil => .nil
  | _, _, n + 1, .cons _ t => Vals.drop n t
noncomputable def RelO : Option V → Option Value → Prop
  | some v, some u => RelV v u
  | none, none => True
  | _, _ => False
noncomputable def KV {κ : Type} : List (κ × V) → List (κ × Value) → Prop := Paired fun (p : κ × V) (q : κ × Value) => p.1 = q.1 ∧ RelV p.2 q.2
noncomputable def kV : Key → V
  | .inl i => .int i
  | .inr x => .str x
inductive HO where
  | lst (xs : List V)
  | tup (xs : List V)
  | dK (kvs : List (Key × V)) | dT (kvs : List (List Key × V))
  | set (S : Int → Bool) (n : Nat)
  | ins (C dx : Addr) (fs : List (Str × V))
  | own (x : Addr)
  | xd (fs : List (Str × V))
  | met (f x : Addr)
  | rng (lo hi : Int)
  | frz (o : Obj) (u : HO)
  | tbl (ps : Array Value)
  | ext (φ : Heap → Prop)
noncomputable abbrev Hp := Addr → Option HO
noncomputable def upd (H : Hp) (a : Addr) (o : HO) : Hp := fun b => if b = a then some o else H b
theorem upd_same {H : Hp} {a : Addr} {o : HO} : upd H a o a = some o := by unfold upd; rw [if_pos rfl]
theorem upd_ne {H : Hp} {a b : Addr} {o : HO} (h : b ≠ a) : upd H a o b = H b := by unfold upd; rw [if_neg h]
theorem upd_upd {H : Hp} {a : Addr} {o u : HO} : upd (upd H a o) a u = upd H a u := by
  funext b; unfold upd; split <;> rfl
theorem ne_of {H : Hp} {a b : Addr} {o u : HO} (h : H a = some o) (h' : H b = some u) (d : o ≠ u) : a ≠ b := by
  intro e; subst e; rw [h] at h'; exact d (Option.some.inj h')
theorem ne_of_none {H : Hp} {a b : Addr} {o : HO} (h : H a = some o) (h' : H b = none) : a ≠ b := by
  intro e; subst e; rw [h] at h'; cases h'
section
variable (P : Program) (w : World)
noncomputable def ObjOk (H : Hp) (h : Heap) (a : Addr) : HO → Prop
  | .lst xs => xs.length ≤ sizeLine ∧ ∃ (its : List Value) (n : Nat), Vals xs its ∧ h.get? a = some { cls := .type "list", data := .seq its.toArray n }
  | .tup xs => xs.length ≤ sizeLine ∧ ∃ its : List Value, Vals xs its ∧ IsTup h a its.toArray
  | .dK kvs => kvs.length ≤ sizeLine ∧ (a == sysModules) = false ∧ ∃ vs, KV kvs vs ∧ h.DictOf (mixKind P w) a vs
  | .dT kvs => kvs.length ≤ sizeLine ∧ (a == sysModules) = false ∧ ∃ xs : List (List Key × Addr × Value),
      Paired (fun (p : List Key × V) (q : List Key × Addr × Value) => p.1 = q.1 ∧ H q.2.1 = some (.tup (p.1.map kV)) ∧ RelV p.2 q.2.2) kvs xs ∧
      ∃ o es ep, h.get? a = some o ∧ o.ExactDict ∧ o.data = .dict es ep ∧ es.toList = xs.map (entryOfKey (tupleKind (mixKind P w))) ∧ (xs.map (·.1)).Nodup
  | .set S n => h.SetOf (intKind P w) a S n
  | .ins C dx fs => H dx = some (.own a) ∧ fs.length ≤ 1000 ∧ dx ≠ a ∧ h.get? a = some (PySem.W.instObj C dx) ∧
      ∃ mA, h.Ns1 dx mA ∧ (∀ f, RelO (fs.lookup f) (mA f)) ∧ PySem.Within mA (fs.map (·.1))
  | .own _ => ∃ o, h.get? a = some o
  | .xd fs => ∃ mA, h.Ns1 a mA ∧ ∀ f, RelO (fs.lookup f) (mA f)
  | .rng lo hi => ∃ t u v, h.get? a = some { cls := .type "range", data := .fields #[.int lo t, .int hi u, .int 1 v] }
  | .frz o u => h.get? a = some o ∧ ObjOk H h a u
  | .tbl ps => h.get? a = some { cls := .none, data := .fields ps }
  | .met f x => h.get? a = some (PySem.W.methodObj (.ref f) (.ref x))
  | .ext φ => φ h ∧ (∃ o, h.get? a = some o) ∧ ∀ h1 h2 : Heap, φ h1 → (∀ o, h1.get? a = some o → h2.get? a = some o) → φ h2
noncomputable def HOk (H : Hp) (h : Heap) : Prop := ∀ a o, H a = some o → ObjOk P w H h a o
end
section
variable {P : Program} {w : World} {H H' : Hp} {h h' : Heap} {a : Addr} {o : HO}
theorem ObjOk.lt (x : ObjOk P w H h a o) : a < h.objs.size := by
  cases o with
  | lst xs => obtain ⟨_, _, _, _, e⟩ := x; exact Heap.lt_size e
  | tup xs => obtain ⟨_, _, _, p⟩ := x; exact p.lt
  | dK kvs => obtain ⟨_, _, _, _, o, _, _, e, _⟩ := x; exact Heap.lt_size e
  | dT kvs => obtain ⟨_, _, _, _, o, _, _, e, _⟩ := x; exact Heap.lt_size e
  | set S n => obtain ⟨o, _, _, _, e, _⟩ := x; exact Heap.lt_size e
  | ins C dx fs => obtain ⟨_, _, _, e, _⟩ := x; exact Heap.lt_size e
  | own y => obtain ⟨_, e⟩ := x; exact Heap.lt_size e
  | xd fs => obtain ⟨_, ⟨_, _, _, e, _⟩, _⟩ := x; exact Heap.lt_size e
  | rng lo hi => obtain ⟨_, _, _, e⟩ := x; exact Heap.lt_size e
  | frz ob u => obtain ⟨e, _⟩ := x; exact Heap.lt_size e
  | tbl ps => exact Heap.lt_size (show h.get? a = some _ from x)
  | met f y => exact Heap.lt_size (show h.get? a = some _ from x)
  | ext φ => obtain ⟨_, ⟨_, e⟩, _⟩ := x; exact Heap.lt_size e
theorem Paired.mapP {α β : Type} {F G : α → β → Prop} : ∀ {l₁ : List α} {l₂ : List β}, Paired F l₁ l₂ → (∀ a b, F a b → G a b) → Paired G l₁ l₂
  | _, _, .nil, _ => .nil
  | _, _, .cons r t, f => .cons (f _ _ r) (Paired.mapP t f)
theorem ObjOk.stay (x : ObjOk P w H h a o) (k : ∀ b u, (b = a ∨ H b = some (.own a)) → h.get? b = some u → h'.get? b = some u)
    (ho : ∀ b, H b = some (.own a) → H' b = some (.own a)) (ht : ∀ b xs, H b = some (.tup xs) → H' b = some (.tup xs)) : ObjOk P w H' h' a o := by
  induction o with
  | lst xs => obtain ⟨z, its, n, r, e⟩ := x; exact ⟨z, its, n, r, k _ _ (.inl rfl) e⟩
  | tup xs => obtain ⟨z, its, r, ob, e, c⟩ := x; exact ⟨z, its, r, ob, k _ _ (.inl rfl) e, c⟩
  | dK kvs => obtain ⟨z, y, vs, r, ob, es, ep, e, c⟩ := x; exact ⟨z, y, vs, r, ob, es, ep, k _ _ (.inl rfl) e, c⟩
  | dT kvs =>
    obtain ⟨z, y, xs, r, ob, es, ep, e, c⟩ := x
    exact ⟨z, y, xs, Paired.mapP r fun p q z => ⟨z.1, ht _ _ z.2.1, z.2.2⟩, ob, es, ep, k _ _ (.inl rfl) e, c⟩
  | set S n => obtain ⟨ob, es, ep, t, e, c⟩ := x; exact ⟨ob, es, ep, t, k _ _ (.inl rfl) e, c⟩
  | ins C dx fs =>
    obtain ⟨d, z, ne, e, mA, ⟨od, es, ep, e2, c⟩, r⟩ := x
    exact ⟨ho _ d, z, ne, k _ _ (.inl rfl) e, mA, ⟨od, es, ep, k _ _ (.inr d) e2, c⟩, r⟩
  | own y => obtain ⟨ob, e⟩ := x; exact ⟨ob, k _ _ (.inl rfl) e⟩
  | xd fs => obtain ⟨mA, ⟨od, es, ep, e, c⟩, r⟩ := x; exact ⟨mA, ⟨od, es, ep, k _ _ (.inl rfl) e, c⟩, r⟩
  | rng lo hi => obtain ⟨t, u, v, e⟩ := x; exact ⟨t, u, v, k _ _ (.inl rfl) e⟩
  | frz ob u ih => obtain ⟨e, q⟩ := x; exact ⟨k _ _ (.inl rfl) e, ih q⟩
  | tbl ps =>
    have e : h.get? a = some { cls := .none, data := .fields ps } := x
    show h'.get? a = some { cls := .none, data := .fields ps }
    exact k a _ (.inl rfl) e
  | met f y =>
    have e : h.get? a = some (PySem.W.methodObj (.ref f) (.ref y)) := x
    show h'.get? a = some (PySem.W.methodObj (.ref f) (.ref y))
    exact k a _ (.inl rfl) e
  | ext φ => obtain ⟨p, ⟨o, e⟩, st⟩ := x; exact ⟨st _ _ p fun o q => k _ _ (.inl rfl) q, ⟨o, k _ _ (.inl rfl) e⟩, st⟩
theorem HOk.lt (x : HOk P w H h) (e : H a = some o) : a < h.objs.size := (x a o e).lt
theorem HOk.fresh (x : HOk P w H h) (e : h.objs.size ≤ a) : H a = none := by
  cases q : H a with
  | none => rfl
  | some u => exact absurd (Nat.lt_of_lt_of_le (x.lt q) e) (Nat.lt_irrefl _)
theorem HOk.kept (x : HOk P w H h) (k : ∀ b u, h.get? b = some u → h'.get? b = some u) : HOk P w H h' := fun a o e =>
  (x a o e).stay (fun b u _ q => k b u q) (fun _ q => q) fun _ _ q => q
theorem HOk.laid (x : HOk P w H h) (k : ∀ b u, h.get? b = some u → h'.get? b = some u) (hp : h.objs.size ≤ a) (new : ObjOk P w (upd H a o) h' a o) : HOk P w (upd H a o) h' := fun b u e => by
  have hn := x.fresh hp
  by_cases hb : b = a
  · subst hb; rw [upd_same] at e; cases e; exact new
  · rw [upd_ne hb] at e
    exact (x b u e).stay (fun c v _ q => k c v q) (fun c q => by rw [upd_ne (ne_of_none q hn)]; exact q) fun c xs q => by rw [upd_ne (ne_of_none q hn)]; exact q
end
noncomputable def Rd (H : Hp) (a : Addr) (u : HO) : Prop := H a = some u ∨ ∃ o, H a = some (.frz o u)
theorem Rd.ok {P : Program} {w : World} {H : Hp} {h : Heap} {a : Addr} {u : HO} (r : Rd H a u) (x : HOk P w H h) : ObjOk P w H h a u := by
  rcases r with r | ⟨o, r⟩
  · exact x a u r
  · obtain ⟨_, q⟩ := x a _ r
    exact q
noncomputable def Mut : Option HO → Prop
  | some (.lst _) => True
  | some (.dK _) => True
  | some (.dT _) => True
  | some (.set _ _) => True
  | some (.ins _ _ _) => True
  | some (.ext _) => True
  | _ => False
section
variable {P : Program} {w : World} {H : Hp} {h h' : Heap} {x e : Addr} {o' : HO}
theorem HOk.write (ok : HOk P w H h) (mu : Mut (H x)) (he : e = x ∨ H e = some (.own x)) (k : ∀ b u, b ≠ e → h.get? b = some u → h'.get? b = some u) (heo : ∃ u, h'.get? e = some u)
    (new : ObjOk P w (upd H x o') h' x o') : HOk P w (upd H x o') h' := fun b u q => by
  have nown : ∀ c y, H c = some (.own y) → c ≠ x := fun c y r z => by subst z; rw [r] at mu; exact mu
  have ntup : ∀ c xs, H c = some (.tup xs) → c ≠ x := fun c xs r z => by subst z; rw [r] at mu; exact mu
  by_cases hb : b = x
  · subst hb; rw [upd_same] at q; cases q; exact new
  · rw [upd_ne hb] at q
    by_cases hbe : b = e
    · have q' : H b = some (.own x) := by
        rcases he with z | z
        · exact absurd (hbe.trans z) hb
        · rw [hbe]; exact z
      rw [q] at q'; cases q'
      obtain ⟨v, hv⟩ := heo
      exact ⟨v, by rw [hbe]; exact hv⟩
    · refine (ok b u q).stay (fun c v hc r => k c v ?_ r) (fun c r => by rw [upd_ne (nown c b r)]; exact r) fun c xs r => by rw [upd_ne (ntup c xs r)]; exact r
      rcases hc with rfl | hc
      · exact hbe
      · rintro rfl
        rcases he with z | z
        · exact nown c b hc z
        · rw [hc] at z; cases z; exact hb rfl
end
structure Un (fs ex : List Addr) (H H' : Hp) (h h' : Heap) : Prop where
  keep : ∀ b o, h.get? b = some o → H b = none → b ∉ fs → b ∉ ex → h'.get? b = some o
  slot : ∀ b o, h.get? b = some o → H b = none → b ∈ fs → b ∉ ex → ∃ sl, h'.get? b = some { o with slots := sl }
  free : ∀ b o, h.get? b = some o → H b = none → b ∉ ex → H' b = none
  there : ∀ b o, h.get? b = some o → b ∉ ex → ∃ o', h'.get? b = some o'
  tups : ∀ b xs, H b = some (.tup xs) → H' b = some (.tup xs)
  frzs : ∀ b o u, H b = some (.frz o u) → H' b = some (.frz o u)
  tbls : ∀ b ps, H b = some (.tbl ps) → ∃ more, H' b = some (.tbl (ps ++ more))
section
variable {fs fs' ex ex' : List Addr} {H H1 H2 : Hp} {h h1 h2 h' : Heap} {a x e : Addr} {o : HO}
theorem Un.any (u : Un fs ex H H1 h h1) {b : Addr} {ob : Obj} (q : h.get? b = some ob) (n : H b = none) (hx : b ∉ ex) : ∃ sl, h1.get? b = some { ob with slots := sl } := by
  by_cases hb : b ∈ fs
  · exact u.slot b ob q n hb hx
  · exact ⟨ob.slots, u.keep b ob q n hb hx⟩
theorem Un.kept (k : ∀ b u, h.get? b = some u → h'.get? b = some u) : Un fs ex H H h h' :=
  ⟨fun b ob q _ _ _ => k b ob q, fun b ob q _ _ _ => ⟨ob.slots, k b ob q⟩, fun _ _ _ n _ => n, fun b ob q _ => ⟨ob, k b ob q⟩, fun _ _ q => q, fun _ _ _ q => q, fun _ ps q => ⟨#[], by rw [q]; simp⟩⟩
theorem Un.refl : Un fs ex H H h h := Un.kept fun _ _ q => q
theorem Un.laid (k : ∀ b u, h.get? b = some u → h'.get? b = some u) (hp : h.objs.size ≤ a) (hn : H a = none) : Un fs ex H (upd H a o) h h' where
  keep := fun b u q _ _ _ => k b u q
  slot := fun b u q _ _ _ => ⟨u.slots, k b u q⟩
  free := fun b u q n _ => by rw [upd_ne (Nat.ne_of_lt (Nat.lt_of_lt_of_le (Heap.lt_size q) hp))]; exact n
  there := fun b u q _ => ⟨u, k b u q⟩
  tups := fun b xs q => by rw [upd_ne (ne_of_none q hn)]; exact q
  frzs := fun b u xs q => by rw [upd_ne (ne_of_none q hn)]; exact q
  tbls := fun b ps q => ⟨#[], by rw [upd_ne (ne_of_none q hn), q]; simp⟩
theorem Un.write (mu : Mut (H x)) (he : e = x ∨ H e = some (.own x)) (k : ∀ b u, b ≠ e → h.get? b = some u → h'.get? b = some u) (heo : ∃ u, h'.get? e = some u) : Un fs ex H (upd H x o) h h' := by
  have hx : ∀ b, H b = none → b ≠ x := fun b n z => by subst z; rw [n] at mu; exact mu
  have hb : ∀ b, H b = none → b ≠ e := fun b n z => by
    subst z
    rcases he with r | r
    · exact hx b n r
    · rw [n] at r; cases r
  have hm : ∀ b u, H b = some u → ¬ Mut (some u) → b ≠ x := fun b u q nm z => by subst z; rw [q] at mu; exact nm mu
  refine ⟨fun b u q n _ _ => k b u (hb b n) q, fun b u q n _ _ => ⟨u.slots, k b u (hb b n) q⟩, fun b u q n _ => by rw [upd_ne (hx b n)]; exact n, fun b u q _ => ?_,
    fun b xs q => by rw [upd_ne (hm b _ q fun z => z)]; exact q, fun b u xs q => by rw [upd_ne (hm b _ q fun z => z)]; exact q, fun b ps q => ⟨#[], by rw [upd_ne (hm b _ q fun z => z), q]; simp⟩⟩
  by_cases hbe : b = e
  · subst hbe; exact heo
  · exact ⟨u, k b u hbe q⟩
end
noncomputable def trk (h : Heap) (H : Hp) : List Addr := (List.range h.objs.size).filter fun a => (H a).isSome
noncomputable def hidT (h : Heap) (H : Hp) : Heap := PySem.W.hideAll h (trk h H)
theorem hidT_size (h : Heap) (H : Hp) : (hidT h H).objs.size = h.objs.size := PySem.W.hideAll_size _ _
theorem hidT_get {h : Heap} {H : Hp} {b : Addr} {o : Obj} (e : h.get? b = some o) (n : H b = none) : (hidT h H).get? b = some o :=
  PySem.W.hideAll_get _ e fun hm => by
    have q : (H b).isSome = true := (List.mem_filter.mp hm).2
    rw [n] at q; simp at q
theorem of_hidT {h : Heap} {H : Hp} {b : Addr} {o : Obj} (e : (hidT h H).get? b = some o) : h.get? b = some o ∧ H b = none := by
  have e' : h.get? b = some o := PySem.W.of_hideAll (trk h H) e
  refine ⟨e', ?_⟩
  cases q : H b with
  | none => rfl
  | some x =>
    have hm : b ∈ trk h H := List.mem_filter.mpr ⟨List.mem_range.mpr (Heap.lt_size e'), by simp [q]⟩
    have z : (hidT h H).get? b = none := PySem.W.hideAll_none (trk h H) hm
    rw [z] at e; cases e
end L2
namespace L2
open PySem PySem.Spec PyProof.Rows
structure Mod (K : PySem.W.Frag) (mg : Str → Option Value) (base : Heap) : Prop where
  kin : K.In base
  glob : base.Ns mainGlobals mg
  blt : ∃ mb, base.Ns builtinsNs mb ∧ ∀ x : Str, x ≠ "__name__" → mb x = bootBuiltins x
  nolimit : base.NoLimit
structure Cx where
  prog : Program
  w : World
  K : PySem.W.Frag
  mg : Str → Option Value
  base : Heap
  A : Around
  N : List Str
  s_0 : Shared
  H_0 : Hp
  env : Env
  outer : List Env
  stack : List Env
  ex : List Addr
  fn : Str → Bool
  calm : Bool
  pn : List (Addr × Obj)
  xe : Value → Shared → Prop
noncomputable def frs (l : List Env) : List Addr := l.filterMap (·.frame)
noncomputable abbrev Cx.fs (X : Cx) : List Addr := frs X.outer
noncomputable def Vis (sc : Scope) (x : Str) : Prop := sc.names.lookup x = some .local ∨ sc.names.lookup x = some .cell ∨ sc.names.lookup x = some .free
noncomputable def Loc (sc : Scope) (x : Str) : Prop := sc.names.lookup x = some .local ∨ sc.names.lookup x = some .cell
noncomputable def Look (env : Env) (h : Heap) (m : Str → Option Value) (x : Str) (u : Value) : Prop :=
  (env.kindOf x = some .local ∧ m x = some u) ∨ ((env.kindOf x = some .cell ∨ env.kindOf x = some .free) ∧ ∃ c, env.cells.lookup x = some c ∧ h.IsCell c (some u))
structure Cx.Ok (X : Cx) : Prop where
  mod : Mod X.K X.mg X.base
  kind : X.env.scope.kind = .function
  glob : X.env.globals = mainGlobals
  blt : X.env.builtins = builtinsNs
  above : X.s_0.heap.objs.size ≤ X.env.locals
  inj : ∀ x y c, X.env.cells.lookup x = some c → X.env.cells.lookup y = some c → x = y
  has : ∀ x, (X.env.kindOf x = some .cell ∨ X.env.kindOf x = some .free) → ∃ c, X.env.cells.lookup x = some c
  cab : ∀ x c, X.fn x = true → X.env.cells.lookup x = some c → X.s_0.heap.objs.size ≤ c
  hd : X.calm = true → X.A.handled = none
  frames : X.A.frames = some X.stack
  stk : X.stack = X.outer ∨ (X.stack = X.env :: X.outer ∧ X.env.frame = some X.env.locals)
  exf : ∀ b ∈ X.ex, b ≠ X.env.locals ∧ ∀ x c, X.env.cells.lookup x = some c → c ≠ b
  bs : ∀ b o, X.base.get? b = some o → X.s_0.heap.get? b = some o ∧ X.H_0 b = none
  bsz : X.base.objs.size ≤ X.s_0.heap.objs.size
  noex : ∀ b o, X.base.get? b = some o → b ∉ X.ex
  exfs : ∀ b ∈ X.ex, b ∉ X.fs
  funs : X.s_0.heap.FunFrames X.base X.outer
  frf : ∀ b ∈ X.fs, X.H_0 b = none
structure Inv (X : Cx) (pins : List (Addr × Obj)) (σ : List (Option V)) (H : Hp) (s : Shared) : Prop where
  ok : X.Ok
  os : s.os = X.s_0.os
  bare : AllBare s.gens
  base : Un X.fs X.ex X.H_0 H X.s_0.heap s.heap
  loc : ∃ m, s.heap.Ns X.env.locals m ∧ ∀ (i : Nat) (x : Str) (v : V), X.N[i]? = some x → σ[i]? = some (some v) → Vis X.env.scope x → ∃ u, RelV v u ∧ Look X.env s.heap m x u
  cell : ∀ x c, X.env.cells.lookup x = some c → ∃ v, s.heap.IsCell c v
  free : H X.env.locals = none
  freeC : ∀ x c, X.env.cells.lookup x = some c → H c = none
  pin : ∀ p ∈ X.pn ++ pins, s.heap.get? p.1 = some p.2 ∧ H p.1 = none ∧ p.1 ≠ X.env.locals ∧ p.1 ∉ X.fs ∧ ∀ v, p.2.data ≠ .cell v
  hok : HOk X.prog X.w H s.heap
  len : σ.length = X.N.length
section
variable {X : Cx} {pins : List (Addr × Obj)} {σ : List (Option V)} {H H' : Hp} {s : Shared} {h' : Heap}
theorem Cx.Ok.nofr (ok : X.Ok) {b : Addr} {o : Obj} (e : X.base.get? b = some o) : b ∉ X.fs := fun hb => by
  have := (ok.funs.mem hb).1
  rw [e] at this; cases this
theorem Inv.bs (I : Inv X pins σ H s) : ∀ b o, X.base.get? b = some o → s.heap.get? b = some o ∧ H b = none := fun b o e =>
  ⟨I.base.keep b o (I.ok.bs b o e).1 (I.ok.bs b o e).2 (I.ok.nofr e) (I.ok.noex b o e), I.base.free b o (I.ok.bs b o e).1 (I.ok.bs b o e).2 (I.ok.noex b o e)⟩
theorem Inv.bk (I : Inv X pins σ H s) : ∀ b o, X.base.get? b = some o → s.heap.get? b = some o := fun b o e => (I.bs b o e).1
theorem Inv.mod (I : Inv X pins σ H s) : Mod X.K X.mg X.base := I.ok.mod
theorem Inv.kIn (I : Inv X pins σ H s) : X.K.In s.heap := I.ok.mod.kin.keeps I.bk
theorem Inv.fr (I : Inv X pins σ H s) : ∃ m, Fr X.base X.env.locals s.heap m :=
  let ⟨m, hn, _⟩ := I.loc
  ⟨m, hn, I.bk, Nat.le_trans I.ok.bsz I.ok.above⟩
theorem Inv.lt (I : Inv X pins σ H s) : X.env.locals < s.heap.objs.size := let ⟨_, hn, _⟩ := I.loc; hn.lt
theorem Inv.sz (I : Inv X pins σ H s) : X.s_0.heap.objs.size ≤ s.heap.objs.size := Nat.le_trans I.ok.above (Nat.le_of_lt I.lt)
theorem Inv.nofs (I : Inv X pins σ H s) {a : Addr} (h : s.heap.objs.size ≤ a) : a ∉ X.fs := fun hb => by
  obtain ⟨_, o, ho, _⟩ := I.ok.funs.mem hb
  exact absurd (Nat.lt_of_lt_of_le (Heap.lt_size ho) (Nat.le_trans I.sz h)) (Nat.lt_irrefl _)
theorem Inv.cne (I : Inv X pins σ H s) : ∀ x c, X.env.cells.lookup x = some c → c ≠ X.env.locals := fun x c e z => by
  obtain ⟨v, o, ho, hd⟩ := I.cell x c e
  obtain ⟨m, ⟨o', es, ep, ho', hd', _⟩, _⟩ := I.loc
  rw [z, ho'] at ho; cases ho; rw [hd'] at hd; cases hd
theorem Inv.funs (I : Inv X pins σ H s) : s.heap.FunFrames X.base X.outer := by
  have all : ∀ (l : List Env), (∀ b ∈ frs l, b ∈ X.fs) → X.s_0.heap.FunFrames X.base l → s.heap.FunFrames X.base l := by
    intro l
    induction l with
    | nil => intro _ _; trivial
    | cons env r ih =>
      intro hs hl
      obtain ⟨hk, ⟨L, o, hf, hn, ho, hd⟩, hr⟩ := hl
      have hL : L ∈ X.fs := hs L (by unfold frs; rw [List.filterMap_cons, hf]; exact List.mem_cons_self)
      obtain ⟨sl, e⟩ := I.base.slot L o ho (I.ok.frf L hL) hL fun z => I.ok.exfs L z hL
      exact ⟨hk, ⟨L, _, hf, hn, e, hd⟩, ih (fun b hb => hs b (by unfold frs; rw [List.filterMap_cons, hf]; exact List.mem_cons_of_mem _ hb)) hr⟩
  exact all X.outer (fun _ hb => hb) I.ok.funs
theorem Inv.stack (I : Inv X pins σ H s) : s.heap.FunFrames X.base X.stack := by
  rcases I.ok.stk with e | ⟨e, hf⟩
  · rw [e]; exact I.funs
  · rw [e]
    obtain ⟨m, hn, _⟩ := I.loc
    refine .cons (by rw [I.ok.kind]; decide) hf hn ?_ I.funs
    exact Heap.get?_none_of_le (Nat.le_trans I.ok.bsz I.ok.above)
theorem Inv.stkSub (I : Inv X pins σ H s) : ∀ b ∈ frs X.stack, b ∈ X.env.locals :: X.fs := fun b hb => by
  rcases I.ok.stk with e | ⟨e, hf⟩
  · rw [e] at hb; exact List.mem_cons_of_mem _ hb
  · rw [e] at hb
    unfold frs at hb
    rw [List.filterMap_cons, hf] at hb
    exact hb
theorem Inv.stkFree (I : Inv X pins σ H s) : ∀ b ∈ frs X.stack, H b = none := fun b hb => by
  rcases List.mem_cons.mp (I.stkSub b hb) with e | hb
  · rw [e]; exact I.free
  · obtain ⟨_, o, ho, _⟩ := I.ok.funs.mem hb
    exact I.base.free b o ho (I.ok.frf b hb) fun z => I.ok.exfs b z hb
theorem Inv.step {g' : Array GenState} {t' : Nat} {d' : Drawn} {ch : List Addr} (I : Inv X pins σ H s)
    (hch : ∀ b ∈ ch, (b ∈ X.ex ∨ X.s_0.heap.objs.size ≤ b) ∧ b ≠ X.env.locals ∧ (∀ x c, X.env.cells.lookup x = some c → c ≠ b) ∧ ∀ p ∈ X.pn ++ pins, p.1 ≠ b)
    (keep : ∀ b o, b ≠ X.env.locals → b ∉ X.fs → b ∉ ch → s.heap.get? b = some o → H b = none → h'.get? b = some o)
    (slot : ∀ b o, b ≠ X.env.locals → b ∈ X.fs → b ∉ ch → s.heap.get? b = some o → H b = none → ∃ sl, h'.get? b = some { o with slots := sl }) (free : ∀ b o, b ∉ ch → s.heap.get? b = some o → H b = none → H' b = none)
    (there : ∀ b o, b ∉ ch → s.heap.get? b = some o → ∃ o', h'.get? b = some o')
    (tups : ∀ b xs, H b = some (.tup xs) → H' b = some (.tup xs)) (frzs : ∀ b o u, H b = some (.frz o u) → H' b = some (.frz o u)) (tbls : ∀ b ps, H b = some (.tbl ps) → ∃ more, H' b = some (.tbl (ps ++ more)))
    (ns : ∀ m, s.heap.Ns X.env.locals m → h'.Ns X.env.locals m) (hok : HOk X.prog X.w H' h') (hg : AllBare g') :
    Inv X pins σ H' { s with heap := h', gens := g', drawn := d', toks := t' } := by
  have neL : ∀ b o, X.s_0.heap.get? b = some o → b ≠ X.env.locals := fun b o e => Nat.ne_of_lt (Nat.lt_of_lt_of_le (Heap.lt_size e) I.ok.above)
  have neC : ∀ b o, X.s_0.heap.get? b = some o → b ∉ X.ex → b ∉ ch := fun b o e hx hb => by
    rcases (hch b hb).1 with z | z
    · exact hx z
    · exact absurd (Nat.lt_of_lt_of_le (Heap.lt_size e) z) (Nat.lt_irrefl _)
  have cellK : ∀ x c, X.env.cells.lookup x = some c → ∀ v, s.heap.IsCell c v → h'.IsCell c v := fun x c e v ⟨o, ho, hd⟩ => by
    have nch : c ∉ ch := fun z => (hch c z).2.2.1 x c e rfl
    by_cases hc : c ∈ X.fs
    · obtain ⟨sl, q⟩ := slot c o (I.cne x c e) hc nch ho (I.freeC x c e)
      exact ⟨_, q, hd⟩
    · exact ⟨o, keep c o (I.cne x c e) hc nch ho (I.freeC x c e), hd⟩
  refine ⟨I.ok, I.os, hg, ⟨fun b o e n hb hx => ?_, fun b o e n hb hx => ?_, fun b o e n hx => ?_, fun b o e hx => ?_, fun b xs e => tups b xs (I.base.tups b xs e), fun b o xs e => frzs b o xs (I.base.frzs b o xs e), fun b ps e => ?_⟩, ?_, fun x c e => ?_, ?_, fun x c e => ?_, fun p hp => ?_, hok, I.len⟩
  · exact keep b o (neL b o e) hb (neC b o e hx) (I.base.keep b o e n hb hx) (I.base.free b o e n hx)
  · obtain ⟨sl, e1⟩ := I.base.slot b o e n hb hx
    obtain ⟨sl', e2⟩ := slot b _ (neL b o e) hb (neC b o e hx) e1 (I.base.free b o e n hx)
    exact ⟨sl', e2⟩
  · obtain ⟨o', e1⟩ := I.base.there b o e hx
    exact free b o' (neC b o e hx) e1 (I.base.free b o e n hx)
  · obtain ⟨o', e1⟩ := I.base.there b o e hx
    exact there b o' (neC b o e hx) e1
  · obtain ⟨m1, e1⟩ := I.base.tbls b ps e
    obtain ⟨m2, e2⟩ := tbls b _ e1
    exact ⟨m1 ++ m2, by rw [e2, Array.append_assoc]⟩
  · obtain ⟨m, hn, hl⟩ := I.loc
    refine ⟨m, ns m hn, fun i x v e1 e2 e3 => ?_⟩
    obtain ⟨u, r, l⟩ := hl i x v e1 e2 e3
    refine ⟨u, r, ?_⟩
    rcases l with l | ⟨k, c, e, z⟩
    · exact .inl l
    · exact .inr ⟨k, c, e, cellK x c e _ z⟩
  · obtain ⟨v, z⟩ := I.cell x c e
    exact ⟨v, cellK x c e v z⟩
  · obtain ⟨m, ⟨o, _, _, ho, _⟩, _⟩ := I.loc
    exact free _ o (fun z => (hch _ z).2.1 rfl) ho I.free
  · obtain ⟨v, o, ho, hd⟩ := I.cell x c e
    exact free c o (fun z => (hch c z).2.2.1 x c e rfl) ho (I.freeC x c e)
  · obtain ⟨e, n, ne, nf, d⟩ := I.pin p hp
    have nch : p.1 ∉ ch := fun z => (hch p.1 z).2.2.2 p hp rfl
    exact ⟨keep p.1 p.2 ne nf nch e n, free p.1 p.2 nch e n, ne, nf, d⟩
theorem Inv.un {t' : Nat} (I : Inv X pins σ H s) (u : Un X.fs [] H H' s.heap h') (hok : HOk X.prog X.w H' h') : Inv X pins σ H' { s with heap := h', toks := t' } := by
  obtain ⟨m, ⟨o, es, ep, ho, r⟩, _⟩ := id I.loc
  obtain ⟨sl, hL⟩ := u.any ho I.free (by simp)
  exact I.step (g' := s.gens) (d' := s.drawn) (ch := []) (fun _ z => nomatch z) (fun b o _ hb _ e n => u.keep b o e n hb (by simp)) (fun b o _ hb _ e n => u.slot b o e n hb (by simp)) (fun b o _ e n => u.free b o e n (by simp)) (fun b o _ e => u.there b o e (by simp)) u.tups u.frzs u.tbls (fun m' hm => by
    obtain ⟨o', es', ep', ho', r'⟩ := hm
    rw [ho] at ho'; cases ho'
    exact ⟨_, es', ep', hL, r'⟩) hok I.bare
theorem Inv.call {g' : Array GenState} {t' : Nat} {d' : Drawn} {ch : List Addr} (I : Inv X pins σ H s) (u : Un (frs X.stack) ch H H' s.heap h') (hok : HOk X.prog X.w H' h') (hg : AllBare g')
    (hch : ∀ b ∈ ch, (b ∈ X.ex ∨ X.s_0.heap.objs.size ≤ b) ∧ b ≠ X.env.locals ∧ (∀ x c, X.env.cells.lookup x = some c → c ≠ b) ∧ ∀ p ∈ X.pn ++ pins, p.1 ≠ b) :
    Inv X pins σ H' { s with heap := h', gens := g', drawn := d', toks := t' } := by
  obtain ⟨m, ⟨o, es, ep, ho, r⟩, _⟩ := id I.loc
  obtain ⟨sl, hL⟩ := u.any ho I.free fun z => (hch _ z).2.1 rfl
  exact I.step (ch := ch) hch (fun b o hL hb hc e n => u.keep b o e n (fun z => (List.mem_cons.mp (I.stkSub b z)).elim hL hb) hc) (fun b o _ _ hc e n => u.any e n hc) (fun b o hc e n => u.free b o e n hc) (fun b o hc e => u.there b o e hc) u.tups u.frzs u.tbls (fun m' hm => by
    obtain ⟨o', es', ep', ho', r'⟩ := hm
    rw [ho] at ho'; cases ho'
    exact ⟨_, es', ep', hL, r'⟩) hok hg
theorem Inv.turned {t' : Nat} {it : Addr} (I : Inv X pins σ H s) (k : ∀ b o, b ≠ it → s.heap.get? b = some o → h'.get? b = some o) (hn : H it = none) (hL : it ≠ X.env.locals)
    (h1 : it ∈ X.ex ∨ X.s_0.heap.objs.size ≤ it) (h2 : ∀ x c, X.env.cells.lookup x = some c → c ≠ it) (h3 : ∀ p ∈ X.pn ++ pins, p.1 ≠ it) : Inv X pins σ H { s with heap := h', toks := t' } := by
  have nit : ∀ b u, H b = some u → b ≠ it := fun b u e z => by rw [z, hn] at e; cases e
  refine I.step (g' := s.gens) (d' := s.drawn) (ch := [it]) (fun b hb => ?_) (fun b o _ _ hc e _ => k b o (fun z => hc (by simp [z])) e) (fun b o _ _ hc e _ => ⟨o.slots, k b o (fun z => hc (by simp [z])) e⟩) (fun _ _ _ _ n => n)
    (fun b o hc e => ⟨o, k b o (fun z => hc (by simp [z])) e⟩) (fun _ _ e => e) (fun _ _ _ e => e) (fun b ps e => ⟨#[], by rw [e]; simp⟩) (fun m hm => ?_) (fun b u e => ?_) I.bare
  · have e : b = it := by simpa using hb
    subst e
    exact ⟨h1, hL, h2, h3⟩
  · obtain ⟨o, es, ep, ho, r⟩ := hm
    exact ⟨o, es, ep, k _ o (Ne.symm hL) ho, r⟩
  · refine (I.hok b u e).stay (fun c v hc q => k c v ?_ q) (fun _ q => q) fun _ _ q => q
    rcases hc with z | z
    · rw [z]; exact nit b u e
    · exact nit c _ z
theorem Inv.tok (I : Inv X pins σ H s) (t : Nat) : Inv X pins σ H { s with toks := t } := I.un (h' := s.heap) (t' := t) Un.refl I.hok
theorem Inv.kept {t' : Nat} (I : Inv X pins σ H s) (k : ∀ b u, s.heap.get? b = some u → h'.get? b = some u) : Inv X pins σ H { s with heap := h', toks := t' } := I.un (Un.kept k) (I.hok.kept k)
theorem Inv.laid {a : Addr} {o : HO} {t' : Nat} (I : Inv X pins σ H s) (k : ∀ b u, s.heap.get? b = some u → h'.get? b = some u) (hp : s.heap.objs.size ≤ a) (new : ObjOk X.prog X.w (upd H a o) h' a o) :
    Inv X pins σ (upd H a o) { s with heap := h', toks := t' } := I.un (Un.laid k hp (I.hok.fresh hp)) (I.hok.laid k hp new)
theorem Inv.write {x e : Addr} {o : HO} {t' : Nat} (I : Inv X pins σ H s) (mu : Mut (H x)) (he : e = x ∨ H e = some (.own x)) (k : ∀ b u, b ≠ e → s.heap.get? b = some u → h'.get? b = some u) (heo : ∃ u, h'.get? e = some u)
    (new : ObjOk X.prog X.w (upd H x o) h' x o) : Inv X pins σ (upd H x o) { s with heap := h', toks := t' } := I.un (Un.write mu he k heo) (I.hok.write mu he k heo new)
theorem Inv.weak {σ' : List (Option V)} (I : Inv X pins σ H s) (hl : σ'.length = σ.length) (w : ∀ (i : Nat) v, σ'[i]? = some (some v) → σ[i]? = some (some v)) : Inv X pins σ' H s :=
  ⟨I.ok, I.os, I.bare, I.base, let ⟨m, hn, hl'⟩ := I.loc; ⟨m, hn, fun i x v e1 e2 e3 => hl' i x v e1 (w i v e2) e3⟩, I.cell, I.free, I.freeC, I.pin, I.hok, hl.trans I.len⟩
theorem Inv.pins_of {pins' : List (Addr × Obj)} (I : Inv X pins σ H s) (h : ∀ p ∈ pins', s.heap.get? p.1 = some p.2 ∧ H p.1 = none ∧ p.1 ≠ X.env.locals ∧ p.1 ∉ X.fs ∧ ∀ v, p.2.data ≠ .cell v) : Inv X pins' σ H s :=
  ⟨I.ok, I.os, I.bare, I.base, I.loc, I.cell, I.free, I.freeC, fun p hp => (List.mem_append.mp hp).elim (fun z => I.pin p (List.mem_append_left _ z)) (h p), I.hok, I.len⟩
theorem nodup_ix {N : List Str} (hN : N.Nodup) {i j : Nat} {x : Str} (a : N[i]? = some x) (b : N[j]? = some x) : i = j := by
  obtain ⟨h1, e1⟩ := List.getElem?_eq_some_iff.mp a
  obtain ⟨h2, e2⟩ := List.getElem?_eq_some_iff.mp b
  exact (List.getElem_inj hN).mp (e1.trans e2.symm)
theorem store_ok2 {M : Model} {A : Around} {E : Value → Shared → Prop} {i : Nat} {x : Str} {v : V} {u : Value} {Q : Unit → Shared → Prop} (I : Inv X pins σ H s) (hN : X.N.Nodup) (hi : X.N[i]? = some x) (hx : Loc X.env.scope x) (r : RelV v u)
    (h : ∀ s', Inv X pins (σ.set i (some v)) H s' → (∃ a, Heap.SameBut a s.heap s'.heap ∧ (a = X.env.locals ∨ X.env.cells.lookup x = some a)) → Q () s') (hf : X.fn x = true ∨ X.env.scope.names.lookup x = some .local := by first | exact .inl rfl | exact .inr rfl | assumption) : wpAny M A (storeName X.env x u) Q E s := by
  obtain ⟨m, hn, hl⟩ := id I.loc
  have hcls : (X.env.scope.kind == .class || (X.env.scope.kind == .module && X.env.locals != X.env.globals)) = false := by rw [I.ok.kind]; rfl
  have hiσ : i < σ.length := by rw [I.len]; exact (List.getElem?_eq_some_iff.mp hi).1
  have cne := I.cne
  have tracked : ∀ {a : Addr} {h' : Heap}, (∃ o, s.heap.get? a = some o ∧ H a = none) → Heap.SameBut a s.heap h' → HOk X.prog X.w H h' := fun {a h'} ha hs b ob e => by
    obtain ⟨_, _, hfree⟩ := ha
    refine (I.hok b ob e).stay (fun c w' hc q => (hs.2 c ?_).trans q) (fun _ q => q) fun _ _ q => q
    rintro rfl
    rcases hc with rfl | hc
    · rw [hfree] at e; cases e
    · rw [hfree] at hc; cases hc
  rcases hx with hk | hk
  · refine wpAny_storeName_local hk hn (fun h' hn' hs => ?_) hcls
    obtain ⟨oL, _, _, hoL, _⟩ := id hn
    refine h _ ⟨I.ok, I.os, I.bare, ⟨fun b o e n hb hx => ?_, fun b o e n hb hx => ?_, I.base.free, fun b o e hx => ?_, I.base.tups, I.base.frzs, I.base.tbls⟩, ⟨_, hn', fun j y v' e1 e2 e3 => ?_⟩, fun y c e => ?_, I.free, I.freeC, fun p hp => ?_, tracked ⟨oL, hoL, I.free⟩ hs, by simpa using I.len⟩ ⟨_, hs, .inl rfl⟩
    · exact (hs.2 b (Nat.ne_of_lt (Nat.lt_of_lt_of_le (Heap.lt_size e) I.ok.above))).trans (I.base.keep b o e n hb hx)
    · obtain ⟨sl, e1⟩ := I.base.slot b o e n hb hx
      exact ⟨sl, (hs.2 b (Nat.ne_of_lt (Nat.lt_of_lt_of_le (Heap.lt_size e) I.ok.above))).trans e1⟩
    · obtain ⟨o', e1⟩ := I.base.there b o e hx
      exact ⟨o', (hs.2 b (Nat.ne_of_lt (Nat.lt_of_lt_of_le (Heap.lt_size e) I.ok.above))).trans e1⟩
    · by_cases hj : j = i
      · subst hj
        rw [hi] at e1; cases e1
        rw [List.getElem?_set_self hiσ] at e2
        cases e2
        exact ⟨u, r, .inl ⟨hk, by simp⟩⟩
      · rw [List.getElem?_set_ne (Ne.symm hj)] at e2
        obtain ⟨u', r', q⟩ := hl j y v' e1 e2 e3
        refine ⟨u', r', ?_⟩
        rcases q with ⟨k, e⟩ | ⟨k, c, e, z⟩
        · refine .inl ⟨k, ?_⟩
          have : y ≠ x := fun e => hj (nodup_ix hN e1 (e ▸ hi))
          simp [this, e]
        · exact .inr ⟨k, c, e, z.sameBut hs (cne y c e)⟩
    · obtain ⟨w', z⟩ := I.cell y c e
      exact ⟨w', z.sameBut hs (cne y c e)⟩
    · obtain ⟨e, n, ne, nf, d⟩ := I.pin p hp
      exact ⟨(hs.2 p.1 ne).trans e, n, ne, nf, d⟩
  · have hfn : X.fn x = true := by
      rcases hf with z | z
      · exact z
      · rw [z] at hk; cases hk
    obtain ⟨c, hc⟩ := I.ok.has x (.inl hk)
    obtain ⟨w', z⟩ := I.cell x c hc
    refine wpAny_storeName_cell I.ok.kind hk hc z (fun h' hc' hs => ?_)
    obtain ⟨oc, hoc, hocd⟩ := id z
    refine h { s with heap := h' } ⟨I.ok, I.os, I.bare, ⟨fun b o e n hb hx => ?_, fun b o e n hb hx => ?_, I.base.free, fun b o e hx => ?_, I.base.tups, I.base.frzs, I.base.tbls⟩, ⟨m, hn.sameBut hs (Ne.symm (cne x c hc)), fun j y v' e1 e2 e3 => ?_⟩, fun y c' e => ?_, I.free, I.freeC, fun p hp => ?_, tracked ⟨oc, hoc, I.freeC x c hc⟩ hs, by simpa using I.len⟩ ⟨c, hs, .inr hc⟩
    · exact (hs.2 b (Nat.ne_of_lt (Nat.lt_of_lt_of_le (Heap.lt_size e) (I.ok.cab x c hfn hc)))).trans (I.base.keep b o e n hb hx)
    · obtain ⟨sl, e1⟩ := I.base.slot b o e n hb hx
      exact ⟨sl, (hs.2 b (Nat.ne_of_lt (Nat.lt_of_lt_of_le (Heap.lt_size e) (I.ok.cab x c hfn hc)))).trans e1⟩
    · obtain ⟨o', e1⟩ := I.base.there b o e hx
      exact ⟨o', (hs.2 b (Nat.ne_of_lt (Nat.lt_of_lt_of_le (Heap.lt_size e) (I.ok.cab x c hfn hc)))).trans e1⟩
    · by_cases hj : j = i
      · subst hj
        rw [hi] at e1; cases e1
        rw [List.getElem?_set_self hiσ] at e2
        cases e2
        exact ⟨u, r, .inr ⟨.inl hk, c, hc, hc'⟩⟩
      · rw [List.getElem?_set_ne (Ne.symm hj)] at e2
        obtain ⟨u', r', q⟩ := hl j y v' e1 e2 e3
        refine ⟨u', r', ?_⟩
        rcases q with q | ⟨k, c', e, z'⟩
        · exact .inl q
        · refine .inr ⟨k, c', e, z'.sameBut hs ?_⟩
          rintro rfl
          exact hj (nodup_ix hN e1 (I.ok.inj _ _ _ e hc ▸ hi))
    · by_cases hcc : c' = c
      · subst hcc; exact ⟨_, hc'⟩
      · obtain ⟨w2, z2⟩ := I.cell y c' e
        exact ⟨w2, z2.sameBut hs hcc⟩
    · obtain ⟨e, n, ne, nf, d⟩ := I.pin p hp
      refine ⟨(hs.2 p.1 ?_).trans e, n, ne, nf, d⟩
      intro q
      rw [q, hoc] at e
      have q' : oc = p.2 := Option.some.inj e
      exact d w' (by rw [← q']; exact hocd)
theorem store_ok {M : Model} {A : Around} {E : Value → Shared → Prop} {i : Nat} {x : Str} {v : V} {u : Value} {Q : Unit → Shared → Prop} (I : Inv X pins σ H s) (hN : X.N.Nodup) (hi : X.N[i]? = some x) (hx : Loc X.env.scope x) (r : RelV v u)
    (h : ∀ s', Inv X pins (σ.set i (some v)) H s' → Q () s') (hf : X.fn x = true ∨ X.env.scope.names.lookup x = some .local := by first | exact .inl rfl | exact .inr rfl | assumption) : wpAny M A (storeName X.env x u) Q E s :=
  store_ok2 I hN hi hx r (fun s' I' _ => h s' I') hf
theorem Inv.call' {s' : Shared} {ch : List Addr} (I : Inv X pins σ H s) (ho : s'.os = s.os) (u : Un (frs X.stack) ch H H' s.heap s'.heap) (hok : HOk X.prog X.w H' s'.heap) (hg : AllBare s'.gens)
    (hch : ∀ b ∈ ch, (b ∈ X.ex ∨ X.s_0.heap.objs.size ≤ b) ∧ b ≠ X.env.locals ∧ (∀ x c, X.env.cells.lookup x = some c → c ≠ b) ∧ ∀ p ∈ X.pn ++ pins, p.1 ≠ b) : Inv X pins σ H' s' := by
  obtain ⟨h', g', d', t', o'⟩ := s'
  have e : o' = s.os := ho
  subst e
  exact I.call (g' := g') (t' := t') (d' := d') u hok hg hch
end
noncomputable abbrev XK := Value → Option Addr → Hp → Prop
noncomputable abbrev St := List (Option V)
noncomputable abbrev VK := V → Hp → Prop
noncomputable abbrev TE := St → Hp → VK → Prop
noncomputable abbrev TT := St → Hp → (Bool → Hp → Prop) → Prop
noncomputable abbrev TA := St → Hp → (List V → Hp → Prop) → Prop
structure Ends where
  nx : St → Hp → Prop
  rt : VK
  bk : St → Hp → Prop := fun _ _ => False
  ct : St → Hp → Prop := fun _ _ => False
noncomputable abbrev TS := Ends → St → Hp → Prop
noncomputable def EP (X : Cx) (pins : List (Addr × Obj)) (σ : St) (Q : VK) (u : Value) (s' : Shared) : Prop := ∃ v H', Inv X pins σ H' s' ∧ RelV v u ∧ Q v H'
noncomputable def TP (X : Cx) (pins : List (Addr × Obj)) (σ : St) (Q : Bool → Hp → Prop) (b : Bool) (s' : Shared) : Prop := ∃ H', Inv X pins σ H' s' ∧ Q b H'
noncomputable def AP (X : Cx) (pins : List (Addr × Obj)) (σ : St) (Q : List V → Hp → Prop) (us : List Value) (s' : Shared) : Prop := ∃ vs H', Inv X pins σ H' s' ∧ Vals vs us ∧ Q vs H'
noncomputable def SP (X : Cx) (pins : List (Addr × Obj)) (D : Ends) (f : Flow) (s' : Shared) : Prop :=
  match f with
  | .next => ∃ σ' H', Inv X pins σ' H' s' ∧ D.nx σ' H'
  | .brk => ∃ σ' H', Inv X pins σ' H' s' ∧ D.bk σ' H'
  | .cont => ∃ σ' H', Inv X pins σ' H' s' ∧ D.ct σ' H'
  | .ret u => ∃ v σ' H', Inv X pins σ' H' s' ∧ RelV v u ∧ D.rt v H'
noncomputable def PE (X : Cx) (e : Expr) (t : TE) : Prop :=
  ∀ (pins : List (Addr × Obj)) (s : Shared) (σ : St) (H : Hp) (Q : VK), Inv X pins σ H s → t σ H Q → wpAny (model X.prog X.w) X.A (eval e X.env) (EP X pins σ Q) X.xe s
noncomputable def PT (X : Cx) (e : Expr) (t : TT) : Prop :=
  ∀ (pins : List (Addr × Obj)) (s : Shared) (σ : St) (H : Hp) (Q : Bool → Hp → Prop), Inv X pins σ H s → t σ H Q → wpAny (model X.prog X.w) X.A (isTrue e X.env (eval e X.env)) (TP X pins σ Q) X.xe s
noncomputable def PW (X : Cx) (e : Expr) (t : TT) : Prop :=
  ∀ (whole : Sem Value) (pins : List (Addr × Obj)) (s : Shared) (σ : St) (H : Hp) (Q : Bool → Hp → Prop), Inv X pins σ H s → t σ H Q → wpAny (model X.prog X.w) X.A (isTrue e X.env whole) (TP X pins σ Q) X.xe s
theorem PW.pt {X : Cx} {e : Expr} {t : TT} (h : PW X e t) : PT X e t := h _
noncomputable def PA (X : Cx) (es : List Expr) (t : TA) : Prop :=
  ∀ (pos : Pos) (pins : List (Addr × Obj)) (s : Shared) (σ : St) (H : Hp) (Q : List V → Hp → Prop), Inv X pins σ H s → t σ H Q → wpAny (model X.prog X.w) X.A (spliced (backTo pos (starEach es X.env))) (AP X pins σ Q) X.xe s
noncomputable def PS (X : Cx) (st : Stmt) (t : TS) : Prop :=
  ∀ (pins : List (Addr × Obj)) (s : Shared) (σ : St) (H : Hp) (D : Ends), Inv X pins σ H s → t D σ H → wpAny (model X.prog X.w) X.A (exec st X.env) (SP X pins D) X.xe s
noncomputable def PSs (X : Cx) (st : List Stmt) (t : TS) : Prop :=
  ∀ (pins : List (Addr × Obj)) (s : Shared) (σ : St) (H : Hp) (D : Ends), Inv X pins σ H s → t D σ H → wpAny (model X.prog X.w) X.A (execs st X.env) (SP X pins D) X.xe s
theorem thn {α : Type} {t : Sem α} {Q Q' : α → Shared → Prop} {M : Model} {A : Around} {E : Value → Shared → Prop} {s : Shared} (h : wpAny M A t Q E s) (hQ : ∀ a s, Q a s → Q' a s) : wpAny M A t Q' E s := wpAny_mono h hQ fun _ _ x => x
end L2
namespace L2
open PySem PySem.Spec PyProof.Rows
section
variable {X : Cx}
noncomputable def tVar (i : Nat) : TE := fun σ H Q => ∃ v, σ[i]? = some (some v) ∧ Q v H
noncomputable def tC (v : V) : TE := fun _ H Q => Q v H
theorem pe_var {i : Nat} {x : Str} {pos : Pos} (hN : X.N[i]? = some x) (hv : Vis X.env.scope x) (hd : (x == ("__debug__" : Str)) = false := by decide) (hcd : (x == ("__classdict__" : Str)) = false := by decide) : PE X (.Name x pos) (tVar i) := by
  intro pins s σ H Q I h
  obtain ⟨v, e, h⟩ := h
  obtain ⟨m, hn, hl⟩ := I.loc
  obtain ⟨u, r, l⟩ := hl i x v hN e hv
  have fin : EP X pins σ Q u s := ⟨v, H, I, r, h⟩
  rcases l with ⟨hk, hm⟩ | ⟨hk, c, hc, hcell⟩
  · exact wpAny_Name (wpAny_loadName_local I.ok.kind hk hn hm fin) hd
  · rcases hk with hk | hk
    · exact wpAny_Name (wpAny_loadName_cell I.ok.kind hk hc hcell fin) hd
    · exact wpAny_Name (wpAny_loadName_free I.ok.kind hk hc hcell fin hcd) hd
theorem pe_int {i j pos} : PE X (.Constant (.int i) j pos) (tC (.int i)) := fun _ _ _ H _ I h => wpAny_Constant_int ⟨.int i, H, I.tok _, ⟨_, rfl⟩, h⟩
theorem pe_bl {b j pos} : PE X (.Constant (.bool b) j pos) (tC (.bl b)) := fun _ _ _ H _ I h => Constant_bool ⟨.bl b, H, I, rfl, h⟩
theorem pe_non {j pos} : PE X (.Constant .none j pos) (tC .non) := fun _ _ _ H _ I h => Constant_none ⟨.non, H, I, rfl, h⟩
theorem pe_str {x j pos} : PE X (.Constant (.str x) j pos) (tC (.str x)) := fun _ _ _ H _ I h => Calls.Constant_str ⟨.str x, H, I.tok _, ⟨_, rfl⟩, h⟩
noncomputable def Gl (X : Cx) (x : Str) : Prop := X.env.kindOf x = some .globalImplicit
theorem ld_glob {E : Value → Shared → Prop} {pins : List (Addr × Obj)} {s : Shared} {σ : St} {H : Hp} {x : Str} {u : Value} {pos : Pos} {Q : Value → Shared → Prop} (I : Inv X pins σ H s) (hg : Gl X x) (hm : X.mg x = some u) (h : Q u s)
    (hd : (x == ("__debug__" : Str)) = false := by decide) : wpAny (model X.prog X.w) X.A (eval (.Name x pos) X.env) Q E s :=
  Calls.Name_function_global I.ok.kind hg (Calls.loadGlobal_global (by rw [I.ok.glob]; exact I.mod.glob.keeps I.bk) hm h) hd
theorem ld_blt {E : Value → Shared → Prop} {pins : List (Addr × Obj)} {s : Shared} {σ : St} {H : Hp} {x : Str} {u : Value} {pos : Pos} {Q : Value → Shared → Prop} (I : Inv X pins σ H s) (hg : Gl X x) (hm : X.mg x = none) (hv : bootBuiltins x = some u) (h : Q u s)
    (hn : x ≠ "__name__" := by decide) (hd : (x == ("__debug__" : Str)) = false := by decide) : wpAny (model X.prog X.w) X.A (eval (.Name x pos) X.env) Q E s := by
  obtain ⟨mb, h1, h2⟩ := I.mod.blt
  exact Calls.Name_function_global I.ok.kind hg (Calls.loadGlobal_builtin (by rw [I.ok.glob]; exact I.mod.glob.keeps I.bk) hm (by rw [I.ok.blt]; exact h1.keeps I.bk) ((h2 x hn).trans hv) h) hd
theorem pe_glob {x : Str} {v : V} {u : Value} {pos : Pos} (hg : Gl X x) (hm : X.mg x = some u) (r : RelV v u) (hd : (x == ("__debug__" : Str)) = false := by decide) : PE X (.Name x pos) (tC v) :=
  fun _ _ _ H _ I h => ld_glob I hg hm ⟨v, H, I, r, h⟩ hd
variable {a b : Expr} {ta tb : TE} {pos : Pos}
noncomputable def tB (t : TE) : TT := fun σ H Q => t σ H fun x H1 => ∃ c, x = .bl c ∧ Q c H1
theorem pt_val {e : Expr} {t : TE} (h : PE X e t) (he : ∀ whole, isTrue e X.env whole = (do let v ← whole; standAt e.pos; holding [v] (truthy v)) := by intro _; rfl) : PT X e (tB t) := by
  intro pins s σ H Q I hw
  refine isTrue_plain (thn (h pins s σ H _ I hw) fun v s1 ⟨x, H1, I1, r1, q1⟩ => ?_) (he _)
  obtain ⟨d, rfl, q⟩ := q1
  cases r1
  exact wpAny_truthy_bool ⟨H1, I1, q⟩
variable {tA tB' : TT} {rest : List Expr}
noncomputable def tAnd (t u : TT) : TT := fun σ H Q => t σ H fun c H1 => if c = true then u σ H1 Q else Q false H1
noncomputable def tOr (t u : TT) : TT := fun σ H Q => t σ H fun c H1 => if c = true then Q true H1 else u σ H1 Q
noncomputable def tNot (t : TT) : TT := fun σ H Q => t σ H fun c H1 => Q (!c) H1
theorem pw_and1 (ha : PT X a tA) : PW X (.BoolOp .And [a] pos) tA := by
  intro wh pins s σ H Q I h
  refine isTrue_and (thn (ha pins s σ H Q I h) fun c s1 e => ?_)
  cases c with
  | true => exact isTrue_and_nil e
  | false => exact e
theorem pw_or1 (ha : PT X a tA) : PW X (.BoolOp .Or [a] pos) tA := by
  intro wh pins s σ H Q I h
  refine isTrue_or (thn (ha pins s σ H Q I h) fun c s1 e => ?_)
  cases c with
  | false => exact isTrue_or_nil e
  | true => exact e
theorem pw_and (ha : PT X a tA) (hb : PW X (.BoolOp .And (b :: rest) pos) tB') : PW X (.BoolOp .And (a :: b :: rest) pos) (tAnd tA tB') := by
  intro wh pins s σ H Q I h
  refine isTrue_and (thn (ha pins s σ H _ I h) fun c s1 ⟨H1, I1, q1⟩ => ?_)
  cases c with
  | true => exact hb wh pins s1 σ H1 Q I1 q1
  | false => exact ⟨H1, I1, q1⟩
theorem pw_or (ha : PT X a tA) (hb : PW X (.BoolOp .Or (b :: rest) pos) tB') : PW X (.BoolOp .Or (a :: b :: rest) pos) (tOr tA tB') := by
  intro wh pins s σ H Q I h
  refine isTrue_or (thn (ha pins s σ H _ I h) fun c s1 ⟨H1, I1, q1⟩ => ?_)
  cases c with
  | true => exact ⟨H1, I1, q1⟩
  | false => exact hb wh pins s1 σ H1 Q I1 q1
theorem pt_not (ha : PT X a tA) : PT X (.UnaryOp .Not a pos) (tNot tA) := by
  intro pins s σ H Q I h
  exact isTrue_not (ha pins s σ H (fun c H1 => Q (!c) H1) I h)
noncomputable def tAndV (ta tb : TE) : TE := fun σ H Q => ta σ H fun x H1 => ∃ c, x = .bl c ∧ if c = true then tb σ H1 Q else Q (.bl false) H1
noncomputable def tOrV (ta tb : TE) : TE := fun σ H Q => ta σ H fun x H1 => ∃ c, x = .bl c ∧ if c = true then Q (.bl true) H1 else tb σ H1 Q
noncomputable def tNotV (ta : TE) : TE := fun σ H Q => ta σ H fun x H1 => ∃ c, x = .bl c ∧ Q (.bl (!c)) H1
theorem pe_one {op} {t : TE} (h : PE X a t) : PE X (.BoolOp op [a] pos) t := fun pins s σ H Q I hw => BoolOp_one (h pins s σ H Q I hw)
theorem pe_and (ha : PE X a ta) (hb : PE X (.BoolOp .And (b :: rest) pos) tb) : PE X (.BoolOp .And (a :: b :: rest) pos) (tAndV ta tb) := by
  intro pins s σ H Q I h
  refine BoolOp_and (thn (ha pins s σ H _ I h) fun v s1 ⟨x, H1, I1, r1, q1⟩ => ?_)
  obtain ⟨c, rfl, q1⟩ := q1
  cases r1
  refine wpAny_truthy_bool ?_
  cases c with
  | true => exact hb pins s1 σ H1 Q I1 q1
  | false => exact ⟨.bl false, H1, I1, rfl, q1⟩
theorem pe_or (ha : PE X a ta) (hb : PE X (.BoolOp .Or (b :: rest) pos) tb) : PE X (.BoolOp .Or (a :: b :: rest) pos) (tOrV ta tb) := by
  intro pins s σ H Q I h
  refine BoolOp_or (thn (ha pins s σ H _ I h) fun v s1 ⟨x, H1, I1, r1, q1⟩ => ?_)
  obtain ⟨c, rfl, q1⟩ := q1
  cases r1
  refine wpAny_truthy_bool ?_
  cases c with
  | false => exact hb pins s1 σ H1 Q I1 q1
  | true => exact ⟨.bl true, H1, I1, rfl, q1⟩
theorem pe_not (ha : PE X a ta) : PE X (.UnaryOp .Not a pos) (tNotV ta) := by
  intro pins s σ H Q I h
  refine UnaryOp_ (thn (ha pins s σ H _ I h) fun v s1 ⟨x, H1, I1, r1, q1⟩ => ?_)
  obtain ⟨c, rfl, q1⟩ := q1
  cases r1
  exact not_of (wpAny_truthy_bool ⟨.bl (!c), H1, I1, rfl, q1⟩)
end
end L2
namespace L2
open PySem PySem.Spec PyProof.Rows
noncomputable def SqL (K : PySem.W.Frag) (H : Hp) (a : Addr) (xs : List V) : Prop :=
  Rd H a (.lst xs) ∨
    ∃ (o : Obj) (its : Array Value) (n : Nat), K.lookup a = some o ∧ o.cls = .type "list" ∧ o.dict = none ∧ o.data = .seq its n ∧ its.size ≤ sizeLine ∧ Vals xs its.toList
noncomputable def SqT (K : PySem.W.Frag) (H : Hp) (a : Addr) (xs : List V) : Prop :=
  Rd H a (.tup xs) ∨
    ∃ (o : Obj) (its : Array Value) (n : Nat), K.lookup a = some o ∧ o.cls = .type "tuple" ∧ o.data = .seq its n ∧ its.size ≤ sizeLine ∧ Vals xs its.toList
noncomputable def absV : Value → Option V
  | .none => some .non
  | .bool b => some (.bl b)
  | .int i _ => some (.int i)
  | .str x _ => some (.str x)
  | .bytes b _ => some (.byt b)
  | .float b _ => some (.flt b)
  | .ref a => some (.ref a)
  | .type n => some (.ty n)
  | _ => none
theorem RelV.abs {x : V} {u : Value} (r : RelV x u) : absV u = some x := by
  cases x with
  | non => cases r; rfl
  | bl _ => cases r; rfl
  | int _ => obtain ⟨t, rfl⟩ := r; rfl
  | str _ => obtain ⟨t, rfl⟩ := r; rfl
  | byt _ => obtain ⟨t, rfl⟩ := r; rfl
  | flt _ => obtain ⟨t, rfl⟩ := r; rfl
  | ref _ => cases r; rfl
  | ty _ => cases r; rfl
theorem RelV.inj {x y : V} {u : Value} (r : RelV x u) (q : RelV y u) : x = y := Option.some.inj (r.abs.symm.trans q.abs)
theorem Vals.inj : ∀ {xs ys : List V} {us : List Value}, Vals xs us → Vals ys us → xs = ys
  | _, _, _, .nil, .nil => rfl
  | _, _, _, .cons r t, .cons r' t' => by rw [r.inj r', Vals.inj t t']
section
variable {X : Cx} {pins : List (Addr × Obj)} {σ : St} {H : Hp} {s : Shared} {a : Addr} {xs ys : List V}
theorem SqL.of {K : PySem.W.Frag} (h : H a = some (.lst xs)) : SqL K H a xs := .inl (.inl h)
theorem SqT.of {K : PySem.W.Frag} (h : H a = some (.tup xs)) : SqT K H a xs := .inl (.inl h)
theorem Inv.list (I : Inv X pins σ H s) (h : SqL X.K H a xs) : ∃ its : List Value, Vals xs its ∧ PlainL s.heap a its.toArray ∧ xs.length ≤ sizeLine := by
  rcases h with h | ⟨o, its, n, hk, hc, hd, hs, hz, r⟩
  · obtain ⟨z, its, n, r, e⟩ := h.ok I.hok
    exact ⟨its, r, ⟨_, n, e, rfl, rfl, rfl⟩, z⟩
  · refine ⟨its.toList, r, ⟨o, n, I.kIn a o hk, hc, hd, by simpa using hs⟩, ?_⟩
    have e := r.length
    simp only [Array.length_toList] at e
    omega
theorem Inv.tuple (I : Inv X pins σ H s) (h : SqT X.K H a xs) : ∃ its : List Value, Vals xs its ∧ IsTup s.heap a its.toArray ∧ xs.length ≤ sizeLine := by
  rcases h with h | ⟨o, its, n, hk, hc, hs, hz, r⟩
  · obtain ⟨z, its, r, p⟩ := h.ok I.hok
    exact ⟨its, r, p, z⟩
  · refine ⟨its.toList, r, ⟨o, I.kIn a o hk, hc, n, by simpa using hs⟩, ?_⟩
    have e := r.length
    simp only [Array.length_toList] at e
    omega
theorem Inv.list_inj (I : Inv X pins σ H s) (h : SqL X.K H a xs) (h' : SqL X.K H a ys) : xs = ys := by
  obtain ⟨its, r, ⟨o, n, e, _, _, d⟩, _⟩ := I.list h
  obtain ⟨its', r', ⟨o', n', e', _, _, d'⟩, _⟩ := I.list h'
  rw [e] at e'; cases e'
  rw [d] at d'
  injection d' with d1 _
  have : its = its' := by simpa using congrArg Array.toList d1
  subst this
  exact r.inj r'
theorem Inv.tuple_inj (I : Inv X pins σ H s) (h : SqT X.K H a xs) (h' : SqT X.K H a ys) : xs = ys := by
  obtain ⟨its, r, ⟨o, e, _, n, d⟩, _⟩ := I.tuple h
  obtain ⟨its', r', ⟨o', e', _, n', d'⟩, _⟩ := I.tuple h'
  rw [e] at e'; cases e'
  rw [d] at d'
  injection d' with d1 _
  have : its = its' := by simpa using congrArg Array.toList d1
  subst this
  exact r.inj r'
end
noncomputable abbrev Cx.wish (X : Cx) (E : Value → Shared → Prop) : Cx := { X with xe := E }
noncomputable abbrev Cx.nox (X : Cx) : Cx := X.wish fun _ _ => False
theorem Cx.Ok.wish {X : Cx} (ok : X.Ok) (E : Value → Shared → Prop) : (X.wish E).Ok :=
  ⟨ok.mod, ok.kind, ok.glob, ok.blt, ok.above, ok.inj, ok.has, ok.cab, ok.hd, ok.frames, ok.stk, ok.exf, ok.bs, ok.bsz, ok.noex, ok.exfs, ok.funs, ok.frf⟩
theorem Cx.Ok.unwish {X : Cx} {E : Value → Shared → Prop} (ok : (X.wish E).Ok) : X.Ok :=
  ⟨ok.mod, ok.kind, ok.glob, ok.blt, ok.above, ok.inj, ok.has, ok.cab, ok.hd, ok.frames, ok.stk, ok.exf, ok.bs, ok.bsz, ok.noex, ok.exfs, ok.funs, ok.frf⟩
section
variable {X : Cx} {pins : List (Addr × Obj)} {σ : St} {H : Hp} {s : Shared} {E : Value → Shared → Prop}
theorem Inv.wish (I : Inv X pins σ H s) (E : Value → Shared → Prop) : Inv (X.wish E) pins σ H s := ⟨I.ok.wish E, I.os, I.bare, I.base, I.loc, I.cell, I.free, I.freeC, I.pin, I.hok, I.len⟩
theorem Inv.unwish (I : Inv (X.wish E) pins σ H s) : Inv X pins σ H s := ⟨I.ok.unwish, I.os, I.bare, I.base, I.loc, I.cell, I.free, I.freeC, I.pin, I.hok, I.len⟩
theorem SP.unwish {D : Ends} {f : Flow} {s' : Shared} (h : SP (X.wish E) pins D f s') : SP X pins D f s' := by
  cases f with
  | next => obtain ⟨σ', H', I, q⟩ := h; exact ⟨σ', H', I.unwish, q⟩
  | brk => obtain ⟨σ', H', I, q⟩ := h; exact ⟨σ', H', I.unwish, q⟩
  | cont => obtain ⟨σ', H', I, q⟩ := h; exact ⟨σ', H', I.unwish, q⟩
  | ret u => obtain ⟨v, σ', H', I, r, q⟩ := h; exact ⟨v, σ', H', I.unwish, r, q⟩
theorem PSs.nox {st : List Stmt} {t : TS} (h : PSs X.nox st t) : PSs X st t := fun pins s σ H D I hw =>
  wpAny_mono (h pins s σ H D (I.wish _) hw) (fun _ _ q => q.unwish) fun _ _ z => False.elim z
end
section
variable {X : Cx} {st : Stmt} {rest : List Stmt} {t u : TS} {e : Expr} {te : TE} {pos : Pos}
noncomputable def tNext : TS := fun D σ H => D.nx σ H
noncomputable def tSeq (t u : TS) : TS := fun D σ H => t { D with nx := u D } σ H
theorem pss_nil : PSs X [] tNext := fun _ _ σ H _ I h => wpAny_execs_nil ⟨σ, H, I, h⟩
theorem pss_cons (h1 : PS X st t) (h2 : PSs X rest u) : PSs X (st :: rest) (tSeq t u) := by
  intro pins s σ H D I h
  refine wpAny_execs_cons (thn (h1 pins s σ H { D with nx := u D } I h) fun f s1 q => ?_)
  cases f with
  | next =>
    obtain ⟨σ', H', I', q⟩ := q
    exact h2 pins s1 σ' H' D I' q
  | ret v => exact q
  | brk => exact q
  | cont => exact q
theorem pss_one (h1 : PS X st t) : PSs X [st] t := by
  intro pins s σ H D I h
  refine wpAny_execs_cons (thn (h1 pins s σ H D I h) fun f s1 q => ?_)
  cases f with
  | next => exact wpAny_execs_nil q
  | ret v => exact q
  | brk => exact q
  | cont => exact q
theorem Inv.quiet {pins : List (Addr × Obj)} {σ : St} {H : Hp} {s : Shared} (I : Inv X pins σ H s) : interactive X.env = false := by simp [interactive, I.ok.kind]
noncomputable def tDrop (te : TE) : TS := fun D σ H => te σ H fun _ H1 => D.nx σ H1
theorem ps_expr (he : PE X e te) (hs : swapsWith e none pos.line X.env = pure false := by rfl) : PS X (.Expr e pos) (tDrop te) := by
  intro pins s σ H D I h
  exact wpAny_Expr_any (thn (he pins s σ H _ I h) fun v s1 ⟨x, H1, I1, r1, q1⟩ => ⟨σ, H1, I1, q1⟩) I.quiet hs
noncomputable def tRet (te : TE) : TS := fun D σ H => te σ H D.rt
theorem ps_ret (he : PE X e te) : PS X (.Return (some e) pos) (tRet te) := by
  intro pins s σ H D I h
  exact wpAny_Return_some (thn (he pins s σ H _ I h) fun v s1 ⟨x, H1, I1, r1, q1⟩ => ⟨x, σ, H1, I1, r1, q1⟩)
noncomputable def tIfS (c : TT) (t u : TS) : TS := fun D σ H => c σ H fun b H1 => if b = true then t D σ H1 else u D σ H1
theorem ps_if {c : Expr} {a b : List Stmt} {tc : TT} (hc : PT X c tc) (ha : PSs X a t) (hb : PSs X b u) : PS X (.If c a b pos) (tIfS tc t u) := by
  intro pins s σ H D I h
  refine wpAny_If (thn (hc pins s σ H _ I h) fun d s1 ⟨H1, I1, q1⟩ => ?_)
  cases d with
  | true => exact ha pins s1 σ H1 D I1 q1
  | false => exact hb pins s1 σ H1 D I1 q1
end
noncomputable abbrev TG := V → St → Hp → (St → Hp → Prop) → Prop
noncomputable abbrev TGs := List V → St → Hp → (St → Hp → Prop) → Prop
noncomputable def PG (X : Cx) (target : Expr) (t : TG) : Prop :=
  ∀ (pins : List (Addr × Obj)) (s : Shared) (σ : St) (H : Hp) (v : V) (u : Value) (Q : St → Hp → Prop), Inv X pins σ H s → RelV v u → t v σ H Q →
    wpAny (model X.prog X.w) X.A (assign target X.env u) (fun _ s' => ∃ σ' H', Inv X pins σ' H' s' ∧ Q σ' H') X.xe s
noncomputable def PGs (X : Cx) (ts : List Expr) (t : TGs) : Prop :=
  ∀ (pins : List (Addr × Obj)) (s : Shared) (σ : St) (H : Hp) (vs : List V) (us : List Value) (Q : St → Hp → Prop), Inv X pins σ H s → Vals vs us → t vs σ H Q →
    wpAny (model X.prog X.w) X.A (assignInOrder ((assignEach ts X.env).map (·.2)) us) (fun _ s' => ∃ σ' H', Inv X pins σ' H' s' ∧ Q σ' H') X.xe s
noncomputable abbrev TIp := V → V → Hp → VK → Prop
noncomputable def PIp (X : Cx) (op : Operator) (t : TIp) : Prop :=
  ∀ (pins : List (Addr × Obj)) (s : Shared) (σ : St) (H : Hp) (x y : V) (v u : Value) (Q : VK), Inv X pins σ H s → RelV x v → RelV y u → t x y H Q →
    wpAny (model X.prog X.w) X.A (inplaceOp op v u) (EP X pins σ Q) X.xe s
section
variable {X : Cx} {pos : Pos}
noncomputable def gName (i : Nat) : TG := fun v σ H Q => Q (σ.set i (some v)) H
theorem pg_name {i : Nat} {x : Str} (hN : X.N.Nodup) (hi : X.N[i]? = some x) (hx : Loc X.env.scope x) (hf : X.fn x = true ∨ X.env.scope.names.lookup x = some .local := by first | exact .inl rfl | exact .inr rfl | assumption) : PG X (.Name x pos) (gName i) := by
  intro pins s σ H v u Q I r h
  exact wpAny_assign_Name (store_ok I hN hi hx r (fun s' I' => ⟨_, H, I', h⟩) hf)
noncomputable def gNil : TGs := fun vs σ H Q => vs = [] ∧ Q σ H
noncomputable def gCons (t : TG) (u : TGs) : TGs := fun vs σ H Q => ∃ v r, vs = v :: r ∧ t v σ H fun σ' H' => u r σ' H' Q
theorem pgs_nil : PGs X [] gNil := by
  intro pins s σ H vs us Q I r h
  obtain ⟨e, h⟩ := h
  subst e
  cases r
  exact assignInOrder_nil ⟨σ, H, I, h⟩
theorem pgs_cons {e : Expr} {es : List Expr} {t : TG} {u : TGs} (h1 : PG X e t) (h2 : PGs X es u)
    (hs : (assignEach (e :: es) X.env).map (·.2) = assign e X.env :: (assignEach es X.env).map (·.2) := by rfl) : PGs X (e :: es) (gCons t u) := by
  intro pins s σ H vs us Q I r h
  obtain ⟨v, vr, e1, h⟩ := h
  subst e1
  cases r with
  | cons r rr =>
    rw [hs]
    refine assignInOrder_cons (thn (h1 pins s σ H _ _ _ I r h) fun _ s1 ⟨σ1, H1, I1, q1⟩ => ?_)
    exact h2 pins s1 σ1 H1 _ _ Q I1 rr q1
noncomputable def gTup (K : PySem.W.Frag) (n : Nat) (t : TGs) : TG := fun v σ H Q => ∃ a xs, v = .ref a ∧ SqT K H a xs ∧ xs.length = n ∧ t xs σ H Q
theorem pg_tup {es : List Expr} {k : Nat} {t : TGs} {n : Nat} (hc : X.calm = true) (h : PGs X es t)
    (hn : (assignEach es X.env).length = n := by rfl) (hst : (assignEach es X.env).findIdx? (·.1) = none := by rfl) : PG X (.Tuple es k pos) (gTup X.K n t) := by
  intro pins s σ H v u Q I r hw
  obtain ⟨a, xs, e1, hq, hl, hw⟩ := hw
  subst e1
  cases r
  obtain ⟨its, rv, ht, hz⟩ := I.tuple hq
  refine assign_Tuple_tuple (I.ok.hd hc) ht (by simp [hn, ← hl, rv.length]) hst fun h' hx => ?_
  have I1 : Inv X pins σ H { s with heap := h' } := I.kept (t' := s.toks) fun b o e => hx b o (Nat.ne_of_lt (Heap.lt_size e)) e
  exact h pins _ σ H xs _ Q I1 (by simpa using rv) hw
noncomputable def tAsg (te : TE) (g : TG) : TS := fun D σ H => te σ H fun x H1 => g x σ H1 D.nx
theorem ps_set {i : Nat} {x : Str} {e : Expr} {te : TE} {pos' : Pos} (hN : X.N.Nodup) (hi : X.N[i]? = some x) (hx : Loc X.env.scope x) (he : PE X e te) (hs : swapsWith e (some (.Name x pos')) pos.line X.env = pure false := by rfl) (hf : X.fn x = true ∨ X.env.scope.names.lookup x = some .local := by first | exact .inl rfl | exact .inr rfl | assumption) :
    PS X (.Assign [.Name x pos'] e pos) (tAsg te (gName i)) := by
  intro pins s σ H D I h
  refine wpAny_Assign_Name (thn (he pins s σ H _ I h) fun v s1 ⟨y, H1, I1, r1, q1⟩ => ?_) hs
  exact store_ok I1 hN hi hx r1 (fun s2 I2 => ⟨_, H1, I2, q1⟩) hf
noncomputable def tAug (i : Nat) (te : TE) (ti : TIp) : TS := fun D σ H => ∃ x, σ[i]? = some (some x) ∧ te σ H fun y H1 => ti x y H1 fun z H2 => D.nx (σ.set i (some z)) H2
theorem ps_aug {i : Nat} {x : Str} {e : Expr} {te : TE} {op : Operator} {ti : TIp} {pos' : Pos} (hN : X.N.Nodup) (hi : X.N[i]? = some x) (hx : Loc X.env.scope x) (he : PE X e te) (ho : PIp X op ti) (hf : X.fn x = true ∨ X.env.scope.names.lookup x = some .local := by first | exact .inl rfl | exact .inr rfl | assumption) :
    PS X (.AugAssign (.Name x pos') op e pos) (tAug i te ti) := by
  intro pins s σ H D I h
  obtain ⟨v, e1, h⟩ := h
  obtain ⟨m, hn, hl⟩ := I.loc
  have vis : Vis X.env.scope x := by rcases hx with k | k; exact .inl k; exact .inr (.inl k)
  obtain ⟨u, r, l⟩ := hl i x v hi e1 vis
  refine wpAny_AugAssign_Name ?_
  have go : wpAny (model X.prog X.w) X.A (eval e X.env) (fun w s₂ => wpAny (model X.prog X.w) X.A (inplaceOp op u w) (fun r s₃ => wpAny (model X.prog X.w) X.A (storeName X.env x r) (fun _ => SP X pins D .next) X.xe s₃) X.xe s₂) X.xe s := by
    refine thn (he pins s σ H _ I h) fun w s1 ⟨y, H1, I1, r1, q1⟩ => ?_
    refine thn (ho pins s1 σ H1 v y u w _ I1 r r1 q1) fun z s2 ⟨zv, H2, I2, r2, q2⟩ => ?_
    exact store_ok I2 hN hi hx r2 (fun s3 I3 => ⟨_, H2, I3, q2⟩) hf
  rcases l with ⟨hk, hm⟩ | ⟨hk, c, hc, hcell⟩
  · exact wpAny_loadName_local I.ok.kind hk hn hm go
  · rcases hk with hk | hk
    · exact wpAny_loadName_cell I.ok.kind hk hc hcell go
    · rcases hx with k | k
      · have : X.env.scope.names.lookup x = some .free := hk
        rw [k] at this; cases this
      · have : X.env.scope.names.lookup x = some .free := hk
        rw [k] at this; cases this
noncomputable def ipI (f : Int → Int → Int) : TIp := fun x y H Q => ∃ i j, x = .int i ∧ y = .int j ∧ Q (.int (f i j)) H
theorem ip_add : PIp X .Add (ipI fun i j => i + j) := by
  intro pins s σ H x y v u Q I r1 r2 h
  obtain ⟨i, j, e1, e2, q⟩ := h
  subst e1; subst e2
  obtain ⟨t, rfl⟩ := r1
  obtain ⟨t', rfl⟩ := r2
  exact iadd_int ⟨.int _, H, I.tok _, ⟨_, rfl⟩, q⟩
end
section
variable {X : Cx} {pos : Pos}
noncomputable def tWhile (c : TT) (tb : TS) : TS := fun D σ H => ∃ W : Nat → St → Hp → Prop, (∃ m, W m σ H) ∧ ∀ m σ H, W m σ H →
  c σ H fun b H1 => if b = true then ∃ N : St → Hp → Prop, (∀ σ' H', N σ' H' → ∃ m', m' < m ∧ W m' σ' H') ∧ tb { D with nx := N, ct := N, bk := D.nx } σ H1 else D.nx σ H1
theorem ps_while {c : Expr} {body : List Stmt} {tc : TT} {tb : TS} (hp : PassesOwn (model X.prog X.w) X.A X.env X.xe) (hc : PT X c tc) (hb : PSs X body tb) : PS X (.While c body [] pos) (tWhile tc tb) := by
  intro pins s σ H D I h
  obtain ⟨W, ⟨m0, w0⟩, turn⟩ := h
  refine wpAny_While (codeAny_whileLoop (fun n s' => ∃ σ' H', Inv X pins σ' H' s' ∧ W n σ' H') ?_ m0 ⟨σ, H, I, w0⟩)
  rintro n s1 ⟨σ1, H1, I1, w1⟩
  refine wpAny_passesOwn hp (thn (hc pins s1 σ1 H1 _ I1 (turn n σ1 H1 w1)) fun b s2 ⟨H2, I2, q2⟩ => ?_)
  cases b with
  | true =>
    obtain ⟨N, hN, q2⟩ := q2
    rw [if_pos rfl]
    refine wpAny_passesOwn hp (thn (hb pins s2 σ1 H2 _ I2 q2) fun f s3 q3 => ?_)
    cases f with
    | next =>
      obtain ⟨σ3, H3, I3, n3⟩ := q3
      obtain ⟨m', hm, w3⟩ := hN σ3 H3 n3
      exact ⟨m', hm, σ3, H3, I3, w3⟩
    | cont =>
      obtain ⟨σ3, H3, I3, n3⟩ := q3
      obtain ⟨m', hm, w3⟩ := hN σ3 H3 n3
      exact ⟨m', hm, σ3, H3, I3, w3⟩
    | brk => exact q3
    | ret v => exact q3
  | false =>
    rw [if_neg Bool.false_ne_true]
    exact wpAny_execs_nil ⟨σ1, H2, I2, q2⟩
end
structure It where
  go : Nat → Hp → Prop
  yld : Nat → Hp → V → Hp → Prop
  stop : Nat → Hp → Prop
noncomputable def FpOk (X : Cx) (pins : List (Addr × Obj)) (H : Hp) (b : Addr) : Prop :=
  H b = none ∧ b ≠ X.env.locals ∧ b ∉ X.fs ∧ (b ∈ X.ex ∨ X.s_0.heap.objs.size ≤ b) ∧ (∀ x c, X.env.cells.lookup x = some c → c ≠ b) ∧ ∀ p ∈ X.pn ++ pins, p.1 ≠ b
theorem Inv.fpOk {X : Cx} {pins : List (Addr × Obj)} {σ : St} {H H' : Hp} {s : Shared} {b : Addr} (I : Inv X pins σ H s) (hb : s.heap.objs.size ≤ b) (hn : H' b = none) : FpOk X pins H' b := by
  refine ⟨hn, Nat.ne_of_gt (Nat.lt_of_lt_of_le I.lt hb), I.nofs hb, .inr (Nat.le_trans I.sz hb), fun x c e z => ?_, fun p hp z => ?_⟩
  · obtain ⟨v, q⟩ := I.cell x c e
    exact absurd (Nat.lt_of_lt_of_le q.lt (by rw [z]; exact hb)) (Nat.lt_irrefl _)
  · exact absurd (Nat.lt_of_lt_of_le (Heap.lt_size (I.pin p hp).1) (by rw [z]; exact hb)) (Nat.lt_irrefl _)
structure Turn (P : Program) (w : World) (K : PySem.W.Frag) (tg : Expr) (J : It) (fp : List Addr) (it : Addr) (tn : Nat → Heap → Prop) : Prop where
  mem : it ∈ fp
  obj : ∀ i h, tn i h → ∀ b ∈ fp, ∃ o, h.get? b = some o ∧ ∀ v, o.data ≠ .cell v
  keep : ∀ i h h', tn i h → (∀ b ∈ fp, ∀ o, h.get? b = some o → h'.get? b = some o) → tn i h'
  item : ∀ (X : Cx), X.prog = P → X.w = w → X.K = K → X.calm = true → ∀ (i : Nat) (pins : List (Addr × Obj)) (s : Shared) (σ : St) (H : Hp) (E : Value → Shared → Prop), Inv X pins σ H s → (∀ b ∈ fp, FpOk X pins H b) → tn i s.heap → J.go i H →
    wpAny (model P w) X.A (pyNext (.ref it)) (fun r s1 => ∃ u, r = some u ∧
      wpAny (model P w) X.A (letOwnedTupleGo tg (.ref it) u) (fun _ s2 => ∃ x H', Inv X pins σ H' s2 ∧ RelV x u ∧ J.yld i H x H' ∧ tn (i + 1) s2.heap ∧ ∀ b ∈ fp, H' b = none) E s1) E s
  done : ∀ (X : Cx), X.prog = P → X.w = w → X.K = K → X.calm = true → ∀ (i : Nat) (pins : List (Addr × Obj)) (s : Shared) (σ : St) (H : Hp) (E : Value → Shared → Prop), Inv X pins σ H s → (∀ b ∈ fp, FpOk X pins H b) → tn i s.heap → J.stop i H →
    wpAny (model P w) X.A (pyNext (.ref it)) (fun r s1 => r = none ∧ Inv X pins σ H s1) E s
  self : ∀ (A : Around) (i : Nat) (s : Shared) (Q : Value → Shared → Prop) (E : Value → Shared → Prop), tn i s.heap → Q (.ref it) s → wpAny (model P w) A (pyIter (.ref it)) Q E s
noncomputable abbrev TI := St → Hp → (It → Hp → Prop) → Prop
noncomputable def PIE (X : Cx) (pins : List (Addr × Obj)) (σ : St) (tg : Expr) (R : It → Hp → Prop) (itv : Value) (s2 : Shared) : Prop :=
  ∃ (it : Addr) (fp : List Addr) (tn : Nat → Heap → Prop) (J : It) (H' : Hp), itv = .ref it ∧ Inv X pins σ H' s2 ∧ Turn X.prog X.w X.K tg J fp it tn ∧ tn 0 s2.heap ∧ (∀ b ∈ fp, FpOk X pins H' b) ∧ R J H'
noncomputable def PI (X : Cx) (tg iter : Expr) (wi : TI) : Prop :=
  ∀ (pins : List (Addr × Obj)) (s : Shared) (σ : St) (H : Hp) (R : It → Hp → Prop), Inv X pins σ H s → wi σ H R →
    wpAny (model X.prog X.w) X.A (eval iter X.env) (fun v s1 => wpAny (model X.prog X.w) X.A (pyIter v) (PIE X pins σ tg R) X.xe s1) X.xe s
theorem go_of {M : Model} {A : Around} {E : Value → Shared → Prop} {s : Shared} {tg : Expr} {it : Addr} {u : Value} {o : Obj} {n : String} {vs : Array Value} {Q : Unit → Shared → Prop} (ho : s.heap.get? it = some o) (hc : o.cls = .type n) (hd : o.data = .fields vs)
    (hn : ["enumerate", "zip", "dict_itemiterator", "dict_reverseitemiterator", "odict_iterator", "itertools.zip_longest", "itertools.pairwise"].contains n = false) (hQ : Q () s) : wpAny M A (letOwnedTupleGo tg (.ref it) u) Q E s := by
  unfold letOwnedTupleGo
  cases tg <;> first
    | exact wpAny_pure hQ
    | (cases u <;> first
        | exact wpAny_pure hQ
        | (refine wpAny_bind (wpAny_load ho ?_)
           rw [hc, hd]
           show wpAny M A (if (["enumerate", "zip", "dict_itemiterator", "dict_reverseitemiterator", "odict_iterator", "itertools.zip_longest", "itertools.pairwise"].contains n && vs[0]? == some (rawInt _)) = true then _ else _) Q E s
           rw [if_neg (by intro h; rw [hn, Bool.false_and] at h; cases h)]
           exact wpAny_pure hQ))
noncomputable def Itl (K : PySem.W.Frag) (a : Addr) : It :=
  ⟨fun i H => ∃ xs x, SqL K H a xs ∧ xs[i]? = some x, fun i H x H' => H' = H ∧ ∀ xs, SqL K H a xs → xs[i]? = some x, fun i H => ∃ xs, SqL K H a xs ∧ xs.length ≤ i⟩
theorem turn_list {P : Program} {w : World} {K : PySem.W.Frag} {tg : Expr} (a it : Addr) : Turn P w K tg (Itl K a) [it] it (fun i h => h.IsListIter it a i) where
  mem := by simp
  obj := fun i h st b hb => by
    have e : b = it := by simpa using hb
    subst e
    obtain ⟨o, e, c, d⟩ := st
    exact ⟨o, e, fun v z => by rw [d] at z; cases z⟩
  keep := fun i h h' st k => st.at fun o e => k it (by simp) o e
  item := by
    intro X hP hw hK hc i pins s σ H E I hf st hg
    subst hP hw hK
    obtain ⟨xs, x, hq, hx⟩ := hg
    obtain ⟨its, rv, p, hz⟩ := I.list hq
    obtain ⟨u, hu, ru⟩ := rv.get hx
    obtain ⟨f0, f1, f2, f3, f4, f5⟩ := hf it (by simp)
    refine wpAny_pyNext_list_item st p.isList (x := u) (by simpa using hu) fun h' st' sb => ?_
    have I1 : Inv X pins σ H { s with heap := h' } := I.turned (t' := s.toks) (fun b o hb e => (sb.2 b hb).trans e) f0 f1 f3 f4 f5
    obtain ⟨o, e, c, d⟩ := id st'
    exact ⟨u, rfl, go_of (s := { s with heap := h' }) e c d (by decide) ⟨x, H, I1, ru, ⟨rfl, fun ys hy => by rw [I.list_inj hy hq]; exact hx⟩, st', fun b hb => (hf b hb).1⟩⟩
  done := by
    intro X hP hw hK hc i pins s σ H E I hf st hg
    subst hP hw hK
    obtain ⟨xs, hq, hx⟩ := hg
    obtain ⟨its, rv, p, hz⟩ := I.list hq
    obtain ⟨f0, f1, f2, f3, f4, f5⟩ := hf it (by simp)
    have hl := rv.length
    exact wpAny_pyNext_list_end (I.ok.hd hc) st p.isList (by simp; omega) fun h' eb => ⟨rfl, I.turned (t' := s.toks) (fun b o hb e => eb b o hb e) f0 f1 f3 f4 f5⟩
  self := fun _ _ _ _ _ st h => wpAny_pyIter_listiter st h
end L2
namespace L2
open PySem PySem.Spec PyProof.Rows
section
variable {X : Cx} {tg : Expr}
noncomputable def iList (K : PySem.W.Frag) (tl : TE) : TI := fun σ H R => tl σ H fun x H1 => ∃ a, x = .ref a ∧ (∃ xs, SqL K H1 a xs) ∧ R (Itl K a) H1
theorem pi_list {l : Expr} {tl : TE} (hl : PE X l tl) : PI X tg l (iList X.K tl) := by
  intro pins s σ H R I h
  refine thn (hl pins s σ H _ I h) fun v s1 ⟨x, H1, I1, r1, q1⟩ => ?_
  obtain ⟨a, e, ⟨xs, hq⟩, q⟩ := q1
  subst e
  cases r1
  obtain ⟨its, rv, p, hz⟩ := I1.list hq
  refine wpAny_pyIter_list p.isList ?_
  refine ⟨s1.heap.objs.size, [s1.heap.objs.size], _, _, H1, rfl, I1.kept (t' := s1.toks) fun b o e => Heap.get?_push_of_some _ e, turn_list a _, ⟨_, Heap.get?_push_size _ rfl, rfl, rfl⟩, fun b hb => ?_, q⟩
  have e : b = s1.heap.objs.size := by simpa using hb
  subst e
  exact I1.fpOk (Nat.le_refl _) (I1.hok.fresh (Nat.le_refl _))
noncomputable def tFor (wi : TI) (g : TG) (tb : TS) : TS := fun D σ H => wi σ H fun J H1 => ∃ W : Nat → Nat → St → Hp → Prop, (∃ m, W 0 m σ H1) ∧ ∀ i m σ H, W i m σ H →
  (J.stop i H ∧ D.nx σ H) ∨ (J.go i H ∧ ∃ N : St → Hp → Prop, (∀ σ' H', N σ' H' → ∃ m', m' < m ∧ W (i + 1) m' σ' H') ∧ ∀ x H', J.yld i H x H' → g x σ H' fun σ2 H2 => tb { D with nx := N, ct := N, bk := D.nx } σ2 H2)
noncomputable def pinsAt (fp : List Addr) (h : Heap) : List (Addr × Obj) := fp.filterMap fun b => (h.get? b).map fun o => (b, o)
theorem mem_pinsAt {fp : List Addr} {h : Heap} {b : Addr} {o : Obj} (hb : b ∈ fp) (e : h.get? b = some o) : (b, o) ∈ pinsAt fp h := List.mem_filterMap.mpr ⟨b, hb, by rw [e]; rfl⟩
theorem of_pinsAt {fp : List Addr} {h : Heap} {p : Addr × Obj} (hp : p ∈ pinsAt fp h) : p.1 ∈ fp ∧ h.get? p.1 = some p.2 := by
  obtain ⟨b, hb, e⟩ := List.mem_filterMap.mp hp
  cases q : h.get? b with
  | none => rw [q] at e; cases e
  | some o =>
    rw [q] at e
    have e' : (b, o) = p := Option.some.inj e
    subst e'
    exact ⟨hb, q⟩
theorem Inv.pinned {pins : List (Addr × Obj)} {σ : St} {H : Hp} {s : Shared} {fp : List Addr} (I : Inv X pins σ H s) (hf : ∀ b ∈ fp, FpOk X pins H b) (ho : ∀ b ∈ fp, ∃ o, s.heap.get? b = some o ∧ ∀ v, o.data ≠ .cell v) : Inv X (pins ++ pinsAt fp s.heap) σ H s :=
  I.pins_of fun p hp => (List.mem_append.mp hp).elim (fun z => I.pin p (List.mem_append_right _ z)) fun z => by
    obtain ⟨hb, e⟩ := of_pinsAt z
    obtain ⟨f0, f1, f2, _⟩ := hf p.1 hb
    obtain ⟨o, e', d⟩ := ho p.1 hb
    rw [e] at e'; cases e'
    exact ⟨e, f0, f1, f2, d⟩
theorem Inv.unpinned {pins pl : List (Addr × Obj)} {σ : St} {H : Hp} {s : Shared} (I : Inv X (pins ++ pl) σ H s) : Inv X pins σ H s := I.pins_of fun p hp => I.pin p (List.mem_append_right _ (List.mem_append_left _ hp))
theorem ps_for {iter : Expr} {body : List Stmt} {wi : TI} {g : TG} {tb : TS} {pos : Pos} (hp : PassesOwn (model X.prog X.w) X.A X.env X.xe) (hc : X.calm = true) (hi : PI X tg iter wi) (hg : PG X tg g) (hb : PSs X body tb)
    (hs : ∀ x, foldedSetIterable iter X.env x = pure x := by intro _; rfl) : PS X (.For tg iter body [] pos) (tFor wi g tb) := by
  intro pins s σ H D I h
  refine wpAny_For (thn (hi pins s σ H _ I h) fun v s1 h1 => thn h1 fun itv s2 h2 => ?_) hs
  obtain ⟨it, fp, tn, J, H2, e, I2, T, st2, f2, W, ⟨m0, w0⟩, turn⟩ := h2
  subst e
  -- what stays true of the iterator's objects through the loop
  have stat : ∀ {H' : Hp}, (∀ b ∈ fp, H' b = none) → ∀ b ∈ fp, FpOk X pins H' b := fun hn b hb => ⟨hn b hb, (f2 b hb).2⟩
  refine codeAny_forLoop_any (fun n s' => ∃ i σ' H', Inv X pins σ' H' s' ∧ tn i s'.heap ∧ (∀ b ∈ fp, H' b = none) ∧ W i n σ' H') ?_ m0 ⟨0, σ, H2, I2, st2, fun b hb => (f2 b hb).1, w0⟩
  rintro n s3 ⟨i, σ3, H3, I3, st3, fr3, w3⟩
  rcases turn i n σ3 H3 w3 with ⟨stop, qn⟩ | ⟨go, N, hN, step⟩
  · refine wpAny_passesOwn hp (thn (T.done X rfl rfl rfl hc i pins s3 σ3 H3 X.xe I3 (stat fr3) st3 stop) fun r s4 ⟨hr, I4⟩ => ?_)
    subst hr
    exact wpAny_execs_nil ⟨σ3, H3, I4, qn⟩
  · refine wpAny_passesOwn hp (thn (T.item X rfl rfl rfl hc i pins s3 σ3 H3 X.xe I3 (stat fr3) st3 go) fun r s4 ⟨u, hr, h4⟩ => ?_)
    subst hr
    refine wpAny_passesOwn hp (thn h4 fun _ s5 hz9 => ?_)
    obtain ⟨x, H5, I5, r5, y5, st5, fr5⟩ := hz9
    have I5' := I5.pinned (stat fr5) (T.obj _ _ st5)
    refine wpAny_passesOwn hp (thn (hg _ s5 σ3 H5 x u _ I5' r5 (step x H5 y5)) fun _ s6 ⟨σ6, H6, I6, q6⟩ => ?_)
    refine wpAny_passesOwn hp (thn (hb _ s6 σ6 H6 _ I6 q6) fun f s7 q7 => ?_)
    have again : ∀ {σ7 : St} {H7 : Hp}, Inv X (pins ++ pinsAt fp s5.heap) σ7 H7 s7 → N σ7 H7 → ∃ m, m < n ∧ ∃ i σ' H', Inv X pins σ' H' s7 ∧ tn i s7.heap ∧ (∀ b ∈ fp, H' b = none) ∧ W i m σ' H' := fun {σ7 H7} I7 n7 => by
      obtain ⟨m', hm, w7⟩ := hN σ7 H7 n7
      refine ⟨m', hm, i + 1, σ7, H7, I7.unpinned, T.keep _ _ _ st5 fun b hb o e => (I7.pin (b, o) (List.mem_append_right _ (List.mem_append_right _ (mem_pinsAt hb e)))).1, fun b hb => ?_, w7⟩
      obtain ⟨o, e, d⟩ := T.obj _ _ st5 b hb
      exact (I7.pin (b, o) (List.mem_append_right _ (List.mem_append_right _ (mem_pinsAt hb e)))).2.1
    cases f with
    | next => obtain ⟨σ7, H7, I7, n7⟩ := q7; exact again I7 n7
    | cont => obtain ⟨σ7, H7, I7, n7⟩ := q7; exact again I7 n7
    | brk => obtain ⟨σ7, H7, I7, q7⟩ := q7; exact ⟨σ7, H7, I7.unpinned, q7⟩
    | ret v => obtain ⟨x7, σ7, H7, I7, r7, q7⟩ := q7; exact ⟨x7, σ7, H7, I7.unpinned, r7, q7⟩
end
theorem for_list {K : PySem.W.Frag} {a : Addr} {xs : List V} {g : TG} {tb : TS} {D : Ends} {σ : St} {H : Hp} (Pv : Nat → St → Hp → Prop) (h0 : Pv 0 σ H) (hl : ∀ i σ H, i ≤ xs.length → Pv i σ H → SqL K H a xs)
    (hs : ∀ i x σ H, xs[i]? = some x → Pv i σ H → g x σ H fun σ2 H2 => tb { D with nx := Pv (i + 1), ct := Pv (i + 1), bk := D.nx } σ2 H2) (hd : ∀ σ H, Pv xs.length σ H → D.nx σ H) :
    ∃ W : Nat → Nat → St → Hp → Prop, (∃ m, W 0 m σ H) ∧ ∀ i m σ H, W i m σ H →
      ((Itl K a).stop i H ∧ D.nx σ H) ∨ ((Itl K a).go i H ∧ ∃ N : St → Hp → Prop, (∀ σ' H', N σ' H' → ∃ m', m' < m ∧ W (i + 1) m' σ' H') ∧ ∀ x H', (Itl K a).yld i H x H' → g x σ H' fun σ2 H2 => tb { D with nx := N, ct := N, bk := D.nx } σ2 H2) := by
  refine ⟨fun i m σ H => m = xs.length - i ∧ i ≤ xs.length ∧ Pv i σ H, ⟨xs.length, by simp, Nat.zero_le _, h0⟩, ?_⟩
  rintro i m σ H ⟨rfl, hi, p⟩
  have q := hl i σ H hi p
  by_cases hlt : i < xs.length
  · refine .inr ⟨⟨xs, xs[i], q, by simp [hlt]⟩, Pv (i + 1), fun σ' H' p' => ⟨xs.length - (i + 1), by omega, rfl, hlt, p'⟩, fun x H' y => ?_⟩
    obtain ⟨e, y⟩ := y
    subst e
    exact hs i x σ _ (y xs q) p
  · have e : i = xs.length := by omega
    subst e
    exact .inl ⟨⟨xs, q, Nat.le_refl _⟩, hd σ H p⟩
theorem while_by {c : TT} {tb : TS} {D : Ends} {σ : St} {H : Hp} (Pv : St → Hp → Prop) (μ : St → Hp → Nat) (h0 : Pv σ H)
    (hs : ∀ σ H, Pv σ H → c σ H fun b H1 => if b = true then tb { D with nx := fun σ' H' => Pv σ' H' ∧ μ σ' H' < μ σ H, ct := fun σ' H' => Pv σ' H' ∧ μ σ' H' < μ σ H, bk := D.nx } σ H1 else D.nx σ H1)
    (mono : ∀ σ H Q Q', (∀ b H1, Q b H1 → Q' b H1) → c σ H Q → c σ H Q') : tWhile c tb D σ H := by
  refine ⟨fun m σ H => m = μ σ H ∧ Pv σ H, ⟨_, rfl, h0⟩, ?_⟩
  rintro m σ H ⟨rfl, p⟩
  refine mono σ H _ _ (fun b H1 q => ?_) (hs σ H p)
  cases b with
  | true => exact ⟨_, fun σ' H' ⟨p', l⟩ => ⟨_, l, rfl, p'⟩, q⟩
  | false => exact q
end L2
namespace L2
open PySem PySem.Spec PyProof.Rows
noncomputable abbrev R2 := V → V → Hp → VK → Prop
noncomputable def OpR (X : Cx) (f : Value → Value → Sem Value) (r : R2) : Prop :=
  ∀ (pins : List (Addr × Obj)) (s : Shared) (σ : St) (H : Hp) (x y : V) (v u : Value) (Q : VK), Inv X pins σ H s → RelV x v → RelV y u → r x y H Q →
    wpAny (model X.prog X.w) X.A (f v u) (EP X pins σ Q) X.xe s
noncomputable def CallR (X : Cx) (f : Value) (r : List V → Hp → VK → Prop) : Prop :=
  ∀ (pins : List (Addr × Obj)) (s : Shared) (σ : St) (H : Hp) (xs : List V) (us : List Value) (Q : VK), Inv X pins σ H s → Vals xs us → r xs H Q →
    wpAny (model X.prog X.w) X.A (call f us) (EP X pins σ Q) X.xe s
noncomputable def TruR (X : Cx) (r : V → Hp → (Bool → Hp → Prop) → Prop) : Prop :=
  ∀ (pins : List (Addr × Obj)) (s : Shared) (σ : St) (H : Hp) (x : V) (v : Value) (Q : Bool → Hp → Prop), Inv X pins σ H s → RelV x v → r x H Q →
    wpAny (model X.prog X.w) X.A (truthy v) (TP X pins σ Q) X.xe s
noncomputable def tOp (r : R2) (ta tb : TE) : TE := fun σ H Q => ta σ H fun x H1 => tb σ H1 fun y H2 => r x y H2 Q
noncomputable def rI0 (g : Int → Int → V) : R2 := fun x y H Q => ∃ i j, x = .int i ∧ y = .int j ∧ Q (g i j) H
section
variable {X : Cx} {a b c : Expr} {ta tb tc : TE} {pos : Pos}
theorem binT (ha : PE X a ta) (hb : PE X b tb) {pins : List (Addr × Obj)} {s : Shared} {σ : St} {H : Hp} {R : V → V → Hp → Prop} (I : Inv X pins σ H s)
    (h : ta σ H fun x H1 => tb σ H1 fun y H2 => R x y H2) {Q : Value → Shared → Prop} {f : Value → Value → Sem Value}
    (hf : ∀ v u s2 x y H2, Inv X pins σ H2 s2 → RelV x v → RelV y u → R x y H2 → wpAny (model X.prog X.w) X.A (f v u) Q X.xe s2) :
    wpAny (model X.prog X.w) X.A (eval a X.env) (fun v s₁ => wpAny (model X.prog X.w) X.A (eval b X.env) (fun u s₂ => wpAny (model X.prog X.w) X.A (f v u) Q X.xe s₂) X.xe s₁) X.xe s := by
  refine thn (ha pins s σ H _ I h) fun v s1 ⟨x, H1, I1, r1, q1⟩ => ?_
  refine thn (hb pins s1 σ H1 _ I1 q1) fun u s2 ⟨y, H2, I2, r2, q2⟩ => ?_
  exact hf v u s2 x y H2 I2 r1 r2 q2
theorem pe_op {op : Operator} {r : R2} (ho : OpR X (binaryOp op) r) (ha : PE X a ta) (hb : PE X b tb) : PE X (.BinOp a op b pos) (tOp r ta tb) := by
  intro pins s σ H Q I h
  exact wpAny_BinOp (binT ha hb I h fun v u s2 x y H2 I2 rx ry q => ho pins s2 σ H2 x y v u Q I2 rx ry q)
theorem opI0 {f : Value → Value → Sem Value} {g : Int → Int → Int}
    (rule : ∀ (i j : Int) (t u : Tok) (s : Shared) (Q : Value → Shared → Prop) (E : Value → Shared → Prop), Q (.int (g i j) s.toks) { s with toks := s.toks + 1 } → wpAny (model X.prog X.w) X.A (f (.int i t) (.int j u)) Q E s) :
    OpR X f (rI0 fun i j => .int (g i j)) := by
  intro pins s σ H x y v u Q I rx ry h
  obtain ⟨i, j, rfl, rfl, q⟩ := h
  obtain ⟨t, rfl⟩ := rx
  obtain ⟨t', rfl⟩ := ry
  exact rule i j t t' s _ _ ⟨.int (g i j), H, I.tok _, ⟨_, rfl⟩, q⟩
theorem opB0 {f : Value → Value → Sem Value} {g : Int → Int → Bool}
    (rule : ∀ (i j : Int) (t u : Tok) (s : Shared) (Q : Value → Shared → Prop) (E : Value → Shared → Prop), Q (.bool (g i j)) s → wpAny (model X.prog X.w) X.A (f (.int i t) (.int j u)) Q E s) :
    OpR X f (rI0 fun i j => .bl (g i j)) := by
  intro pins s σ H x y v u Q I rx ry h
  obtain ⟨i, j, rfl, rfl, q⟩ := h
  obtain ⟨t, rfl⟩ := rx
  obtain ⟨t', rfl⟩ := ry
  exact rule i j t t' s _ _ ⟨.bl (g i j), H, I, rfl, q⟩
theorem op_add : OpR X (binaryOp .Add) (rI0 fun i j => .int (i + j)) := opI0 fun _ _ _ _ _ _ _ q => add_int q
theorem op_sub : OpR X (binaryOp .Sub) (rI0 fun i j => .int (i - j)) := opI0 fun _ _ _ _ _ _ _ q => sub_int q
end
noncomputable def scal : V → V → Bool
  | .non, .non => true | .non, .int _ => true | .int _, .non => true | .non, .bl _ => true | .bl _, .non => true | .non, .str _ => true | .str _, .non => true
  | .int _, .int _ => true | .bl _, .bl _ => true | .str _, .str _ => true | .byt _, .byt _ => true
  | .int _, .str _ => true | .str _, .int _ => true | .bl _, .str _ => true | .str _, .bl _ => true
  | _, _ => false
noncomputable def rEq : R2 := fun x y H Q => scal x y = true ∧ Q (.bl (decide (x = y))) H
noncomputable def rNe : R2 := fun x y H Q => scal x y = true ∧ Q (.bl (!decide (x = y))) H
theorem dec_int {i j : Int} : decide (V.int i = V.int j) = (i == j) := by
  rw [Bool.eq_iff_iff]
  simp
theorem dec_bl {i j : Bool} : decide (V.bl i = V.bl j) = (i == j) := by
  rw [Bool.eq_iff_iff]
  simp
theorem dec_str {i j : Str} : decide (V.str i = V.str j) = (i == j) := by
  rw [Bool.eq_iff_iff]
  simp
theorem dec_byt {i j : Array UInt8} : decide (V.byt i = V.byt j) = (i.toList == j.toList) := by
  rw [Bool.eq_iff_iff]
  cases i
  cases j
  simp
section
variable {X : Cx} {a b c : Expr} {ta tb tc : TE} {pos : Pos}
theorem fin_bl {pins : List (Addr × Obj)} {σ : St} {H : Hp} {s : Shared} {Q : VK} {k k' : Bool} (I : Inv X pins σ H s) (q : Q (.bl k) H) (e : k = k') : EP X pins σ Q (.bool k') s := by
  subst e
  exact ⟨.bl k, H, I, rfl, q⟩
theorem op_eq : OpR X (compareOp .Eq) rEq := by
  intro pins s σ H x y v u Q I rx ry h
  obtain ⟨hs, q⟩ := h
  cases x with
  | non =>
    cases rx
    cases y with
    | non => cases ry; exact PySem.EqNone.eq_none_none (fin_bl I q (by simp))
    | bl j => cases ry; exact PySem.EqNone.eq_none_bool (fin_bl I q (by simp))
    | int j => obtain ⟨t', rfl⟩ := ry; exact PySem.EqNone.eq_none_int (fin_bl I q (by simp))
    | str j => obtain ⟨t', rfl⟩ := ry; exact PySem.EqNone.eq_none_str (fin_bl I q (by simp))
    | _ => exact absurd (show false = true from hs) Bool.false_ne_true
  | bl i =>
    cases rx
    cases y with
    | non => cases ry; exact PySem.EqNone.eq_bool_none (fin_bl I q (by simp))
    | bl j => cases ry; exact eq_bool (fin_bl I q dec_bl)
    | str j => obtain ⟨t', rfl⟩ := ry; exact PySem.EqMixed.eq_bool_str (fin_bl I q (by simp))
    | _ => exact absurd (show false = true from hs) Bool.false_ne_true
  | int i =>
    obtain ⟨t, rfl⟩ := rx
    cases y with
    | non => cases ry; exact PySem.EqNone.eq_int_none (fin_bl I q (by simp))
    | int j => obtain ⟨t', rfl⟩ := ry; exact eq_int (fin_bl I q dec_int)
    | str j => obtain ⟨t', rfl⟩ := ry; exact PySem.EqMixed.eq_int_str (fin_bl I q (by simp))
    | _ => exact absurd (show false = true from hs) Bool.false_ne_true
  | str i =>
    obtain ⟨t, rfl⟩ := rx
    cases y with
    | non => cases ry; exact PySem.EqNone.eq_str_none (fin_bl I q (by simp))
    | bl j => cases ry; exact PySem.EqMixed.eq_str_bool (fin_bl I q (by simp))
    | int j => obtain ⟨t', rfl⟩ := ry; exact PySem.EqMixed.eq_str_int (fin_bl I q (by simp))
    | str j => obtain ⟨t', rfl⟩ := ry; exact eq_str (fin_bl I q dec_str)
    | _ => exact absurd (show false = true from hs) Bool.false_ne_true
  | byt i =>
    obtain ⟨t, rfl⟩ := rx
    cases y with
    | byt j => obtain ⟨t', rfl⟩ := ry; exact PySem.W.eq_bytes (fin_bl I q dec_byt)
    | _ => exact absurd (show false = true from hs) Bool.false_ne_true
  | _ => cases y <;> exact absurd (show false = true from hs) Bool.false_ne_true
theorem op_ne : OpR X (compareOp .NotEq) rNe := by
  intro pins s σ H x y v u Q I rx ry h
  obtain ⟨hs, q⟩ := h
  cases x with
  | non =>
    cases rx
    cases y with
    | non => cases ry; exact PySem.EqNone.ne_none_none (fin_bl I q (by simp))
    | bl j => cases ry; exact PySem.EqNone.ne_none_bool (fin_bl I q (by simp))
    | int j => obtain ⟨t', rfl⟩ := ry; exact PySem.EqNone.ne_none_int (fin_bl I q (by simp))
    | str j => obtain ⟨t', rfl⟩ := ry; exact PySem.EqNone.ne_none_str (fin_bl I q (by simp))
    | _ => exact absurd (show false = true from hs) Bool.false_ne_true
  | bl i =>
    cases rx
    cases y with
    | non => cases ry; exact PySem.EqNone.ne_bool_none (fin_bl I q (by simp))
    | bl j => cases ry; exact ne_bool (fin_bl I q (congrArg not dec_bl))
    | str j => obtain ⟨t', rfl⟩ := ry; exact PySem.EqMixed.ne_bool_str (fin_bl I q (by simp))
    | _ => exact absurd (show false = true from hs) Bool.false_ne_true
  | int i =>
    obtain ⟨t, rfl⟩ := rx
    cases y with
    | non => cases ry; exact PySem.EqNone.ne_int_none (fin_bl I q (by simp))
    | int j => obtain ⟨t', rfl⟩ := ry; exact ne_int (fin_bl I q (congrArg not dec_int))
    | str j => obtain ⟨t', rfl⟩ := ry; exact PySem.EqMixed.ne_int_str (fin_bl I q (by simp))
    | _ => exact absurd (show false = true from hs) Bool.false_ne_true
  | str i =>
    obtain ⟨t, rfl⟩ := rx
    cases y with
    | non => cases ry; exact PySem.EqNone.ne_str_none (fin_bl I q (by simp))
    | bl j => cases ry; exact PySem.EqMixed.ne_str_bool (fin_bl I q (by simp))
    | int j => obtain ⟨t', rfl⟩ := ry; exact PySem.EqMixed.ne_str_int (fin_bl I q (by simp))
    | str j => obtain ⟨t', rfl⟩ := ry; exact ne_str (fin_bl I q (congrArg not dec_str))
    | _ => exact absurd (show false = true from hs) Bool.false_ne_true
  | byt i =>
    obtain ⟨t, rfl⟩ := rx
    cases y with
    | byt j => obtain ⟨t', rfl⟩ := ry; exact PySem.W.ne_bytes (fin_bl I q (congrArg not dec_byt))
    | _ => exact absurd (show false = true from hs) Bool.false_ne_true
  | _ => cases y <;> exact absurd (show false = true from hs) Bool.false_ne_true
theorem op_lt : OpR X (compareOp .Lt) (rI0 fun i j => .bl (decide (i < j))) := opB0 fun _ _ _ _ _ _ _ q => lt_int q
theorem op_le : OpR X (compareOp .LtE) (rI0 fun i j => .bl (decide (i ≤ j))) := opB0 fun _ _ _ _ _ _ _ q => le_int q
theorem op_ge : OpR X (compareOp .GtE) (rI0 fun i j => .bl (decide (j ≤ i))) := opB0 fun _ _ _ _ _ _ _ q => ge_int q
theorem op_isN : OpR X (compareOp .Is) (fun x y H Q => y = .non ∧ Q (.bl (decide (x = .non))) H) := by
  intro pins s σ H x y v u Q I rx ry h
  obtain ⟨rfl, q⟩ := h
  cases ry
  refine is_none_gen (fin_bl I q ?_)
  cases x <;> first
    | (cases rx; rfl)
    | (obtain ⟨t, rfl⟩ := rx; rfl)
theorem nomark (b : Expr) {op : CmpOp} (h : op ≠ .In := by decide) (h2 : op ≠ .NotIn := by decide) : behindInMarks op b = false := by
  have e1 : (op == CmpOp.In) = false := by cases op <;> first | rfl | exact absurd rfl h
  have e2 : (op == CmpOp.NotIn) = false := by cases op <;> first | rfl | exact absurd rfl h2
  cases b <;> simp [behindInMarks, e1, e2]
theorem pe_cmpR {op : CmpOp} {r : R2} (ho : OpR X (compareOp op) r) (ha : PE X a ta) (hb : PE X b tb) (hm : behindInMarks op b = false) : PE X (.Compare a [op] [b] pos) (tOp r ta tb) := by
  intro pins s σ H Q I h
  exact wpAny_Compare1 (binT ha hb I h fun v u s2 x y H2 I2 rx ry q => ho pins s2 σ H2 x y v u Q I2 rx ry q) hm
noncomputable def tTest (t : TE) : TT := fun σ H Q => t σ H fun x H' => ∃ k, x = .bl k ∧ Q k H'
theorem pt_cmpR {op : CmpOp} {r : R2} (ho : OpR X (compareOp op) r) (ha : PE X a ta) (hb : PE X b tb) (hm : behindInMarks op b = false) : PT X (.Compare a [op] [b] pos) (tTest (tOp r ta tb)) := by
  intro pins s σ H Q I h
  refine wpAny_isTrue_Compare1 (thn (ha pins s σ H _ I h) fun v s1 ⟨x, H1, I1, r1, q1⟩ => thn (hb pins s1 σ H1 _ I1 q1) fun u s2 ⟨y, H2, I2, r2, q2⟩ =>
    thn (ho pins s2 σ H2 x y v u _ I2 r1 r2 q2) fun c s3 ⟨z, H3, I3, r3, k, e, q3⟩ => ?_) hm
  subst e
  cases r3
  exact wpAny_truthy_bool ⟨H3, I3, q3⟩
noncomputable def tChain (r r' : R2) (ta tb tc : TE) : TE := fun σ H Q => ta σ H fun x H1 => tb σ H1 fun y H2 => r x y H2 fun z H3 => ∃ k, z = .bl k ∧
  (if k = true then tc σ H3 fun w' H4 => r' y w' H4 Q else Q (.bl false) H3)
theorem pe_chain {op op' : CmpOp} {r r' : R2} (ho : OpR X (compareOp op) r) (ho' : OpR X (compareOp op') r') (ha : PE X a ta) (hb : PE X b tb) (hc : PE X c tc)
    (hm : lastMarks [op, op'] [b, c] = false := by with_unfolding_all rfl) : PE X (.Compare a [op, op'] [b, c] pos) (tChain r r' ta tb tc) := by
  intro pins s σ H Q I h
  refine Compare_chain (thn (ha pins s σ H _ I h) fun v s1 ⟨x, H1, I1, r1, q1⟩ => chain_link (thn (hb pins s1 σ H1 _ I1 q1) fun u s2 ⟨y, H2, I2, r2, q2⟩ =>
    thn (ho pins s2 σ H2 x y v u _ I2 r1 r2 q2) fun d s3 ⟨z, H3, I3, r3, k, e, q3⟩ => ?_)) hm
  subst e
  cases r3
  refine wpAny_truthy_bool ?_
  cases k with
  | false => exact ite_ff ⟨.bl false, H3, I3, rfl, q3⟩
  | true => exact ite_tt (chain_last (thn (hc pins s3 σ H3 _ I3 q3) fun w' s4 ⟨z', H4, I4, r4, q4⟩ => ho' pins s4 σ H4 y z' u w' Q I4 r2 r4 q4))
noncomputable def TruV (K : PySem.W.Frag) (x : V) (H : Hp) (k : Bool) : Prop :=
  match x with
  | .non => k = false
  | .bl b => k = b
  | .int i => k = (i != 0)
  | .str y => y.length ≤ sizeLine ∧ k = ((y.length : Int) != 0)
  | .byt y => y.size ≤ sizeLine ∧ k = ((y.size : Int) != 0)
  | .ref p => (∃ xs, SqL K H p xs ∧ k = !xs.isEmpty) ∨ (∃ xs, SqT K H p xs ∧ k = !xs.isEmpty) ∨ ∃ kvs, H p = some (.dK kvs) ∧ k = !kvs.isEmpty
  | _ => False
theorem isEmpty_kv {κ : Type} {kvs : List (κ × V)} {vs : List (κ × Value)} (r : KV kvs vs) : (!vs.isEmpty) = !kvs.isEmpty := by
  cases r <;> rfl
theorem isEmpty_of {xs : List V} {its : List Value} (r : Vals xs its) : (!its.toArray.isEmpty) = !xs.isEmpty := by
  cases r <;> simp
theorem line63 : (sizeLine : Nat) < 2 ^ 63 := by rw [sizeLine_eq]; decide
theorem tru_ok : TruR X (fun x H Q => ∃ k, TruV X.K x H k ∧ Q k H) := by
  intro pins s σ H x v Q I rx h
  obtain ⟨k, e, q⟩ := h
  have hl := line63
  have hs : sizeLine = 16777216 := sizeLine_eq
  cases x with
  | non =>
    cases rx
    have e' : k = false := e
    subst e'
    exact truthy_none ⟨H, I, q⟩
  | bl b =>
    cases rx
    have e' : k = b := e
    subst e'
    exact wpAny_truthy_bool ⟨H, I, q⟩
  | int i =>
    obtain ⟨t, rfl⟩ := rx
    have e' : k = (i != 0) := e
    subst e'
    exact PySem.P.truthy_int ⟨H, I, q⟩
  | str y =>
    obtain ⟨t, rfl⟩ := rx
    obtain ⟨hy, e'⟩ : y.length ≤ sizeLine ∧ k = ((y.length : Int) != 0) := e
    subst e'
    exact PySem.P.truthy_str (by omega) ⟨H, I.tok _, q⟩
  | byt y =>
    obtain ⟨t, rfl⟩ := rx
    obtain ⟨hy, e'⟩ : y.size ≤ sizeLine ∧ k = ((y.size : Int) != 0) := e
    subst e'
    exact PySem.W.truthy_bytes (by omega) ⟨H, I.tok _, q⟩
  | ref p =>
    cases rx
    have e' : (∃ xs, SqL X.K H p xs ∧ k = !xs.isEmpty) ∨ (∃ xs, SqT X.K H p xs ∧ k = !xs.isEmpty) ∨ ∃ kvs, H p = some (.dK kvs) ∧ k = !kvs.isEmpty := e
    rcases e' with ⟨xs, hx, e'⟩ | ⟨xs, hx, e'⟩ | ⟨kvs, hx, e'⟩
    · subst e'
      obtain ⟨its, r, pl, hz⟩ := I.list hx
      have hlen := r.length
      exact wpAny_truthy_list pl.isList (by simp only [List.size_toArray]; omega) ⟨H, I.tok _, by rw [isEmpty_of r]; exact q⟩
    · subst e'
      obtain ⟨its, r, pl, hz⟩ := I.tuple hx
      have hlen := r.length
      exact truthy_tuple pl (by simp only [List.size_toArray]; omega) ⟨H, I.tok _, by rw [isEmpty_of r]; exact q⟩
    · subst e'
      obtain ⟨hz, hS, vs, r, m⟩ : kvs.length ≤ sizeLine ∧ (p == sysModules) = false ∧ ∃ vs, KV kvs vs ∧ s.heap.DictOf (mixKind X.prog X.w) p vs := I.hok p _ hx
      have hlen : kvs.length = vs.length := Paired.length r
      exact wpAny_truthy_dict hS m (by omega) ⟨H, I.tok _, by rw [isEmpty_kv r]; exact q⟩
  | _ => exact (show False from e).elim
theorem pt_truth (ha : PE X a ta) (he : ∀ whole, isTrue a X.env whole = (do let v ← whole; standAt a.pos; holding [v] (truthy v))) :
    PT X a (fun σ H Q => ta σ H fun x H' => ∃ k, TruV X.K x H' k ∧ Q k H') := by
  intro pins s σ H Q I h
  exact isTrue_plain (thn (ha pins s σ H _ I h) fun v s1 ⟨x, H1, I1, r1, q1⟩ => tru_ok pins s1 σ H1 x v Q I1 r1 q1) (he _)
theorem vals1 {x : V} {us : List Value} (r : Vals [x] us) : ∃ u, us = [u] ∧ RelV x u := by
  cases r with
  | cons r1 r2 => cases r2; exact ⟨_, rfl, r1⟩
theorem call_int1 : CallR X (.type "int") (fun xs H Q => (∃ i, xs = [.int i] ∧ Q (.int i) H) ∨ ∃ k, xs = [.bl k] ∧ Q (.int (if k then 1 else 0)) H) := by
  intro pins s σ H xs us Q I r h
  rcases h with ⟨i, rfl, q⟩ | ⟨k, rfl, q⟩
  · obtain ⟨u, rfl, t, rfl⟩ := vals1 r
    exact call_int_int ⟨.int i, H, I, ⟨_, rfl⟩, q⟩
  · obtain ⟨u, rfl, r1⟩ := vals1 r
    cases r1
    exact call_int_bool ⟨.int (if k then 1 else 0), H, I.tok _, ⟨_, rfl⟩, q⟩
end
end L2
namespace L2
open PySem PySem.Spec PyProof.Rows
structure ObjM (h : Heap) (x dx C : Addr) (mA : Str → Option Value) : Prop where
  obj : h.get? x = some (PySem.W.instObj C dx)
  ns : h.Ns1 dx mA
  ne : dx ≠ x
theorem lookIn_ns {h : Heap} {dx : Addr} {mA : Str → Option Value} (n : h.Ns1 dx mA) : ∃ od, h.get? dx = some od ∧ ∀ name, PySem.W.lookIn name od = some (mA name) := by
  obtain ⟨o, es, ep, ho, hd, hk, _, hm⟩ := n
  refine ⟨o, ho, fun name => ?_⟩
  have e := hm name
  unfold nsFind findBy at e
  rw [← Array.find?_toList] at e
  unfold PySem.W.lookIn
  rw [hd]
  dsimp only
  split
  · rename_i y q
    rw [q] at e
    exact congrArg some e
  · rename_i q
    rw [q] at e
    have a : es.toList.any (·.refKey) = false := by
      rw [List.any_eq_false]
      intro y hy
      obtain ⟨z, t, hkey⟩ := hk y (Array.mem_toList_iff.mp hy)
      simp [DictEntry.refKey, hkey]
    have a' : ¬ es.toList.any (·.refKey) = true := by rw [a]; exact Bool.false_ne_true
    rw [if_neg a']
    exact congrArg some e
theorem ObjM.look {h : Heap} {x dx C : Addr} {mA : Str → Option Value} (I : ObjM h x dx C mA) : ∃ od, PySem.W.InstAt h x (PySem.W.instObj C dx) C (some od) ∧ ∀ name, PySem.W.lookIn name od = some (mA name) :=
  let ⟨od, ho, hl⟩ := lookIn_ns I.ns
  ⟨od, ⟨I.obj, rfl, rfl, ho⟩, hl⟩
section
variable {prog : Program} {w : World} {A : Around} {E : Value → Shared → Prop} {s : Shared} {K : PySem.W.Frag} {x dx C f : Addr} {mA : Str → Option Value} {name : Str} {v : Value}
theorem get_map {expr : Bool} {Q : Value → Shared → Prop} (X : K.In s.heap) (I : ObjM s.heap x dx C mA) (hg : PySem.W.plainGet K C name = true) (hh : PySem.W.hasDictIn K C = true)
    (ha : PySem.W.findIn K (.ref C) name = some none) (hv : mA name = some v) (hv' : PySem.W.handedIn v = true) (h : Q v { s with toks := s.toks + 1 }) :
    wpAny (model prog w) A (getAttr (.ref x) name expr) Q E s := by
  obtain ⟨od, J, hl⟩ := I.look
  exact PySem.W.get_value X J (PySem.W.plainGet_of hg).1 (PySem.W.findObj_own hh ha rfl (by rw [hl, hv])) hv' h
theorem set_map {ns : List Str} {Q : Unit → Shared → Prop} (X : K.In s.heap) (I : ObjM s.heap x dx C mA)
    (hs : PySem.W.findIn K (.ref C) "__setattr__" = some (some (.builtin "object.__setattr__"))) (hp : PySem.W.plainOver K C = true) (ht : PySem.W.takerIn K C name = some none) (hh : PySem.W.hasDictIn K C = true)
    (hw : PySem.Within mA ns) (hsz : ns.length ≤ sizeLine)
    (h : ∀ h', ObjM h' x dx C (fun y => if y = name then some v else mA y) → Heap.SameBut dx s.heap h' → Q () { s with heap := h', toks := s.toks + 2 }) :
    wpAny (model prog w) A (setAttr (.ref x) name v) Q E s := by
  obtain ⟨od, J, hl⟩ := I.look
  refine PySem.W.set_plain X J hs (PySem.W.osa_open (s := { s with toks := s.toks + 1 }) (r := none) X J hp ht fun b => ?_)
  obtain ⟨cd, hc, hd'⟩ := PySem.W.any_some hh
  have hx : s.heap.get? x = some ⟨.ref C, some dx, .plain, #[]⟩ := I.obj
  refine wpAny_bind (wpAny_pure (wpAny_bind (wpAny_bind (wpAny_loadPart hx (wpAny_bind (PySem.W.Looks.here (s := { s with toks := s.toks + 1 }) (PySem.W.looks_clsIn X hc) ?_))))))
  rw [hd']
  refine wpAny_pure (a := some dx) (wpAny_bind (wpAny_pure (wpAny_bind ?_)))
  refine wpAny_nsSet1 (s := { s with toks := s.toks + 1 }) I.ns fun h' hn2 hs2 => ?_
  obtain ⟨oD, esD, epD, hoD, hdD, hcD⟩ := hn2.count (PySem.Within.cons name v hw)
  refine wpAny_bind (wpAny_lookBehind hoD (by rw [hdD]; exact pastItsLine_dict (Nat.le_trans hcD (by rw [List.length_cons]; omega))) ?_)
  exact wpAny_pure (h _ ⟨(hs2.2 _ (Ne.symm I.ne)).trans I.obj, hn2, I.ne⟩ hs2)
theorem make_map {R : Result → Shared → Prop} {vs : List Value} {kw : List (Str × Value)} (X : K.In s.heap) (hm : PySem.W.makesIn K C = true)
    (hi : PySem.W.findIn K (.ref C) "__init__" = some (some (.ref f))) (hf : PySem.W.typeIn K (.ref f) = some (.type "function"))
    (h : codeAny (model prog w) (A.under (.builtin "type.__call__" ⟨.ref C :: vs, kw⟩)) (.call (.ref f) ⟨.ref (s.heap.objs.size + 1) :: vs, kw⟩) (PySem.W.InitBack (s.heap.objs.size + 1) R)
      { s with heap := (s.heap.push PySem.W.emptyDict).push (PySem.W.instObj C s.heap.objs.size) }) :
    codeAny (model prog w) A (.call (.ref C) ⟨vs, kw⟩) R s := by
  obtain ⟨hh, g, d, t, os⟩ := s
  exact PySem.W.make_core (PySem.W.makes_of X hm) (PySem.W.looks_findIn X hi) (fun self => PySem.W.bind_fn X self hf) (.inl rfl) h
end
noncomputable def putF (f : Str) (v : V) : List (Str × V) → List (Str × V)
  | [] => [(f, v)]
  | (g, x) :: r => if g = f then (g, v) :: r else (g, x) :: putF f v r
theorem lookup_putF (f g : Str) (v : V) : ∀ fs : List (Str × V), (putF f v fs).lookup g = if g = f then some v else fs.lookup g
  | [] => by
    show List.lookup g [(f, v)] = _
    by_cases h : g = f
    · have hb : (g == f) = true := beq_iff_eq.mpr h
      simp only [List.lookup, hb, if_pos h]
    · have hb : (g == f) = false := beq_eq_false_iff_ne.mpr h
      simp only [List.lookup, hb, if_neg h]
  | (k, x) :: r => by
    have ih := lookup_putF f g v r
    rw [show putF f v ((k, x) :: r) = (if k = f then (k, v) :: r else (k, x) :: putF f v r) from rfl]
    by_cases hk : k = f
    · rw [if_pos hk]
      by_cases h : g = k
      · have hb : (g == k) = true := beq_iff_eq.mpr h
        simp only [List.lookup, hb, if_pos (h.trans hk)]
      · have hb : (g == k) = false := beq_eq_false_iff_ne.mpr h
        simp only [List.lookup, hb, if_neg (fun e : g = f => h (e.trans hk.symm))]
    · rw [if_neg hk]
      by_cases h : g = k
      · have hb : (g == k) = true := beq_iff_eq.mpr h
        simp only [List.lookup, hb, if_neg (fun e : g = f => hk (h.symm.trans e))]
      · have hb : (g == k) = false := beq_eq_false_iff_ne.mpr h
        simp only [List.lookup, hb]
        exact ih
theorem keys_putF (f : Str) (v : V) : ∀ fs : List (Str × V), f ∈ (putF f v fs).map (·.1) ∧ ∀ g, g ∈ fs.map (·.1) → g ∈ (putF f v fs).map (·.1)
  | [] => ⟨by simp [putF], fun g h => by simp at h⟩
  | (k, x) :: r => by
    obtain ⟨i1, i2⟩ := keys_putF f v r
    rw [show putF f v ((k, x) :: r) = (if k = f then (k, v) :: r else (k, x) :: putF f v r) from rfl]
    by_cases hk : k = f
    · rw [if_pos hk]
      subst hk
      exact ⟨by simp, fun g h => by simpa using h⟩
    · rw [if_neg hk]
      refine ⟨?_, fun g h => ?_⟩
      · rw [List.map_cons]
        exact List.mem_cons_of_mem _ i1
      · rw [List.map_cons] at h ⊢
        rcases List.mem_cons.mp h with e | e
        · exact List.mem_cons.mpr (.inl e)
        · exact List.mem_cons_of_mem _ (i2 g e)
theorem length_putF (f : Str) (v : V) : ∀ fs : List (Str × V), (putF f v fs).length ≤ fs.length + 1
  | [] => by simp [putF]
  | (k, x) :: r => by
    have ih := length_putF f v r
    rw [show putF f v ((k, x) :: r) = (if k = f then (k, v) :: r else (k, x) :: putF f v r) from rfl]
    by_cases hk : k = f
    · rw [if_pos hk, List.length_cons, List.length_cons]; omega
    · rw [if_neg hk, List.length_cons, List.length_cons]; omega
theorem RelO.some_of {v : V} {o : Option Value} (r : RelO (some v) o) : ∃ u, o = some u ∧ RelV v u := by
  cases o with
  | none => exact (show False from r).elim
  | some u => exact ⟨u, rfl, r⟩
theorem handed_of {v : V} {u : Value} (r : RelV v u) : PySem.W.handedIn u = true := by
  cases v with
  | non => cases (show u = Value.none from r); rfl
  | bl b => cases (show u = Value.bool b from r); rfl
  | int i => obtain ⟨t, e⟩ := (show ∃ t, u = Value.int i t from r); cases e; rfl
  | str x => obtain ⟨t, e⟩ := (show ∃ t, u = Value.str x t from r); cases e; rfl
  | byt b => obtain ⟨t, e⟩ := (show ∃ t, u = Value.bytes b t from r); cases e; rfl
  | flt b => obtain ⟨t, e⟩ := (show ∃ t, u = Value.float b t from r); cases e; rfl
  | ref a => cases (show u = Value.ref a from r); rfl
  | ty n => cases (show u = Value.type n from r); rfl
section
variable {P : Program} {w : World} {H H' : Hp} {h h' : Heap} {a C dx : Addr} {fs fs' : List (Str × V)}
theorem ins_get (hok : HOk P w H h) (e : H a = some (.ins C dx fs)) : ∃ mA, ObjM h a dx C mA ∧ (∀ f, RelO (fs.lookup f) (mA f)) ∧ PySem.Within mA (fs.map (·.1)) ∧ fs.length ≤ 1000 ∧ H dx = some (.own a) := by
  obtain ⟨d, z, ne, ob, mA, n, r, q⟩ := (show ObjOk P w H h a (.ins C dx fs) from hok a _ e)
  exact ⟨mA, ⟨ob, n, ne⟩, r, q, z, d⟩
end
structure Cls (K : PySem.W.Frag) (C : Addr) : Prop where
  pg : PySem.W.plainGet K C Str.empty = true
  hd : PySem.W.hasDictIn K C = true
  po : PySem.W.plainOver K C = true
  sa : PySem.W.findIn K (.ref C) "__setattr__" = some (some (.builtin "object.__setattr__"))
theorem Cls.get {K : PySem.W.Frag} {C : Addr} (c : Cls K C) (f : Str) : PySem.W.plainGet K C f = true := c.pg
noncomputable def NoAttr (K : PySem.W.Frag) (C : Addr) (f : Str) : Prop := PySem.W.findIn K (.ref C) f = some none
theorem NoAttr.taker {K : PySem.W.Frag} {C : Addr} {f : Str} (n : NoAttr K C f) : PySem.W.takerIn K C f = some none := by
  unfold PySem.W.takerIn
  rw [show PySem.W.findIn K (.ref C) f = some none from n]
  rfl
structure Con (K : PySem.W.Frag) (C : Addr) (f : Str) (v : V) (u : Value) : Prop where
  at_ : PySem.W.findIn K (.ref C) f = some (some u)
  rel : RelV v u
  get : PySem.W.specialIn K u "__get__" = some none
  cp : PySem.W.copiedNames.contains f = false
structure Meth (K : PySem.W.Frag) (C : Addr) (m : Str) (f : Addr) : Prop where
  at_ : PySem.W.findIn K (.ref C) m = some (some (.ref f))
  fn : PySem.W.isFn K (.ref f) = true
  kp : PySem.W.keepIn K (.ref f) = true
section
variable {X : Cx} {pins : List (Addr × Obj)} {σ : St} {H : Hp} {s : Shared} {a C dx : Addr} {fs : List (Str × V)} {f : Str} {v : V} {A : Around} {E : Value → Shared → Prop}
theorem getattr_ok {b : Bool} {Q : Value → Shared → Prop} (I : Inv X pins σ H s) (e : H a = some (.ins C dx fs)) (c : Cls X.K C) (n : NoAttr X.K C f) (l : fs.lookup f = some v)
    (h : ∀ u s', Inv X pins σ H s' → RelV v u → Q u s') : wpAny (model X.prog X.w) A (getAttr (.ref a) f b) Q E s := by
  obtain ⟨mA, O, r, _, _, _⟩ := ins_get I.hok e
  obtain ⟨u, hu, ru⟩ := RelO.some_of (v := v) (o := mA f) (by rw [← l]; exact r f)
  exact get_map I.kIn O (c.get f) c.hd n hu (handed_of ru) (h u _ (I.tok _) ru)
theorem setattr_ok {y : V} {u : Value} {Q : Unit → Shared → Prop} (I : Inv X pins σ H s) (e : H a = some (.ins C dx fs)) (c : Cls X.K C) (n : NoAttr X.K C f) (hl : fs.length < 1000) (ry : RelV y u)
    (h : ∀ s', Inv X pins σ (upd H a (.ins C dx (putF f y fs))) s' → Q () s') : wpAny (model X.prog X.w) A (setAttr (.ref a) f u) Q E s := by
  obtain ⟨mA, O, r, wi, _, ho⟩ := ins_get I.hok e
  have hz : (fs.map (·.1)).length ≤ sizeLine := by rw [List.length_map, sizeLine_eq]; omega
  refine set_map I.kIn O c.sa c.po n.taker c.hd wi hz fun h' O' sb => h _ ?_
  have hd : ∃ o, h'.get? dx = some o := let ⟨o, _, _, e', _⟩ := O'.ns; ⟨o, e'⟩
  refine I.write (x := a) (e := dx) (by rw [e]; exact True.intro) (.inr ho) (fun b q hb z => (sb.2 b hb).trans z) hd ?_
  refine ⟨by rw [upd_ne O.ne]; exact ho, ?_, O.ne, O'.obj, _, O'.ns, fun g => ?_, fun g hg => ?_⟩
  · have := length_putF f y fs; omega
  · show RelO ((putF f y fs).lookup g) (if g = f then some u else mA g)
    rw [lookup_putF]
    by_cases q : g = f
    · rw [if_pos q, if_pos q]; exact ry
    · rw [if_neg q, if_neg q]; exact r g
  · by_cases q : g = f
    · rw [q]; exact (keys_putF f y fs).1
    · refine (keys_putF f y fs).2 g (wi g fun z => hg ?_)
      show (if g = f then some u else mA g) = none
      rw [if_neg q]; exact z
theorem Inv.made (I : Inv X pins σ H s) : Inv X pins σ (upd (upd H s.heap.objs.size (.own (s.heap.objs.size + 1))) (s.heap.objs.size + 1) (.ins C s.heap.objs.size []))
    { s with heap := (s.heap.push PySem.W.emptyDict).push (PySem.W.instObj C s.heap.objs.size) } := by
  have e1 : (s.heap.push PySem.W.emptyDict).get? s.heap.objs.size = some PySem.W.emptyDict := Heap.get?_push_size s.heap rfl
  have e2 : ((s.heap.push PySem.W.emptyDict).push (PySem.W.instObj C s.heap.objs.size)).get? (s.heap.objs.size + 1) = some (PySem.W.instObj C s.heap.objs.size) := by
    have := Heap.get?_push_size (s.heap.push PySem.W.emptyDict) (o := PySem.W.instObj C s.heap.objs.size) rfl
    rwa [Heap.size_push] at this
  have e3 : (s.heap.push PySem.W.emptyDict).Ns s.heap.objs.size (fun _ => none) := ⟨PySem.W.emptyDict, #[], _, e1, rfl, (fun e he => absurd he (by simp)), fun _ => rfl⟩
  have I1 := I.laid (a := s.heap.objs.size) (o := .own (s.heap.objs.size + 1)) (h' := s.heap.push PySem.W.emptyDict) (t' := s.toks) (fun b u q => Heap.get?_push_of_some _ q) (Nat.le_refl _) ⟨_, e1⟩
  refine I1.laid (a := s.heap.objs.size + 1) (o := .ins C s.heap.objs.size []) (t' := s.toks) (fun b u q => Heap.get?_push_of_some _ q) (Nat.le_of_eq (Heap.size_push _ _)) ?_
  have ne : s.heap.objs.size ≠ s.heap.objs.size + 1 := Nat.ne_of_lt (Nat.lt_succ_self _)
  refine ⟨by rw [upd_ne ne, upd_same], Nat.zero_le _, ne, e2, fun _ => none, (Heap.Ns1.of_empty e3).at fun o q => Heap.get?_push_of_some _ q, fun _ => True.intro, fun y hy => absurd rfl hy⟩
theorem attr_of {prog : Program} {w : World} {env : Env} {e : Expr} {f : Str} {pos : Pos} {s : Shared} {Q : Value → Shared → Prop} (hb : attributeBase e f env (eval e env) = eval e env)
    (h : wpAny (model prog w) A (eval e env) (fun o s₁ => wpAny (model prog w) A (getAttr o f true) Q E s₁) E s) : wpAny (model prog w) A (eval (.Attribute e f pos) env) Q E s :=
  Attribute_any_ h (by rw [arm_eval_Attribute, hb])
end
noncomputable def tFld (K : PySem.W.Frag) (ta : TE) (f : Str) : TE := fun σ H Q => ta σ H fun x H1 => ∃ a C dx fs v, x = .ref a ∧ H1 a = some (.ins C dx fs) ∧ Cls K C ∧ NoAttr K C f ∧ fs.lookup f = some v ∧ Q v H1
noncomputable def sFld (K : PySem.W.Frag) (ta tv : TE) (f : Str) : TS := fun D σ H => tv σ H fun y H1 => ta σ H1 fun x H2 => ∃ a C dx fs, x = .ref a ∧ H2 a = some (.ins C dx fs) ∧ Cls K C ∧ NoAttr K C f ∧ fs.length < 1000 ∧
  D.nx σ (upd H2 a (.ins C dx (putF f y fs)))
noncomputable def InOp (X : Cx) (op : Operator) (rd : V → V → Hp → VK → Prop) : Prop :=
  ∀ (pins : List (Addr × Obj)) (s : Shared) (σ : St) (H : Hp) (x y : V) (u v : Value) (Q : VK), Inv X pins σ H s → RelV x u → RelV y v → rd x y H Q → wpAny (model X.prog X.w) X.A (inplaceOp op u v) (EP X pins σ Q) X.xe s
noncomputable def sFldAug (K : PySem.W.Frag) (ta tv : TE) (rd : V → V → Hp → VK → Prop) (f : Str) : TS := fun D σ H => ta σ H fun x H1 => ∃ a C dx fs v, x = .ref a ∧ H1 a = some (.ins C dx fs) ∧ Cls K C ∧ NoAttr K C f ∧ fs.lookup f = some v ∧
  tv σ H1 fun y H2 => rd v y H2 fun z H3 => ∃ dx' fs', H3 a = some (.ins C dx' fs') ∧ fs'.length < 1000 ∧ D.nx σ (upd H3 a (.ins C dx' (putF f z fs')))
section
variable {X : Cx} {o e value : Expr} {f : Str} {pos pos' tpos : Pos} {ta tv : TE}
theorem pe_fld (he : PE X e ta) (hb : attributeBase e f X.env (eval e X.env) = eval e X.env) : PE X (.Attribute e f pos) (tFld X.K ta f) := by
  intro pins s σ H Q I h
  refine attr_of hb (thn (he pins s σ H _ I h) fun u s1 hz9 => ?_)
  obtain ⟨x, H1, I1, rx, a, C, dx, fs, v, ex, ea, c, n, l, q⟩ := hz9
  subst ex
  obtain rfl : u = Value.ref a := rx
  exact getattr_ok I1 ea c n l fun u' s2 I2 ru => ⟨v, H1, I2, ru, q⟩
theorem ps_fld (ha : PE X o ta) (hv : PE X value tv) (hs : swapsWith value (some (.Attribute o f pos')) pos.line X.env = pure false) : PS X (.Assign [.Attribute o f pos'] value pos) (sFld X.K ta tv f) := by
  intro pins s σ H D I h
  refine plainObj_wpAny_Assign_Attribute (thn (hv pins s σ H _ I h) fun u s1 ⟨y, H1, I1, ry, q⟩ => thn (ha pins s1 σ H1 _ I1 q) fun ov s2 hz9 => ?_) hs
  obtain ⟨x, H2, I2, rx, a, C, dx, fs, ex, ea, c, n, l, q2⟩ := hz9
  subst ex
  obtain rfl : ov = Value.ref a := rx
  exact setattr_ok I2 ea c n l ry fun s3 I3 => ⟨σ, _, I3, q2⟩
theorem ps_fldaug {op : Operator} {rd : V → V → Hp → VK → Prop} (ha : PE X o ta) (hv : PE X value tv) (hop : InOp X op rd) : PS X (.AugAssign (.Attribute o f tpos) op value pos) (sFldAug X.K ta tv rd f) := by
  intro pins s σ H D I h
  refine wpAny_AugAssign_AttributeAny (thn (ha pins s σ H _ I h) fun ov s1 hz9 => ?_)
  obtain ⟨x, H1, I1, rx, a, C, dx, fs, v, ex, ea, c, n, l, q⟩ := hz9
  subst ex
  obtain rfl : ov = Value.ref a := rx
  refine getattr_ok I1 ea c n l fun u s2 I2 ru => thn (hv pins s2 σ H1 _ I2 q) fun w3 s3 ⟨y, H2, I3, ry, q3⟩ => thn (hop pins s3 σ H2 v y u w3 _ I3 ru ry q3) fun w4 s4 hz9 => ?_
  obtain ⟨z, H3, I4, rz, dx', fs', ea', l', q4⟩ := hz9
  exact setattr_ok I4 ea' c n l' rz fun s5 I5 => ⟨σ, _, I5, q4⟩
noncomputable def rAdd : V → V → Hp → VK → Prop := fun x y H Q => ∃ i j, x = .int i ∧ y = .int j ∧ Q (.int (i + j)) H
theorem in_add : InOp X .Add rAdd := by
  rintro pins s σ H x y u v Q I rx ry ⟨i, j, rfl, rfl, q⟩
  obtain ⟨t, rfl⟩ := (show ∃ t, u = Value.int i t from rx)
  obtain ⟨t', rfl⟩ := (show ∃ t', v = Value.int j t' from ry)
  exact PyProof.Rows.iadd_int ⟨.int (i + j), H, I.tok _, ⟨_, rfl⟩, q⟩
end
section
variable {X : Cx} {pins : List (Addr × Obj)} {σ : St} {H : Hp} {s : Shared} {A : Around} {E : Value → Shared → Prop} {Q : Value → Shared → Prop} {c : Value} {b : Bool}
inductive TyOf (K : PySem.W.Frag) (H : Hp) : V → Value → Prop where
  | non : TyOf K H .non (.type "NoneType")
  | bl (x : Bool) : TyOf K H (.bl x) (.type "bool")
  | int (i : Int) : TyOf K H (.int i) (.type "int")
  | str (x : Str) : TyOf K H (.str x) (.type "str")
  | flt (x : UInt64) : TyOf K H (.flt x) (.type "float")
  | lst {a : Addr} {xs : List V} (e : H a = some (.lst xs)) : TyOf K H (.ref a) (.type "list")
  | frz {a : Addr} {o : Obj} {xs : List V} (e : H a = some (.frz o (.lst xs))) : TyOf K H (.ref a) (.type "list")
  | tup {a : Addr} {xs : List V} (e : H a = some (.tup xs)) : TyOf K H (.ref a) (.type "tuple")
  | dK {a : Addr} {kvs : List (Key × V)} (e : H a = some (.dK kvs)) : TyOf K H (.ref a) (.type "dict")
  | dT {a : Addr} {kvs : List (List Key × V)} (e : H a = some (.dT kvs)) : TyOf K H (.ref a) (.type "dict")
  | ins {a C dx : Addr} {fs : List (Str × V)} (e : H a = some (.ins C dx fs)) (cl : Cls K C) (ha : PySem.W.findIn K (.ref C) "__class__" = some (some (.builtin "object.__class__")))
      (hn : PySem.W.specialIn K (.builtin "object.__class__") "__get__" = some (some (.builtin "getset_descriptor.__get__"))) (htk : PySem.W.takesIn K (.builtin "object.__class__") = some true)
      (hm : PySem.W.mroIn K C (.type "object") = some true) : TyOf K H (.ref a) (.ref C)
end
end L2
namespace L2
open PySem PySem.Spec PyProof.Rows
structure Room (k : Nat) (A : Around) : Prop where
  hd : A.handled = none
  dp : A.depth + 3 * k + 5 < recursionLimit
  un : A.units + 16 * k + 200 < cLine
theorem Room.mono {j k : Nat} {A : Around} (r : Room k A) (h : j ≤ k) : Room j A := ⟨r.hd, by have := r.dp; omega, by have := r.un; omega⟩
theorem Room.deeper {k : Nat} {A : Around} (r : Room (k + 1) A) (env : Env) : Room k (A.deeper env) :=
  ⟨r.hd, by have := r.dp; show A.depth + 1 + 3 * k + 5 < _; omega, by have := r.un; show A.units + 3 + 16 * k + 200 < _; omega⟩
theorem make_depth {A : Around} {C : Addr} {us : List Value} {kw : List (Str × Value)} : (A.under (.builtin "type.__call__" ⟨.ref C :: us, kw⟩)).depth = A.depth + 1 := by
  first | rfl | simp [Around.under, Code.weight, Code.isCreation, Code.isGuard, Code.isCaller, Code.frames, Code.isFrame, guardIds]
theorem make_units {A : Around} {C : Addr} {us : List Value} {kw : List (Str × Value)} : (A.under (.builtin "type.__call__" ⟨.ref C :: us, kw⟩)).units = A.units + 1 := by
  first | rfl | simp [Around.under, Code.cUnits, Code.frames, Code.isFrame]
theorem Room.make {k : Nat} {A : Around} (r : Room (k + 1) A) (C : Addr) (us : List Value) (kw : List (Str × Value)) : Room k (A.under (.builtin "type.__call__" ⟨.ref C :: us, kw⟩)) :=
  ⟨r.hd, by have := r.dp; rw [make_depth]; omega, by have := r.un; rw [make_units]; omega⟩
theorem Room.depth {k : Nat} {A : Around} (r : Room k A) : A.depth < recursionLimit := by have := r.dp; omega
noncomputable def tNil : TA := fun _ H Q => Q [] H
noncomputable def tCons (ta : TE) (tr : TA) : TA := fun σ H Q => ta σ H fun x H1 => tr σ H1 fun xs H2 => Q (x :: xs) H2
section
variable {X : Cx} {e : Expr} {es : List Expr} {te : TE} {t : TA} {pos : Pos}
theorem pa_nil : PA X [] tNil := fun _ _ _ _ H Q I h => Calls.spliced_nil ⟨[], H, I, .nil, h⟩
theorem pa_cons (ha : PE X e te) (hr : PA X es t) (hs : starEach (e :: es) X.env = (false, eval e X.env) :: starEach es X.env := by rfl) : PA X (e :: es) (tCons te t) := by
  intro pos pins s σ H Q I h
  rw [hs]
  show wpAny _ _ (spliced ((false, eval e X.env) :: backTo pos (starEach es X.env))) _ _ s
  refine Calls.spliced_cons (thn (ha pins s σ H _ I h) fun u s1 ⟨x, H1, I1, r1, q1⟩ => ?_)
  exact thn (hr pos pins s1 σ H1 _ I1 q1) fun us s2 ⟨xs, H2, I2, r2, q2⟩ => ⟨x :: xs, H2, I2, .cons r1 r2, q2⟩
noncomputable def tLst (t : TA) : TE := fun σ H Q => t σ H fun xs H1 => xs.length ≤ sizeLine ∧ ∀ p, H1 p = none → Q (.ref p) (upd H1 p (.lst xs))
theorem pe_lst (h : PA X es t) : PE X (.List es pos) (tLst t) := by
  intro pins s σ H Q I hq
  refine wpAny_List_spliced (thn (h pos pins s σ H _ I hq) fun us s1 ⟨xs, H1, I1, r, z, q⟩ => ⟨by rw [← r.length]; exact z, ?_⟩)
  have hf : H1 s1.heap.objs.size = none := I1.hok.fresh (Nat.le_refl _)
  refine ⟨.ref s1.heap.objs.size, upd H1 s1.heap.objs.size (.lst xs), I1.laid (t' := s1.toks) (fun b u e => Heap.get?_push_of_some _ e) (Nat.le_refl _) ?_, rfl, q _ hf⟩
  exact ⟨z, us, 0, r, Heap.get?_push_size _ rfl⟩
end
noncomputable abbrev Sp := List V → Hp → VK → XK → Prop
noncomputable abbrev CXT := List Env → Hp → Shared → XK → Value → Shared → Prop
structure Env0 (P : Program) (w : World) (K : PySem.W.Frag) (mg : Str → Option Value) (base : Heap) (A : Around) (outer : List Env) (s : Shared) (H : Hp) : Prop where
  frames : A.frames = some outer
  mod : Mod K mg base
  bs : ∀ b o, base.get? b = some o → s.heap.get? b = some o ∧ H b = none
  bsz : base.objs.size ≤ s.heap.objs.size
  funs : s.heap.FunFrames base outer
  frf : ∀ b ∈ frs outer, H b = none
  hok : HOk P w H s.heap
  bare : AllBare s.gens
noncomputable def CE (outer : List Env) (P : Program) (w : World) (H : Hp) (s : Shared) (Q : VK) (u : Value) (s' : Shared) : Prop :=
  ∃ v H', s'.os = s.os ∧ AllBare s'.gens ∧ Un (frs outer) [] H H' s.heap s'.heap ∧ HOk P w H' s'.heap ∧ RelV v u ∧ Q v H'
noncomputable def CR (CX : CXT) (outer : List Env) (P : Program) (w : World) (H : Hp) (s : Shared) (Q : VK) (E : XK) (r : Result) (s' : Shared) : Prop :=
  match r with
  | .ok (.ret u) => CE outer P w H s Q u s'
  | .ok _ => False
  | .error e => CX outer H s E e s'
structure FnOk (P : Program) (w : World) (K : PySem.W.Frag) (mg : Str → Option Value) (base : Heap) (CX : CXT) (k : Nat) (f : Addr) (fd : FuncData) (ps : List Str) (sp : Sp) : Prop where
  len : ∀ vs H Q E, sp vs H Q E → vs.length = ps.length
  run : ∀ (A : Around) (outer : List Env) (s : Shared) (H : Hp) (args : Args) (us : List Value) (vs : List V) (Q : VK) (E : XK), Room k A → Env0 P w K mg base A outer s H → BindsTo s fd args (ps.zip us) → Vals vs us → sp vs H Q E →
    codeAny (model P w) A (.call (.ref f) args) (CR CX outer P w H s Q E) s
theorem FnOk.mono {P : Program} {w : World} {K : PySem.W.Frag} {mg : Str → Option Value} {base : Heap} {CX : CXT} {j k : Nat} {f : Addr} {fd : FuncData} {ps : List Str} {sp : Sp} (F : FnOk P w K mg base CX j f fd ps sp) (h : j ≤ k) :
    FnOk P w K mg base CX k f fd ps sp := ⟨F.len, fun A outer s H args us vs Q E hr => F.run A outer s H args us vs Q E (hr.mono h)⟩
theorem FnOk.imp {P : Program} {w : World} {K : PySem.W.Frag} {mg : Str → Option Value} {base : Heap} {CX : CXT} {k : Nat} {f : Addr} {fd : FuncData} {ps : List Str} {sp sp' : Sp} (F : FnOk P w K mg base CX k f fd ps sp)
    (h : ∀ vs H Q E, sp' vs H Q E → sp vs H Q E) : FnOk P w K mg base CX k f fd ps sp' :=
  ⟨fun vs H Q E q => F.len vs H Q E (h _ _ _ _ q), fun A outer s H args us vs Q E hr he hb hv hs => F.run A outer s H args us vs Q E hr he hb hv (h _ _ _ _ hs)⟩
theorem Env0.make {P : Program} {w : World} {K : PySem.W.Frag} {mg : Str → Option Value} {base : Heap} {A : Around} {outer : List Env} {s : Shared} {H : Hp} (e : Env0 P w K mg base A outer s H) (C : Addr) (us : List Value) (kw : List (Str × Value)) :
    Env0 P w K mg base (A.under (.builtin "type.__call__" ⟨.ref C :: us, kw⟩)) outer s H := ⟨by first | exact e.frames | (simpa [Around.under, Code.envs, Code.isFrame, pushEnvs] using e.frames), e.mod, e.bs, e.bsz, e.funs, e.frf, e.hok, e.bare⟩
section
variable {X : Cx} {pins : List (Addr × Obj)} {σ : St} {H : Hp} {s s' : Shared}
theorem Inv.env0 (I : Inv X pins σ H s) : Env0 X.prog X.w X.K X.mg X.base X.A X.stack s H :=
  ⟨I.ok.frames, I.ok.mod, I.bs, Nat.le_trans I.ok.bsz I.sz, I.stack, I.stkFree, I.hok, I.bare⟩
theorem Inv.after {Q : VK} {u : Value} (I : Inv X pins σ H s) (h : CE X.stack X.prog X.w H s Q u s') : EP X pins σ Q u s' := by
  obtain ⟨v, H', os, bare, un, hok, r, q⟩ := h
  obtain ⟨hh, g, d, t, os'⟩ := s'
  obtain rfl : os' = s.os := os
  exact ⟨v, H', I.call (h' := hh) (g' := g) (d' := d) (t' := t) (ch := []) un hok bare (fun b z => absurd z (by simp)), r, q⟩
end
noncomputable def tCall (sp : Sp) (dvs : List V) (E : XK) (t : TA) : TE := fun σ H Q => t σ H fun vs H1 => sp (vs ++ dvs) H1 Q E
noncomputable def tMake (C : Addr) (sp : Sp) (dvs : List V) (E : XK) (t : TA) : TE := fun σ H Q => t σ H fun vs H1 => ∀ x dx, H1 x = none → H1 dx = none → dx ≠ x →
  sp (.ref x :: (vs ++ dvs)) (upd (upd H1 dx (.own x)) x (.ins C dx [])) (fun v H2 => v = .non ∧ Q (.ref x) H2) E
noncomputable def Binds (K : PySem.W.Frag) (fd : FuncData) (ps : List Str) (ds : List Value) : Prop :=
  ∀ (s : Shared) (us : List Value), K.In s.heap → (us ++ ds).length = ps.length → BindsTo s fd ⟨us, []⟩ (ps.zip (us ++ ds))
theorem Binds.all {K : PySem.W.Frag} {fd : FuncData} {ps : List Str} (h : ∀ us : List Value, us.length = ps.length → bindArgs fd ⟨us, []⟩ = pure (ps.zip us)) : Binds K fd ps [] := fun s us _ hl => by
  rw [List.append_nil] at hl ⊢
  exact .of_eq (h us hl)
noncomputable def Passes (CX : CXT) (X : Cx) (E : XK) : Prop := ∀ (pins : List (Addr × Obj)) (σ : St) (H : Hp) (s : Shared) (e : Value) (s' : Shared), Inv X pins σ H s → CX X.stack H s E e s' → X.xe e s'
section
variable {X : Cx} {CX : CXT} {k : Nat} {f C : Addr} {fd : FuncData} {ps : List Str} {sp : Sp} {dvs : List V} {ds : List Value} {E : XK} {x m : Str} {p pos apos : Pos} {e o : Expr} {es : List Expr} {ta : TE} {t : TA}
theorem run_fn {pins : List (Addr × Obj)} {σ : St} {H : Hp} {s : Shared} {Q : VK} {us : List Value} {vs : List V} (F : FnOk X.prog X.w X.K X.mg X.base CX k f fd ps sp) (hr : Room k X.A) (hb : Binds X.K fd ps ds) (hd : Vals dvs ds) (hx : Passes CX X E)
    (I : Inv X pins σ H s) (r : Vals vs us) (h : sp (vs ++ dvs) H Q E) : wpAny (model X.prog X.w) X.A (call (.ref f) us) (EP X pins σ Q) X.xe s := by
  have r2 : Vals (vs ++ dvs) (us ++ ds) := r.append hd
  have hl : (us ++ ds).length = ps.length := by rw [← r2.length]; exact F.len _ _ _ _ h
  refine wpAny_call (codeAny_mono (F.run X.A X.stack s H ⟨us, []⟩ (us ++ ds) (vs ++ dvs) Q E hr I.env0 (hb s us I.kIn hl) r2 h) fun r s' hq => ?_)
  cases r with
  | error e => exact hx pins σ H s e s' I hq
  | ok fl =>
    cases fl with
    | ret u => exact I.after hq
    | next => exact False.elim hq
    | brk => exact False.elim hq
    | cont => exact False.elim hq
theorem pe_call (F : FnOk X.prog X.w X.K X.mg X.base CX k f fd ps sp) (hr : Room k X.A) (hg : Gl X x) (hm : X.mg x = some (.ref f)) (hk : PySem.W.keepIn X.K (.ref f) = true) (hb : Binds X.K fd ps ds) (hd : Vals dvs ds) (hx : Passes CX X E)
    (ha : PA X (e :: es) t) (hdb : (x == ("__debug__" : Str)) = false := by decide) (he : starEach (e :: es) X.env = (false, eval e X.env) :: starEach es X.env := by rfl) (hpl : (backTo pos (starEach es X.env)).any (·.1) = false := by rfl) :
    PE X (.Call (.Name x p) (e :: es) [] pos) (tCall sp dvs E t) := by
  intro pins s σ H Q I h
  refine wpAny_Call_Name_kw (ld_glob I hg hm ?_ hdb)
  refine PySem.W.callWith_K (h₀ := X.base) I.ok.mod.kin hk (thn (ha pos pins s σ H _ I h) fun us s1 ⟨vs, H1, I1, r, q⟩ => ⟨I1.kIn, ?_⟩) he hpl
  exact run_fn F hr hb hd hx I1 r q
structure Mk (K : PySem.W.Frag) (C f : Addr) : Prop where
  makes : PySem.W.makesIn K C = true
  init : PySem.W.findIn K (.ref C) "__init__" = some (some (.ref f))
  fn : PySem.W.isFn K (.ref f) = true
  kp : PySem.W.keepIn K (.ref C) = true
theorem run_make {pins : List (Addr × Obj)} {σ : St} {H : Hp} {s : Shared} {Q : VK} {us : List Value} {vs : List V} (M : Mk X.K C f) (F : FnOk X.prog X.w X.K X.mg X.base CX k f fd ps sp) (hr : Room (k + 1) X.A) (hb : Binds X.K fd ps ds) (hd : Vals dvs ds)
    (hx : Passes CX X E) (I : Inv X pins σ H s) (r : Vals vs us)
    (h : ∀ x dx, H x = none → H dx = none → dx ≠ x → sp (.ref x :: (vs ++ dvs)) (upd (upd H dx (.own x)) x (.ins C dx [])) (fun v H2 => v = .non ∧ Q (.ref x) H2) E) :
    wpAny (model X.prog X.w) X.A (call (.ref C) us) (EP X pins σ Q) X.xe s := by
  have hq := h (s.heap.objs.size + 1) s.heap.objs.size (I.hok.fresh (Nat.le_succ _)) (I.hok.fresh (Nat.le_refl _)) (Nat.ne_of_lt (Nat.lt_succ_self _))
  have I2 := Inv.made (C := C) I
  have r2 : Vals (V.ref (s.heap.objs.size + 1) :: (vs ++ dvs)) (Value.ref (s.heap.objs.size + 1) :: (us ++ ds)) := .cons rfl (r.append hd)
  have hl : (Value.ref (s.heap.objs.size + 1) :: us ++ ds).length = ps.length := by
    have e := r2.length
    rw [F.len _ _ _ _ hq] at e
    exact e.symm
  refine wpAny_call (make_map (f := f) I.kIn M.makes M.init (beq_iff_eq.mp M.fn) (codeAny_mono (F.run _ X.stack _ _ ⟨Value.ref (s.heap.objs.size + 1) :: us, []⟩ (Value.ref (s.heap.objs.size + 1) :: (us ++ ds)) _ _ E (hr.make C us [])
    (I2.env0.make C us []) (hb _ (Value.ref (s.heap.objs.size + 1) :: us) I2.kIn hl) r2 hq) fun r s' hq' => ?_))
  cases r with
  | error e => exact hx pins σ _ _ e s' I2 hq'
  | ok fl =>
    cases fl with
    | ret u =>
      obtain ⟨v, H', I3, rv, ev, q3⟩ := I2.after hq'
      subst ev
      exact ⟨rv, ⟨V.ref (s.heap.objs.size + 1), H', I3, rfl, q3⟩⟩
    | next => exact False.elim hq'
    | brk => exact False.elim hq'
    | cont => exact False.elim hq'
theorem pe_make (M : Mk X.K C f) (F : FnOk X.prog X.w X.K X.mg X.base CX k f fd ps sp) (hr : Room (k + 1) X.A) (hg : Gl X x) (hm : X.mg x = some (.ref C)) (hb : Binds X.K fd ps ds) (hd : Vals dvs ds) (hx : Passes CX X E)
    (ha : PA X (e :: es) t) (hdb : (x == ("__debug__" : Str)) = false := by decide) (he : starEach (e :: es) X.env = (false, eval e X.env) :: starEach es X.env := by rfl) (hpl : (backTo pos (starEach es X.env)).any (·.1) = false := by rfl) :
    PE X (.Call (.Name x p) (e :: es) [] pos) (tMake C sp dvs E t) := by
  intro pins s σ H Q I h
  refine wpAny_Call_Name_kw (ld_glob I hg hm ?_ hdb)
  refine PySem.W.callWith_K (h₀ := X.base) I.ok.mod.kin M.kp (thn (ha pos pins s σ H _ I h) fun us s1 ⟨vs, H1, I1, r, q⟩ => ⟨I1.kIn, ?_⟩) he hpl
  exact run_make M F hr hb hd hx I1 r q
theorem pe_make0 (M : Mk X.K C f) (F : FnOk X.prog X.w X.K X.mg X.base CX k f fd ps sp) (hr : Room (k + 1) X.A) (hg : Gl X x) (hm : X.mg x = some (.ref C)) (hb : Binds X.K fd ps ds) (hd : Vals dvs ds) (hx : Passes CX X E)
    (hdb : (x == ("__debug__" : Str)) = false := by decide) : PE X (.Call (.Name x p) [] [] pos) (tMake C sp dvs E tNil) := by
  intro pins s σ H Q I h
  refine wpAny_Call_Name_kw (ld_glob I hg hm ?_ hdb)
  exact PySem.W.callWith_K0 I.kIn M.kp (run_make (us := []) M F hr hb hd hx I .nil h)
end
section
variable {X : Cx} {CX : CXT} {k : Nat} {f C : Addr} {fd : FuncData} {ps ks : List Str} {sp : Sp} {E : XK} {x m : Str} {p pos apos kpos : Pos} {e o : Expr} {es : List Expr} {kws : List Keyword} {te ta : TE} {t tk : TA} {nm : Option Str}
structure KBinds (K : PySem.W.Frag) (fd : FuncData) (ps ks : List Str) (g : List Value → List Value → List Value) (gV : List V → List V → List V) : Prop where
  to : ∀ (s : Shared) (us ws : List Value), K.In s.heap → (g us ws).length = ps.length → BindsTo s fd ⟨us, ks.zip ws⟩ (ps.zip (g us ws))
  rel : ∀ {vs : List V} {us : List Value} {zs : List V} {ws : List Value}, Vals vs us → Vals zs ws → Vals (gV vs zs) (g us ws)
variable {g : List Value → List Value → List Value} {gV : List V → List V → List V}
end
structure FnScope (N P : List Str) (sc : Scope) : Prop where
  kind : sc.kind = .function
  co : sc.isCoroutine = false
  gen : sc.isGenerator = false
  nd : N.Nodup
  pre : N.take P.length = P
  par : ∀ x ∈ P, sc.names.lookup x = some .local ∨ sc.names.lookup x = some .cell
  nofree : ∀ y ∈ sc.names, y.2 ≠ .free
theorem bindL_out {kindOf : Str → Option NameKind} {x : Str} : ∀ {binds : List (Str × Value)} {m : Str → Option Value}, (∀ v, (x, v) ∉ binds) → bindL kindOf binds m x = m x
  | [], _, _ => rfl
  | (n, v) :: r, m, h => by
    unfold bindL
    rw [bindL_out fun w hw => h w (List.mem_cons_of_mem _ hw)]
    split
    · have : x ≠ n := by rintro rfl; exact h v List.mem_cons_self
      simp [this]
    · rfl
theorem bindC_out {kindOf : Str → Option NameKind} {x : Str} : ∀ {binds : List (Str × Value)} {m : Str → Option Value}, (∀ v, (x, v) ∉ binds) → bindC kindOf binds m x = m x
  | [], _, _ => rfl
  | (n, v) :: r, m, h => by
    unfold bindC
    rw [bindC_out fun w hw => h w (List.mem_cons_of_mem _ hw)]
    split
    · rfl
    · have : x ≠ n := by rintro rfl; exact h v List.mem_cons_self
      simp [this]
theorem bindL_get {kindOf : Str → Option NameKind} {x : Str} {v : Value} : ∀ {P : List Str} {vs : List Value} {i : Nat} {m : Str → Option Value}, P.Nodup → P[i]? = some x → vs[i]? = some v → kindOf x = some .local →
    bindL kindOf (P.zip vs) m x = some v
  | [], _, _, _, _, h, _, _ => by simp at h
  | _ :: _, [], _, _, _, _, h, _ => by simp at h
  | p :: P, w :: vs, 0, m, nd, h1, h2, hk => by
    simp at h1 h2; subst h1; subst h2
    show bindL kindOf ((p, w) :: P.zip vs) m p = _
    unfold bindL
    rw [bindL_out fun v hv => (List.nodup_cons.mp nd).1 (List.of_mem_zip hv).1, if_pos hk]
    simp
  | p :: P, w :: vs, i + 1, m, nd, h1, h2, hk => by
    show bindL kindOf ((p, w) :: P.zip vs) m x = _
    unfold bindL
    exact bindL_get (i := i) (List.nodup_cons.mp nd).2 (by simpa using h1) (by simpa using h2) hk
theorem bindC_get {kindOf : Str → Option NameKind} {x : Str} {v : Value} : ∀ {P : List Str} {vs : List Value} {i : Nat} {m : Str → Option Value}, P.Nodup → P[i]? = some x → vs[i]? = some v → kindOf x ≠ some .local →
    bindC kindOf (P.zip vs) m x = some v
  | [], _, _, _, _, h, _, _ => by simp at h
  | _ :: _, [], _, _, _, _, h, _ => by simp at h
  | p :: P, w :: vs, 0, m, nd, h1, h2, hk => by
    simp at h1 h2; subst h1; subst h2
    show bindC kindOf ((p, w) :: P.zip vs) m p = _
    unfold bindC
    rw [bindC_out fun v hv => (List.nodup_cons.mp nd).1 (List.of_mem_zip hv).1, if_neg hk]
    simp
  | p :: P, w :: vs, i + 1, m, nd, h1, h2, hk => by
    show bindC kindOf ((p, w) :: P.zip vs) m x = _
    unfold bindC
    exact bindC_get (i := i) (List.nodup_cons.mp nd).2 (by simpa using h1) (by simpa using h2) hk
noncomputable def start (N : List Str) (vs : List V) : St := vs.map some ++ List.replicate (N.length - vs.length) none
noncomputable def cxOf (CX : CXT) (P : Program) (w : World) (K : PySem.W.Frag) (mg : Str → Option Value) (base : Heap) (N : List Str) (qual : Str) (scope : Scope) (f : Addr) (cd : Value) (A : Around) (outer : List Env) (s : Shared) (H : Hp) (E : XK) : Cx where
  prog := P
  w := w
  K := K
  mg := mg
  base := base
  A := A.deeper (envOfC qual scope s.heap.objs.size f cd)
  N := N
  s_0 := s
  H_0 := H
  env := envOfC qual scope s.heap.objs.size f cd
  outer := outer
  stack := envOfC qual scope s.heap.objs.size f cd :: outer
  ex := []
  calm := true
  fn := fun _ => true
  pn := []
  xe := fun e s' => wpAny (model P w) (A.deeper (envOfC qual scope s.heap.objs.size f cd)) (leaving (envOfC qual scope s.heap.objs.size f cd) e) (fun _ s'' => CX outer H s E e s'') (fun e' s'' => CX outer H s E e' s'') s'
theorem cell_has {sc : Scope} {n : Nat} {x : Str} (h : sc.names.lookup x = some .cell) : ∃ c, (cellsFrom n sc.names []).lookup x = some c := by
  have q := PySem.W.cellsFrom_some sc.names n [] (.inl h)
  exact Option.isSome_iff_exists.mp q
theorem inv_start {CX : CXT} {P : Program} {w : World} {K : PySem.W.Frag} {mg : Str → Option Value} {base : Heap} {N ps : List Str} {qual : Str} {scope : Scope} {f : Addr} {cd : Value} {A : Around} {outer : List Env} {s s1 : Shared} {H : Hp} {E : XK} {us : List Value} {vs : List V}
    (S : FnScope N ps scope) (hd : A.handled = none) (e0 : Env0 P w K mg base A outer s H) (hl : vs.length = ps.length) (r : Vals vs us)
    (x : InCallC s s.heap.objs.size (bindL (envOfC qual scope s.heap.objs.size f cd).kindOf (ps.zip us) fun _ => none) (cellsFrom (s.heap.objs.size + 1) scope.names []) (bindC (envOfC qual scope s.heap.objs.size f cd).kindOf (ps.zip us) fun _ => none) s1) :
    Inv (cxOf CX P w K mg base N qual scope f cd A outer s H E) [] (start N vs) H s1 := by
  have hpl : ps.length ≤ N.length := by have := congrArg List.length S.pre; rw [List.length_take] at this; omega
  obtain ⟨h1, tk, rfl, hk⟩ := x.done
  have noA : ∀ b : Addr, b ∉ (cxOf CX P w K mg base N qual scope f cd A outer s H E).ex := fun b z => absurd (show b ∈ ([] : List Addr) from z) (by simp)
  refine ⟨⟨e0.mod, S.kind, rfl, rfl, Nat.le_refl _, fun y z c h1 h2 => ?_, fun y hy => ?_, fun y c _ h => ?_, fun _ => hd, Around.frames_deeper e0.frames, .inr ⟨rfl, rfl⟩, fun b z => absurd z (noA b), e0.bs, e0.bsz, fun b _ _ => noA b, fun b z => absurd z (noA b), e0.funs, e0.frf⟩,
    rfl, e0.bare, Un.kept hk, ⟨_, x.toInCall.ns, fun i y v h1 h2 h3 => ?_⟩, fun y c h => ⟨_, x.cell y c h⟩, e0.hok.fresh (Nat.le_refl _), fun y c h => ?_, fun p hp => absurd (show p ∈ ([] : List (Addr × Obj)) from hp) (by simp), e0.hok.kept hk, ?_⟩
  · exact name_of_addr x.apart (PySem.mem_of_lookup h1) (PySem.mem_of_lookup h2)
  · have hy : scope.names.lookup y = some .cell ∨ scope.names.lookup y = some .free := hy
    rcases hy with hy | hy
    · exact cell_has hy
    · exact absurd rfl (S.nofree _ (PySem.mem_of_lookup hy))
  · exact Nat.le_of_lt (x.above y c (PySem.mem_of_lookup h))
  · have hi : i < vs.length := by
      unfold start at h2
      by_cases hi : i < vs.length
      · exact hi
      · rw [List.getElem?_append_right (by simpa using hi)] at h2
        rw [List.getElem?_replicate] at h2
        split at h2 <;> cases h2
    have ha : vs[i]? = some v := by
      unfold start at h2
      rw [List.getElem?_append_left (by simpa using hi), List.getElem?_map] at h2
      cases e : vs[i]? with
      | none => rw [e] at h2; cases h2
      | some a => rw [e] at h2; cases h2; rfl
    obtain ⟨u, hu, rv⟩ := r.get ha
    have hp : ps[i]? = some y := by
      rw [← S.pre, List.getElem?_take_of_lt (by omega)]; exact h1
    have ndP : ps.Nodup := by rw [← S.pre]; exact S.nd.sublist (List.take_sublist _ _)
    refine ⟨u, rv, ?_⟩
    rcases S.par y (List.mem_of_getElem? hp) with k | k
    · exact .inl ⟨k, bindL_get ndP hp hu k⟩
    · obtain ⟨c, e⟩ := cell_has (n := s.heap.objs.size + 1) k
      refine .inr ⟨.inl k, c, e, ?_⟩
      have q := x.cell y c e
      rw [bindC_get ndP hp hu (by show scope.names.lookup y ≠ _; rw [k]; decide)] at q
      exact q
  · exact e0.hok.fresh (Nat.le_of_lt (x.above y c (PySem.mem_of_lookup h)))
  · unfold start
    show _ = N.length
    rw [List.length_append, List.length_map, List.length_replicate]
    omega
theorem fn_of {CX : CXT} {P : Program} {w : World} {K : PySem.W.Frag} {mg : Str → Option Value} {base : Heap} {k : Nat} {f : Addr} {name qual : Str} {params : Arguments} {body : List Stmt} {scope : Scope} {dV kV doc pm cdv ct oc : Value} {an od : Option Addr}
    {osl : Array (Option Value)} {N ps : List Str} {sp : Sp} (lk : K.lookup f = some ⟨oc, od, .func (PySem.W.fnOf name qual params body scope dV kV doc pm an cdv ct), osl⟩) (hcd : PySem.W.codeIn K cdv qual = true) (S : FnScope N ps scope)
    (len : ∀ vs H Q E, sp vs H Q E → vs.length = ps.length)
    (hbody : ∀ (A : Around) (outer : List Env) (s : Shared) (H : Hp) (vs : List V) (Q : VK) (E : XK), Room k (A.deeper (envOfC qual scope s.heap.objs.size f cdv)) → sp vs H Q E →
      ∃ t, PSs (cxOf CX P w K mg base N qual scope f cdv A outer s H E) body t ∧ t { nx := fun _ H' => Q .non H', rt := Q } (start N vs) H) :
    FnOk P w K mg base CX (k + 1) f (PySem.W.fnOf name qual params body scope dV kV doc pm an cdv ct) ps sp := by
  refine ⟨len, fun A outer s H args us vs Q E hr e0 hb r hsp => ?_⟩
  have hl := len _ _ _ _ hsp
  have KX : K.In s.heap := e0.mod.kin.keeps fun b o e => (e0.bs b o e).1
  have lim : s.heap.NoLimit := e0.mod.nolimit.keeps fun b o e => (e0.bs b o e).1
  have hkind : ∀ y ∈ ps.zip us, scope.names.lookup y.1 = some .local ∨ (scope.names.lookup y.1 = some .cell ∧ ((cellsFrom (s.heap.objs.size + 1) scope.names []).lookup y.1).isSome = true) := fun ⟨n, v⟩ hy => by
    rcases S.par n (List.of_mem_zip hy).1 with q | q
    · exact .inl q
    · exact .inr ⟨q, PySem.W.cellsFrom_some _ _ _ (.inl q)⟩
  refine codeAny_call_function hr.depth (KX _ _ lk) rfl S.co S.gen rfl (PySem.W.codeRec_of KX hcd) (hb _ _ _ _ ?_)
  refine wpAny_newFunctionEnv_cells S.kind hkind fun env he s1 x => ?_
  subst he
  refine ⟨lim.keeps x.toInCall.keep, codeAny_func ?_⟩
  obtain ⟨t, ht, hq⟩ := hbody A outer s H vs Q E (hr.deeper _) hsp
  have I : Inv (cxOf CX P w K mg base N qual scope f cdv A outer s H E) [] (start N vs) H s1 := inv_start S hr.hd e0 hl r x
  refine wpAny_mono (ht [] s1 (start N vs) H _ I hq) (fun fl s' hs => ?_) fun e s' hs => hs
  have fin : ∀ {σ' : St} {H' : Hp} {v : V} {u : Value}, Inv (cxOf CX P w K mg base N qual scope f cdv A outer s H E) [] σ' H' s' → RelV v u → Q v H' → CE outer P w H s Q u s' :=
    fun {σ' H' v u} J rv q => ⟨v, H', J.os, J.bare, J.base, J.hok, rv, q⟩
  cases fl with
  | ret u =>
    obtain ⟨v, σ', H', J, rv, q⟩ := hs
    exact fin J rv q
  | next =>
    obtain ⟨σ', H', J, q⟩ := hs
    exact fin (v := V.non) (u := Value.none) J rfl q
  | brk =>
    obtain ⟨_, _, _, q⟩ := hs
    exact False.elim q
  | cont =>
    obtain ⟨_, _, _, q⟩ := hs
    exact False.elim q
end L2
namespace L2
open PySem PySem.Spec PyProof.Rows
section
variable {X : Cx} {x : Str} {p pos : Pos} {e : Expr} {es : List Expr} {t : TA} {id T : String} {r : List V → Hp → VK → Prop}
noncomputable def tCB (r : List V → Hp → VK → Prop) (t : TA) : TE := fun σ H Q => t σ H fun vs H1 => r vs H1 Q
theorem pe_callB (hc : CallR X (.builtin id) r) (hg : Gl X x) (hm : X.mg x = none) (hv : bootBuiltins x = some (.builtin id)) (ha : PA X (e :: es) t) (hn : x ≠ "__name__" := by decide) (hdb : (x == ("__debug__" : Str)) = false := by decide)
    (he : starEach (e :: es) X.env = (false, eval e X.env) :: starEach es X.env := by rfl) (hpl : (backTo pos (starEach es X.env)).any (·.1) = false := by rfl) : PE X (.Call (.Name x p) (e :: es) [] pos) (tCB r t) := by
  intro pins s σ H Q I h
  refine wpAny_Call_Name_kw (ld_blt I hg hm hv ?_ hn hdb)
  exact PyProof.Rows.callWith_builtin1 (thn (ha pos pins s σ H _ I h) fun us s1 ⟨vs, H1, I1, r1, q1⟩ => hc pins s1 σ H1 vs us Q I1 r1 q1) he hpl
theorem pe_callTy (hc : CallR X (.type T) r) (hg : Gl X x) (hm : X.mg x = none) (hv : bootBuiltins x = some (.type T)) (ha : PA X (e :: es) t) (hn : x ≠ "__name__" := by decide) (hdb : (x == ("__debug__" : Str)) = false := by decide)
    (he : starEach (e :: es) X.env = (false, eval e X.env) :: starEach es X.env := by rfl) (hpl : (backTo pos (starEach es X.env)).any (·.1) = false := by rfl) : PE X (.Call (.Name x p) (e :: es) [] pos) (tCB r t) := by
  intro pins s σ H Q I h
  refine wpAny_Call_Name_kw (ld_blt I hg hm hv ?_ hn hdb)
  exact PyProof.Rows.callWith_type1 (thn (ha pos pins s σ H _ I h) fun us s1 ⟨vs, H1, I1, r1, q1⟩ => hc pins s1 σ H1 vs us Q I1 r1 q1) he hpl
end
end L2
namespace HT
open PySem PyProof.Rows
section
open PySem.SeqAt
open PySem.AutoSeq1 (wpAny_loadPart')
open PySem.MeetsSeq PySem.MeetsSeq2 PySem.MeetsSeq3
end
section
variable {prog : Program} {w : World} {A : Around} {E : Value → Shared → Prop} {s : Shared}
noncomputable def sIx (n d : Nat) : Option Int → Nat
  | none => d
  | some v => if v < 0 then (v + (n : Int)).toNat else min v.toNat n
theorem sIx_nat (n d k : Nat) : sIx n d (some (k : Int)) = min k n := by
  show (if (k : Int) < 0 then ((k : Int) + (n : Int)).toNat else min (k : Int).toNat n) = min k n
  rw [if_neg (by omega), Int.toNat_natCast]
end
end HT
namespace L2
open PySem PySem.Spec PyProof.Rows
noncomputable abbrev TO := St → Hp → (Option Int → Hp → Prop) → Prop
noncomputable def PO (X : Cx) (e : Option Expr) (t : TO) : Prop :=
  ∀ (pins : List (Addr × Obj)) (s : Shared) (σ : St) (H : Hp) (Q : Option Int → Hp → Prop), Inv X pins σ H s → t σ H Q →
    wpAny (model X.prog X.w) X.A (evalPart e X.env) (fun u s' => ∃ o H', Inv X pins σ H' s' ∧ IsPart u o ∧ Q o H') X.xe s
noncomputable def tPart (t : TE) : TO := fun σ H Q => t σ H fun x H1 => ∃ i, x = .int i ∧ Q (some i) H1
section
variable {X : Cx} {e : Expr} {te : TE} {lo hi : Option Expr} {tl th : TO} {pos p2 : Pos}
theorem po_some (h : PE X e te) : PO X (some e) (tPart te) := by
  intro pins s σ H Q I hw
  rw [evalPart_some]
  refine thn (h pins s σ H _ I hw) fun u s1 ⟨x, H1, I1, r1, q1⟩ => ?_
  obtain ⟨i, rfl, q⟩ := q1
  obtain ⟨t, rfl⟩ := r1
  exact ⟨some i, H1, I1, .int i t, q⟩
noncomputable def SlR (X : Cx) (r : V → Option Int → Option Int → Hp → VK → Prop) : Prop :=
  ∀ (pins : List (Addr × Obj)) (s : Shared) (σ : St) (H : Hp) (x : V) (v vl vu : Value) (lo hi : Option Int) (sl : Addr) (Q : VK), Inv X pins σ H s → RelV x v → s.heap.IsSliceOf sl vl vu .none → IsPart vl lo → IsPart vu hi → r x lo hi H Q →
    ∃ T id, typeLookup (.type T) "__getitem__" = pure (some (.builtin id)) ∧ s.TypeIs v T ∧ wpAny (model X.prog X.w) X.A (getItem v (.ref sl)) (EP X pins σ Q) X.xe s
noncomputable def tSl (r : V → Option Int → Option Int → Hp → VK → Prop) (te : TE) (tl th : TO) : TE := fun σ H Q => te σ H fun x H1 => tl σ H1 fun l H2 => th σ H2 fun u H3 => r x l u H3 Q
theorem pe_slice {r : V → Option Int → Option Int → Hp → VK → Prop} (hr : SlR X r) (he : PE X e te) (hl : PO X lo tl) (hu : PO X hi th) : PE X (.Subscript e (.Slice lo hi none p2) pos) (tSl r te tl th) := by
  intro pins s σ H Q I h
  refine Subscript_ (thn (he pins s σ H _ I h) fun v s1 ⟨x, H1, I1, r1, q1⟩ => ?_)
  refine wpAny_Slice (thn (hl pins s1 σ H1 _ I1 q1) fun vl s2 ⟨l, H2, I2, pl, q2⟩ => thn (hu pins s2 σ H2 _ I2 q2) fun vu s3 ⟨u, H3, I3, pu, q3⟩ => ?_)
  rw [evalPart_none]
  refine wpAny_pure ?_
  have I4 : Inv X pins σ H3 { s3 with heap := s3.heap.push { cls := .type "slice", data := .fields #[vl, vu, .none] } } := I3.kept (t' := s3.toks) fun b ob q => Heap.get?_push_of_some _ q
  obtain ⟨T, id, hT, ht, hg⟩ := hr pins { s3 with heap := s3.heap.push { cls := .type "slice", data := .fields #[vl, vu, .none] } } σ H3 x v vl vu l u s3.heap.objs.size Q I4 r1 (Heap.IsSliceOf.new ..) pl pu q3
  show wpAny (model X.prog X.w) X.A (subscriptTail e (.Slice lo hi none p2) v (.ref s3.heap.objs.size)) (EP X pins σ Q) X.xe { s3 with heap := s3.heap.push { cls := .type "slice", data := .fields #[vl, vu, .none] } }
  exact tail_any (ops := [.ref s3.heap.objs.size, v]) ht hT hg (by with_unfolding_all rfl)
noncomputable def cutV (xs : List V) (lo hi : Option Int) : List V := (xs.drop (HT.sIx xs.length 0 lo)).take (HT.sIx xs.length xs.length hi - HT.sIx xs.length 0 lo)
theorem cutV_length (xs : List V) (lo hi : Option Int) : (cutV xs lo hi).length ≤ xs.length := by
  unfold cutV
  rw [List.length_take, List.length_drop]
  omega
end
end L2
namespace L2
open PySem PySem.Spec PyProof.Rows
noncomputable def ixN (n : Nat) (i : Int) : Option Nat := if 0 ≤ i then (if i < n then some i.toNat else none) else if -(n : Int) ≤ i then some (i + n).toNat else none
noncomputable def atI {α : Type} (xs : List α) (i : Int) : Option α := (ixN xs.length i).bind fun j => xs[j]?
theorem ixN_seq {n : Nat} {i : Int} {j : Nat} (h : ixN n i = some j) : seqIndex? i n = some j ∧ j < n ∧ -(n : Int) ≤ i ∧ i < n := by
  unfold ixN at h
  by_cases h0 : 0 ≤ i
  · rw [if_pos h0] at h
    by_cases h1 : i < n
    · rw [if_pos h1] at h
      have e : i.toNat = j := Option.some.inj h
      exact ⟨by rw [seqIndex_of h0 h1, e], by omega, by omega, h1⟩
    · rw [if_neg h1] at h; cases h
  · rw [if_neg h0] at h
    by_cases h1 : -(n : Int) ≤ i
    · rw [if_pos h1] at h
      have e : (i + n).toNat = j := Option.some.inj h
      exact ⟨by rw [seqIndex_neg (by omega) h1, e], by omega, h1, by omega⟩
    · rw [if_neg h1] at h; cases h
theorem atI_get {α : Type} {xs : List α} {i : Int} {v : α} (h : atI xs i = some v) : ∃ j, seqIndex? i xs.length = some j ∧ xs[j]? = some v ∧ j < xs.length ∧ -(xs.length : Int) ≤ i ∧ i < xs.length := by
  unfold atI at h
  cases e : ixN xs.length i with
  | none => rw [e] at h; cases h
  | some j =>
    rw [e] at h
    obtain ⟨h1, h2, h3, h4⟩ := ixN_seq e
    exact ⟨j, h1, h, h2, h3, h4⟩
theorem atI_nat {α : Type} {xs : List α} {j : Nat} {v : α} (h : xs[j]? = some v) : atI xs (j : Int) = some v := by
  have hj : j < xs.length := (List.getElem?_eq_some_iff.mp h).1
  have e : ixN xs.length (j : Int) = some j := by
    unfold ixN
    rw [if_pos (by omega), if_pos (by omega)]; simp
  unfold atI; rw [e]; exact h
noncomputable def PlainIx (b : Expr) : Prop := ∀ o i, subscripted b false o i = operate [o, i] (getItem o i)
noncomputable def IxR (X : Cx) (r : R2) : Prop :=
  ∀ (value slice : Expr) (pins : List (Addr × Obj)) (s : Shared) (σ : St) (H : Hp) (x y : V) (v u : Value) (Q : VK), Inv X pins σ H s → RelV x v → RelV y u → r x y H Q →
    subscripted slice false v u = operate [v, u] (getItem v u) → wpAny (model X.prog X.w) X.A (subscriptTail value slice v u) (EP X pins σ Q) X.xe s
noncomputable def MtR (X : Cx) (id : String) (r : V → List V → Hp → VK → Prop) : Prop :=
  ∀ (pins : List (Addr × Obj)) (s : Shared) (σ : St) (H : Hp) (x : V) (xs : List V) (v : Value) (us : List Value) (Q : VK), Inv X pins σ H s → RelV x v → Vals xs us → r x xs H Q →
    wpAny (model X.prog X.w) X.A (call (.builtin id) (v :: us)) (EP X pins σ Q) X.xe s
section
variable {X : Cx} {a b : Expr} {ta tb : TE} {pos : Pos}
theorem pe_ix {r : R2} (hr : IxR X r) (ha : PE X a ta) (hb : PE X b tb) (hs : PlainIx b) : PE X (.Subscript a b pos) (tOp r ta tb) := by
  intro pins s σ H Q I h
  exact Subscript_ (binT ha hb I h fun v u s2 x y H2 I2 rx ry q => hr a b pins s2 σ H2 x y v u Q I2 rx ry q (hs _ _))
noncomputable def rIxL (K : PySem.W.Frag) : R2 := fun x y H Q => ∃ p xs i v, x = .ref p ∧ y = .int i ∧ SqL K H p xs ∧ atI xs i = some v ∧ Q v H
noncomputable def rIxT (K : PySem.W.Frag) : R2 := fun x y H Q => ∃ p xs i v, x = .ref p ∧ y = .int i ∧ SqT K H p xs ∧ atI xs i = some v ∧ Q v H
theorem ix_list : IxR X (rIxL X.K) := by
  intro value slice pins s σ H x y v u Q I rx ry h hs
  obtain ⟨p, xs, i, z, rfl, rfl, hq, he, q⟩ := h
  cases rx
  obtain ⟨t, rfl⟩ := ry
  obtain ⟨its, r, pl, hz⟩ := I.list hq
  obtain ⟨j, h1, h2, h3, h4, h5⟩ := atI_get he
  obtain ⟨w, ew, rw'⟩ := r.get h2
  have hl := r.length
  have hn := line63
  have fin : EP X pins σ Q w s := ⟨z, H, I, rw', q⟩
  by_cases h0 : 0 ≤ i
  · have hj : i.toNat = j := by
      rw [seqIndex_of h0 h5] at h1
      exact Option.some.inj h1
    exact item_listR pl.isList h0 (by omega) (by rw [hj]; simpa using ew) fin hs
  · have hj : (i + (its.toArray.size : Int)).toNat = j := by
      rw [seqIndex_neg (by omega) h4] at h1
      rw [List.size_toArray, ← hl]
      exact Option.some.inj h1
    exact subscriptTail_builtinR (x := w) pl.isList.typeIs slot_list_getitem.lookup
      (wpAny_getItem_list_neg (Q := fun r s' => r = w ∧ EP X pins σ Q r s') pl.isList (by omega) (by rw [List.size_toArray] <;> omega) (by omega) (by rw [hj]; simpa using ew) ⟨rfl, fin⟩) hs
theorem ix_tup : IxR X (rIxT X.K) := by
  intro value slice pins s σ H x y v u Q I rx ry h hs
  obtain ⟨p, xs, i, z, rfl, rfl, hq, he, q⟩ := h
  cases rx
  obtain ⟨t, rfl⟩ := ry
  obtain ⟨its, r, pl, hz⟩ := I.tuple hq
  obtain ⟨j, h1, h2, h3, h4, h5⟩ := atI_get he
  obtain ⟨w, ew, rw'⟩ := r.get h2
  have hl := r.length
  have hn := line63
  have fin : EP X pins σ Q w s := ⟨z, H, I, rw', q⟩
  exact subscriptTail_builtinR (x := w) pl.typeIs slot_tuple_getitem.lookup
    (getItem_tuple (j := j) (Q := fun r s' => r = w ∧ EP X pins σ Q r s') pl (by omega) (by omega) (by rw [List.size_toArray, ← hl]; exact h1) (by simpa using ew) ⟨rfl, fin⟩) hs
theorem slice_bounds (lo hi : Option Int) (n : Nat) : (sliceBounds lo hi none n).1 = ((HT.sIx n 0 lo : Nat) : Int) ∧ (sliceBounds lo hi none n).2.1 = ((HT.sIx n n hi : Nat) : Int) ∧ (sliceBounds lo hi none n).2.2 = 1 := by
  refine ⟨?_, ?_, rfl⟩
  · cases lo with
    | none => simp [sliceBounds, HT.sIx]
    | some i =>
      simp only [sliceBounds, HT.sIx, Option.getD_none, show (1 : Int) > 0 by decide, if_true]
      by_cases h : i < 0
      · simp only [h, if_true] <;> omega
      · simp only [h, if_false] <;> omega
  · cases hi with
    | none => simp [sliceBounds, HT.sIx]
    | some i =>
      simp only [sliceBounds, HT.sIx, Option.getD_none, show (1 : Int) > 0 by decide, if_true]
      by_cases h : i < 0
      · simp only [h, if_true] <;> omega
      · simp only [h, if_false] <;> omega
theorem slicePick_cut (its : List Value) (lo hi : Option Int) : slicePick its.toArray lo hi none = ((its.drop (HT.sIx its.length 0 lo)).take (HT.sIx its.length its.length hi - HT.sIx its.length 0 lo)).toArray := by
  obtain ⟨h1, h2, h3⟩ := slice_bounds lo hi its.toArray.size
  unfold slicePick
  rw [h1, h2, h3]
  simp only [sliceRange_one, pick_run, List.size_toArray] <;> rfl
noncomputable def rSlL (K : PySem.W.Frag) : V → Option Int → Option Int → Hp → VK → Prop := fun x lo hi H Q => ∃ a xs, x = .ref a ∧ SqL K H a xs ∧ ∀ p, H p = none → Q (.ref p) (upd H p (.lst (cutV xs lo hi)))
theorem sl_list : SlR X (rSlL X.K) := by
  intro pins s σ H x v vl vu lo hi sl Q I rx hs pl pu h
  obtain ⟨a, xs, rfl, hx, q⟩ := h
  cases rx
  obtain ⟨its, r, ht, hz⟩ := I.list hx
  have hlen := r.length
  refine ⟨"list", _, slot_list_getitem.lookup, ht.isList.typeIs, ?_⟩
  refine wpAny_getItem_list_slice ht.isList hs pl pu .none (by simp) ?_ (by rw [List.size_toArray] <;> omega)
  rw [slicePick_cut, ← hlen]
  refine ⟨.ref s.heap.objs.size, _, I.laid (t' := s.toks) (o := .lst (cutV xs lo hi)) (fun b ob q => Heap.get?_push_of_some _ q) (Nat.le_refl _) ?_, rfl, q _ (I.hok.fresh (Nat.le_refl _))⟩
  exact ⟨Nat.le_trans (cutV_length xs lo hi) hz, _, 0, (r.drop (HT.sIx xs.length 0 lo)).take (HT.sIx xs.length xs.length hi - HT.sIx xs.length 0 lo), Heap.get?_push_size _ rfl⟩
noncomputable def flatV : V → Bool
  | .non => true
  | .bl _ => true
  | .int _ => true
  | .str _ => true
  | _ => false
noncomputable def eqV : V → V → Bool
  | .non, .non => true
  | .bl a, .bl b => a == b
  | .bl a, .int b => (if a then 1 else 0) == b
  | .int a, .bl b => a == (if b then 1 else 0)
  | .int a, .int b => a == b
  | .str a, .str b => a == b
  | _, _ => false
theorem eqAt_V {A : Around} {s : Shared} {y x : V} {u v : Value} (ry : RelV y u) (rx : RelV x v) (fy : flatV y = true) (fx : flatV x = true) : SeqAt.EqAt A s u v (eqV y x) := by
  cases y with
  | non =>
    cases ry
    cases x with
    | non => cases rx; exact SeqAt.EqAt.same _
    | bl b => cases rx; exact SeqAt.EqAt.none_bool b
    | int b => obtain ⟨t, rfl⟩ := rx; exact SeqAt.EqAt.none_int b t
    | str b => obtain ⟨t, rfl⟩ := rx; exact SeqAt.EqAt.none_str b t
    | _ => exact absurd (show false = true from fx) Bool.false_ne_true
  | bl a =>
    cases ry
    cases x with
    | non => cases rx; exact SeqAt.EqAt.bool_none a
    | bl b => cases rx; exact SeqAt.EqAt.bool_bool a b
    | int b => obtain ⟨t, rfl⟩ := rx; exact SeqAt.EqAt.bool_int a b t
    | str b => obtain ⟨t, rfl⟩ := rx; exact SeqAt.EqAt.bool_str a b t
    | _ => exact absurd (show false = true from fx) Bool.false_ne_true
  | int a =>
    obtain ⟨t', rfl⟩ := ry
    cases x with
    | non => cases rx; exact SeqAt.EqAt.int_none a t'
    | bl b => cases rx; exact SeqAt.EqAt.int_bool a t' b
    | int b => obtain ⟨t, rfl⟩ := rx; exact SeqAt.EqAt.int_int a t' b t
    | str b => obtain ⟨t, rfl⟩ := rx; exact SeqAt.EqAt.int_str a t' b t
    | _ => exact absurd (show false = true from fx) Bool.false_ne_true
  | str a =>
    obtain ⟨t', rfl⟩ := ry
    cases x with
    | non => cases rx; exact SeqAt.EqAt.str_none a t'
    | bl b => cases rx; exact SeqAt.EqAt.str_bool a t' b
    | int b => obtain ⟨t, rfl⟩ := rx; exact SeqAt.EqAt.str_int a t' b t
    | str b => obtain ⟨t, rfl⟩ := rx; exact SeqAt.EqAt.str_str a t' b t
    | _ => exact absurd (show false = true from fx) Bool.false_ne_true
  | _ => exact absurd (show false = true from fy) Bool.false_ne_true
noncomputable def eqU (x : V) (u : Value) : Bool := match u with
  | .none => eqV .non x
  | .bool b => eqV (.bl b) x
  | .int i _ => eqV (.int i) x
  | .str z _ => eqV (.str z) x
  | _ => false
theorem eqU_of {x y : V} {u : Value} (r : RelV y u) (f : flatV y = true) : eqU x u = eqV y x := by
  cases y with
  | non => cases r; rfl
  | bl b => cases r; rfl
  | int i => obtain ⟨t, rfl⟩ := r; rfl
  | str z => obtain ⟨t, rfl⟩ := r; rfl
  | _ => exact absurd (show false = true from f) Bool.false_ne_true
theorem any_eqU {x : V} : ∀ {xs : List V} {us : List Value}, Vals xs us → xs.all flatV = true → us.any (eqU x) = xs.any fun y => eqV y x
  | _, _, .nil, _ => rfl
  | y :: xs, u :: us, .cons r t, f => by
    rw [List.all_cons, Bool.and_eq_true] at f
    rw [List.any_cons, List.any_cons, eqU_of r f.1, any_eqU t f.2]
theorem mem_eqAt {A : Around} {s : Shared} {x : V} {v : Value} (rx : RelV x v) (fx : flatV x = true) : ∀ {xs : List V} {us : List Value}, Vals xs us → xs.all flatV = true → ∀ u ∈ us, SeqAt.EqAt A s u v (eqU x u)
  | _, _, .nil, _ => fun u hu => by cases hu
  | y :: xs, u :: us, .cons r t, f => fun u' hu => by
    rw [List.all_cons, Bool.and_eq_true] at f
    rcases List.mem_cons.mp hu with rfl | hu
    · rw [eqU_of r f.1]; exact eqAt_V r rx f.1 fx
    · exact mem_eqAt rx fx t f.2 u' hu
noncomputable def inV (x : V) (xs : List V) : Bool := xs.any fun y => eqV y x
noncomputable def rIn (K : PySem.W.Frag) (neg : Bool) : R2 := fun x y H Q => ∃ p xs, y = .ref p ∧ (SqL K H p xs ∨ SqT K H p xs) ∧ flatV x = true ∧ xs.all flatV = true ∧ Q (.bl (if neg then !inV x xs else inV x xs)) H
theorem op_notIn_seq : OpR X (compareOp .NotIn) (rIn X.K true) := by
  intro pins s σ H x y v u Q I rx ry h
  obtain ⟨p, xs, rfl, hq, fx, fs, q⟩ := h
  cases ry
  rcases hq with hq | hq
  · obtain ⟨its, r, pl, hz⟩ := I.list hq
    refine SeqAt.notIn_listAt (eqU x) pl.isList (fun w hw => mem_eqAt rx fx r fs w (by simpa using hw)) ⟨.bl _, H, I, rfl, ?_⟩
    rw [show its.toArray.any (eqU x) = its.any (eqU x) by simp, any_eqU r fs]
    exact q
  · obtain ⟨its, r, pl, hz⟩ := I.tuple hq
    refine SeqAt.notIn_tupleAt (eqU x) pl (fun w hw => mem_eqAt rx fx r fs w (by simpa using hw)) ⟨.bl _, H, I, rfl, ?_⟩
    rw [show its.toArray.any (eqU x) = its.any (eqU x) by simp, any_eqU r fs]
    exact q
theorem call_len_seq : CallR X (.builtin "len") (fun xs H Q => ∃ p ys, xs = [.ref p] ∧ (SqL X.K H p ys ∨ SqT X.K H p ys) ∧ Q (.int ys.length) H) := by
  intro pins s σ H xs us Q I r h
  obtain ⟨p, ys, rfl, hq, q⟩ := h
  obtain ⟨u, rfl, rx⟩ := vals1 r
  cases rx
  have hn := line63
  rcases hq with hq | hq
  · obtain ⟨its, r', pl, hz⟩ := I.list hq
    have hlen := r'.length
    exact Calls.call_len_list pl.isList (by simp only [List.size_toArray] <;> omega) ⟨.int ys.length, H, I.tok _, ⟨s.toks + 1, by rw [List.size_toArray, hlen]⟩, q⟩
  · obtain ⟨its, r', pl, hz⟩ := I.tuple hq
    have hlen := r'.length
    exact len_tuple pl (by simp only [List.size_toArray] <;> omega) ⟨.int ys.length, H, I.tok _, ⟨s.toks + 1, by rw [List.size_toArray, hlen]⟩, q⟩
noncomputable def tyV (K : PySem.W.Frag) (T : String) (x : V) (H : Hp) : Prop := match x with
  | .str _ => T = "str"
  | .int _ => T = "int"
  | .ref p => (T = "list" ∧ ∃ xs, SqL K H p xs) ∨ (T = "tuple" ∧ ∃ o, K.lookup p = some o ∧ o.cls = .type "tuple" ∧ o.dict = none) ∨
      (T = "dict" ∧ ((∃ kvs, H p = some (.dK kvs)) ∨ ∃ kvs, H p = some (.dT kvs))) ∨ (T = "set" ∧ ∃ S n, H p = some (.set S n))
  | _ => False
theorem tyV_is {pins : List (Addr × Obj)} {σ : St} {H : Hp} {s : Shared} {T : String} {x : V} {v : Value} (I : Inv X pins σ H s) (r : RelV x v) (ty : tyV X.K T x H) :
    s.TypeIs v T ∧ ∀ a, v = .ref a → ∃ ob, s.heap.get? a = some ob ∧ ob.dict = none := by
  cases x with
  | str z =>
    obtain ⟨t, rfl⟩ := r
    cases (show T = "str" from ty)
    exact ⟨typeIs_str s z t, fun _ e => nomatch e⟩
  | int i =>
    obtain ⟨t, rfl⟩ := r
    cases (show T = "int" from ty)
    exact ⟨typeIs_int s i t, fun _ e => nomatch e⟩
  | ref p =>
    cases r
    rcases ty with ⟨rfl, xs, hq⟩ | ⟨rfl, o, hk, hc, hd⟩ | ⟨rfl, hk⟩ | ⟨rfl, S, n, hk⟩
    · obtain ⟨its, _, pl, _⟩ := I.list hq
      refine ⟨pl.isList.typeIs, fun a e => ?_⟩
      cases e
      obtain ⟨o, n, e, c, hd, _⟩ := pl
      exact ⟨o, e, hd⟩
    · refine ⟨⟨o, I.kIn p o hk, hc⟩, fun a e => ?_⟩
      cases e
      exact ⟨o, I.kIn _ o hk, hd⟩
    · have z : ∃ o, s.heap.get? p = some o ∧ o.ExactDict := by
        rcases hk with ⟨kvs, hk⟩ | ⟨kvs, hk⟩
        · obtain ⟨_, _, _, _, o, _, _, e, ex, _⟩ := I.hok p _ hk
          exact ⟨o, e, ex⟩
        · obtain ⟨_, _, _, _, o, _, _, e, ex, _⟩ := I.hok p _ hk
          exact ⟨o, e, ex⟩
      obtain ⟨o, e, ex⟩ := z
      refine ⟨⟨o, e, ex.1⟩, fun a e2 => ?_⟩
      cases e2
      exact ⟨o, e, ex.2.1⟩
    · obtain ⟨o, _, _, _, e, ex, _⟩ := I.hok p _ hk
      refine ⟨⟨o, e, ex.1⟩, fun a e2 => ?_⟩
      cases e2
      exact ⟨o, e, ex.2.1⟩
  | _ => exact False.elim ty
noncomputable def tBM (K : PySem.W.Frag) (T : String) (r : V → List V → Hp → VK → Prop) (to : TE) (t : TA) : TE := fun σ H Q => to σ H fun x H1 => tyV K T x H1 ∧ t σ H1 fun xs H2 => r x xs H2 Q
variable {o e : Expr} {es : List Expr} {to : TE} {t : TA} {name : Str} {apos cpos : Pos} {T id : String} {r : V → List V → Hp → VK → Prop}
theorem pe_bm (pa : PlainAttrs T) (slot : Slot T name id) (hty : typeOf (.builtin id) = pure (.type "method_descriptor")) (hm : MtR X id r) (ho : PE X o to) (ha : PA X (e :: es) t)
    (hbase : attributeBase o name X.env (eval o X.env) = eval o X.env := by rfl)
    (hfew : ((backTo cpos (starEach (e :: es) X.env)).all (fun x => !x.1) && (backToKw cpos (keywordEach [] X.env)).all (fun x => x.1.isSome)
      && decide ((e :: es).length + ([] : List Keyword).length + (if ([] : List Keyword).isEmpty then 0 else 1) < 30)) = true := by rfl)
    (hline : (apos.endLine == cpos.line) = true := by rfl) (hs : starEach (e :: es) X.env = (false, eval e X.env) :: starEach es X.env := by rfl) (hplain : (backTo cpos (starEach es X.env)).any (·.1) = false := by rfl) :
    PE X (.Call (.Attribute o name apos) (e :: es) [] cpos) (tBM X.K T r to t) := by
  intro pins s σ H Q I h
  refine wpAny_Call_method_late hbase hfew hline rfl (thn (ho pins s σ H _ I h) fun v s1 ⟨x, H1, I1, r1, ty, q1⟩ => ?_)
  obtain ⟨h1, h2⟩ := tyV_is I1 r1 ty
  refine ⟨T, id, pa, slot, hty, h1, h2, ?_⟩
  have hA := ha cpos pins s1 σ H1 _ I1 q1
  rw [hs] at hA ⊢
  refine Calls.callWith_builtin (by show (false || (backTo cpos (starEach es X.env)).any (·.1)) = false; rw [hplain] <;> rfl) (Calls.evalArgs_plain ?_)
  exact thn hA fun us s2 ⟨vs, H2, I2, r2, q2⟩ => hm pins s2 σ H2 x vs v us Q I2 r1 r2 q2
/- xs.append(e), list.index on a module's tuple .. are MtR facts of 06m -/
end
end L2
namespace L2
open PySem PySem.Spec PyProof.Rows
noncomputable def MtM (X : Cx) (id : String) (r : V → List V → Hp → VK → Prop) : Prop :=
  ∀ (pins : List (Addr × Obj)) (s : Shared) (σ : St) (H : Hp) (x : V) (xs : List V) (v : Value) (us : List Value) (Q : VK), Inv X pins σ H s → RelV x v → Vals xs us → r x xs H Q →
    wpAny (model X.prog X.w) X.A (call (.builtin id) (v :: us)) (EP X pins σ Q) X.xe s
theorem Vals.one : ∀ {x : V} {us : List Value}, Vals [x] us → ∃ u, us = [u] ∧ RelV x u
  | _, _, .cons r .nil => ⟨_, rfl, r⟩
section
variable {X : Cx} {pins : List (Addr × Obj)} {σ : St} {H : Hp} {s : Shared} {l b : Addr} {xs ys zs : List V}
theorem Inv.lset {its its' : List Value} {n : Nat} {f : Array Value → Array Value} {t' : Nat} (I : Inv X pins σ H s) (hH : H l = some (.lst xs))
    (e : s.heap.get? l = some { cls := .type "list", data := .seq its.toArray n }) (hf : f its.toArray = its'.toArray) (hv : Vals ys its') (hz : ys.length ≤ sizeLine) :
    Inv X pins σ (upd H l (.lst ys)) { s with heap := s.heap.update l (Obj.mapSeq f), toks := t' } := by
  have q := PySem.IsL.update e f
  rw [hf] at q
  refine I.write (x := l) (e := l) (by rw [hH]; exact trivial) (.inl rfl) (fun b' u hb hu => (Heap.get?_update_other s.heap (Obj.mapSeq f) (Ne.symm hb)).trans hu) ⟨_, q⟩ ?_
  exact ⟨hz, its', _, hv, q⟩
theorem Inv.lnew {its : List Value} {t' : Nat} (I : Inv X pins σ H s) (hv : Vals ys its) (hz : ys.length ≤ sizeLine) :
    Inv X pins σ (upd H s.heap.objs.size (.lst ys)) { s with heap := s.heap.push { cls := .type "list", data := .seq its.toArray }, toks := t' } :=
  I.laid (fun _ _ q => Heap.get?_push_of_some _ q) (Nat.le_refl _) ⟨hz, its, 0, hv, Heap.get?_push_size _ rfl⟩
theorem Inv.fresh (I : Inv X pins σ H s) : H s.heap.objs.size = none := I.hok.fresh (Nat.le_refl _)
theorem Inv.lstM (I : Inv X pins σ H s) (hH : H l = some (.lst xs)) : xs.length ≤ sizeLine ∧ ∃ (its : List Value) (n : Nat), Vals xs its ∧ xs.length = its.length ∧ s.heap.get? l = some { cls := .type "list", data := .seq its.toArray n } := by
  obtain ⟨z, its, n, r, e⟩ := I.hok l _ hH
  exact ⟨z, its, n, r, r.length, e⟩
theorem notLongL {n : Nat} (h : n ≤ sizeLine) : Builtin.List.listTooLong n = false := by
  unfold Builtin.List.listTooLong
  exact decide_eq_false (by omega)
end
section
variable {X : Cx}
noncomputable def rAppend : V → List V → Hp → VK → Prop := fun x vs H Q => ∃ l xs y, x = .ref l ∧ vs = [y] ∧ H l = some (.lst xs) ∧ xs.length < sizeLine ∧ Q .non (upd H l (.lst (xs ++ [y])))
theorem mt_append : MtM X "list.append" rAppend := by
  intro pins s σ H x vs v us Q I rx rv h
  obtain ⟨l, xs, y, rfl, rfl, hH, hz, q⟩ := h
  cases rx
  obtain ⟨u, rfl, ru⟩ := rv.one
  obtain ⟨z, its, n, r, hl, e⟩ := I.lstM hH
  refine call_meets F.slot_list_append ⟨_, e, rfl⟩ F.entry_list_append (F.args_list_append_2 _ _) (PySem.list_append l its.toArray n u (by rw [List.size_toArray]; omega)) ⟨e, ?_⟩
  refine ⟨.non, _, I.lset (its' := its ++ [u]) hH e (by simp) (r.append (.cons ru .nil)) ?_, rfl, q⟩
  rw [List.length_append, List.length_singleton]
  omega
noncomputable def rExtend : V → List V → Hp → VK → Prop := fun x vs H Q => ∃ l b xs zs, x = .ref l ∧ vs = [.ref b] ∧ H l = some (.lst xs) ∧ H b = some (.lst zs) ∧ xs.length + zs.length ≤ sizeLine ∧ Q .non (upd H l (.lst (xs ++ zs)))
theorem mt_extend : MtM X "list.extend" rExtend := by
  intro pins s σ H x vs v us Q I rx rv h
  obtain ⟨l, b, xs, zs, rfl, rfl, hH, hB, hz, q⟩ := h
  cases rx
  obtain ⟨u, rfl, ru⟩ := rv.one
  cases ru
  obtain ⟨z, its, n, r, hl, e⟩ := I.lstM hH
  obtain ⟨z2, its2, n2, r2, hl2, e2⟩ := I.lstM hB
  have hsz : its.toArray.size + its2.toArray.size ≤ sizeLine := by rw [List.size_toArray, List.size_toArray]; omega
  have hlong : ¬ (!its.toArray.isEmpty && Builtin.List.listTooLong (its.toArray.size + its2.toArray.size)) = true := by
    rw [notLongL hsz, Bool.and_false]
    exact Bool.false_ne_true
  refine call_meets F.slot_list_extend ⟨_, e, rfl⟩ F.entry_list_extend (F.args_list_extend_2 _ _)
    (AutoSeq1.list_extend_list_list_0 l its.toArray n b its2.toArray n2 hlong (by rw [List.size_toArray]; omega) (by omega)) ⟨e, e2, ?_⟩
  refine ⟨.non, _, I.lset (its' := its ++ its2) hH e (by simp) (r.append r2) ?_, rfl, q⟩
  rw [List.length_append]
  omega
noncomputable def rCat : R2 := fun x y H Q => ∃ l b xs zs, x = .ref l ∧ y = .ref b ∧ H l = some (.lst xs) ∧ H b = some (.lst zs) ∧ xs.length + zs.length ≤ sizeLine ∧ ∀ p, H p = none → Q (.ref p) (upd H p (.lst (xs ++ zs)))
theorem op_cat : OpR X (binaryOp .Add) rCat := by
  intro pins s σ H x y v u Q I rx ry h
  obtain ⟨l, b, xs, zs, rfl, rfl, hH, hB, hz, q⟩ := h
  cases rx
  cases ry
  obtain ⟨z, its, n, r, hl, e⟩ := I.lstM hH
  obtain ⟨z2, its2, n2, r2, hl2, e2⟩ := I.lstM hB
  refine PySem.P.add_list e e2 ?_ (by rw [List.size_toArray, List.size_toArray]; omega)
  have ea : its.toArray ++ its2.toArray = (its ++ its2).toArray := by simp
  rw [ea]
  exact ⟨.ref _, _, I.lnew (t' := s.toks) (r.append r2) (by rw [List.length_append]; omega), rfl, q _ I.fresh⟩
end
section
variable {prog : Program} {w : World} {A : Around} {E : Value → Shared → Prop} {s : Shared}
end
section
variable {X : Cx}
end
end L2
namespace L2
open PySem PySem.Spec PyProof.Rows
theorem Vals.ints : ∀ {ns : List Int} {us : List Value}, Vals (ns.map V.int) us → IntsAre us ns
  | [], us, h => by
    rw [List.map_nil] at h
    cases h
    exact IntsAre.nil
  | n :: ns, us, h => by
    rw [List.map_cons] at h
    cases h with
    | cons r t =>
      obtain ⟨k, rfl⟩ := r
      exact IntsAre.cons n k (Vals.ints t)
theorem Vals.bls : ∀ {bs : List Bool} {us : List Value}, Vals (bs.map V.bl) us → us = bs.map Value.bool
  | [], us, h => by
    rw [List.map_nil] at h
    cases h
    rfl
  | b :: bs, us, h => by
    rw [List.map_cons] at h
    cases h with
    | cons r t =>
      cases r
      rw [Vals.bls t, List.map_cons]
theorem Vals.ref1 {a : Addr} {us : List Value} (r : Vals [V.ref a] us) : us = [Value.ref a] := by
  cases r with
  | cons r t =>
    cases t
    cases r
    rfl
section
variable {prog : Program} {w : World} {A : Around} {E : Value → Shared → Prop} {s : Shared} {l : Addr} {its : List Value} {ns : List Int} {Q : Value → Shared → Prop}
theorem sum_raw (hh : A.handled = none) (hl : s.heap.IsList l its.toArray) (hi : IntsAre its ns)
    (h : ∀ h' tk t', (∀ b o, s.heap.get? b = some o → h'.get? b = some o) → Q (.int ns.sum t') { s with heap := h', toks := tk }) : wpAny (model prog w) A (call (.builtin "sum") [.ref l]) Q E s := by
  obtain ⟨xs, e⟩ := hi.allInts.items
  have hn : numsOf (intItems xs).toList = ns := by rw [← e]; exact hi.numsOf
  rw [nums_intItems] at hn
  rw [e] at hl
  refine PySem.sum_intListG hh hl fun h' tk t' hk => ?_
  have := h h' tk t' hk
  rw [preSum_eq, List.take_of_length_le (by simp), hn]; exact this
end
section
variable {X : Cx}
noncomputable def rSum (K : PySem.W.Frag) : List V → Hp → VK → Prop := fun vs H Q => ∃ (a : Addr) (ns : List Int), vs = [V.ref a] ∧ SqL K H a (ns.map V.int) ∧ Q (.int ns.sum) H
theorem cr_sum (hc : X.calm = true) : CallR X (.builtin "sum") (rSum X.K) := by
  intro pins s σ H vs us Q I r h
  obtain ⟨a, ns, rfl, hs, q⟩ := h
  obtain ⟨its, rv, hl, _⟩ := I.list hs
  rw [Vals.ref1 r]
  exact sum_raw (I.ok.hd hc) hl.isList rv.ints fun h' tk t' hk => ⟨.int _, H, I.kept hk, ⟨_, rfl⟩, q⟩
end
section
variable {X : Cx}
noncomputable def rIndex (K : PySem.W.Frag) : V → List V → Hp → VK → Prop := fun x xs H Q => ∃ (a : Addr) (ys : List V) (y : V) (j : Nat) (z : V), x = V.ref a ∧ xs = [y] ∧ SqL K H a ys ∧ flatV y = true ∧ ys.all flatV = true ∧ ys[j]? = some z ∧ eqV z y = true ∧
  (∀ (m : Nat) (z' : V), m < j → ys[m]? = some z' → eqV z' y = false) ∧ Q (.int (j : Nat)) H
theorem flat_at {ys : List V} (f : ys.all flatV = true) {j : Nat} {z : V} (h : ys[j]? = some z) : flatV z = true := List.all_eq_true.mp f z (List.mem_of_getElem? h)
theorem mt_index : MtR X "list.index" (rIndex X.K) := by
  intro pins s σ H x xs v us Q I rx rxs h
  obtain ⟨a, ys, y, j, z, rfl, rfl, hs, fy, fys, hz, hzj, hno, q⟩ := h
  cases rx
  cases rxs with
  | cons ry rt =>
    rename_i uy ut
    cases rt
    obtain ⟨its, rv, ⟨⟨cls, dd, data, sl⟩, n, ho, hc, hdn, hd⟩, hlen⟩ := I.list hs
    simp only at hc hd
    subst hc hd
    obtain ⟨u, hu, ru⟩ := rv.get hz
    obtain ⟨hjl, hje⟩ := List.getElem?_eq_some_iff.mp hu
    have hvl := rv.length
    have hj : j < its.toArray.size := by simpa using hjl
    have hsl := sizeLine_eq
    refine call_meets PySem.F.slot_list_index ⟨_, ho, rfl⟩ PySem.F.entry_list_index (PySem.F.args_list_index_2 _ _)
      (SeqAt.list_indexAt a its.toArray n dd sl uy (eqU y) j hj (by omega) ?_ ?_) ⟨ho, fun u' hu' => mem_eqAt ry fy rv fys u' (by simpa using hu'), ?_⟩
    · have e1 : its.toArray[j] = u := by simpa using hje
      rw [e1, eqU_of ru (flat_at fys hz)]
      exact hzj
    · intro m hm hmj
      have hml : m < its.length := by simpa using hm
      have hmy : m < ys.length := by omega
      have hy' : ys[m]? = some ys[m] := List.getElem?_eq_getElem hmy
      obtain ⟨u2, hu2, ru2⟩ := rv.get hy'
      obtain ⟨_, hme⟩ := List.getElem?_eq_some_iff.mp hu2
      have e1 : its.toArray[m] = u2 := by simpa using hme
      rw [e1, eqU_of ru2 (flat_at fys hy')]
      exact hno m _ hmj hy'
    · exact ⟨.int (j : Nat), H, I.tok _, ⟨_, rfl⟩, q⟩
end
section
variable {X : Cx}
end
theorem iter_any {prog : Program} {w : World} {A : Around} {E : Value → Shared → Prop} {s : Shared} {l : Addr} {items : Array Value} {Q : Value → Shared → Prop} (hl : s.heap.IsList l items)
    (h : ∀ s₂ : Shared, s₂ = { s with heap := s.heap.push { cls := .type "list_iterator", data := .fields #[.ref l, .int 0 0] } } →
      (s₂.heap.IsListIter s.heap.objs.size l 0 ∧ s₂.heap.IsList l items) → l ≠ s.heap.objs.size → Q (.ref s.heap.objs.size) s₂) : wpAny (model prog w) A (pyIter (.ref l)) Q E s := by
  have hlt : l < s.heap.objs.size := by obtain ⟨_, e, _⟩ := hl; exact Heap.lt_size e
  exact wpAny_pyIter_list hl (h _ rfl ⟨⟨_, Heap.get?_push_size _ rfl, rfl, rfl⟩, hl.push _⟩ (Nat.ne_of_lt hlt))
theorem truth_bools {prog : Program} {w : World} {A : Around} {bs : List Bool} {its : List Value} (e : its = bs.map Value.bool) :
    TruthOf prog w A (fun i v => its.toArray[i]? = some v) (fun i => bs.getD i false) := fun i v s Q E hv hq => by
  have hv' : its[i]? = some v := by simpa using hv
  rw [e, List.getElem?_map] at hv'
  obtain ⟨b, hb, rfl⟩ := Option.map_eq_some_iff.mp hv'
  have hg : bs.getD i false = b := by rw [List.getD_eq_getElem?_getD, hb] <;> rfl
  have hq' : Q (bs.getD i false) s := hq
  rw [hg] at hq'
  exact wpAny_truthy_bool hq'
theorem any_range : ∀ bs : List Bool, (List.range bs.length).any (fun i => bs.getD i false) = bs.any id
  | [] => rfl
  | b :: bs => by
    rw [List.length_cons, List.range_succ_eq_map, List.any_cons, List.any_map, List.any_cons, ← any_range bs]
    all_goals rfl
section
variable {X : Cx}
noncomputable def rAny (K : PySem.W.Frag) : List V → Hp → VK → Prop := fun vs H Q => ∃ (a : Addr) (bs : List Bool), vs = [V.ref a] ∧ SqL K H a (bs.map V.bl) ∧ Q (.bl (bs.any id)) H
theorem cr_any (hc : X.calm = true) : CallR X (.builtin "any") (rAny X.K) := by
  intro pins s σ H vs us Q I r h
  obtain ⟨a, bs, rfl, hs, q⟩ := h
  obtain ⟨its, rv, hl, _⟩ := I.list hs
  rw [Vals.ref1 r]
  have hb := rv.bls
  refine call_any_walk (iter_any hl.isList fun s₂ e2 st hne => ?_)
  subst e2
  refine ⟨_, _, _, _, _, _, _, rfl, Walks.list (A := X.A.in1) (I.ok.hd hc) _ a hne its.toArray, st, truth_bools hb, fun h' tk hk => ?_⟩
  refine ⟨.bl _, H, I.kept fun b o eo => hk b o (fun hmem => ?_) (Heap.get?_push_of_some _ eo), ?_, q⟩
  · rcases List.mem_cons.mp hmem with e1 | hmem
    · exact absurd (e1 ▸ Heap.lt_size eo) (Nat.lt_irrefl _)
    · cases hmem
  · show Value.bool _ = Value.bool _
    rw [← any_range, hb, List.size_toArray, List.length_map]
end
mutual
inductive Dp (K : PySem.W.Frag) (H : Hp) : V → PyData → Prop
  | non : Dp K H .non .none
  | bl (b : Bool) : Dp K H (.bl b) (.bool b)
  | int (i : Int) : Dp K H (.int i) (.int i)
  | str (x : Str) : Dp K H (.str x) (.str x)
  | lst {a : Addr} {xs : List V} {ds : List PyData} : SqL K H a xs → DpAll K H xs ds → Dp K H (.ref a) (.list ds)
  | tup {a : Addr} {xs : List V} {ds : List PyData} : SqT K H a xs → DpAll K H xs ds → Dp K H (.ref a) (.tuple ds)
inductive DpAll (K : PySem.W.Frag) (H : Hp) : List V → List PyData → Prop
  | nil : DpAll K H [] []
  | cons {v : V} {vs : List V} {d : PyData} {ds : List PyData} : Dp K H v d → DpAll K H vs ds → DpAll K H (v :: vs) (d :: ds)
end
section
variable {X : Cx} {pins : List (Addr × Obj)} {σ : St} {H : Hp} {s : Shared}
end
section
variable {X : Cx}
end
end L2
namespace L2
open PySem PySem.Spec PyProof.Rows
noncomputable abbrev CellAt (h : Heap) (c : Addr) (v : Option Value) : Prop := h.IsCell c v
noncomputable def relS (scope sc : Scope) : Scope :=
  { scope with names := scope.names.map fun (n, k) => if (k == .free && sc.kind == .function && sc.names.lookup n == some .cell) then (n, .cell) else (n, k) }
noncomputable def cloFrom (cells : List (Str × Addr)) : List (Str × NameKind) → List (Str × Addr) → List (Str × Addr)
  | [], acc => acc
  | (n, k) :: r, acc => if k == .free then cloFrom cells r ((n, (cells.lookup n).getD 0) :: acc) else cloFrom cells r acc
theorem closure_loop (env : Env) (f : Str × NameKind → List (Str × Addr) → Sem (ForInStep (List (Str × Addr))))
    (hf : ∀ n k c, f (n, k) c = if k == .free then (do let a ← cellOf env n; pure (.yield ((n, a) :: c))) else pure (.yield c)) :
    ∀ (names : List (Str × NameKind)) (acc : List (Str × Addr)), (∀ y ∈ names, y.2 = .free → ∃ c, env.cells.lookup y.1 = some c) → forIn names acc f = pure (cloFrom env.cells names acc)
  | [], acc, _ => by rw [List.forIn_nil]; rfl
  | (n, k) :: r, acc, h => by
    rw [List.forIn_cons, hf]
    have ih := fun acc => closure_loop env f hf r acc fun y hy => h y (List.mem_cons_of_mem _ hy)
    unfold cloFrom
    by_cases hk : (k == NameKind.free) = true
    · rw [if_pos hk, if_pos hk]
      obtain ⟨c, hc⟩ := h (n, k) List.mem_cons_self (by simpa using hk)
      have e : cellOf env n = pure c := by unfold cellOf; rw [hc]
      rw [e]
      have e2 : (env.cells.lookup n).getD 0 = c := by rw [hc]; rfl
      rw [e2]
      exact ih _
    · rw [if_neg hk, if_neg hk]
      exact ih _
theorem closure_ok {scope : Scope} {env : Env} (h : ∀ y ∈ scope.names, y.2 = .free → ∃ c, env.cells.lookup y.1 = some c) : closureFor scope env = pure (cloFrom env.cells scope.names []) := by
  simp only [closureFor]
  rw [closure_loop env _ (fun n k c => rfl) scope.names [] h]
  rfl
theorem mem_lookup {α : Type} : ∀ {l : List (Str × α)} {n : Str} {c : α}, (n, c) ∈ l → ∃ c', l.lookup n = some c'
  | (k, v) :: r, n, c, h => by
    rw [List.lookup_cons]
    cases hb : n == k with
    | true => exact ⟨_, rfl⟩
    | false =>
      rcases List.mem_cons.mp h with e | h
      · cases e; simp at hb
      · exact mem_lookup h
theorem cloFrom_mem {cells : List (Str × Addr)} : ∀ {names : List (Str × NameKind)} {acc : List (Str × Addr)} {n : Str} {c : Addr}, (n, c) ∈ cloFrom cells names acc → (n, c) ∈ acc ∨ ((n, .free) ∈ names ∧ c = (cells.lookup n).getD 0)
  | [], _, _, _, h => .inl h
  | (m, k) :: r, acc, n, c, h => by
    unfold cloFrom at h
    split at h
    · rename_i hk
      have hk : k = .free := by simpa using hk
      rcases cloFrom_mem h with h | ⟨h1, h2⟩
      · rcases List.mem_cons.mp h with e | h
        · cases e; exact .inr ⟨hk ▸ List.mem_cons_self, rfl⟩
        · exact .inl h
      · exact .inr ⟨List.mem_cons_of_mem _ h1, h2⟩
    · rcases cloFrom_mem h with h | ⟨h1, h2⟩
      · exact .inl h
      · exact .inr ⟨List.mem_cons_of_mem _ h1, h2⟩
theorem cloFrom_acc {cells : List (Str × Addr)} : ∀ {names : List (Str × NameKind)} {acc : List (Str × Addr)} {p : Str × Addr}, p ∈ acc → p ∈ cloFrom cells names acc
  | [], _, _, h => h
  | (m, k) :: r, acc, p, h => by
    unfold cloFrom
    split
    · exact cloFrom_acc (List.mem_cons_of_mem _ h)
    · exact cloFrom_acc h
theorem cloFrom_has {cells : List (Str × Addr)} : ∀ {names : List (Str × NameKind)} {acc : List (Str × Addr)} {n : Str}, (n, .free) ∈ names → (n, (cells.lookup n).getD 0) ∈ cloFrom cells names acc
  | (m, k) :: r, acc, n, h => by
    unfold cloFrom
    rcases List.mem_cons.mp h with e | h
    · cases e
      exact cloFrom_acc List.mem_cons_self
    · split
      · exact cloFrom_has h
      · exact cloFrom_has h
theorem cells_mem : ∀ {names : List (Str × NameKind)} {h : Heap} {acc : List (Str × Addr)} {x : Str} {c : Addr}, (x, c) ∈ cellsFrom h.objs.size names acc →
    (x, c) ∈ acc ∨ ((x, .cell) ∈ names ∧ h.objs.size ≤ c ∧ CellAt (pushCells h names) c none)
  | [], _, _, _, _, h => .inl h
  | (n, k) :: r, h, acc, x, c, hm => by
    unfold cellsFrom at hm
    unfold pushCells
    split at hm
    · rename_i hk
      rw [if_pos hk]
      have hk : k = .cell := by simpa using hk
      rw [← Heap.size_push h { cls := .type "cell", data := .cell none }] at hm
      rcases cells_mem hm with hm | ⟨h1, h2, h3⟩
      · rcases List.mem_cons.mp hm with e | hm
        · cases e
          exact .inr ⟨hk ▸ List.mem_cons_self, Nat.le_refl _, _, pushCells_keeps r _ _ _ (Heap.get?_push_size _ rfl), rfl⟩
        · exact .inl hm
      · rw [Heap.size_push] at h2
        exact .inr ⟨List.mem_cons_of_mem _ h1, Nat.le_of_succ_le h2, h3⟩
    · rename_i hk
      rw [if_neg hk]
      rcases cells_mem hm with hm | ⟨h1, h2, h3⟩
      · exact .inl hm
      · exact .inr ⟨List.mem_cons_of_mem _ h1, h2, h3⟩
theorem cells_acc : ∀ {names : List (Str × NameKind)} {n : Nat} {acc : List (Str × Addr)} {p : Str × Addr}, p ∈ acc → p ∈ cellsFrom n names acc
  | [], _, _, _, h => h
  | (m, k) :: r, n, acc, p, h => by
    unfold cellsFrom
    split
    · exact cells_acc (List.mem_cons_of_mem _ h)
    · exact cells_acc h
theorem cells_has : ∀ {names : List (Str × NameKind)} {n : Nat} {acc : List (Str × Addr)} {x : Str}, (x, .cell) ∈ names → ∃ c, (x, c) ∈ cellsFrom n names acc
  | (m, k) :: r, n, acc, x, h => by
    unfold cellsFrom
    rcases List.mem_cons.mp h with e | h
    · cases e
      exact ⟨n, cells_acc List.mem_cons_self⟩
    · split
      · exact cells_has h
      · exact cells_has h
theorem cells_inj : ∀ {names : List (Str × NameKind)} {h : Heap} {acc : List (Str × Addr)} {x y : Str} {c : Addr}, (∀ p ∈ acc, p.2 < h.objs.size) → (∀ x y c, (x, c) ∈ acc → (y, c) ∈ acc → x = y) →
    (x, c) ∈ cellsFrom h.objs.size names acc → (y, c) ∈ cellsFrom h.objs.size names acc → x = y
  | [], _, _, _, _, _, _, hi, h1, h2 => hi _ _ _ h1 h2
  | (n, k) :: r, h, acc, x, y, c, hl, hi, h1, h2 => by
    unfold cellsFrom at h1 h2
    split at h1
    · rename_i hk
      rw [if_pos hk] at h2
      rw [← Heap.size_push h { cls := .type "cell", data := .cell none }] at h1 h2
      refine cells_inj (h := h.push _) (fun p hp => ?_) (fun x y c a b => ?_) h1 h2
      · rw [Heap.size_push]
        rcases List.mem_cons.mp hp with rfl | hp
        · exact Nat.lt_succ_self _
        · exact Nat.lt_succ_of_lt (hl p hp)
      · rcases List.mem_cons.mp a with e | a <;> rcases List.mem_cons.mp b with e' | b
        · cases e; cases e'; rfl
        · cases e; exact absurd (hl _ b) (Nat.lt_irrefl _)
        · cases e'; exact absurd (hl _ a) (Nat.lt_irrefl _)
        · exact hi _ _ _ a b
    · rename_i hk
      rw [if_neg hk] at h2
      exact cells_inj hl hi h1 h2
theorem newEnv_comp {M : Model} {A : Around} {E : Value → Shared → Prop} {s : Shared} {scope : Scope} {globals : Addr} {closure : List (Str × Addr)} {qual : Str} {func : Option Addr} {code : Value} {around : Env} {builtins : Addr} {Q : Env → Shared → Prop}
    (h : Q (newEnv scope s.heap.objs.size globals (cellsFrom (s.heap.objs.size + 1) scope.names closure) qual func code (some around) builtins)
      { s with heap := pushCells (s.heap.push { cls := .type "dict", data := .dict #[] }) scope.names }) :
    wpAny M A (newFunctionEnv scope globals closure [] qual func code (some around) builtins) Q E s := by
  simp only [newFunctionEnv, Option.isSome_some, if_true]
  refine wpAny_bind (wpAny_alloc ?_)
  refine wpAny_bind (wpAny_layCells _ (fun n k c => rfl) scope.names closure _ _ ?_)
  rw [show ({ s with heap := s.heap.push { cls := .type "dict", data := .dict #[] } } : Shared).heap.objs.size = s.heap.objs.size + 1 from Heap.size_push ..]
  rw [List.forIn_nil]
  exact wpAny_bind (wpAny_pure (wpAny_pure h))
theorem lookup_relS {sc : Scope} : ∀ {names : List (Str × NameKind)} {x : Str} {k : NameKind},
    (names.map fun (n, k) => if (k == NameKind.free && sc.kind == .function && sc.names.lookup n == some .cell) then (n, NameKind.cell) else (n, k)).lookup x = some k →
    ∃ k', names.lookup x = some k' ∧ (k = k' ∨ (k' = .free ∧ k = .cell))
  | [], _, _, h => by simp at h
  | (n, k₀) :: r, x, k, h => by
    have ih := @lookup_relS sc r x k
    have h' : List.lookup x ((if (k₀ == NameKind.free && sc.kind == .function && sc.names.lookup n == some .cell) = true then (n, NameKind.cell) else (n, k₀)) :: (r.map _)) = some k := h
    cases hx : x == n with
    | true =>
      simp only [List.lookup_cons, hx]
      by_cases hc : (k₀ == NameKind.free && sc.kind == .function && sc.names.lookup n == some .cell) = true
      · rw [if_pos hc] at h'
        simp only [List.lookup_cons, hx] at h'
        cases h'
        simp only [Bool.and_eq_true, beq_iff_eq] at hc
        exact ⟨k₀, rfl, .inr ⟨hc.1.1, rfl⟩⟩
      · rw [if_neg hc] at h'
        simp only [List.lookup_cons, hx] at h'
        cases h'
        exact ⟨_, rfl, .inl rfl⟩
    | false =>
      simp only [List.lookup_cons, hx]
      by_cases hc : (k₀ == NameKind.free && sc.kind == .function && sc.names.lookup n == some .cell) = true
      · rw [if_pos hc] at h'
        simp only [List.lookup_cons, hx] at h'
        exact ih h'
      · rw [if_neg hc] at h'
        simp only [List.lookup_cons, hx] at h'
        exact ih h'
structure BlkOk (N : List Str) (sc scope : Scope) (own : List (Str × Nat)) : Prop where
  kind : scope.kind = .function
  uniq : ∀ y ∈ scope.names, scope.names.lookup y.1 = some y.2
  ix : ∀ p ∈ own, N[p.2]? = some p.1
  free : ∀ y ∈ scope.names, y.2 = .free → sc.names.lookup y.1 = some .cell ∨ sc.names.lookup y.1 = some .free
  own : ∀ y ∈ scope.names, y.2 = .local ∨ y.2 = .cell → y.1 ∈ own.map (·.1) ∨ y.1 ∉ N
noncomputable def wipe (σ : St) : List Nat → St
  | [] => σ
  | v :: vs => (wipe σ vs).set v none
theorem wipe_length (σ : St) : ∀ vs : List Nat, (wipe σ vs).length = σ.length
  | [] => rfl
  | v :: vs => by unfold wipe; rw [List.length_set, wipe_length σ vs]
theorem wipe_some {σ : St} {i : Nat} {x : V} : ∀ {vs : List Nat}, (wipe σ vs)[i]? = some (some x) → σ[i]? = some (some x) ∧ i ∉ vs
  | [], h => ⟨h, by simp⟩
  | v :: vs, h => by
    unfold wipe at h
    by_cases hi : v = i
    · subst hi
      by_cases hv : v < (wipe σ vs).length
      · rw [List.getElem?_set_self hv] at h; cases h
      · rw [List.getElem?_eq_none (by simpa using hv)] at h; cases h
    · rw [List.getElem?_set_ne hi] at h
      obtain ⟨h1, h2⟩ := wipe_some h
      exact ⟨h1, by simp only [List.mem_cons, not_or]; exact ⟨fun e => hi e.symm, h2⟩⟩
noncomputable abbrev Cx.blk (X : Cx) (s : Shared) (H : Hp) (scope : Scope) (cenv : Env) (fp : List Addr) : Cx := { X with s_0 := s, H_0 := H, env := cenv, outer := X.stack, ex := fp, fn := fun x => scope.names.lookup x == some .cell, pn := [], xe := fun _ _ => False }
section
variable {X : Cx} {pins : List (Addr × Obj)} {σ : St} {H : Hp} {s : Shared}
theorem block_start {scope : Scope} {own : List (Str × Nat)} {fp : List Addr} (I : Inv X pins σ H s) (ok : BlkOk X.N X.env.scope scope own) (hN : X.N.Nodup) (hfp : ∀ b ∈ fp, FpOk X pins H b ∧ b < s.heap.objs.size) :
    Inv (X.blk s H scope (compEnvC scope (cellsFrom (s.heap.objs.size + 1) scope.names (cloFrom X.env.cells scope.names [])) s.heap.objs.size X.env) fp) [] (wipe σ (own.map (·.2))) H { s with heap := pushCells (s.heap.push { cls := .type "dict", data := .dict #[] }) scope.names } := by
  have hfree : ∀ y ∈ scope.names, y.2 = .free → ∃ c, X.env.cells.lookup y.1 = some c := fun y hy e => by
    rcases ok.free y hy e with k | k
    · exact I.ok.has _ (.inl k)
    · exact I.ok.has _ (.inr k)
  generalize hcenv : compEnvC scope (cellsFrom (s.heap.objs.size + 1) scope.names (cloFrom X.env.cells scope.names [])) s.heap.objs.size X.env = cenv
  have kp : ∀ b o, s.heap.get? b = some o → (pushCells (s.heap.push { cls := .type "dict", data := .dict #[] }) scope.names).get? b = some o := fun b o e => pushCells_keeps _ _ _ _ (Heap.get?_push_of_some _ e)
  have hL : cenv.locals = s.heap.objs.size := by rw [← hcenv]; rfl
  have hcl : cenv.cells = cellsFrom (s.heap.objs.size + 1) scope.names (cloFrom X.env.cells scope.names []) := by rw [← hcenv]; rfl
  have hsc : cenv.scope = relS scope X.env.scope := by rw [← hcenv]; rfl
  rw [← Heap.size_push s.heap { cls := .type "dict", data := .dict #[] }] at hcl
  have cm : ∀ {y c}, (y, c) ∈ cloFrom X.env.cells scope.names [] → X.env.cells.lookup y = some c ∧ c < s.heap.objs.size := fun {y c} hm => by
    rcases cloFrom_mem hm with hm | ⟨h1, rfl⟩
    · cases hm
    · obtain ⟨c, hc⟩ := hfree _ h1 rfl
      rw [hc]
      obtain ⟨w, z⟩ := I.cell _ _ hc
      exact ⟨rfl, z.lt⟩
  have mem : ∀ {y c}, cenv.cells.lookup y = some c → (X.env.cells.lookup y = some c ∧ c < s.heap.objs.size) ∨ (s.heap.objs.size + 1 ≤ c ∧ CellAt (pushCells (s.heap.push { cls := .type "dict", data := .dict #[] }) scope.names) c none) := fun {y c} e => by
    rw [hcl] at e
    rcases cells_mem (PySem.mem_of_lookup e) with hm | ⟨_, h2, h3⟩
    · exact .inl (cm hm)
    · rw [Heap.size_push] at h2; exact .inr ⟨h2, h3⟩
  have look : ∀ {y}, scope.names.lookup y = some .free → ∃ c, cenv.cells.lookup y = some c ∧ X.env.cells.lookup y = some c := fun {y} hl => by
    have hy : (y, NameKind.free) ∈ scope.names := PySem.mem_of_lookup hl
    obtain ⟨c', e'⟩ := mem_lookup (cells_acc (names := scope.names) (n := (s.heap.push { cls := .type "dict", data := .dict #[] }).objs.size) (cloFrom_has (cells := X.env.cells) (acc := []) hy))
    rw [← hcl] at e'
    refine ⟨c', e', ?_⟩
    rw [hcl] at e'
    rcases cells_mem (PySem.mem_of_lookup e') with hm | ⟨h1, _, _⟩
    · exact (cm hm).1
    · have := ok.uniq _ h1
      rw [hl] at this; cases this
  have okB : (X.blk s H scope cenv fp).Ok := by
    refine ⟨I.ok.mod, by show cenv.scope.kind = _; rw [hsc]; exact ok.kind, by show cenv.globals = _; rw [← hcenv]; exact I.ok.glob, by show cenv.builtins = _; rw [← hcenv]; exact I.ok.blt, by show s.heap.objs.size ≤ cenv.locals; rw [hL]; exact Nat.le_refl _,
      fun y z c e1 e2 => ?_, fun y hy => ?_, fun y c z e => ?_, I.ok.hd, I.ok.frames, .inl rfl, fun b hb => ⟨?_, fun y c e z => ?_⟩, I.bs, Nat.le_trans I.ok.bsz I.sz, fun b o e hb => ?_, fun b hb z => ?_, I.stack, I.stkFree⟩
    · have e1 : cenv.cells.lookup y = some c := e1
      have e2 : cenv.cells.lookup z = some c := e2
      rw [hcl] at e1 e2
      refine cells_inj (fun p hp => ?_) (fun y z c a b => I.ok.inj y z c (cm a).1 (cm b).1) (PySem.mem_of_lookup e1) (PySem.mem_of_lookup e2)
      rw [Heap.size_push]
      exact Nat.lt_succ_of_lt (cm (y := p.1) (c := p.2) hp).2
    · show ∃ c, cenv.cells.lookup y = some c
      have key : ∀ k, cenv.kindOf y = some k → (k = .cell ∨ k = .free) → ∃ c, cenv.cells.lookup y = some c := fun k hk hk' => by
        unfold Env.kindOf at hk
        rw [hsc] at hk
        obtain ⟨k', e, r⟩ := lookup_relS hk
        have : k' = .cell ∨ k' = .free := by
          rcases r with rfl | ⟨rfl, _⟩
          · exact hk'
          · exact .inr rfl
        rcases this with rfl | rfl
        · obtain ⟨c, hm⟩ := cells_has (n := (s.heap.push { cls := .type "dict", data := .dict #[] }).objs.size) (acc := cloFrom X.env.cells scope.names []) (PySem.mem_of_lookup e)
          obtain ⟨c', e'⟩ := mem_lookup hm
          exact ⟨c', by rw [hcl]; exact e'⟩
        · obtain ⟨c, h1, _⟩ := look e
          exact ⟨c, h1⟩
      rcases hy with hy | hy
      · exact key _ hy (.inl rfl)
      · exact key _ hy (.inr rfl)
    · have z : (scope.names.lookup y == some NameKind.cell) = true := z
      have z : scope.names.lookup y = some .cell := by simpa using z
      have e : cenv.cells.lookup y = some c := e
      rw [hcl] at e
      rcases cells_mem (PySem.mem_of_lookup e) with hm | ⟨_, h2, _⟩
      · rcases cloFrom_mem hm with hm | ⟨h1, _⟩
        · cases hm
        · have q := ok.uniq _ h1
          rw [z] at q; cases q
      · rw [Heap.size_push] at h2
        exact Nat.le_of_succ_le h2
    · show b ≠ cenv.locals
      rw [hL]; exact Nat.ne_of_lt (hfp b hb).2
    · have e : cenv.cells.lookup y = some c := e
      rcases mem e with ⟨h1, _⟩ | ⟨h1, _⟩
      · exact (hfp b hb).1.2.2.2.2.1 y c h1 z
      · have h2 : s.heap.objs.size + 1 ≤ b := by rw [← z]; exact h1
        exact absurd (Nat.lt_of_lt_of_le (hfp b hb).2 (Nat.le_of_succ_le h2)) (Nat.lt_irrefl _)
    · rcases (hfp b hb).1.2.2.2.1 with z | z
      · exact I.ok.noex b o e z
      · exact absurd (Nat.lt_of_lt_of_le (Heap.lt_size e) (Nat.le_trans I.ok.bsz z)) (Nat.lt_irrefl _)
    · rcases List.mem_cons.mp (I.stkSub b z) with z | z
      · exact (hfp b hb).1.2.1 z
      · exact (hfp b hb).1.2.2.1 z
  refine ⟨okB, rfl, I.bare, Un.kept kp, ⟨fun _ => none, ?_, fun i y av e1 e2 e3 => ?_⟩, fun y c e => ?_, ?_, fun y c e => ?_, fun p hp => ?_, I.hok.kept kp, by rw [wipe_length]; exact I.len⟩
  · show Heap.Ns _ cenv.locals _
    rw [hL]
    exact Heap.Ns.keeps (Heap.Ns.new ..) fun b o e => pushCells_keeps _ _ _ _ e
  · obtain ⟨e2, hne⟩ := wipe_some e2
    have hfr : scope.names.lookup y = some .free ∧ (cenv.kindOf y = some .cell ∨ cenv.kindOf y = some .free) := by
      have key : ∀ k, cenv.scope.names.lookup y = some k → k = .local ∨ k = .cell ∨ k = .free → scope.names.lookup y = some .free ∧ (cenv.kindOf y = some .cell ∨ cenv.kindOf y = some .free) := fun k hk hk' => by
        have hk0 := hk
        rw [hsc] at hk
        obtain ⟨k', e, r⟩ := lookup_relS hk
        have no : ¬ (k' = .local ∨ k' = .cell) := fun hh => by
          rcases ok.own _ (PySem.mem_of_lookup e) hh with e' | e'
          · obtain ⟨p, hp, hpy⟩ := List.mem_map.mp e'
            have e3 := ok.ix p hp
            have : p.1 = y := hpy
            rw [this] at e3
            exact hne (List.mem_map.mpr ⟨p, hp, nodup_ix hN e3 e1⟩)
          · exact e' (List.mem_of_getElem? e1)
        rcases r with rfl | ⟨rfl, rfl⟩
        · rcases hk' with rfl | rfl | rfl
          · exact absurd (.inl rfl) no
          · exact absurd (.inr rfl) no
          · exact ⟨e, .inr hk0⟩
        · exact ⟨e, .inl hk0⟩
      have e3 : Vis cenv.scope y := e3
      rcases e3 with e3 | e3 | e3
      · exact key _ e3 (.inl rfl)
      · exact key _ e3 (.inr (.inl rfl))
      · exact key _ e3 (.inr (.inr rfl))
    obtain ⟨m, hn, hl⟩ := I.loc
    have hvis : Vis X.env.scope y := (ok.free _ (PySem.mem_of_lookup hfr.1) rfl).elim (fun k => .inr (.inl k)) (fun k => .inr (.inr k))
    obtain ⟨w, r, q⟩ := hl i y av e1 e2 hvis
    refine ⟨w, r, .inr ⟨hfr.2, ?_⟩⟩
    obtain ⟨c, h1, h2⟩ := look hfr.1
    rcases q with ⟨k, _⟩ | ⟨_, c', e', z⟩
    · have k : X.env.scope.names.lookup y = some .local := k
      rcases ok.free _ (PySem.mem_of_lookup hfr.1) rfl with k' | k' <;> rw [show X.env.scope.names.lookup y = _ from k'] at k <;> cases k
    · rw [h2] at e'; cases e'
      exact ⟨c, h1, z.keeps kp⟩
  · have e : cenv.cells.lookup y = some c := e
    rcases mem e with ⟨h1, _⟩ | ⟨_, z⟩
    · obtain ⟨w, z⟩ := I.cell y c h1
      exact ⟨w, z.keeps kp⟩
    · exact ⟨_, z⟩
  · show H cenv.locals = none
    rw [hL]; exact I.hok.fresh (Nat.le_refl _)
  · have e : cenv.cells.lookup y = some c := e
    rcases mem e with ⟨h1, _⟩ | ⟨h1, _⟩
    · exact I.freeC y c h1
    · exact I.hok.fresh (Nat.le_of_succ_le h1)
  · exact absurd (show p ∈ ([] : List (Addr × Obj)) ++ [] from hp) (by simp)
theorem app_ok {E : Value → Shared → Prop} {D : Addr} {xs : List V} {y : V} {v : Value} {Q : Value → Shared → Prop} (I : Inv X pins σ H s) (hD : H D = some (.lst xs)) (hz : xs.length < sizeLine) (r : RelV y v)
    (h : ∀ s', Inv X pins σ (upd H D (.lst (xs ++ [y]))) s' → Q .none s') : wpAny (model X.prog X.w) X.A (call (.builtin "list.append") [.ref D, v]) Q E s := by
  obtain ⟨hz', its, n, ri, e⟩ := I.hok D _ hD
  have hl := ri.length
  refine append_at (hsz := by rw [List.size_toArray]; omega) e fun h' sb ho' => ?_
  refine h { s with heap := h' } (I.write (t' := s.toks) (by rw [hD]; trivial) (.inl rfl) (fun b u hb q => (sb.2 b hb).trans q) ⟨_, ho'⟩ ⟨by rw [List.length_append]; exact hz, its ++ [v], n + 1, ri.append (.cons r .nil), ?_⟩)
  rw [ho']
  simp
noncomputable def PTs (X : Cx) (ifs : List Expr) (t : TT) : Prop :=
  ∀ (pins : List (Addr × Obj)) (s : Shared) (σ : St) (H : Hp) (Q : Bool → Hp → Prop), Inv X pins σ H s → t σ H Q →
    wpAny (model X.prog X.w) X.A (forIn ifs true fun c r => if r = true then do let ok ← isTrue c X.env (eval c X.env); pure (ForInStep.yield ok) else pure (ForInStep.yield r)) (TP X pins σ Q) X.xe s
noncomputable def tYes : TT := fun _ H Q => Q true H
theorem pts_nil : PTs X [] tYes := fun _ _ _ H _ I h => wpAny_tests_nil ⟨H, I, h⟩
theorem pts_one {c : Expr} {t : TT} (h : PT X c t) : PTs X [c] t := fun pins s σ H Q I hw => wpAny_tests_one (h pins s σ H Q I hw)
end
theorem thnF {α : Type} {t : Sem α} {Q Q' : α → Shared → Prop} {M : Model} {A : Around} {E : Value → Shared → Prop} {s : Shared} (h : wpAny M A t Q (fun _ _ => False) s) (hQ : ∀ a s, Q a s → Q' a s) : wpAny M A t Q' E s := wpAny_mono h hQ fun _ _ z => False.elim z
theorem compLoop_any {prog : Program} {w : World} {A : Around} {R : Result → Shared → Prop} {s : Shared} {elt target iter : Expr} {ifs : List Expr} {scope : Scope} {pos : Pos} {it acc : Value} {env : Env} (I : Nat → Shared → Prop)
    (turn : ∀ n s, I n s → wpAny (model prog w) A (pyNext it) (fun r s₁ => match r with
      | none => R (.ok .next) s₁
      | some v => wpAny (model prog w) A (letOwnedTupleGo target it v) (fun _ s₁' => wpAny (model prog w) A (assign target env v) (fun _ s₂ =>
          wpAny (model prog w) A (forIn ifs true fun c r => if r = true then do let ok ← isTrue c env (eval c env); pure (ForInStep.yield ok) else pure (ForInStep.yield r)) (fun ok s₃ =>
            if ok = true then wpAny (model prog w) A (eval elt env) (fun x s₄ =>
              wpAny (model prog w) A (call (.builtin "list.append") [acc, x]) (fun _ s₅ => ∃ m, m < n ∧ I m s₅) (notedBy (model prog w) A env fun e s' => R (.error e) s') s₄) (notedBy (model prog w) A env fun e s' => R (.error e) s') s₃
            else ∃ m, m < n ∧ I m s₃) (notedBy (model prog w) A env fun e s' => R (.error e) s') s₂) (notedBy (model prog w) A env fun e s' => R (.error e) s') s₁') (notedBy (model prog w) A env fun e s' => R (.error e) s') s₁) (notedBy (model prog w) A env fun e s' => R (.error e) s') s)
    (n : Nat) (h : I n s) :
    codeAny (model prog w) A (.compLoop (.ListComp elt [⟨target, iter, ifs, 0⟩] scope pos) 0 it acc env) R s := by
  refine codeAny_loop rfl I (fun n s hI => ?_) n h
  show wpAny _ A ((compTurn (.ListComp elt [⟨target, iter, ifs, 0⟩] scope pos) 0 it acc env).onRaise (fun x => do noteFrame x env; theTreesLotGoes x)) _ _ s
  refine wpAny_noted ?_
  rw [compTurn_list]
  refine wpAny_bind (wpAny_standAt (wpAny_bind (wpAny_mono (turn n s hI) (fun r s₁ h₁ => ?_) fun _ _ h' => h')))
  cases r with
  | none => exact wpAny_pure h₁
  | some v =>
    refine wpAny_bind (wpAny_mono h₁ (fun _ s₁' h₁' => ?_) fun _ _ h' => h')
    refine wpAny_bind (wpAny_mono h₁' (fun _ s₂ h₂ => wpAny_bind (wpAny_mono h₂ (fun ok s₃ h₃ => ?_) fun _ _ h' => h')) fun _ _ h' => h')
    cases ok with
    | false => exact wpAny_pure ⟨rfl, h₃⟩
    | true =>
      exact wpAny_bind (wpAny_bind (wpAny_mono h₃ (fun x s₄ h₄ => wpAny_bind (wpAny_mono h₄ (fun _ s₅ h₅ => wpAny_pure (wpAny_pure ⟨rfl, h₅⟩)) fun _ _ h' => h')) fun _ _ h' => h'))
section
variable {X : Cx}
noncomputable def tLc (wi : TI) (g : TG) (tt : TT) (te : TE) (vs : List Nat) : TE := fun σ H Q => wi σ H fun J H1 => ∀ D, H1 D = none → ∃ W : Nat → Nat → Hp → Prop, (∃ m, W 0 m (upd H1 D (.lst []))) ∧ ∀ i m H, W i m H →
  (J.stop i H ∧ Q (.ref D) H) ∨ (J.go i H ∧ ∃ Nx : Hp → Prop, (∀ H', Nx H' → ∃ m', m' < m ∧ W (i + 1) m' H') ∧ ∀ x H', J.yld i H x H' → g x (wipe σ vs) H' fun σ2 H2 => wipe σ2 vs = wipe σ vs ∧ tt σ2 H2 fun b H3 =>
    if b = true then te σ2 H3 fun y H4 => ∃ acc, H4 D = some (.lst acc) ∧ acc.length < sizeLine ∧ Nx (upd H4 D (.lst (acc ++ [y]))) else Nx H3)
theorem lc_core {pins : List (Addr × Obj)} {s : Shared} {σ : St} {H : Hp} {Q : VK} {elt tg iter : Expr} {ifs : List Expr} {scope : Scope} {own : List (Str × Nat)} {pos pos' : Pos} {wi : TI} {g : TG} {tt : TT} {te : TE} {use : Option (Value → Sem Unit)} {Qf : Value → Shared → Prop}
    (hc : X.calm = true) (hN : X.N.Nodup) (I : Inv X pins σ H s) (hi : PI X tg iter wi) (ok : BlkOk X.N X.env.scope scope own)
    (hg : ∀ (s : Shared) (H : Hp) (C : Addr) (cl : List (Str × Addr)) (fp : List Addr), PG (X.blk s H scope (compEnvC scope cl C X.env) fp) tg g) (ht : ∀ (s : Shared) (H : Hp) (C : Addr) (cl : List (Str × Addr)) (fp : List Addr), PTs (X.blk s H scope (compEnvC scope cl C X.env) fp) ifs tt)
    (he : ∀ (s : Shared) (H : Hp) (C : Addr) (cl : List (Str × Addr)) (fp : List Addr), PE (X.blk s H scope (compEnvC scope cl C X.env) fp) elt te) (hs : ∀ x, foldedSetIterable iter X.env x = pure x)
    (h : tLc wi g tt te (own.map (·.2)) σ H Q)
    (hRR : ∀ D C s' m H', Inv X pins σ H' s' → Q (.ref D) H' → s'.heap.Ns C m → FpOk X pins H' C → compPost (model X.prog X.w) X.A X.xe use Qf (.ref D) C (.ok .next) s') :
    wpAny (model X.prog X.w) X.A (comprehension (.ListComp elt [⟨tg, iter, ifs, 0⟩] scope pos) scope X.env pos' (newList []) false (eval iter X.env) use) Qf X.xe s := by
  have hfree : ∀ y ∈ scope.names, y.2 = .free → ∃ c, X.env.cells.lookup y.1 = some c := fun y hy e => by
    rcases ok.free y hy e with k | k
    · exact I.ok.has _ (.inl k)
    · exact I.ok.has _ (.inr k)
  refine wpAny_comprehension_free (use := use) rfl hs (closure_ok hfree) ok.kind (fun y hy e => by rw [ok.uniq y hy, e])
    (thn (hi pins s σ H _ I h) fun xv s1 hx => thn hx fun itv s2 h2 => ?_)
  obtain ⟨it, fp, tn, J, H2, e, I2, T, st2, f2, q⟩ := h2
  subst e
  refine wpAny_newObj_type (newEnv_comp ?_) (by show 0 ≤ sizeLine; decide)
  generalize hD : s2.heap.objs.size = D
  have hDn : H2 D = none := I2.hok.fresh (Nat.le_of_eq hD)
  obtain ⟨W, ⟨m0, w0⟩, turn⟩ := q D hDn
  -- the new list
  generalize hs3 : ({ s2 with heap := s2.heap.push { cls := .type "list", data := .seq ([] : List Value).toArray } } : Shared) = s3
  have I3 : Inv X pins σ (upd H2 D (.lst [])) s3 := by
    rw [← hs3]
    refine I2.laid (t' := s2.toks) (fun b o e => Heap.get?_push_of_some _ e) (Nat.le_of_eq hD) ⟨Nat.zero_le _, [], 0, .nil, ?_⟩
    rw [← hD]
    exact Heap.get?_push_size _ rfl
  have h3 : s3.heap = s2.heap.push { cls := .type "list", data := .seq ([] : List Value).toArray } := by rw [← hs3]
  have sz : ∀ b ∈ fp, b < s2.heap.objs.size := fun b hb => by
    obtain ⟨o, e, _⟩ := T.obj _ _ st2 b hb
    exact Heap.lt_size e
  have f3 : ∀ b ∈ fp, FpOk X pins (upd H2 D (.lst [])) b ∧ b < s3.heap.objs.size := fun b hb => by
    have hlt := sz b hb
    refine ⟨⟨?_, (f2 b hb).2⟩, by rw [h3, Heap.size_push]; exact Nat.lt_succ_of_lt hlt⟩
    rw [upd_ne (by rw [← hD]; exact Nat.ne_of_lt hlt)]
    exact (f2 b hb).1
  have st3 : tn 0 s3.heap := T.keep _ _ _ st2 fun b _ o e => by rw [h3]; exact Heap.get?_push_of_some _ e
  have I4 := block_start I3 ok hN f3
  have pg := hg s3 (upd H2 D (.lst [])) s3.heap.objs.size (cellsFrom (s3.heap.objs.size + 1) scope.names (cloFrom X.env.cells scope.names [])) fp
  have pt := ht s3 (upd H2 D (.lst [])) s3.heap.objs.size (cellsFrom (s3.heap.objs.size + 1) scope.names (cloFrom X.env.cells scope.names [])) fp
  have pe := he s3 (upd H2 D (.lst [])) s3.heap.objs.size (cellsFrom (s3.heap.objs.size + 1) scope.names (cloFrom X.env.cells scope.names [])) fp
  show codeAny _ _ (.compStart (.ListComp elt [⟨tg, iter, ifs, 0⟩] scope pos) 0 (.ref it) (.ref D) (compEnvC scope (cellsFrom (s3.heap.objs.size + 1) scope.names (cloFrom X.env.cells scope.names [])) s3.heap.objs.size X.env)) (compPost (model X.prog X.w) X.A X.xe use Qf (.ref D) s3.heap.objs.size) { s3 with heap := pushCells (s3.heap.push { cls := .type "dict", data := .dict #[] }) scope.names }
  have nfp : ∀ b ∈ fp, (upd H2 D (.lst [])) b = none := fun b hb => (f3 b hb).1.1
  generalize hce : compEnvC scope (cellsFrom (s3.heap.objs.size + 1) scope.names (cloFrom X.env.cells scope.names [])) s3.heap.objs.size X.env = ce at I4 pg pt pe ⊢
  have cL : ce.locals = s3.heap.objs.size := by subst hce; rfl
  generalize hH3 : upd H2 D (.lst []) = H3 at I3 I4 pg pt pe w0 nfp f3
  generalize hs4 : ({ s3 with heap := pushCells (s3.heap.push { cls := .type "dict", data := .dict #[] }) scope.names } : Shared) = s4 at I4 ⊢
  have st4 : tn 0 s4.heap := T.keep _ _ _ st3 fun b _ o e => by rw [← hs4]; exact pushCells_keeps _ _ _ _ (Heap.get?_push_of_some _ e)
  have stat : ∀ {σ' : St} {H' : Hp} {s' : Shared}, Inv (X.blk s3 H3 scope ce fp) [] σ' H' s' → (∀ b ∈ fp, H' b = none) → ∀ b ∈ fp, FpOk (X.blk s3 H3 scope ce fp) [] H' b := fun {σ' H' s'} I' hn b hb =>
    ⟨hn b hb, (I'.ok.exf b hb).1, I'.ok.exfs b hb, .inl hb, fun x c e => (I'.ok.exf b hb).2 x c e, fun p hp => absurd (show p ∈ ([] : List (Addr × Obj)) ++ [] from hp) (by simp)⟩
  have loop : codeAny (model X.prog X.w) X.A (.compLoop (.ListComp elt [⟨tg, iter, ifs, 0⟩] scope pos) 0 (.ref it) (.ref D) ce) (compPost (model X.prog X.w) X.A X.xe use Qf (.ref D) s3.heap.objs.size) s4 := by
    refine compLoop_any (fun n s' => ∃ i H', Inv (X.blk s3 H3 scope ce fp) [] (wipe σ (own.map (·.2))) H' s' ∧ tn i s'.heap ∧ (∀ b ∈ fp, H' b = none) ∧ W i n H') ?_ m0 ⟨0, H3, I4, st4, nfp, w0⟩
    rintro n s5 ⟨i, H5, I5, st5, n5, w5⟩
    rcases turn i n H5 w5 with ⟨stop, qq⟩ | ⟨go, Nx, hNx, step⟩
    · have td := T.done (X.blk s3 H3 scope ce fp) rfl rfl rfl hc i [] s5 _ H5 (fun _ _ => False) I5 (stat I5 n5) st5 stop
      refine thnF td fun r s6 ⟨hr, I6⟩ => ?_
      subst hr
      -- back in the def's context
      have I7 : Inv X pins σ H5 s6 := I3.call' (ch := fp) I6.os I6.base I6.hok I6.bare fun b hb => ⟨(f3 b hb).1.2.2.2.1, (f3 b hb).1.2.1, (f3 b hb).1.2.2.2.2.1, (f3 b hb).1.2.2.2.2.2⟩
      have nC : H5 s3.heap.objs.size = none := by
        have z : H5 ce.locals = none := I6.free
        rw [cL] at z
        exact z
      obtain ⟨m, hn, _⟩ := I6.loc
      have hn : s6.heap.Ns ce.locals m := hn
      rw [cL] at hn
      exact hRR D s3.heap.objs.size s6 m H5 I7 qq hn (I3.fpOk (Nat.le_refl _) nC)
    · have ti := T.item (X.blk s3 H3 scope ce fp) rfl rfl rfl hc i [] s5 _ H5 (fun _ _ => False) I5 (stat I5 n5) st5 go
      refine thnF ti fun r s6 ⟨u, hr, h6⟩ => ?_
      subst hr
      refine thnF h6 fun _ s7 hz9 => ?_
      obtain ⟨x, H7, I7, r7, y7, st7, n7⟩ := hz9
      have I7' := I7.pinned (stat I7 n7) (T.obj _ _ st7)
      refine thnF (pg _ s7 _ H7 x u _ I7' r7 (step x H7 y7)) fun _ s8 ⟨σ8, H8, I8, hw8, q8⟩ => ?_
      refine thnF (pt _ s8 σ8 H8 _ I8 q8) fun b s9 ⟨H9, I9, q9⟩ => ?_
      -- the turn's end
      have fin : ∀ {s' : Shared} {H' : Hp}, Inv (X.blk s3 H3 scope ce fp) ([] ++ pinsAt fp s7.heap) σ8 H' s' → Nx H' → ∃ m, m < n ∧ ∃ i H', Inv (X.blk s3 H3 scope ce fp) [] (wipe σ (own.map (·.2))) H' s' ∧ tn i s'.heap ∧ (∀ b ∈ fp, H' b = none) ∧ W i m H' := fun {s' H'} I' nx => by
        obtain ⟨m', hm, w'⟩ := hNx H' nx
        have pin' : ∀ b ∈ fp, ∀ o, s7.heap.get? b = some o → s'.heap.get? b = some o ∧ H' b = none := fun b hb o e =>
          let z := I'.pin (b, o) (List.mem_append_right _ (List.mem_append_right _ (mem_pinsAt hb e)))
          ⟨z.1, z.2.1⟩
        have hl : (wipe σ (own.map (·.2))).length = σ8.length := by rw [← hw8, wipe_length]
        refine ⟨m', hm, i + 1, H', (I'.unpinned (pins := [])).weak hl (fun j v e => ?_), T.keep _ _ _ st7 fun b hb o e => (pin' b hb o e).1, fun b hb => ?_, w'⟩
        · rw [← hw8] at e
          exact (wipe_some e).1
        · obtain ⟨o, e, _⟩ := T.obj _ _ st7 b hb
          exact (pin' b hb o e).2
      cases b with
      | false =>
        simp only [Bool.false_eq_true, if_false] at q9 ⊢
        exact fin I9 q9
      | true =>
        simp only [if_true] at q9 ⊢
        refine thnF (pe _ s9 σ8 H9 _ I9 q9) fun z s10 hz9 => ?_
        obtain ⟨yv, H10, I10, r10, acc, hD10, hz10, nx⟩ := hz9
        exact app_ok (X := X.blk s3 H3 scope ce fp) I10 hD10 hz10 r10 fun s11 I11 => fin I11 nx
  exact codeAny_compStart_list loop (T.self X.A 0 _ _ _ st4 loop)
theorem pe_lc {elt tg iter : Expr} {ifs : List Expr} {scope : Scope} {own : List (Str × Nat)} {pos : Pos} {wi : TI} {g : TG} {tt : TT} {te : TE} (hc : X.calm = true) (hN : X.N.Nodup) (hi : PI X tg iter wi) (ok : BlkOk X.N X.env.scope scope own)
    (hg : ∀ (s : Shared) (H : Hp) (C : Addr) (cl : List (Str × Addr)) (fp : List Addr), PG (X.blk s H scope (compEnvC scope cl C X.env) fp) tg g) (ht : ∀ (s : Shared) (H : Hp) (C : Addr) (cl : List (Str × Addr)) (fp : List Addr), PTs (X.blk s H scope (compEnvC scope cl C X.env) fp) ifs tt)
    (he : ∀ (s : Shared) (H : Hp) (C : Addr) (cl : List (Str × Addr)) (fp : List Addr), PE (X.blk s H scope (compEnvC scope cl C X.env) fp) elt te) (hs : ∀ x, foldedSetIterable iter X.env x = pure x := by intro _; rfl) :
    PE X (.ListComp elt [⟨tg, iter, ifs, 0⟩] scope pos) (tLc wi g tt te (own.map (·.2))) := by
  intro pins s σ H Q I h
  rw [eval_ListComp]
  refine lc_core hc hN I hi ok hg ht he hs h fun D C s' m H' I' q hn f => ⟨m, hn, fun h'' sb => ?_⟩
  obtain ⟨f0, f1, f2, f3, f4, f5⟩ := f
  exact ⟨.ref D, H', I'.turned (t' := s'.toks) (fun b o hb e => (sb.2 b hb).trans e) f0 f1 f3 f4 f5, rfl, q⟩
theorem ps_setLc {i : Nat} {y : Str} {py : Pos} {elt tg iter : Expr} {ifs : List Expr} {scope : Scope} {own : List (Str × Nat)} {pos spos : Pos} {wi : TI} {g : TG} {tt : TT} {te : TE} (hc : X.calm = true) (hN : X.N.Nodup) (hy : X.N[i]? = some y) (hyl : X.env.scope.names.lookup y = some .local)
    (hsw : swapsWith (.ListComp elt [⟨tg, iter, ifs, 0⟩] scope pos) (some (.Name y py)) spos.line X.env = pure true) (hi : PI X tg iter wi) (ok : BlkOk X.N X.env.scope scope own)
    (hg : ∀ (s : Shared) (H : Hp) (C : Addr) (cl : List (Str × Addr)) (fp : List Addr), PG (X.blk s H scope (compEnvC scope cl C X.env) fp) tg g) (ht : ∀ (s : Shared) (H : Hp) (C : Addr) (cl : List (Str × Addr)) (fp : List Addr), PTs (X.blk s H scope (compEnvC scope cl C X.env) fp) ifs tt)
    (he : ∀ (s : Shared) (H : Hp) (C : Addr) (cl : List (Str × Addr)) (fp : List Addr), PE (X.blk s H scope (compEnvC scope cl C X.env) fp) elt te) (hs : ∀ x, foldedSetIterable iter X.env x = pure x := by intro _; rfl) :
    PS X (.Assign [.Name y py] (.ListComp elt [⟨tg, iter, ifs, 0⟩] scope pos) spos) (tAsg (tLc wi g tt te (own.map (·.2))) (gName i)) := by
  intro pins s σ H D I h
  rw [exec_Assign_Name_used _ _ _ _ hsw]
  refine wpAny_bind (wpAny_standAt (wpAny_bind ?_))
  show wpAny _ X.A (do let _ ← comprehension (.ListComp elt [⟨tg, iter, ifs, 0⟩] scope pos) scope X.env (firstIterPos [⟨tg, iter, ifs, 0⟩] pos) (newList []) false (eval iter X.env) (some (assign (.Name y py) X.env))) _ _ s
  have h : tLc wi g tt te (own.map (·.2)) σ H (fun x H1 => gName i x σ H1 D.nx) := h
  refine wpAny_bind (thn (lc_core (Qf := fun _ s' => SP X pins D .next s') hc hN I hi ok hg ht he hs h fun L C s' m H' I' q hn f => ?_) fun _ s' hq => wpAny_pure (wpAny_pure hq))
  show wpAny _ _ (assign (.Name y py) X.env (.ref L)) _ _ _
  refine wpAny_assign_Name (store_ok2 (v := V.ref L) I' hN hy (.inl hyl) rfl (fun s2 I2 ⟨a, sb, ha⟩ => ?_) (.inr hyl))
  obtain ⟨f0, f1, f2, f3, f4, f5⟩ := f
  have haC : C ≠ a := by
    rcases ha with z | z
    · rw [z]; exact f1
    · exact fun e => f4 y a z e.symm
  refine ⟨m, hn.sameBut sb haC, fun h3 sb3 => ?_⟩
  exact ⟨_, H', I2.turned (t' := s2.toks) (fun b o hb e => (sb3.2 b hb).trans e) f0 f1 f3 f4 f5, q⟩
theorem sw_true {elt : Expr} {gs : List Comprehension} {scope : Scope} {pos py : Pos} {y : Str} {l : Nat} {env : Env} (hk : env.scope.kind = .function) (hy : env.scope.names.lookup y = some .local) (hl : (py.line == pos.line) = true)
    (ha : (scope.names.any fun (n, k) => n == y && (k == .local || k == .cell)) = false) : swapsWith (.ListComp elt gs scope pos) (some (.Name y py)) l env = pure true := by
  have ky : env.kindOf y = some .local := hy
  have hb : env.blockKind = .function := by unfold Env.blockKind; rw [hk]; rfl
  unfold swapsWith
  simp only [hb, ky, ha, Expr.pos, hl]
  rfl
end
theorem lc_list {K : PySem.W.Frag} {a : Addr} {xs : List V} {g : TG} {tt : TT} {te : TE} {vs : List Nat} {σ : St} {H1 : Hp} {D : Addr} {Qd : Hp → Prop} (Pv : Nat → Hp → Prop) (h0 : Pv 0 (upd H1 D (.lst []))) (hl : ∀ i H, i ≤ xs.length → Pv i H → SqL K H a xs)
    (hs : ∀ i x H, xs[i]? = some x → Pv i H → g x (wipe σ vs) H fun σ2 H2 => wipe σ2 vs = wipe σ vs ∧ tt σ2 H2 fun b H3 =>
      if b = true then te σ2 H3 fun y H4 => ∃ acc, H4 D = some (.lst acc) ∧ acc.length < sizeLine ∧ Pv (i + 1) (upd H4 D (.lst (acc ++ [y]))) else Pv (i + 1) H3) (hd : ∀ H, Pv xs.length H → Qd H) :
    ∃ W : Nat → Nat → Hp → Prop, (∃ m, W 0 m (upd H1 D (.lst []))) ∧ ∀ i m H, W i m H →
      ((Itl K a).stop i H ∧ Qd H) ∨ ((Itl K a).go i H ∧ ∃ Nx : Hp → Prop, (∀ H', Nx H' → ∃ m', m' < m ∧ W (i + 1) m' H') ∧ ∀ x H', (Itl K a).yld i H x H' → g x (wipe σ vs) H' fun σ2 H2 => wipe σ2 vs = wipe σ vs ∧ tt σ2 H2 fun b H3 =>
        if b = true then te σ2 H3 fun y H4 => ∃ acc, H4 D = some (.lst acc) ∧ acc.length < sizeLine ∧ Nx (upd H4 D (.lst (acc ++ [y]))) else Nx H3) := by
  refine ⟨fun i m H => m = xs.length - i ∧ i ≤ xs.length ∧ Pv i H, ⟨xs.length, by simp, Nat.zero_le _, h0⟩, ?_⟩
  rintro i m H ⟨rfl, hi, p⟩
  have q := hl i H hi p
  by_cases hlt : i < xs.length
  · refine .inr ⟨⟨xs, xs[i], q, by simp [hlt]⟩, Pv (i + 1), fun H' p' => ⟨xs.length - (i + 1), by omega, rfl, hlt, p'⟩, fun x H' y => ?_⟩
    obtain ⟨e, y⟩ := y
    subst e
    exact hs i x _ (y xs q) p
  · have e : i = xs.length := by omega
    subst e
    exact .inl ⟨⟨xs, q, Nat.le_refl _⟩, hd H p⟩
noncomputable def blkC (N : List Str) (sc scope : Scope) (own : List (Str × Nat)) : Bool :=
  (match scope.kind with | .function => true | _ => false) && (scope.names.all fun y => decide (scope.names.lookup y.1 = some y.2)) && (own.all fun p => decide (N[p.2]? = some p.1)) &&
    (scope.names.all fun y => match y.2 with
      | .free => (match sc.names.lookup y.1 with | some .cell => true | some .free => true | _ => false)
      | .local => decide (y.1 ∈ own.map (·.1)) || decide (y.1 ∉ N)
      | .cell => decide (y.1 ∈ own.map (·.1)) || decide (y.1 ∉ N)
      | _ => true)
theorem blkOk_by {N : List Str} {sc scope : Scope} {own : List (Str × Nat)} (h : blkC N sc scope own = true) : BlkOk N sc scope own := by
  unfold blkC at h
  simp only [Bool.and_eq_true, List.all_eq_true, decide_eq_true_eq] at h
  obtain ⟨⟨⟨h1, h2⟩, h3⟩, h4⟩ := h
  refine ⟨?_, h2, h3, fun y hy e => ?_, fun y hy e => ?_⟩
  · split at h1
    · assumption
    · cases h1
  · have q := h4 y hy
    simp only [e] at q
    split at q <;> first | exact .inl (by assumption) | exact .inr (by assumption) | cases q
  · have q := h4 y hy
    rcases e with e | e <;> (simp only [e, Bool.or_eq_true, decide_eq_true_eq] at q; exact q)
end L2
namespace L2
open PySem PySem.Spec PyProof.Rows
section
variable {prog : Program} {w : World} {A : Around} {R : Result → Shared → Prop} {s : Shared} {elt t0 i0 t1 i1 : Expr} {ifs0 ifs1 : List Expr} {scope : Scope} {pos : Pos} {it acc : Value} {env : Env}
end
section
variable {X : Cx}
end
end L2
namespace L2
open PySem PySem.Spec PyProof.Rows
section
variable {κ : Type} [DecidableEq κ]
end
section
variable {P : Program} {w : World} {H : Hp} {h : Heap} {a : Addr}
end
section
variable {X : Cx} {pins : List (Addr × Obj)} {σ : St} {H : Hp} {s : Shared} {a : Addr} {y v : V} {u r : Value} {o : Option V} {A : Around} {E : Value → Shared → Prop}
end
section
variable {X : Cx} {pins : List (Addr × Obj)} {σ : St} {H : Hp} {s : Shared} {a : Addr} {kvs : List (Key × V)} {k : Key} {u : Value} {A : Around} {E : Value → Shared → Prop}
end
section
variable {X : Cx} {o i e value : Expr} {pos pos' tpos : Pos} {td ty tv : TE}
end
section
variable {X : Cx} {pos : Pos}
end
structure M1 (X : Cx) (o : Expr) (m : Str) (apos : Pos) (e : Expr) (cpos : Pos) : Prop where
  base : attributeBase o m X.env (eval o X.env) = eval o X.env
  few : ((backTo cpos (starEach [e] X.env)).all (fun x => !x.1) && (backToKw cpos (keywordEach [] X.env)).all (fun x => x.1.isSome)
    && decide (([e] : List Expr).length + ([] : List Keyword).length + (if ([] : List Keyword).isEmpty then 0 else 1) < 30)) = true
  line : (apos.endLine == cpos.line) = true
  trees : backTo cpos (starEach [e] X.env) = [(false, eval e X.env)]
structure M2 (X : Cx) (o : Expr) (m : Str) (apos : Pos) (e f : Expr) (cpos : Pos) : Prop where
  base : attributeBase o m X.env (eval o X.env) = eval o X.env
  few : ((backTo cpos (starEach [e, f] X.env)).all (fun x => !x.1) && (backToKw cpos (keywordEach [] X.env)).all (fun x => x.1.isSome)
    && decide (([e, f] : List Expr).length + ([] : List Keyword).length + (if ([] : List Keyword).isEmpty then 0 else 1) < 30)) = true
  line : (apos.endLine == cpos.line) = true
  trees : backTo cpos (starEach [e, f] X.env) = [(false, eval e X.env), (false, eval f X.env)]
section
variable {X : Cx} {pins : List (Addr × Obj)} {σ : St} {H : Hp} {s : Shared} {a : Addr} {y d : V} {u r : Value} {o : Option V} {A : Around} {E : Value → Shared → Prop}
end
section
variable {X : Cx} {o e f : Expr} {apos cpos : Pos} {td ty tx : TE}
end
section
variable {X : Cx} {pins : List (Addr × Obj)} {σ : St} {H : Hp} {s : Shared} {a : Addr} {kvs : List (Key × V)} {A : Around} {E : Value → Shared → Prop}
end
section
variable {X : Cx} {pins : List (Addr × Obj)} {σ : St} {H : Hp} {s : Shared} {a : Addr} {y : V} {u : Value} {A : Around} {E : Value → Shared → Prop}
end
end L2
namespace L2
open PySem PySem.Spec PyProof.Rows
section
variable {prog : Program} {w : World} {A : Around} {E : Value → Shared → Prop}
end
section
variable {X : Cx}
end
end L2
namespace L2
open PySem PySem.Spec PyProof.Rows
section
variable {X : Cx} {pins : List (Addr × Obj)} {σ : St} {H : Hp} {s : Shared} {h' : Heap}
theorem Inv.turnedL {t' : Nat} {ch : List Addr} (I : Inv X pins σ H s) (k : ∀ b o, b ∉ ch → s.heap.get? b = some o → h'.get? b = some o) (hf : ∀ b ∈ ch, FpOk X pins H b) : Inv X pins σ H { s with heap := h', toks := t' } := by
  have nit : ∀ b u, H b = some u → b ∉ ch := fun b u e z => by
    have q := (hf b z).1
    rw [q] at e; cases e
  refine I.step (g' := s.gens) (d' := s.drawn) (ch := ch) (fun b hb => ⟨(hf b hb).2.2.2.1, (hf b hb).2.1, (hf b hb).2.2.2.2.1, (hf b hb).2.2.2.2.2⟩) (fun b o _ _ hc e _ => k b o hc e) (fun b o _ _ hc e _ => ⟨o.slots, k b o hc e⟩)
    (fun _ _ _ _ n => n) (fun b o hc e => ⟨o, k b o hc e⟩) (fun _ _ e => e) (fun _ _ _ e => e) (fun b ps e => ⟨#[], by rw [e]; simp⟩) (fun m hm => ?_) (fun b u e => ?_) I.bare
  · obtain ⟨o, es, ep, ho, r⟩ := hm
    exact ⟨o, es, ep, k _ o (fun z => (hf _ z).2.1 rfl) ho, r⟩
  · refine (I.hok b u e).stay (fun c v hc q => k c v ?_ q) (fun _ q => q) fun _ _ q => q
    rcases hc with z | z
    · rw [z]; exact nit b u e
    · exact nit c _ z
theorem Inv.turnedNew {t' : Nat} {ch : List Addr} {T : Addr} {ob : HO} (I : Inv X pins σ H s) (k : ∀ b o, b ∉ ch → s.heap.get? b = some o → h'.get? b = some o) (hf : ∀ b ∈ ch, FpOk X pins H b) (hT : s.heap.objs.size ≤ T)
    (new : ObjOk X.prog X.w (upd H T ob) h' T ob) : Inv X pins σ (upd H T ob) { s with heap := h', toks := t' } := by
  have hn : H T = none := I.hok.fresh hT
  have nit : ∀ b u, H b = some u → b ∉ ch := fun b u e z => by
    have q := (hf b z).1
    rw [q] at e; cases e
  refine I.step (g' := s.gens) (d' := s.drawn) (ch := ch) (fun b hb => ⟨(hf b hb).2.2.2.1, (hf b hb).2.1, (hf b hb).2.2.2.2.1, (hf b hb).2.2.2.2.2⟩) (fun b o _ _ hc e _ => k b o hc e) (fun b o _ _ hc e _ => ⟨o.slots, k b o hc e⟩)
    (fun b o _ e n => ?_) (fun b o hc e => ⟨o, k b o hc e⟩) (fun b xs e => ?_) (fun b o u e => ?_) (fun b ps e => ⟨#[], ?_⟩) (fun m hm => ?_) (fun b u e => ?_) I.bare
  · rw [upd_ne (Nat.ne_of_lt (Nat.lt_of_lt_of_le (Heap.lt_size e) hT))]; exact n
  · rw [upd_ne (ne_of_none e hn)]; exact e
  · rw [upd_ne (ne_of_none e hn)]; exact e
  · rw [upd_ne (ne_of_none e hn), e]; simp
  · obtain ⟨o, es, ep, ho, r⟩ := hm
    exact ⟨o, es, ep, k _ o (fun z => (hf _ z).2.1 rfl) ho, r⟩
  · by_cases hb : b = T
    · subst hb
      rw [upd_same] at e
      cases e
      exact new
    · rw [upd_ne hb] at e
      refine (I.hok b u e).stay (fun c v hc q => k c v ?_ q) (fun c q => by rw [upd_ne (ne_of_none q hn)]; exact q) fun c xs q => by rw [upd_ne (ne_of_none q hn)]; exact q
      rcases hc with z | z
      · rw [z]; exact nit b u e
      · exact nit c _ z
end
section
variable {X : Cx}
end
section
variable {X : Cx} {tg : Expr}
end
section
variable {X : Cx} {tg : Expr}
end
section
variable {prog : Program} {w : World} {A : Around} {E : Value → Shared → Prop} {s : Shared}
end
section
variable {X : Cx} {pins : List (Addr × Obj)} {σ : St} {H : Hp} {s : Shared} {d : Addr} {o : Obj}
end
section
variable {P : Program} {w : World} {K : PySem.W.Frag} {tg : Expr} {d : Addr} {o : Obj} {es : Array DictEntry} {ep : Nat}
end
section
variable {X : Cx} {tg e : Expr} {td : TE} {apos cpos : Pos}
end
theorem boot_zip5 : bootBuiltins "zip" = some (.type "zip") := by decide +kernel
end L2
section 
namespace Bits
open PySem PyProof.Rows
end Bits
end 
section 
namespace TL
open PySem PySem.Builtin PySem.Builtin.Str PySem.StrLaws
end TL
end 
namespace L2
open PySem PySem.Spec PyProof.Rows
section
variable {X : Cx} {pins : List (Addr × Obj)} {σ : St} {H : Hp} {s : Shared} {Q : VK}
end
section
variable {X : Cx}
end
section
variable {X : Cx} {o e : Expr} {to te : TE}
end
end L2
namespace L2
open PySem PySem.Spec PyProof.Rows
section
variable {X : Cx}
end
end L2
namespace Att
open PySem PySem.W PySem.Calls PyProof.Rows
section
variable {prog : Program} {w : World} {A : Around} {E : Value → Shared → Prop} {s : Shared} {K : Frag}
end
end Att
namespace L2
open PySem PySem.Spec PyProof.Rows
end L2
namespace L2
open PySem PySem.Spec PyProof.Rows
noncomputable abbrev KOf {K : PySem.W.Frag} {h : Heap} (_ : K.In h) : PySem.W.Frag := K
end L2
namespace L2
open PySem PySem.Spec PyProof.Rows
noncomputable def inClass (s : Stmt) (j : Nat) : Stmt := match s with
  | .ClassDef _ _ _ body _ _ _ _ _ _ _ => body.getD j (.Pass ⟨0, 0, 0, 0⟩)
  | _ => .Pass ⟨0, 0, 0, 0⟩
noncomputable def defArgs (s : Stmt) : Arguments := match s with
  | .FunctionDef _ a _ _ _ _ _ _ _ _ => a
  | _ => { posonlyargs := [], args := [], vararg := none, kwonlyargs := [], kw_defaults := [], kwarg := none, defaults := [] }
noncomputable def defBody (s : Stmt) : List Stmt := match s with
  | .FunctionDef _ _ b _ _ _ _ _ _ _ => b
  | _ => []
noncomputable def defScope (s : Stmt) : Scope := match s with
  | .FunctionDef _ _ _ _ _ _ sc _ _ _ => sc
  | _ => { kind := .function, names := [], isGenerator := false, isCoroutine := false }
noncomputable abbrev CX0 : CXT := fun _ _ _ _ _ _ => False
noncomputable abbrev E0 : XK := fun _ _ _ => False
theorem pass0 {X : Cx} : Passes CX0 X E0 := fun _ _ _ _ _ _ _ h => h.elim
structure Fun (K : PySem.W.Frag) (x qual : Str) (st : Stmt) (f : Addr) (fd : FuncData) : Prop where
  ex : ∃ (oc : Value) (od : Option Addr) (kV doc pm : Value) (an : Option Addr) (cdv ct : Value) (osl : Array (Option Value)),
    fd = PySem.W.fnOf x qual (defArgs st) (defBody st) (defScope st) .none kV doc pm an cdv ct ∧ K.lookup f = some ⟨oc, od, .func fd, osl⟩ ∧ PySem.W.codeIn K cdv qual = true
  kp : PySem.W.keepIn K (.ref f) = true
section
variable {P : Program} {w : World} {K : PySem.W.Frag} {mg : Str → Option Value} {base : Heap}
theorem Fun.ok {x qual : Str} {st : Stmt} {f : Addr} {fd : FuncData} {N ps : List Str} {k : Nat} {sp : Sp} (F : Fun K x qual st f fd) (S : FnScope N ps (defScope st)) (len : ∀ vs H Q E, sp vs H Q E → vs.length = ps.length)
    (hbody : ∀ (cdv : Value) (A : Around) (outer : List Env) (s : Shared) (H : Hp) (vs : List V) (Q : VK) (E : XK), Room k (A.deeper (envOfC qual (defScope st) s.heap.objs.size f cdv)) → sp vs H Q E →
      ∃ t, PSs (cxOf CX0 P w K mg base N qual (defScope st) f cdv A outer s H E).nox (defBody st) t ∧ t { nx := fun _ H' => Q .non H', rt := Q } (start N vs) H) : FnOk P w K mg base CX0 (k + 1) f fd ps sp := by
  obtain ⟨oc, od, kV, doc, pm, an, cdv, ct, osl, rfl, lk, hcd⟩ := F.ex
  refine fn_of lk hcd S len fun A outer s H vs Q E hr hsp => ?_
  obtain ⟨t, h, q⟩ := hbody cdv A outer s H vs Q E hr hsp
  exact ⟨t, h.nox, q⟩
theorem Fun.binds {x qual : Str} {st : Stmt} {f : Addr} {fd : FuncData} {ps : List Str} (F : Fun K x qual st f fd)
    (h : ∀ (kV doc pm : Value) (an : Option Addr) (cdv ct : Value) (us : List Value), us.length = ps.length → bindArgs (PySem.W.fnOf x qual (defArgs st) (defBody st) (defScope st) .none kV doc pm an cdv ct) ⟨us, []⟩ = pure (ps.zip us)) : Binds K fd ps [] := by
  obtain ⟨oc, od, kV, doc, pm, an, cdv, ct, osl, rfl, lk, hcd⟩ := F.ex
  exact .all (h kV doc pm an cdv ct)
theorem fun_mk {x qual : Str} {st : Stmt} {f : Addr} {oc : Value} {od an : Option Addr} {osl : Array (Option Value)} {kV doc pm cdv ct : Value} (l : K.lookup f = some ⟨oc, od, .func (PySem.W.fnOf x qual (defArgs st) (defBody st) (defScope st) .none kV doc pm an cdv ct), osl⟩)
    (c : PySem.W.codeIn K cdv qual = true) (k : PySem.W.keepIn K (.ref f) = true) : Fun K x qual st f (PySem.W.fnOf x qual (defArgs st) (defBody st) (defScope st) .none kV doc pm an cdv ct) := ⟨⟨oc, od, kV, doc, pm, an, cdv, ct, osl, rfl, l, c⟩, k⟩
end
theorem small1000 {n : Nat} (h : n ≤ 1000) : n < sizeLine := Nat.lt_of_le_of_lt h (by decide)
section
variable {X : Cx}
theorem pv (i : Nat) {x : Str} {pos : Pos} (hN : X.N[i]? = some x := by rfl) (hv : Vis X.env.scope x := by first | exact Or.inl rfl | exact Or.inr (Or.inl rfl) | exact Or.inr (Or.inr rfl)) (hd : (x == ("__debug__" : Str)) = false := by decide)
    (hcd : (x == ("__classdict__" : Str)) = false := by decide) : PE X (.Name x pos) (tVar i) := pe_var hN hv hd hcd
end
theorem iteF {A B : Prop} (h : B) : if false = true then A else B := by
  rw [if_neg Bool.false_ne_true]
  exact h
theorem iteT {A B : Prop} (h : A) : if true = true then A else B := by
  rw [if_pos rfl]
  exact h
theorem ite2 {c A B : Prop} [Decidable c] (h1 : c → A) (h2 : ¬ c → B) : if c then A else B := by
  by_cases h : c
  · rw [if_pos h]
    exact h1 h
  · rw [if_neg h]
    exact h2 h
noncomputable def Same (H H' : Hp) : Prop := ∀ b o, H b = some o → H' b = some o
theorem Same.refl (H : Hp) : Same H H := fun _ _ h => h
theorem Same.trans {H H1 H2 : Hp} (a : Same H H1) (b : Same H1 H2) : Same H H2 := fun c o h => b c o (a c o h)
theorem Same.free {H H' : Hp} (e : Same H H') {l : Addr} (h : H' l = Option.none) : H l = Option.none := by
  cases q : H l with
  | none => rfl
  | some o =>
    rw [e l o q] at h
    cases h
theorem Same.seq {K : PySem.W.Frag} {H H' : Hp} {a : Addr} {xs : List V} (e : Same H H') (h : SqL K H a xs) : SqL K H' a xs := by
  rcases h with (h | ⟨o, h⟩) | h
  · exact .inl (.inl (e _ _ h))
  · exact .inl (.inr ⟨o, e _ _ h⟩)
  · exact .inr h
section
variable {κ : Type} [DecidableEq κ]
theorem nd_snoc : ∀ {l : List κ} {k : κ}, l.Nodup → ¬ k ∈ l → (l ++ [k]).Nodup
  | [], k, _, _ => by simp
  | a :: r, k, h, hk => by
    obtain ⟨h1, h2⟩ := List.nodup_cons.mp h
    show (a :: (r ++ [k])).Nodup
    refine List.nodup_cons.mpr ⟨fun m => ?_, nd_snoc h2 fun m => hk (List.mem_cons.mpr (Or.inr m))⟩
    rcases List.mem_append.mp m with q | q
    · exact h1 q
    · exact hk (List.mem_cons.mpr (Or.inl (List.mem_singleton.mp q).symm))
end
theorem at_of {xs : List V} {z : Int} {j : Nat} {v : V} (e : z = (j : Int)) (h : xs[j]? = some v) : atI xs z = some v := by
  rw [e]
  exact atI_nat h
theorem nd_ix {α : Type} {l : List α} (hN : l.Nodup) {i j : Nat} {x : α} (a : l[i]? = some x) (b : l[j]? = some x) : i = j := by
  obtain ⟨h1, e1⟩ := List.getElem?_eq_some_iff.mp a
  obtain ⟨h2, e2⟩ := List.getElem?_eq_some_iff.mp b
  exact (List.getElem_inj hN).mp (e1.trans e2.symm)
theorem Same.made {H H1 : Hp} {x dx C : Addr} (nx : H x = Option.none) (nd : H dx = Option.none) (k : ∀ b o, (upd (upd H dx (.own x)) x (.ins C dx [])) b = some o → b ≠ x → H1 b = some o) : Same H H1 := fun b o e =>
  k b o (by rw [upd_ne (ne_of_none e nx), upd_ne (ne_of_none e nd)]; exact e) (ne_of_none e nx)
end L2
end
section
set_option Elab.async false
set_option linter.all false
set_option maxRecDepth 100000
set_option maxHeartbeats 2000000
namespace L2
open PySem PySem.Spec PyProof.Rows
open PySem.W (WData Codec OpenSpec Well WellAll ReadsW ReadsAllW)
mutual
inductive Dw (K : PySem.W.Frag) (H : Hp) : V → WData → Prop
  | non : Dw K H .non .none
  | bl (b : Bool) : Dw K H (.bl b) (.bool b)
  | int (i : Int) : Dw K H (.int i) (.int i)
  | str (x : Str) : Dw K H (.str x) (.str x)
  | byt (b : Array UInt8) : Dw K H (.byt b) (.bytes b.toList)
  | lst {a : Addr} {xs : List V} {ds : List WData} : SqL K H a xs → DwAll K H xs ds → Dw K H (.ref a) (.list ds)
  | tup {a : Addr} {xs : List V} {ds : List WData} : SqT K H a xs → DwAll K H xs ds → Dw K H (.ref a) (.tuple ds)
inductive DwAll (K : PySem.W.Frag) (H : Hp) : List V → List WData → Prop
  | nil : DwAll K H [] []
  | cons {v : V} {vs : List V} {d : WData} {ds : List WData} : Dw K H v d → DwAll K H vs ds → DwAll K H (v :: vs) (d :: ds)
end
theorem dw_ints {K : PySem.W.Frag} {H : Hp} : ∀ ns : List Int, DwAll K H (ns.map V.int) (ns.map WData.int)
  | [] => .nil
  | n :: r => .cons (.int n) (dw_ints r)
theorem ints_dw {K : PySem.W.Frag} {H : Hp} : ∀ (ns : List Int) (xs : List V), DwAll K H xs (ns.map WData.int) → xs = ns.map V.int
  | [], xs, h => by
    cases h
    rfl
  | n :: r, xs, h => by
    cases h with
    | cons h1 h2 =>
      cases h1
      rw [ints_dw r _ h2] <;> rfl
section
variable {P : Program} {w : World} {K : PySem.W.Frag} {H : Hp} {h : Heap} {R : PySem.W.WRecords} {cl : Str → Option Addr}
theorem sqL_at {a : Addr} {xs : List V} (hok : HOk P w H h) (KX : K.In h) (q : SqL K H a xs) : ∃ (its : List Value) (o : Obj) (n : Nat), Vals xs its ∧ h.get? a = some o ∧ o.cls = .type "list" ∧ o.data = .seq its.toArray n := by
  rcases q with q | ⟨o, its, n, e, hc, _, hd, _, hv⟩
  · obtain ⟨_, its, n, hv, e⟩ := (show ObjOk P w H h a (.lst xs) from q.ok hok)
    exact ⟨its, _, n, hv, e, rfl, rfl⟩
  · exact ⟨its.toList, o, n, hv, KX _ _ e, hc, by simp [hd]⟩
theorem sqT_at {a : Addr} {xs : List V} (hok : HOk P w H h) (KX : K.In h) (q : SqT K H a xs) : ∃ (its : List Value) (o : Obj) (n : Nat), Vals xs its ∧ h.get? a = some o ∧ o.cls = .type "tuple" ∧ o.data = .seq its.toArray n := by
  rcases q with q | ⟨o, its, n, e, hc, hd, _, hv⟩
  · obtain ⟨_, its, hv, o, e, hc, n, hd⟩ := (show ObjOk P w H h a (.tup xs) from q.ok hok)
    exact ⟨its, o, n, hv, e, hc, hd⟩
  · exact ⟨its.toList, o, n, hv, KX _ _ e, hc, by simp [hd]⟩
mutual
theorem Dw.reads (hok : HOk P w H h) (KX : K.In h) : ∀ (d : WData) (v : V) (u : Value), Dw K H v d → RelV v u → ∃ as, ReadsW R cl h u d as
  | .none, _, _, x, r => by
    cases x
    cases r
    exact ⟨_, ReadsW.none⟩
  | .bool b, _, _, x, r => by
    cases x
    cases r
    exact ⟨_, ReadsW.bool b⟩
  | .int i, _, _, x, r => by
    cases x
    obtain ⟨t, rfl⟩ := r
    exact ⟨_, ReadsW.int i t⟩
  | .str s, _, _, x, r => by
    cases x
    obtain ⟨t, rfl⟩ := r
    exact ⟨_, ReadsW.str s t⟩
  | .bytes b, _, _, x, r => by
    cases x
    obtain ⟨t, rfl⟩ := r
    exact ⟨_, ReadsW.bytes _ t⟩
  | .list ds, _, _, x, r => by
    cases x with
    | lst hs ha =>
      cases r
      obtain ⟨its, o, n, rv, ho, hc, hd⟩ := sqL_at hok KX hs
      obtain ⟨as, hr⟩ := Dw.readsAll hok KX ds _ its ha rv
      exact ⟨_, ReadsW.list ho hc hd hr⟩
  | .tuple ds, _, _, x, r => by
    cases x with
    | tup hs ha =>
      cases r
      obtain ⟨its, o, n, rv, ho, hc, hd⟩ := sqT_at hok KX hs
      obtain ⟨as, hr⟩ := Dw.readsAll hok KX ds _ its ha rv
      exact ⟨_, ReadsW.tuple ho hc hd hr⟩
  | .float _, _, _, x, _ => by cases x
  | .dict _, _, _, x, _ => by cases x
  | .bytearray _, _, _, x, _ => by cases x
  | .set _, _, _, x, _ => by cases x
  | .frozenset _, _, _, x, _ => by cases x
  | .obj _ _, _, _, x, _ => by cases x
theorem Dw.readsAll (hok : HOk P w H h) (KX : K.In h) : ∀ (ds : List WData) (vs : List V) (us : List Value), DwAll K H vs ds → Vals vs us → ∃ as, ReadsAllW R cl h us ds as
  | [], _, _, x, r => by
    cases x
    cases r
    exact ⟨_, ReadsAllW.nil⟩
  | d :: ds, _, _, x, r => by
    cases x with
    | cons h1 h2 =>
      cases r with
      | cons r1 r2 =>
        obtain ⟨as, q1⟩ := Dw.reads hok KX d _ _ h1 r1
        obtain ⟨bs, q2⟩ := Dw.readsAll hok KX ds _ _ h2 r2
        exact ⟨_, ReadsAllW.cons q1 q2⟩
end
end
mutual
noncomputable def plW : WData → Bool
  | .none => true
  | .bool _ => true
  | .int _ => true
  | .str _ => true
  | .bytes _ => true
  | .list xs => plWs xs
  | .tuple xs => plWs xs
  | _ => false
noncomputable def plWs : List WData → Bool
  | [] => true
  | x :: r => plW x && plWs r
end
theorem plWs_map {α : Type} {f : α → WData} (h : ∀ a, plW (f a) = true) : ∀ l : List α, plWs (l.map f) = true
  | [] => rfl
  | x :: r => by
    show (plW (f x) && plWs (r.map f)) = true
    rw [h x, plWs_map h r] <;> rfl
theorem pl_enc : ∀ (c : Codec) (a : c.denote), plW (c.enc a) = true
  | .unit, _ => rfl
  | .bool, _ => rfl
  | .int _ _, _ => rfl
  | .nat _ _, _ => rfl
  | .u8, _ => rfl
  | .bytes _ _, _ => rfl
  | .text _ _ _ _, _ => rfl
  | .list _ _ c, a => plWs_map (fun x => pl_enc c x) a
  | .pair c d, a => by
    show (plW (c.enc a.1) && (plW (d.enc a.2) && true)) = true
    rw [pl_enc c a.1, pl_enc d a.2] <;> rfl
  | .triple c d e, a => by
    show (plW (c.enc a.1) && (plW (d.enc a.2.1) && (plW (e.enc a.2.2) && true))) = true
    rw [pl_enc c a.1, pl_enc d a.2.1, pl_enc e a.2.2] <;> rfl
  | .option c, none => rfl
  | .option c, some x => pl_enc c x
theorem pl_encAll : ∀ (cs : List Codec) (a : Codec.denoteAll cs), plWs (Codec.encAll cs a) = true
  | [], _ => rfl
  | c :: cs, a => by
    show (plW (c.enc a.1) && plWs (Codec.encAll cs a.2)) = true
    rw [pl_enc c a.1, pl_encAll cs a.2] <;> rfl
theorem weight_mem : ∀ {xs : List WData} {d : WData}, d ∈ xs → d.weight ≤ WData.weightAll xs
  | [], d, h => absurd h (by simp)
  | x :: r, d, h => by
    show d.weight ≤ x.weight + 1 + WData.weightAll r
    rcases List.mem_cons.mp h with e | m
    · rw [e]
      omega
    · have z := weight_mem m
      omega
noncomputable def toV : Value → V
  | .none => .non
  | .bool b => .bl b
  | .int i _ => .int i
  | .str x _ => .str x
  | .bytes b _ => .byt b
  | .ref a => .ref a
  | _ => .non
noncomputable def OkU (A : List Addr) : Value → Prop
  | .none => True
  | .bool _ => True
  | .int _ _ => True
  | .str _ _ => True
  | .bytes _ _ => True
  | .ref a => a ∈ A
  | _ => False
theorem OkU.mono {A B : List Addr} (h : ∀ a ∈ A, a ∈ B) : ∀ {u : Value}, OkU A u → OkU B u := fun {u} x => by
  cases u with
  | ref a => exact h a x
  | none => trivial
  | bool b => trivial
  | int i t => trivial
  | str s t => trivial
  | bytes b t => trivial
  | _ => exact False.elim x
theorem relV_toV {A : List Addr} {u : Value} (x : OkU A u) : RelV (toV u) u := by
  cases u with
  | ref a => rfl
  | none => rfl
  | bool b => rfl
  | int i t => exact ⟨t, rfl⟩
  | str s t => exact ⟨t, rfl⟩
  | bytes b t => exact ⟨t, rfl⟩
  | _ => exact False.elim x
theorem vals_toV {A : List Addr} : ∀ {vs : List Value}, (∀ u ∈ vs, OkU A u) → Vals (vs.map toV) vs
  | [], _ => .nil
  | u :: r, h => .cons (relV_toV (h u (List.mem_cons_self ..))) (vals_toV fun x hx => h x (List.mem_cons_of_mem _ hx))
noncomputable def ArgOb (h : Heap) (A : List Addr) (a : Addr) : Prop := ∃ vs : List Value, vs.length ≤ sizeLine ∧ (∀ u ∈ vs, OkU A u) ∧
  (h.get? a = some { cls := .type "list", data := .seq vs.toArray } ∨ h.get? a = some { cls := .type "tuple", data := .seq vs.toArray })
theorem ArgOb.mono {h : Heap} {A B : List Addr} {a : Addr} (k : ∀ a ∈ A, a ∈ B) (x : ArgOb h A a) : ArgOb h B a := by
  obtain ⟨vs, h1, h2, h3⟩ := x
  exact ⟨vs, h1, fun u hu => (h2 u hu).mono k, h3⟩
theorem wellAll_len {P : Params} {h : Heap} : ∀ {vs : List Value} {ds : List WData}, WellAll P h vs ds → vs.length = ds.length
  | _, _, .nil => rfl
  | _, _, .cons _ b => by
    show _ + 1 = _ + 1
    rw [wellAll_len b]
theorem well_list {P : Params} {h : Heap} {v : Value} {ds : List WData} (x : Well P h v (.list ds)) : ∃ (a : Addr) (vs : List Value), v = .ref a ∧ h.get? a = some { cls := .type "list", data := .seq vs.toArray } ∧ WellAll P h vs ds := by
  cases x with
  | list ho hall => exact ⟨_, _, rfl, ho, hall⟩
theorem well_tuple {P : Params} {h : Heap} {v : Value} {ds : List WData} (x : Well P h v (.tuple ds)) : ∃ (a : Addr) (vs : List Value), v = .ref a ∧ h.get? a = some { cls := .type "tuple", data := .seq vs.toArray } ∧ WellAll P h vs ds := by
  cases x with
  | tuple ho hall => exact ⟨_, _, rfl, ho, hall⟩
theorem well_cons {P : Params} {h : Heap} {us : List Value} {d : WData} {ds : List WData} (x : WellAll P h us (d :: ds)) : ∃ (v : Value) (vs : List Value), us = v :: vs ∧ Well P h v d ∧ WellAll P h vs ds := by
  cases x with
  | cons a b => exact ⟨_, _, rfl, a, b⟩
theorem line_of {n : Nat} (h : n ≤ 1048576) : n ≤ sizeLine := Nat.le_trans h (by decide)
section
variable {P : Params} {h : Heap}
mutual
theorem area_one : ∀ (d : WData) (v : Value), Well P h v d → plW d = true → d.weight ≤ 1048576 → ∃ A : List Addr, OkU A v ∧ ∀ a ∈ A, ArgOb h A a
  | .none, _, x, _, _ => by
    cases x
    exact ⟨[], trivial, fun a m => absurd m (by simp)⟩
  | .bool b, _, x, _, _ => by
    cases x
    exact ⟨[], trivial, fun a m => absurd m (by simp)⟩
  | .int i, _, x, _, _ => by
    cases x
    exact ⟨[], trivial, fun a m => absurd m (by simp)⟩
  | .str s, _, x, _, _ => by
    cases x
    exact ⟨[], trivial, fun a m => absurd m (by simp)⟩
  | .bytes b, _, x, _, _ => by
    cases x
    exact ⟨[], trivial, fun a m => absurd m (by simp)⟩
  | .list ds, _, x, p, z => by
    obtain ⟨a, vs, rfl, ho, hall⟩ := well_list x
    have z2 : WData.weightAll ds ≤ 1048576 := z
    obtain ⟨A, h1, h2⟩ := area_all ds _ hall p fun d hd => Nat.le_trans (weight_mem hd) z2
    have k : ∀ b ∈ A, b ∈ a :: A := fun b hb => List.mem_cons_of_mem _ hb
    refine ⟨a :: A, List.mem_cons_self .., fun b hb => ?_⟩
    rcases List.mem_cons.mp hb with e | m
    · rw [e]
      exact ⟨vs, line_of (by rw [wellAll_len hall]; exact Nat.le_trans (PySem.W.length_le_weightAllW ds) z2), fun u hu => (h1 u hu).mono k, .inl ho⟩
    · exact (h2 b m).mono k
  | .tuple ds, _, x, p, z => by
    obtain ⟨a, vs, rfl, ho, hall⟩ := well_tuple x
    have z2 : WData.weightAll ds ≤ 1048576 := z
    obtain ⟨A, h1, h2⟩ := area_all ds _ hall p fun d hd => Nat.le_trans (weight_mem hd) z2
    have k : ∀ b ∈ A, b ∈ a :: A := fun b hb => List.mem_cons_of_mem _ hb
    refine ⟨a :: A, List.mem_cons_self .., fun b hb => ?_⟩
    rcases List.mem_cons.mp hb with e | m
    · rw [e]
      exact ⟨vs, line_of (by rw [wellAll_len hall]; exact Nat.le_trans (PySem.W.length_le_weightAllW ds) z2), fun u hu => (h1 u hu).mono k, .inr ho⟩
    · exact (h2 b m).mono k
  | .float _, _, _, p, _ => Bool.noConfusion (show false = true from p)
  | .dict _, _, _, p, _ => Bool.noConfusion (show false = true from p)
  | .bytearray _, _, _, p, _ => Bool.noConfusion (show false = true from p)
  | .set _, _, _, p, _ => Bool.noConfusion (show false = true from p)
  | .frozenset _, _, _, p, _ => Bool.noConfusion (show false = true from p)
  | .obj _ _, _, _, p, _ => Bool.noConfusion (show false = true from p)
theorem area_all : ∀ (ds : List WData) (vs : List Value), WellAll P h vs ds → plWs ds = true → (∀ d ∈ ds, d.weight ≤ 1048576) → ∃ A : List Addr, (∀ u ∈ vs, OkU A u) ∧ ∀ a ∈ A, ArgOb h A a
  | [], _, x, _, _ => by
    cases x
    exact ⟨[], fun u m => absurd m (by simp), fun a m => absurd m (by simp)⟩
  | d :: ds, _, x, p, z => by
    obtain ⟨v, vs, rfl, x1, x2⟩ := well_cons x
    have q : plW d = true ∧ plWs ds = true := Bool.and_eq_true_iff.mp p
    obtain ⟨A, a1, a2⟩ := area_one d v x1 q.1 (z d (List.mem_cons_self ..))
    obtain ⟨B, b1, b2⟩ := area_all ds vs x2 q.2 fun e he => z e (List.mem_cons_of_mem _ he)
    have kA : ∀ b ∈ A, b ∈ A ++ B := fun b hb => List.mem_append.mpr (.inl hb)
    have kB : ∀ b ∈ B, b ∈ A ++ B := fun b hb => List.mem_append.mpr (.inr hb)
    refine ⟨A ++ B, fun u hu => ?_, fun b hb => ?_⟩
    · rcases List.mem_cons.mp hu with e | m
      · rw [e]
        exact a1.mono kA
      · exact (b1 u m).mono kB
    · rcases List.mem_append.mp hb with m | m
      · exact (a2 b m).mono kA
      · exact (b2 b m).mono kB
end
end
noncomputable def hoOf (o : Obj) : Option HO := match o.data with
  | .seq vs _ => if (o.cls == Value.type "list") = true then some (.frz o (.lst (vs.toList.map toV))) else some (.frz o (.tup (vs.toList.map toV)))
  | _ => none
noncomputable def argH (K : PySem.W.Frag) (h : Heap) (A : List Addr) : Hp := fun b => if b ∈ A then (if (K.lookup b).isNone = true then (h.get? b).bind hoOf else none) else none
noncomputable def OnlyF (H : Hp) : Prop := ∀ b, H b = none ∨ ∃ o u, H b = some (.frz o u)
theorem hoOf_lst (vs : List Value) : hoOf { cls := .type "list", data := .seq vs.toArray } = some (.frz { cls := .type "list", data := .seq vs.toArray } (.lst (vs.map toV))) := by
  show (if (Value.type "list" == Value.type "list") = true then some (HO.frz { cls := .type "list", data := .seq vs.toArray } (.lst (vs.toArray.toList.map toV))) else some (HO.frz { cls := .type "list", data := .seq vs.toArray } (.tup (vs.toArray.toList.map toV)))) = _
  rw [if_pos (beq_self_eq_true _)]
theorem hoOf_tup (vs : List Value) : hoOf { cls := .type "tuple", data := .seq vs.toArray } = some (.frz { cls := .type "tuple", data := .seq vs.toArray } (.tup (vs.map toV))) := by
  show (if (Value.type "tuple" == Value.type "list") = true then some (HO.frz { cls := .type "tuple", data := .seq vs.toArray } (.lst (vs.toArray.toList.map toV))) else some (HO.frz { cls := .type "tuple", data := .seq vs.toArray } (.tup (vs.toArray.toList.map toV)))) = _
  rw [if_neg (by decide)]
section
variable {P : Program} {w : World} {K : PySem.W.Frag} {h : Heap} {A : List Addr}
theorem argH_at {b : Addr} {o : Obj} (hb : b ∈ A) (hk : K.lookup b = none) (e : h.get? b = some o) : argH K h A b = hoOf o := by
  unfold argH
  rw [if_pos hb, hk, if_pos (show (none : Option Obj).isNone = true from rfl), e] <;> rfl
theorem of_argH {b : Addr} {u : HO} (q : argH K h A b = some u) : b ∈ A ∧ K.lookup b = none := by
  unfold argH at q
  by_cases hb : b ∈ A
  · rw [if_pos hb] at q
    cases hk : K.lookup b with
    | none => exact ⟨hb, rfl⟩
    | some o =>
      rw [hk, if_neg (by simp)] at q
      cases q
  · rw [if_neg hb] at q
    cases q
theorem argH_is (ar : ∀ a ∈ A, ArgOb h A a) {b : Addr} {u : HO} (q : argH K h A b = some u) : K.lookup b = none ∧ ∃ vs : List Value, vs.length ≤ sizeLine ∧ (∀ u ∈ vs, OkU A u) ∧
    ((h.get? b = some { cls := .type "list", data := .seq vs.toArray } ∧ u = .frz { cls := .type "list", data := .seq vs.toArray } (.lst (vs.map toV))) ∨
     (h.get? b = some { cls := .type "tuple", data := .seq vs.toArray } ∧ u = .frz { cls := .type "tuple", data := .seq vs.toArray } (.tup (vs.map toV)))) := by
  obtain ⟨hb, hk⟩ := of_argH q
  obtain ⟨vs, h1, h2, h3⟩ := ar b hb
  refine ⟨hk, vs, h1, h2, ?_⟩
  rcases h3 with e | e
  · rw [argH_at hb hk e, hoOf_lst] at q
    exact .inl ⟨e, (Option.some.inj q).symm⟩
  · rw [argH_at hb hk e, hoOf_tup] at q
    exact .inr ⟨e, (Option.some.inj q).symm⟩
theorem argH_only (ar : ∀ a ∈ A, ArgOb h A a) : OnlyF (argH K h A) := fun b => by
  cases q : argH K h A b with
  | none => exact .inl rfl
  | some u =>
    obtain ⟨_, vs, _, _, ⟨_, e⟩ | ⟨_, e⟩⟩ := argH_is ar q
    · exact .inr ⟨_, _, by rw [e]⟩
    · exact .inr ⟨_, _, by rw [e]⟩
theorem argH_ok (ar : ∀ a ∈ A, ArgOb h A a) : HOk P w (argH K h A) h := fun b u q => by
  obtain ⟨_, vs, h1, h2, ⟨e, rfl⟩ | ⟨e, rfl⟩⟩ := argH_is ar q
  · exact ⟨e, by rw [List.length_map]; exact h1, vs, _, vals_toV h2, e⟩
  · exact ⟨e, by rw [List.length_map]; exact h1, vs, vals_toV h2, _, e, rfl, _, rfl⟩
theorem seq_inj {c c' : Value} {vs us : List Value} (e : (some { cls := c, data := .seq vs.toArray } : Option Obj) = some { cls := c', data := .seq us.toArray }) : c = c' ∧ vs = us := by
  have e1 := Option.some.inj e
  have e2 : c = c' := congrArg Obj.cls e1
  have e3 : Data.seq vs.toArray = Data.seq us.toArray := congrArg Obj.data e1
  injection e3 with e4
  refine ⟨e2, ?_⟩
  have e5 := congrArg Array.toList e4
  simpa using e5
theorem argL (KX : K.In h) (ar : ∀ a ∈ A, ArgOb h A a) {a : Addr} {vs : List Value} (ha : a ∈ A) (e : h.get? a = some { cls := .type "list", data := .seq vs.toArray }) : (∀ u ∈ vs, OkU A u) ∧ SqL K (argH K h A) a (vs.map toV) := by
  obtain ⟨us, h1, h2, h3⟩ := ar a ha
  have hu : us = vs := by
    rcases h3 with q | q
    · rw [e] at q
      exact (seq_inj q).2.symm
    · rw [e] at q
      exact absurd (Value.type.inj (seq_inj q).1) (by decide)
  subst hu
  refine ⟨h2, ?_⟩
  cases hk : K.lookup a with
  | none => exact .inl (.inr ⟨_, by rw [argH_at ha hk e, hoOf_lst]⟩)
  | some o =>
    have e2 := KX a o hk
    rw [e] at e2
    obtain rfl := Option.some.inj e2
    exact .inr ⟨_, us.toArray, _, hk, rfl, rfl, rfl, by rw [List.size_toArray]; exact h1, by simpa using vals_toV h2⟩
theorem argT (KX : K.In h) (ar : ∀ a ∈ A, ArgOb h A a) {a : Addr} {vs : List Value} (ha : a ∈ A) (e : h.get? a = some { cls := .type "tuple", data := .seq vs.toArray }) : (∀ u ∈ vs, OkU A u) ∧ SqT K (argH K h A) a (vs.map toV) := by
  obtain ⟨us, h1, h2, h3⟩ := ar a ha
  have hu : us = vs := by
    rcases h3 with q | q
    · rw [e] at q
      exact absurd (Value.type.inj (seq_inj q).1) (by decide)
    · rw [e] at q
      exact (seq_inj q).2.symm
  subst hu
  refine ⟨h2, ?_⟩
  cases hk : K.lookup a with
  | none => exact .inl (.inr ⟨_, by rw [argH_at ha hk e, hoOf_tup]⟩)
  | some o =>
    have e2 := KX a o hk
    rw [e] at e2
    obtain rfl := Option.some.inj e2
    exact .inr ⟨_, us.toArray, _, hk, rfl, rfl, by rw [List.size_toArray]; exact h1, by simpa using vals_toV h2⟩
mutual
theorem dw_one {Pm : Params} (KX : K.In h) (ar : ∀ a ∈ A, ArgOb h A a) : ∀ (d : WData) (v : Value), Well Pm h v d → plW d = true → OkU A v → Dw K (argH K h A) (toV v) d
  | .none, _, x, _, _ => by
    cases x
    exact .non
  | .bool b, _, x, _, _ => by
    cases x
    exact .bl b
  | .int i, _, x, _, _ => by
    cases x
    exact .int i
  | .str s, _, x, _, _ => by
    cases x
    exact .str s
  | .bytes b, _, x, _, _ => by
    cases x
    have z := Dw.byt (K := K) (H := argH K h A) b.toArray
    exact z
  | .list ds, _, x, p, hu => by
    obtain ⟨a, vs, rfl, ho, hall⟩ := well_list x
    obtain ⟨h2, hs⟩ := argL KX ar hu ho
    exact .lst hs (dw_all KX ar ds _ hall p h2)
  | .tuple ds, _, x, p, hu => by
    obtain ⟨a, vs, rfl, ho, hall⟩ := well_tuple x
    obtain ⟨h2, hs⟩ := argT KX ar hu ho
    exact .tup hs (dw_all KX ar ds _ hall p h2)
  | .float _, _, _, p, _ => Bool.noConfusion (show false = true from p)
  | .dict _, _, _, p, _ => Bool.noConfusion (show false = true from p)
  | .bytearray _, _, _, p, _ => Bool.noConfusion (show false = true from p)
  | .set _, _, _, p, _ => Bool.noConfusion (show false = true from p)
  | .frozenset _, _, _, p, _ => Bool.noConfusion (show false = true from p)
  | .obj _ _, _, _, p, _ => Bool.noConfusion (show false = true from p)
theorem dw_all {Pm : Params} (KX : K.In h) (ar : ∀ a ∈ A, ArgOb h A a) : ∀ (ds : List WData) (vs : List Value), WellAll Pm h vs ds → plWs ds = true → (∀ u ∈ vs, OkU A u) → DwAll K (argH K h A) (vs.map toV) ds
  | [], _, x, _, _ => by
    cases x
    exact .nil
  | d :: ds, _, x, p, hu => by
    obtain ⟨v, vs, rfl, x1, x2⟩ := well_cons x
    have q : plW d = true ∧ plWs ds = true := Bool.and_eq_true_iff.mp p
    exact .cons (dw_one KX ar d v x1 q.1 (hu _ (List.mem_cons_self ..))) (dw_all KX ar ds vs x2 q.2 fun u m => hu u (List.mem_cons_of_mem _ m))
end
end
theorem spec_call {P : Program} {w : World} {K : PySem.W.Frag} {mg mb : Str → Option Value} {CX : CXT} {k : Nat} {fa : Addr} {fd : FuncData} {ps : List Str} {sp : Sp} {s₁ : Shared} {vals : List Value} {ds : List WData} {R : PySem.W.WRecords} {cl : Str → Option Addr} {d0 : WData}
    (KX : K.In s₁.heap) (hns : s₁.heap.Ns mainGlobals mg) (hb : s₁.heap.Ns builtinsNs mb) (hbb : ∀ x : Str, x ≠ "__name__" → mb x = bootBuiltins x) (hlim : s₁.heap.NoLimit) (hg : s₁.gens = #[])
    (hwl : WellAll w.params s₁.heap vals ds) (hpl : plWs ds = true) (hwt : ∀ d ∈ ds, d.weight ≤ 1048576) (hr : Room k callerA)
    (F : ∀ base : Heap, K.In base → base.Ns mainGlobals mg → FnOk P w K mg base CX k fa fd ps sp) (hbind : ∀ (s : Shared) (us : List Value), us.length = ps.length → BindsTo s fd ⟨us, []⟩ (ps.zip us)) (hlen : ds.length = ps.length)
    (hsp : ∀ (H : Hp) (xs : List V), OnlyF H → DwAll K H xs ds → sp xs H (fun v H' => Dw K H' v d0) fun _ _ _ => False)
    (hCX : ∀ H e s', CX [] H s₁ (fun _ _ _ => False) e s' → False) :
    codeAny (model P w) callerA (.call (.ref fa) ⟨vals, []⟩) (fun r s' => ∃ u as, r = .ok (.ret u) ∧ ReadsW R cl s'.heap u d0 as ∧ OldK s₁.heap s'.heap ∧ s'.os = s₁.os ∧ AllBare s'.gens) s₁ := by
  obtain ⟨A, ho, ar⟩ := area_all ds vals hwl hpl hwt
  have hO : OnlyF (argH K s₁.heap A) := argH_only ar
  have hok : HOk P w (argH K s₁.heap A) s₁.heap := argH_ok ar
  have hS := dw_all KX ar ds vals hwl hpl ho
  have hV := vals_toV ho
  have hK : ∀ b u, argH K s₁.heap A b = some u → K.lookup b = none := fun b u q => (argH_is ar q).1
  have noA : ∀ {b : Addr} {o : Obj} {es : Array DictEntry} {ep : Nat}, s₁.heap.get? b = some o → o.data = .dict es ep → argH K s₁.heap A b = none := fun {b o es ep} e d => by
    cases q : argH K s₁.heap A b with
    | none => rfl
    | some u =>
      obtain ⟨_, vs, _, _, ⟨e2, _⟩ | ⟨e2, _⟩⟩ := argH_is ar q
      · rw [e2] at e
        cases e
        have d' : Data.seq vs.toArray _ = Data.dict es ep := d
        cases d'
      · rw [e2] at e
        cases e
        have d' : Data.seq vs.toArray _ = Data.dict es ep := d
        cases d'
  generalize argH K s₁.heap A = H at hO hok hS hK noA
  have base_of : ∀ {b : Addr} {o : Obj}, s₁.heap.get? b = some o → H b = none → (hidT s₁.heap H).get? b = some o := fun e n => hidT_get e n
  have nsK : ∀ {b : Addr} {m : Str → Option Value}, s₁.heap.Ns b m → (hidT s₁.heap H).Ns b m := fun {b m} ⟨o, es, ep, e, d, r⟩ => ⟨o, es, ep, base_of e (noA e d), d, r⟩
  have nK : ∀ b o, K.lookup b = some o → H b = none := fun b o e => by
    cases q : H b with
    | none => rfl
    | some u =>
      rw [hK b u q] at e
      cases e
  have hKb : K.In (hidT s₁.heap H) := fun b o e => base_of (KX b o e) (nK b o e)
  have hM : Mod K mg (hidT s₁.heap H) := ⟨hKb, nsK hns, ⟨mb, nsK hb, hbb⟩, let ⟨mc, h1, h2⟩ := hlim; ⟨mc, nsK h1, h2⟩⟩
  have e0 : Env0 P w K mg (hidT s₁.heap H) callerA [] s₁ H := ⟨rfl, hM, fun b o e => of_hidT e, Nat.le_of_eq (hidT_size _ _), trivial, fun b hb => absurd (show b ∈ ([] : List Addr) from hb) (by simp), hok, .of_eq hg⟩
  have hl : vals.length = ps.length := by rw [wellAll_len hwl]; exact hlen
  refine codeAny_mono ((F _ hKb (nsK hns)).run callerA [] s₁ H ⟨vals, []⟩ vals (vals.map toV) _ _ hr e0 (hbind s₁ vals hl) hV (hsp H _ hO hS)) fun r s' x => ?_
  cases r with
  | error e => exact (hCX H e s' x).elim
  | ok fl =>
    cases fl with
    | next => exact False.elim x
    | brk => exact False.elim x
    | cont => exact False.elim x
    | ret u =>
      obtain ⟨v, H', os, bare, un, hok', r', q⟩ := x
      have kept : ∀ b o, s₁.heap.get? b = some o → s'.heap.get? b = some o := fun b o e => by
        cases q2 : H b with
        | none => exact un.keep b o e q2 (by intro z; exact absurd (show b ∈ ([] : List Addr) from z) (by simp)) (by simp)
        | some u2 =>
          rcases hO b with z | ⟨ob, u3, z⟩
          · rw [q2] at z
            cases z
          · have z2 := un.frzs b ob _ z
            obtain ⟨e1, _⟩ := hok b _ z
            obtain ⟨e2, _⟩ := hok' b _ z2
            rw [e] at e1
            cases e1
            exact e2
      have KX' : K.In s'.heap := fun b o e => kept b o (KX b o e)
      obtain ⟨as, hrd⟩ := Dw.reads (R := R) (cl := cl) hok' KX' d0 v u q r'
      exact ⟨u, as, rfl, hrd, OldK.of_keep kept, os, bare⟩
theorem layable_weight {ds : List WData} (h : WData.layableAll ds = true) : ∀ d ∈ ds, d.weight ≤ 1048576 := fun d hd =>
  (PySem.W.layableW_iff.mp (List.all_eq_true.mp h d hd)).2.2
theorem encAll_len : ∀ (cs : List Codec) (a : Codec.denoteAll cs), (Codec.encAll cs a).length = cs.length
  | [], _ => rfl
  | c :: cs, a => by
    show (Codec.encAll cs a.2).length + 1 = cs.length + 1
    rw [encAll_len cs a.2]
theorem walk_spec {r : OpenSpec} {k : Nat} {q : Program} {loose : List Str} {XP : (Str → Option Value) → Heap → Prop} {YP : World → Heap → Prop} {d : DefRec} {K : Params → PySem.W.Frag} {CX : World → CXT} {ps : List Str} {sp : World → Sp}
    (hwell : r.wellSaid = true) (hdf : d.params.defaults = []) (hlen : r.args.length = ps.length) (hr : Room k callerA)
    (hY : ∀ (w : World) (h : Heap), YP w h → (K w.params).In h)
    (F : ∀ (w : World) (mg : Str → Option Value) (fa : Addr) (h : Heap), YP w h → (K w.params).In h → h.Ns mainGlobals mg → mg d.name = some (.ref fa) →
      ∃ fd : FuncData, (∀ (s : Shared) (us : List Value), us.length = ps.length → BindsTo s fd ⟨us, []⟩ (ps.zip us)) ∧
        ∀ base : Heap, (K w.params).In base → base.Ns mainGlobals mg → FnOk r.prog w (K w.params) mg base (CX w) k fa fd ps (sp w))
    (hsp : ∀ (w : World) (H : Hp) (xs : List V) (a : Codec.denoteAll r.args), OnlyF H → Codec.withinAll r.args a = true → Codec.app r.args r.asked a = true → DwAll (K w.params) H xs (Codec.encAll r.args a) →
      sp w xs H (fun v H' => Dw (K w.params) H' v (r.ret.enc (Codec.app r.args r.f a))) fun _ _ _ => False)
    (hCX : ∀ (w : World) (H : Hp) (s : Shared) (e : Value) (s' : Shared), CX w [] H s (fun _ _ _ => False) e s' → False) :
    PySem.W.WalkOS q loose XP YP r d [] (fun f vs => PySem.call f vs) := by
  intro w s_0 s₁ mg mb G Y fa o pm cd doc dV kV ho hd hcd hD hmg hg args vals as hpre hlay hrd hwl hlo
  obtain ⟨a, e1, e2⟩ := PySem.W.os_pre_some hpre
  obtain ⟨e3, hwi⟩ := Codec.encAll_of_decAll r.args args a e1
  subst e3
  have KX := hY w _ Y
  obtain ⟨fd, hb, hF⟩ := F w mg fa _ Y KX G.T.g hmg
  refine PySem.W.enter_call (codeAny_mono (spec_call (R := []) (cl := classAt s_0.heap) (d0 := r.ret.enc (Codec.app r.args r.f a)) KX G.T.g G.T.b G.T.builtins G.T.nolimit hg hwl (pl_encAll _ _) (layable_weight hlay) hr hF hb (by rw [encAll_len]; exact hlen)
    (fun H xs hO hS => hsp w H xs a hO hwi e2 hS) fun H e s' => hCX w H s₁ e s') fun r' s' hq => ?_)
  obtain ⟨u, as', rfl, h1, h2, h3, h4⟩ := hq
  exact ⟨.inl ⟨u, _, as', rfl, fun _ => rfl, h1, (OpenSpec.post_iff hwell hwi _ _).mpr rfl, fun z => Bool.noConfusion (show false = true from z)⟩, h2, h3, h4⟩
theorem walk_specK {r : OpenSpec} {k : Nat} {q : Program} {loose : List Str} {XP : (Str → Option Value) → Heap → Prop} {YP : World → Heap → Prop} {d : DefRec} {K : Params → PySem.W.Frag} {CX : CXT} {ps : List Str} {sp : PySem.W.Frag → Sp}
    (hwell : r.wellSaid = true) (hdf : d.params.defaults = []) (hlen : r.args.length = ps.length) (hr : Room k callerA)
    (hY : ∀ (w : World) (h : Heap), YP w h → (K w.params).In h)
    (F : ∀ (w : World) (mg : Str → Option Value) (fa : Addr) (h : Heap), YP w h → (K w.params).In h → h.Ns mainGlobals mg → mg d.name = some (.ref fa) →
      ∃ fd : FuncData, (∀ (s : Shared) (us : List Value), us.length = ps.length → BindsTo s fd ⟨us, []⟩ (ps.zip us)) ∧
        ∀ base : Heap, (K w.params).In base → base.Ns mainGlobals mg → FnOk r.prog w (K w.params) mg base CX k fa fd ps (sp (K w.params)))
    (hsp : ∀ (K : PySem.W.Frag) (H : Hp) (xs : List V) (a : Codec.denoteAll r.args), OnlyF H → Codec.withinAll r.args a = true → Codec.app r.args r.asked a = true → DwAll K H xs (Codec.encAll r.args a) →
      sp K xs H (fun v H' => Dw K H' v (r.ret.enc (Codec.app r.args r.f a))) fun _ _ _ => False)
    (hCX : ∀ (H : Hp) (s : Shared) (e : Value) (s' : Shared), CX [] H s (fun _ _ _ => False) e s' → False) :
    PySem.W.WalkOS q loose XP YP r d [] (fun f vs => PySem.call f vs) :=
  walk_spec (K := K) (CX := fun _ => CX) (sp := fun w => sp (K w.params)) hwell hdf hlen hr hY F (fun w H xs a h1 h2 h3 h4 => hsp (K w.params) H xs a h1 h2 h3 h4) fun _ H s e s' => hCX H s e s'
end L2
-- rests on (row put in by the clerk, for the bench that shows a file only what it spells): KE.SpHead KE.OsShapes
end
section
set_option Elab.async false
set_option linter.all false
set_option maxRecDepth 100000
set_option maxHeartbeats 2000000
namespace Zt
open PySem PySem.Spec PyProof.Rows L2
section
variable {pr : Program} {wo : World} {Ar : Around} {Ex : Value → Shared → Prop} {st : Shared}
theorem nxt_item {ia ta : Addr} {n : Nat} {its : Array Value} {v : Value} {Q : Value → Shared → Prop} (hi : st.heap.IsTupleIter ia ta n) (ht : st.heap.IsTuple ta its) (hv : its[n]? = some v)
    (k : ∀ h', h'.IsTupleIter ia ta (n + 1) → Heap.SameBut ia st.heap h' → Q v { st with heap := h' }) : wpAny (model pr wo) Ar (Builtin.SmallTypes.nextOf (.ref ia)) Q Ex st := by
  obtain ⟨oi, gi, ci, di⟩ := id hi
  obtain ⟨ot, gt, _, nt, dt⟩ := ht
  unfold Builtin.SmallTypes.nextOf
  refine wpAny_bind (wpAny_callSpecial?_slot (name := Str.ofString "__next__") hi.typeIs F.slot_tuple_iterator_next (wpAny_call_entry F.slot_tuple_iterator_next hi.typeIs F.entry_tuple_iterator_next ?_ (F.args_tuple_iterator_next_1 _)))
  show wpAny _ _ (field (.ref ia) 0 >>= _) _ _ st
  refine wpAny_bind (wpAny_field gi di (x := .ref ta) rfl ?_)
  show wpAny _ _ (if (Value.ref ta == Value.none) = true then _ else _) _ _ st
  rw [if_neg (show ¬ ((Value.ref ta == Value.none) = true) from Bool.false_ne_true)]
  show wpAny _ _ (field (.ref ia) 1 >>= _) _ _ st
  refine wpAny_bind (wpAny_field gi di (x := .int n 0) rfl ?_)
  show wpAny _ _ (seqItems? (.ref ta) >>= _) _ _ st
  refine wpAny_bind (wpAny_seqItems gt dt ?_)
  simp only [Int.toNat_natCast, hv]
  refine wpAny_bind (wpAny_setField gi di (by simp) (wpAny_pure ⟨v, rfl, wpAny_pure (k _ ?_ (Heap.SameBut.update ..))⟩))
  exact ⟨_, Heap.get?_update_self _ gi (Obj.isFreed_of_fields (Obj.data_mapFields di _)), (Obj.cls_mapFields ..).trans ci, by rw [Obj.data_mapFields di]; simp [rawInt]⟩
theorem nxt_end {ia ta : Addr} {n : Nat} {its : Array Value} {Q : Value → Shared → Prop} (hh : Ar.handled = none) (hi : st.heap.IsTupleIter ia ta n) (ht : st.heap.IsTuple ta its) (hv : its[n]? = none)
    (k : ∀ h' e, Heap.ExtBut ia st.heap h' → (∃ o, h'.get? e = some o ∧ o.cls = .type "StopIteration") → Ex (.ref e) { st with heap := h' }) : wpAny (model pr wo) Ar (Builtin.SmallTypes.nextOf (.ref ia)) Q Ex st := by
  obtain ⟨oi, gi, ci, di⟩ := id hi
  obtain ⟨ot, gt, _, nt, dt⟩ := ht
  unfold Builtin.SmallTypes.nextOf
  refine wpAny_bind (wpAny_callSpecial?_slot (name := Str.ofString "__next__") hi.typeIs F.slot_tuple_iterator_next (wpAny_call_entry F.slot_tuple_iterator_next hi.typeIs F.entry_tuple_iterator_next ?_ (F.args_tuple_iterator_next_1 _)))
  show wpAny _ _ (field (.ref ia) 0 >>= _) _ _ st
  refine wpAny_bind (wpAny_field gi di (x := .ref ta) rfl ?_)
  show wpAny _ _ (if (Value.ref ta == Value.none) = true then _ else _) _ _ st
  rw [if_neg (show ¬ ((Value.ref ta == Value.none) = true) from Bool.false_ne_true)]
  show wpAny _ _ (field (.ref ia) 1 >>= _) _ _ st
  refine wpAny_bind (wpAny_field gi di (x := .int n 0) rfl ?_)
  show wpAny _ _ (seqItems? (.ref ta) >>= _) _ _ st
  refine wpAny_bind (wpAny_seqItems gt dt ?_)
  simp only [Int.toNat_natCast, hv]
  refine wpAny_bind (wpAny_rule (wpAny_bind (wpAny_setField gi di (by simp) ?_)))
  show wpAny _ _ (newExc (.type "StopIteration") [] >>= _) _ _ (Shared.mk _ _ _ _ _)
  refine wpAny_bind (Q := _) ?_
  simp only [newExc, newTuple] at *
  refine wpAny_bind (wpAny_newObj_type ?_ ((by size_fits)))
  refine wpAny_bind (m := firstArgMember _ _) (wpAny_of_eq (a := Value.none) ((by first | rfl | (simp only [firstArgMember]; rfl))) ?_)
  refine wpAny_newObj_type ?_ ((by size_fits))
  simp only [raiseNew] at *
  refine wpAny_bind (wpAny_handled (Q := _) ?fin)
  case fin =>
    first | rw [show Ar.in1.handled = none from hh] | rw [hh]
    exact wpAny_bind (wpAny_pure (wpAny_throw (k _ _ (((Heap.SameBut.update ..).extBut.push _).push _) ⟨_, Heap.get?_push_size _ rfl, rfl⟩)))
theorem next_item {z TI TO ia ib la lb : Addr} {m n : Nat} {us vs : Array Value} {u v p q : Value} {Q : Value → Shared → Prop} (D : ZipApart z TI TO ia ib la lb)
    (hz : IsZip st.heap z TI TO .none) (hI : IsPair st.heap TI (.ref ia) (.ref ib)) (hO : IsPair st.heap TO p q)
    (ha : st.heap.IsTupleIter ia la m) (hb : st.heap.IsListIter ib lb n) (ta : st.heap.IsTuple la us) (tb : st.heap.IsList lb vs) (hu : us[m]? = some u) (hv : vs[n]? = some v)
    (k : ∀ h', IsZip h' z TI TO (rawInt st.heap.objs.size) → IsPair h' TO u v → h'.IsTupleIter ia la (m + 1) → h'.IsListIter ib lb (n + 1) → IsPair h' st.heap.objs.size u v → h'.objs.size = st.heap.objs.size + 1 →
      (∀ c o, c ≠ z → c ≠ TO → c ≠ ia → c ≠ ib → st.heap.get? c = some o → h'.get? c = some o) → Q (.ref st.heap.objs.size) { st with heap := h' }) :
    wpAny (model pr wo) Ar (Builtin.«zip.__next__» ⟨[.ref z], []⟩) (fun fin s' => ∃ v, fin = .done (.ret v) ∧ Q v s') Ex st := by
  show wpAny _ _ (field (.ref z) 2 >>= _) _ _ st
  refine wpAny_bind (wpAny_field hz rfl (x := .bool false) rfl (?_))
  show wpAny _ _ (field (.ref z) 3 >>= _) _ _ st
  refine wpAny_bind (wpAny_field hz rfl (x := .ref TI) rfl (?_))
  refine wpAny_bind (wpAny_seqItems hI rfl ?_)
  show wpAny _ _ (Builtin.SmallTypes.ownedTupleIsFree (.ref z) >>= _) _ _ st
  refine wpAny_bind (Q := _) ?_
  unfold Builtin.SmallTypes.ownedTupleIsFree
  refine wpAny_bind (wpAny_field hz rfl (x := .none) rfl (wpAny_pure (?_)))
  simp only [if_true] at *
  refine wpAny_bind (wpAny_rule (?_))
  refine wpAny_bind (wpAny_field hz rfl (x := .ref TO) rfl (?_))
  refine wpAny_bind (wpAny_setField_rec hz (by simp) fun g1 z1 s1 => ?_)
  replace z1 : IsZip g1 z TI TO .ellipsis := z1
  refine wpAny_bind (Q := _) ?_
  simp only [List.zipIdx_cons, List.zipIdx_nil, List.forIn_cons, List.forIn_nil] at *
  refine wpAny_bind (wpAny_bind (wpAny_onRaise (?_)))
  show wpAny _ _ (Builtin.SmallTypes.nextOf (.ref ia) >>= _) _ _ _
  refine wpAny_bind (nxt_item (ha.extBut s1.extBut D.i1z) (ta.extBut s1.extBut D.l1z) hu fun g2 a2 s2 => wpAny_pure ?_)
  have O2 : IsPair g2 TO p q := s2.extBut _ _ D.TOi1 (s1.extBut _ _ D.TOz hO)
  refine wpAny_bind (wpAny_seqItems O2 rfl ?_)
  refine wpAny_bind (wpAny_updateSeq_pair O2 fun g3 O3 s3 => ?_)
  replace O3 : IsPair g3 TO u q := O3
  refine wpAny_bind (wpAny_letGo (wpAny_pure (?_)))
  refine wpAny_bind (wpAny_bind (wpAny_onRaise (?_)))
  show wpAny _ _ (Builtin.SmallTypes.nextOf (.ref ib) >>= _) _ _ _
  refine wpAny_bind (wpAny_nextOf_list_item (((hb.extBut s1.extBut D.i2z).extBut s2.extBut D.i12.symm).extBut s3.extBut D.TOi2.symm) (((tb.extBut s1.extBut D.l2z).extBut s2.extBut D.l2i1).extBut s3.extBut D.l2TO) hv fun g4 b4 s4 => wpAny_pure ?_)
  have O4 : IsPair g4 TO u q := s4.extBut _ _ D.TOi2 O3
  refine wpAny_bind (wpAny_seqItems O4 rfl ?_)
  refine wpAny_bind (wpAny_updateSeq_pair O4 fun g5 O5 s5 => ?_)
  replace O5 : IsPair g5 TO u v := O5
  refine wpAny_bind (wpAny_letGo (wpAny_pure (wpAny_pure (?_))))
  refine wpAny_bind (wpAny_seqItems O5 rfl ?_)
  refine wpAny_bind (wpAny_newTuple (?_))
  have sz : g5.objs.size = st.heap.objs.size := by rw [s5.1, s4.1, s3.1, s2.1, s1.1]
  have z5 : IsZip g5 z TI TO .ellipsis := s5.extBut _ _ D.TOz.symm (s4.extBut _ _ D.i2z.symm (s3.extBut _ _ D.TOz.symm (s2.extBut _ _ D.i1z.symm z1)))
  have k5 : ∀ c o, c ≠ z → c ≠ TO → c ≠ ia → c ≠ ib → st.heap.get? c = some o → g5.get? c = some o := fun c o c1 c2 c3 c4 e =>
    s5.extBut _ _ c2 (s4.extBut _ _ c4 (s3.extBut _ _ c2 (s2.extBut _ _ c3 (s1.extBut _ _ c1 e))))
  have a5 : g5.IsTupleIter ia la (m + 1) := ((a2.extBut s3.extBut D.TOi1.symm).extBut s4.extBut D.i12).extBut s5.extBut D.TOi1.symm
  have b5 : g5.IsListIter ib lb (n + 1) := b4.extBut s5.extBut D.TOi2.symm
  have lz : z < g5.objs.size := Heap.lt_size z5
  show wpAny _ _ (Builtin.SmallTypes.ownedTupleHandOut (.ref z) (.ref g5.objs.size) >>= _) _ _ _
  refine wpAny_bind (Q := _) ?_
  unfold Builtin.SmallTypes.ownedTupleHandOut
  have z6 : IsZip (g5.push { cls := .type "tuple", data := .seq #[u, v] }) z TI TO .ellipsis := Heap.get?_push_of_some _ z5
  refine wpAny_bind (wpAny_setField_rec z6 (by simp) fun g7 z7 s7 => ?_)
  replace z7 : IsZip g7 z TI TO (rawInt g5.objs.size) := z7
  refine wpAny_setField_rec z7 (by simp) fun g8 z8 s8 => ?_
  replace z8 : IsZip g8 z TI TO (rawInt g5.objs.size) := z8
  have up : ∀ c o, c ≠ z → g5.get? c = some o → g8.get? c = some o := fun c o c1 e => s8.extBut _ _ c1 (s7.extBut _ _ c1 (Heap.get?_push_of_some _ e))
  have T8 : IsPair g8 g5.objs.size u v := s8.extBut _ _ (Nat.ne_of_gt lz) (s7.extBut _ _ (Nat.ne_of_gt lz) (Heap.get?_push_size _ rfl))
  have y8 : g8.objs.size = g5.objs.size + 1 := by rw [s8.1, s7.1, Heap.size_push]
  rw [sz] at z8 T8 y8
  refine wpAny_pure ⟨_, rfl, (?_)⟩
  show Q (.ref g5.objs.size) _
  rw [sz]
  exact k g8 z8 (up _ _ D.TOz O5) (a5.at fun o e => up _ o D.i1z e) (b5.at fun o e => up _ o D.i2z e) T8 y8 fun c o c1 c2 c3 c4 e => up c o c1 (k5 c o c1 c2 c3 c4 e)
theorem next_end {z TI TO ia ib la lb : Addr} {m n : Nat} {us vs : Array Value} {p q : Value} {Q : Fin → Shared → Prop} (hh : Ar.handled = none) (D : ZipApart z TI TO ia ib la lb)
    (hz : IsZip st.heap z TI TO .none) (hI : IsPair st.heap TI (.ref ia) (.ref ib)) (hO : IsPair st.heap TO p q)
    (ha : st.heap.IsTupleIter ia la m) (hb : st.heap.IsListIter ib lb n) (ta : st.heap.IsTuple la us) (tb : st.heap.IsList lb vs) (hend : us[m]? = none ∨ vs[n]? = none)
    (k : ∀ h' e, (∀ c o, c ≠ z → c ≠ TO → c ≠ ia → c ≠ ib → st.heap.get? c = some o → h'.get? c = some o) → (∃ o, h'.get? e = some o ∧ o.cls = .type "StopIteration") → Ex (.ref e) { st with heap := h' }) :
    wpAny (model pr wo) Ar (Builtin.«zip.__next__» ⟨[.ref z], []⟩) Q Ex st := by
  show wpAny _ _ (field (.ref z) 2 >>= _) _ _ st
  refine wpAny_bind (wpAny_field hz rfl (x := .bool false) rfl (?_))
  show wpAny _ _ (field (.ref z) 3 >>= _) _ _ st
  refine wpAny_bind (wpAny_field hz rfl (x := .ref TI) rfl (?_))
  refine wpAny_bind (wpAny_seqItems hI rfl ?_)
  show wpAny _ _ (Builtin.SmallTypes.ownedTupleIsFree (.ref z) >>= _) _ _ st
  refine wpAny_bind (Q := _) ?_
  unfold Builtin.SmallTypes.ownedTupleIsFree
  refine wpAny_bind (wpAny_field hz rfl (x := .none) rfl (wpAny_pure (?_)))
  simp only [if_true] at *
  refine wpAny_bind (wpAny_rule (?_))
  refine wpAny_bind (wpAny_field hz rfl (x := .ref TO) rfl (?_))
  refine wpAny_bind (wpAny_setField_rec hz (by simp) fun g1 z1 s1 => ?_)
  replace z1 : IsZip g1 z TI TO .ellipsis := z1
  refine wpAny_bind (Q := _) ?_
  simp only [List.zipIdx_cons, List.zipIdx_nil, List.forIn_cons, List.forIn_nil] at *
  refine wpAny_bind (wpAny_bind (wpAny_onRaise (?_)))
  show wpAny _ _ (Builtin.SmallTypes.nextOf (.ref ia) >>= _) _ _ _
  cases hu : us[m]? with
  | none =>
    refine wpAny_bind (nxt_end hh (ha.extBut s1.extBut D.i1z) (ta.extBut s1.extBut D.l1z) hu fun g2 e s2 he => ?_)
    obtain ⟨oe, goe, ce⟩ := he
    have z2 : IsZip g2 z TI TO .ellipsis := s2 _ _ D.i1z.symm z1
    have ez : e ≠ z := fun x => by subst x; rw [z2] at goe; cases goe; simp at ce
    exact wpAny_setField_rec z2 (by simp) fun g3 _ s3 => k g3 e (fun c o c1 _ c3 _ x => s3.extBut _ _ c1 (s2 _ _ c3 (s1.extBut _ _ c1 x))) ⟨oe, s3.extBut _ _ ez goe, ce⟩
  | some u =>
    have hv : vs[n]? = none := by
      rcases hend with h | h
      · rw [hu] at h; cases h
      · exact h
    refine wpAny_bind (nxt_item (ha.extBut s1.extBut D.i1z) (ta.extBut s1.extBut D.l1z) hu fun g2 a2 s2 => wpAny_pure ?_)
    have O2 : IsPair g2 TO p q := s2.extBut _ _ D.TOi1 (s1.extBut _ _ D.TOz hO)
    refine wpAny_bind (wpAny_seqItems O2 rfl ?_)
    refine wpAny_bind (wpAny_updateSeq_pair O2 fun g3 O3 s3 => ?_)
    refine wpAny_bind (wpAny_letGo (wpAny_pure (?_)))
    refine wpAny_bind (wpAny_bind (wpAny_onRaise (?_)))
    show wpAny _ _ (Builtin.SmallTypes.nextOf (.ref ib) >>= _) _ _ _
    refine wpAny_bind (wpAny_nextOf_list_end hh (((hb.extBut s1.extBut D.i2z).extBut s2.extBut D.i12.symm).extBut s3.extBut D.TOi2.symm) (((tb.extBut s1.extBut D.l2z).extBut s2.extBut D.l2i1).extBut s3.extBut D.l2TO) hv fun g4 e s4 he => ?_)
    obtain ⟨oe, goe, ce⟩ := he
    have z4 : IsZip g4 z TI TO .ellipsis := s4 _ _ D.i2z.symm (s3.extBut _ _ D.TOz.symm (s2.extBut _ _ D.i1z.symm z1))
    have ez : e ≠ z := fun x => by subst x; rw [z4] at goe; cases goe; simp at ce
    exact wpAny_setField_rec z4 (by simp) fun g5 _ s5 => k g5 e (fun c o c1 c2 c3 c4 x => s5.extBut _ _ c1 (s4 _ _ c4 (s3.extBut _ _ c2 (s2.extBut _ _ c3 (s1.extBut _ _ c1 x))))) ⟨oe, s5.extBut _ _ ez goe, ce⟩
theorem py_item {z TI TO ia ib la lb : Addr} {m n : Nat} {us vs : Array Value} {u v p q : Value} {Q : Option Value → Shared → Prop} (D : ZipApart z TI TO ia ib la lb)
    (hz : IsZip st.heap z TI TO .none) (hI : IsPair st.heap TI (.ref ia) (.ref ib)) (hO : IsPair st.heap TO p q)
    (ha : st.heap.IsTupleIter ia la m) (hb : st.heap.IsListIter ib lb n) (ta : st.heap.IsTuple la us) (tb : st.heap.IsList lb vs) (hu : us[m]? = some u) (hv : vs[n]? = some v)
    (k : ∀ h', IsZip h' z TI TO (rawInt st.heap.objs.size) → IsPair h' TO u v → h'.IsTupleIter ia la (m + 1) → h'.IsListIter ib lb (n + 1) → IsPair h' st.heap.objs.size u v → h'.objs.size = st.heap.objs.size + 1 →
      (∀ c o, c ≠ z → c ≠ TO → c ≠ ia → c ≠ ib → st.heap.get? c = some o → h'.get? c = some o) → Q (some (.ref st.heap.objs.size)) { st with heap := h' }) :
    wpAny (model pr wo) Ar (pyNext (.ref z)) Q Ex st := by
  have ht : st.TypeIs (.ref z) "zip" := ⟨_, hz, rfl⟩
  unfold pyNext
  exact wpAny_bind (wpAny_attempt (wpAny_callSpecial?_slot (name := Str.ofString "__next__") ht F.slot_zip_next (wpAny_call_entry F.slot_zip_next ht F.entry_zip_next
      (next_item D hz hI hO ha hb ta tb hu hv fun h' a1 a2 a3 a4 a5 a6 a7 => wpAny_pure (k h' a1 a2 a3 a4 a5 a6 a7)) (F.args_zip_next_1 _))))
theorem py_end {z TI TO ia ib la lb : Addr} {m n : Nat} {us vs : Array Value} {p q : Value} {Q : Option Value → Shared → Prop} (hh : Ar.handled = none) (D : ZipApart z TI TO ia ib la lb)
    (hz : IsZip st.heap z TI TO .none) (hI : IsPair st.heap TI (.ref ia) (.ref ib)) (hO : IsPair st.heap TO p q)
    (ha : st.heap.IsTupleIter ia la m) (hb : st.heap.IsListIter ib lb n) (ta : st.heap.IsTuple la us) (tb : st.heap.IsList lb vs) (hend : us[m]? = none ∨ vs[n]? = none)
    (k : ∀ h', (∀ c o, c ≠ z → c ≠ TO → c ≠ ia → c ≠ ib → st.heap.get? c = some o → h'.get? c = some o) → Q none { st with heap := h' }) : wpAny (model pr wo) Ar (pyNext (.ref z)) Q Ex st := by
  have ht : st.TypeIs (.ref z) "zip" := ⟨_, hz, rfl⟩
  unfold pyNext
  refine wpAny_bind (wpAny_attempt (wpAny_callSpecial?_slot (name := Str.ofString "__next__") ht F.slot_zip_next (wpAny_call_entry F.slot_zip_next ht F.entry_zip_next (next_end hh D hz hI hO ha hb ta tb hend fun h' e hk he => ?_) (F.args_zip_next_1 _))))
  obtain ⟨o, ho, hc⟩ := he
  exact wpAny_bind (wpAny_isInstance (T := "StopIteration") (b := true) ⟨o, ho, hc⟩ isSubtype_stop (wpAny_pure (k _ hk)))
noncomputable abbrev hp1 (h : Heap) (la : Addr) : Heap := h.push { cls := .type "tuple_iterator", data := .fields #[.ref la, .int 0 0] }
noncomputable abbrev hp2 (h : Heap) (la lb : Addr) : Heap := (hp1 h la).push { cls := .type "list_iterator", data := .fields #[.ref lb, .int 0 0] }
noncomputable abbrev hp3 (h : Heap) (la lb : Addr) : Heap := (hp2 h la lb).push { cls := .type "tuple", data := .seq #[.ref h.objs.size, .ref (hp1 h la).objs.size] }
noncomputable abbrev hp4 (h : Heap) (la lb : Addr) : Heap := (hp3 h la lb).push { cls := .type "tuple", data := .seq #[.none, .none] }
noncomputable abbrev hp5 (h : Heap) (la lb : Addr) : Heap := (hp4 h la lb).push { cls := .type "zip", data := .fields #[.none, .bool false, .bool false, .ref (hp2 h la lb).objs.size, .ref (hp3 h la lb).objs.size] }
theorem meets_new (la lb : Addr) (us vs : Array Value) :
    Meets (Builtin.«zip.__new__» ⟨[.type "zip", .ref la, .ref lb], []⟩) (fun _ R s => s.heap.IsTuple la us ∧ s.heap.IsList lb vs ∧ R (.ok (.ret (.ref (hp4 s.heap la lb).objs.size))) { s with heap := hp5 s.heap la lb }) :=
  .of_wp fun prog w A R s h => by
    obtain ⟨hp, g, d, tk, os⟩ := s
    obtain ⟨ta, tb, h⟩ := h
    have hsub := sub_zip
    have e1 : Heap.IsTuple (Shared.heap ⟨hp, g, d, tk, os⟩) la us := ta
    have e2 : Heap.IsList (Shared.heap ⟨hp.push { cls := .type "tuple_iterator", data := .fields #[.ref la, .int 0 0] }, g, d, tk, os⟩) lb vs := Heap.IsList.push tb _
    wp_walk using wpAny_pyIter_tuple e1, wpAny_pyIter_list e2
    exact ⟨_, rfl, h⟩
theorem call_zip {la lb : Addr} {us vs : Array Value} {Q : Value → Shared → Prop} (ta : st.heap.IsTuple la us) (tb : st.heap.IsList lb vs)
    (k : ∀ h', IsZip h' (st.heap.objs.size + 4) (st.heap.objs.size + 2) (st.heap.objs.size + 3) .none → IsPair h' (st.heap.objs.size + 2) (.ref st.heap.objs.size) (.ref (st.heap.objs.size + 1)) →
      IsPair h' (st.heap.objs.size + 3) .none .none → h'.IsTupleIter st.heap.objs.size la 0 → h'.IsListIter (st.heap.objs.size + 1) lb 0 → h'.objs.size = st.heap.objs.size + 5 →
      (∀ c o, st.heap.get? c = some o → h'.get? c = some o) → Q (.ref (st.heap.objs.size + 4)) { st with heap := h' }) :
    wpAny (model pr wo) Ar (call (.type "zip") [.ref la, .ref lb]) Q Ex st := by
  refine callType_new F.called_zip (by decide) (F.typeCall_zip_2 _ _) (F.newCall_zip_2 _ _) (fun obj => F.args_object_init_3 obj _ _) F.entry_zip_new (meets_new la lb us vs) ⟨ta, tb, ?_⟩
  have y1 : (hp1 st.heap la).objs.size = st.heap.objs.size + 1 := Heap.size_push ..
  have y2 : (hp2 st.heap la lb).objs.size = st.heap.objs.size + 2 := by rw [Heap.size_push, y1]
  have y3 : (hp3 st.heap la lb).objs.size = st.heap.objs.size + 3 := by rw [Heap.size_push, y2]
  have y4 : (hp4 st.heap la lb).objs.size = st.heap.objs.size + 4 := by rw [Heap.size_push, y3]
  have y5 : (hp5 st.heap la lb).objs.size = st.heap.objs.size + 5 := by rw [Heap.size_push, y4]
  have g5 : (hp5 st.heap la lb).get? (hp4 st.heap la lb).objs.size = some _ := Heap.get?_push_size _ rfl
  have g4 : (hp5 st.heap la lb).get? (hp3 st.heap la lb).objs.size = some _ := Heap.get?_push_of_some _ (Heap.get?_push_size _ rfl)
  have g3 : (hp5 st.heap la lb).get? (hp2 st.heap la lb).objs.size = some _ := Heap.get?_push_of_some _ (Heap.get?_push_of_some _ (Heap.get?_push_size _ rfl))
  have g2 : (hp5 st.heap la lb).get? (hp1 st.heap la).objs.size = some _ := Heap.get?_push_of_some _ (Heap.get?_push_of_some _ (Heap.get?_push_of_some _ (Heap.get?_push_size _ rfl)))
  have g1 : (hp5 st.heap la lb).get? st.heap.objs.size = some _ := Heap.get?_push_of_some _ (Heap.get?_push_of_some _ (Heap.get?_push_of_some _ (Heap.get?_push_of_some _ (Heap.get?_push_size _ rfl))))
  show _ ∧ _
  rw [y2, y3, y4] at g5
  rw [y1, y2] at g3
  rw [y3] at g4
  rw [y1] at g2
  rw [y4]
  exact ⟨⟨_, g5, rfl⟩, k _ g5 g3 g4 ⟨_, g1, rfl, rfl⟩ ⟨_, g2, rfl, rfl⟩ y5 fun c o x => Heap.get?_push_of_some _ (Heap.get?_push_of_some _ (Heap.get?_push_of_some _ (Heap.get?_push_of_some _ (Heap.get?_push_of_some _ x))))⟩
end
noncomputable def Itz2 (K : PySem.W.Frag) (a b : Addr) : It :=
  ⟨fun i H => ∃ (xs ys : List V) (x y : V), SqT K H a xs ∧ SqL K H b ys ∧ xs[i]? = some x ∧ ys[i]? = some y,
    fun i H v H' => ∃ T x y, v = .ref T ∧ H T = none ∧ H' = upd H T (.tup [x, y]) ∧ (∀ xs, SqT K H a xs → xs[i]? = some x) ∧ ∀ ys, SqL K H b ys → ys[i]? = some y,
    fun i H => ∃ xs ys : List V, SqT K H a xs ∧ SqL K H b ys ∧ (xs.length ≤ i ∨ ys.length ≤ i)⟩
theorem turn {P : Program} {w : World} {K : PySem.W.Frag} {elts : List Expr} {kk : Nat} {tpos : Pos} {a b z TI TO ia ib : Addr} (D : ZipApart z TI TO ia ib a b) :
    Turn P w K (.Tuple elts kk tpos) (Itz2 K a b) [z, TI, TO, ia, ib] z (fun i h => IsZip h z TI TO .none ∧ IsPair h TI (.ref ia) (.ref ib) ∧ (∃ x y, IsPair h TO x y) ∧ h.IsTupleIter ia a i ∧ h.IsListIter ib b i) where
  mem := by simp
  obj := fun i h st c hc => by
    obtain ⟨hz, hI, ⟨x, y, hO⟩, ⟨o1, e1, _, d1⟩, ⟨o2, e2, _, d2⟩⟩ := st
    have e' : c = z ∨ c = TI ∨ c = TO ∨ c = ia ∨ c = ib := by simpa using hc
    rcases e' with q | q | q | q | q
    · rw [q]; exact ⟨_, hz, fun v q => nomatch q⟩
    · rw [q]; exact ⟨_, hI, fun v q => nomatch q⟩
    · rw [q]; exact ⟨_, hO, fun v q => nomatch q⟩
    · rw [q]; exact ⟨o1, e1, fun v q => by rw [d1] at q; cases q⟩
    · rw [q]; exact ⟨o2, e2, fun v q => by rw [d2] at q; cases q⟩
  keep := fun i h h' st k => by
    obtain ⟨hz, hI, ⟨x, y, hO⟩, h1, h2⟩ := st
    exact ⟨k z (by simp) _ hz, k TI (by simp) _ hI, ⟨x, y, k TO (by simp) _ hO⟩, h1.at fun o q => k ia (by simp) o q, h2.at fun o q => k ib (by simp) o q⟩
  item := by
    intro X hP hw hK hc i pins s σ H E I hf st hg
    subst hP hw hK
    obtain ⟨hz, hI, ⟨x0, y0, hO⟩, h1, h2⟩ := st
    obtain ⟨xs, ys, x, y, qx, qy, hx, hy⟩ := hg
    obtain ⟨us, rv, p, _⟩ := I.tuple qx
    obtain ⟨vs, rw', p2, _⟩ := I.list qy
    obtain ⟨u, hu, ru⟩ := rv.get hx
    obtain ⟨v, hv, rv2⟩ := rw'.get hy
    have lz : z < s.heap.objs.size := Heap.lt_size hz
    refine py_item D hz hI hO h1 h2 (show s.heap.IsTuple a us.toArray from p) p2.isList (u := u) (v := v) (by simpa using hu) (by simpa using hv) fun h' z' O' h1' h2' hT hsz hk => ?_
    refine ⟨_, rfl, wpAny_letOwnedTupleGo_zip (s := { s with heap := h' }) z' fun h'' z'' sb => ?_⟩
    have T2 : h''.get? s.heap.objs.size = some { cls := .type "tuple", data := .seq #[u, v] } := (sb.2 _ (Nat.ne_of_gt lz)).trans hT
    have new : ObjOk X.prog X.w (upd H s.heap.objs.size (.tup [x, y])) h'' s.heap.objs.size (.tup [x, y]) :=
      ⟨by show 2 ≤ sizeLine; decide, [u, v], .cons ru (.cons rv2 .nil), ⟨_, T2, rfl, _, rfl⟩⟩
    have I1 : Inv X pins σ (upd H s.heap.objs.size (.tup [x, y])) { s with heap := h'' } :=
      I.turnedNew (t' := s.toks) (ch := [z, TI, TO, ia, ib]) (fun c o hb q => (sb.2 c (fun q' => hb (by simp [q']))).trans (hk c o (fun q' => hb (by simp [q'])) (fun q' => hb (by simp [q'])) (fun q' => hb (by simp [q'])) (fun q' => hb (by simp [q'])) q)) hf (Nat.le_refl _) new
    refine ⟨.ref s.heap.objs.size, _, I1, rfl, ⟨_, x, y, rfl, I.hok.fresh (Nat.le_refl _), rfl, fun l hl => by rw [I.tuple_inj hl qx]; exact hx, fun l hl => by rw [I.list_inj hl qy]; exact hy⟩, ⟨z'', ?_, ⟨u, v, ?_⟩, ?_, ?_⟩, fun c hcm => ?_⟩
    · exact (sb.2 _ D.TIz).trans (hk _ _ D.TIz D.TITO D.TIi1 D.TIi2 hI)
    · exact (sb.2 _ D.TOz).trans O'
    · exact h1'.at fun o q => (sb.2 _ D.i1z).trans q
    · exact h2'.at fun o q => (sb.2 _ D.i2z).trans q
    · have hlt : c < s.heap.objs.size := by
        have e' : c = z ∨ c = TI ∨ c = TO ∨ c = ia ∨ c = ib := by simpa using hcm
        rcases e' with q | q | q | q | q
        · rw [q]; exact lz
        · rw [q]; exact Heap.lt_size hI
        · rw [q]; exact Heap.lt_size hO
        · rw [q]; obtain ⟨_, e1, _⟩ := h1; exact Heap.lt_size e1
        · rw [q]; obtain ⟨_, e2, _⟩ := h2; exact Heap.lt_size e2
      rw [upd_ne (Nat.ne_of_lt hlt)]
      exact (hf c hcm).1
  done := by
    intro X hP hw hK hc i pins s σ H E I hf st hg
    subst hP hw hK
    obtain ⟨hz, hI, ⟨x0, y0, hO⟩, h1, h2⟩ := st
    obtain ⟨xs, ys, qx, qy, hend⟩ := hg
    obtain ⟨us, rv, p, _⟩ := I.tuple qx
    obtain ⟨vs, rw', p2, _⟩ := I.list qy
    have l1 := rv.length
    have l2 := rw'.length
    have he : us.toArray[i]? = none ∨ vs.toArray[i]? = none := by
      rcases hend with q | q
      · exact .inl (by simp; omega)
      · exact .inr (by simp; omega)
    exact py_end (I.ok.hd hc) D hz hI hO h1 h2 (show s.heap.IsTuple a us.toArray from p) p2.isList he fun h' hk => ⟨rfl, I.turnedL (t' := s.toks) (ch := [z, TI, TO, ia, ib]) (fun c o hb q =>
      hk c o (fun q' => hb (by simp [q'])) (fun q' => hb (by simp [q'])) (fun q' => hb (by simp [q'])) (fun q' => hb (by simp [q'])) q) hf⟩
  self := fun A i s Q E st h => wpAny_pyIter_zip st.1 h
noncomputable def iZip2 (K : PySem.W.Frag) (ta : TA) : TI := fun σ H R => ta σ H fun vs H1 => ∃ a b xs ys, vs = [.ref a, .ref b] ∧ SqT K H1 a xs ∧ SqL K H1 b ys ∧ R (Itz2 K a b) H1
theorem pi_zip2 {X : Cx} {e e2 : Expr} {ta : TA} {p pos tpos : Pos} {elts : List Expr} {kk : Nat} (hg : Gl X "zip") (hm : X.mg "zip" = none) (ha : PA X [e, e2] ta)
    (hs : starEach [e, e2] X.env = (false, eval e X.env) :: starEach [e2] X.env := by rfl) (hpl : (backTo pos (starEach [e2] X.env)).any (·.1) = false := by rfl) :
    PI X (.Tuple elts kk tpos) (.Call (.Name "zip" p) [e, e2] [] pos) (iZip2 X.K ta) := by
  intro pins s σ H R I h
  refine Call_ (ld_blt I hg hm boot_zip5 (PyProof.Rows.callWith_type1 (thn (ha pos pins s σ H _ I h) fun us s1 ⟨vs, H1, I1, r1, q1⟩ => ?_) hs hpl))
  obtain ⟨a, b, xs, ys, ex, qx, qy, q⟩ := q1
  subst ex
  cases r1 with
  | cons r rr =>
    cases rr with
    | cons r' rr =>
      cases rr
      cases r
      cases r'
      obtain ⟨us, rv, p1, _⟩ := I1.tuple qx
      obtain ⟨vs, rw', p2, _⟩ := I1.list qy
      have la : a < s1.heap.objs.size := by obtain ⟨o, e, _⟩ := p1; exact Heap.lt_size e
      have lb : b < s1.heap.objs.size := p2.lt
      refine call_zip (show s1.heap.IsTuple a us.toArray from p1) p2.isList fun h' hz hI hO h1 h2 hsz hk => wpAny_pyIter_zip hz ?_
      have I2 : Inv X pins σ H1 { s1 with heap := h' } := I1.kept (t' := s1.toks) hk
      refine ⟨s1.heap.objs.size + 4, [s1.heap.objs.size + 4, s1.heap.objs.size + 2, s1.heap.objs.size + 3, s1.heap.objs.size, s1.heap.objs.size + 1], _, _, H1, rfl, I2, turn (PySem.W.ktu_apart s1.heap.objs.size a b la lb), ⟨hz, hI, ⟨_, _, hO⟩, h1, h2⟩, fun c hcm => ?_, q⟩
      have e' : c = s1.heap.objs.size + 4 ∨ c = s1.heap.objs.size + 2 ∨ c = s1.heap.objs.size + 3 ∨ c = s1.heap.objs.size ∨ c = s1.heap.objs.size + 1 := by simpa using hcm
      have hle : s1.heap.objs.size ≤ c := by
        rcases e' with z | z | z | z | z
        · rw [z]; exact Nat.le_add_right _ _
        · rw [z]; exact Nat.le_add_right _ _
        · rw [z]; exact Nat.le_add_right _ _
        · rw [z]; exact Nat.le_refl _
        · rw [z]; exact Nat.le_add_right _ _
      exact I1.fpOk hle (I1.hok.fresh hle)
theorem for_zip2 {K : PySem.W.Frag} {a b : Addr} {xs ys : List V} {g : TG} {tb : TS} {D : Ends} {σ : L2.St} {H : Hp} (Pv : Nat → L2.St → Hp → Prop) (h0 : Pv 0 σ H) (hl : ∀ i σ H, Pv i σ H → SqT K H a xs ∧ SqL K H b ys) (hlen : xs.length = ys.length)
    (hs : ∀ i x y T σ H, xs[i]? = some x → ys[i]? = some y → Pv i σ H → H T = none → g (.ref T) σ (upd H T (.tup [x, y])) fun σ2 H2 => tb { D with nx := Pv (i + 1), ct := Pv (i + 1), bk := D.nx } σ2 H2) (hd : ∀ σ H, Pv xs.length σ H → D.nx σ H) :
    ∃ W : Nat → Nat → L2.St → Hp → Prop, (∃ m, W 0 m σ H) ∧ ∀ i m σ H, W i m σ H →
      ((Itz2 K a b).stop i H ∧ D.nx σ H) ∨ ((Itz2 K a b).go i H ∧ ∃ N : L2.St → Hp → Prop, (∀ σ' H', N σ' H' → ∃ m', m' < m ∧ W (i + 1) m' σ' H') ∧ ∀ x H', (Itz2 K a b).yld i H x H' → g x σ H' fun σ2 H2 => tb { D with nx := N, ct := N, bk := D.nx } σ2 H2) := by
  refine ⟨fun i m σ H => i + m = xs.length ∧ Pv i σ H, ⟨xs.length, by omega, h0⟩, ?_⟩
  rintro i m σ H ⟨e, hp⟩
  obtain ⟨q1, q2⟩ := hl i σ H hp
  by_cases hi : i < xs.length
  · have hj : i < ys.length := by omega
    refine .inr ⟨⟨xs, ys, xs[i], ys[i], q1, q2, List.getElem?_eq_getElem hi, List.getElem?_eq_getElem hj⟩, Pv (i + 1), fun σ' H' h => ⟨m - 1, by omega, by omega, h⟩, ?_⟩
    rintro x H' ⟨T, x', y', rfl, hT, rfl, hx, hy⟩
    exact hs i x' y' T σ H (hx _ q1) (hy _ q2) hp hT
  · refine .inl ⟨⟨xs, ys, q1, q2, .inl (by omega)⟩, hd σ H ?_⟩
    have : i = xs.length := by omega
    rw [← this]
    exact hp
noncomputable def tCallV (P : Program) (w : World) (K : PySem.W.Frag) (mg : Str → Option Value) (base : Heap) (k : Nat) (i : Nat) (t : TA) : TE := fun σ H Q => ∃ f fd ps sp, σ[i]? = some (some (.ref f)) ∧ FnOk P w K mg base CX0 k f fd ps sp ∧ PySem.W.keepIn K (.ref f) = true ∧ Binds K fd ps [] ∧ t σ H fun vs H1 => sp vs H1 Q E0
theorem pe_callV {X : Cx} {k i : Nat} {x : Str} {p pos : Pos} {e : Expr} {es : List Expr} {t : TA} (hr : Room k X.A) (hN : X.N[i]? = some x := by rfl) (hv : Vis X.env.scope x := by first | exact Or.inl rfl | exact Or.inr (Or.inl rfl))
    (ha : PA X (e :: es) t) (hdb : (x == ("__debug__" : Str)) = false := by decide) (hcd : (x == ("__classdict__" : Str)) = false := by decide) (he : starEach (e :: es) X.env = (false, eval e X.env) :: starEach es X.env := by rfl) (hpl : (backTo pos (starEach es X.env)).any (·.1) = false := by rfl) :
    PE X (.Call (.Name x p) (e :: es) [] pos) (tCallV X.prog X.w X.K X.mg X.base k i t) := by
  intro pins s σ H Q I h
  obtain ⟨f, fd, ps, sp, hf, F, hk, hb, h⟩ := h
  refine wpAny_Call_Name_kw (thn (pe_var (i := i) hN hv hdb hcd pins s σ H (fun v H' => v = .ref f ∧ H' = H) I ⟨.ref f, hf, rfl, rfl⟩) fun u s1 ⟨v, H1, I1, r, e1, e2⟩ => ?_)
  subst e1 e2
  obtain rfl : u = Value.ref f := r
  refine PySem.W.callWith_K (h₀ := X.base) I.ok.mod.kin hk (thn (ha pos pins s1 σ H1 _ I1 h) fun us s2 ⟨vs, H2, I2, r2, q⟩ => ⟨I2.kIn, ?_⟩) he hpl
  exact run_fn (ds := []) (dvs := []) F hr hb .nil pass0 I2 r2 (by rw [List.append_nil]; exact q)
end Zt
end
section
set_option Elab.async false
set_option linter.all false
set_option maxRecDepth 100000
set_option maxHeartbeats 2000000
namespace Bg
open PySem PySem.Spec PyProof.Rows L2
section
variable {X : Cx} {K : PySem.W.Frag} {o e a value : Expr} {es : List Expr} {f name : Str} {pos pos' tpos apos cpos : Pos} {ta tv to : TE} {t : TA} {T id : String} {r : V → List V → Hp → VK → Prop}
theorem pe_fldK (hK : X.K = K) (he : PE X e ta) (hb : attributeBase e f X.env (eval e X.env) = eval e X.env) : PE X (.Attribute e f pos) (tFld K ta f) := hK ▸ pe_fld he hb
theorem ps_fldK (hK : X.K = K) (ha : PE X o ta) (hv : PE X value tv) (hs : swapsWith value (some (.Attribute o f pos')) pos.line X.env = pure false) : PS X (.Assign [.Attribute o f pos'] value pos) (sFld K ta tv f) := hK ▸ ps_fld ha hv hs
theorem ps_fldaugK {op : Operator} {rd : V → V → Hp → VK → Prop} (hK : X.K = K) (ha : PE X o ta) (hv : PE X value tv) (hop : InOp X op rd) : PS X (.AugAssign (.Attribute o f tpos) op value pos) (sFldAug K ta tv rd f) := hK ▸ ps_fldaug ha hv hop
theorem ix_listK (hK : X.K = K) : IxR X (rIxL K) := hK ▸ ix_list
theorem ix_tupK (hK : X.K = K) : IxR X (rIxT K) := hK ▸ ix_tup
noncomputable def rLen (K : PySem.W.Frag) : List V → Hp → VK → Prop := fun xs H Q => ∃ p ys, xs = [.ref p] ∧ (SqL K H p ys ∨ SqT K H p ys) ∧ Q (.int ys.length) H
theorem lenK (hK : X.K = K) : CallR X (.builtin "len") (rLen K) := hK ▸ call_len_seq
theorem sumK (hK : X.K = K) (hc : X.calm = true) : CallR X (.builtin "sum") (rSum K) := hK ▸ cr_sum hc
theorem anyK (hK : X.K = K) (hc : X.calm = true) : CallR X (.builtin "any") (rAny K) := hK ▸ cr_any hc
theorem notInK (hK : X.K = K) : OpR X (compareOp .NotIn) (rIn K true) := hK ▸ op_notIn_seq
theorem mt_indexK (hK : X.K = K) : MtR X "list.index" (rIndex K) := hK ▸ mt_index
theorem sl_listK (hK : X.K = K) : SlR X (rSlL K) := hK ▸ sl_list
theorem pi_listK {l tg : Expr} {tl : TE} (hK : X.K = K) (hl : PE X l tl) : PI X tg l (iList K tl) := hK ▸ pi_list hl
noncomputable def tTru (K : PySem.W.Frag) (ta : TE) : TT := fun σ H Q => ta σ H fun x H' => ∃ k, TruV K x H' k ∧ Q k H'
theorem pt_truthK (hK : X.K = K) (ha : PE X a ta) (he : ∀ whole, isTrue a X.env whole = (do let v ← whole; standAt a.pos; holding [v] (truthy v))) : PT X a (tTru K ta) := hK ▸ pt_truth ha he
noncomputable def rInt : List V → Hp → VK → Prop := fun xs H Q => (∃ i, xs = [.int i] ∧ Q (.int i) H) ∨ ∃ k, xs = [.bl k] ∧ Q (.int (if k then 1 else 0)) H
theorem intK : CallR X (.type "int") rInt := call_int1
theorem pe_bmK (hK : X.K = K) (pa : PlainAttrs T) (slot : Slot T name id) (hty : typeOf (.builtin id) = pure (.type "method_descriptor")) (hm : MtR X id r) (ho : PE X o to) (ha : PA X (e :: es) t)
    (hbase : attributeBase o name X.env (eval o X.env) = eval o X.env := by rfl)
    (hfew : ((backTo cpos (starEach (e :: es) X.env)).all (fun x => !x.1) && (backToKw cpos (keywordEach [] X.env)).all (fun x => x.1.isSome)
      && decide ((e :: es).length + ([] : List Keyword).length + (if ([] : List Keyword).isEmpty then 0 else 1) < 30)) = true := by rfl)
    (hline : (apos.endLine == cpos.line) = true := by rfl) (hs : starEach (e :: es) X.env = (false, eval e X.env) :: starEach es X.env := by rfl) (hplain : (backTo cpos (starEach es X.env)).any (·.1) = false := by rfl) :
    PE X (.Call (.Attribute o name apos) (e :: es) [] cpos) (tBM K T r to t) := hK ▸ pe_bm pa slot hty hm ho ha hbase hfew hline hs hplain
end
theorem okQ {P : Program} {w : World} {K : PySem.W.Frag} {mg : Str → Option Value} {base : Heap} {x qual : Str} {st : Stmt} {f : Addr} {fd : FuncData} {N ps : List Str} {k : Nat} {sp : Sp} {u : TS} (F : Fun K x qual st f fd) (S : FnScope N ps (defScope st)) (len : ∀ vs H Q E, sp vs H Q E → vs.length = ps.length)
    (hu : ∀ (cdv : Value) (A : Around) (outer : List Env) (s : Shared) (H : Hp) (E : XK), Room k (A.deeper (envOfC qual (defScope st) s.heap.objs.size f cdv)) → PSs (cxOf CX0 P w K mg base N qual (defScope st) f cdv A outer s H E).nox (defBody st) u)
    (hb : ∀ (vs : List V) (H : Hp) (Q : VK) (E : XK), sp vs H Q E → u { nx := fun _ H' => Q .non H', rt := Q } (start N vs) H) : FnOk P w K mg base CX0 (k + 1) f fd ps sp :=
  F.ok S len fun cdv A outer s H vs Q E hr h => ⟨u, hu cdv A outer s H E hr, hb vs H Q E h⟩
noncomputable def loopBody : Stmt → List Stmt
  | .For _ _ b _ _ => b
  | .While _ b _ _ => b
  | _ => []
end Bg
end
section
set_option Elab.async false
set_option linter.all false
set_option maxRecDepth 100000
set_option maxHeartbeats 2000000
namespace Bg
open PySem PySem.Spec PyProof.Rows L2
theorem put_hd {f : Str} {v x : V} {r : List (Str × V)} : putF f v ((f, x) :: r) = (f, v) :: r := if_pos rfl
theorem put_tl {f g : Str} {v x : V} {r : List (Str × V)} (h : ¬ g = f) : putF f v ((g, x) :: r) = (g, x) :: putF f v r := if_neg h
theorem put_nil {f : Str} {v : V} : putF f v [] = [(f, v)] := rfl
theorem lk_hd {f : Str} {v : V} {r : List (Str × V)} : List.lookup f ((f, v) :: r) = some v := by simp [List.lookup]
theorem lk_tl {f g : Str} {v : V} {r : List (Str × V)} (h : ¬ f = g) : List.lookup f ((g, v) :: r) = List.lookup f r := by
  have e : (f == g) = false := by simpa using h
  simp [List.lookup, e]
noncomputable def iv (n : Nat) : V := .int (n : Int)
noncomputable def cv : Option Nat → V
  | none => .non
  | some n => iv n
noncomputable def ivs (l : List Nat) : List V := l.map iv
theorem ivs_len (l : List Nat) : (ivs l).length = l.length := by simp [ivs]
theorem ivs_get {l : List Nat} {i n : Nat} (h : l[i]? = some n) : (ivs l)[i]? = some (iv n) := by simp [ivs, h]
theorem ivs_app (l r : List Nat) : ivs (l ++ r) = ivs l ++ ivs r := by simp [ivs]
noncomputable def fF (g : Bool) : List (Str × V) := [("gone", .bl g)]
noncomputable def fK (f n w : Nat) (l : Addr) : List (Str × V) := [("flight", iv f), ("room", iv n), ("limit", iv w), ("pile", .ref l)]
noncomputable def fP (f h : Nat) : List (Str × V) := [("flight", iv f), ("standing", iv h)]
noncomputable def fB (x : Sy54.Bag) (c : Option Nat) : List (Str × V) := [("owner", iv x.owner), ("weight", iv x.weight), ("place", iv x.place), ("container", cv c), ("follows", .bl x.rush)]
noncomputable def fA (a b c d : Addr) (m : Nat) : List (Str × V) := [("flights", .ref a), ("containers", .ref b), ("passengers", .ref c), ("bags", .ref d), ("moves_made", iv m)]
noncomputable def kd : HO → Nat
  | .lst _ => 1
  | .ins _ _ fs => if fs.length = 1 then 2 else if fs.length = 4 then 3 else if fs.length = 2 then 4 else if (fs.map (·.1)).head? = some "owner" then 5 else 6
  | _ => 0
theorem kd_l (xs : List V) : kd (.lst xs) = 1 := rfl
theorem kd_F (C d : Addr) (g : Bool) : kd (.ins C d (fF g)) = 2 := rfl
theorem kd_K (C d : Addr) (f n w : Nat) (l : Addr) : kd (.ins C d (fK f n w l)) = 3 := rfl
theorem kd_P (C d : Addr) (f h : Nat) : kd (.ins C d (fP f h)) = 4 := rfl
theorem kd_B (C d : Addr) (x : Sy54.Bag) (c : Option Nat) : kd (.ins C d (fB x c)) = 5 := by
  show (if some (Str.ofString "owner") = some (Str.ofString "owner") then 5 else 6) = 5
  rw [if_pos rfl]
theorem own_ne : ¬ (Str.ofString "flights" = Str.ofString "owner") := by decide +kernel
theorem kd_A (C d : Addr) (a b c e : Addr) (m : Nat) : kd (.ins C d (fA a b c e m)) = 6 := by
  show (if some (Str.ofString "flights") = some (Str.ofString "owner") then 5 else 6) = 6
  rw [if_neg (fun h => own_ne (Option.some.inj h))]
noncomputable def KeepK (n : Nat) (H H' : Hp) : Prop := ∀ b o, H b = some o → kd o = n → H' b = some o
theorem KeepK.same {n : Nat} {H H' : Hp} (h : Same H H') : KeepK n H H' := fun b o e _ => h b o e
theorem KeepK.upd {n : Nat} {H : Hp} {a : Addr} {o u : HO} (h : H a = some o) (hk : kd o ≠ n) : KeepK n H (L2.upd H a u) := fun b v e hv => by
  rw [upd_ne (ne_of e h (fun q => hk (by rw [← q]; exact hv)))]
  exact e
structure Ad where
  CF : Addr
  CK : Addr
  CP : Addr
  CB : Addr
  CA : Addr
structure Lay where
  p : Addr
  lF : Addr
  lK : Addr
  lP : Addr
  lB : Addr
  fs : List Addr
  ks : List Addr
  ps : List Addr
  bs : List Addr
  piles : List Addr
noncomputable def Lay.lists (A : Lay) : List Addr := A.lF :: A.lK :: A.lP :: A.lB :: A.piles
structure Objs {α : Type} (H : Hp) (C : Addr) (f : Nat → α → List (Str × V)) (as : List Addr) (xs : List α) : Prop where
  len : as.length = xs.length
  nd : as.Nodup
  at_ : ∀ (i : Nat) (a : Addr) (x : α), as[i]? = some a → xs[i]? = some x → ∃ dx, H a = some (.ins C dx (f i x))
section
variable {α : Type} {H H' : Hp} {C : Addr} {f : Nat → α → List (Str × V)} {as : List Addr} {xs : List α}
theorem Objs.keep {n : Nat} (o : Objs H C f as xs) (hk : ∀ dx i x, kd (.ins C dx (f i x)) = n) (k : KeepK n H H') : Objs H' C f as xs :=
  ⟨o.len, o.nd, fun i a x h1 h2 => by
    obtain ⟨dx, e⟩ := o.at_ i a x h1 h2
    exact ⟨dx, k _ _ e (hk _ _ _)⟩⟩
theorem Objs.set (o : Objs H C f as xs) {i : Nat} {a dx : Addr} {y : α} (h : as[i]? = some a) : Objs (upd H a (.ins C dx (f i y))) C f as (xs.set i y) := by
  refine ⟨by rw [List.length_set]; exact o.len, o.nd, fun j b x h1 h2 => ?_⟩
  by_cases hj : j = i
  · subst hj
    have e : b = a := Option.some.inj (h1.symm.trans h)
    subst e
    have hl : j < xs.length := by rw [← o.len]; exact (List.getElem?_eq_some_iff.mp h1).1
    rw [List.getElem?_set_self hl] at h2
    cases h2
    exact ⟨dx, upd_same⟩
  · rw [List.getElem?_set_ne (fun q => hj q.symm)] at h2
    obtain ⟨d2, e⟩ := o.at_ j b x h1 h2
    have nb : b ≠ a := fun q => hj (nd_ix o.nd h1 (by rw [q]; exact h))
    exact ⟨d2, by rw [upd_ne nb]; exact e⟩
theorem Objs.push (o : Objs H C f as xs) {a dx : Addr} {y : α} (k : Same H H') (hn : H a = none) (hy : H' a = some (.ins C dx (f xs.length y))) : Objs H' C f (as ++ [a]) (xs ++ [y]) := by
  have hna : ¬ a ∈ as := fun hm => by
    obtain ⟨i, hi⟩ := List.getElem?_of_mem hm
    have hl : i < xs.length := by rw [← o.len]; exact (List.getElem?_eq_some_iff.mp hi).1
    obtain ⟨d2, e⟩ := o.at_ i a xs[i] hi (List.getElem?_eq_getElem hl)
    rw [hn] at e
    cases e
  refine ⟨by simp [o.len], nd_snoc o.nd hna, fun j b x h1 h2 => ?_⟩
  by_cases hj : j < xs.length
  · rw [List.getElem?_append_left (by rw [o.len]; exact hj)] at h1
    rw [List.getElem?_append_left hj] at h2
    obtain ⟨d2, e⟩ := o.at_ j b x h1 h2
    exact ⟨d2, k _ _ e⟩
  · have hl : j < (xs ++ [y]).length := (List.getElem?_eq_some_iff.mp h2).1
    have hj2 : j = xs.length := by simp at hl; omega
    subst hj2
    rw [List.getElem?_append_right (Nat.le_refl _), Nat.sub_self] at h2
    rw [← o.len, List.getElem?_append_right (Nat.le_refl _), Nat.sub_self] at h1
    cases h1
    cases h2
    exact ⟨dx, hy⟩
theorem Objs.nil : Objs H C f [] ([] : List α) := ⟨rfl, List.nodup_nil, fun i a x h _ => by simp at h⟩
end
structure Lists (H : Hp) (A : Lay) (bx : List Sy54.Box) : Prop where
  hF : H A.lF = some (.lst (A.fs.map V.ref))
  hK : H A.lK = some (.lst (A.ks.map V.ref))
  hP : H A.lP = some (.lst (A.ps.map V.ref))
  hB : H A.lB = some (.lst (A.bs.map V.ref))
  len : A.piles.length = bx.length
  nd : A.lists.Nodup
  at_ : ∀ (i : Nat) (l : Addr) (x : Sy54.Box), A.piles[i]? = some l → bx[i]? = some x → H l = some (.lst (ivs x.bags))
theorem Lists.keep {H H' : Hp} {A : Lay} {bx : List Sy54.Box} (o : Lists H A bx) (k : KeepK 1 H H') : Lists H' A bx :=
  ⟨k _ _ o.hF rfl, k _ _ o.hK rfl, k _ _ o.hP rfl, k _ _ o.hB rfl, o.len, o.nd, fun i l x h1 h2 => k _ _ (o.at_ i l x h1 h2) rfl⟩
theorem Lists.pile_ne {H : Hp} {A : Lay} {bx : List Sy54.Box} (o : Lists H A bx) {i : Nat} {l : Addr} (h : A.piles[i]? = some l) : A.lF ≠ l ∧ A.lK ≠ l ∧ A.lP ≠ l ∧ A.lB ≠ l := by
  have hm : l ∈ A.piles := List.mem_of_getElem? h
  have nd := o.nd
  unfold Lay.lists at nd
  simp only [List.nodup_cons, List.mem_cons, not_or] at nd
  obtain ⟨⟨_, _, _, a⟩, ⟨_, _, b⟩, ⟨_, c⟩, d, _⟩ := nd
  exact ⟨fun q => a (by rw [q]; exact hm), fun q => b (by rw [q]; exact hm), fun q => c (by rw [q]; exact hm), fun q => d (by rw [q]; exact hm)⟩
theorem Lists.ndp {H : Hp} {A : Lay} {bx : List Sy54.Box} (o : Lists H A bx) : A.piles.Nodup := by
  have nd := o.nd
  unfold Lay.lists at nd
  simp only [List.nodup_cons] at nd
  exact nd.2.2.2.2
theorem Lists.setPile {H : Hp} {A : Lay} {bx : List Sy54.Box} (o : Lists H A bx) {i : Nat} {l : Addr} {x : Sy54.Box} (h : A.piles[i]? = some l) : Lists (upd H l (.lst (ivs x.bags))) A (bx.set i x) := by
  obtain ⟨n1, n2, n3, n4⟩ := o.pile_ne h
  refine ⟨by rw [upd_ne n1]; exact o.hF, by rw [upd_ne n2]; exact o.hK, by rw [upd_ne n3]; exact o.hP, by rw [upd_ne n4]; exact o.hB, by rw [List.length_set]; exact o.len, o.nd, fun j b y h1 h2 => ?_⟩
  by_cases hj : j = i
  · subst hj
    have e : b = l := Option.some.inj (h1.symm.trans h)
    subst e
    have hl : j < bx.length := by rw [← o.len]; exact (List.getElem?_eq_some_iff.mp h1).1
    rw [List.getElem?_set_self hl] at h2
    cases h2
    exact upd_same
  · rw [List.getElem?_set_ne (fun q => hj q.symm)] at h2
    have nb : b ≠ l := fun q => hj (nd_ix o.ndp h1 (by rw [q]; exact h))
    rw [upd_ne nb]
    exact o.at_ j b y h1 h2
noncomputable def fBox (piles : List Addr) (i : Nat) (x : Sy54.Box) : List (Str × V) := fK x.flight x.holds x.bears (piles.getD i 0)
noncomputable def fBag (c : List (Option Nat)) (i : Nat) (x : Sy54.Bag) : List (Str × V) := fB x (c.getD i none)
structure Air (d : Ad) (H : Hp) (A : Lay) (s : Sy54.St) (c : List (Option Nat)) : Prop where
  port : ∃ dx, H A.p = some (.ins d.CA dx (fA A.lF A.lK A.lP A.lB s.moves))
  L : Lists H A s.boxes
  F : Objs H d.CF (fun _ g => fF g) A.fs s.gone
  K : Objs H d.CK (fBox A.piles) A.ks s.boxes
  P : Objs H d.CP (fun _ x => fP x.flight x.how) A.ps s.people
  B : Objs H d.CB (fBag c) A.bs s.bags
  nc : c.length = s.bags.length
noncomputable def Lay.own (A : Lay) (a : Addr) : Prop := a = A.p ∨ a ∈ A.lists ∨ a ∈ A.fs ∨ a ∈ A.ks ∨ a ∈ A.ps ∨ a ∈ A.bs
noncomputable def Keep (A : Lay) (H H' : Hp) : Prop := ∀ b o, H b = some o → ¬ A.own b → H' b = some o
theorem Keep.trans {A : Lay} {H H1 H2 : Hp} (a : Keep A H H1) (b : Keep A H1 H2) : Keep A H H2 := fun x o e n => b x o (a x o e n) n
theorem Keep.same {A : Lay} {H H' : Hp} (h : Same H H') : Keep A H H' := fun b o e _ => h b o e
theorem Keep.upd {A : Lay} {H : Hp} {a : Addr} {o : HO} (h : A.own a) : Keep A H (L2.upd H a o) := fun b u e n => by
  rw [upd_ne (fun q => n (by rw [q]; exact h))]
  exact e
section
variable {d : Ad} {H H' : Hp} {A : Lay} {s : Sy54.St} {c : List (Option Nat)}
theorem Air.same (a : Air d H A s c) (k : Same H H') : Air d H' A s c :=
  ⟨let ⟨dx, e⟩ := a.port; ⟨dx, k _ _ e⟩, a.L.keep (.same k), a.F.keep (fun _ _ _ => kd_F ..) (.same k), a.K.keep (fun _ _ _ => kd_K ..) (.same k), a.P.keep (fun _ _ _ => kd_P ..) (.same k), a.B.keep (fun _ _ _ => kd_B ..) (.same k), a.nc⟩
theorem Air.other (a : Air d H A s c) (k : ∀ b o, H b = some o → A.own b → H' b = some o) : Air d H' A s c := by
  obtain ⟨dx, hp⟩ := a.port
  refine ⟨⟨dx, k _ _ hp (.inl rfl)⟩, ?_, ?_, ?_, ?_, ?_, a.nc⟩
  · refine ⟨k _ _ a.L.hF (.inr (.inl ?_)), k _ _ a.L.hK (.inr (.inl ?_)), k _ _ a.L.hP (.inr (.inl ?_)), k _ _ a.L.hB (.inr (.inl ?_)), a.L.len, a.L.nd, fun i l x h1 h2 => k _ _ (a.L.at_ i l x h1 h2) (.inr (.inl ?_))⟩
    · simp [Lay.lists]
    · simp [Lay.lists]
    · simp [Lay.lists]
    · simp [Lay.lists]
    · have := List.mem_of_getElem? h1
      simp [Lay.lists, this]
  · exact ⟨a.F.len, a.F.nd, fun i b x h1 h2 => let ⟨dx, e⟩ := a.F.at_ i b x h1 h2; ⟨dx, k _ _ e (.inr (.inr (.inl (List.mem_of_getElem? h1))))⟩⟩
  · exact ⟨a.K.len, a.K.nd, fun i b x h1 h2 => let ⟨dx, e⟩ := a.K.at_ i b x h1 h2; ⟨dx, k _ _ e (.inr (.inr (.inr (.inl (List.mem_of_getElem? h1)))))⟩⟩
  · exact ⟨a.P.len, a.P.nd, fun i b x h1 h2 => let ⟨dx, e⟩ := a.P.at_ i b x h1 h2; ⟨dx, k _ _ e (.inr (.inr (.inr (.inr (.inl (List.mem_of_getElem? h1))))))⟩⟩
  · exact ⟨a.B.len, a.B.nd, fun i b x h1 h2 => let ⟨dx, e⟩ := a.B.at_ i b x h1 h2; ⟨dx, k _ _ e (.inr (.inr (.inr (.inr (.inr (List.mem_of_getElem? h1))))))⟩⟩
theorem Air.setMoves (a : Air d H A s c) {dx : Addr} {o : HO} {m : Nat} (h : H A.p = some o) : Air d (upd H A.p (.ins d.CA dx (fA A.lF A.lK A.lP A.lB m))) A { s with moves := m } c := by
  obtain ⟨dp, hp⟩ := a.port
  have k : ∀ n, n ≠ 6 → KeepK n H (upd H A.p (.ins d.CA dx (fA A.lF A.lK A.lP A.lB m))) := fun n hn => .upd hp (by rw [kd_A]; exact hn.symm)
  exact ⟨⟨dx, upd_same⟩, a.L.keep (k 1 (by decide)), a.F.keep (fun _ _ _ => kd_F ..) (k 2 (by decide)), a.K.keep (fun _ _ _ => kd_K ..) (k 3 (by decide)), a.P.keep (fun _ _ _ => kd_P ..) (k 4 (by decide)), a.B.keep (fun _ _ _ => kd_B ..) (k 5 (by decide)), a.nc⟩
theorem Air.setGone (a : Air d H A s c) {i : Nat} {b dx : Addr} {g : Bool} (h : A.fs[i]? = some b) : Air d (upd H b (.ins d.CF dx (fF g))) A { s with gone := s.gone.set i g } c := by
  have hl : i < s.gone.length := by rw [← a.F.len]; exact (List.getElem?_eq_some_iff.mp h).1
  obtain ⟨d2, e⟩ := a.F.at_ i b _ h (List.getElem?_eq_getElem hl)
  have k : ∀ n, n ≠ 2 → KeepK n H (upd H b (.ins d.CF dx (fF g))) := fun n hn => .upd e (by rw [kd_F]; exact hn.symm)
  obtain ⟨dp, hp⟩ := a.port
  exact ⟨⟨dp, k 6 (by decide) _ _ hp (kd_A ..)⟩, a.L.keep (k 1 (by decide)), a.F.set h, a.K.keep (fun _ _ _ => kd_K ..) (k 3 (by decide)), a.P.keep (fun _ _ _ => kd_P ..) (k 4 (by decide)), a.B.keep (fun _ _ _ => kd_B ..) (k 5 (by decide)), a.nc⟩
theorem Air.setPerson (a : Air d H A s c) {i : Nat} {b dx : Addr} {x : Sy54.Person} (h : A.ps[i]? = some b) : Air d (upd H b (.ins d.CP dx (fP x.flight x.how))) A { s with people := s.people.set i x } c := by
  have hl : i < s.people.length := by rw [← a.P.len]; exact (List.getElem?_eq_some_iff.mp h).1
  obtain ⟨d2, e⟩ := a.P.at_ i b _ h (List.getElem?_eq_getElem hl)
  have k : ∀ n, n ≠ 4 → KeepK n H (upd H b (.ins d.CP dx (fP x.flight x.how))) := fun n hn => .upd e (by rw [kd_P]; exact hn.symm)
  obtain ⟨dp, hp⟩ := a.port
  exact ⟨⟨dp, k 6 (by decide) _ _ hp (kd_A ..)⟩, a.L.keep (k 1 (by decide)), a.F.keep (fun _ _ _ => kd_F ..) (k 2 (by decide)), a.K.keep (fun _ _ _ => kd_K ..) (k 3 (by decide)), a.P.set (y := x) h, a.B.keep (fun _ _ _ => kd_B ..) (k 5 (by decide)), a.nc⟩
theorem fBag_set {c : List (Option Nat)} {i : Nat} {y : Option Nat} {x : Sy54.Bag} (h : i < c.length) : fBag (c.set i y) i x = fB x y := by
  unfold fBag
  rw [List.getD_eq_getElem?_getD, List.getElem?_set_self h]
  rfl
theorem Air.setBag (a : Air d H A s c) {i : Nat} {b dx : Addr} {x : Sy54.Bag} {y : Option Nat} (h : A.bs[i]? = some b) : Air d (upd H b (.ins d.CB dx (fB x y))) A { s with bags := s.bags.set i x } (c.set i y) := by
  have hl : i < s.bags.length := by rw [← a.B.len]; exact (List.getElem?_eq_some_iff.mp h).1
  have hc : i < c.length := by rw [a.nc]; exact hl
  obtain ⟨d2, e⟩ := a.B.at_ i b _ h (List.getElem?_eq_getElem hl)
  have k : ∀ n, n ≠ 5 → KeepK n H (upd H b (.ins d.CB dx (fB x y))) := fun n hn => .upd e (by rw [show kd (HO.ins d.CB d2 (fBag c i s.bags[i])) = 5 from kd_B ..]; exact hn.symm)
  obtain ⟨dp, hp⟩ := a.port
  refine ⟨⟨dp, k 6 (by decide) _ _ hp (kd_A ..)⟩, a.L.keep (k 1 (by decide)), a.F.keep (fun _ _ _ => kd_F ..) (k 2 (by decide)), a.K.keep (fun _ _ _ => kd_K ..) (k 3 (by decide)), a.P.keep (fun _ _ _ => kd_P ..) (k 4 (by decide)), ?_, by simp [a.nc]⟩
  have o := a.B
  refine ⟨by rw [List.length_set]; exact o.len, o.nd, fun j q z h1 h2 => ?_⟩
  by_cases hj : j = i
  · subst hj
    have e : q = b := Option.some.inj (h1.symm.trans h)
    subst e
    rw [List.getElem?_set_self hl] at h2
    cases h2
    exact ⟨dx, by rw [upd_same]; show _ = some (HO.ins d.CB dx (fBag (c.set j y) j x)); rw [fBag_set hc]⟩
  · rw [List.getElem?_set_ne (fun q => hj q.symm)] at h2
    obtain ⟨d3, e3⟩ := o.at_ j q z h1 h2
    have nb : q ≠ b := fun q => hj (nd_ix o.nd h1 (by rw [q]; exact h))
    refine ⟨d3, ?_⟩
    rw [upd_ne nb, e3]
    unfold fBag
    rw [List.getD_eq_getElem?_getD, List.getD_eq_getElem?_getD, List.getElem?_set_ne (fun q => hj q.symm)]
theorem Air.setPile (a : Air d H A s c) {i : Nat} {l : Addr} {x : Sy54.Box} {bs : List Nat} (h : A.piles[i]? = some l) (hx : s.boxes[i]? = some x) : Air d (upd H l (.lst (ivs bs))) A { s with boxes := s.boxes.set i { x with bags := bs } } c := by
  have e := a.L.at_ i l x h hx
  have k : ∀ n, n ≠ 1 → KeepK n H (upd H l (.lst (ivs bs))) := fun n hn => .upd e (by rw [kd_l]; exact hn.symm)
  obtain ⟨dp, hp⟩ := a.port
  refine ⟨⟨dp, k 6 (by decide) _ _ hp (kd_A ..)⟩, a.L.setPile (x := { x with bags := bs }) h, a.F.keep (fun _ _ _ => kd_F ..) (k 2 (by decide)), ?_, a.P.keep (fun _ _ _ => kd_P ..) (k 4 (by decide)), a.B.keep (fun _ _ _ => kd_B ..) (k 5 (by decide)), a.nc⟩
  have o := a.K.keep (fun _ _ _ => kd_K ..) (k 3 (by decide))
  refine ⟨by rw [List.length_set]; exact o.len, o.nd, fun j q z h1 h2 => ?_⟩
  by_cases hj : j = i
  · subst hj
    have hl : j < s.boxes.length := (List.getElem?_eq_some_iff.mp hx).1
    rw [List.getElem?_set_self hl] at h2
    cases h2
    exact o.at_ j q x h1 hx
  · rw [List.getElem?_set_ne (fun q => hj q.symm)] at h2
    exact o.at_ j q z h1 h2
end
end Bg
end
section
set_option Elab.async false
set_option linter.all false
set_option maxRecDepth 100000
set_option maxHeartbeats 2000000
namespace Bg
open PySem PySem.Spec PyProof.Rows L2
theorem Lists.four {H : Hp} {A : Lay} {bx : List Sy54.Box} (o : Lists H A bx) : A.lF ≠ A.lK ∧ A.lF ≠ A.lP ∧ A.lF ≠ A.lB ∧ A.lK ≠ A.lP ∧ A.lK ≠ A.lB ∧ A.lP ≠ A.lB := by
  have nd := o.nd
  unfold Lay.lists at nd
  simp only [List.nodup_cons, List.mem_cons, not_or] at nd
  obtain ⟨⟨a, b, c, _⟩, ⟨e, f, _⟩, ⟨g, _⟩, _⟩ := nd
  exact ⟨a, b, c, e, f, g⟩
section
variable {d : Ad} {H H1 : Hp} {A : Lay} {s : Sy54.St} {c : List (Option Nat)}
theorem Air.pushF (a : Air d H A s c) {x dx : Addr} (k : Same H H1) (hn : H x = none) (hx : H1 x = some (.ins d.CF dx (fF false))) :
    Air d (upd H1 A.lF (.lst (A.fs.map V.ref ++ [V.ref x]))) { A with fs := A.fs ++ [x] } { s with gone := s.gone ++ [false] } c := by
  have a1 := a.same k
  obtain ⟨n1, n2, n3, n4, n5, n6⟩ := a.L.four
  obtain ⟨dp, hp⟩ := a1.port
  have kk : ∀ n, n ≠ 1 → KeepK n H1 (upd H1 A.lF (.lst (A.fs.map V.ref ++ [V.ref x]))) := fun n hn => .upd a1.L.hF (by rw [kd_l]; exact hn.symm)
  refine ⟨⟨dp, kk 6 (by decide) _ _ hp (kd_A ..)⟩, ?_, (a.F.push k hn hx).keep (fun _ _ _ => kd_F ..) (kk 2 (by decide)), a1.K.keep (fun _ _ _ => kd_K ..) (kk 3 (by decide)), a1.P.keep (fun _ _ _ => kd_P ..) (kk 4 (by decide)), a1.B.keep (fun _ _ _ => kd_B ..) (kk 5 (by decide)), a.nc⟩
  refine ⟨by rw [upd_same, List.map_append]; rfl, by rw [upd_ne n1.symm]; exact a1.L.hK, by rw [upd_ne n2.symm]; exact a1.L.hP, by rw [upd_ne n3.symm]; exact a1.L.hB, a1.L.len, a1.L.nd, fun i l y h1 h2 => ?_⟩
  rw [upd_ne (a.L.pile_ne h1).1.symm]
  exact a1.L.at_ i l y h1 h2
theorem Air.pushP (a : Air d H A s c) {x dx : Addr} {f : Nat} (k : Same H H1) (hn : H x = none) (hx : H1 x = some (.ins d.CP dx (fP f 0))) :
    Air d (upd H1 A.lP (.lst (A.ps.map V.ref ++ [V.ref x]))) { A with ps := A.ps ++ [x] } { s with people := s.people ++ [⟨f, 0⟩] } c := by
  have a1 := a.same k
  obtain ⟨n1, n2, n3, n4, n5, n6⟩ := a.L.four
  obtain ⟨dp, hp⟩ := a1.port
  have kk : ∀ n, n ≠ 1 → KeepK n H1 (upd H1 A.lP (.lst (A.ps.map V.ref ++ [V.ref x]))) := fun n hn => .upd a1.L.hP (by rw [kd_l]; exact hn.symm)
  refine ⟨⟨dp, kk 6 (by decide) _ _ hp (kd_A ..)⟩, ?_, a1.F.keep (fun _ _ _ => kd_F ..) (kk 2 (by decide)), a1.K.keep (fun _ _ _ => kd_K ..) (kk 3 (by decide)), (a.P.push (y := ⟨f, 0⟩) k hn hx).keep (fun _ _ _ => kd_P ..) (kk 4 (by decide)), a1.B.keep (fun _ _ _ => kd_B ..) (kk 5 (by decide)), a.nc⟩
  refine ⟨by rw [upd_ne n2]; exact a1.L.hF, by rw [upd_ne n4]; exact a1.L.hK, by rw [upd_same, List.map_append]; rfl, by rw [upd_ne n6.symm]; exact a1.L.hB, a1.L.len, a1.L.nd, fun i l y h1 h2 => ?_⟩
  rw [upd_ne (a.L.pile_ne h1).2.2.1.symm]
  exact a1.L.at_ i l y h1 h2
theorem Air.pushB (a : Air d H A s c) {x dx : Addr} {y : Sy54.Bag} (k : Same H H1) (hn : H x = none) (hx : H1 x = some (.ins d.CB dx (fB y none))) :
    Air d (upd H1 A.lB (.lst (A.bs.map V.ref ++ [V.ref x]))) { A with bs := A.bs ++ [x] } { s with bags := s.bags ++ [y] } (c ++ [none]) := by
  have a1 := a.same k
  obtain ⟨n1, n2, n3, n4, n5, n6⟩ := a.L.four
  obtain ⟨dp, hp⟩ := a1.port
  have kk : ∀ n, n ≠ 1 → KeepK n H1 (upd H1 A.lB (.lst (A.bs.map V.ref ++ [V.ref x]))) := fun n hn => .upd a1.L.hB (by rw [kd_l]; exact hn.symm)
  have eB : Objs H d.CB (fBag (c ++ [none])) A.bs s.bags := ⟨a.B.len, a.B.nd, fun i b z h1 h2 => by
    obtain ⟨d2, e⟩ := a.B.at_ i b z h1 h2
    refine ⟨d2, e.trans ?_⟩
    have hi : i < c.length := by rw [a.nc]; exact (List.getElem?_eq_some_iff.mp h2).1
    unfold fBag
    rw [List.getD_eq_getElem?_getD, List.getD_eq_getElem?_getD, List.getElem?_append_left hi]⟩
  have hx2 : H1 x = some (.ins d.CB dx (fBag (c ++ [none]) s.bags.length y)) := by
    rw [hx]
    unfold fBag
    rw [List.getD_eq_getElem?_getD, ← a.nc, List.getElem?_append_right (Nat.le_refl _), Nat.sub_self]
    rfl
  refine ⟨⟨dp, kk 6 (by decide) _ _ hp (kd_A ..)⟩, ?_, a1.F.keep (fun _ _ _ => kd_F ..) (kk 2 (by decide)), a1.K.keep (fun _ _ _ => kd_K ..) (kk 3 (by decide)), a1.P.keep (fun _ _ _ => kd_P ..) (kk 4 (by decide)), (eB.push k hn hx2).keep (fun _ _ _ => kd_B ..) (kk 5 (by decide)), by simp [a.nc]⟩
  refine ⟨by rw [upd_ne n3]; exact a1.L.hF, by rw [upd_ne n5]; exact a1.L.hK, by rw [upd_ne n6]; exact a1.L.hP, by rw [upd_same, List.map_append]; rfl, a1.L.len, a1.L.nd, fun i l y h1 h2 => ?_⟩
  rw [upd_ne (a.L.pile_ne h1).2.2.2.symm]
  exact a1.L.at_ i l y h1 h2
theorem Air.pushK (a : Air d H A s c) {x dx l : Addr} {f n w : Nat} (k : Same H H1) (hn : H x = none) (hx : H1 x = some (.ins d.CK dx (fK f n w l))) (hl : H l = none) (hl1 : H1 l = some (.lst [])) :
    Air d (upd H1 A.lK (.lst (A.ks.map V.ref ++ [V.ref x]))) { A with ks := A.ks ++ [x], piles := A.piles ++ [l] } { s with boxes := s.boxes ++ [⟨f, n, w, []⟩] } c := by
  have a1 := a.same k
  obtain ⟨n1, n2, n3, n4, n5, n6⟩ := a.L.four
  obtain ⟨dp, hp⟩ := a1.port
  have kk : ∀ n, n ≠ 1 → KeepK n H1 (upd H1 A.lK (.lst (A.ks.map V.ref ++ [V.ref x]))) := fun n hn => .upd a1.L.hK (by rw [kd_l]; exact hn.symm)
  have eK : Objs H d.CK (fBox (A.piles ++ [l])) A.ks s.boxes := ⟨a.K.len, a.K.nd, fun i b z h1 h2 => by
    obtain ⟨d2, e⟩ := a.K.at_ i b z h1 h2
    refine ⟨d2, e.trans ?_⟩
    have hi : i < A.piles.length := by rw [a.L.len]; exact (List.getElem?_eq_some_iff.mp h2).1
    unfold fBox
    rw [List.getD_eq_getElem?_getD, List.getD_eq_getElem?_getD, List.getElem?_append_left hi]⟩
  have hx2 : H1 x = some (.ins d.CK dx (fBox (A.piles ++ [l]) s.boxes.length ⟨f, n, w, []⟩)) := by
    rw [hx]
    unfold fBox
    rw [List.getD_eq_getElem?_getD, ← a.L.len, List.getElem?_append_right (Nat.le_refl _), Nat.sub_self]
    rfl
  refine ⟨⟨dp, kk 6 (by decide) _ _ hp (kd_A ..)⟩, ?_, a1.F.keep (fun _ _ _ => kd_F ..) (kk 2 (by decide)), (eK.push k hn hx2).keep (fun _ _ _ => kd_K ..) (kk 3 (by decide)), a1.P.keep (fun _ _ _ => kd_P ..) (kk 4 (by decide)), a1.B.keep (fun _ _ _ => kd_B ..) (kk 5 (by decide)), a.nc⟩
  have m1 : A.lF ≠ l := ne_of_none a.L.hF hl
  have m2 : A.lK ≠ l := ne_of_none a.L.hK hl
  have m3 : A.lP ≠ l := ne_of_none a.L.hP hl
  have m4 : A.lB ≠ l := ne_of_none a.L.hB hl
  have m5 : ¬ l ∈ A.piles := fun hm => by
    obtain ⟨i, hi⟩ := List.getElem?_of_mem hm
    have hb : i < s.boxes.length := by rw [← a.L.len]; exact (List.getElem?_eq_some_iff.mp hi).1
    exact absurd rfl (ne_of_none (a.L.at_ i l _ hi (List.getElem?_eq_getElem hb)) hl)
  refine ⟨by rw [upd_ne n1]; exact a1.L.hF, by rw [upd_same, List.map_append]; rfl, by rw [upd_ne n4.symm]; exact a1.L.hP, by rw [upd_ne n5.symm]; exact a1.L.hB, by simp [a1.L.len], ?_, fun i q y h1 h2 => ?_⟩
  · have nd := a.L.nd
    unfold Lay.lists at nd ⊢
    simp only [List.nodup_cons, List.mem_cons, not_or, List.mem_append, List.not_mem_nil, or_false] at nd ⊢
    obtain ⟨⟨a1, a2, a3, a4⟩, ⟨b1, b2, b3⟩, ⟨c1, c2⟩, d1, e1⟩ := nd
    exact ⟨⟨a1, a2, a3, a4, m1⟩, ⟨b1, b2, b3, m2⟩, ⟨c1, c2, m3⟩, ⟨d1, m4⟩, nd_snoc e1 m5⟩
  · by_cases hi : i < A.piles.length
    · have h1' : A.piles[i]? = some q := by rw [← h1]; exact (List.getElem?_append_left hi).symm
      have h2' : s.boxes[i]? = some y := by rw [← h2]; exact (List.getElem?_append_left (by rw [← a.L.len]; exact hi)).symm
      rw [upd_ne (a.L.pile_ne h1').2.1.symm]
      exact a1.L.at_ i q y h1' h2'
    · have hlt : i < (A.piles ++ [l]).length := (List.getElem?_eq_some_iff.mp h1).1
      have hi2 : i = A.piles.length := by simp at hlt; omega
      subst hi2
      have e1 : (A.piles ++ [l])[A.piles.length]? = some q := h1
      rw [List.getElem?_append_right (Nat.le_refl _), Nat.sub_self] at e1
      cases e1
      have e2 : (s.boxes ++ [⟨f, n, w, []⟩])[A.piles.length]? = some y := h2
      rw [a.L.len, List.getElem?_append_right (Nat.le_refl _), Nat.sub_self] at e2
      cases e2
      rw [upd_ne m2.symm]
      exact hl1
end
end Bg
end
section
set_option Elab.async false
set_option linter.all false
set_option maxRecDepth 100000
set_option maxHeartbeats 2000000
namespace Bg
open PySem PySem.Spec PyProof.Rows L2
noncomputable def top (i : Nat) : Stmt := PySem.Challenge.pw_bagsaboard_s01_answers.main.body.getD i (.Pass ⟨0, 0, 0, 0⟩)
noncomputable abbrev s_Flight : Stmt := inClass (top 21) 0
noncomputable abbrev s_Container : Stmt := inClass (top 22) 0
noncomputable abbrev s_Passenger : Stmt := inClass (top 23) 0
noncomputable abbrev s_Bag : Stmt := inClass (top 24) 0
noncomputable abbrev s_Airport : Stmt := inClass (top 25) 0
noncomputable abbrev s_is_size : Stmt := top 26
noncomputable abbrev s_has_flown : Stmt := top 27
noncomputable abbrev s_may_fly : Stmt := top 28
noncomputable abbrev s_has_to_come_out : Stmt := top 29
noncomputable abbrev s_weight_within : Stmt := top 30
noncomputable abbrev s_has_room_for : Stmt := top 31
noncomputable abbrev s_containers_on_flight : Stmt := top 32
noncomputable abbrev s_bags_on_flight : Stmt := top 33
noncomputable abbrev s_bags_that_may_not_fly : Stmt := top 34
noncomputable abbrev s_bags_to_get_out : Stmt := top 35
noncomputable abbrev s_moves_to_get_out : Stmt := top 36
noncomputable abbrev s_get_out : Stmt := top 37
noncomputable abbrev s_with_count : Stmt := top 38
noncomputable abbrev s_add_flight : Stmt := top 39
noncomputable abbrev s_add_container : Stmt := top 40
noncomputable abbrev s_add_passenger : Stmt := top 41
noncomputable abbrev s_add_bag : Stmt := top 42
noncomputable abbrev s_load_bag : Stmt := top 43
noncomputable abbrev s_change_standing : Stmt := top 44
noncomputable abbrev s_come_aboard : Stmt := top 45
noncomputable abbrev s_leave_aircraft : Stmt := top 46
noncomputable abbrev s_stay_absent : Stmt := top 47
noncomputable abbrev s_rush_bag : Stmt := top 48
noncomputable abbrev s_take_bag_out : Stmt := top 49
noncomputable abbrev s_count_moves : Stmt := top 50
noncomputable abbrev s_clear_flight : Stmt := top 51
noncomputable abbrev s_let_go : Stmt := top 52
noncomputable abbrev s_hand_out : Stmt := top 53
noncomputable abbrev s_tell_waiting : Stmt := top 54
noncomputable abbrev s_has_loaded_bag : Stmt := top 55
noncomputable abbrev s_change_flight : Stmt := top 56
noncomputable abbrev s_tell_place : Stmt := top 57
noncomputable abbrev s_tell_pile : Stmt := top 58
noncomputable abbrev s_tell_state : Stmt := top 59
noncomputable abbrev s_is_there : Stmt := top 61
noncomputable abbrev s_answer_call : Stmt := top 62
noncomputable abbrev s_answers : Stmt := top 63
theorem sc_Flight : FnScope ["self"] ["self"] (defScope s_Flight) := ⟨rfl, rfl, rfl, by decide +kernel, rfl, by decide +kernel, by decide +kernel⟩
theorem sc_Container : FnScope ["self", "flight", "room", "limit"] ["self", "flight", "room", "limit"] (defScope s_Container) := ⟨rfl, rfl, rfl, by decide +kernel, rfl, by decide +kernel, by decide +kernel⟩
theorem sc_Passenger : FnScope ["self", "flight"] ["self", "flight"] (defScope s_Passenger) := ⟨rfl, rfl, rfl, by decide +kernel, rfl, by decide +kernel, by decide +kernel⟩
theorem sc_Bag : FnScope ["self", "owner", "weight"] ["self", "owner", "weight"] (defScope s_Bag) := ⟨rfl, rfl, rfl, by decide +kernel, rfl, by decide +kernel, by decide +kernel⟩
theorem sc_Airport : FnScope ["self"] ["self"] (defScope s_Airport) := ⟨rfl, rfl, rfl, by decide +kernel, rfl, by decide +kernel, by decide +kernel⟩
theorem sc_is_size : FnScope ["number", "most"] ["number", "most"] (defScope s_is_size) := ⟨rfl, rfl, rfl, by decide +kernel, rfl, by decide +kernel, by decide +kernel⟩
theorem sc_has_flown : FnScope ["airport", "passenger"] ["airport", "passenger"] (defScope s_has_flown) := ⟨rfl, rfl, rfl, by decide +kernel, rfl, by decide +kernel, by decide +kernel⟩
theorem sc_may_fly : FnScope ["airport", "bag"] ["airport", "bag"] (defScope s_may_fly) := ⟨rfl, rfl, rfl, by decide +kernel, rfl, by decide +kernel, by decide +kernel⟩
theorem sc_has_to_come_out : FnScope ["airport", "bag"] ["airport", "bag"] (defScope s_has_to_come_out) := ⟨rfl, rfl, rfl, by decide +kernel, rfl, by decide +kernel, by decide +kernel⟩
theorem sc_weight_within : FnScope ["airport", "container", "number"] ["airport", "container"] (defScope s_weight_within) := ⟨rfl, rfl, rfl, by decide +kernel, rfl, by decide +kernel, by decide +kernel⟩
theorem sc_has_room_for : FnScope ["airport", "container", "bag"] ["airport", "container", "bag"] (defScope s_has_room_for) := ⟨rfl, rfl, rfl, by decide +kernel, rfl, by decide +kernel, by decide +kernel⟩
theorem sc_containers_on_flight : FnScope ["airport", "flight", "container"] ["airport", "flight"] (defScope s_containers_on_flight) := ⟨rfl, rfl, rfl, by decide +kernel, rfl, by decide +kernel, by decide +kernel⟩
theorem sc_bags_on_flight : FnScope ["airport", "flight", "found", "container"] ["airport", "flight"] (defScope s_bags_on_flight) := ⟨rfl, rfl, rfl, by decide +kernel, rfl, by decide +kernel, by decide +kernel⟩
theorem sc_bags_that_may_not_fly : FnScope ["airport", "flight", "number"] ["airport", "flight"] (defScope s_bags_that_may_not_fly) := ⟨rfl, rfl, rfl, by decide +kernel, rfl, by decide +kernel, by decide +kernel⟩
theorem sc_bags_to_get_out : FnScope ["airport", "container", "number"] ["airport", "container"] (defScope s_bags_to_get_out) := ⟨rfl, rfl, rfl, by decide +kernel, rfl, by decide +kernel, by decide +kernel⟩
theorem sc_moves_to_get_out : FnScope ["container", "wanted", "taken"] ["container", "wanted"] (defScope s_moves_to_get_out) := ⟨rfl, rfl, rfl, by decide +kernel, rfl, by decide +kernel, by decide +kernel⟩
theorem sc_get_out : FnScope ["airport", "container", "wanted", "moves", "number", "bag"] ["airport", "container", "wanted"] (defScope s_get_out) := ⟨rfl, rfl, rfl, by decide +kernel, rfl, by decide +kernel, by decide +kernel⟩
theorem sc_with_count : FnScope ["numbers"] ["numbers"] (defScope s_with_count) := ⟨rfl, rfl, rfl, by decide +kernel, rfl, by decide +kernel, by decide +kernel⟩
theorem sc_add_flight : FnScope ["airport", "told"] ["airport", "told"] (defScope s_add_flight) := ⟨rfl, rfl, rfl, by decide +kernel, rfl, by decide +kernel, by decide +kernel⟩
theorem sc_add_container : FnScope ["airport", "told", "flight", "room", "limit"] ["airport", "told"] (defScope s_add_container) := ⟨rfl, rfl, rfl, by decide +kernel, rfl, by decide +kernel, by decide +kernel⟩
theorem sc_add_passenger : FnScope ["airport", "told", "flight"] ["airport", "told"] (defScope s_add_passenger) := ⟨rfl, rfl, rfl, by decide +kernel, rfl, by decide +kernel, by decide +kernel⟩
theorem sc_add_bag : FnScope ["airport", "told", "owner", "weight"] ["airport", "told"] (defScope s_add_bag) := ⟨rfl, rfl, rfl, by decide +kernel, rfl, by decide +kernel, by decide +kernel⟩
theorem sc_load_bag : FnScope ["airport", "told", "bag", "container", "owner"] ["airport", "told"] (defScope s_load_bag) := ⟨rfl, rfl, rfl, by decide +kernel, rfl, by decide +kernel, by decide +kernel⟩
theorem sc_change_standing : FnScope ["airport", "number", "before", "after", "passenger"] ["airport", "number", "before", "after"] (defScope s_change_standing) := ⟨rfl, rfl, rfl, by decide +kernel, rfl, by decide +kernel, by decide +kernel⟩
theorem sc_come_aboard : FnScope ["airport", "told"] ["airport", "told"] (defScope s_come_aboard) := ⟨rfl, rfl, rfl, by decide +kernel, rfl, by decide +kernel, by decide +kernel⟩
theorem sc_leave_aircraft : FnScope ["airport", "told"] ["airport", "told"] (defScope s_leave_aircraft) := ⟨rfl, rfl, rfl, by decide +kernel, rfl, by decide +kernel, by decide +kernel⟩
theorem sc_stay_absent : FnScope ["airport", "told"] ["airport", "told"] (defScope s_stay_absent) := ⟨rfl, rfl, rfl, by decide +kernel, rfl, by decide +kernel, by decide +kernel⟩
theorem sc_rush_bag : FnScope ["airport", "told", "bag"] ["airport", "told"] (defScope s_rush_bag) := ⟨rfl, rfl, rfl, by decide +kernel, rfl, by decide +kernel, by decide +kernel⟩
theorem sc_take_bag_out : FnScope ["airport", "told", "bag"] ["airport", "told"] (defScope s_take_bag_out) := ⟨rfl, rfl, rfl, by decide +kernel, rfl, by decide +kernel, by decide +kernel⟩
theorem sc_count_moves : FnScope ["airport", "told", "flight", "moves", "container"] ["airport", "told"] (defScope s_count_moves) := ⟨rfl, rfl, rfl, by decide +kernel, rfl, by decide +kernel, by decide +kernel⟩
theorem sc_clear_flight : FnScope ["airport", "told", "flight", "moves", "came_out", "container", "wanted"] ["airport", "told"] (defScope s_clear_flight) := ⟨rfl, rfl, rfl, by decide +kernel, rfl, by decide +kernel, by decide +kernel⟩
theorem sc_let_go : FnScope ["airport", "told", "flight", "flying", "number", "bag"] ["airport", "told"] (defScope s_let_go) := ⟨rfl, rfl, rfl, by decide +kernel, rfl, by decide +kernel, by decide +kernel⟩
theorem sc_hand_out : FnScope ["airport", "told", "bag"] ["airport", "told"] (defScope s_hand_out) := ⟨rfl, rfl, rfl, by decide +kernel, rfl, by decide +kernel, by decide +kernel⟩
theorem sc_tell_waiting : FnScope ["airport", "told", "flight", "waiting"] ["airport", "told"] (defScope s_tell_waiting) := ⟨rfl, rfl, rfl, by decide +kernel, rfl, by decide +kernel, by decide +kernel⟩
theorem sc_has_loaded_bag : FnScope ["airport", "owner", "bag"] ["airport", "owner"] (defScope s_has_loaded_bag) := ⟨rfl, rfl, rfl, by decide +kernel, rfl, by decide +kernel, by decide +kernel⟩
theorem sc_change_flight : FnScope ["airport", "told", "passenger", "flight"] ["airport", "told"] (defScope s_change_flight) := ⟨rfl, rfl, rfl, by decide +kernel, rfl, by decide +kernel, by decide +kernel⟩
theorem sc_tell_place : FnScope ["airport", "told", "bag", "below"] ["airport", "told"] (defScope s_tell_place) := ⟨rfl, rfl, rfl, by decide +kernel, rfl, by decide +kernel, by decide +kernel⟩
theorem sc_tell_pile : FnScope ["airport", "told", "container"] ["airport", "told"] (defScope s_tell_pile) := ⟨rfl, rfl, rfl, by decide +kernel, rfl, by decide +kernel, by decide +kernel⟩
theorem sc_tell_state : FnScope ["airport", "told", "flights", "flight", "passengers", "passenger", "bags", "bag", "containers", "container", "lists"] ["airport", "told"] (defScope s_tell_state) := ⟨rfl, rfl, rfl, by decide +kernel, rfl, by decide +kernel, by decide +kernel⟩
theorem sc_is_there : FnScope ["airport", "kind", "number"] ["airport", "kind", "number"] (defScope s_is_there) := ⟨rfl, rfl, rfl, by decide +kernel, rfl, by decide +kernel, by decide +kernel⟩
theorem sc_answer_call : FnScope ["airport", "call", "told", "act", "kind", "number"] ["airport", "call", "told"] (defScope s_answer_call) := ⟨rfl, rfl, rfl, by decide +kernel, rfl, by decide +kernel, by decide +kernel⟩
theorem sc_answers : FnScope ["calls", "airport", "given", "start", "call", "end", "answer"] ["calls"] (defScope s_answers) := ⟨rfl, rfl, rfl, by decide +kernel, rfl, by decide +kernel, by decide +kernel⟩
-- the addresses of the defs, and what stands there
set_option genInjectivity false in
set_option genSizeOf false in
structure Fx where
  f_Flight : Addr
  d_Flight : FuncData
  f_Container : Addr
  d_Container : FuncData
  f_Passenger : Addr
  d_Passenger : FuncData
  f_Bag : Addr
  d_Bag : FuncData
  f_Airport : Addr
  d_Airport : FuncData
  f_is_size : Addr
  d_is_size : FuncData
  f_has_flown : Addr
  d_has_flown : FuncData
  f_may_fly : Addr
  d_may_fly : FuncData
  f_has_to_come_out : Addr
  d_has_to_come_out : FuncData
  f_weight_within : Addr
  d_weight_within : FuncData
  f_has_room_for : Addr
  d_has_room_for : FuncData
  f_containers_on_flight : Addr
  d_containers_on_flight : FuncData
  f_bags_on_flight : Addr
  d_bags_on_flight : FuncData
  f_bags_that_may_not_fly : Addr
  d_bags_that_may_not_fly : FuncData
  f_bags_to_get_out : Addr
  d_bags_to_get_out : FuncData
  f_moves_to_get_out : Addr
  d_moves_to_get_out : FuncData
  f_get_out : Addr
  d_get_out : FuncData
  f_with_count : Addr
  d_with_count : FuncData
  f_add_flight : Addr
  d_add_flight : FuncData
  f_add_container : Addr
  d_add_container : FuncData
  f_add_passenger : Addr
  d_add_passenger : FuncData
  f_add_bag : Addr
  d_add_bag : FuncData
  f_load_bag : Addr
  d_load_bag : FuncData
  f_change_standing : Addr
  d_change_standing : FuncData
  f_come_aboard : Addr
  d_come_aboard : FuncData
  f_leave_aircraft : Addr
  d_leave_aircraft : FuncData
  f_stay_absent : Addr
  d_stay_absent : FuncData
  f_rush_bag : Addr
  d_rush_bag : FuncData
  f_take_bag_out : Addr
  d_take_bag_out : FuncData
  f_count_moves : Addr
  d_count_moves : FuncData
  f_clear_flight : Addr
  d_clear_flight : FuncData
  f_let_go : Addr
  d_let_go : FuncData
  f_hand_out : Addr
  d_hand_out : FuncData
  f_tell_waiting : Addr
  d_tell_waiting : FuncData
  f_has_loaded_bag : Addr
  d_has_loaded_bag : FuncData
  f_change_flight : Addr
  d_change_flight : FuncData
  f_tell_place : Addr
  d_tell_place : FuncData
  f_tell_pile : Addr
  d_tell_pile : FuncData
  f_tell_state : Addr
  d_tell_state : FuncData
  f_is_there : Addr
  d_is_there : FuncData
  f_answer_call : Addr
  d_answer_call : FuncData
  f_answers : Addr
  d_answers : FuncData
  t_CALLS : Addr
  r_CALLS0 : Addr
  q_CALLS0 : Addr
  r_CALLS1 : Addr
  q_CALLS1 : Addr
  r_CALLS2 : Addr
  q_CALLS2 : Addr
  r_CALLS3 : Addr
  q_CALLS3 : Addr
  r_CALLS4 : Addr
  q_CALLS4 : Addr
  r_CALLS5 : Addr
  q_CALLS5 : Addr
  r_CALLS6 : Addr
  q_CALLS6 : Addr
  r_CALLS7 : Addr
  q_CALLS7 : Addr
  r_CALLS8 : Addr
  q_CALLS8 : Addr
  r_CALLS9 : Addr
  q_CALLS9 : Addr
  r_CALLS10 : Addr
  q_CALLS10 : Addr
  r_CALLS11 : Addr
  q_CALLS11 : Addr
  r_CALLS12 : Addr
  q_CALLS12 : Addr
  r_CALLS13 : Addr
  q_CALLS13 : Addr
  r_CALLS14 : Addr
  q_CALLS14 : Addr
  r_CALLS15 : Addr
  q_CALLS15 : Addr
  r_CALLS16 : Addr
  q_CALLS16 : Addr
  r_CALLS17 : Addr
  q_CALLS17 : Addr
  r_CALLS18 : Addr
  q_CALLS18 : Addr
set_option genInjectivity false in
set_option genSizeOf false in
structure Txt (K : PySem.W.Frag) (mg : Str → Option Value) (d : Ad) (x : Fx) : Prop where
  cl_Flight : Cls K d.CF
  mk_Flight : Mk K d.CF x.f_Flight
  m_Flight : mg "Flight" = some (.ref d.CF)
  n_Flight_gone : NoAttr K d.CF "gone"
  cl_Container : Cls K d.CK
  mk_Container : Mk K d.CK x.f_Container
  m_Container : mg "Container" = some (.ref d.CK)
  n_Container_flight : NoAttr K d.CK "flight"
  n_Container_room : NoAttr K d.CK "room"
  n_Container_limit : NoAttr K d.CK "limit"
  n_Container_pile : NoAttr K d.CK "pile"
  cl_Passenger : Cls K d.CP
  mk_Passenger : Mk K d.CP x.f_Passenger
  m_Passenger : mg "Passenger" = some (.ref d.CP)
  n_Passenger_flight : NoAttr K d.CP "flight"
  n_Passenger_standing : NoAttr K d.CP "standing"
  cl_Bag : Cls K d.CB
  mk_Bag : Mk K d.CB x.f_Bag
  m_Bag : mg "Bag" = some (.ref d.CB)
  n_Bag_owner : NoAttr K d.CB "owner"
  n_Bag_weight : NoAttr K d.CB "weight"
  n_Bag_place : NoAttr K d.CB "place"
  n_Bag_container : NoAttr K d.CB "container"
  n_Bag_follows : NoAttr K d.CB "follows"
  cl_Airport : Cls K d.CA
  mk_Airport : Mk K d.CA x.f_Airport
  m_Airport : mg "Airport" = some (.ref d.CA)
  n_Airport_flights : NoAttr K d.CA "flights"
  n_Airport_containers : NoAttr K d.CA "containers"
  n_Airport_passengers : NoAttr K d.CA "passengers"
  n_Airport_bags : NoAttr K d.CA "bags"
  n_Airport_moves_made : NoAttr K d.CA "moves_made"
  F_Flight : Fun K "__init__" "Flight.__init__" s_Flight x.f_Flight x.d_Flight
  F_Container : Fun K "__init__" "Container.__init__" s_Container x.f_Container x.d_Container
  F_Passenger : Fun K "__init__" "Passenger.__init__" s_Passenger x.f_Passenger x.d_Passenger
  F_Bag : Fun K "__init__" "Bag.__init__" s_Bag x.f_Bag x.d_Bag
  F_Airport : Fun K "__init__" "Airport.__init__" s_Airport x.f_Airport x.d_Airport
  F_is_size : Fun K "is_size" "is_size" s_is_size x.f_is_size x.d_is_size
  m_is_size : mg "is_size" = some (.ref x.f_is_size)
  F_has_flown : Fun K "has_flown" "has_flown" s_has_flown x.f_has_flown x.d_has_flown
  m_has_flown : mg "has_flown" = some (.ref x.f_has_flown)
  F_may_fly : Fun K "may_fly" "may_fly" s_may_fly x.f_may_fly x.d_may_fly
  m_may_fly : mg "may_fly" = some (.ref x.f_may_fly)
  F_has_to_come_out : Fun K "has_to_come_out" "has_to_come_out" s_has_to_come_out x.f_has_to_come_out x.d_has_to_come_out
  m_has_to_come_out : mg "has_to_come_out" = some (.ref x.f_has_to_come_out)
  F_weight_within : Fun K "weight_within" "weight_within" s_weight_within x.f_weight_within x.d_weight_within
  m_weight_within : mg "weight_within" = some (.ref x.f_weight_within)
  F_has_room_for : Fun K "has_room_for" "has_room_for" s_has_room_for x.f_has_room_for x.d_has_room_for
  m_has_room_for : mg "has_room_for" = some (.ref x.f_has_room_for)
  F_containers_on_flight : Fun K "containers_on_flight" "containers_on_flight" s_containers_on_flight x.f_containers_on_flight x.d_containers_on_flight
  m_containers_on_flight : mg "containers_on_flight" = some (.ref x.f_containers_on_flight)
  F_bags_on_flight : Fun K "bags_on_flight" "bags_on_flight" s_bags_on_flight x.f_bags_on_flight x.d_bags_on_flight
  m_bags_on_flight : mg "bags_on_flight" = some (.ref x.f_bags_on_flight)
  F_bags_that_may_not_fly : Fun K "bags_that_may_not_fly" "bags_that_may_not_fly" s_bags_that_may_not_fly x.f_bags_that_may_not_fly x.d_bags_that_may_not_fly
  m_bags_that_may_not_fly : mg "bags_that_may_not_fly" = some (.ref x.f_bags_that_may_not_fly)
  F_bags_to_get_out : Fun K "bags_to_get_out" "bags_to_get_out" s_bags_to_get_out x.f_bags_to_get_out x.d_bags_to_get_out
  m_bags_to_get_out : mg "bags_to_get_out" = some (.ref x.f_bags_to_get_out)
  F_moves_to_get_out : Fun K "moves_to_get_out" "moves_to_get_out" s_moves_to_get_out x.f_moves_to_get_out x.d_moves_to_get_out
  m_moves_to_get_out : mg "moves_to_get_out" = some (.ref x.f_moves_to_get_out)
  F_get_out : Fun K "get_out" "get_out" s_get_out x.f_get_out x.d_get_out
  m_get_out : mg "get_out" = some (.ref x.f_get_out)
  F_with_count : Fun K "with_count" "with_count" s_with_count x.f_with_count x.d_with_count
  m_with_count : mg "with_count" = some (.ref x.f_with_count)
  F_add_flight : Fun K "add_flight" "add_flight" s_add_flight x.f_add_flight x.d_add_flight
  m_add_flight : mg "add_flight" = some (.ref x.f_add_flight)
  F_add_container : Fun K "add_container" "add_container" s_add_container x.f_add_container x.d_add_container
  m_add_container : mg "add_container" = some (.ref x.f_add_container)
  F_add_passenger : Fun K "add_passenger" "add_passenger" s_add_passenger x.f_add_passenger x.d_add_passenger
  m_add_passenger : mg "add_passenger" = some (.ref x.f_add_passenger)
  F_add_bag : Fun K "add_bag" "add_bag" s_add_bag x.f_add_bag x.d_add_bag
  m_add_bag : mg "add_bag" = some (.ref x.f_add_bag)
  F_load_bag : Fun K "load_bag" "load_bag" s_load_bag x.f_load_bag x.d_load_bag
  m_load_bag : mg "load_bag" = some (.ref x.f_load_bag)
  F_change_standing : Fun K "change_standing" "change_standing" s_change_standing x.f_change_standing x.d_change_standing
  m_change_standing : mg "change_standing" = some (.ref x.f_change_standing)
  F_come_aboard : Fun K "come_aboard" "come_aboard" s_come_aboard x.f_come_aboard x.d_come_aboard
  m_come_aboard : mg "come_aboard" = some (.ref x.f_come_aboard)
  F_leave_aircraft : Fun K "leave_aircraft" "leave_aircraft" s_leave_aircraft x.f_leave_aircraft x.d_leave_aircraft
  m_leave_aircraft : mg "leave_aircraft" = some (.ref x.f_leave_aircraft)
  F_stay_absent : Fun K "stay_absent" "stay_absent" s_stay_absent x.f_stay_absent x.d_stay_absent
  m_stay_absent : mg "stay_absent" = some (.ref x.f_stay_absent)
  F_rush_bag : Fun K "rush_bag" "rush_bag" s_rush_bag x.f_rush_bag x.d_rush_bag
  m_rush_bag : mg "rush_bag" = some (.ref x.f_rush_bag)
  F_take_bag_out : Fun K "take_bag_out" "take_bag_out" s_take_bag_out x.f_take_bag_out x.d_take_bag_out
  m_take_bag_out : mg "take_bag_out" = some (.ref x.f_take_bag_out)
  F_count_moves : Fun K "count_moves" "count_moves" s_count_moves x.f_count_moves x.d_count_moves
  m_count_moves : mg "count_moves" = some (.ref x.f_count_moves)
  F_clear_flight : Fun K "clear_flight" "clear_flight" s_clear_flight x.f_clear_flight x.d_clear_flight
  m_clear_flight : mg "clear_flight" = some (.ref x.f_clear_flight)
  F_let_go : Fun K "let_go" "let_go" s_let_go x.f_let_go x.d_let_go
  m_let_go : mg "let_go" = some (.ref x.f_let_go)
  F_hand_out : Fun K "hand_out" "hand_out" s_hand_out x.f_hand_out x.d_hand_out
  m_hand_out : mg "hand_out" = some (.ref x.f_hand_out)
  F_tell_waiting : Fun K "tell_waiting" "tell_waiting" s_tell_waiting x.f_tell_waiting x.d_tell_waiting
  m_tell_waiting : mg "tell_waiting" = some (.ref x.f_tell_waiting)
  F_has_loaded_bag : Fun K "has_loaded_bag" "has_loaded_bag" s_has_loaded_bag x.f_has_loaded_bag x.d_has_loaded_bag
  m_has_loaded_bag : mg "has_loaded_bag" = some (.ref x.f_has_loaded_bag)
  F_change_flight : Fun K "change_flight" "change_flight" s_change_flight x.f_change_flight x.d_change_flight
  m_change_flight : mg "change_flight" = some (.ref x.f_change_flight)
  F_tell_place : Fun K "tell_place" "tell_place" s_tell_place x.f_tell_place x.d_tell_place
  m_tell_place : mg "tell_place" = some (.ref x.f_tell_place)
  F_tell_pile : Fun K "tell_pile" "tell_pile" s_tell_pile x.f_tell_pile x.d_tell_pile
  m_tell_pile : mg "tell_pile" = some (.ref x.f_tell_pile)
  F_tell_state : Fun K "tell_state" "tell_state" s_tell_state x.f_tell_state x.d_tell_state
  m_tell_state : mg "tell_state" = some (.ref x.f_tell_state)
  F_is_there : Fun K "is_there" "is_there" s_is_there x.f_is_there x.d_is_there
  m_is_there : mg "is_there" = some (.ref x.f_is_there)
  F_answer_call : Fun K "answer_call" "answer_call" s_answer_call x.f_answer_call x.d_answer_call
  m_answer_call : mg "answer_call" = some (.ref x.f_answer_call)
  F_answers : Fun K "answers" "answers" s_answers x.f_answers x.d_answers
  m_answers : mg "answers" = some (.ref x.f_answers)
  c_WRONG_SIZE : ∃ t, mg "WRONG_SIZE" = some (.int (-1) t)
  c_NO_SUCH : ∃ t, mg "NO_SUCH" = some (.int (-2) t)
  c_NOT_SO : ∃ t, mg "NOT_SO" = some (.int (-4) t)
  c_NO_ROOM : ∃ t, mg "NO_ROOM" = some (.int (-5) t)
  c_NOT_LET : ∃ t, mg "NOT_LET" = some (.int (-6) t)
  c_WRONG_OWNER : ∃ t, mg "WRONG_OWNER" = some (.int (-7) t)
  c_MOST_FLIGHTS : ∃ t, mg "MOST_FLIGHTS" = some (.int (8) t)
  c_MOST_CONTAINERS : ∃ t, mg "MOST_CONTAINERS" = some (.int (12) t)
  c_MOST_PASSENGERS : ∃ t, mg "MOST_PASSENGERS" = some (.int (40) t)
  c_MOST_BAGS : ∃ t, mg "MOST_BAGS" = some (.int (60) t)
  c_MOST_BAGS_WITHIN : ∃ t, mg "MOST_BAGS_WITHIN" = some (.int (20) t)
  c_MOST_WEIGHT_WITHIN : ∃ t, mg "MOST_WEIGHT_WITHIN" = some (.int (2000) t)
  c_MOST_BAG_WEIGHT : ∃ t, mg "MOST_BAG_WEIGHT" = some (.int (100) t)
  c_EXPECTED : ∃ t, mg "EXPECTED" = some (.int (0) t)
  c_ABOARD : ∃ t, mg "ABOARD" = some (.int (1) t)
  c_NOT_COMING : ∃ t, mg "NOT_COMING" = some (.int (2) t)
  c_HALL : ∃ t, mg "HALL" = some (.int (0) t)
  c_LOADED : ∃ t, mg "LOADED" = some (.int (1) t)
  c_FLOWN : ∃ t, mg "FLOWN" = some (.int (2) t)
  c_HANDED_OUT : ∃ t, mg "HANDED_OUT" = some (.int (3) t)
  z_any : mg "any" = none
  z_int : mg "int" = none
  z_len : mg "len" = none
  z_sum : mg "sum" = none
  z_zip : mg "zip" = none
  m_CALLS : mg "CALLS" = some (.ref x.t_CALLS)
  T_CALLS : ∀ H : Hp, SqT K H x.t_CALLS [.ref x.r_CALLS0, .ref x.r_CALLS1, .ref x.r_CALLS2, .ref x.r_CALLS3, .ref x.r_CALLS4, .ref x.r_CALLS5, .ref x.r_CALLS6, .ref x.r_CALLS7, .ref x.r_CALLS8, .ref x.r_CALLS9, .ref x.r_CALLS10, .ref x.r_CALLS11, .ref x.r_CALLS12, .ref x.r_CALLS13, .ref x.r_CALLS14, .ref x.r_CALLS15, .ref x.r_CALLS16, .ref x.r_CALLS17, .ref x.r_CALLS18]
  R_CALLS0 : ∀ H : Hp, SqT K H x.r_CALLS0 [.ref x.f_add_flight, .ref x.q_CALLS0]
  Q_CALLS0 : ∀ H : Hp, SqT K H x.q_CALLS0 []
  R_CALLS1 : ∀ H : Hp, SqT K H x.r_CALLS1 [.ref x.f_add_container, .ref x.q_CALLS1]
  Q_CALLS1 : ∀ H : Hp, SqT K H x.q_CALLS1 [.str "flight", .str "size", .str "size"]
  R_CALLS2 : ∀ H : Hp, SqT K H x.r_CALLS2 [.ref x.f_add_passenger, .ref x.q_CALLS2]
  Q_CALLS2 : ∀ H : Hp, SqT K H x.q_CALLS2 [.str "flight"]
  R_CALLS3 : ∀ H : Hp, SqT K H x.r_CALLS3 [.ref x.f_add_bag, .ref x.q_CALLS3]
  Q_CALLS3 : ∀ H : Hp, SqT K H x.q_CALLS3 [.str "passenger", .str "size"]
  R_CALLS4 : ∀ H : Hp, SqT K H x.r_CALLS4 [.ref x.f_load_bag, .ref x.q_CALLS4]
  Q_CALLS4 : ∀ H : Hp, SqT K H x.q_CALLS4 [.str "bag", .str "container"]
  R_CALLS5 : ∀ H : Hp, SqT K H x.r_CALLS5 [.ref x.f_come_aboard, .ref x.q_CALLS5]
  Q_CALLS5 : ∀ H : Hp, SqT K H x.q_CALLS5 [.str "passenger"]
  R_CALLS6 : ∀ H : Hp, SqT K H x.r_CALLS6 [.ref x.f_leave_aircraft, .ref x.q_CALLS6]
  Q_CALLS6 : ∀ H : Hp, SqT K H x.q_CALLS6 [.str "passenger"]
  R_CALLS7 : ∀ H : Hp, SqT K H x.r_CALLS7 [.ref x.f_stay_absent, .ref x.q_CALLS7]
  Q_CALLS7 : ∀ H : Hp, SqT K H x.q_CALLS7 [.str "passenger"]
  R_CALLS8 : ∀ H : Hp, SqT K H x.r_CALLS8 [.ref x.f_rush_bag, .ref x.q_CALLS8]
  Q_CALLS8 : ∀ H : Hp, SqT K H x.q_CALLS8 [.str "bag"]
  R_CALLS9 : ∀ H : Hp, SqT K H x.r_CALLS9 [.ref x.f_take_bag_out, .ref x.q_CALLS9]
  Q_CALLS9 : ∀ H : Hp, SqT K H x.q_CALLS9 [.str "bag"]
  R_CALLS10 : ∀ H : Hp, SqT K H x.r_CALLS10 [.ref x.f_count_moves, .ref x.q_CALLS10]
  Q_CALLS10 : ∀ H : Hp, SqT K H x.q_CALLS10 [.str "flight"]
  R_CALLS11 : ∀ H : Hp, SqT K H x.r_CALLS11 [.ref x.f_clear_flight, .ref x.q_CALLS11]
  Q_CALLS11 : ∀ H : Hp, SqT K H x.q_CALLS11 [.str "flight"]
  R_CALLS12 : ∀ H : Hp, SqT K H x.r_CALLS12 [.ref x.f_let_go, .ref x.q_CALLS12]
  Q_CALLS12 : ∀ H : Hp, SqT K H x.q_CALLS12 [.str "flight"]
  R_CALLS13 : ∀ H : Hp, SqT K H x.r_CALLS13 [.ref x.f_hand_out, .ref x.q_CALLS13]
  Q_CALLS13 : ∀ H : Hp, SqT K H x.q_CALLS13 [.str "bag"]
  R_CALLS14 : ∀ H : Hp, SqT K H x.r_CALLS14 [.ref x.f_tell_waiting, .ref x.q_CALLS14]
  Q_CALLS14 : ∀ H : Hp, SqT K H x.q_CALLS14 [.str "flight"]
  R_CALLS15 : ∀ H : Hp, SqT K H x.r_CALLS15 [.ref x.f_change_flight, .ref x.q_CALLS15]
  Q_CALLS15 : ∀ H : Hp, SqT K H x.q_CALLS15 [.str "passenger", .str "flight"]
  R_CALLS16 : ∀ H : Hp, SqT K H x.r_CALLS16 [.ref x.f_tell_place, .ref x.q_CALLS16]
  Q_CALLS16 : ∀ H : Hp, SqT K H x.q_CALLS16 [.str "bag"]
  R_CALLS17 : ∀ H : Hp, SqT K H x.r_CALLS17 [.ref x.f_tell_pile, .ref x.q_CALLS17]
  Q_CALLS17 : ∀ H : Hp, SqT K H x.q_CALLS17 [.str "container"]
  R_CALLS18 : ∀ H : Hp, SqT K H x.r_CALLS18 [.ref x.f_tell_state, .ref x.q_CALLS18]
  Q_CALLS18 : ∀ H : Hp, SqT K H x.q_CALLS18 []
theorem tup_in {K : PySem.W.Frag} {H : Hp} {a : Addr} {od : Option Addr} {its : Array Value} {n : Nat} {sl : Array (Option Value)} {xs : List V} (l : K.lookup a = some ⟨.type "tuple", od, .seq its n, sl⟩) (z : its.size ≤ sizeLine) (v : Vals xs its.toList) : SqT K H a xs :=
  .inr ⟨_, its, n, l, rfl, rfl, z, v⟩
theorem u0 {l : List Value} (h : l.length = 0) : l = [] := List.eq_nil_of_length_eq_zero h
theorem uS {l : List Value} {n : Nat} (h : l.length = n + 1) : ∃ a r, l = a :: r ∧ r.length = n := by
  cases l with
  | nil => cases h
  | cons a r => exact ⟨a, r, rfl, Nat.succ.inj h⟩
theorem bB1 {fd : FuncData} {ps : List Str} (h : ∀ a, bindArgs fd { pos := [a] } = pure (ps.zip [a])) (us : List Value) (hl : us.length = 1) : bindArgs fd { pos := us } = pure (ps.zip us) := by
  obtain ⟨a0, r0, rfl, h0⟩ := uS hl
  cases u0 h0
  exact h a0
theorem bB2 {fd : FuncData} {ps : List Str} (h : ∀ a b, bindArgs fd { pos := [a, b] } = pure (ps.zip [a, b])) (us : List Value) (hl : us.length = 2) : bindArgs fd { pos := us } = pure (ps.zip us) := by
  obtain ⟨a0, r0, rfl, h0⟩ := uS hl
  obtain ⟨a1, r1, rfl, h1⟩ := uS h0
  cases u0 h1
  exact h a0 a1
theorem bB3 {fd : FuncData} {ps : List Str} (h : ∀ a b c, bindArgs fd { pos := [a, b, c] } = pure (ps.zip [a, b, c])) (us : List Value) (hl : us.length = 3) : bindArgs fd { pos := us } = pure (ps.zip us) := by
  obtain ⟨a0, r0, rfl, h0⟩ := uS hl
  obtain ⟨a1, r1, rfl, h1⟩ := uS h0
  obtain ⟨a2, r2, rfl, h2⟩ := uS h1
  cases u0 h2
  exact h a0 a1 a2
theorem bB4 {fd : FuncData} {ps : List Str} (h : ∀ a b c e, bindArgs fd { pos := [a, b, c, e] } = pure (ps.zip [a, b, c, e])) (us : List Value) (hl : us.length = 4) : bindArgs fd { pos := us } = pure (ps.zip us) := by
  obtain ⟨a0, r0, rfl, h0⟩ := uS hl
  obtain ⟨a1, r1, rfl, h1⟩ := uS h0
  obtain ⟨a2, r2, rfl, h2⟩ := uS h1
  obtain ⟨a3, r3, rfl, h3⟩ := uS h2
  cases u0 h3
  exact h a0 a1 a2 a3
theorem bd_Flight {K : PySem.W.Frag} {f : Addr} {fd : FuncData} (F : Fun K "__init__" "Flight.__init__" s_Flight f fd) : Binds K fd ["self"] [] := F.binds (ps := ["self"]) fun _ _ _ _ _ _ => bB1 fun _ => rfl
theorem bd_Container {K : PySem.W.Frag} {f : Addr} {fd : FuncData} (F : Fun K "__init__" "Container.__init__" s_Container f fd) : Binds K fd ["self", "flight", "room", "limit"] [] := F.binds (ps := ["self", "flight", "room", "limit"]) fun _ _ _ _ _ _ => bB4 fun _ _ _ _ => rfl
theorem bd_Passenger {K : PySem.W.Frag} {f : Addr} {fd : FuncData} (F : Fun K "__init__" "Passenger.__init__" s_Passenger f fd) : Binds K fd ["self", "flight"] [] := F.binds (ps := ["self", "flight"]) fun _ _ _ _ _ _ => bB2 fun _ _ => rfl
theorem bd_Bag {K : PySem.W.Frag} {f : Addr} {fd : FuncData} (F : Fun K "__init__" "Bag.__init__" s_Bag f fd) : Binds K fd ["self", "owner", "weight"] [] := F.binds (ps := ["self", "owner", "weight"]) fun _ _ _ _ _ _ => bB3 fun _ _ _ => rfl
theorem bd_Airport {K : PySem.W.Frag} {f : Addr} {fd : FuncData} (F : Fun K "__init__" "Airport.__init__" s_Airport f fd) : Binds K fd ["self"] [] := F.binds (ps := ["self"]) fun _ _ _ _ _ _ => bB1 fun _ => rfl
theorem bd_is_size {K : PySem.W.Frag} {f : Addr} {fd : FuncData} (F : Fun K "is_size" "is_size" s_is_size f fd) : Binds K fd ["number", "most"] [] := F.binds (ps := ["number", "most"]) fun _ _ _ _ _ _ => bB2 fun _ _ => rfl
theorem bd_has_flown {K : PySem.W.Frag} {f : Addr} {fd : FuncData} (F : Fun K "has_flown" "has_flown" s_has_flown f fd) : Binds K fd ["airport", "passenger"] [] := F.binds (ps := ["airport", "passenger"]) fun _ _ _ _ _ _ => bB2 fun _ _ => rfl
theorem bd_may_fly {K : PySem.W.Frag} {f : Addr} {fd : FuncData} (F : Fun K "may_fly" "may_fly" s_may_fly f fd) : Binds K fd ["airport", "bag"] [] := F.binds (ps := ["airport", "bag"]) fun _ _ _ _ _ _ => bB2 fun _ _ => rfl
theorem bd_has_to_come_out {K : PySem.W.Frag} {f : Addr} {fd : FuncData} (F : Fun K "has_to_come_out" "has_to_come_out" s_has_to_come_out f fd) : Binds K fd ["airport", "bag"] [] := F.binds (ps := ["airport", "bag"]) fun _ _ _ _ _ _ => bB2 fun _ _ => rfl
theorem bd_weight_within {K : PySem.W.Frag} {f : Addr} {fd : FuncData} (F : Fun K "weight_within" "weight_within" s_weight_within f fd) : Binds K fd ["airport", "container"] [] := F.binds (ps := ["airport", "container"]) fun _ _ _ _ _ _ => bB2 fun _ _ => rfl
theorem bd_has_room_for {K : PySem.W.Frag} {f : Addr} {fd : FuncData} (F : Fun K "has_room_for" "has_room_for" s_has_room_for f fd) : Binds K fd ["airport", "container", "bag"] [] := F.binds (ps := ["airport", "container", "bag"]) fun _ _ _ _ _ _ => bB3 fun _ _ _ => rfl
theorem bd_containers_on_flight {K : PySem.W.Frag} {f : Addr} {fd : FuncData} (F : Fun K "containers_on_flight" "containers_on_flight" s_containers_on_flight f fd) : Binds K fd ["airport", "flight"] [] := F.binds (ps := ["airport", "flight"]) fun _ _ _ _ _ _ => bB2 fun _ _ => rfl
theorem bd_bags_on_flight {K : PySem.W.Frag} {f : Addr} {fd : FuncData} (F : Fun K "bags_on_flight" "bags_on_flight" s_bags_on_flight f fd) : Binds K fd ["airport", "flight"] [] := F.binds (ps := ["airport", "flight"]) fun _ _ _ _ _ _ => bB2 fun _ _ => rfl
theorem bd_bags_that_may_not_fly {K : PySem.W.Frag} {f : Addr} {fd : FuncData} (F : Fun K "bags_that_may_not_fly" "bags_that_may_not_fly" s_bags_that_may_not_fly f fd) : Binds K fd ["airport", "flight"] [] := F.binds (ps := ["airport", "flight"]) fun _ _ _ _ _ _ => bB2 fun _ _ => rfl
theorem bd_bags_to_get_out {K : PySem.W.Frag} {f : Addr} {fd : FuncData} (F : Fun K "bags_to_get_out" "bags_to_get_out" s_bags_to_get_out f fd) : Binds K fd ["airport", "container"] [] := F.binds (ps := ["airport", "container"]) fun _ _ _ _ _ _ => bB2 fun _ _ => rfl
theorem bd_moves_to_get_out {K : PySem.W.Frag} {f : Addr} {fd : FuncData} (F : Fun K "moves_to_get_out" "moves_to_get_out" s_moves_to_get_out f fd) : Binds K fd ["container", "wanted"] [] := F.binds (ps := ["container", "wanted"]) fun _ _ _ _ _ _ => bB2 fun _ _ => rfl
theorem bd_get_out {K : PySem.W.Frag} {f : Addr} {fd : FuncData} (F : Fun K "get_out" "get_out" s_get_out f fd) : Binds K fd ["airport", "container", "wanted"] [] := F.binds (ps := ["airport", "container", "wanted"]) fun _ _ _ _ _ _ => bB3 fun _ _ _ => rfl
theorem bd_with_count {K : PySem.W.Frag} {f : Addr} {fd : FuncData} (F : Fun K "with_count" "with_count" s_with_count f fd) : Binds K fd ["numbers"] [] := F.binds (ps := ["numbers"]) fun _ _ _ _ _ _ => bB1 fun _ => rfl
theorem bd_add_flight {K : PySem.W.Frag} {f : Addr} {fd : FuncData} (F : Fun K "add_flight" "add_flight" s_add_flight f fd) : Binds K fd ["airport", "told"] [] := F.binds (ps := ["airport", "told"]) fun _ _ _ _ _ _ => bB2 fun _ _ => rfl
theorem bd_add_container {K : PySem.W.Frag} {f : Addr} {fd : FuncData} (F : Fun K "add_container" "add_container" s_add_container f fd) : Binds K fd ["airport", "told"] [] := F.binds (ps := ["airport", "told"]) fun _ _ _ _ _ _ => bB2 fun _ _ => rfl
theorem bd_add_passenger {K : PySem.W.Frag} {f : Addr} {fd : FuncData} (F : Fun K "add_passenger" "add_passenger" s_add_passenger f fd) : Binds K fd ["airport", "told"] [] := F.binds (ps := ["airport", "told"]) fun _ _ _ _ _ _ => bB2 fun _ _ => rfl
theorem bd_add_bag {K : PySem.W.Frag} {f : Addr} {fd : FuncData} (F : Fun K "add_bag" "add_bag" s_add_bag f fd) : Binds K fd ["airport", "told"] [] := F.binds (ps := ["airport", "told"]) fun _ _ _ _ _ _ => bB2 fun _ _ => rfl
theorem bd_load_bag {K : PySem.W.Frag} {f : Addr} {fd : FuncData} (F : Fun K "load_bag" "load_bag" s_load_bag f fd) : Binds K fd ["airport", "told"] [] := F.binds (ps := ["airport", "told"]) fun _ _ _ _ _ _ => bB2 fun _ _ => rfl
theorem bd_change_standing {K : PySem.W.Frag} {f : Addr} {fd : FuncData} (F : Fun K "change_standing" "change_standing" s_change_standing f fd) : Binds K fd ["airport", "number", "before", "after"] [] := F.binds (ps := ["airport", "number", "before", "after"]) fun _ _ _ _ _ _ => bB4 fun _ _ _ _ => rfl
theorem bd_come_aboard {K : PySem.W.Frag} {f : Addr} {fd : FuncData} (F : Fun K "come_aboard" "come_aboard" s_come_aboard f fd) : Binds K fd ["airport", "told"] [] := F.binds (ps := ["airport", "told"]) fun _ _ _ _ _ _ => bB2 fun _ _ => rfl
theorem bd_leave_aircraft {K : PySem.W.Frag} {f : Addr} {fd : FuncData} (F : Fun K "leave_aircraft" "leave_aircraft" s_leave_aircraft f fd) : Binds K fd ["airport", "told"] [] := F.binds (ps := ["airport", "told"]) fun _ _ _ _ _ _ => bB2 fun _ _ => rfl
theorem bd_stay_absent {K : PySem.W.Frag} {f : Addr} {fd : FuncData} (F : Fun K "stay_absent" "stay_absent" s_stay_absent f fd) : Binds K fd ["airport", "told"] [] := F.binds (ps := ["airport", "told"]) fun _ _ _ _ _ _ => bB2 fun _ _ => rfl
theorem bd_rush_bag {K : PySem.W.Frag} {f : Addr} {fd : FuncData} (F : Fun K "rush_bag" "rush_bag" s_rush_bag f fd) : Binds K fd ["airport", "told"] [] := F.binds (ps := ["airport", "told"]) fun _ _ _ _ _ _ => bB2 fun _ _ => rfl
theorem bd_take_bag_out {K : PySem.W.Frag} {f : Addr} {fd : FuncData} (F : Fun K "take_bag_out" "take_bag_out" s_take_bag_out f fd) : Binds K fd ["airport", "told"] [] := F.binds (ps := ["airport", "told"]) fun _ _ _ _ _ _ => bB2 fun _ _ => rfl
theorem bd_count_moves {K : PySem.W.Frag} {f : Addr} {fd : FuncData} (F : Fun K "count_moves" "count_moves" s_count_moves f fd) : Binds K fd ["airport", "told"] [] := F.binds (ps := ["airport", "told"]) fun _ _ _ _ _ _ => bB2 fun _ _ => rfl
theorem bd_clear_flight {K : PySem.W.Frag} {f : Addr} {fd : FuncData} (F : Fun K "clear_flight" "clear_flight" s_clear_flight f fd) : Binds K fd ["airport", "told"] [] := F.binds (ps := ["airport", "told"]) fun _ _ _ _ _ _ => bB2 fun _ _ => rfl
theorem bd_let_go {K : PySem.W.Frag} {f : Addr} {fd : FuncData} (F : Fun K "let_go" "let_go" s_let_go f fd) : Binds K fd ["airport", "told"] [] := F.binds (ps := ["airport", "told"]) fun _ _ _ _ _ _ => bB2 fun _ _ => rfl
theorem bd_hand_out {K : PySem.W.Frag} {f : Addr} {fd : FuncData} (F : Fun K "hand_out" "hand_out" s_hand_out f fd) : Binds K fd ["airport", "told"] [] := F.binds (ps := ["airport", "told"]) fun _ _ _ _ _ _ => bB2 fun _ _ => rfl
theorem bd_tell_waiting {K : PySem.W.Frag} {f : Addr} {fd : FuncData} (F : Fun K "tell_waiting" "tell_waiting" s_tell_waiting f fd) : Binds K fd ["airport", "told"] [] := F.binds (ps := ["airport", "told"]) fun _ _ _ _ _ _ => bB2 fun _ _ => rfl
theorem bd_has_loaded_bag {K : PySem.W.Frag} {f : Addr} {fd : FuncData} (F : Fun K "has_loaded_bag" "has_loaded_bag" s_has_loaded_bag f fd) : Binds K fd ["airport", "owner"] [] := F.binds (ps := ["airport", "owner"]) fun _ _ _ _ _ _ => bB2 fun _ _ => rfl
theorem bd_change_flight {K : PySem.W.Frag} {f : Addr} {fd : FuncData} (F : Fun K "change_flight" "change_flight" s_change_flight f fd) : Binds K fd ["airport", "told"] [] := F.binds (ps := ["airport", "told"]) fun _ _ _ _ _ _ => bB2 fun _ _ => rfl
theorem bd_tell_place {K : PySem.W.Frag} {f : Addr} {fd : FuncData} (F : Fun K "tell_place" "tell_place" s_tell_place f fd) : Binds K fd ["airport", "told"] [] := F.binds (ps := ["airport", "told"]) fun _ _ _ _ _ _ => bB2 fun _ _ => rfl
theorem bd_tell_pile {K : PySem.W.Frag} {f : Addr} {fd : FuncData} (F : Fun K "tell_pile" "tell_pile" s_tell_pile f fd) : Binds K fd ["airport", "told"] [] := F.binds (ps := ["airport", "told"]) fun _ _ _ _ _ _ => bB2 fun _ _ => rfl
theorem bd_tell_state {K : PySem.W.Frag} {f : Addr} {fd : FuncData} (F : Fun K "tell_state" "tell_state" s_tell_state f fd) : Binds K fd ["airport", "told"] [] := F.binds (ps := ["airport", "told"]) fun _ _ _ _ _ _ => bB2 fun _ _ => rfl
theorem bd_is_there {K : PySem.W.Frag} {f : Addr} {fd : FuncData} (F : Fun K "is_there" "is_there" s_is_there f fd) : Binds K fd ["airport", "kind", "number"] [] := F.binds (ps := ["airport", "kind", "number"]) fun _ _ _ _ _ _ => bB3 fun _ _ _ => rfl
theorem bd_answer_call {K : PySem.W.Frag} {f : Addr} {fd : FuncData} (F : Fun K "answer_call" "answer_call" s_answer_call f fd) : Binds K fd ["airport", "call", "told"] [] := F.binds (ps := ["airport", "call", "told"]) fun _ _ _ _ _ _ => bB3 fun _ _ _ => rfl
theorem txt_mk {K : PySem.W.Frag} {h : Heap} {mg : Str → Option Value} (X : K.In h) (G : h.Ns mainGlobals mg)
    {CF f_Flight : Addr}
    {CK f_Container : Addr}
    {CP f_Passenger : Addr}
    {CB f_Bag : Addr}
    {CA f_Airport : Addr}
    {oc_Flight kV_Flight dc_Flight pm_Flight cd_Flight ct_Flight : Value} {od_Flight an_Flight : Option Addr} {sl_Flight : Array (Option Value)}
    {oc_Container kV_Container dc_Container pm_Container cd_Container ct_Container : Value} {od_Container an_Container : Option Addr} {sl_Container : Array (Option Value)}
    {oc_Passenger kV_Passenger dc_Passenger pm_Passenger cd_Passenger ct_Passenger : Value} {od_Passenger an_Passenger : Option Addr} {sl_Passenger : Array (Option Value)}
    {oc_Bag kV_Bag dc_Bag pm_Bag cd_Bag ct_Bag : Value} {od_Bag an_Bag : Option Addr} {sl_Bag : Array (Option Value)}
    {oc_Airport kV_Airport dc_Airport pm_Airport cd_Airport ct_Airport : Value} {od_Airport an_Airport : Option Addr} {sl_Airport : Array (Option Value)}
    {f_is_size : Addr}
    {oc_is_size kV_is_size dc_is_size pm_is_size cd_is_size ct_is_size : Value} {od_is_size an_is_size : Option Addr} {sl_is_size : Array (Option Value)}
    {f_has_flown : Addr}
    {oc_has_flown kV_has_flown dc_has_flown pm_has_flown cd_has_flown ct_has_flown : Value} {od_has_flown an_has_flown : Option Addr} {sl_has_flown : Array (Option Value)}
    {f_may_fly : Addr}
    {oc_may_fly kV_may_fly dc_may_fly pm_may_fly cd_may_fly ct_may_fly : Value} {od_may_fly an_may_fly : Option Addr} {sl_may_fly : Array (Option Value)}
    {f_has_to_come_out : Addr}
    {oc_has_to_come_out kV_has_to_come_out dc_has_to_come_out pm_has_to_come_out cd_has_to_come_out ct_has_to_come_out : Value} {od_has_to_come_out an_has_to_come_out : Option Addr} {sl_has_to_come_out : Array (Option Value)}
    {f_weight_within : Addr}
    {oc_weight_within kV_weight_within dc_weight_within pm_weight_within cd_weight_within ct_weight_within : Value} {od_weight_within an_weight_within : Option Addr} {sl_weight_within : Array (Option Value)}
    {f_has_room_for : Addr}
    {oc_has_room_for kV_has_room_for dc_has_room_for pm_has_room_for cd_has_room_for ct_has_room_for : Value} {od_has_room_for an_has_room_for : Option Addr} {sl_has_room_for : Array (Option Value)}
    {f_containers_on_flight : Addr}
    {oc_containers_on_flight kV_containers_on_flight dc_containers_on_flight pm_containers_on_flight cd_containers_on_flight ct_containers_on_flight : Value} {od_containers_on_flight an_containers_on_flight : Option Addr} {sl_containers_on_flight : Array (Option Value)}
    {f_bags_on_flight : Addr}
    {oc_bags_on_flight kV_bags_on_flight dc_bags_on_flight pm_bags_on_flight cd_bags_on_flight ct_bags_on_flight : Value} {od_bags_on_flight an_bags_on_flight : Option Addr} {sl_bags_on_flight : Array (Option Value)}
    {f_bags_that_may_not_fly : Addr}
    {oc_bags_that_may_not_fly kV_bags_that_may_not_fly dc_bags_that_may_not_fly pm_bags_that_may_not_fly cd_bags_that_may_not_fly ct_bags_that_may_not_fly : Value} {od_bags_that_may_not_fly an_bags_that_may_not_fly : Option Addr} {sl_bags_that_may_not_fly : Array (Option Value)}
    {f_bags_to_get_out : Addr}
    {oc_bags_to_get_out kV_bags_to_get_out dc_bags_to_get_out pm_bags_to_get_out cd_bags_to_get_out ct_bags_to_get_out : Value} {od_bags_to_get_out an_bags_to_get_out : Option Addr} {sl_bags_to_get_out : Array (Option Value)}
    {f_moves_to_get_out : Addr}
    {oc_moves_to_get_out kV_moves_to_get_out dc_moves_to_get_out pm_moves_to_get_out cd_moves_to_get_out ct_moves_to_get_out : Value} {od_moves_to_get_out an_moves_to_get_out : Option Addr} {sl_moves_to_get_out : Array (Option Value)}
    {f_get_out : Addr}
    {oc_get_out kV_get_out dc_get_out pm_get_out cd_get_out ct_get_out : Value} {od_get_out an_get_out : Option Addr} {sl_get_out : Array (Option Value)}
    {f_with_count : Addr}
    {oc_with_count kV_with_count dc_with_count pm_with_count cd_with_count ct_with_count : Value} {od_with_count an_with_count : Option Addr} {sl_with_count : Array (Option Value)}
    {f_add_flight : Addr}
    {oc_add_flight kV_add_flight dc_add_flight pm_add_flight cd_add_flight ct_add_flight : Value} {od_add_flight an_add_flight : Option Addr} {sl_add_flight : Array (Option Value)}
    {f_add_container : Addr}
    {oc_add_container kV_add_container dc_add_container pm_add_container cd_add_container ct_add_container : Value} {od_add_container an_add_container : Option Addr} {sl_add_container : Array (Option Value)}
    {f_add_passenger : Addr}
    {oc_add_passenger kV_add_passenger dc_add_passenger pm_add_passenger cd_add_passenger ct_add_passenger : Value} {od_add_passenger an_add_passenger : Option Addr} {sl_add_passenger : Array (Option Value)}
    {f_add_bag : Addr}
    {oc_add_bag kV_add_bag dc_add_bag pm_add_bag cd_add_bag ct_add_bag : Value} {od_add_bag an_add_bag : Option Addr} {sl_add_bag : Array (Option Value)}
    {f_load_bag : Addr}
    {oc_load_bag kV_load_bag dc_load_bag pm_load_bag cd_load_bag ct_load_bag : Value} {od_load_bag an_load_bag : Option Addr} {sl_load_bag : Array (Option Value)}
    {f_change_standing : Addr}
    {oc_change_standing kV_change_standing dc_change_standing pm_change_standing cd_change_standing ct_change_standing : Value} {od_change_standing an_change_standing : Option Addr} {sl_change_standing : Array (Option Value)}
    {f_come_aboard : Addr}
    {oc_come_aboard kV_come_aboard dc_come_aboard pm_come_aboard cd_come_aboard ct_come_aboard : Value} {od_come_aboard an_come_aboard : Option Addr} {sl_come_aboard : Array (Option Value)}
    {f_leave_aircraft : Addr}
    {oc_leave_aircraft kV_leave_aircraft dc_leave_aircraft pm_leave_aircraft cd_leave_aircraft ct_leave_aircraft : Value} {od_leave_aircraft an_leave_aircraft : Option Addr} {sl_leave_aircraft : Array (Option Value)}
    {f_stay_absent : Addr}
    {oc_stay_absent kV_stay_absent dc_stay_absent pm_stay_absent cd_stay_absent ct_stay_absent : Value} {od_stay_absent an_stay_absent : Option Addr} {sl_stay_absent : Array (Option Value)}
    {f_rush_bag : Addr}
    {oc_rush_bag kV_rush_bag dc_rush_bag pm_rush_bag cd_rush_bag ct_rush_bag : Value} {od_rush_bag an_rush_bag : Option Addr} {sl_rush_bag : Array (Option Value)}
    {f_take_bag_out : Addr}
    {oc_take_bag_out kV_take_bag_out dc_take_bag_out pm_take_bag_out cd_take_bag_out ct_take_bag_out : Value} {od_take_bag_out an_take_bag_out : Option Addr} {sl_take_bag_out : Array (Option Value)}
    {f_count_moves : Addr}
    {oc_count_moves kV_count_moves dc_count_moves pm_count_moves cd_count_moves ct_count_moves : Value} {od_count_moves an_count_moves : Option Addr} {sl_count_moves : Array (Option Value)}
    {f_clear_flight : Addr}
    {oc_clear_flight kV_clear_flight dc_clear_flight pm_clear_flight cd_clear_flight ct_clear_flight : Value} {od_clear_flight an_clear_flight : Option Addr} {sl_clear_flight : Array (Option Value)}
    {f_let_go : Addr}
    {oc_let_go kV_let_go dc_let_go pm_let_go cd_let_go ct_let_go : Value} {od_let_go an_let_go : Option Addr} {sl_let_go : Array (Option Value)}
    {f_hand_out : Addr}
    {oc_hand_out kV_hand_out dc_hand_out pm_hand_out cd_hand_out ct_hand_out : Value} {od_hand_out an_hand_out : Option Addr} {sl_hand_out : Array (Option Value)}
    {f_tell_waiting : Addr}
    {oc_tell_waiting kV_tell_waiting dc_tell_waiting pm_tell_waiting cd_tell_waiting ct_tell_waiting : Value} {od_tell_waiting an_tell_waiting : Option Addr} {sl_tell_waiting : Array (Option Value)}
    {f_has_loaded_bag : Addr}
    {oc_has_loaded_bag kV_has_loaded_bag dc_has_loaded_bag pm_has_loaded_bag cd_has_loaded_bag ct_has_loaded_bag : Value} {od_has_loaded_bag an_has_loaded_bag : Option Addr} {sl_has_loaded_bag : Array (Option Value)}
    {f_change_flight : Addr}
    {oc_change_flight kV_change_flight dc_change_flight pm_change_flight cd_change_flight ct_change_flight : Value} {od_change_flight an_change_flight : Option Addr} {sl_change_flight : Array (Option Value)}
    {f_tell_place : Addr}
    {oc_tell_place kV_tell_place dc_tell_place pm_tell_place cd_tell_place ct_tell_place : Value} {od_tell_place an_tell_place : Option Addr} {sl_tell_place : Array (Option Value)}
    {f_tell_pile : Addr}
    {oc_tell_pile kV_tell_pile dc_tell_pile pm_tell_pile cd_tell_pile ct_tell_pile : Value} {od_tell_pile an_tell_pile : Option Addr} {sl_tell_pile : Array (Option Value)}
    {f_tell_state : Addr}
    {oc_tell_state kV_tell_state dc_tell_state pm_tell_state cd_tell_state ct_tell_state : Value} {od_tell_state an_tell_state : Option Addr} {sl_tell_state : Array (Option Value)}
    {f_is_there : Addr}
    {oc_is_there kV_is_there dc_is_there pm_is_there cd_is_there ct_is_there : Value} {od_is_there an_is_there : Option Addr} {sl_is_there : Array (Option Value)}
    {f_answer_call : Addr}
    {oc_answer_call kV_answer_call dc_answer_call pm_answer_call cd_answer_call ct_answer_call : Value} {od_answer_call an_answer_call : Option Addr} {sl_answer_call : Array (Option Value)}
    {f_answers : Addr}
    {oc_answers kV_answers dc_answers pm_answers cd_answers ct_answers : Value} {od_answers an_answers : Option Addr} {sl_answers : Array (Option Value)}
    {tk_WRONG_SIZE : Tok}
    {tk_NO_SUCH : Tok}
    {tk_NOT_SO : Tok}
    {tk_NO_ROOM : Tok}
    {tk_NOT_LET : Tok}
    {tk_WRONG_OWNER : Tok}
    {tk_MOST_FLIGHTS : Tok}
    {tk_MOST_CONTAINERS : Tok}
    {tk_MOST_PASSENGERS : Tok}
    {tk_MOST_BAGS : Tok}
    {tk_MOST_BAGS_WITHIN : Tok}
    {tk_MOST_WEIGHT_WITHIN : Tok}
    {tk_MOST_BAG_WEIGHT : Tok}
    {tk_EXPECTED : Tok}
    {tk_ABOARD : Tok}
    {tk_NOT_COMING : Tok}
    {tk_HALL : Tok}
    {tk_LOADED : Tok}
    {tk_FLOWN : Tok}
    {tk_HANDED_OUT : Tok}
    {t_CALLS : Addr} {od_t_CALLS : Option Addr} {n_t_CALLS : Nat} {sl_t_CALLS : Array (Option Value)}
    {r_CALLS0 q_CALLS0 r_CALLS1 q_CALLS1 r_CALLS2 q_CALLS2 r_CALLS3 q_CALLS3 r_CALLS4 q_CALLS4 r_CALLS5 q_CALLS5 r_CALLS6 q_CALLS6 r_CALLS7 q_CALLS7 r_CALLS8 q_CALLS8 r_CALLS9 q_CALLS9 r_CALLS10 q_CALLS10 r_CALLS11 q_CALLS11 r_CALLS12 q_CALLS12 r_CALLS13 q_CALLS13 r_CALLS14 q_CALLS14 r_CALLS15 q_CALLS15 r_CALLS16 q_CALLS16 r_CALLS17 q_CALLS17 r_CALLS18 q_CALLS18 : Addr}
    {od_r_CALLS0 od_q_CALLS0 : Option Addr} {n_r_CALLS0 n_q_CALLS0 : Nat} {sl_r_CALLS0 sl_q_CALLS0 : Array (Option Value)}
    {od_r_CALLS1 od_q_CALLS1 : Option Addr} {n_r_CALLS1 n_q_CALLS1 : Nat} {sl_r_CALLS1 sl_q_CALLS1 : Array (Option Value)}
    {tk_CALLS1_0 : Tok}
    {tk_CALLS1_1 : Tok}
    {tk_CALLS1_2 : Tok}
    {od_r_CALLS2 od_q_CALLS2 : Option Addr} {n_r_CALLS2 n_q_CALLS2 : Nat} {sl_r_CALLS2 sl_q_CALLS2 : Array (Option Value)}
    {tk_CALLS2_0 : Tok}
    {od_r_CALLS3 od_q_CALLS3 : Option Addr} {n_r_CALLS3 n_q_CALLS3 : Nat} {sl_r_CALLS3 sl_q_CALLS3 : Array (Option Value)}
    {tk_CALLS3_0 : Tok}
    {tk_CALLS3_1 : Tok}
    {od_r_CALLS4 od_q_CALLS4 : Option Addr} {n_r_CALLS4 n_q_CALLS4 : Nat} {sl_r_CALLS4 sl_q_CALLS4 : Array (Option Value)}
    {tk_CALLS4_0 : Tok}
    {tk_CALLS4_1 : Tok}
    {od_r_CALLS5 od_q_CALLS5 : Option Addr} {n_r_CALLS5 n_q_CALLS5 : Nat} {sl_r_CALLS5 sl_q_CALLS5 : Array (Option Value)}
    {tk_CALLS5_0 : Tok}
    {od_r_CALLS6 od_q_CALLS6 : Option Addr} {n_r_CALLS6 n_q_CALLS6 : Nat} {sl_r_CALLS6 sl_q_CALLS6 : Array (Option Value)}
    {tk_CALLS6_0 : Tok}
    {od_r_CALLS7 od_q_CALLS7 : Option Addr} {n_r_CALLS7 n_q_CALLS7 : Nat} {sl_r_CALLS7 sl_q_CALLS7 : Array (Option Value)}
    {tk_CALLS7_0 : Tok}
    {od_r_CALLS8 od_q_CALLS8 : Option Addr} {n_r_CALLS8 n_q_CALLS8 : Nat} {sl_r_CALLS8 sl_q_CALLS8 : Array (Option Value)}
    {tk_CALLS8_0 : Tok}
    {od_r_CALLS9 od_q_CALLS9 : Option Addr} {n_r_CALLS9 n_q_CALLS9 : Nat} {sl_r_CALLS9 sl_q_CALLS9 : Array (Option Value)}
    {tk_CALLS9_0 : Tok}
    {od_r_CALLS10 od_q_CALLS10 : Option Addr} {n_r_CALLS10 n_q_CALLS10 : Nat} {sl_r_CALLS10 sl_q_CALLS10 : Array (Option Value)}
    {tk_CALLS10_0 : Tok}
    {od_r_CALLS11 od_q_CALLS11 : Option Addr} {n_r_CALLS11 n_q_CALLS11 : Nat} {sl_r_CALLS11 sl_q_CALLS11 : Array (Option Value)}
    {tk_CALLS11_0 : Tok}
    {od_r_CALLS12 od_q_CALLS12 : Option Addr} {n_r_CALLS12 n_q_CALLS12 : Nat} {sl_r_CALLS12 sl_q_CALLS12 : Array (Option Value)}
    {tk_CALLS12_0 : Tok}
    {od_r_CALLS13 od_q_CALLS13 : Option Addr} {n_r_CALLS13 n_q_CALLS13 : Nat} {sl_r_CALLS13 sl_q_CALLS13 : Array (Option Value)}
    {tk_CALLS13_0 : Tok}
    {od_r_CALLS14 od_q_CALLS14 : Option Addr} {n_r_CALLS14 n_q_CALLS14 : Nat} {sl_r_CALLS14 sl_q_CALLS14 : Array (Option Value)}
    {tk_CALLS14_0 : Tok}
    {od_r_CALLS15 od_q_CALLS15 : Option Addr} {n_r_CALLS15 n_q_CALLS15 : Nat} {sl_r_CALLS15 sl_q_CALLS15 : Array (Option Value)}
    {tk_CALLS15_0 : Tok}
    {tk_CALLS15_1 : Tok}
    {od_r_CALLS16 od_q_CALLS16 : Option Addr} {n_r_CALLS16 n_q_CALLS16 : Nat} {sl_r_CALLS16 sl_q_CALLS16 : Array (Option Value)}
    {tk_CALLS16_0 : Tok}
    {od_r_CALLS17 od_q_CALLS17 : Option Addr} {n_r_CALLS17 n_q_CALLS17 : Nat} {sl_r_CALLS17 sl_q_CALLS17 : Array (Option Value)}
    {tk_CALLS17_0 : Tok}
    {od_r_CALLS18 od_q_CALLS18 : Option Addr} {n_r_CALLS18 n_q_CALLS18 : Nat} {sl_r_CALLS18 sl_q_CALLS18 : Array (Option Value)}
    (aCCF : PySem.W.nsIn K mainGlobals "Flight" = some (some (.ref CF)))
    (pgCF : PySem.W.plainGet K CF Str.empty = true)
    (hdCF : PySem.W.hasDictIn K CF = true)
    (poCF : PySem.W.plainOver K CF = true)
    (saCF : PySem.W.findIn K (.ref CF) "__setattr__" = some (some (.builtin "object.__setattr__")))
    (mkCF : PySem.W.makesIn K CF = true)
    (kcCF : PySem.W.keepIn K (.ref CF) = true)
    (inCF : PySem.W.findIn K (.ref CF) "__init__" = some (some (.ref f_Flight)))
    (ifCF : PySem.W.isFn K (.ref f_Flight) = true)
    (nCF_gone : PySem.W.findIn K (.ref CF) "gone" = some none)
    (aCCK : PySem.W.nsIn K mainGlobals "Container" = some (some (.ref CK)))
    (pgCK : PySem.W.plainGet K CK Str.empty = true)
    (hdCK : PySem.W.hasDictIn K CK = true)
    (poCK : PySem.W.plainOver K CK = true)
    (saCK : PySem.W.findIn K (.ref CK) "__setattr__" = some (some (.builtin "object.__setattr__")))
    (mkCK : PySem.W.makesIn K CK = true)
    (kcCK : PySem.W.keepIn K (.ref CK) = true)
    (inCK : PySem.W.findIn K (.ref CK) "__init__" = some (some (.ref f_Container)))
    (ifCK : PySem.W.isFn K (.ref f_Container) = true)
    (nCK_flight : PySem.W.findIn K (.ref CK) "flight" = some none)
    (nCK_room : PySem.W.findIn K (.ref CK) "room" = some none)
    (nCK_limit : PySem.W.findIn K (.ref CK) "limit" = some none)
    (nCK_pile : PySem.W.findIn K (.ref CK) "pile" = some none)
    (aCCP : PySem.W.nsIn K mainGlobals "Passenger" = some (some (.ref CP)))
    (pgCP : PySem.W.plainGet K CP Str.empty = true)
    (hdCP : PySem.W.hasDictIn K CP = true)
    (poCP : PySem.W.plainOver K CP = true)
    (saCP : PySem.W.findIn K (.ref CP) "__setattr__" = some (some (.builtin "object.__setattr__")))
    (mkCP : PySem.W.makesIn K CP = true)
    (kcCP : PySem.W.keepIn K (.ref CP) = true)
    (inCP : PySem.W.findIn K (.ref CP) "__init__" = some (some (.ref f_Passenger)))
    (ifCP : PySem.W.isFn K (.ref f_Passenger) = true)
    (nCP_flight : PySem.W.findIn K (.ref CP) "flight" = some none)
    (nCP_standing : PySem.W.findIn K (.ref CP) "standing" = some none)
    (aCCB : PySem.W.nsIn K mainGlobals "Bag" = some (some (.ref CB)))
    (pgCB : PySem.W.plainGet K CB Str.empty = true)
    (hdCB : PySem.W.hasDictIn K CB = true)
    (poCB : PySem.W.plainOver K CB = true)
    (saCB : PySem.W.findIn K (.ref CB) "__setattr__" = some (some (.builtin "object.__setattr__")))
    (mkCB : PySem.W.makesIn K CB = true)
    (kcCB : PySem.W.keepIn K (.ref CB) = true)
    (inCB : PySem.W.findIn K (.ref CB) "__init__" = some (some (.ref f_Bag)))
    (ifCB : PySem.W.isFn K (.ref f_Bag) = true)
    (nCB_owner : PySem.W.findIn K (.ref CB) "owner" = some none)
    (nCB_weight : PySem.W.findIn K (.ref CB) "weight" = some none)
    (nCB_place : PySem.W.findIn K (.ref CB) "place" = some none)
    (nCB_container : PySem.W.findIn K (.ref CB) "container" = some none)
    (nCB_follows : PySem.W.findIn K (.ref CB) "follows" = some none)
    (aCCA : PySem.W.nsIn K mainGlobals "Airport" = some (some (.ref CA)))
    (pgCA : PySem.W.plainGet K CA Str.empty = true)
    (hdCA : PySem.W.hasDictIn K CA = true)
    (poCA : PySem.W.plainOver K CA = true)
    (saCA : PySem.W.findIn K (.ref CA) "__setattr__" = some (some (.builtin "object.__setattr__")))
    (mkCA : PySem.W.makesIn K CA = true)
    (kcCA : PySem.W.keepIn K (.ref CA) = true)
    (inCA : PySem.W.findIn K (.ref CA) "__init__" = some (some (.ref f_Airport)))
    (ifCA : PySem.W.isFn K (.ref f_Airport) = true)
    (nCA_flights : PySem.W.findIn K (.ref CA) "flights" = some none)
    (nCA_containers : PySem.W.findIn K (.ref CA) "containers" = some none)
    (nCA_passengers : PySem.W.findIn K (.ref CA) "passengers" = some none)
    (nCA_bags : PySem.W.findIn K (.ref CA) "bags" = some none)
    (nCA_moves_made : PySem.W.findIn K (.ref CA) "moves_made" = some none)
    (l_Flight : K.lookup f_Flight = some ⟨oc_Flight, od_Flight, .func (PySem.W.fnOf "__init__" "Flight.__init__" (defArgs s_Flight) (defBody s_Flight) (defScope s_Flight) .none kV_Flight dc_Flight pm_Flight an_Flight cd_Flight ct_Flight), sl_Flight⟩)
    (c_Flight : PySem.W.codeIn K cd_Flight "Flight.__init__" = true)
    (k_Flight : PySem.W.keepIn K (.ref f_Flight) = true)
    (l_Container : K.lookup f_Container = some ⟨oc_Container, od_Container, .func (PySem.W.fnOf "__init__" "Container.__init__" (defArgs s_Container) (defBody s_Container) (defScope s_Container) .none kV_Container dc_Container pm_Container an_Container cd_Container ct_Container), sl_Container⟩)
    (c_Container : PySem.W.codeIn K cd_Container "Container.__init__" = true)
    (k_Container : PySem.W.keepIn K (.ref f_Container) = true)
    (l_Passenger : K.lookup f_Passenger = some ⟨oc_Passenger, od_Passenger, .func (PySem.W.fnOf "__init__" "Passenger.__init__" (defArgs s_Passenger) (defBody s_Passenger) (defScope s_Passenger) .none kV_Passenger dc_Passenger pm_Passenger an_Passenger cd_Passenger ct_Passenger), sl_Passenger⟩)
    (c_Passenger : PySem.W.codeIn K cd_Passenger "Passenger.__init__" = true)
    (k_Passenger : PySem.W.keepIn K (.ref f_Passenger) = true)
    (l_Bag : K.lookup f_Bag = some ⟨oc_Bag, od_Bag, .func (PySem.W.fnOf "__init__" "Bag.__init__" (defArgs s_Bag) (defBody s_Bag) (defScope s_Bag) .none kV_Bag dc_Bag pm_Bag an_Bag cd_Bag ct_Bag), sl_Bag⟩)
    (c_Bag : PySem.W.codeIn K cd_Bag "Bag.__init__" = true)
    (k_Bag : PySem.W.keepIn K (.ref f_Bag) = true)
    (l_Airport : K.lookup f_Airport = some ⟨oc_Airport, od_Airport, .func (PySem.W.fnOf "__init__" "Airport.__init__" (defArgs s_Airport) (defBody s_Airport) (defScope s_Airport) .none kV_Airport dc_Airport pm_Airport an_Airport cd_Airport ct_Airport), sl_Airport⟩)
    (c_Airport : PySem.W.codeIn K cd_Airport "Airport.__init__" = true)
    (k_Airport : PySem.W.keepIn K (.ref f_Airport) = true)
    (a_is_size : PySem.W.nsIn K mainGlobals "is_size" = some (some (.ref f_is_size)))
    (l_is_size : K.lookup f_is_size = some ⟨oc_is_size, od_is_size, .func (PySem.W.fnOf "is_size" "is_size" (defArgs s_is_size) (defBody s_is_size) (defScope s_is_size) .none kV_is_size dc_is_size pm_is_size an_is_size cd_is_size ct_is_size), sl_is_size⟩)
    (c_is_size : PySem.W.codeIn K cd_is_size "is_size" = true)
    (k_is_size : PySem.W.keepIn K (.ref f_is_size) = true)
    (a_has_flown : PySem.W.nsIn K mainGlobals "has_flown" = some (some (.ref f_has_flown)))
    (l_has_flown : K.lookup f_has_flown = some ⟨oc_has_flown, od_has_flown, .func (PySem.W.fnOf "has_flown" "has_flown" (defArgs s_has_flown) (defBody s_has_flown) (defScope s_has_flown) .none kV_has_flown dc_has_flown pm_has_flown an_has_flown cd_has_flown ct_has_flown), sl_has_flown⟩)
    (c_has_flown : PySem.W.codeIn K cd_has_flown "has_flown" = true)
    (k_has_flown : PySem.W.keepIn K (.ref f_has_flown) = true)
    (a_may_fly : PySem.W.nsIn K mainGlobals "may_fly" = some (some (.ref f_may_fly)))
    (l_may_fly : K.lookup f_may_fly = some ⟨oc_may_fly, od_may_fly, .func (PySem.W.fnOf "may_fly" "may_fly" (defArgs s_may_fly) (defBody s_may_fly) (defScope s_may_fly) .none kV_may_fly dc_may_fly pm_may_fly an_may_fly cd_may_fly ct_may_fly), sl_may_fly⟩)
    (c_may_fly : PySem.W.codeIn K cd_may_fly "may_fly" = true)
    (k_may_fly : PySem.W.keepIn K (.ref f_may_fly) = true)
    (a_has_to_come_out : PySem.W.nsIn K mainGlobals "has_to_come_out" = some (some (.ref f_has_to_come_out)))
    (l_has_to_come_out : K.lookup f_has_to_come_out = some ⟨oc_has_to_come_out, od_has_to_come_out, .func (PySem.W.fnOf "has_to_come_out" "has_to_come_out" (defArgs s_has_to_come_out) (defBody s_has_to_come_out) (defScope s_has_to_come_out) .none kV_has_to_come_out dc_has_to_come_out pm_has_to_come_out an_has_to_come_out cd_has_to_come_out ct_has_to_come_out), sl_has_to_come_out⟩)
    (c_has_to_come_out : PySem.W.codeIn K cd_has_to_come_out "has_to_come_out" = true)
    (k_has_to_come_out : PySem.W.keepIn K (.ref f_has_to_come_out) = true)
    (a_weight_within : PySem.W.nsIn K mainGlobals "weight_within" = some (some (.ref f_weight_within)))
    (l_weight_within : K.lookup f_weight_within = some ⟨oc_weight_within, od_weight_within, .func (PySem.W.fnOf "weight_within" "weight_within" (defArgs s_weight_within) (defBody s_weight_within) (defScope s_weight_within) .none kV_weight_within dc_weight_within pm_weight_within an_weight_within cd_weight_within ct_weight_within), sl_weight_within⟩)
    (c_weight_within : PySem.W.codeIn K cd_weight_within "weight_within" = true)
    (k_weight_within : PySem.W.keepIn K (.ref f_weight_within) = true)
    (a_has_room_for : PySem.W.nsIn K mainGlobals "has_room_for" = some (some (.ref f_has_room_for)))
    (l_has_room_for : K.lookup f_has_room_for = some ⟨oc_has_room_for, od_has_room_for, .func (PySem.W.fnOf "has_room_for" "has_room_for" (defArgs s_has_room_for) (defBody s_has_room_for) (defScope s_has_room_for) .none kV_has_room_for dc_has_room_for pm_has_room_for an_has_room_for cd_has_room_for ct_has_room_for), sl_has_room_for⟩)
    (c_has_room_for : PySem.W.codeIn K cd_has_room_for "has_room_for" = true)
    (k_has_room_for : PySem.W.keepIn K (.ref f_has_room_for) = true)
    (a_containers_on_flight : PySem.W.nsIn K mainGlobals "containers_on_flight" = some (some (.ref f_containers_on_flight)))
    (l_containers_on_flight : K.lookup f_containers_on_flight = some ⟨oc_containers_on_flight, od_containers_on_flight, .func (PySem.W.fnOf "containers_on_flight" "containers_on_flight" (defArgs s_containers_on_flight) (defBody s_containers_on_flight) (defScope s_containers_on_flight) .none kV_containers_on_flight dc_containers_on_flight pm_containers_on_flight an_containers_on_flight cd_containers_on_flight ct_containers_on_flight), sl_containers_on_flight⟩)
    (c_containers_on_flight : PySem.W.codeIn K cd_containers_on_flight "containers_on_flight" = true)
    (k_containers_on_flight : PySem.W.keepIn K (.ref f_containers_on_flight) = true)
    (a_bags_on_flight : PySem.W.nsIn K mainGlobals "bags_on_flight" = some (some (.ref f_bags_on_flight)))
    (l_bags_on_flight : K.lookup f_bags_on_flight = some ⟨oc_bags_on_flight, od_bags_on_flight, .func (PySem.W.fnOf "bags_on_flight" "bags_on_flight" (defArgs s_bags_on_flight) (defBody s_bags_on_flight) (defScope s_bags_on_flight) .none kV_bags_on_flight dc_bags_on_flight pm_bags_on_flight an_bags_on_flight cd_bags_on_flight ct_bags_on_flight), sl_bags_on_flight⟩)
    (c_bags_on_flight : PySem.W.codeIn K cd_bags_on_flight "bags_on_flight" = true)
    (k_bags_on_flight : PySem.W.keepIn K (.ref f_bags_on_flight) = true)
    (a_bags_that_may_not_fly : PySem.W.nsIn K mainGlobals "bags_that_may_not_fly" = some (some (.ref f_bags_that_may_not_fly)))
    (l_bags_that_may_not_fly : K.lookup f_bags_that_may_not_fly = some ⟨oc_bags_that_may_not_fly, od_bags_that_may_not_fly, .func (PySem.W.fnOf "bags_that_may_not_fly" "bags_that_may_not_fly" (defArgs s_bags_that_may_not_fly) (defBody s_bags_that_may_not_fly) (defScope s_bags_that_may_not_fly) .none kV_bags_that_may_not_fly dc_bags_that_may_not_fly pm_bags_that_may_not_fly an_bags_that_may_not_fly cd_bags_that_may_not_fly ct_bags_that_may_not_fly), sl_bags_that_may_not_fly⟩)
    (c_bags_that_may_not_fly : PySem.W.codeIn K cd_bags_that_may_not_fly "bags_that_may_not_fly" = true)
    (k_bags_that_may_not_fly : PySem.W.keepIn K (.ref f_bags_that_may_not_fly) = true)
    (a_bags_to_get_out : PySem.W.nsIn K mainGlobals "bags_to_get_out" = some (some (.ref f_bags_to_get_out)))
    (l_bags_to_get_out : K.lookup f_bags_to_get_out = some ⟨oc_bags_to_get_out, od_bags_to_get_out, .func (PySem.W.fnOf "bags_to_get_out" "bags_to_get_out" (defArgs s_bags_to_get_out) (defBody s_bags_to_get_out) (defScope s_bags_to_get_out) .none kV_bags_to_get_out dc_bags_to_get_out pm_bags_to_get_out an_bags_to_get_out cd_bags_to_get_out ct_bags_to_get_out), sl_bags_to_get_out⟩)
    (c_bags_to_get_out : PySem.W.codeIn K cd_bags_to_get_out "bags_to_get_out" = true)
    (k_bags_to_get_out : PySem.W.keepIn K (.ref f_bags_to_get_out) = true)
    (a_moves_to_get_out : PySem.W.nsIn K mainGlobals "moves_to_get_out" = some (some (.ref f_moves_to_get_out)))
    (l_moves_to_get_out : K.lookup f_moves_to_get_out = some ⟨oc_moves_to_get_out, od_moves_to_get_out, .func (PySem.W.fnOf "moves_to_get_out" "moves_to_get_out" (defArgs s_moves_to_get_out) (defBody s_moves_to_get_out) (defScope s_moves_to_get_out) .none kV_moves_to_get_out dc_moves_to_get_out pm_moves_to_get_out an_moves_to_get_out cd_moves_to_get_out ct_moves_to_get_out), sl_moves_to_get_out⟩)
    (c_moves_to_get_out : PySem.W.codeIn K cd_moves_to_get_out "moves_to_get_out" = true)
    (k_moves_to_get_out : PySem.W.keepIn K (.ref f_moves_to_get_out) = true)
    (a_get_out : PySem.W.nsIn K mainGlobals "get_out" = some (some (.ref f_get_out)))
    (l_get_out : K.lookup f_get_out = some ⟨oc_get_out, od_get_out, .func (PySem.W.fnOf "get_out" "get_out" (defArgs s_get_out) (defBody s_get_out) (defScope s_get_out) .none kV_get_out dc_get_out pm_get_out an_get_out cd_get_out ct_get_out), sl_get_out⟩)
    (c_get_out : PySem.W.codeIn K cd_get_out "get_out" = true)
    (k_get_out : PySem.W.keepIn K (.ref f_get_out) = true)
    (a_with_count : PySem.W.nsIn K mainGlobals "with_count" = some (some (.ref f_with_count)))
    (l_with_count : K.lookup f_with_count = some ⟨oc_with_count, od_with_count, .func (PySem.W.fnOf "with_count" "with_count" (defArgs s_with_count) (defBody s_with_count) (defScope s_with_count) .none kV_with_count dc_with_count pm_with_count an_with_count cd_with_count ct_with_count), sl_with_count⟩)
    (c_with_count : PySem.W.codeIn K cd_with_count "with_count" = true)
    (k_with_count : PySem.W.keepIn K (.ref f_with_count) = true)
    (a_add_flight : PySem.W.nsIn K mainGlobals "add_flight" = some (some (.ref f_add_flight)))
    (l_add_flight : K.lookup f_add_flight = some ⟨oc_add_flight, od_add_flight, .func (PySem.W.fnOf "add_flight" "add_flight" (defArgs s_add_flight) (defBody s_add_flight) (defScope s_add_flight) .none kV_add_flight dc_add_flight pm_add_flight an_add_flight cd_add_flight ct_add_flight), sl_add_flight⟩)
    (c_add_flight : PySem.W.codeIn K cd_add_flight "add_flight" = true)
    (k_add_flight : PySem.W.keepIn K (.ref f_add_flight) = true)
    (a_add_container : PySem.W.nsIn K mainGlobals "add_container" = some (some (.ref f_add_container)))
    (l_add_container : K.lookup f_add_container = some ⟨oc_add_container, od_add_container, .func (PySem.W.fnOf "add_container" "add_container" (defArgs s_add_container) (defBody s_add_container) (defScope s_add_container) .none kV_add_container dc_add_container pm_add_container an_add_container cd_add_container ct_add_container), sl_add_container⟩)
    (c_add_container : PySem.W.codeIn K cd_add_container "add_container" = true)
    (k_add_container : PySem.W.keepIn K (.ref f_add_container) = true)
    (a_add_passenger : PySem.W.nsIn K mainGlobals "add_passenger" = some (some (.ref f_add_passenger)))
    (l_add_passenger : K.lookup f_add_passenger = some ⟨oc_add_passenger, od_add_passenger, .func (PySem.W.fnOf "add_passenger" "add_passenger" (defArgs s_add_passenger) (defBody s_add_passenger) (defScope s_add_passenger) .none kV_add_passenger dc_add_passenger pm_add_passenger an_add_passenger cd_add_passenger ct_add_passenger), sl_add_passenger⟩)
    (c_add_passenger : PySem.W.codeIn K cd_add_passenger "add_passenger" = true)
    (k_add_passenger : PySem.W.keepIn K (.ref f_add_passenger) = true)
    (a_add_bag : PySem.W.nsIn K mainGlobals "add_bag" = some (some (.ref f_add_bag)))
    (l_add_bag : K.lookup f_add_bag = some ⟨oc_add_bag, od_add_bag, .func (PySem.W.fnOf "add_bag" "add_bag" (defArgs s_add_bag) (defBody s_add_bag) (defScope s_add_bag) .none kV_add_bag dc_add_bag pm_add_bag an_add_bag cd_add_bag ct_add_bag), sl_add_bag⟩)
    (c_add_bag : PySem.W.codeIn K cd_add_bag "add_bag" = true)
    (k_add_bag : PySem.W.keepIn K (.ref f_add_bag) = true)
    (a_load_bag : PySem.W.nsIn K mainGlobals "load_bag" = some (some (.ref f_load_bag)))
    (l_load_bag : K.lookup f_load_bag = some ⟨oc_load_bag, od_load_bag, .func (PySem.W.fnOf "load_bag" "load_bag" (defArgs s_load_bag) (defBody s_load_bag) (defScope s_load_bag) .none kV_load_bag dc_load_bag pm_load_bag an_load_bag cd_load_bag ct_load_bag), sl_load_bag⟩)
    (c_load_bag : PySem.W.codeIn K cd_load_bag "load_bag" = true)
    (k_load_bag : PySem.W.keepIn K (.ref f_load_bag) = true)
    (a_change_standing : PySem.W.nsIn K mainGlobals "change_standing" = some (some (.ref f_change_standing)))
    (l_change_standing : K.lookup f_change_standing = some ⟨oc_change_standing, od_change_standing, .func (PySem.W.fnOf "change_standing" "change_standing" (defArgs s_change_standing) (defBody s_change_standing) (defScope s_change_standing) .none kV_change_standing dc_change_standing pm_change_standing an_change_standing cd_change_standing ct_change_standing), sl_change_standing⟩)
    (c_change_standing : PySem.W.codeIn K cd_change_standing "change_standing" = true)
    (k_change_standing : PySem.W.keepIn K (.ref f_change_standing) = true)
    (a_come_aboard : PySem.W.nsIn K mainGlobals "come_aboard" = some (some (.ref f_come_aboard)))
    (l_come_aboard : K.lookup f_come_aboard = some ⟨oc_come_aboard, od_come_aboard, .func (PySem.W.fnOf "come_aboard" "come_aboard" (defArgs s_come_aboard) (defBody s_come_aboard) (defScope s_come_aboard) .none kV_come_aboard dc_come_aboard pm_come_aboard an_come_aboard cd_come_aboard ct_come_aboard), sl_come_aboard⟩)
    (c_come_aboard : PySem.W.codeIn K cd_come_aboard "come_aboard" = true)
    (k_come_aboard : PySem.W.keepIn K (.ref f_come_aboard) = true)
    (a_leave_aircraft : PySem.W.nsIn K mainGlobals "leave_aircraft" = some (some (.ref f_leave_aircraft)))
    (l_leave_aircraft : K.lookup f_leave_aircraft = some ⟨oc_leave_aircraft, od_leave_aircraft, .func (PySem.W.fnOf "leave_aircraft" "leave_aircraft" (defArgs s_leave_aircraft) (defBody s_leave_aircraft) (defScope s_leave_aircraft) .none kV_leave_aircraft dc_leave_aircraft pm_leave_aircraft an_leave_aircraft cd_leave_aircraft ct_leave_aircraft), sl_leave_aircraft⟩)
    (c_leave_aircraft : PySem.W.codeIn K cd_leave_aircraft "leave_aircraft" = true)
    (k_leave_aircraft : PySem.W.keepIn K (.ref f_leave_aircraft) = true)
    (a_stay_absent : PySem.W.nsIn K mainGlobals "stay_absent" = some (some (.ref f_stay_absent)))
    (l_stay_absent : K.lookup f_stay_absent = some ⟨oc_stay_absent, od_stay_absent, .func (PySem.W.fnOf "stay_absent" "stay_absent" (defArgs s_stay_absent) (defBody s_stay_absent) (defScope s_stay_absent) .none kV_stay_absent dc_stay_absent pm_stay_absent an_stay_absent cd_stay_absent ct_stay_absent), sl_stay_absent⟩)
    (c_stay_absent : PySem.W.codeIn K cd_stay_absent "stay_absent" = true)
    (k_stay_absent : PySem.W.keepIn K (.ref f_stay_absent) = true)
    (a_rush_bag : PySem.W.nsIn K mainGlobals "rush_bag" = some (some (.ref f_rush_bag)))
    (l_rush_bag : K.lookup f_rush_bag = some ⟨oc_rush_bag, od_rush_bag, .func (PySem.W.fnOf "rush_bag" "rush_bag" (defArgs s_rush_bag) (defBody s_rush_bag) (defScope s_rush_bag) .none kV_rush_bag dc_rush_bag pm_rush_bag an_rush_bag cd_rush_bag ct_rush_bag), sl_rush_bag⟩)
    (c_rush_bag : PySem.W.codeIn K cd_rush_bag "rush_bag" = true)
    (k_rush_bag : PySem.W.keepIn K (.ref f_rush_bag) = true)
    (a_take_bag_out : PySem.W.nsIn K mainGlobals "take_bag_out" = some (some (.ref f_take_bag_out)))
    (l_take_bag_out : K.lookup f_take_bag_out = some ⟨oc_take_bag_out, od_take_bag_out, .func (PySem.W.fnOf "take_bag_out" "take_bag_out" (defArgs s_take_bag_out) (defBody s_take_bag_out) (defScope s_take_bag_out) .none kV_take_bag_out dc_take_bag_out pm_take_bag_out an_take_bag_out cd_take_bag_out ct_take_bag_out), sl_take_bag_out⟩)
    (c_take_bag_out : PySem.W.codeIn K cd_take_bag_out "take_bag_out" = true)
    (k_take_bag_out : PySem.W.keepIn K (.ref f_take_bag_out) = true)
    (a_count_moves : PySem.W.nsIn K mainGlobals "count_moves" = some (some (.ref f_count_moves)))
    (l_count_moves : K.lookup f_count_moves = some ⟨oc_count_moves, od_count_moves, .func (PySem.W.fnOf "count_moves" "count_moves" (defArgs s_count_moves) (defBody s_count_moves) (defScope s_count_moves) .none kV_count_moves dc_count_moves pm_count_moves an_count_moves cd_count_moves ct_count_moves), sl_count_moves⟩)
    (c_count_moves : PySem.W.codeIn K cd_count_moves "count_moves" = true)
    (k_count_moves : PySem.W.keepIn K (.ref f_count_moves) = true)
    (a_clear_flight : PySem.W.nsIn K mainGlobals "clear_flight" = some (some (.ref f_clear_flight)))
    (l_clear_flight : K.lookup f_clear_flight = some ⟨oc_clear_flight, od_clear_flight, .func (PySem.W.fnOf "clear_flight" "clear_flight" (defArgs s_clear_flight) (defBody s_clear_flight) (defScope s_clear_flight) .none kV_clear_flight dc_clear_flight pm_clear_flight an_clear_flight cd_clear_flight ct_clear_flight), sl_clear_flight⟩)
    (c_clear_flight : PySem.W.codeIn K cd_clear_flight "clear_flight" = true)
    (k_clear_flight : PySem.W.keepIn K (.ref f_clear_flight) = true)
    (a_let_go : PySem.W.nsIn K mainGlobals "let_go" = some (some (.ref f_let_go)))
    (l_let_go : K.lookup f_let_go = some ⟨oc_let_go, od_let_go, .func (PySem.W.fnOf "let_go" "let_go" (defArgs s_let_go) (defBody s_let_go) (defScope s_let_go) .none kV_let_go dc_let_go pm_let_go an_let_go cd_let_go ct_let_go), sl_let_go⟩)
    (c_let_go : PySem.W.codeIn K cd_let_go "let_go" = true)
    (k_let_go : PySem.W.keepIn K (.ref f_let_go) = true)
    (a_hand_out : PySem.W.nsIn K mainGlobals "hand_out" = some (some (.ref f_hand_out)))
    (l_hand_out : K.lookup f_hand_out = some ⟨oc_hand_out, od_hand_out, .func (PySem.W.fnOf "hand_out" "hand_out" (defArgs s_hand_out) (defBody s_hand_out) (defScope s_hand_out) .none kV_hand_out dc_hand_out pm_hand_out an_hand_out cd_hand_out ct_hand_out), sl_hand_out⟩)
    (c_hand_out : PySem.W.codeIn K cd_hand_out "hand_out" = true)
    (k_hand_out : PySem.W.keepIn K (.ref f_hand_out) = true)
    (a_tell_waiting : PySem.W.nsIn K mainGlobals "tell_waiting" = some (some (.ref f_tell_waiting)))
    (l_tell_waiting : K.lookup f_tell_waiting = some ⟨oc_tell_waiting, od_tell_waiting, .func (PySem.W.fnOf "tell_waiting" "tell_waiting" (defArgs s_tell_waiting) (defBody s_tell_waiting) (defScope s_tell_waiting) .none kV_tell_waiting dc_tell_waiting pm_tell_waiting an_tell_waiting cd_tell_waiting ct_tell_waiting), sl_tell_waiting⟩)
    (c_tell_waiting : PySem.W.codeIn K cd_tell_waiting "tell_waiting" = true)
    (k_tell_waiting : PySem.W.keepIn K (.ref f_tell_waiting) = true)
    (a_has_loaded_bag : PySem.W.nsIn K mainGlobals "has_loaded_bag" = some (some (.ref f_has_loaded_bag)))
    (l_has_loaded_bag : K.lookup f_has_loaded_bag = some ⟨oc_has_loaded_bag, od_has_loaded_bag, .func (PySem.W.fnOf "has_loaded_bag" "has_loaded_bag" (defArgs s_has_loaded_bag) (defBody s_has_loaded_bag) (defScope s_has_loaded_bag) .none kV_has_loaded_bag dc_has_loaded_bag pm_has_loaded_bag an_has_loaded_bag cd_has_loaded_bag ct_has_loaded_bag), sl_has_loaded_bag⟩)
    (c_has_loaded_bag : PySem.W.codeIn K cd_has_loaded_bag "has_loaded_bag" = true)
    (k_has_loaded_bag : PySem.W.keepIn K (.ref f_has_loaded_bag) = true)
    (a_change_flight : PySem.W.nsIn K mainGlobals "change_flight" = some (some (.ref f_change_flight)))
    (l_change_flight : K.lookup f_change_flight = some ⟨oc_change_flight, od_change_flight, .func (PySem.W.fnOf "change_flight" "change_flight" (defArgs s_change_flight) (defBody s_change_flight) (defScope s_change_flight) .none kV_change_flight dc_change_flight pm_change_flight an_change_flight cd_change_flight ct_change_flight), sl_change_flight⟩)
    (c_change_flight : PySem.W.codeIn K cd_change_flight "change_flight" = true)
    (k_change_flight : PySem.W.keepIn K (.ref f_change_flight) = true)
    (a_tell_place : PySem.W.nsIn K mainGlobals "tell_place" = some (some (.ref f_tell_place)))
    (l_tell_place : K.lookup f_tell_place = some ⟨oc_tell_place, od_tell_place, .func (PySem.W.fnOf "tell_place" "tell_place" (defArgs s_tell_place) (defBody s_tell_place) (defScope s_tell_place) .none kV_tell_place dc_tell_place pm_tell_place an_tell_place cd_tell_place ct_tell_place), sl_tell_place⟩)
    (c_tell_place : PySem.W.codeIn K cd_tell_place "tell_place" = true)
    (k_tell_place : PySem.W.keepIn K (.ref f_tell_place) = true)
    (a_tell_pile : PySem.W.nsIn K mainGlobals "tell_pile" = some (some (.ref f_tell_pile)))
    (l_tell_pile : K.lookup f_tell_pile = some ⟨oc_tell_pile, od_tell_pile, .func (PySem.W.fnOf "tell_pile" "tell_pile" (defArgs s_tell_pile) (defBody s_tell_pile) (defScope s_tell_pile) .none kV_tell_pile dc_tell_pile pm_tell_pile an_tell_pile cd_tell_pile ct_tell_pile), sl_tell_pile⟩)
    (c_tell_pile : PySem.W.codeIn K cd_tell_pile "tell_pile" = true)
    (k_tell_pile : PySem.W.keepIn K (.ref f_tell_pile) = true)
    (a_tell_state : PySem.W.nsIn K mainGlobals "tell_state" = some (some (.ref f_tell_state)))
    (l_tell_state : K.lookup f_tell_state = some ⟨oc_tell_state, od_tell_state, .func (PySem.W.fnOf "tell_state" "tell_state" (defArgs s_tell_state) (defBody s_tell_state) (defScope s_tell_state) .none kV_tell_state dc_tell_state pm_tell_state an_tell_state cd_tell_state ct_tell_state), sl_tell_state⟩)
    (c_tell_state : PySem.W.codeIn K cd_tell_state "tell_state" = true)
    (k_tell_state : PySem.W.keepIn K (.ref f_tell_state) = true)
    (a_is_there : PySem.W.nsIn K mainGlobals "is_there" = some (some (.ref f_is_there)))
    (l_is_there : K.lookup f_is_there = some ⟨oc_is_there, od_is_there, .func (PySem.W.fnOf "is_there" "is_there" (defArgs s_is_there) (defBody s_is_there) (defScope s_is_there) .none kV_is_there dc_is_there pm_is_there an_is_there cd_is_there ct_is_there), sl_is_there⟩)
    (c_is_there : PySem.W.codeIn K cd_is_there "is_there" = true)
    (k_is_there : PySem.W.keepIn K (.ref f_is_there) = true)
    (a_answer_call : PySem.W.nsIn K mainGlobals "answer_call" = some (some (.ref f_answer_call)))
    (l_answer_call : K.lookup f_answer_call = some ⟨oc_answer_call, od_answer_call, .func (PySem.W.fnOf "answer_call" "answer_call" (defArgs s_answer_call) (defBody s_answer_call) (defScope s_answer_call) .none kV_answer_call dc_answer_call pm_answer_call an_answer_call cd_answer_call ct_answer_call), sl_answer_call⟩)
    (c_answer_call : PySem.W.codeIn K cd_answer_call "answer_call" = true)
    (k_answer_call : PySem.W.keepIn K (.ref f_answer_call) = true)
    (a_answers : PySem.W.nsIn K mainGlobals "answers" = some (some (.ref f_answers)))
    (l_answers : K.lookup f_answers = some ⟨oc_answers, od_answers, .func (PySem.W.fnOf "answers" "answers" (defArgs s_answers) (defBody s_answers) (defScope s_answers) .none kV_answers dc_answers pm_answers an_answers cd_answers ct_answers), sl_answers⟩)
    (c_answers : PySem.W.codeIn K cd_answers "answers" = true)
    (k_answers : PySem.W.keepIn K (.ref f_answers) = true)
    (v_WRONG_SIZE : PySem.W.nsIn K mainGlobals "WRONG_SIZE" = some (some (.int (-1) tk_WRONG_SIZE)))
    (v_NO_SUCH : PySem.W.nsIn K mainGlobals "NO_SUCH" = some (some (.int (-2) tk_NO_SUCH)))
    (v_NOT_SO : PySem.W.nsIn K mainGlobals "NOT_SO" = some (some (.int (-4) tk_NOT_SO)))
    (v_NO_ROOM : PySem.W.nsIn K mainGlobals "NO_ROOM" = some (some (.int (-5) tk_NO_ROOM)))
    (v_NOT_LET : PySem.W.nsIn K mainGlobals "NOT_LET" = some (some (.int (-6) tk_NOT_LET)))
    (v_WRONG_OWNER : PySem.W.nsIn K mainGlobals "WRONG_OWNER" = some (some (.int (-7) tk_WRONG_OWNER)))
    (v_MOST_FLIGHTS : PySem.W.nsIn K mainGlobals "MOST_FLIGHTS" = some (some (.int (8) tk_MOST_FLIGHTS)))
    (v_MOST_CONTAINERS : PySem.W.nsIn K mainGlobals "MOST_CONTAINERS" = some (some (.int (12) tk_MOST_CONTAINERS)))
    (v_MOST_PASSENGERS : PySem.W.nsIn K mainGlobals "MOST_PASSENGERS" = some (some (.int (40) tk_MOST_PASSENGERS)))
    (v_MOST_BAGS : PySem.W.nsIn K mainGlobals "MOST_BAGS" = some (some (.int (60) tk_MOST_BAGS)))
    (v_MOST_BAGS_WITHIN : PySem.W.nsIn K mainGlobals "MOST_BAGS_WITHIN" = some (some (.int (20) tk_MOST_BAGS_WITHIN)))
    (v_MOST_WEIGHT_WITHIN : PySem.W.nsIn K mainGlobals "MOST_WEIGHT_WITHIN" = some (some (.int (2000) tk_MOST_WEIGHT_WITHIN)))
    (v_MOST_BAG_WEIGHT : PySem.W.nsIn K mainGlobals "MOST_BAG_WEIGHT" = some (some (.int (100) tk_MOST_BAG_WEIGHT)))
    (v_EXPECTED : PySem.W.nsIn K mainGlobals "EXPECTED" = some (some (.int (0) tk_EXPECTED)))
    (v_ABOARD : PySem.W.nsIn K mainGlobals "ABOARD" = some (some (.int (1) tk_ABOARD)))
    (v_NOT_COMING : PySem.W.nsIn K mainGlobals "NOT_COMING" = some (some (.int (2) tk_NOT_COMING)))
    (v_HALL : PySem.W.nsIn K mainGlobals "HALL" = some (some (.int (0) tk_HALL)))
    (v_LOADED : PySem.W.nsIn K mainGlobals "LOADED" = some (some (.int (1) tk_LOADED)))
    (v_FLOWN : PySem.W.nsIn K mainGlobals "FLOWN" = some (some (.int (2) tk_FLOWN)))
    (v_HANDED_OUT : PySem.W.nsIn K mainGlobals "HANDED_OUT" = some (some (.int (3) tk_HANDED_OUT)))
    (z_any : PySem.W.nsIn K mainGlobals "any" = some none)
    (z_int : PySem.W.nsIn K mainGlobals "int" = some none)
    (z_len : PySem.W.nsIn K mainGlobals "len" = some none)
    (z_sum : PySem.W.nsIn K mainGlobals "sum" = some none)
    (z_zip : PySem.W.nsIn K mainGlobals "zip" = some none)
    (a_t_CALLS : PySem.W.nsIn K mainGlobals "CALLS" = some (some (.ref t_CALLS)))
    (l_t_CALLS : K.lookup t_CALLS = some ⟨.type "tuple", od_t_CALLS, .seq #[.ref r_CALLS0, .ref r_CALLS1, .ref r_CALLS2, .ref r_CALLS3, .ref r_CALLS4, .ref r_CALLS5, .ref r_CALLS6, .ref r_CALLS7, .ref r_CALLS8, .ref r_CALLS9, .ref r_CALLS10, .ref r_CALLS11, .ref r_CALLS12, .ref r_CALLS13, .ref r_CALLS14, .ref r_CALLS15, .ref r_CALLS16, .ref r_CALLS17, .ref r_CALLS18] n_t_CALLS, sl_t_CALLS⟩)
    (l_r_CALLS0 : K.lookup r_CALLS0 = some ⟨.type "tuple", od_r_CALLS0, .seq #[.ref f_add_flight, .ref q_CALLS0] n_r_CALLS0, sl_r_CALLS0⟩)
    (l_q_CALLS0 : K.lookup q_CALLS0 = some ⟨.type "tuple", od_q_CALLS0, .seq #[] n_q_CALLS0, sl_q_CALLS0⟩)
    (l_r_CALLS1 : K.lookup r_CALLS1 = some ⟨.type "tuple", od_r_CALLS1, .seq #[.ref f_add_container, .ref q_CALLS1] n_r_CALLS1, sl_r_CALLS1⟩)
    (l_q_CALLS1 : K.lookup q_CALLS1 = some ⟨.type "tuple", od_q_CALLS1, .seq #[.str "flight" tk_CALLS1_0, .str "size" tk_CALLS1_1, .str "size" tk_CALLS1_2] n_q_CALLS1, sl_q_CALLS1⟩)
    (l_r_CALLS2 : K.lookup r_CALLS2 = some ⟨.type "tuple", od_r_CALLS2, .seq #[.ref f_add_passenger, .ref q_CALLS2] n_r_CALLS2, sl_r_CALLS2⟩)
    (l_q_CALLS2 : K.lookup q_CALLS2 = some ⟨.type "tuple", od_q_CALLS2, .seq #[.str "flight" tk_CALLS2_0] n_q_CALLS2, sl_q_CALLS2⟩)
    (l_r_CALLS3 : K.lookup r_CALLS3 = some ⟨.type "tuple", od_r_CALLS3, .seq #[.ref f_add_bag, .ref q_CALLS3] n_r_CALLS3, sl_r_CALLS3⟩)
    (l_q_CALLS3 : K.lookup q_CALLS3 = some ⟨.type "tuple", od_q_CALLS3, .seq #[.str "passenger" tk_CALLS3_0, .str "size" tk_CALLS3_1] n_q_CALLS3, sl_q_CALLS3⟩)
    (l_r_CALLS4 : K.lookup r_CALLS4 = some ⟨.type "tuple", od_r_CALLS4, .seq #[.ref f_load_bag, .ref q_CALLS4] n_r_CALLS4, sl_r_CALLS4⟩)
    (l_q_CALLS4 : K.lookup q_CALLS4 = some ⟨.type "tuple", od_q_CALLS4, .seq #[.str "bag" tk_CALLS4_0, .str "container" tk_CALLS4_1] n_q_CALLS4, sl_q_CALLS4⟩)
    (l_r_CALLS5 : K.lookup r_CALLS5 = some ⟨.type "tuple", od_r_CALLS5, .seq #[.ref f_come_aboard, .ref q_CALLS5] n_r_CALLS5, sl_r_CALLS5⟩)
    (l_q_CALLS5 : K.lookup q_CALLS5 = some ⟨.type "tuple", od_q_CALLS5, .seq #[.str "passenger" tk_CALLS5_0] n_q_CALLS5, sl_q_CALLS5⟩)
    (l_r_CALLS6 : K.lookup r_CALLS6 = some ⟨.type "tuple", od_r_CALLS6, .seq #[.ref f_leave_aircraft, .ref q_CALLS6] n_r_CALLS6, sl_r_CALLS6⟩)
    (l_q_CALLS6 : K.lookup q_CALLS6 = some ⟨.type "tuple", od_q_CALLS6, .seq #[.str "passenger" tk_CALLS6_0] n_q_CALLS6, sl_q_CALLS6⟩)
    (l_r_CALLS7 : K.lookup r_CALLS7 = some ⟨.type "tuple", od_r_CALLS7, .seq #[.ref f_stay_absent, .ref q_CALLS7] n_r_CALLS7, sl_r_CALLS7⟩)
    (l_q_CALLS7 : K.lookup q_CALLS7 = some ⟨.type "tuple", od_q_CALLS7, .seq #[.str "passenger" tk_CALLS7_0] n_q_CALLS7, sl_q_CALLS7⟩)
    (l_r_CALLS8 : K.lookup r_CALLS8 = some ⟨.type "tuple", od_r_CALLS8, .seq #[.ref f_rush_bag, .ref q_CALLS8] n_r_CALLS8, sl_r_CALLS8⟩)
    (l_q_CALLS8 : K.lookup q_CALLS8 = some ⟨.type "tuple", od_q_CALLS8, .seq #[.str "bag" tk_CALLS8_0] n_q_CALLS8, sl_q_CALLS8⟩)
    (l_r_CALLS9 : K.lookup r_CALLS9 = some ⟨.type "tuple", od_r_CALLS9, .seq #[.ref f_take_bag_out, .ref q_CALLS9] n_r_CALLS9, sl_r_CALLS9⟩)
    (l_q_CALLS9 : K.lookup q_CALLS9 = some ⟨.type "tuple", od_q_CALLS9, .seq #[.str "bag" tk_CALLS9_0] n_q_CALLS9, sl_q_CALLS9⟩)
    (l_r_CALLS10 : K.lookup r_CALLS10 = some ⟨.type "tuple", od_r_CALLS10, .seq #[.ref f_count_moves, .ref q_CALLS10] n_r_CALLS10, sl_r_CALLS10⟩)
    (l_q_CALLS10 : K.lookup q_CALLS10 = some ⟨.type "tuple", od_q_CALLS10, .seq #[.str "flight" tk_CALLS10_0] n_q_CALLS10, sl_q_CALLS10⟩)
    (l_r_CALLS11 : K.lookup r_CALLS11 = some ⟨.type "tuple", od_r_CALLS11, .seq #[.ref f_clear_flight, .ref q_CALLS11] n_r_CALLS11, sl_r_CALLS11⟩)
    (l_q_CALLS11 : K.lookup q_CALLS11 = some ⟨.type "tuple", od_q_CALLS11, .seq #[.str "flight" tk_CALLS11_0] n_q_CALLS11, sl_q_CALLS11⟩)
    (l_r_CALLS12 : K.lookup r_CALLS12 = some ⟨.type "tuple", od_r_CALLS12, .seq #[.ref f_let_go, .ref q_CALLS12] n_r_CALLS12, sl_r_CALLS12⟩)
    (l_q_CALLS12 : K.lookup q_CALLS12 = some ⟨.type "tuple", od_q_CALLS12, .seq #[.str "flight" tk_CALLS12_0] n_q_CALLS12, sl_q_CALLS12⟩)
    (l_r_CALLS13 : K.lookup r_CALLS13 = some ⟨.type "tuple", od_r_CALLS13, .seq #[.ref f_hand_out, .ref q_CALLS13] n_r_CALLS13, sl_r_CALLS13⟩)
    (l_q_CALLS13 : K.lookup q_CALLS13 = some ⟨.type "tuple", od_q_CALLS13, .seq #[.str "bag" tk_CALLS13_0] n_q_CALLS13, sl_q_CALLS13⟩)
    (l_r_CALLS14 : K.lookup r_CALLS14 = some ⟨.type "tuple", od_r_CALLS14, .seq #[.ref f_tell_waiting, .ref q_CALLS14] n_r_CALLS14, sl_r_CALLS14⟩)
    (l_q_CALLS14 : K.lookup q_CALLS14 = some ⟨.type "tuple", od_q_CALLS14, .seq #[.str "flight" tk_CALLS14_0] n_q_CALLS14, sl_q_CALLS14⟩)
    (l_r_CALLS15 : K.lookup r_CALLS15 = some ⟨.type "tuple", od_r_CALLS15, .seq #[.ref f_change_flight, .ref q_CALLS15] n_r_CALLS15, sl_r_CALLS15⟩)
    (l_q_CALLS15 : K.lookup q_CALLS15 = some ⟨.type "tuple", od_q_CALLS15, .seq #[.str "passenger" tk_CALLS15_0, .str "flight" tk_CALLS15_1] n_q_CALLS15, sl_q_CALLS15⟩)
    (l_r_CALLS16 : K.lookup r_CALLS16 = some ⟨.type "tuple", od_r_CALLS16, .seq #[.ref f_tell_place, .ref q_CALLS16] n_r_CALLS16, sl_r_CALLS16⟩)
    (l_q_CALLS16 : K.lookup q_CALLS16 = some ⟨.type "tuple", od_q_CALLS16, .seq #[.str "bag" tk_CALLS16_0] n_q_CALLS16, sl_q_CALLS16⟩)
    (l_r_CALLS17 : K.lookup r_CALLS17 = some ⟨.type "tuple", od_r_CALLS17, .seq #[.ref f_tell_pile, .ref q_CALLS17] n_r_CALLS17, sl_r_CALLS17⟩)
    (l_q_CALLS17 : K.lookup q_CALLS17 = some ⟨.type "tuple", od_q_CALLS17, .seq #[.str "container" tk_CALLS17_0] n_q_CALLS17, sl_q_CALLS17⟩)
    (l_r_CALLS18 : K.lookup r_CALLS18 = some ⟨.type "tuple", od_r_CALLS18, .seq #[.ref f_tell_state, .ref q_CALLS18] n_r_CALLS18, sl_r_CALLS18⟩)
    (l_q_CALLS18 : K.lookup q_CALLS18 = some ⟨.type "tuple", od_q_CALLS18, .seq #[] n_q_CALLS18, sl_q_CALLS18⟩)
    : ∃ d x, Txt K mg d x := by
  refine ⟨⟨CF, CK, CP, CB, CA⟩, ⟨f_Flight, (PySem.W.fnOf "__init__" "Flight.__init__" (defArgs s_Flight) (defBody s_Flight) (defScope s_Flight) .none kV_Flight dc_Flight pm_Flight an_Flight cd_Flight ct_Flight), f_Container, (PySem.W.fnOf "__init__" "Container.__init__" (defArgs s_Container) (defBody s_Container) (defScope s_Container) .none kV_Container dc_Container pm_Container an_Container cd_Container ct_Container), f_Passenger, (PySem.W.fnOf "__init__" "Passenger.__init__" (defArgs s_Passenger) (defBody s_Passenger) (defScope s_Passenger) .none kV_Passenger dc_Passenger pm_Passenger an_Passenger cd_Passenger ct_Passenger), f_Bag, (PySem.W.fnOf "__init__" "Bag.__init__" (defArgs s_Bag) (defBody s_Bag) (defScope s_Bag) .none kV_Bag dc_Bag pm_Bag an_Bag cd_Bag ct_Bag), f_Airport, (PySem.W.fnOf "__init__" "Airport.__init__" (defArgs s_Airport) (defBody s_Airport) (defScope s_Airport) .none kV_Airport dc_Airport pm_Airport an_Airport cd_Airport ct_Airport), f_is_size, (PySem.W.fnOf "is_size" "is_size" (defArgs s_is_size) (defBody s_is_size) (defScope s_is_size) .none kV_is_size dc_is_size pm_is_size an_is_size cd_is_size ct_is_size), f_has_flown, (PySem.W.fnOf "has_flown" "has_flown" (defArgs s_has_flown) (defBody s_has_flown) (defScope s_has_flown) .none kV_has_flown dc_has_flown pm_has_flown an_has_flown cd_has_flown ct_has_flown), f_may_fly, (PySem.W.fnOf "may_fly" "may_fly" (defArgs s_may_fly) (defBody s_may_fly) (defScope s_may_fly) .none kV_may_fly dc_may_fly pm_may_fly an_may_fly cd_may_fly ct_may_fly), f_has_to_come_out, (PySem.W.fnOf "has_to_come_out" "has_to_come_out" (defArgs s_has_to_come_out) (defBody s_has_to_come_out) (defScope s_has_to_come_out) .none kV_has_to_come_out dc_has_to_come_out pm_has_to_come_out an_has_to_come_out cd_has_to_come_out ct_has_to_come_out), f_weight_within, (PySem.W.fnOf "weight_within" "weight_within" (defArgs s_weight_within) (defBody s_weight_within) (defScope s_weight_within) .none kV_weight_within dc_weight_within pm_weight_within an_weight_within cd_weight_within ct_weight_within), f_has_room_for, (PySem.W.fnOf "has_room_for" "has_room_for" (defArgs s_has_room_for) (defBody s_has_room_for) (defScope s_has_room_for) .none kV_has_room_for dc_has_room_for pm_has_room_for an_has_room_for cd_has_room_for ct_has_room_for), f_containers_on_flight, (PySem.W.fnOf "containers_on_flight" "containers_on_flight" (defArgs s_containers_on_flight) (defBody s_containers_on_flight) (defScope s_containers_on_flight) .none kV_containers_on_flight dc_containers_on_flight pm_containers_on_flight an_containers_on_flight cd_containers_on_flight ct_containers_on_flight), f_bags_on_flight, (PySem.W.fnOf "bags_on_flight" "bags_on_flight" (defArgs s_bags_on_flight) (defBody s_bags_on_flight) (defScope s_bags_on_flight) .none kV_bags_on_flight dc_bags_on_flight pm_bags_on_flight an_bags_on_flight cd_bags_on_flight ct_bags_on_flight), f_bags_that_may_not_fly, (PySem.W.fnOf "bags_that_may_not_fly" "bags_that_may_not_fly" (defArgs s_bags_that_may_not_fly) (defBody s_bags_that_may_not_fly) (defScope s_bags_that_may_not_fly) .none kV_bags_that_may_not_fly dc_bags_that_may_not_fly pm_bags_that_may_not_fly an_bags_that_may_not_fly cd_bags_that_may_not_fly ct_bags_that_may_not_fly), f_bags_to_get_out, (PySem.W.fnOf "bags_to_get_out" "bags_to_get_out" (defArgs s_bags_to_get_out) (defBody s_bags_to_get_out) (defScope s_bags_to_get_out) .none kV_bags_to_get_out dc_bags_to_get_out pm_bags_to_get_out an_bags_to_get_out cd_bags_to_get_out ct_bags_to_get_out), f_moves_to_get_out, (PySem.W.fnOf "moves_to_get_out" "moves_to_get_out" (defArgs s_moves_to_get_out) (defBody s_moves_to_get_out) (defScope s_moves_to_get_out) .none kV_moves_to_get_out dc_moves_to_get_out pm_moves_to_get_out an_moves_to_get_out cd_moves_to_get_out ct_moves_to_get_out), f_get_out, (PySem.W.fnOf "get_out" "get_out" (defArgs s_get_out) (defBody s_get_out) (defScope s_get_out) .none kV_get_out dc_get_out pm_get_out an_get_out cd_get_out ct_get_out), f_with_count, (PySem.W.fnOf "with_count" "with_count" (defArgs s_with_count) (defBody s_with_count) (defScope s_with_count) .none kV_with_count dc_with_count pm_with_count an_with_count cd_with_count ct_with_count), f_add_flight, (PySem.W.fnOf "add_flight" "add_flight" (defArgs s_add_flight) (defBody s_add_flight) (defScope s_add_flight) .none kV_add_flight dc_add_flight pm_add_flight an_add_flight cd_add_flight ct_add_flight), f_add_container, (PySem.W.fnOf "add_container" "add_container" (defArgs s_add_container) (defBody s_add_container) (defScope s_add_container) .none kV_add_container dc_add_container pm_add_container an_add_container cd_add_container ct_add_container), f_add_passenger, (PySem.W.fnOf "add_passenger" "add_passenger" (defArgs s_add_passenger) (defBody s_add_passenger) (defScope s_add_passenger) .none kV_add_passenger dc_add_passenger pm_add_passenger an_add_passenger cd_add_passenger ct_add_passenger), f_add_bag, (PySem.W.fnOf "add_bag" "add_bag" (defArgs s_add_bag) (defBody s_add_bag) (defScope s_add_bag) .none kV_add_bag dc_add_bag pm_add_bag an_add_bag cd_add_bag ct_add_bag), f_load_bag, (PySem.W.fnOf "load_bag" "load_bag" (defArgs s_load_bag) (defBody s_load_bag) (defScope s_load_bag) .none kV_load_bag dc_load_bag pm_load_bag an_load_bag cd_load_bag ct_load_bag), f_change_standing, (PySem.W.fnOf "change_standing" "change_standing" (defArgs s_change_standing) (defBody s_change_standing) (defScope s_change_standing) .none kV_change_standing dc_change_standing pm_change_standing an_change_standing cd_change_standing ct_change_standing), f_come_aboard, (PySem.W.fnOf "come_aboard" "come_aboard" (defArgs s_come_aboard) (defBody s_come_aboard) (defScope s_come_aboard) .none kV_come_aboard dc_come_aboard pm_come_aboard an_come_aboard cd_come_aboard ct_come_aboard), f_leave_aircraft, (PySem.W.fnOf "leave_aircraft" "leave_aircraft" (defArgs s_leave_aircraft) (defBody s_leave_aircraft) (defScope s_leave_aircraft) .none kV_leave_aircraft dc_leave_aircraft pm_leave_aircraft an_leave_aircraft cd_leave_aircraft ct_leave_aircraft), f_stay_absent, (PySem.W.fnOf "stay_absent" "stay_absent" (defArgs s_stay_absent) (defBody s_stay_absent) (defScope s_stay_absent) .none kV_stay_absent dc_stay_absent pm_stay_absent an_stay_absent cd_stay_absent ct_stay_absent), f_rush_bag, (PySem.W.fnOf "rush_bag" "rush_bag" (defArgs s_rush_bag) (defBody s_rush_bag) (defScope s_rush_bag) .none kV_rush_bag dc_rush_bag pm_rush_bag an_rush_bag cd_rush_bag ct_rush_bag), f_take_bag_out, (PySem.W.fnOf "take_bag_out" "take_bag_out" (defArgs s_take_bag_out) (defBody s_take_bag_out) (defScope s_take_bag_out) .none kV_take_bag_out dc_take_bag_out pm_take_bag_out an_take_bag_out cd_take_bag_out ct_take_bag_out), f_count_moves, (PySem.W.fnOf "count_moves" "count_moves" (defArgs s_count_moves) (defBody s_count_moves) (defScope s_count_moves) .none kV_count_moves dc_count_moves pm_count_moves an_count_moves cd_count_moves ct_count_moves), f_clear_flight, (PySem.W.fnOf "clear_flight" "clear_flight" (defArgs s_clear_flight) (defBody s_clear_flight) (defScope s_clear_flight) .none kV_clear_flight dc_clear_flight pm_clear_flight an_clear_flight cd_clear_flight ct_clear_flight), f_let_go, (PySem.W.fnOf "let_go" "let_go" (defArgs s_let_go) (defBody s_let_go) (defScope s_let_go) .none kV_let_go dc_let_go pm_let_go an_let_go cd_let_go ct_let_go), f_hand_out, (PySem.W.fnOf "hand_out" "hand_out" (defArgs s_hand_out) (defBody s_hand_out) (defScope s_hand_out) .none kV_hand_out dc_hand_out pm_hand_out an_hand_out cd_hand_out ct_hand_out), f_tell_waiting, (PySem.W.fnOf "tell_waiting" "tell_waiting" (defArgs s_tell_waiting) (defBody s_tell_waiting) (defScope s_tell_waiting) .none kV_tell_waiting dc_tell_waiting pm_tell_waiting an_tell_waiting cd_tell_waiting ct_tell_waiting), f_has_loaded_bag, (PySem.W.fnOf "has_loaded_bag" "has_loaded_bag" (defArgs s_has_loaded_bag) (defBody s_has_loaded_bag) (defScope s_has_loaded_bag) .none kV_has_loaded_bag dc_has_loaded_bag pm_has_loaded_bag an_has_loaded_bag cd_has_loaded_bag ct_has_loaded_bag), f_change_flight, (PySem.W.fnOf "change_flight" "change_flight" (defArgs s_change_flight) (defBody s_change_flight) (defScope s_change_flight) .none kV_change_flight dc_change_flight pm_change_flight an_change_flight cd_change_flight ct_change_flight), f_tell_place, (PySem.W.fnOf "tell_place" "tell_place" (defArgs s_tell_place) (defBody s_tell_place) (defScope s_tell_place) .none kV_tell_place dc_tell_place pm_tell_place an_tell_place cd_tell_place ct_tell_place), f_tell_pile, (PySem.W.fnOf "tell_pile" "tell_pile" (defArgs s_tell_pile) (defBody s_tell_pile) (defScope s_tell_pile) .none kV_tell_pile dc_tell_pile pm_tell_pile an_tell_pile cd_tell_pile ct_tell_pile), f_tell_state, (PySem.W.fnOf "tell_state" "tell_state" (defArgs s_tell_state) (defBody s_tell_state) (defScope s_tell_state) .none kV_tell_state dc_tell_state pm_tell_state an_tell_state cd_tell_state ct_tell_state), f_is_there, (PySem.W.fnOf "is_there" "is_there" (defArgs s_is_there) (defBody s_is_there) (defScope s_is_there) .none kV_is_there dc_is_there pm_is_there an_is_there cd_is_there ct_is_there), f_answer_call, (PySem.W.fnOf "answer_call" "answer_call" (defArgs s_answer_call) (defBody s_answer_call) (defScope s_answer_call) .none kV_answer_call dc_answer_call pm_answer_call an_answer_call cd_answer_call ct_answer_call), f_answers, (PySem.W.fnOf "answers" "answers" (defArgs s_answers) (defBody s_answers) (defScope s_answers) .none kV_answers dc_answers pm_answers an_answers cd_answers ct_answers), t_CALLS, r_CALLS0, q_CALLS0, r_CALLS1, q_CALLS1, r_CALLS2, q_CALLS2, r_CALLS3, q_CALLS3, r_CALLS4, q_CALLS4, r_CALLS5, q_CALLS5, r_CALLS6, q_CALLS6, r_CALLS7, q_CALLS7, r_CALLS8, q_CALLS8, r_CALLS9, q_CALLS9, r_CALLS10, q_CALLS10, r_CALLS11, q_CALLS11, r_CALLS12, q_CALLS12, r_CALLS13, q_CALLS13, r_CALLS14, q_CALLS14, r_CALLS15, q_CALLS15, r_CALLS16, q_CALLS16, r_CALLS17, q_CALLS17, r_CALLS18, q_CALLS18⟩, ?_⟩
  exact {
    cl_Flight := ⟨pgCF, hdCF, poCF, saCF⟩,
    mk_Flight := ⟨mkCF, inCF, ifCF, kcCF⟩,
    m_Flight := PySem.W.mg_of X G aCCF,
    n_Flight_gone := nCF_gone,
    cl_Container := ⟨pgCK, hdCK, poCK, saCK⟩,
    mk_Container := ⟨mkCK, inCK, ifCK, kcCK⟩,
    m_Container := PySem.W.mg_of X G aCCK,
    n_Container_flight := nCK_flight,
    n_Container_room := nCK_room,
    n_Container_limit := nCK_limit,
    n_Container_pile := nCK_pile,
    cl_Passenger := ⟨pgCP, hdCP, poCP, saCP⟩,
    mk_Passenger := ⟨mkCP, inCP, ifCP, kcCP⟩,
    m_Passenger := PySem.W.mg_of X G aCCP,
    n_Passenger_flight := nCP_flight,
    n_Passenger_standing := nCP_standing,
    cl_Bag := ⟨pgCB, hdCB, poCB, saCB⟩,
    mk_Bag := ⟨mkCB, inCB, ifCB, kcCB⟩,
    m_Bag := PySem.W.mg_of X G aCCB,
    n_Bag_owner := nCB_owner,
    n_Bag_weight := nCB_weight,
    n_Bag_place := nCB_place,
    n_Bag_container := nCB_container,
    n_Bag_follows := nCB_follows,
    cl_Airport := ⟨pgCA, hdCA, poCA, saCA⟩,
    mk_Airport := ⟨mkCA, inCA, ifCA, kcCA⟩,
    m_Airport := PySem.W.mg_of X G aCCA,
    n_Airport_flights := nCA_flights,
    n_Airport_containers := nCA_containers,
    n_Airport_passengers := nCA_passengers,
    n_Airport_bags := nCA_bags,
    n_Airport_moves_made := nCA_moves_made,
    F_Flight := fun_mk (st := s_Flight) l_Flight c_Flight k_Flight,
    F_Container := fun_mk (st := s_Container) l_Container c_Container k_Container,
    F_Passenger := fun_mk (st := s_Passenger) l_Passenger c_Passenger k_Passenger,
    F_Bag := fun_mk (st := s_Bag) l_Bag c_Bag k_Bag,
    F_Airport := fun_mk (st := s_Airport) l_Airport c_Airport k_Airport,
    F_is_size := fun_mk (st := s_is_size) l_is_size c_is_size k_is_size,
    m_is_size := PySem.W.mg_of X G a_is_size,
    F_has_flown := fun_mk (st := s_has_flown) l_has_flown c_has_flown k_has_flown,
    m_has_flown := PySem.W.mg_of X G a_has_flown,
    F_may_fly := fun_mk (st := s_may_fly) l_may_fly c_may_fly k_may_fly,
    m_may_fly := PySem.W.mg_of X G a_may_fly,
    F_has_to_come_out := fun_mk (st := s_has_to_come_out) l_has_to_come_out c_has_to_come_out k_has_to_come_out,
    m_has_to_come_out := PySem.W.mg_of X G a_has_to_come_out,
    F_weight_within := fun_mk (st := s_weight_within) l_weight_within c_weight_within k_weight_within,
    m_weight_within := PySem.W.mg_of X G a_weight_within,
    F_has_room_for := fun_mk (st := s_has_room_for) l_has_room_for c_has_room_for k_has_room_for,
    m_has_room_for := PySem.W.mg_of X G a_has_room_for,
    F_containers_on_flight := fun_mk (st := s_containers_on_flight) l_containers_on_flight c_containers_on_flight k_containers_on_flight,
    m_containers_on_flight := PySem.W.mg_of X G a_containers_on_flight,
    F_bags_on_flight := fun_mk (st := s_bags_on_flight) l_bags_on_flight c_bags_on_flight k_bags_on_flight,
    m_bags_on_flight := PySem.W.mg_of X G a_bags_on_flight,
    F_bags_that_may_not_fly := fun_mk (st := s_bags_that_may_not_fly) l_bags_that_may_not_fly c_bags_that_may_not_fly k_bags_that_may_not_fly,
    m_bags_that_may_not_fly := PySem.W.mg_of X G a_bags_that_may_not_fly,
    F_bags_to_get_out := fun_mk (st := s_bags_to_get_out) l_bags_to_get_out c_bags_to_get_out k_bags_to_get_out,
    m_bags_to_get_out := PySem.W.mg_of X G a_bags_to_get_out,
    F_moves_to_get_out := fun_mk (st := s_moves_to_get_out) l_moves_to_get_out c_moves_to_get_out k_moves_to_get_out,
    m_moves_to_get_out := PySem.W.mg_of X G a_moves_to_get_out,
    F_get_out := fun_mk (st := s_get_out) l_get_out c_get_out k_get_out,
    m_get_out := PySem.W.mg_of X G a_get_out,
    F_with_count := fun_mk (st := s_with_count) l_with_count c_with_count k_with_count,
    m_with_count := PySem.W.mg_of X G a_with_count,
    F_add_flight := fun_mk (st := s_add_flight) l_add_flight c_add_flight k_add_flight,
    m_add_flight := PySem.W.mg_of X G a_add_flight,
    F_add_container := fun_mk (st := s_add_container) l_add_container c_add_container k_add_container,
    m_add_container := PySem.W.mg_of X G a_add_container,
    F_add_passenger := fun_mk (st := s_add_passenger) l_add_passenger c_add_passenger k_add_passenger,
    m_add_passenger := PySem.W.mg_of X G a_add_passenger,
    F_add_bag := fun_mk (st := s_add_bag) l_add_bag c_add_bag k_add_bag,
    m_add_bag := PySem.W.mg_of X G a_add_bag,
    F_load_bag := fun_mk (st := s_load_bag) l_load_bag c_load_bag k_load_bag,
    m_load_bag := PySem.W.mg_of X G a_load_bag,
    F_change_standing := fun_mk (st := s_change_standing) l_change_standing c_change_standing k_change_standing,
    m_change_standing := PySem.W.mg_of X G a_change_standing,
    F_come_aboard := fun_mk (st := s_come_aboard) l_come_aboard c_come_aboard k_come_aboard,
    m_come_aboard := PySem.W.mg_of X G a_come_aboard,
    F_leave_aircraft := fun_mk (st := s_leave_aircraft) l_leave_aircraft c_leave_aircraft k_leave_aircraft,
    m_leave_aircraft := PySem.W.mg_of X G a_leave_aircraft,
    F_stay_absent := fun_mk (st := s_stay_absent) l_stay_absent c_stay_absent k_stay_absent,
    m_stay_absent := PySem.W.mg_of X G a_stay_absent,
    F_rush_bag := fun_mk (st := s_rush_bag) l_rush_bag c_rush_bag k_rush_bag,
    m_rush_bag := PySem.W.mg_of X G a_rush_bag,
    F_take_bag_out := fun_mk (st := s_take_bag_out) l_take_bag_out c_take_bag_out k_take_bag_out,
    m_take_bag_out := PySem.W.mg_of X G a_take_bag_out,
    F_count_moves := fun_mk (st := s_count_moves) l_count_moves c_count_moves k_count_moves,
    m_count_moves := PySem.W.mg_of X G a_count_moves,
    F_clear_flight := fun_mk (st := s_clear_flight) l_clear_flight c_clear_flight k_clear_flight,
    m_clear_flight := PySem.W.mg_of X G a_clear_flight,
    F_let_go := fun_mk (st := s_let_go) l_let_go c_let_go k_let_go,
    m_let_go := PySem.W.mg_of X G a_let_go,
    F_hand_out := fun_mk (st := s_hand_out) l_hand_out c_hand_out k_hand_out,
    m_hand_out := PySem.W.mg_of X G a_hand_out,
    F_tell_waiting := fun_mk (st := s_tell_waiting) l_tell_waiting c_tell_waiting k_tell_waiting,
    m_tell_waiting := PySem.W.mg_of X G a_tell_waiting,
    F_has_loaded_bag := fun_mk (st := s_has_loaded_bag) l_has_loaded_bag c_has_loaded_bag k_has_loaded_bag,
    m_has_loaded_bag := PySem.W.mg_of X G a_has_loaded_bag,
    F_change_flight := fun_mk (st := s_change_flight) l_change_flight c_change_flight k_change_flight,
    m_change_flight := PySem.W.mg_of X G a_change_flight,
    F_tell_place := fun_mk (st := s_tell_place) l_tell_place c_tell_place k_tell_place,
    m_tell_place := PySem.W.mg_of X G a_tell_place,
    F_tell_pile := fun_mk (st := s_tell_pile) l_tell_pile c_tell_pile k_tell_pile,
    m_tell_pile := PySem.W.mg_of X G a_tell_pile,
    F_tell_state := fun_mk (st := s_tell_state) l_tell_state c_tell_state k_tell_state,
    m_tell_state := PySem.W.mg_of X G a_tell_state,
    F_is_there := fun_mk (st := s_is_there) l_is_there c_is_there k_is_there,
    m_is_there := PySem.W.mg_of X G a_is_there,
    F_answer_call := fun_mk (st := s_answer_call) l_answer_call c_answer_call k_answer_call,
    m_answer_call := PySem.W.mg_of X G a_answer_call,
    F_answers := fun_mk (st := s_answers) l_answers c_answers k_answers,
    m_answers := PySem.W.mg_of X G a_answers,
    c_WRONG_SIZE := ⟨_, PySem.W.mg_of X G v_WRONG_SIZE⟩,
    c_NO_SUCH := ⟨_, PySem.W.mg_of X G v_NO_SUCH⟩,
    c_NOT_SO := ⟨_, PySem.W.mg_of X G v_NOT_SO⟩,
    c_NO_ROOM := ⟨_, PySem.W.mg_of X G v_NO_ROOM⟩,
    c_NOT_LET := ⟨_, PySem.W.mg_of X G v_NOT_LET⟩,
    c_WRONG_OWNER := ⟨_, PySem.W.mg_of X G v_WRONG_OWNER⟩,
    c_MOST_FLIGHTS := ⟨_, PySem.W.mg_of X G v_MOST_FLIGHTS⟩,
    c_MOST_CONTAINERS := ⟨_, PySem.W.mg_of X G v_MOST_CONTAINERS⟩,
    c_MOST_PASSENGERS := ⟨_, PySem.W.mg_of X G v_MOST_PASSENGERS⟩,
    c_MOST_BAGS := ⟨_, PySem.W.mg_of X G v_MOST_BAGS⟩,
    c_MOST_BAGS_WITHIN := ⟨_, PySem.W.mg_of X G v_MOST_BAGS_WITHIN⟩,
    c_MOST_WEIGHT_WITHIN := ⟨_, PySem.W.mg_of X G v_MOST_WEIGHT_WITHIN⟩,
    c_MOST_BAG_WEIGHT := ⟨_, PySem.W.mg_of X G v_MOST_BAG_WEIGHT⟩,
    c_EXPECTED := ⟨_, PySem.W.mg_of X G v_EXPECTED⟩,
    c_ABOARD := ⟨_, PySem.W.mg_of X G v_ABOARD⟩,
    c_NOT_COMING := ⟨_, PySem.W.mg_of X G v_NOT_COMING⟩,
    c_HALL := ⟨_, PySem.W.mg_of X G v_HALL⟩,
    c_LOADED := ⟨_, PySem.W.mg_of X G v_LOADED⟩,
    c_FLOWN := ⟨_, PySem.W.mg_of X G v_FLOWN⟩,
    c_HANDED_OUT := ⟨_, PySem.W.mg_of X G v_HANDED_OUT⟩,
    z_any := PySem.W.mg_none_of X G z_any,
    z_int := PySem.W.mg_none_of X G z_int,
    z_len := PySem.W.mg_none_of X G z_len,
    z_sum := PySem.W.mg_none_of X G z_sum,
    z_zip := PySem.W.mg_none_of X G z_zip,
    m_CALLS := PySem.W.mg_of X G a_t_CALLS,
    T_CALLS := fun _ => tup_in l_t_CALLS (by show 19 ≤ sizeLine; decide) (.cons rfl (.cons rfl (.cons rfl (.cons rfl (.cons rfl (.cons rfl (.cons rfl (.cons rfl (.cons rfl (.cons rfl (.cons rfl (.cons rfl (.cons rfl (.cons rfl (.cons rfl (.cons rfl (.cons rfl (.cons rfl (.cons rfl (.nil)))))))))))))))))))),
    R_CALLS0 := fun _ => tup_in l_r_CALLS0 (by show 2 ≤ sizeLine; decide) (.cons rfl (.cons rfl (.nil))),
    Q_CALLS0 := fun _ => tup_in l_q_CALLS0 (by show 0 ≤ sizeLine; decide) (.nil),
    R_CALLS1 := fun _ => tup_in l_r_CALLS1 (by show 2 ≤ sizeLine; decide) (.cons rfl (.cons rfl (.nil))),
    Q_CALLS1 := fun _ => tup_in l_q_CALLS1 (by show 3 ≤ sizeLine; decide) (.cons ⟨_, rfl⟩ (.cons ⟨_, rfl⟩ (.cons ⟨_, rfl⟩ (.nil)))),
    R_CALLS2 := fun _ => tup_in l_r_CALLS2 (by show 2 ≤ sizeLine; decide) (.cons rfl (.cons rfl (.nil))),
    Q_CALLS2 := fun _ => tup_in l_q_CALLS2 (by show 1 ≤ sizeLine; decide) (.cons ⟨_, rfl⟩ (.nil)),
    R_CALLS3 := fun _ => tup_in l_r_CALLS3 (by show 2 ≤ sizeLine; decide) (.cons rfl (.cons rfl (.nil))),
    Q_CALLS3 := fun _ => tup_in l_q_CALLS3 (by show 2 ≤ sizeLine; decide) (.cons ⟨_, rfl⟩ (.cons ⟨_, rfl⟩ (.nil))),
    R_CALLS4 := fun _ => tup_in l_r_CALLS4 (by show 2 ≤ sizeLine; decide) (.cons rfl (.cons rfl (.nil))),
    Q_CALLS4 := fun _ => tup_in l_q_CALLS4 (by show 2 ≤ sizeLine; decide) (.cons ⟨_, rfl⟩ (.cons ⟨_, rfl⟩ (.nil))),
    R_CALLS5 := fun _ => tup_in l_r_CALLS5 (by show 2 ≤ sizeLine; decide) (.cons rfl (.cons rfl (.nil))),
    Q_CALLS5 := fun _ => tup_in l_q_CALLS5 (by show 1 ≤ sizeLine; decide) (.cons ⟨_, rfl⟩ (.nil)),
    R_CALLS6 := fun _ => tup_in l_r_CALLS6 (by show 2 ≤ sizeLine; decide) (.cons rfl (.cons rfl (.nil))),
    Q_CALLS6 := fun _ => tup_in l_q_CALLS6 (by show 1 ≤ sizeLine; decide) (.cons ⟨_, rfl⟩ (.nil)),
    R_CALLS7 := fun _ => tup_in l_r_CALLS7 (by show 2 ≤ sizeLine; decide) (.cons rfl (.cons rfl (.nil))),
    Q_CALLS7 := fun _ => tup_in l_q_CALLS7 (by show 1 ≤ sizeLine; decide) (.cons ⟨_, rfl⟩ (.nil)),
    R_CALLS8 := fun _ => tup_in l_r_CALLS8 (by show 2 ≤ sizeLine; decide) (.cons rfl (.cons rfl (.nil))),
    Q_CALLS8 := fun _ => tup_in l_q_CALLS8 (by show 1 ≤ sizeLine; decide) (.cons ⟨_, rfl⟩ (.nil)),
    R_CALLS9 := fun _ => tup_in l_r_CALLS9 (by show 2 ≤ sizeLine; decide) (.cons rfl (.cons rfl (.nil))),
    Q_CALLS9 := fun _ => tup_in l_q_CALLS9 (by show 1 ≤ sizeLine; decide) (.cons ⟨_, rfl⟩ (.nil)),
    R_CALLS10 := fun _ => tup_in l_r_CALLS10 (by show 2 ≤ sizeLine; decide) (.cons rfl (.cons rfl (.nil))),
    Q_CALLS10 := fun _ => tup_in l_q_CALLS10 (by show 1 ≤ sizeLine; decide) (.cons ⟨_, rfl⟩ (.nil)),
    R_CALLS11 := fun _ => tup_in l_r_CALLS11 (by show 2 ≤ sizeLine; decide) (.cons rfl (.cons rfl (.nil))),
    Q_CALLS11 := fun _ => tup_in l_q_CALLS11 (by show 1 ≤ sizeLine; decide) (.cons ⟨_, rfl⟩ (.nil)),
    R_CALLS12 := fun _ => tup_in l_r_CALLS12 (by show 2 ≤ sizeLine; decide) (.cons rfl (.cons rfl (.nil))),
    Q_CALLS12 := fun _ => tup_in l_q_CALLS12 (by show 1 ≤ sizeLine; decide) (.cons ⟨_, rfl⟩ (.nil)),
    R_CALLS13 := fun _ => tup_in l_r_CALLS13 (by show 2 ≤ sizeLine; decide) (.cons rfl (.cons rfl (.nil))),
    Q_CALLS13 := fun _ => tup_in l_q_CALLS13 (by show 1 ≤ sizeLine; decide) (.cons ⟨_, rfl⟩ (.nil)),
    R_CALLS14 := fun _ => tup_in l_r_CALLS14 (by show 2 ≤ sizeLine; decide) (.cons rfl (.cons rfl (.nil))),
    Q_CALLS14 := fun _ => tup_in l_q_CALLS14 (by show 1 ≤ sizeLine; decide) (.cons ⟨_, rfl⟩ (.nil)),
    R_CALLS15 := fun _ => tup_in l_r_CALLS15 (by show 2 ≤ sizeLine; decide) (.cons rfl (.cons rfl (.nil))),
    Q_CALLS15 := fun _ => tup_in l_q_CALLS15 (by show 2 ≤ sizeLine; decide) (.cons ⟨_, rfl⟩ (.cons ⟨_, rfl⟩ (.nil))),
    R_CALLS16 := fun _ => tup_in l_r_CALLS16 (by show 2 ≤ sizeLine; decide) (.cons rfl (.cons rfl (.nil))),
    Q_CALLS16 := fun _ => tup_in l_q_CALLS16 (by show 1 ≤ sizeLine; decide) (.cons ⟨_, rfl⟩ (.nil)),
    R_CALLS17 := fun _ => tup_in l_r_CALLS17 (by show 2 ≤ sizeLine; decide) (.cons rfl (.cons rfl (.nil))),
    Q_CALLS17 := fun _ => tup_in l_q_CALLS17 (by show 1 ≤ sizeLine; decide) (.cons ⟨_, rfl⟩ (.nil)),
    R_CALLS18 := fun _ => tup_in l_r_CALLS18 (by show 2 ≤ sizeLine; decide) (.cons rfl (.cons rfl (.nil))),
    Q_CALLS18 := fun _ => tup_in l_q_CALLS18 (by show 0 ≤ sizeLine; decide) (.nil) }
end Bg
end
section
set_option Elab.async false
set_option linter.all false
set_option maxHeartbeats 2000000
namespace Bg
open Sy54
theorem get_snoc {α : Type} {l : List α} {a x : α} {i : Nat} (h : (l ++ [a])[i]? = some x) : l[i]? = some x ∨ (i = l.length ∧ x = a) := by
  by_cases hi : i < l.length
  · rw [List.getElem?_append_left hi] at h
    exact .inl h
  · have hl : i < (l ++ [a]).length := (List.getElem?_eq_some_iff.mp h).1
    have e : i = l.length := by simp at hl; omega
    subst e
    rw [List.getElem?_append_right (Nat.le_refl _), Nat.sub_self] at h
    exact .inr ⟨rfl, (Option.some.inj h).symm⟩
theorem get_lt {α : Type} {l : List α} {x : α} {i : Nat} (h : l[i]? = some x) : i < l.length := (List.getElem?_eq_some_iff.mp h).1
theorem get_app {α : Type} {l : List α} {x : α} {i : Nat} (r : List α) (h : l[i]? = some x) : (l ++ r)[i]? = some x := by
  rw [List.getElem?_append_left (get_lt h)]
  exact h
theorem get_set {α : Type} {l : List α} {a x : α} {i j : Nat} (h : (l.set j a)[i]? = some x) : (i = j ∧ x = a) ∨ (i ≠ j ∧ l[i]? = some x) := by
  by_cases e : i = j
  · subst e
    have hl : i < (l.set i a).length := get_lt h
    rw [List.length_set] at hl
    rw [List.getElem?_set_self hl] at h
    exact .inl ⟨rfl, (Option.some.inj h).symm⟩
  · rw [List.getElem?_set_ne (fun q => e q.symm)] at h
    exact .inr ⟨e, h⟩
theorem zip_map {α : Type} (f : α × Nat → α) (l : List α) (i : Nat) : (l.zipIdx.map f)[i]? = l[i]?.map fun x => f (x, i) := by
  rw [List.getElem?_map, List.getElem?_zipIdx]
  cases l[i]? <;> simp
theorem getD_some {α : Type} {l : List α} {i : Nat} {x : α} (d : α) (h : l[i]? = some x) : l.getD i d = x := by
  rw [List.getD_eq_getElem?_getD, h]
  rfl
theorem place_get (s : St) (l : List Nat) (k i : Nat) : (setPlace s l k)[i]? = s.bags[i]?.map fun x => if l.contains i = true then { x with place := k } else x := zip_map _ _ _
theorem place_len (s : St) (l : List Nat) (k : Nat) : (setPlace s l k).length = s.bags.length := by simp [setPlace]
theorem place_some {s : St} {l : List Nat} {k i : Nat} {x : Bag} (h : (setPlace s l k)[i]? = some x) : ∃ y : Bag, s.bags[i]? = some y ∧ ((i ∈ l ∧ x = { y with place := k }) ∨ (i ∉ l ∧ x = y)) := by
  rw [place_get] at h
  cases e : s.bags[i]? with
  | none => rw [e] at h; cases h
  | some y =>
    rw [e] at h
    refine ⟨y, rfl, ?_⟩
    have h' : (if l.contains i = true then { y with place := k } else y) = x := Option.some.inj h
    by_cases hm : i ∈ l
    · rw [if_pos (by simpa using hm)] at h'
      exact .inl ⟨hm, h'.symm⟩
    · rw [if_neg (by simpa using hm)] at h'
      exact .inr ⟨hm, h'.symm⟩
theorem place_one {s : St} {b k : Nat} {x : Bag} (h : s.bags[b]? = some x) : setPlace s [b] k = s.bags.set b { x with place := k } := by
  apply List.ext_getElem?
  intro i
  rw [place_get]
  by_cases e : i = b
  · subst e
    rw [List.getElem?_set_self (get_lt h), h]
    simp
  · rw [List.getElem?_set_ne (fun q => e q.symm)]
    cases s.bags[i]? <;> simp [e]
theorem how_get (s : St) (p n i : Nat) : (setHow s p n).people[i]? = s.people[i]?.map fun x => if i = p then { x with how := n } else x := zip_map _ _ _
theorem how_set {s : St} {p n : Nat} {x : Person} (h : s.people[p]? = some x) : setHow s p n = { s with people := s.people.set p { x with how := n } } := by
  have e : (setHow s p n).people = s.people.set p { x with how := n } := by
    apply List.ext_getElem?
    intro i
    rw [how_get]
    by_cases e : i = p
    · subst e
      rw [List.getElem?_set_self (get_lt h), h]
      simp
    · rw [List.getElem?_set_ne (fun q => e q.symm)]
      cases s.people[i]? <;> simp [e]
  show { s with people := (setHow s p n).people } = _
  rw [e]
noncomputable def gn (s : St) (f : Nat) : Bool := s.gone.getD f true
structure Good (s : St) : Prop where
  nF : s.gone.length ≤ 8
  nK : s.boxes.length ≤ 12
  nP : s.people.length ≤ 40
  nB : s.bags.length ≤ 60
  pf : ∀ (i : Nat) (x : Person), s.people[i]? = some x → x.flight < s.gone.length
  ph : ∀ (i : Nat) (x : Person), s.people[i]? = some x → x.how ≤ 2
  bo : ∀ (i : Nat) (x : Bag), s.bags[i]? = some x → x.owner < s.people.length
  bp : ∀ (i : Nat) (x : Bag), s.bags[i]? = some x → x.place ≤ 3
  kf : ∀ (i : Nat) (x : Box), s.boxes[i]? = some x → x.flight < s.gone.length
  kl : ∀ (i : Nat) (x : Box), s.boxes[i]? = some x → x.bags.length ≤ x.holds ∧ x.holds ≤ 20
  kb : ∀ (i : Nat) (x : Box) (b : Nat), s.boxes[i]? = some x → b ∈ x.bags → b < s.bags.length
  nd : ∀ (i : Nat) (x : Box), s.boxes[i]? = some x → x.bags.Nodup
  un : ∀ (i j : Nat) (x y : Box) (b : Nat), s.boxes[i]? = some x → s.boxes[j]? = some y → b ∈ x.bags → b ∈ y.bags → i = j
  ins : ∀ (i : Nat) (y : Box) (b : Nat) (x : Bag), s.boxes[i]? = some y → b ∈ y.bags → s.bags[b]? = some x → x.place = if gn s y.flight = true then 2 else 1
  out : ∀ (b : Nat) (x : Bag), s.bags[b]? = some x → x.place = 1 ∨ x.place = 2 → ∃ (i : Nat) (y : Box), s.boxes[i]? = some y ∧ b ∈ y.bags
theorem Good.init : Good init := by
  refine ⟨?_, ?_, ?_, ?_, ?_, ?_, ?_, ?_, ?_, ?_, ?_, ?_, ?_, ?_, ?_⟩ <;> simp [Sy54.init]
theorem gn_app {s : St} {f : Nat} (h : f < s.gone.length) (g : Bool) : (s.gone ++ [g]).getD f true = gn s f := by
  unfold gn
  rw [List.getD_eq_getElem?_getD, List.getD_eq_getElem?_getD, List.getElem?_append_left h]
theorem Good.flight {s : St} (g : Good s) (h : s.gone.length < 8) : Good { s with gone := s.gone ++ [false] } := by
  refine ⟨by simp; omega, g.nK, g.nP, g.nB, fun i x e => ?_, g.ph, g.bo, g.bp, fun i x e => ?_, g.kl, g.kb, g.nd, g.un, fun i y b x e m e2 => ?_, g.out⟩
  · have := g.pf i x e
    simp; omega
  · have := g.kf i x e
    simp; omega
  · have := g.ins i y b x e m e2
    show x.place = if (s.gone ++ [false]).getD y.flight true = true then 2 else 1
    rw [gn_app (g.kf i y e)]
    exact this
theorem Good.box {s : St} (g : Good s) {f n w : Nat} (h : s.boxes.length < 12) (hf : f < s.gone.length) (hn : n ≤ 20) : Good { s with boxes := s.boxes ++ [⟨f, n, w, []⟩] } := by
  refine ⟨g.nF, by simp; omega, g.nP, g.nB, g.pf, g.ph, g.bo, g.bp, fun i x e => ?_, fun i x e => ?_, fun i x b e m => ?_, fun i x e => ?_, fun i j x y b e1 e2 m1 m2 => ?_, fun i y b x e m e2 => ?_, fun b x e hp => ?_⟩
  · rcases get_snoc e with e | ⟨_, rfl⟩
    · exact g.kf i x e
    · exact hf
  · rcases get_snoc e with e | ⟨_, rfl⟩
    · exact g.kl i x e
    · exact ⟨Nat.zero_le _, hn⟩
  · rcases get_snoc e with e | ⟨_, rfl⟩
    · exact g.kb i x b e m
    · cases m
  · rcases get_snoc e with e | ⟨_, rfl⟩
    · exact g.nd i x e
    · exact List.nodup_nil
  · rcases get_snoc e1 with e1 | ⟨_, rfl⟩
    · rcases get_snoc e2 with e2 | ⟨_, rfl⟩
      · exact g.un i j x y b e1 e2 m1 m2
      · cases m2
    · cases m1
  · rcases get_snoc e with e | ⟨_, rfl⟩
    · exact g.ins i y b x e m e2
    · cases m
  · obtain ⟨i, y, e1, m⟩ := g.out b x e hp
    exact ⟨i, y, get_app _ e1, m⟩
theorem Good.person {s : St} (g : Good s) {f : Nat} (h : s.people.length < 40) (hf : f < s.gone.length) : Good { s with people := s.people ++ [⟨f, 0⟩] } := by
  refine ⟨g.nF, g.nK, by simp; omega, g.nB, fun i x e => ?_, fun i x e => ?_, fun i x e => ?_, g.bp, g.kf, g.kl, g.kb, g.nd, g.un, g.ins, g.out⟩
  · rcases get_snoc e with e | ⟨_, rfl⟩
    · exact g.pf i x e
    · exact hf
  · rcases get_snoc e with e | ⟨_, rfl⟩
    · exact g.ph i x e
    · exact Nat.zero_le _
  · have := g.bo i x e
    simp; omega
theorem Good.bag {s : St} (g : Good s) {p w : Nat} (h : s.bags.length < 60) (hp : p < s.people.length) : Good { s with bags := s.bags ++ [⟨p, w, 0, false⟩] } := by
  refine ⟨g.nF, g.nK, g.nP, by simp; omega, g.pf, g.ph, fun i x e => ?_, fun i x e => ?_, g.kf, g.kl, fun i x b e m => ?_, g.nd, g.un, fun i y b x e m e2 => ?_, fun b x e hp => ?_⟩
  · rcases get_snoc e with e | ⟨_, rfl⟩
    · exact g.bo i x e
    · exact hp
  · rcases get_snoc e with e | ⟨_, rfl⟩
    · exact g.bp i x e
    · exact Nat.zero_le _
  · have := g.kb i x b e m
    simp; omega
  · rcases get_snoc e2 with e2 | ⟨rfl, _⟩
    · exact g.ins i y b x e m e2
    · exact absurd (g.kb i y _ e m) (Nat.lt_irrefl _)
  · rcases get_snoc e with e | ⟨_, rfl⟩
    · exact g.out b x e hp
    · rcases hp with q | q <;> cases q
theorem Good.setPerson {s : St} (g : Good s) {p : Nat} {y : Person} (hf : y.flight < s.gone.length) (hh : y.how ≤ 2) : Good { s with people := s.people.set p y } := by
  refine ⟨g.nF, g.nK, by simp; exact g.nP, g.nB, fun i x e => ?_, fun i x e => ?_, fun i x e => ?_, g.bp, g.kf, g.kl, g.kb, g.nd, g.un, g.ins, g.out⟩
  · rcases get_set e with ⟨_, rfl⟩ | ⟨_, e⟩
    · exact hf
    · exact g.pf i x e
  · rcases get_set e with ⟨_, rfl⟩ | ⟨_, e⟩
    · exact hh
    · exact g.ph i x e
  · have := g.bo i x e
    simp; omega
theorem Good.rush {s : St} (g : Good s) {b : Nat} {x : Bag} (h : s.bags[b]? = some x) (r : Bool) : Good { s with bags := s.bags.set b { x with rush := r } } := by
  refine ⟨g.nF, g.nK, g.nP, by simp; exact g.nB, g.pf, g.ph, fun i y e => ?_, fun i y e => ?_, g.kf, g.kl, fun i y c e m => ?_, g.nd, g.un, fun i y c z e m e2 => ?_, fun c z e hp => ?_⟩
  · rcases get_set e with ⟨_, rfl⟩ | ⟨_, e⟩
    · exact g.bo b x h
    · exact g.bo i y e
  · rcases get_set e with ⟨_, rfl⟩ | ⟨_, e⟩
    · exact g.bp b x h
    · exact g.bp i y e
  · have := g.kb i y c e m
    simp; omega
  · rcases get_set e2 with ⟨rfl, rfl⟩ | ⟨_, e2⟩
    · exact g.ins i y c x e m h
    · exact g.ins i y c z e m e2
  · rcases get_set e with ⟨rfl, rfl⟩ | ⟨_, e⟩
    · exact g.out c x h hp
    · exact g.out c z e hp
theorem Good.free {s : St} (g : Good s) {b : Nat} {x : Bag} (h : s.bags[b]? = some x) (hp : x.place ≠ 1 ∧ x.place ≠ 2) {i : Nat} {y : Box} (e : s.boxes[i]? = some y) : ¬ b ∈ y.bags := fun m => by
  have q := g.ins i y b x e m h
  split at q
  · exact hp.2 q
  · exact hp.1 q
theorem Good.hand {s : St} (g : Good s) {b : Nat} {x : Bag} (h : s.bags[b]? = some x) (hp : x.place = 0) : Good { s with bags := s.bags.set b { x with place := 3 } } := by
  have fr : ∀ (i : Nat) (y : Box), s.boxes[i]? = some y → ¬ b ∈ y.bags := fun i y e => g.free h (by omega) e
  refine ⟨g.nF, g.nK, g.nP, by simp; exact g.nB, g.pf, g.ph, fun i y e => ?_, fun i y e => ?_, g.kf, g.kl, fun i y c e m => ?_, g.nd, g.un, fun i y c z e m e2 => ?_, fun c z e hp => ?_⟩
  · rcases get_set e with ⟨_, rfl⟩ | ⟨_, e⟩
    · exact g.bo b x h
    · exact g.bo i y e
  · rcases get_set e with ⟨_, rfl⟩ | ⟨_, e⟩
    · exact Nat.le_refl _
    · exact g.bp i y e
  · have := g.kb i y c e m
    simp; omega
  · rcases get_set e2 with ⟨rfl, rfl⟩ | ⟨_, e2⟩
    · exact absurd m (fr i y e)
    · exact g.ins i y c z e m e2
  · rcases get_set e with ⟨rfl, rfl⟩ | ⟨_, e⟩
    · rcases hp with q | q <;> cases q
    · exact g.out c z e hp
theorem Good.load {s : St} (g : Good s) {b k : Nat} {x : Bag} {y : Box} (hb : s.bags[b]? = some x) (hk : s.boxes[k]? = some y) (hp : x.place = 0) (hg : gn s y.flight = false) (hl : y.bags.length < y.holds) (m : Nat) :
    Good { s with boxes := s.boxes.set k { y with bags := y.bags ++ [b] }, bags := s.bags.set b { x with place := 1 }, moves := m } := by
  have fr : ∀ (i : Nat) (y : Box), s.boxes[i]? = some y → ¬ b ∈ y.bags := fun i y e => g.free hb (by omega) e
  refine ⟨g.nF, by simp; exact g.nK, g.nP, by simp; exact g.nB, g.pf, g.ph, fun i z e => ?_, fun i z e => ?_, fun i z e => ?_, fun i z e => ?_, fun i z c e mm => ?_, fun i z e => ?_, fun i j z u c e1 e2 m1 m2 => ?_, fun i z c u e mm e2 => ?_, fun c z e hq => ?_⟩
  · rcases get_set e with ⟨_, rfl⟩ | ⟨_, e⟩
    · exact g.bo b x hb
    · exact g.bo i z e
  · rcases get_set e with ⟨_, rfl⟩ | ⟨_, e⟩
    · show 1 ≤ 3; decide
    · exact g.bp i z e
  · rcases get_set e with ⟨_, rfl⟩ | ⟨_, e⟩
    · exact g.kf k y hk
    · exact g.kf i z e
  · rcases get_set e with ⟨_, rfl⟩ | ⟨_, e⟩
    · have := g.kl k y hk
      show (y.bags ++ [b]).length ≤ y.holds ∧ y.holds ≤ 20
      rw [List.length_append]
      simp; omega
    · exact g.kl i z e
  · rw [List.length_set]
    rcases get_set e with ⟨_, rfl⟩ | ⟨_, e⟩
    · have mm : c ∈ y.bags ++ [b] := mm
      rcases List.mem_append.mp mm with q | q
      · exact g.kb k y c hk q
      · have e : c = b := by simpa using q
        rw [e]
        exact get_lt hb
    · exact g.kb i z c e mm
  · rcases get_set e with ⟨_, rfl⟩ | ⟨_, e⟩
    · show (y.bags ++ [b]).Nodup
      rw [List.nodup_append]
      refine ⟨g.nd k y hk, by simp, fun a ha c hc => ?_⟩
      have e : c = b := by simpa using hc
      intro q
      exact fr k y hk (by rw [← e, ← q]; exact ha)
    · exact g.nd i z e
  · rcases get_set e1 with ⟨rfl, rfl⟩ | ⟨n1, q1⟩
    · rcases get_set e2 with ⟨rfl, rfl⟩ | ⟨n2, q2⟩
      · rfl
      · have m1 : c ∈ y.bags ++ [b] := m1
        rcases List.mem_append.mp m1 with q | q
        · exact g.un i j y u c hk q2 q m2
        · have e : c = b := by simpa using q
          exact absurd (by rw [← e]; exact m2) (fr j u q2)
    · rcases get_set e2 with ⟨rfl, rfl⟩ | ⟨n2, q2⟩
      · have m2 : c ∈ y.bags ++ [b] := m2
        rcases List.mem_append.mp m2 with q | q
        · exact g.un i j z y c q1 hk m1 q
        · have e : c = b := by simpa using q
          exact absurd (by rw [← e]; exact m1) (fr i z q1)
      · exact g.un i j z u c q1 q2 m1 m2
  · show u.place = if gn s z.flight = true then 2 else 1
    rcases get_set e with ⟨rfl, rfl⟩ | ⟨_, q1⟩
    · have mm : c ∈ y.bags ++ [b] := mm
      show u.place = if gn s y.flight = true then 2 else 1
      rcases get_set e2 with ⟨rfl, rfl⟩ | ⟨n2, e2⟩
      · rw [hg]; rfl
      · rcases List.mem_append.mp mm with q | q
        · exact g.ins i y c u hk q e2
        · exact absurd (by simpa using q) n2
    · rcases get_set e2 with ⟨rfl, rfl⟩ | ⟨n2, q2⟩
      · exact absurd mm (fr i z q1)
      · exact g.ins i z c u q1 mm q2
  · rcases get_set e with ⟨rfl, rfl⟩ | ⟨n2, e⟩
    · exact ⟨k, _, List.getElem?_set_self (get_lt hk), by show c ∈ y.bags ++ [c]; simp⟩
    · obtain ⟨i, u, e1, m1⟩ := g.out c z e hq
      by_cases hi : i = k
      · subst hi
        rw [hk] at e1
        cases e1
        exact ⟨i, _, List.getElem?_set_self (get_lt hk), by show c ∈ y.bags ++ [b]; simp [m1]⟩
      · exact ⟨i, u, by rw [List.getElem?_set_ne (fun q => hi q.symm)]; exact e1, m1⟩
theorem mem_on {s : St} {f b : Nat} : b ∈ bagsOn s f ↔ ∃ (i : Nat) (y : Box), s.boxes[i]? = some y ∧ y.flight = f ∧ b ∈ y.bags := by
  unfold bagsOn boxesOn
  rw [List.mem_flatMap]
  constructor
  · rintro ⟨y, hy, hb⟩
    rw [List.mem_filter] at hy
    obtain ⟨i, hi⟩ := List.getElem?_of_mem hy.1
    exact ⟨i, y, hi, by simpa using hy.2, hb⟩
  · rintro ⟨i, y, hi, hf, hb⟩
    exact ⟨y, List.mem_filter.mpr ⟨List.mem_of_getElem? hi, by simpa using hf⟩, hb⟩
theorem wo_box {s : St} {o : Nat → Bool} {f i : Nat} {z : Box} (h : (without s o f).boxes[i]? = some z) :
    ∃ y : Box, s.boxes[i]? = some y ∧ z.flight = y.flight ∧ z.holds = y.holds ∧ z.bears = y.bears ∧ z.bags = if y.flight = f then y.bags.filter fun b => !o b else y.bags := by
  have h' : (s.boxes.map fun (x : Box) => if x.flight = f then { x with bags := x.bags.filter fun (b : Nat) => !o b } else x)[i]? = some z := h
  rw [List.getElem?_map] at h'
  cases e : s.boxes[i]? with
  | none => rw [e] at h'; cases h'
  | some y =>
    rw [e] at h'
    have h2 : (if y.flight = f then { y with bags := y.bags.filter fun (b : Nat) => !o b } else y) = z := Option.some.inj h'
    refine ⟨y, rfl, ?_⟩
    by_cases hf : y.flight = f
    · rw [if_pos hf] at h2
      subst h2
      exact ⟨rfl, rfl, rfl, by rw [if_pos hf]⟩
    · rw [if_neg hf] at h2
      subst h2
      exact ⟨rfl, rfl, rfl, by rw [if_neg hf]⟩
theorem wo_mem {o : Nat → Bool} {f : Nat} {y : Box} {b : Nat} : (b ∈ if y.flight = f then y.bags.filter fun b => !o b else y.bags) ↔ b ∈ y.bags ∧ (y.flight = f → o b = false) := by
  by_cases hf : y.flight = f
  · rw [if_pos hf, List.mem_filter]
    simp [hf]
  · rw [if_neg hf]
    simp [hf]
theorem Good.without {s : St} (g : Good s) (o : Nat → Bool) (f : Nat) : Good (without s o f) := by
  have hb : ∀ (i : Nat) (x : Bag), (Sy54.without s o f).bags[i]? = some x → ∃ y : Bag, s.bags[i]? = some y ∧ ((i ∈ (bagsOn s f).filter o ∧ x = { y with place := 0 }) ∨ (i ∉ (bagsOn s f).filter o ∧ x = y)) := fun i x e => place_some e
  have lB : (Sy54.without s o f).bags.length = s.bags.length := place_len _ _ _
  have lK : (Sy54.without s o f).boxes.length = s.boxes.length := by simp [Sy54.without]
  refine ⟨g.nF, by rw [lK]; exact g.nK, g.nP, by rw [lB]; exact g.nB, g.pf, g.ph, fun i z e => ?_, fun i z e => ?_, fun i z e => ?_, fun i z e => ?_, fun i z c e mm => ?_, fun i z e => ?_, fun i j z u c e1 e2 m1 m2 => ?_, fun i z c u e mm e2 => ?_, fun c z e hq => ?_⟩
  · obtain ⟨y, hy, ⟨_, rfl⟩ | ⟨_, rfl⟩⟩ := hb i z e
    · exact g.bo i y hy
    · exact g.bo i _ hy
  · obtain ⟨y, hy, ⟨_, rfl⟩ | ⟨_, rfl⟩⟩ := hb i z e
    · exact Nat.zero_le _
    · exact g.bp i _ hy
  · obtain ⟨y, hy, e1, _⟩ := wo_box e
    rw [e1]
    exact g.kf i y hy
  · obtain ⟨y, hy, _, e2, _, e3⟩ := wo_box e
    have := g.kl i y hy
    rw [e2, e3]
    refine ⟨Nat.le_trans ?_ this.1, this.2⟩
    split
    · exact List.length_filter_le _ _
    · exact Nat.le_refl _
  · obtain ⟨y, hy, _, _, _, e3⟩ := wo_box e
    rw [e3] at mm
    rw [lB]
    exact g.kb i y c hy (wo_mem.mp mm).1
  · obtain ⟨y, hy, _, _, _, e3⟩ := wo_box e
    rw [e3]
    split
    · exact List.Pairwise.filter (fun b => !o b) (g.nd i y hy)
    · exact g.nd i y hy
  · obtain ⟨y, hy, _, _, _, e3⟩ := wo_box e1
    obtain ⟨v, hv, _, _, _, e4⟩ := wo_box e2
    rw [e3] at m1
    rw [e4] at m2
    exact g.un i j y v c hy hv (wo_mem.mp m1).1 (wo_mem.mp m2).1
  · obtain ⟨y, hy, e1, _, _, e3⟩ := wo_box e
    rw [e3] at mm
    obtain ⟨m1, m2⟩ := wo_mem.mp mm
    rw [e1]
    show u.place = if gn s y.flight = true then 2 else 1
    obtain ⟨v, hv, ⟨q, rfl⟩ | ⟨_, rfl⟩⟩ := hb c u e2
    · rw [List.mem_filter] at q
      obtain ⟨j, w, hw, hwf, hwb⟩ := mem_on.mp q.1
      have ij := g.un i j y w c hy hw m1 hwb
      subst ij
      rw [hy] at hw
      cases hw
      rw [m2 hwf] at q
      cases q.2
    · exact g.ins i y c _ hy m1 hv
  · obtain ⟨v, hv, ⟨q, rfl⟩ | ⟨q, rfl⟩⟩ := hb c z e
    · rcases hq with q | q <;> cases q
    · obtain ⟨i, y, hy, hm⟩ := g.out c _ hv hq
      have hz : (Sy54.without s o f).boxes[i]? = some (if y.flight = f then { y with bags := y.bags.filter fun (b : Nat) => !o b } else y) := by
        show (s.boxes.map fun (x : Box) => if x.flight = f then { x with bags := x.bags.filter fun (b : Nat) => !o b } else x)[i]? = _
        rw [List.getElem?_map, hy]
        rfl
      refine ⟨i, _, hz, ?_⟩
      obtain ⟨y2, hy2, _, _, _, e3⟩ := wo_box hz
      rw [hy] at hy2
      cases hy2
      rw [e3]
      refine wo_mem.mpr ⟨hm, fun hf => ?_⟩
      cases ho : o c with
      | false => rfl
      | true => exact absurd (List.mem_filter.mpr ⟨mem_on.mpr ⟨i, y, hy, hf, hm⟩, ho⟩) q
theorem gn_set {s : St} {f h : Nat} (hf : f < s.gone.length) : (s.gone.set f true).getD h true = if h = f then true else gn s h := by
  rw [List.getD_eq_getElem?_getD]
  by_cases e : h = f
  · subst e
    rw [List.getElem?_set_self hf, if_pos rfl]
    rfl
  · rw [List.getElem?_set_ne (fun q => e q.symm), if_neg e]
    unfold gn
    rw [List.getD_eq_getElem?_getD]
theorem Good.goes {s : St} (g : Good s) {f : Nat} (hf : f < s.gone.length) : Good { s with gone := s.gone.set f true, bags := setPlace s (bagsOn s f) 2 } := by
  have lB : (setPlace s (bagsOn s f) 2).length = s.bags.length := place_len _ _ _
  refine ⟨by simp; exact g.nF, g.nK, g.nP, by rw [lB]; exact g.nB, fun i x e => ?_, g.ph, fun i z e => ?_, fun i z e => ?_, fun i z e => ?_, g.kl, fun i z c e mm => ?_, g.nd, g.un, fun i z c u e mm e2 => ?_, fun c z e hq => ?_⟩
  · have := g.pf i x e
    simp; exact this
  · obtain ⟨y, hy, ⟨_, rfl⟩ | ⟨_, rfl⟩⟩ := place_some e
    · exact g.bo i y hy
    · exact g.bo i _ hy
  · obtain ⟨y, hy, ⟨_, rfl⟩ | ⟨_, rfl⟩⟩ := place_some e
    · show 2 ≤ 3; decide
    · exact g.bp i _ hy
  · have := g.kf i z e
    simp; exact this
  · rw [lB]
    exact g.kb i z c e mm
  · show u.place = if (s.gone.set f true).getD z.flight true = true then 2 else 1
    rw [gn_set hf]
    obtain ⟨v, hv, ⟨q, rfl⟩ | ⟨q, rfl⟩⟩ := place_some e2
    · obtain ⟨j, w, hw, hwf, hwb⟩ := mem_on.mp q
      have ij := g.un i j z w c e hw mm hwb
      subst ij
      rw [e] at hw
      cases hw
      rw [if_pos hwf]
      rfl
    · have nf : ¬ z.flight = f := fun h => q (mem_on.mpr ⟨i, z, e, h, mm⟩)
      rw [if_neg nf]
      exact g.ins i z c _ e mm hv
  · obtain ⟨v, hv, ⟨q, rfl⟩ | ⟨q, rfl⟩⟩ := place_some e
    · obtain ⟨j, w, hw, hwf, hwb⟩ := mem_on.mp q
      exact ⟨j, w, hw, hwb⟩
    · exact g.out c _ hv hq
end Bg
end
section
set_option Elab.async false
set_option linter.all false
set_option maxHeartbeats 2000000
namespace Bg
open Sy54
theorem box_some {s : St} (g : Good s) {k b : Nat} {y : Box} (h : s.boxes[k]? = some y) (m : b ∈ y.bags) : boxOf s b = some k := by
  unfold boxOf
  rw [List.findIdx?_eq_some_iff_getElem]
  have hk := get_lt h
  have ey : s.boxes[k] = y := (List.getElem?_eq_some_iff.mp h).2
  refine ⟨hk, by rw [ey]; simpa using m, fun j hj => ?_⟩
  simp only [List.contains_eq_mem, decide_eq_true_eq]
  intro q
  have := g.un j k s.boxes[j] y b (List.getElem?_eq_getElem _) h q m
  omega
theorem box_none {s : St} {b : Nat} (h : ∀ (i : Nat) (y : Box), s.boxes[i]? = some y → ¬ b ∈ y.bags) : boxOf s b = none := by
  unfold boxOf
  rw [List.findIdx?_eq_none_iff]
  intro x hx
  obtain ⟨i, hi⟩ := List.getElem?_of_mem hx
  simpa using h i x hi
theorem box_get {s : St} {b k : Nat} (h : boxOf s b = some k) : ∃ y : Box, s.boxes[k]? = some y ∧ b ∈ y.bags := by
  unfold boxOf at h
  rw [List.findIdx?_eq_some_iff_getElem] at h
  obtain ⟨hk, h1, _⟩ := h
  exact ⟨s.boxes[k], List.getElem?_eq_getElem hk, by simpa using h1⟩
theorem box_no {s : St} {b : Nat} (h : boxOf s b = none) (i : Nat) (y : Box) (e : s.boxes[i]? = some y) : ¬ b ∈ y.bags := by
  unfold boxOf at h
  rw [List.findIdx?_eq_none_iff] at h
  have := h y (List.mem_of_getElem? e)
  simpa using this
noncomputable def conts (s : St) : List (Option Nat) := (List.range s.bags.length).map (boxOf s)
theorem conts_len (s : St) : (conts s).length = s.bags.length := by simp [conts]
theorem conts_get {s : St} {i : Nat} (h : i < s.bags.length) : (conts s)[i]? = some (boxOf s i) := by
  unfold conts
  rw [List.getElem?_map, List.getElem?_range h]
  rfl
theorem conts_eq {s : St} {l : List (Option Nat)} (hl : l.length = s.bags.length) (h : ∀ i, i < s.bags.length → l[i]? = some (boxOf s i)) : conts s = l := by
  apply List.ext_getElem?
  intro i
  by_cases hi : i < s.bags.length
  · rw [conts_get hi, h i hi]
  · rw [List.getElem?_eq_none (by rw [conts_len]; omega), List.getElem?_eq_none (by rw [hl]; omega)]
theorem conts_same {s t : St} (hl : t.bags.length = s.bags.length) (hb : t.boxes = s.boxes) : conts t = conts s :=
  conts_eq (by rw [conts_len, hl]) fun i hi => by
    rw [conts_get (by rw [← hl]; exact hi)]
    unfold boxOf
    rw [hb]
theorem conts_bag {s : St} (g : Good s) {x : Bag} : conts { s with bags := s.bags ++ [x] } = conts s ++ [none] :=
  conts_eq (by simp [conts_len]) fun i hi => by
    have hi : i < (s.bags ++ [x]).length := hi
    by_cases h : i < s.bags.length
    · rw [List.getElem?_append_left (by rw [conts_len]; exact h), conts_get h]
      rfl
    · have e : i = s.bags.length := by simp at hi; omega
      subst e
      rw [List.getElem?_append_right (by rw [conts_len]; exact Nat.le_refl _), conts_len, Nat.sub_self]
      have : boxOf { s with bags := s.bags ++ [x] } s.bags.length = none := box_none fun i y e m => absurd (g.kb i y _ e m) (Nat.lt_irrefl _)
      rw [this]
      rfl
theorem conts_box {s : St} (g : Good s) {f n w : Nat} (g' : Good { s with boxes := s.boxes ++ [⟨f, n, w, []⟩] }) : conts { s with boxes := s.boxes ++ [⟨f, n, w, []⟩] } = conts s :=
  conts_eq (conts_len s) fun i hi => by
    have hi : i < s.bags.length := hi
    rw [conts_get (s := s) hi]
    cases e : boxOf s i with
    | none =>
      refine congrArg some (box_none fun j y h m => ?_).symm
      rcases get_snoc h with h | ⟨_, rfl⟩
      · exact box_no e j y h m
      · cases m
    | some k =>
      obtain ⟨y, h1, h2⟩ := box_get e
      exact congrArg some (box_some g' (get_app _ h1) h2).symm
theorem conts_load {s : St} {b k m : Nat} {x : Bag} {y : Box} (hb : s.bags[b]? = some x) (hk : s.boxes[k]? = some y) (g : Good s)
    (g' : Good { s with boxes := s.boxes.set k { y with bags := y.bags ++ [b] }, bags := s.bags.set b { x with place := 1 }, moves := m }) :
    conts { s with boxes := s.boxes.set k { y with bags := y.bags ++ [b] }, bags := s.bags.set b { x with place := 1 }, moves := m } = (conts s).set b (some k) :=
  conts_eq (by simp [conts_len]) fun i hi => by
    have hi : i < s.bags.length := by simpa using hi
    by_cases e : i = b
    · subst e
      rw [List.getElem?_set_self (by rw [conts_len]; exact get_lt hb)]
      exact congrArg some (box_some g' (List.getElem?_set_self (get_lt hk)) (by show i ∈ y.bags ++ [i]; simp)).symm
    · rw [List.getElem?_set_ne (fun q => e q.symm), conts_get (s := s) hi]
      cases eq : boxOf s i with
      | none =>
        refine congrArg some (box_none fun j z h mm => ?_).symm
        rcases get_set h with ⟨rfl, rfl⟩ | ⟨_, h⟩
        · have mm : i ∈ y.bags ++ [b] := mm
          rcases List.mem_append.mp mm with q | q
          · exact box_no eq j y hk q
          · exact e (by simpa using q)
        · exact box_no eq j z h mm
      | some q =>
        obtain ⟨z, h1, h2⟩ := box_get eq
        by_cases hq : q = k
        · subst hq
          rw [hk] at h1
          cases h1
          exact congrArg some (box_some g' (List.getElem?_set_self (get_lt hk)) (by show i ∈ y.bags ++ [b]; simp [h2])).symm
        · exact congrArg some (box_some g' (show (s.boxes.set k { y with bags := y.bags ++ [b] })[q]? = some z by rw [List.getElem?_set_ne (fun u => hq u.symm)]; exact h1) h2).symm
theorem wo_get {s : St} {o : Nat → Bool} {f i : Nat} {y : Box} (h : s.boxes[i]? = some y) : (without s o f).boxes[i]? = some { y with bags := if y.flight = f then y.bags.filter fun b => !o b else y.bags } := by
  show (s.boxes.map fun (x : Box) => if x.flight = f then { x with bags := x.bags.filter fun (b : Nat) => !o b } else x)[i]? = _
  rw [List.getElem?_map, h]
  by_cases hf : y.flight = f
  · simp [hf]
  · simp [hf]
theorem wo_boxOf {s : St} (g : Good s) (o : Nat → Bool) (f b : Nat) : boxOf (without s o f) b = if b ∈ (bagsOn s f).filter o then none else boxOf s b := by
  by_cases hm : b ∈ (bagsOn s f).filter o
  · rw [if_pos hm]
    refine box_none fun i z e m => ?_
    obtain ⟨y, hy, _, _, _, e3⟩ := wo_box e
    rw [e3] at m
    obtain ⟨m1, m2⟩ := wo_mem.mp m
    rw [List.mem_filter] at hm
    obtain ⟨j, w, hw, hwf, hwb⟩ := mem_on.mp hm.1
    have ij := g.un i j y w b hy hw m1 hwb
    subst ij
    rw [hy] at hw
    cases hw
    rw [m2 hwf] at hm
    cases hm.2
  · rw [if_neg hm]
    cases eq : boxOf s b with
    | none =>
      refine box_none fun i z e m => ?_
      obtain ⟨y, hy, _, _, _, e3⟩ := wo_box e
      rw [e3] at m
      exact box_no eq i y hy (wo_mem.mp m).1
    | some k =>
      obtain ⟨y, h1, h2⟩ := box_get eq
      refine box_some (g.without o f) (wo_get (o := o) (f := f) h1) ?_
      refine wo_mem.mpr ⟨h2, fun hf => ?_⟩
      cases ho : o b with
      | false => rfl
      | true => exact absurd (List.mem_filter.mpr ⟨mem_on.mpr ⟨k, y, h1, hf, h2⟩, ho⟩) hm
theorem conts_without {s : St} (g : Good s) (o : Nat → Bool) (f : Nat) (i : Nat) (hi : i < s.bags.length) : (conts (without s o f))[i]? = some (if i ∈ (bagsOn s f).filter o then none else boxOf s i) := by
  rw [conts_get (show i < (setPlace s ((bagsOn s f).filter o) 0).length by rw [place_len]; exact hi), wo_boxOf g]
end Bg
end
section
set_option Elab.async false
set_option linter.all false
set_option maxHeartbeats 2000000
namespace Bg
open Sy54
theorem mo_none {o : Nat → Bool} : ∀ {l : List Nat}, (∀ c, c ∈ l → o c = false) → movesOut o l = 0
  | [], _ => rfl
  | a :: r, h => by
    unfold movesOut
    rw [if_neg (by rw [h a (by simp)]; simp), mo_none fun c hc => h c (by simp [hc])]
section
variable {s : St} {k j b : Nat} {y : Box} {z : Bag}
end
end Bg
end
section
set_option Elab.async false
set_option linter.all false
set_option maxHeartbeats 2000000
namespace Bg
open Sy54
theorem place_nil (s : St) (k : Nat) : setPlace s [] k = s.bags := by
  apply List.ext_getElem?
  intro i
  rw [place_get]
  cases s.bags[i]? <;> simp
theorem place_snoc {s : St} {l : List Nat} {k n : Nat} {y : Bag} (hy : (setPlace s l k)[n]? = some y) : setPlace s (l ++ [n]) k = (setPlace s l k).set n { y with place := k } := by
  apply List.ext_getElem?
  intro i
  rw [place_get]
  by_cases e : i = n
  · subst e
    rw [List.getElem?_set_self (get_lt hy)]
    obtain ⟨z, hz, h⟩ := place_some hy
    rw [hz]
    rcases h with ⟨_, rfl⟩ | ⟨_, rfl⟩
    · simp
    · simp
  · rw [List.getElem?_set_ne (fun q => e q.symm), place_get]
    have : (l ++ [n]).contains i = l.contains i := by simp [e]
    rw [this]
end Bg
end
section
set_option Elab.async false
set_option linter.all false
set_option maxHeartbeats 2000000
namespace Bg
open Sy54
noncomputable def boxAt (s : St) (i : Nat) : Box := s.boxes.getD i ⟨0, 0, 0, []⟩
theorem boxAt_eq {s : St} {i : Nat} {y : Box} (h : s.boxes[i]? = some y) : boxAt s i = y := getD_some _ h
noncomputable def idxOn (s : St) (f : Nat) : List Nat := (List.range s.boxes.length).filter fun i => (boxAt s i).flight == f
theorem idx_mem {s : St} {f i : Nat} (h : i ∈ idxOn s f) : ∃ y, s.boxes[i]? = some y ∧ y.flight = f := by
  unfold idxOn at h
  rw [List.mem_filter, List.mem_range] at h
  have e : s.boxes[i]? = some s.boxes[i] := List.getElem?_eq_getElem h.1
  refine ⟨_, e, ?_⟩
  have := h.2
  rw [boxAt_eq e] at this
  simpa using this
theorem idx_of {s : St} {f i : Nat} {y : Box} (h : s.boxes[i]? = some y) (hf : y.flight = f) : i ∈ idxOn s f := by
  unfold idxOn
  rw [List.mem_filter, List.mem_range]
  exact ⟨get_lt h, by rw [boxAt_eq h]; simpa using hf⟩
theorem range_get {α : Type} (l : List α) (d : α) : (List.range l.length).map (fun i => l.getD i d) = l := by
  apply List.ext_getElem?
  intro i
  rw [List.getElem?_map]
  by_cases h : i < l.length
  · rw [List.getElem?_range h, List.getElem?_eq_getElem h]
    simp [List.getD_eq_getElem?_getD, h]
  · rw [List.getElem?_eq_none (by simp; omega), List.getElem?_eq_none (by omega)]
    rfl
theorem boxesOn_idx (s : St) (f : Nat) : boxesOn s f = (idxOn s f).map (boxAt s) := by
  unfold boxesOn idxOn
  have e := range_get s.boxes ⟨0, 0, 0, []⟩
  have e2 : s.boxes = (List.range s.boxes.length).map (boxAt s) := e.symm
  have e3 : (s.boxes.filter fun (x : Box) => x.flight == f) = ((List.range s.boxes.length).map (boxAt s)).filter fun (x : Box) => x.flight == f := by rw [← e2]
  rw [e3, List.filter_map]
  rfl
theorem bagsOn_idx (s : St) (f : Nat) : bagsOn s f = (idxOn s f).flatMap fun i => (boxAt s i).bags := by
  unfold bagsOn
  rw [boxesOn_idx, List.flatMap_map]
theorem idx_nodup (s : St) (f : Nat) : (idxOn s f).Nodup := List.Pairwise.filter _ List.nodup_range
theorem idx_len (s : St) (f : Nat) : (idxOn s f).length ≤ s.boxes.length := by
  have := List.length_filter_le (fun i => (boxAt s i).flight == f) (List.range s.boxes.length)
  rw [List.length_range] at this
  exact this
theorem len_split (o : Nat → Bool) : ∀ l : List Nat, l.length = (l.filter o).length + (l.filter fun c => !o c).length
  | [] => rfl
  | a :: t => by
    have ih := len_split o t
    rw [List.filter_cons, List.filter_cons]
    cases h : o a <;> simp <;> omega
theorem mo_ix {o : Nat → Bool} : ∀ {l : List Nat} {b : Nat} {r : List Nat}, l.filter o = b :: r → ∃ j, l[j]? = some b ∧ o b = true ∧ (∀ m z, m < j → l[m]? = some z → o z = false) ∧ j + (r.length + 1) ≤ l.length ∧ movesOut o l = (l.length - j) + (l.length - j) - (r.length + 1)
  | [], b, r, h => by cases h
  | a :: t, b, r, h => by
    rw [List.filter_cons] at h
    by_cases ha : o a = true
    · rw [if_pos ha] at h
      injection h with h1 h2
      subst h1
      have e := len_split o t
      rw [h2] at e
      refine ⟨0, rfl, ha, fun m z hm => absurd hm (Nat.not_lt_zero _), by simp; omega, ?_⟩
      unfold movesOut
      rw [if_pos ha]
      simp only [List.length_cons]
      omega
    · rw [if_neg ha] at h
      obtain ⟨j, h1, h2, h3, h4, h5⟩ := mo_ix h
      refine ⟨j + 1, by simpa using h1, h2, fun m z hm hz => ?_, by simp; omega, ?_⟩
      · match m, hz with
        | 0, hz =>
          have e : a = z := by simpa using hz
          rw [← e]
          simpa using ha
        | m + 1, hz => exact h3 m z (by omega) (by simpa using hz)
      · unfold movesOut
        rw [if_neg ha, h5]
        simp only [List.length_cons]
        omega
theorem mo_nil {o : Nat → Bool} {l : List Nat} (h : l.filter o = []) : movesOut o l = 0 := mo_none fun c hc => by
  rw [List.filter_eq_nil_iff] at h
  simpa using h c hc
theorem mo_congr {o u : Nat → Bool} : ∀ {l : List Nat}, (∀ c, c ∈ l → o c = u c) → movesOut o l = movesOut u l
  | [], _ => rfl
  | a :: t, h => by
    have h1 := h a (by simp)
    have h2 : ∀ c, c ∈ t → o c = u c := fun c hc => h c (by simp [hc])
    unfold movesOut
    rw [h1, mo_congr h2, List.filter_congr (q := fun c => !u c) (fun c hc => by rw [h2 c hc])]
noncomputable def clr (c : List (Option Nat)) (l : List Nat) : List (Option Nat) := l.foldl (fun c n => c.set n none) c
theorem clr_len (c : List (Option Nat)) : ∀ l : List Nat, (clr c l).length = c.length := by
  intro l
  unfold clr
  induction l generalizing c with
  | nil => rfl
  | cons a r ih => rw [List.foldl_cons, ih]; simp
theorem clr_snoc (c : List (Option Nat)) (l : List Nat) (n : Nat) : clr c (l ++ [n]) = (clr c l).set n none := by
  unfold clr
  rw [List.foldl_append]
  rfl
theorem clr_get {i : Nat} : ∀ (l : List Nat) (c : List (Option Nat)), i < c.length → (clr c l)[i]? = if i ∈ l then some none else c[i]?
  | [], c, h => by simp [clr]
  | a :: r, c, h => by
    have ih := clr_get r (c.set a none) (by simpa using h)
    show (clr (c.set a none) r)[i]? = _
    rw [ih]
    by_cases e : i = a
    · subst e
      rw [List.getElem?_set_self h]
      simp
    · rw [List.getElem?_set_ne (fun q => e q.symm)]
      simp [e]
noncomputable def oL (s : St) (o : Nat → Bool) (L : List Nat) (c : Nat) : Bool := o c && L.any fun i => (boxAt s i).bags.contains c
noncomputable def pulled (s : St) (k : Nat) (y : Box) (o : Nat → Bool) : St := { s with boxes := s.boxes.set k { y with bags := y.bags.filter fun b => !o b }, bags := setPlace s (y.bags.filter o) 0, moves := s.moves + movesOut o y.bags }
section
variable {s : St} {o u : Nat → Bool} {f i : Nat} {L : List Nat} {y : Box}
theorem oL_in {c : Nat} (hi : s.boxes[i]? = some y) (hc : c ∈ y.bags) (hm : i ∈ L) : oL s o L c = o c := by
  unfold oL
  have : (L.any fun i => (boxAt s i).bags.contains c) = true := by
    rw [List.any_eq_true]
    exact ⟨i, hm, by rw [boxAt_eq hi]; simpa using hc⟩
  rw [this, Bool.and_true]
theorem oL_no (g : Good s) {c : Nat} (hi : s.boxes[i]? = some y) (hc : c ∈ y.bags) (hm : ¬ i ∈ L) : oL s o L c = false := by
  unfold oL
  have : (L.any fun i => (boxAt s i).bags.contains c) = false := by
    rw [List.any_eq_false]
    intro k hk hb
    cases e : s.boxes[k]? with
    | none =>
      unfold boxAt at hb
      rw [List.getD_eq_getElem?_getD, e] at hb
      simp at hb
    | some z =>
      rw [boxAt_eq e] at hb
      have := g.un i k y z c hi e hc (by simpa using hb)
      exact hm (by rw [this]; exact hk)
  rw [this, Bool.and_false]
theorem oL_snoc {c : Nat} (hi : s.boxes[i]? = some y) : oL s o (L ++ [i]) c = (oL s o L c || (o c && y.bags.contains c)) := by
  unfold oL
  rw [List.any_append]
  simp only [List.any_cons, List.any_nil, Bool.or_false, boxAt_eq hi]
  cases o c <;> simp
theorem wo_congr (h : ∀ c, c ∈ bagsOn s f → o c = u c) : without s o f = without s u f := by
  have hb : ∀ (y : Box), y ∈ s.boxes → y.flight = f → ∀ c, c ∈ y.bags → o c = u c := fun y hy hf c hc => by
    obtain ⟨i, hi⟩ := List.getElem?_of_mem hy
    exact h c (mem_on.mpr ⟨i, y, hi, hf, hc⟩)
  have e1 : (bagsOn s f).filter o = (bagsOn s f).filter u := List.filter_congr h
  have e2 : (s.boxes.map fun (x : Box) => if x.flight = f then { x with bags := x.bags.filter fun (b : Nat) => !o b } else x) = s.boxes.map fun (x : Box) => if x.flight = f then { x with bags := x.bags.filter fun (b : Nat) => !u b } else x := by
    apply List.map_congr_left
    intro x hx
    by_cases hf : x.flight = f
    · rw [if_pos hf, if_pos hf, List.filter_congr (q := fun b => !u b) (fun c hc => by rw [hb x hx hf c hc])]
    · rw [if_neg hf, if_neg hf]
  have e3 : ((boxesOn s f).map fun (x : Box) => movesOut o x.bags) = (boxesOn s f).map fun (x : Box) => movesOut u x.bags := by
    apply List.map_congr_left
    intro x hx
    unfold boxesOn at hx
    rw [List.mem_filter] at hx
    exact mo_congr (hb x hx.1 (by simpa using hx.2))
  unfold without
  simp only [e1, e2, e3]
theorem wo_none (h : ∀ c, o c = false) : without s o f = s := by
  have e1 : (bagsOn s f).filter o = [] := by
    rw [List.filter_eq_nil_iff]
    intro c _
    rw [h c]
    simp
  have e2 : (s.boxes.map fun (x : Box) => if x.flight = f then { x with bags := x.bags.filter fun (b : Nat) => !o b } else x) = s.boxes := by
    rw [List.map_congr_left (g := id)]
    · exact List.map_id _
    · intro x hx
      split
      · have : x.bags.filter (fun b => !o b) = x.bags := by
          rw [List.filter_eq_self]
          intro c _
          rw [h c]
          rfl
        rw [this]
        rfl
      · rfl
  have e3 : ((boxesOn s f).map fun (x : Box) => movesOut o x.bags).sum = 0 := by
    have : ((boxesOn s f).map fun (x : Box) => movesOut o x.bags) = (boxesOn s f).map fun _ => 0 := by
      apply List.map_congr_left
      intro x _
      exact mo_none fun c _ => h c
    rw [this]
    induction boxesOn s f with
    | nil => rfl
    | cons a r ih => rw [List.map_cons, List.sum_cons, ih]
  unfold without
  simp only [e1, e2, e3, place_nil]
  rfl
theorem wo_start : without s (oL s o []) f = s := wo_none fun c => by unfold oL; simp
theorem wo_end : without s (oL s o (idxOn s f)) f = without s o f := wo_congr fun c hc => by
  obtain ⟨i, y, hi, hf, hm⟩ := mem_on.mp hc
  exact oL_in hi hm (idx_of hi hf)
theorem wo_at (g : Good s) (hi : s.boxes[i]? = some y) (hn : ¬ i ∈ L) : (without s (oL s o L) f).boxes[i]? = some y := by
  rw [wo_get hi]
  congr 1
  have : y.bags.filter (fun b => !oL s o L b) = y.bags := by
    rw [List.filter_eq_self]
    intro c hc
    rw [oL_no g hi hc hn]
    rfl
  rw [this]
  split <;> rfl
theorem sum_plus {α : Type} (p : α → Bool) (m m' : α → Nat) (v : Nat) : ∀ {l : List α} {k : Nat} {y : α}, l[k]? = some y → p y = true → m' y = m y + v → (∀ i x, l[i]? = some x → i ≠ k → p x = true → m' x = m x) → ((l.filter p).map m').sum = ((l.filter p).map m).sum + v
  | [], k, y, h, _, _, _ => by simp at h
  | a :: r, 0, y, h, hp, hv, hz => by
    have e : a = y := by simpa using h
    subst e
    rw [List.filter_cons, if_pos hp, List.map_cons, List.sum_cons, List.map_cons, List.sum_cons, hv]
    have z : (r.filter p).map m' = (r.filter p).map m := by
      apply List.map_congr_left
      intro x hx
      rw [List.mem_filter] at hx
      obtain ⟨i, hi⟩ := List.getElem?_of_mem hx.1
      exact hz (i + 1) x (by simpa using hi) (by omega) hx.2
    rw [z]
    omega
  | a :: r, k + 1, y, h, hp, hv, hz => by
    have h' : r[k]? = some y := by simpa using h
    have ih := sum_plus p m m' v h' hp hv fun i x hi hne hpx => hz (i + 1) x (by simpa using hi) (by omega) hpx
    rw [List.filter_cons]
    split
    · rename_i hc
      rw [List.map_cons, List.sum_cons, List.map_cons, List.sum_cons, hz 0 a rfl (by omega) hc, ih]
      omega
    · exact ih
theorem on_snoc (g : Good s) (hi : s.boxes[i]? = some y) (hf : y.flight = f) (c : Nat) : c ∈ (bagsOn s f).filter (oL s o (L ++ [i])) ↔ c ∈ (bagsOn s f).filter (oL s o L) ∨ c ∈ y.bags.filter o := by
  simp only [List.mem_filter]
  rw [oL_snoc hi]
  constructor
  · rintro ⟨h1, h2⟩
    rw [Bool.or_eq_true, Bool.and_eq_true] at h2
    rcases h2 with h2 | h2
    · exact .inl ⟨h1, h2⟩
    · exact .inr ⟨by simpa using h2.2, h2.1⟩
  · rintro (⟨h1, h2⟩ | ⟨h1, h2⟩)
    · exact ⟨h1, by rw [h2]; rfl⟩
    · exact ⟨mem_on.mpr ⟨i, y, hi, hf, h1⟩, by rw [h2]; simp [h1]⟩
theorem wo_snoc (g : Good s) (hi : s.boxes[i]? = some y) (hf : y.flight = f) (hn : ¬ i ∈ L) : without s (oL s o (L ++ [i])) f = pulled (without s (oL s o L) f) i y o := by
  have e1 : (without s (oL s o (L ++ [i])) f).boxes = (without s (oL s o L) f).boxes.set i { y with bags := y.bags.filter fun b => !o b } := by
    apply List.ext_getElem?
    intro m
    by_cases e : m = i
    · subst e
      rw [wo_get hi, if_pos hf, List.getElem?_set_self (get_lt (wo_at (o := o) (f := f) g hi hn))]
      rw [List.filter_congr (q := fun b => !o b) (fun c hc => by rw [oL_in hi hc (by simp)])]
    · rw [List.getElem?_set_ne (fun q => e q.symm)]
      cases h : s.boxes[m]? with
      | none =>
        have l1 : (without s (oL s o (L ++ [i])) f).boxes.length = s.boxes.length := by simp [without]
        have l2 : (without s (oL s o L) f).boxes.length = s.boxes.length := by simp [without]
        have hm : s.boxes.length ≤ m := List.getElem?_eq_none_iff.mp h
        rw [List.getElem?_eq_none (by omega), List.getElem?_eq_none (by omega)]
      | some z =>
        rw [wo_get h, wo_get h, List.filter_congr (q := fun b => !oL s o L b) (fun c hc => ?_)]
        rw [oL_snoc hi]
        have : y.bags.contains c = false := by
          simp only [List.contains_eq_mem, decide_eq_false_iff_not]
          exact fun hy => e (g.un m i z y c h hi hc hy)
        rw [this]
        simp
  have e2 : (without s (oL s o (L ++ [i])) f).bags = setPlace (without s (oL s o L) f) (y.bags.filter o) 0 := by
    apply List.ext_getElem?
    intro m
    show (setPlace s ((bagsOn s f).filter (oL s o (L ++ [i]))) 0)[m]? = _
    rw [place_get, place_get]
    show _ = (setPlace s ((bagsOn s f).filter (oL s o L)) 0)[m]?.map _
    rw [place_get]
    have q := on_snoc (o := o) (L := L) g hi hf m
    cases s.bags[m]? with
    | none => rfl
    | some x =>
      simp only [Option.map_some, List.contains_eq_mem, decide_eq_true_eq]
      congr 1
      by_cases h1 : m ∈ y.bags.filter o
      · rw [if_pos (q.mpr (.inr h1)), if_pos h1]
        split <;> rfl
      · rw [if_neg h1]
        by_cases h2 : m ∈ (bagsOn s f).filter (oL s o L)
        · rw [if_pos (q.mpr (.inl h2)), if_pos h2]
        · rw [if_neg (fun h => (q.mp h).elim h2 h1), if_neg h2]
  have e3 : (without s (oL s o (L ++ [i])) f).moves = (without s (oL s o L) f).moves + movesOut o y.bags := by
    show s.moves + ((boxesOn s f).map fun (x : Box) => movesOut (oL s o (L ++ [i])) x.bags).sum = s.moves + ((boxesOn s f).map fun (x : Box) => movesOut (oL s o L) x.bags).sum + _
    unfold boxesOn
    rw [sum_plus (fun (x : Box) => x.flight == f) (fun (x : Box) => movesOut (oL s o L) x.bags) (fun (x : Box) => movesOut (oL s o (L ++ [i])) x.bags) (movesOut o y.bags) hi (by simpa using hf) ?_ ?_]
    · omega
    · show movesOut (oL s o (L ++ [i])) y.bags = movesOut (oL s o L) y.bags + movesOut o y.bags
      rw [mo_none fun c hc => oL_no (o := o) g hi hc hn, Nat.zero_add]
      exact mo_congr fun c hc => oL_in hi hc (by simp)
    · intro m z hz hne _
      refine mo_congr fun c hc => ?_
      rw [oL_snoc hi]
      have : y.bags.contains c = false := by
        simp only [List.contains_eq_mem, decide_eq_false_iff_not]
        exact fun hy => hne (g.un m i z y c hz hi hc hy)
      rw [this]
      simp
  show St.mk s.gone s.people (without s (oL s o (L ++ [i])) f).bags (without s (oL s o (L ++ [i])) f).boxes (without s (oL s o (L ++ [i])) f).moves = _
  rw [e1, e2, e3]
  rfl
theorem ct_snoc (g : Good s) (hi : s.boxes[i]? = some y) (hf : y.flight = f) : conts (without s (oL s o (L ++ [i])) f) = clr (conts (without s (oL s o L) f)) (y.bags.filter o) := by
  have l1 : (without s (oL s o (L ++ [i])) f).bags.length = s.bags.length := place_len _ _ _
  have l2 : (without s (oL s o L) f).bags.length = s.bags.length := place_len _ _ _
  apply List.ext_getElem?
  intro m
  by_cases hm : m < s.bags.length
  · rw [conts_without g _ _ m hm, clr_get _ _ (by rw [conts_len, l2]; exact hm), conts_without g _ _ m hm]
    have q := on_snoc (o := o) (L := L) g hi hf m
    by_cases h1 : m ∈ y.bags.filter o
    · rw [if_pos (q.mpr (.inr h1)), if_pos h1]
    · rw [if_neg h1]
      by_cases h2 : m ∈ (bagsOn s f).filter (oL s o L)
      · rw [if_pos (q.mpr (.inl h2)), if_pos h2]
      · rw [if_neg (fun h => (q.mp h).elim h2 h1), if_neg h2]
  · rw [List.getElem?_eq_none (by rw [conts_len, l1]; omega), List.getElem?_eq_none (by rw [clr_len, conts_len, l2]; omega)]
theorem bag_wo (b : Nat) : (bagOf (without s o f) b).rush = (bagOf s b).rush ∧ (bagOf (without s o f) b).owner = (bagOf s b).owner := by
  unfold bagOf
  rw [List.getD_eq_getElem?_getD, List.getD_eq_getElem?_getD]
  show ((setPlace s ((bagsOn s f).filter o) 0)[b]?.getD _).rush = _ ∧ ((setPlace s ((bagsOn s f).filter o) 0)[b]?.getD _).owner = _
  rw [place_get]
  cases s.bags[b]? with
  | none => exact ⟨rfl, rfl⟩
  | some x =>
    simp only [Option.map_some, Option.getD_some]
    split <;> exact ⟨rfl, rfl⟩
theorem must_wo : mustOut (without s o f) = mustOut s := by
  funext b
  obtain ⟨h1, h2⟩ := bag_wo (s := s) (o := o) (f := f) b
  unfold mustOut
  rw [h1, h2]
  rfl
theorem one_pull (g : Good s) {k b : Nat} (hy : s.boxes[k]? = some y) (hm : b ∈ y.bags) : without s (fun c => c == b) y.flight = pulled s k y (fun c => c == b) ∧ conts (without s (fun c => c == b) y.flight) = clr (conts s) (y.bags.filter fun c => c == b) := by
  have e0 : without s (fun c => c == b) y.flight = without s (oL s (fun c => c == b) ([] ++ [k])) y.flight := wo_congr fun c hc => by
    rw [oL_snoc hy]
    by_cases e : c = b
    · subst e
      simp [hm]
    · have : (c == b) = false := by simpa using e
      rw [this]
      unfold oL
      simp
  have e1 := wo_snoc (o := fun c => c == b) g hy rfl (L := []) (by simp)
  have e2 := ct_snoc (o := fun c => c == b) (L := []) g hy rfl
  rw [wo_start] at e1 e2
  rw [e0]
  exact ⟨e1, e2⟩
theorem filter_one {l : List Nat} {b : Nat} (nd : l.Nodup) (hm : b ∈ l) : (l.filter fun c => c == b) = [b] := by
  induction l with
  | nil => cases hm
  | cons a r ih =>
    rw [List.nodup_cons] at nd
    rw [List.filter_cons]
    by_cases e : a = b
    · subst e
      rw [if_pos (by simp)]
      have : (r.filter fun c => c == a) = [] := by
        rw [List.filter_eq_nil_iff]
        intro c hc h
        have : c = a := by simpa using h
        exact nd.1 (by rw [← this]; exact hc)
      rw [this]
    · rw [if_neg (by simpa using e)]
      refine ih nd.2 ?_
      rcases List.mem_cons.mp hm with h | h
      · exact absurd h.symm e
      · exact h
end
theorem any_zip (p : Bag → Bool) (l : List Bag) : (l.zipIdx.any fun y => p y.1) = l.any p := by
  have e : l.zipIdx.map Prod.fst = l := by simp
  conv => rhs; rw [← e]
  rw [List.any_map]
  rfl
theorem find_ix {l : List Nat} {b j : Nat} (h : l[j]? = some b) (hn : ∀ m z, m < j → l[m]? = some z → z ≠ b) : (l.findIdx? fun c => c == b) = some j := by
  rw [List.findIdx?_eq_some_iff_getElem]
  have hj := get_lt h
  have e : l[j] = b := (List.getElem?_eq_some_iff.mp h).2
  refine ⟨hj, by simp [e], fun m hm => ?_⟩
  simp only [beq_iff_eq]
  exact hn m _ hm (List.getElem?_eq_getElem (by omega))
end Bg
end
section
set_option Elab.async false
set_option linter.all false
set_option maxHeartbeats 2000000
namespace Bg
open Sy54
noncomputable def arN : Nat → Nat
  | 0 => 0
  | 1 => 3
  | 2 => 1
  | 3 => 2
  | 4 => 2
  | 5 => 1
  | 6 => 1
  | 7 => 1
  | 8 => 1
  | 9 => 1
  | 10 => 1
  | 11 => 1
  | 12 => 1
  | 13 => 1
  | 14 => 1
  | 15 => 2
  | 16 => 1
  | 17 => 1
  | 18 => 0
  | _ => 0
noncomputable def clA : Nat → List Nat → Call
  | 0 => fun ns => .flight
  | 1 => fun ns => .box (Sy54Neutral.g ns 0) (Sy54Neutral.g ns 1) (Sy54Neutral.g ns 2)
  | 2 => fun ns => .person (Sy54Neutral.g ns 0)
  | 3 => fun ns => .bag (Sy54Neutral.g ns 0) (Sy54Neutral.g ns 1)
  | 4 => fun ns => .load (Sy54Neutral.g ns 0) (Sy54Neutral.g ns 1)
  | 5 => fun ns => .aboard (Sy54Neutral.g ns 0)
  | 6 => fun ns => .leaves (Sy54Neutral.g ns 0)
  | 7 => fun ns => .absent (Sy54Neutral.g ns 0)
  | 8 => fun ns => .rush (Sy54Neutral.g ns 0)
  | 9 => fun ns => .out (Sy54Neutral.g ns 0)
  | 10 => fun ns => .moves (Sy54Neutral.g ns 0)
  | 11 => fun ns => .clear (Sy54Neutral.g ns 0)
  | 12 => fun ns => .goes (Sy54Neutral.g ns 0)
  | 13 => fun ns => .hand (Sy54Neutral.g ns 0)
  | 14 => fun ns => .waits (Sy54Neutral.g ns 0)
  | 15 => fun ns => .next (Sy54Neutral.g ns 0) (Sy54Neutral.g ns 1)
  | 16 => fun ns => .where_ (Sy54Neutral.g ns 0)
  | 17 => fun ns => .list (Sy54Neutral.g ns 0)
  | 18 => fun ns => .state
  | _ => fun _ => .state
theorem many_nat : ∀ (l : List Int), (∀ z, z ∈ l → 0 ≤ z ∧ z ≤ 4294967295) → Sy54Neutral.many_ Sy54Neutral.natIn l.length l = some (l.map Int.toNat, [])
  | [], _ => rfl
  | z :: l, h => by
    have h0 := h z (by simp)
    have ih := many_nat l fun y hy => h y (by simp [hy])
    have e : Sy54Neutral.natIn (z :: l) = some (z.toNat, l) := if_pos ⟨h0.1, by omega⟩
    show (Sy54Neutral.natIn (z :: l)).bind _ = _
    rw [e]
    show (Sy54Neutral.many_ Sy54Neutral.natIn l.length l).map _ = _
    rw [ih]
    rfl
theorem all_nat {l : List Int} {k : Nat} (hl : l.length = k) (h : ∀ z, z ∈ l → 0 ≤ z ∧ z ≤ 4294967295) : Sy54Neutral.all_ (Sy54Neutral.some_ k l) = some (l.map Int.toNat) := by
  subst hl
  unfold Sy54Neutral.some_
  rw [many_nat l h]
  rfl
theorem callOf_eq {l : List Int} (h : ∀ z, z ∈ l → 0 ≤ z ∧ z ≤ 4294967295) : ∀ (c : Nat), c < 19 → l.length = arN c → Sy54Neutral.callOf ((c : Int) :: l) = some (clA c (l.map Int.toNat))
  | 0, _, hl => by
    have e := all_nat (k := 0) hl h
    show (Sy54Neutral.all_ (Sy54Neutral.some_ 0 l)).map _ = _
    rw [e]
    rfl
  | 1, _, hl => by
    have e := all_nat (k := 3) hl h
    show (Sy54Neutral.all_ (Sy54Neutral.some_ 3 l)).map _ = _
    rw [e]
    rfl
  | 2, _, hl => by
    have e := all_nat (k := 1) hl h
    show (Sy54Neutral.all_ (Sy54Neutral.some_ 1 l)).map _ = _
    rw [e]
    rfl
  | 3, _, hl => by
    have e := all_nat (k := 2) hl h
    show (Sy54Neutral.all_ (Sy54Neutral.some_ 2 l)).map _ = _
    rw [e]
    rfl
  | 4, _, hl => by
    have e := all_nat (k := 2) hl h
    show (Sy54Neutral.all_ (Sy54Neutral.some_ 2 l)).map _ = _
    rw [e]
    rfl
  | 5, _, hl => by
    have e := all_nat (k := 1) hl h
    show (Sy54Neutral.all_ (Sy54Neutral.some_ 1 l)).map _ = _
    rw [e]
    rfl
  | 6, _, hl => by
    have e := all_nat (k := 1) hl h
    show (Sy54Neutral.all_ (Sy54Neutral.some_ 1 l)).map _ = _
    rw [e]
    rfl
  | 7, _, hl => by
    have e := all_nat (k := 1) hl h
    show (Sy54Neutral.all_ (Sy54Neutral.some_ 1 l)).map _ = _
    rw [e]
    rfl
  | 8, _, hl => by
    have e := all_nat (k := 1) hl h
    show (Sy54Neutral.all_ (Sy54Neutral.some_ 1 l)).map _ = _
    rw [e]
    rfl
  | 9, _, hl => by
    have e := all_nat (k := 1) hl h
    show (Sy54Neutral.all_ (Sy54Neutral.some_ 1 l)).map _ = _
    rw [e]
    rfl
  | 10, _, hl => by
    have e := all_nat (k := 1) hl h
    show (Sy54Neutral.all_ (Sy54Neutral.some_ 1 l)).map _ = _
    rw [e]
    rfl
  | 11, _, hl => by
    have e := all_nat (k := 1) hl h
    show (Sy54Neutral.all_ (Sy54Neutral.some_ 1 l)).map _ = _
    rw [e]
    rfl
  | 12, _, hl => by
    have e := all_nat (k := 1) hl h
    show (Sy54Neutral.all_ (Sy54Neutral.some_ 1 l)).map _ = _
    rw [e]
    rfl
  | 13, _, hl => by
    have e := all_nat (k := 1) hl h
    show (Sy54Neutral.all_ (Sy54Neutral.some_ 1 l)).map _ = _
    rw [e]
    rfl
  | 14, _, hl => by
    have e := all_nat (k := 1) hl h
    show (Sy54Neutral.all_ (Sy54Neutral.some_ 1 l)).map _ = _
    rw [e]
    rfl
  | 15, _, hl => by
    have e := all_nat (k := 2) hl h
    show (Sy54Neutral.all_ (Sy54Neutral.some_ 2 l)).map _ = _
    rw [e]
    rfl
  | 16, _, hl => by
    have e := all_nat (k := 1) hl h
    show (Sy54Neutral.all_ (Sy54Neutral.some_ 1 l)).map _ = _
    rw [e]
    rfl
  | 17, _, hl => by
    have e := all_nat (k := 1) hl h
    show (Sy54Neutral.all_ (Sy54Neutral.some_ 1 l)).map _ = _
    rw [e]
    rfl
  | 18, _, hl => by
    have e := all_nat (k := 0) hl h
    show (Sy54Neutral.all_ (Sy54Neutral.some_ 0 l)).map _ = _
    rw [e]
    rfl
  | c + 19, hc, _ => absurd hc (by omega)
theorem step_eq {s : St} {l : List Int} {c : Nat} (h : ∀ z, z ∈ l → 0 ≤ z ∧ z ≤ 4294967295) (hc : c < 19) (hl : l.length = arN c) :
    Sy54Neutral.step s ((c : Int) :: l) = ((step s (clA c (l.map Int.toNat))).1, Sy54Neutral.out (step s (clA c (l.map Int.toNat))).2) := by
  unfold Sy54Neutral.step
  rw [callOf_eq h c hc hl]
theorem shape_no {p : Int} (h : ¬ (0 ≤ p ∧ p < 19)) : PySy54.shape p = none := by
  unfold PySy54.shape
  have e : ∀ {n : Int} {a b : Option (Nat × Nat)}, 0 ≤ n → n < 19 → b = none → (if p = n then a else b) = none := fun h1 h2 hb => by
    rw [if_neg (fun e => h (by rw [e]; exact ⟨h1, h2⟩))]
    exact hb
  exact e (by decide) (by decide) (e (by decide) (by decide) (e (by decide) (by decide) (e (by decide) (by decide) (e (by decide) (by decide) (e (by decide) (by decide) (e (by decide) (by decide) (e (by decide) (by decide) (e (by decide) (by decide) (e (by decide) (by decide) (e (by decide) (by decide) (e (by decide) (by decide) (e (by decide) (by decide) (e (by decide) (by decide) (e (by decide) (by decide) (e (by decide) (by decide) (e (by decide) (by decide) (e (by decide) (by decide) (e (by decide) (by decide) rfl))))))))))))))))))
theorem shape_at : ∀ c : Nat, c < 19 → PySy54.shape (c : Int) = some (arN c, 0) := by decide +kernel
theorem shape_eq {p : Int} {n k : Nat} (h : PySy54.shape p = some (n, k)) : ∃ c : Nat, c < 19 ∧ p = (c : Int) ∧ n = arN c ∧ k = 0 := by
  by_cases hp : 0 ≤ p ∧ p < 19
  · have hc : p.toNat < 19 := by omega
    have e : p = ((p.toNat : Nat) : Int) := by omega
    rw [e, shape_at _ hc] at h
    cases h
    exact ⟨p.toNat, hc, e, rfl, rfl⟩
  · rw [shape_no hp] at h
    cases h
theorem l0 {l : List Int} (h : l.length = 0) : l = [] := List.eq_nil_of_length_eq_zero h
theorem lS {l : List Int} {n : Nat} (h : l.length = n + 1) : ∃ a r, l = a :: r ∧ r.length = n := by
  cases l with
  | nil => cases h
  | cons a r => exact ⟨a, r, rfl, Nat.succ.inj h⟩
theorem whole_one {xs : List Int} : ∀ c : Nat, c < 19 → xs.length = arN c → PySy54.whole [(c : Int) :: xs] = [(c : Int) :: xs]
  | 0, _, hl => by
    cases l0 hl
    rfl
  | 1, _, hl => by
    obtain ⟨a0, r0, rfl, h0⟩ := lS hl
    obtain ⟨a1, r1, rfl, h1⟩ := lS h0
    obtain ⟨a2, r2, rfl, h2⟩ := lS h1
    cases l0 h2
    rfl
  | 2, _, hl => by
    obtain ⟨a0, r0, rfl, h0⟩ := lS hl
    cases l0 h0
    rfl
  | 3, _, hl => by
    obtain ⟨a0, r0, rfl, h0⟩ := lS hl
    obtain ⟨a1, r1, rfl, h1⟩ := lS h0
    cases l0 h1
    rfl
  | 4, _, hl => by
    obtain ⟨a0, r0, rfl, h0⟩ := lS hl
    obtain ⟨a1, r1, rfl, h1⟩ := lS h0
    cases l0 h1
    rfl
  | 5, _, hl => by
    obtain ⟨a0, r0, rfl, h0⟩ := lS hl
    cases l0 h0
    rfl
  | 6, _, hl => by
    obtain ⟨a0, r0, rfl, h0⟩ := lS hl
    cases l0 h0
    rfl
  | 7, _, hl => by
    obtain ⟨a0, r0, rfl, h0⟩ := lS hl
    cases l0 h0
    rfl
  | 8, _, hl => by
    obtain ⟨a0, r0, rfl, h0⟩ := lS hl
    cases l0 h0
    rfl
  | 9, _, hl => by
    obtain ⟨a0, r0, rfl, h0⟩ := lS hl
    cases l0 h0
    rfl
  | 10, _, hl => by
    obtain ⟨a0, r0, rfl, h0⟩ := lS hl
    cases l0 h0
    rfl
  | 11, _, hl => by
    obtain ⟨a0, r0, rfl, h0⟩ := lS hl
    cases l0 h0
    rfl
  | 12, _, hl => by
    obtain ⟨a0, r0, rfl, h0⟩ := lS hl
    cases l0 h0
    rfl
  | 13, _, hl => by
    obtain ⟨a0, r0, rfl, h0⟩ := lS hl
    cases l0 h0
    rfl
  | 14, _, hl => by
    obtain ⟨a0, r0, rfl, h0⟩ := lS hl
    cases l0 h0
    rfl
  | 15, _, hl => by
    obtain ⟨a0, r0, rfl, h0⟩ := lS hl
    obtain ⟨a1, r1, rfl, h1⟩ := lS h0
    cases l0 h1
    rfl
  | 16, _, hl => by
    obtain ⟨a0, r0, rfl, h0⟩ := lS hl
    cases l0 h0
    rfl
  | 17, _, hl => by
    obtain ⟨a0, r0, rfl, h0⟩ := lS hl
    cases l0 h0
    rfl
  | 18, _, hl => by
    cases l0 hl
    rfl
  | c + 19, hc, _ => absurd hc (by omega)
noncomputable abbrev stepN : St → List (List Int) → St × List Int := fun s c => Sy54Neutral.step s (c.headD [])
noncomputable def Runs (s : St) (l out : List Int) : Prop := ∃ fuel cs, PyFlat.calls PySy54.shape fuel l = some cs ∧ out = PyFlat.told (PyFlat.played stepN s (cs.map PySy54.whole))
theorem runs_nil {s : St} {out : List Int} (h : Runs s [] out) : out = [] := by
  obtain ⟨fuel, cs, h1, h2⟩ := h
  have e : PyFlat.calls PySy54.shape fuel [] = some [] := by cases fuel <;> rfl
  rw [e] at h1
  cases h1
  exact h2
theorem runs_cons {s : St} {p : Int} {r out : List Int} (h : Runs s (p :: r) out) (hb : ∀ z, z ∈ r → 0 ≤ z ∧ z ≤ 4294967295) :
    ∃ (c : Nat) (out' : List Int), c < 19 ∧ p = (c : Int) ∧ arN c ≤ r.length ∧
      out = (((Sy54Neutral.out (step s (clA c ((r.take (arN c)).map Int.toNat))).2).length : Int) :: Sy54Neutral.out (step s (clA c ((r.take (arN c)).map Int.toNat))).2) ++ out' ∧
      Runs (step s (clA c ((r.take (arN c)).map Int.toNat))).1 (r.drop (arN c)) out' := by
  obtain ⟨fuel, cs, h1, h2⟩ := h
  cases fuel with
  | zero => cases h1
  | succ fuel =>
    have h1 : (match PyFlat.call PySy54.shape (p :: r) with
      | none => none
      | some (c, t) => match PyFlat.calls PySy54.shape fuel t with
        | none => none
        | some cs => some (c :: cs)) = some cs := h1
    cases e1 : PyFlat.call PySy54.shape (p :: r) with
    | none => rw [e1] at h1; cases h1
    | some ct =>
      obtain ⟨c0, t⟩ := ct
      rw [e1] at h1
      simp only at h1
      cases e2 : PyFlat.calls PySy54.shape fuel t with
      | none => rw [e2] at h1; cases h1
      | some cs' =>
        rw [e2] at h1
        have h1 : some (c0 :: cs') = some cs := h1
        cases h1
        have e1 : (match PySy54.shape p with
          | none => none
          | some (n, k) => if r.length < n then none else match PyFlat.rows k (r.drop n) with
            | none => none
            | some (xs, t) => some ((p :: r.take n) :: xs, t)) = some (c0, t) := e1
        cases e3 : PySy54.shape p with
        | none => rw [e3] at e1; cases e1
        | some nk =>
          obtain ⟨n, k⟩ := nk
          obtain ⟨c, hc, rfl, rfl, rfl⟩ := shape_eq e3
          rw [e3] at e1
          simp only at e1
          by_cases hlt : r.length < arN c
          · rw [if_pos hlt] at e1
            cases e1
          · rw [if_neg hlt] at e1
            have e1 : some ([(c : Int) :: r.take (arN c)], r.drop (arN c)) = some (c0, t) := e1
            cases e1
            have hl : (r.take (arN c)).length = arN c := by rw [List.length_take]; omega
            have es := step_eq (s := s) (fun z hz => hb z (List.mem_of_mem_take hz)) hc hl
            refine ⟨c, _, hc, rfl, by omega, ?_, fuel, cs', e2, rfl⟩
            rw [h2]
            rw [List.map_cons, whole_one c hc hl]
            show PyFlat.told ((stepN s [(c : Int) :: r.take (arN c)]).2 :: PyFlat.played stepN (stepN s [(c : Int) :: r.take (arN c)]).1 (cs'.map PySy54.whole)) = _
            have e4 : stepN s [(c : Int) :: r.take (arN c)] = Sy54Neutral.step s ((c : Int) :: r.take (arN c)) := rfl
            rw [e4, es]
            rfl
theorem runs_start {l : List Int} (h : PySy54.answers_asked l = true) : Runs init l (PySy54.answers l) := by
  unfold PySy54.answers_asked at h
  cases e : PyFlat.calls PySy54.shape l.length l with
  | none => rw [e] at h; cases h
  | some cs =>
    refine ⟨l.length, cs, e, ?_⟩
    unfold PySy54.answers PySy54.calls
    rw [e]
    rfl
theorem asked_len {l : List Int} (h : PySy54.answers_asked l = true) : (PySy54.answers l).length ≤ 10000000 := by
  unfold PySy54.answers_asked at h
  cases e : PyFlat.calls PySy54.shape l.length l with
  | none => rw [e] at h; cases h
  | some cs =>
    rw [e] at h
    simp only [Bool.and_eq_true, PyFlat.short, decide_eq_true_eq] at h
    exact h.2
end Bg
end
section
set_option Elab.async false
set_option linter.all false
set_option maxRecDepth 100000
set_option maxHeartbeats 2000000
namespace Bg
open PySem PySem.Spec PyProof.Rows L2
noncomputable abbrev Fr (K : PySem.W.Frag) (f : Str) (x : V) (H : Hp) (Q : V → Prop) : Prop := ∃ a C dx fs v, x = .ref a ∧ H a = some (.ins C dx fs) ∧ Cls K C ∧ NoAttr K C f ∧ fs.lookup f = some v ∧ Q v
noncomputable abbrev Ir (K : PySem.W.Frag) (x y : V) (H : Hp) (Q : V → Prop) : Prop := ∃ p xs i v, x = .ref p ∧ y = .int i ∧ SqL K H p xs ∧ atI xs i = some v ∧ Q v
section
variable {K : PySem.W.Frag} {mg : Str → Option Value} {d : Ad} {x : Fx} {H : Hp} {A : Lay} {s : Sy54.St} {c : List (Option Nat)} {Q : V → Prop} {b : Addr} {i : Nat}
theorem fld {f : Str} {C dx p : Addr} {fs : List (Str × V)} {v : V} (h : H p = some (.ins C dx fs)) (cl : Cls K C) (n : NoAttr K C f) (l : fs.lookup f = some v) (q : Q v) : Fr K f (.ref p) H Q := ⟨p, C, dx, fs, v, rfl, h, cl, n, l, q⟩
theorem r_flights (T : Txt K mg d x) (a : Air d H A s c) (q : Q (.ref A.lF)) : Fr K "flights" (.ref A.p) H Q := let ⟨_, e⟩ := a.port; fld e T.cl_Airport T.n_Airport_flights lk_hd q
theorem r_containers (T : Txt K mg d x) (a : Air d H A s c) (q : Q (.ref A.lK)) : Fr K "containers" (.ref A.p) H Q := let ⟨_, e⟩ := a.port; fld e T.cl_Airport T.n_Airport_containers (by unfold fA; rw [lk_tl (by decide +kernel), lk_hd]) q
theorem r_passengers (T : Txt K mg d x) (a : Air d H A s c) (q : Q (.ref A.lP)) : Fr K "passengers" (.ref A.p) H Q := let ⟨_, e⟩ := a.port; fld e T.cl_Airport T.n_Airport_passengers (by unfold fA; rw [lk_tl (by decide +kernel), lk_tl (by decide +kernel), lk_hd]) q
theorem r_bags (T : Txt K mg d x) (a : Air d H A s c) (q : Q (.ref A.lB)) : Fr K "bags" (.ref A.p) H Q := let ⟨_, e⟩ := a.port; fld e T.cl_Airport T.n_Airport_bags (by unfold fA; rw [lk_tl (by decide +kernel), lk_tl (by decide +kernel), lk_tl (by decide +kernel), lk_hd]) q
theorem lk_moves {a b c e : Addr} {m : Nat} : (fA a b c e m).lookup ("moves_made" : Str) = some (iv m) := by unfold fA; rw [lk_tl (by decide +kernel), lk_tl (by decide +kernel), lk_tl (by decide +kernel), lk_tl (by decide +kernel), lk_hd]
theorem put_moves {a b c e : Addr} {m n : Nat} : putF "moves_made" (iv n) (fA a b c e m) = fA a b c e n := by unfold fA; rw [put_tl (by decide +kernel), put_tl (by decide +kernel), put_tl (by decide +kernel), put_tl (by decide +kernel), put_hd]
theorem r_moves (T : Txt K mg d x) (a : Air d H A s c) (q : Q (iv s.moves)) : Fr K "moves_made" (.ref A.p) H Q := let ⟨_, e⟩ := a.port; fld e T.cl_Airport T.n_Airport_moves_made lk_moves q
theorem r_gone (T : Txt K mg d x) (a : Air d H A s c) {g : Bool} (hb : A.fs[i]? = some b) (hg : s.gone[i]? = some g) (q : Q (.bl g)) : Fr K "gone" (.ref b) H Q := let ⟨_, e⟩ := a.F.at_ i b g hb hg; fld e T.cl_Flight T.n_Flight_gone lk_hd q
theorem r_kflight (T : Txt K mg d x) (a : Air d H A s c) {y : Sy54.Box} (hb : A.ks[i]? = some b) (hg : s.boxes[i]? = some y) (q : Q (iv y.flight)) : Fr K "flight" (.ref b) H Q := let ⟨_, e⟩ := a.K.at_ i b y hb hg; fld e T.cl_Container T.n_Container_flight lk_hd q
theorem r_room (T : Txt K mg d x) (a : Air d H A s c) {y : Sy54.Box} (hb : A.ks[i]? = some b) (hg : s.boxes[i]? = some y) (q : Q (iv y.holds)) : Fr K "room" (.ref b) H Q := let ⟨_, e⟩ := a.K.at_ i b y hb hg; fld e T.cl_Container T.n_Container_room (by unfold fBox fK; rw [lk_tl (by decide +kernel), lk_hd]) q
theorem r_limit (T : Txt K mg d x) (a : Air d H A s c) {y : Sy54.Box} (hb : A.ks[i]? = some b) (hg : s.boxes[i]? = some y) (q : Q (iv y.bears)) : Fr K "limit" (.ref b) H Q := let ⟨_, e⟩ := a.K.at_ i b y hb hg; fld e T.cl_Container T.n_Container_limit (by unfold fBox fK; rw [lk_tl (by decide +kernel), lk_tl (by decide +kernel), lk_hd]) q
theorem r_pile (T : Txt K mg d x) (a : Air d H A s c) {y : Sy54.Box} {l : Addr} (hb : A.ks[i]? = some b) (hg : s.boxes[i]? = some y) (hl : A.piles[i]? = some l) (q : Q (.ref l)) : Fr K "pile" (.ref b) H Q := by
  obtain ⟨_, e⟩ := a.K.at_ i b y hb hg
  have el : A.piles.getD i 0 = l := getD_some 0 hl
  exact fld e T.cl_Container T.n_Container_pile (by unfold fBox fK; rw [el, lk_tl (by decide +kernel), lk_tl (by decide +kernel), lk_tl (by decide +kernel), lk_hd]) q
theorem r_pflight (T : Txt K mg d x) (a : Air d H A s c) {y : Sy54.Person} (hb : A.ps[i]? = some b) (hg : s.people[i]? = some y) (q : Q (iv y.flight)) : Fr K "flight" (.ref b) H Q := let ⟨_, e⟩ := a.P.at_ i b y hb hg; fld e T.cl_Passenger T.n_Passenger_flight lk_hd q
theorem r_standing (T : Txt K mg d x) (a : Air d H A s c) {y : Sy54.Person} (hb : A.ps[i]? = some b) (hg : s.people[i]? = some y) (q : Q (iv y.how)) : Fr K "standing" (.ref b) H Q := let ⟨_, e⟩ := a.P.at_ i b y hb hg; fld e T.cl_Passenger T.n_Passenger_standing (by unfold fP; rw [lk_tl (by decide +kernel), lk_hd]) q
theorem r_owner (T : Txt K mg d x) (a : Air d H A s c) {y : Sy54.Bag} (hb : A.bs[i]? = some b) (hg : s.bags[i]? = some y) (q : Q (iv y.owner)) : Fr K "owner" (.ref b) H Q := let ⟨_, e⟩ := a.B.at_ i b y hb hg; fld e T.cl_Bag T.n_Bag_owner lk_hd q
theorem r_weight (T : Txt K mg d x) (a : Air d H A s c) {y : Sy54.Bag} (hb : A.bs[i]? = some b) (hg : s.bags[i]? = some y) (q : Q (iv y.weight)) : Fr K "weight" (.ref b) H Q := let ⟨_, e⟩ := a.B.at_ i b y hb hg; fld e T.cl_Bag T.n_Bag_weight (by unfold fBag fB; rw [lk_tl (by decide +kernel), lk_hd]) q
theorem r_place (T : Txt K mg d x) (a : Air d H A s c) {y : Sy54.Bag} (hb : A.bs[i]? = some b) (hg : s.bags[i]? = some y) (q : Q (iv y.place)) : Fr K "place" (.ref b) H Q := let ⟨_, e⟩ := a.B.at_ i b y hb hg; fld e T.cl_Bag T.n_Bag_place (by unfold fBag fB; rw [lk_tl (by decide +kernel), lk_tl (by decide +kernel), lk_hd]) q
theorem r_container (T : Txt K mg d x) (a : Air d H A s c) {y : Sy54.Bag} (hb : A.bs[i]? = some b) (hg : s.bags[i]? = some y) {o : Option Nat} (hc : c[i]? = some o) (q : Q (cv o)) : Fr K "container" (.ref b) H Q := by
  obtain ⟨_, e⟩ := a.B.at_ i b y hb hg
  exact fld e T.cl_Bag T.n_Bag_container (by unfold fBag fB; rw [getD_some none hc, lk_tl (by decide +kernel), lk_tl (by decide +kernel), lk_tl (by decide +kernel), lk_hd]) q
theorem r_follows (T : Txt K mg d x) (a : Air d H A s c) {y : Sy54.Bag} (hb : A.bs[i]? = some b) (hg : s.bags[i]? = some y) (q : Q (.bl y.rush)) : Fr K "follows" (.ref b) H Q := let ⟨_, e⟩ := a.B.at_ i b y hb hg; fld e T.cl_Bag T.n_Bag_follows (by unfold fBag fB; rw [lk_tl (by decide +kernel), lk_tl (by decide +kernel), lk_tl (by decide +kernel), lk_tl (by decide +kernel), lk_hd]) q
theorem ix_ref {l : Addr} {as : List Addr} (h : H l = some (.lst (as.map V.ref))) (hb : as[i]? = some b) (q : Q (.ref b)) : Ir K (.ref l) (iv i) H Q :=
  ⟨l, _, _, _, rfl, rfl, SqL.of h, at_of (j := i) rfl (by rw [List.getElem?_map, hb]; rfl), q⟩
theorem ix_int {l : Addr} {ns : List Nat} {n : Nat} (h : H l = some (.lst (ivs ns))) (hb : ns[i]? = some n) (q : Q (iv n)) : Ir K (.ref l) (.int (i : Int)) H Q :=
  ⟨l, _, _, _, rfl, rfl, SqL.of h, at_of (j := i) rfl (ivs_get hb), q⟩
theorem Air.flightAt (a : Air d H A s c) (h : i < s.gone.length) : ∃ b g, A.fs[i]? = some b ∧ s.gone[i]? = some g := ⟨A.fs[i]'(by rw [a.F.len]; exact h), s.gone[i], List.getElem?_eq_getElem _, List.getElem?_eq_getElem _⟩
theorem Air.boxAt (a : Air d H A s c) (h : i < s.boxes.length) : ∃ b y l, A.ks[i]? = some b ∧ s.boxes[i]? = some y ∧ A.piles[i]? = some l := ⟨A.ks[i]'(by rw [a.K.len]; exact h), s.boxes[i], A.piles[i]'(by rw [a.L.len]; exact h), List.getElem?_eq_getElem _, List.getElem?_eq_getElem _, List.getElem?_eq_getElem _⟩
theorem Air.personAt (a : Air d H A s c) (h : i < s.people.length) : ∃ b y, A.ps[i]? = some b ∧ s.people[i]? = some y := ⟨A.ps[i]'(by rw [a.P.len]; exact h), s.people[i], List.getElem?_eq_getElem _, List.getElem?_eq_getElem _⟩
theorem Air.bagAt (a : Air d H A s c) (h : i < s.bags.length) : ∃ b y, A.bs[i]? = some b ∧ s.bags[i]? = some y := ⟨A.bs[i]'(by rw [a.B.len]; exact h), s.bags[i], List.getElem?_eq_getElem _, List.getElem?_eq_getElem _⟩
theorem Air.own_some (a : Air d H A s c) (h : A.own b) : ∃ o, H b = some o := by
  rcases h with rfl | h | h | h | h | h
  · obtain ⟨_, e⟩ := a.port
    exact ⟨_, e⟩
  · unfold Lay.lists at h
    simp only [List.mem_cons] at h
    rcases h with rfl | rfl | rfl | rfl | h
    · exact ⟨_, a.L.hF⟩
    · exact ⟨_, a.L.hK⟩
    · exact ⟨_, a.L.hP⟩
    · exact ⟨_, a.L.hB⟩
    · obtain ⟨i, hi⟩ := List.getElem?_of_mem h
      have hl : i < s.boxes.length := by rw [← a.L.len]; exact get_lt hi
      exact ⟨_, a.L.at_ i b _ hi (List.getElem?_eq_getElem hl)⟩
  · obtain ⟨i, hi⟩ := List.getElem?_of_mem h
    have hl : i < s.gone.length := by rw [← a.F.len]; exact get_lt hi
    obtain ⟨_, e⟩ := a.F.at_ i b _ hi (List.getElem?_eq_getElem hl)
    exact ⟨_, e⟩
  · obtain ⟨i, hi⟩ := List.getElem?_of_mem h
    have hl : i < s.boxes.length := by rw [← a.K.len]; exact get_lt hi
    obtain ⟨_, e⟩ := a.K.at_ i b _ hi (List.getElem?_eq_getElem hl)
    exact ⟨_, e⟩
  · obtain ⟨i, hi⟩ := List.getElem?_of_mem h
    have hl : i < s.people.length := by rw [← a.P.len]; exact get_lt hi
    obtain ⟨_, e⟩ := a.P.at_ i b _ hi (List.getElem?_eq_getElem hl)
    exact ⟨_, e⟩
  · obtain ⟨i, hi⟩ := List.getElem?_of_mem h
    have hl : i < s.bags.length := by rw [← a.B.len]; exact get_lt hi
    obtain ⟨_, e⟩ := a.B.at_ i b _ hi (List.getElem?_eq_getElem hl)
    exact ⟨_, e⟩
end
theorem own_p (A : Lay) : A.own A.p := .inl rfl
theorem own_lF (A : Lay) : A.own A.lF := .inr (.inl (by simp [Lay.lists]))
theorem own_lK (A : Lay) : A.own A.lK := .inr (.inl (by simp [Lay.lists]))
theorem own_lP (A : Lay) : A.own A.lP := .inr (.inl (by simp [Lay.lists]))
theorem own_lB (A : Lay) : A.own A.lB := .inr (.inl (by simp [Lay.lists]))
theorem own_pile {A : Lay} {i : Nat} {l : Addr} (h : A.piles[i]? = some l) : A.own l := .inr (.inl (by have := List.mem_of_getElem? h; simp [Lay.lists, this]))
theorem own_f {A : Lay} {i : Nat} {b : Addr} (h : A.fs[i]? = some b) : A.own b := .inr (.inr (.inl (List.mem_of_getElem? h)))
theorem own_k {A : Lay} {i : Nat} {b : Addr} (h : A.ks[i]? = some b) : A.own b := .inr (.inr (.inr (.inl (List.mem_of_getElem? h))))
theorem own_ps {A : Lay} {i : Nat} {b : Addr} (h : A.ps[i]? = some b) : A.own b := .inr (.inr (.inr (.inr (.inl (List.mem_of_getElem? h)))))
theorem own_b {A : Lay} {i : Nat} {b : Addr} (h : A.bs[i]? = some b) : A.own b := .inr (.inr (.inr (.inr (.inr (List.mem_of_getElem? h)))))
structure AirG (d : Ad) (H : Hp) (A : Lay) (s : Sy54.St) : Prop where
  a : Air d H A s (conts s)
  g : Good s
theorem AirG.same {d : Ad} {H H' : Hp} {A : Lay} {s : Sy54.St} (a : AirG d H A s) (k : Same H H') : AirG d H' A s := ⟨a.a.same k, a.g⟩
structure Grow (A : Lay) (H : Hp) (A' : Lay) (H' : Hp) : Prop where
  p : A'.p = A.p
  sub : ∀ b, A.own b → A'.own b ∨ ∃ o, H' b = some o
  new : ∀ b, A'.own b → A.own b ∨ H b = none
  keep : Keep A H H'
theorem Grow.still {A : Lay} {H H' : Hp} (k : Keep A H H') : Grow A H A H' := ⟨rfl, fun _ h => .inl h, fun _ h => .inl h, k⟩
theorem Grow.trans {A A1 A2 : Lay} {H H1 H2 : Hp} (a : Grow A H A1 H1) (b : Grow A1 H1 A2 H2) : Grow A H A2 H2 := by
  refine ⟨b.p.trans a.p, fun c h => ?_, fun c h => ?_, fun c o e n => ?_⟩
  · rcases a.sub c h with h1 | ⟨o, h1⟩
    · exact b.sub c h1
    · by_cases q : A1.own c
      · exact b.sub c q
      · exact .inr ⟨o, b.keep c o h1 q⟩
  · rcases b.new c h with h1 | h1
    · exact a.new c h1
    · by_cases q : A.own c
      · exact .inl q
      · cases e : H c with
        | none => exact .inr rfl
        | some o =>
          have := a.keep c o e q
          rw [h1] at this
          cases this
  · refine b.keep c o (a.keep c o e n) fun q => ?_
    rcases a.new c q with h1 | h1
    · exact n h1
    · rw [e] at h1
      cases h1
noncomputable def Post (d : Ad) (A : Lay) (H : Hp) (s' : Sy54.St) (ans : List Int) (Q : VK) : Prop :=
  ∀ (H' : Hp) (A' : Lay) (p : Addr), AirG d H' A' s' → Grow A H A' H' → H p = none → ¬ A'.own p → H' p = some (.lst (ans.map V.int)) → Q (.ref p) H'
theorem finish {d : Ad} {A A' : Lay} {H H1 : Hp} {s' : Sy54.St} {ans : List Int} {Q : VK} (k : Post d A H s' ans Q) (g : AirG d H1 A' s') (w : Grow A H A' H1) {p : Addr} (hp : H1 p = none) {vs : List V} (hv : vs = ans.map V.int) : Q (.ref p) (upd H1 p (.lst vs)) := by
  subst hv
  have hn : H p = none := by
    cases e : H p with
    | none => rfl
    | some o =>
      by_cases ho : A.own p
      · rcases w.sub p ho with h1 | ⟨u, hu⟩
        · obtain ⟨u, hu⟩ := g.a.own_some h1
          rw [hp] at hu
          cases hu
        · rw [hp] at hu
          cases hu
      · have := w.keep p o e ho
        rw [hp] at this
        cases this
  have no : ¬ A'.own p := fun ho => by
    obtain ⟨u, hu⟩ := g.a.own_some ho
    rw [hp] at hu
    cases hu
  refine k _ A' p (g.same fun b o e => ?_) ⟨w.p, fun b h => (w.sub b h).elim .inl fun ⟨o, e⟩ => .inr ⟨o, by rw [upd_ne (ne_of_none e hp)]; exact e⟩, w.new, fun b o e n => ?_⟩ hn no upd_same
  · rw [upd_ne (ne_of_none e hp)]
    exact e
  · have q := w.keep b o e n
    rw [upd_ne (ne_of_none q hp)]
    exact q
noncomputable def PostR (d : Ad) (A : Lay) (H : Hp) (r : Sy54.St × Sy54.Ans) (Q : VK) : Prop := Post d A H r.1 (Sy54Neutral.out r.2) Q
noncomputable def spAct (d : Ad) (cl : List Nat → Sy54.Call) (ok : Sy54.St → List Nat → Prop) : Sp := fun vs H Q _ => ∃ (A : Lay) (s : Sy54.St) (t : Addr) (ns : List Nat), vs = [.ref A.p, .ref t] ∧ AirG d H A s ∧ H t = some (.lst (ivs ns)) ∧ ¬ A.own t ∧ ok s ns ∧
  PostR d A H (Sy54.step s (cl ns)) Q
end Bg
end
section
set_option Elab.async false
set_option linter.all false
set_option maxRecDepth 100000
set_option maxHeartbeats 2000000
namespace Bg
open PySem PySem.Spec PyProof.Rows L2
theorem KeepK.trans {n : Nat} {H H1 H2 : Hp} (a : KeepK n H H1) (b : KeepK n H1 H2) : KeepK n H H2 := fun c o e k => b c o (a c o e k) k
theorem KeepK.refl (n : Nat) (H : Hp) : KeepK n H H := fun _ _ e _ => e
theorem nd_put : ∀ {l : List Addr} {k : Nat} {a : Addr}, l.Nodup → ¬ a ∈ l → (l.set k a).Nodup
  | [], k, a, _, _ => by simp
  | b :: r, 0, a, nd, h => by
    rw [List.nodup_cons] at nd
    simp only [List.mem_cons, not_or] at h
    show (a :: r).Nodup
    rw [List.nodup_cons]
    exact ⟨h.2, nd.2⟩
  | b :: r, k + 1, a, nd, h => by
    rw [List.nodup_cons] at nd
    simp only [List.mem_cons, not_or] at h
    show (b :: r.set k a).Nodup
    rw [List.nodup_cons]
    refine ⟨fun hm => ?_, nd_put nd.2 h.2⟩
    rcases List.mem_or_eq_of_mem_set hm with q | q
    · exact nd.1 q
    · exact h.1 q.symm
noncomputable abbrev Lay.pull (A : Lay) (k : Nat) (D : Addr) : Lay := { A with piles := A.piles.set k D }
noncomputable def Sized (s : Sy54.St) : Prop := s.boxes.length ≤ 12 ∧ ∀ (i : Nat) (y : Sy54.Box), s.boxes[i]? = some y → y.bags.length ≤ 20
theorem Good.sized {s : Sy54.St} (g : Good s) : Sized s := ⟨g.nK, fun i y h => by have := g.kl i y h; omega⟩
section
variable {d : Ad} {H H1 : Hp} {A : Lay} {s : Sy54.St} {c : List (Option Nat)}
theorem Air.list_some (a : Air d H A s c) {b : Addr} (h : b ∈ A.lists) : ∃ xs, H b = some (.lst xs) := by
  unfold Lay.lists at h
  simp only [List.mem_cons] at h
  rcases h with rfl | rfl | rfl | rfl | h
  · exact ⟨_, a.L.hF⟩
  · exact ⟨_, a.L.hK⟩
  · exact ⟨_, a.L.hP⟩
  · exact ⟨_, a.L.hB⟩
  · obtain ⟨i, hi⟩ := List.getElem?_of_mem h
    have hl : i < s.boxes.length := by rw [← a.L.len]; exact get_lt hi
    exact ⟨_, a.L.at_ i b _ hi (List.getElem?_eq_getElem hl)⟩
theorem Air.newPile (a : Air d H A s c) {k : Nat} {kb dx D : Addr} {y : Sy54.Box} {bs : List Nat} (hk : A.ks[k]? = some kb) (hy : s.boxes[k]? = some y) (sm : Same H H1) (hn : H D = none) (h1 : H1 D = some (.lst (ivs bs))) :
    Air d (upd H1 kb (.ins d.CK dx (fK y.flight y.holds y.bears D))) (A.pull k D) { s with boxes := s.boxes.set k { y with bags := bs } } c := by
  have a1 := a.same sm
  obtain ⟨d2, e⟩ := a1.K.at_ k kb y hk hy
  have kk : ∀ n, n ≠ 3 → KeepK n H1 (upd H1 kb (.ins d.CK dx (fK y.flight y.holds y.bears D))) := fun n hn => .upd e (by rw [show kd (HO.ins d.CK d2 (fBox A.piles k y)) = 3 from kd_K ..]; exact hn.symm)
  obtain ⟨dp, hp⟩ := a1.port
  have hky := get_lt hy
  have hkp : k < A.piles.length := by rw [a.L.len]; exact hky
  have m0 : ∀ b, b ∈ A.lists → b ≠ D := fun b hb => by
    obtain ⟨xs, e⟩ := a.list_some hb
    exact ne_of_none e hn
  refine ⟨⟨dp, kk 6 (by decide) _ _ hp (kd_A ..)⟩, ?_, a1.F.keep (fun _ _ _ => kd_F ..) (kk 2 (by decide)), ?_, a1.P.keep (fun _ _ _ => kd_P ..) (kk 4 (by decide)), a1.B.keep (fun _ _ _ => kd_B ..) (kk 5 (by decide)), a.nc⟩
  · refine ⟨kk 1 (by decide) _ _ a1.L.hF rfl, kk 1 (by decide) _ _ a1.L.hK rfl, kk 1 (by decide) _ _ a1.L.hP rfl, kk 1 (by decide) _ _ a1.L.hB rfl, ?_, ?_, fun i l x h2 h3 => ?_⟩
    · show (A.piles.set k D).length = (s.boxes.set k _).length
      rw [List.length_set, List.length_set]
      exact a.L.len
    · have nd := a.L.nd
      have q : ∀ b, b ∈ A.lists → b ≠ D := m0
      unfold Lay.lists at nd q
      show (A.lF :: A.lK :: A.lP :: A.lB :: A.piles.set k D).Nodup
      simp only [List.nodup_cons, List.mem_cons, not_or] at nd ⊢
      obtain ⟨⟨a1, a2, a3, a4⟩, ⟨b1, b2, b3⟩, ⟨c1, c2⟩, d1, e1⟩ := nd
      have z : ∀ b, b ≠ D → ¬ b ∈ A.piles → ¬ b ∈ A.piles.set k D := fun b h1 h2 hm => (List.mem_or_eq_of_mem_set hm).elim h2 h1
      exact ⟨⟨a1, a2, a3, z _ (q _ (by simp)) a4⟩, ⟨b1, b2, z _ (q _ (by simp)) b3⟩, ⟨c1, z _ (q _ (by simp)) c2⟩, z _ (q _ (by simp)) d1, nd_put e1 fun hm => q D (by simp [hm]) rfl⟩
    · have h2 : (A.piles.set k D)[i]? = some l := h2
      have h3 : (s.boxes.set k { y with bags := bs })[i]? = some x := h3
      by_cases hi : i = k
      · subst hi
        rw [List.getElem?_set_self hkp] at h2
        rw [List.getElem?_set_self hky] at h3
        cases h2
        cases h3
        exact kk 1 (by decide) _ _ h1 rfl
      · rw [List.getElem?_set_ne (fun q => hi q.symm)] at h2 h3
        exact kk 1 (by decide) _ _ (a1.L.at_ i l x h2 h3) rfl
  · have o := a1.K
    refine ⟨by rw [List.length_set]; exact o.len, o.nd, fun j q z h2 h3 => ?_⟩
    have h3 : (s.boxes.set k { y with bags := bs })[j]? = some z := h3
    have h2 : A.ks[j]? = some q := h2
    by_cases hj : j = k
    · subst hj
      rw [hk] at h2
      cases h2
      rw [List.getElem?_set_self hky] at h3
      cases h3
      refine ⟨dx, ?_⟩
      rw [upd_same]
      show _ = some (HO.ins d.CK dx (fBox (A.piles.set j D) j { y with bags := bs }))
      unfold fBox
      rw [List.getD_eq_getElem?_getD, List.getElem?_set_self hkp]
      rfl
    · rw [List.getElem?_set_ne (fun q => hj q.symm)] at h3
      obtain ⟨d3, e3⟩ := o.at_ j q z h2 h3
      have nb : q ≠ kb := fun q => hj (nd_ix o.nd h2 (by rw [q]; exact hk))
      refine ⟨d3, ?_⟩
      rw [upd_ne nb, e3]
      show _ = some (HO.ins d.CK d3 (fBox (A.piles.set k D) j z))
      unfold fBox
      rw [List.getD_eq_getElem?_getD, List.getD_eq_getElem?_getD, List.getElem?_set_ne (fun q => hj q.symm)]
theorem Grow.pull (a : Air d H A s c) {k : Nat} {D : Addr} (hn : H D = none) (k1 : KeepK 1 H H1) (kp : Keep A H H1) : Grow A H (A.pull k D) H1 := by
  refine ⟨rfl, fun b h => ?_, fun b h => ?_, kp⟩
  · rcases h with h | h | h | h | h | h
    · exact .inl (.inl h)
    · obtain ⟨xs, e⟩ := a.list_some h
      exact .inr ⟨_, k1 _ _ e rfl⟩
    · exact .inl (.inr (.inr (.inl h)))
    · exact .inl (.inr (.inr (.inr (.inl h))))
    · exact .inl (.inr (.inr (.inr (.inr (.inl h)))))
    · exact .inl (.inr (.inr (.inr (.inr (.inr h)))))
  · rcases h with h | h | h | h | h | h
    · exact .inl (.inl h)
    · have h : b ∈ A.lF :: A.lK :: A.lP :: A.lB :: A.piles.set k D := h
      simp only [List.mem_cons] at h
      rcases h with h | h | h | h | h
      · exact .inl (by rw [h]; exact own_lF A)
      · exact .inl (by rw [h]; exact own_lK A)
      · exact .inl (by rw [h]; exact own_lP A)
      · exact .inl (by rw [h]; exact own_lB A)
      · rcases List.mem_or_eq_of_mem_set h with q | q
        · exact .inl (.inr (.inl (by unfold Lay.lists; simp [q])))
        · rw [q]
          exact .inr hn
    · exact .inl (.inr (.inr (.inl h)))
    · exact .inl (.inr (.inr (.inr (.inl h))))
    · exact .inl (.inr (.inr (.inr (.inr (.inl h)))))
    · exact .inl (.inr (.inr (.inr (.inr (.inr h)))))
end
end Bg
end
section
set_option Elab.async false
set_option linter.all false
set_option maxRecDepth 100000
set_option maxHeartbeats 2000000
namespace Bg
open PySem PySem.Spec PyProof.Rows L2
theorem upd_none {H : Hp} {a b : Addr} {o : HO} (h : upd H a o b = none) : b ≠ a ∧ H b = none := by
  by_cases e : b = a
  · rw [e, upd_same] at h
    cases h
  · rw [upd_ne e] at h
    exact ⟨e, h⟩
theorem small {n : Nat} (h : n ≤ 1000) : n ≤ sizeLine := Nat.le_of_lt (small1000 h)
section
variable {P : Program} {w : World} {K : PySem.W.Frag} {mg : Str → Option Value} {base : Heap} {d : Ad} {x : Fx}
noncomputable def spFlight (d : Ad) : Sp := fun vs H Q _ => ∃ (p dx : Addr), vs = [.ref p] ∧ H p = some (.ins d.CF dx []) ∧ ∀ H' : Hp, H' p = some (.ins d.CF dx (fF false)) → (∀ b o, H b = some o → b ≠ p → H' b = some o) → Q .non H'
noncomputable def PsAll_Flight (K : PySem.W.Frag) (d : Ad) (x : Fx) (b : List Stmt) (u : TS) : Prop := ∀ (P : Program) (w : World) (mg : Str → Option Value) (base : Heap) (T : Txt K mg d x) (cdv : Value) (Ar : Around) (outer : List Env) (st : Shared) (H : Hp) (E : XK) (hr : Room 0 (Ar.deeper (envOfC "Flight.__init__" (defScope s_Flight) st.heap.objs.size x.f_Flight cdv))), PSs (cxOf CX0 P w K mg base ["self"] "Flight.__init__" (defScope s_Flight) x.f_Flight cdv Ar outer st H E).nox b u
noncomputable def q_Flight_0 (K : PySem.W.Frag) (d : Ad) (x : Fx) : { u : TS // PsAll_Flight K d x ((defBody s_Flight).drop 0) u } := ⟨_, fun P w mg base T cdv Ar outer st H E hr => (pss_one (ps_fldK (K := K) rfl (pv 0) pe_bl rfl))⟩
theorem ok_Flight (T : Txt K mg d x) : FnOk P w K mg base CX0 1 x.f_Flight x.d_Flight ["self"] (spFlight d) := by
  refine okQ T.F_Flight sc_Flight (fun vs H Q E h => ?_) (fun cdv Ar outer st H E hr => (q_Flight_0 K d x).2 _ _ _ _ T cdv Ar outer st H E hr) (fun vs H Q E h => ?_)
  · obtain ⟨p, dx, rfl, _⟩ := h
    rfl
  · obtain ⟨p, dx, rfl, hp, k⟩ := h
    refine ⟨_, rfl, p, d.CF, dx, [], rfl, hp, T.cl_Flight, T.n_Flight_gone, (by show 0 < 1000; decide), ?_⟩
    exact k _ upd_same fun b o e hb => by rw [upd_ne hb]; exact e
noncomputable def spPassenger (d : Ad) : Sp := fun vs H Q _ => ∃ (p dx : Addr) (f : Nat), vs = [.ref p, iv f] ∧ H p = some (.ins d.CP dx []) ∧ ∀ H' : Hp, H' p = some (.ins d.CP dx (fP f 0)) → (∀ b o, H b = some o → b ≠ p → H' b = some o) → Q .non H'
noncomputable def PsAll_Passenger (K : PySem.W.Frag) (d : Ad) (x : Fx) (b : List Stmt) (u : TS) : Prop := ∀ (P : Program) (w : World) (mg : Str → Option Value) (base : Heap) (T : Txt K mg d x) (cdv : Value) (Ar : Around) (outer : List Env) (st : Shared) (H : Hp) (E : XK) (hr : Room 0 (Ar.deeper (envOfC "Passenger.__init__" (defScope s_Passenger) st.heap.objs.size x.f_Passenger cdv))), PSs (cxOf CX0 P w K mg base ["self", "flight"] "Passenger.__init__" (defScope s_Passenger) x.f_Passenger cdv Ar outer st H E).nox b u
noncomputable def q_Passenger_0 (K : PySem.W.Frag) (d : Ad) (x : Fx) : { u : TS // PsAll_Passenger K d x ((defBody s_Passenger).drop 0) u } := ⟨_, fun P w mg base T cdv Ar outer st H E hr => (pss_cons (ps_fldK (K := K) rfl (pv 0) (pv 1) rfl) (pss_one (ps_fldK (K := K) rfl (pv 0) (pe_glob (v := .int (0)) rfl T.c_EXPECTED.choose_spec ⟨_, rfl⟩) rfl)))⟩
theorem ok_Passenger (T : Txt K mg d x) : FnOk P w K mg base CX0 1 x.f_Passenger x.d_Passenger ["self", "flight"] (spPassenger d) := by
  refine okQ T.F_Passenger sc_Passenger (fun vs H Q E h => ?_) (fun cdv Ar outer st H E hr => (q_Passenger_0 K d x).2 _ _ _ _ T cdv Ar outer st H E hr) (fun vs H Q E h => ?_)
  · obtain ⟨p, dx, f, rfl, _⟩ := h
    rfl
  · obtain ⟨p, dx, f, rfl, hp, k⟩ := h
    refine ⟨_, rfl, _, rfl, p, d.CP, dx, [], rfl, hp, T.cl_Passenger, T.n_Passenger_flight, (by show 0 < 1000; decide), ?_⟩
    refine ⟨_, rfl, p, d.CP, dx, _, rfl, upd_same, T.cl_Passenger, T.n_Passenger_standing, (by show 1 < 1000; decide), ?_⟩
    refine k _ ?_ fun b o e hb => by rw [upd_ne hb, upd_ne hb]; exact e
    rw [upd_same, put_nil, put_tl (by decide +kernel), put_nil]
    rfl
noncomputable def spBag (d : Ad) : Sp := fun vs H Q _ => ∃ (p dx : Addr) (o w : Nat), vs = [.ref p, iv o, iv w] ∧ H p = some (.ins d.CB dx []) ∧ ∀ H' : Hp, H' p = some (.ins d.CB dx (fB ⟨o, w, 0, false⟩ none)) → (∀ b o, H b = some o → b ≠ p → H' b = some o) → Q .non H'
noncomputable def PsAll_Bag (K : PySem.W.Frag) (d : Ad) (x : Fx) (b : List Stmt) (u : TS) : Prop := ∀ (P : Program) (w : World) (mg : Str → Option Value) (base : Heap) (T : Txt K mg d x) (cdv : Value) (Ar : Around) (outer : List Env) (st : Shared) (H : Hp) (E : XK) (hr : Room 0 (Ar.deeper (envOfC "Bag.__init__" (defScope s_Bag) st.heap.objs.size x.f_Bag cdv))), PSs (cxOf CX0 P w K mg base ["self", "owner", "weight"] "Bag.__init__" (defScope s_Bag) x.f_Bag cdv Ar outer st H E).nox b u
noncomputable def q_Bag_0 (K : PySem.W.Frag) (d : Ad) (x : Fx) : { u : TS // PsAll_Bag K d x ((defBody s_Bag).drop 0) u } := ⟨_, fun P w mg base T cdv Ar outer st H E hr => (pss_cons (ps_fldK (K := K) rfl (pv 0) (pv 1) rfl) (pss_cons (ps_fldK (K := K) rfl (pv 0) (pv 2) rfl) (pss_cons (ps_fldK (K := K) rfl (pv 0) (pe_glob (v := .int (0)) rfl T.c_HALL.choose_spec ⟨_, rfl⟩) rfl) (pss_cons (ps_fldK (K := K) rfl (pv 0) pe_non rfl) (pss_one (ps_fldK (K := K) rfl (pv 0) pe_bl rfl))))))⟩
theorem ok_Bag (T : Txt K mg d x) : FnOk P w K mg base CX0 1 x.f_Bag x.d_Bag ["self", "owner", "weight"] (spBag d) := by
  refine okQ T.F_Bag sc_Bag (fun vs H Q E h => ?_) (fun cdv Ar outer st H E hr => (q_Bag_0 K d x).2 _ _ _ _ T cdv Ar outer st H E hr) (fun vs H Q E h => ?_)
  · obtain ⟨p, dx, o, w, rfl, _⟩ := h
    rfl
  · obtain ⟨p, dx, o, w, rfl, hp, k⟩ := h
    refine ⟨_, rfl, _, rfl, p, d.CB, dx, [], rfl, hp, T.cl_Bag, T.n_Bag_owner, (by show 0 < 1000; decide), ?_⟩
    refine ⟨_, rfl, _, rfl, p, d.CB, dx, _, rfl, upd_same, T.cl_Bag, T.n_Bag_weight, (by show 1 < 1000; decide), ?_⟩
    rw [put_nil, put_tl (by decide +kernel), put_nil]
    refine ⟨_, rfl, p, d.CB, dx, _, rfl, upd_same, T.cl_Bag, T.n_Bag_place, (by show 2 < 1000; decide), ?_⟩
    rw [put_tl (by decide +kernel), put_tl (by decide +kernel), put_nil]
    refine ⟨_, rfl, p, d.CB, dx, _, rfl, upd_same, T.cl_Bag, T.n_Bag_container, (by show 3 < 1000; decide), ?_⟩
    rw [put_tl (by decide +kernel), put_tl (by decide +kernel), put_tl (by decide +kernel), put_nil]
    refine ⟨_, rfl, p, d.CB, dx, _, rfl, upd_same, T.cl_Bag, T.n_Bag_follows, (by show 4 < 1000; decide), ?_⟩
    rw [put_tl (by decide +kernel), put_tl (by decide +kernel), put_tl (by decide +kernel), put_tl (by decide +kernel), put_nil]
    exact k _ upd_same fun b o e hb => by rw [upd_ne hb, upd_ne hb, upd_ne hb, upd_ne hb, upd_ne hb]; exact e
noncomputable def spContainer (d : Ad) : Sp := fun vs H Q _ => ∃ (p dx : Addr) (f n w : Nat), vs = [.ref p, iv f, iv n, iv w] ∧ H p = some (.ins d.CK dx []) ∧ ∀ (H' : Hp) (l : Addr), H' p = some (.ins d.CK dx (fK f n w l)) → H l = none → H' l = some (.lst []) → (∀ b o, H b = some o → b ≠ p → H' b = some o) → Q .non H'
noncomputable def PsAll_Container (K : PySem.W.Frag) (d : Ad) (x : Fx) (b : List Stmt) (u : TS) : Prop := ∀ (P : Program) (w : World) (mg : Str → Option Value) (base : Heap) (T : Txt K mg d x) (cdv : Value) (Ar : Around) (outer : List Env) (st : Shared) (H : Hp) (E : XK) (hr : Room 0 (Ar.deeper (envOfC "Container.__init__" (defScope s_Container) st.heap.objs.size x.f_Container cdv))), PSs (cxOf CX0 P w K mg base ["self", "flight", "room", "limit"] "Container.__init__" (defScope s_Container) x.f_Container cdv Ar outer st H E).nox b u
noncomputable def q_Container_0 (K : PySem.W.Frag) (d : Ad) (x : Fx) : { u : TS // PsAll_Container K d x ((defBody s_Container).drop 0) u } := ⟨_, fun P w mg base T cdv Ar outer st H E hr => (pss_cons (ps_fldK (K := K) rfl (pv 0) (pv 1) rfl) (pss_cons (ps_fldK (K := K) rfl (pv 0) (pv 2) rfl) (pss_cons (ps_fldK (K := K) rfl (pv 0) (pv 3) rfl) (pss_one (ps_fldK (K := K) rfl (pv 0) (pe_lst pa_nil) rfl)))))⟩
theorem ok_Container (T : Txt K mg d x) : FnOk P w K mg base CX0 1 x.f_Container x.d_Container ["self", "flight", "room", "limit"] (spContainer d) := by
  refine okQ T.F_Container sc_Container (fun vs H Q E h => ?_) (fun cdv Ar outer st H E hr => (q_Container_0 K d x).2 _ _ _ _ T cdv Ar outer st H E hr) (fun vs H Q E h => ?_)
  · obtain ⟨p, dx, f, n, w, rfl, _⟩ := h
    rfl
  · obtain ⟨p, dx, f, n, w, rfl, hp, k⟩ := h
    refine ⟨_, rfl, _, rfl, p, d.CK, dx, [], rfl, hp, T.cl_Container, T.n_Container_flight, (by show 0 < 1000; decide), ?_⟩
    refine ⟨_, rfl, _, rfl, p, d.CK, dx, _, rfl, upd_same, T.cl_Container, T.n_Container_room, (by show 1 < 1000; decide), ?_⟩
    rw [put_nil, put_tl (by decide +kernel), put_nil]
    refine ⟨_, rfl, _, rfl, p, d.CK, dx, _, rfl, upd_same, T.cl_Container, T.n_Container_limit, (by show 2 < 1000; decide), ?_⟩
    rw [put_tl (by decide +kernel), put_tl (by decide +kernel), put_nil]
    refine ⟨Nat.zero_le _, fun l hl => ?_⟩
    have npl : p ≠ l := ne_of_none upd_same hl
    refine ⟨_, rfl, p, d.CK, dx, _, rfl, (by rw [upd_ne npl]; exact upd_same), T.cl_Container, T.n_Container_pile, (by show 3 < 1000; decide), ?_⟩
    rw [put_tl (by decide +kernel), put_tl (by decide +kernel), put_tl (by decide +kernel), put_nil]
    refine k _ l upd_same ?_ (by rw [upd_ne npl.symm]; exact upd_same) fun b o e hb => ?_
    · rw [upd_ne npl.symm, upd_ne npl.symm, upd_ne npl.symm] at hl
      exact hl
    · rw [upd_ne hb]
      have hbl : b ≠ l := by
        refine ne_of_none (H := upd (upd (upd H p (.ins d.CK dx [("flight", iv f)])) p (.ins d.CK dx [("flight", iv f), ("room", iv n)])) p (.ins d.CK dx [("flight", iv f), ("room", iv n), ("limit", iv w)])) (o := o) ?_ hl
        rw [upd_ne hb, upd_ne hb, upd_ne hb]
        exact e
      rw [upd_ne hbl, upd_ne hb, upd_ne hb, upd_ne hb]
      exact e
noncomputable def spAirport (d : Ad) : Sp := fun vs H Q _ => ∃ (p dx : Addr), vs = [.ref p] ∧ H p = some (.ins d.CA dx []) ∧ ∀ (H' : Hp) (A : Lay), A.p = p → Air d H' A Sy54.init [] → (∀ b, A.own b → b = p ∨ H b = none) → (∀ b o, H b = some o → b ≠ p → H' b = some o) → Q .non H'
noncomputable def PsAll_Airport (K : PySem.W.Frag) (d : Ad) (x : Fx) (b : List Stmt) (u : TS) : Prop := ∀ (P : Program) (w : World) (mg : Str → Option Value) (base : Heap) (T : Txt K mg d x) (cdv : Value) (Ar : Around) (outer : List Env) (st : Shared) (H : Hp) (E : XK) (hr : Room 0 (Ar.deeper (envOfC "Airport.__init__" (defScope s_Airport) st.heap.objs.size x.f_Airport cdv))), PSs (cxOf CX0 P w K mg base ["self"] "Airport.__init__" (defScope s_Airport) x.f_Airport cdv Ar outer st H E).nox b u
noncomputable def q_Airport_0 (K : PySem.W.Frag) (d : Ad) (x : Fx) : { u : TS // PsAll_Airport K d x ((defBody s_Airport).drop 0) u } := ⟨_, fun P w mg base T cdv Ar outer st H E hr => (pss_cons (ps_fldK (K := K) rfl (pv 0) (pe_lst pa_nil) rfl) (pss_cons (ps_fldK (K := K) rfl (pv 0) (pe_lst pa_nil) rfl) (pss_cons (ps_fldK (K := K) rfl (pv 0) (pe_lst pa_nil) rfl) (pss_cons (ps_fldK (K := K) rfl (pv 0) (pe_lst pa_nil) rfl) (pss_one (ps_fldK (K := K) rfl (pv 0) pe_int rfl))))))⟩
theorem ok_Airport (T : Txt K mg d x) : FnOk P w K mg base CX0 1 x.f_Airport x.d_Airport ["self"] (spAirport d) := by
  refine okQ T.F_Airport sc_Airport (fun vs H Q E h => ?_) (fun cdv Ar outer st H E hr => (q_Airport_0 K d x).2 _ _ _ _ T cdv Ar outer st H E hr) (fun vs H Q E h => ?_)
  · obtain ⟨p, dx, rfl, _⟩ := h
    rfl
  · obtain ⟨p, dx, rfl, hp, k⟩ := h
    refine ⟨Nat.zero_le _, fun l1 n1 => ?_⟩
    have p1 : p ≠ l1 := ne_of_none hp n1
    refine ⟨_, rfl, p, d.CA, dx, [], rfl, (by rw [upd_ne p1]; exact hp), T.cl_Airport, T.n_Airport_flights, (by show 0 < 1000; decide), ?_⟩
    rw [put_nil]
    refine ⟨Nat.zero_le _, fun l2 n2 => ?_⟩
    have p2 : p ≠ l2 := ne_of_none upd_same n2
    refine ⟨_, rfl, p, d.CA, dx, _, rfl, (by rw [upd_ne p2]; exact upd_same), T.cl_Airport, T.n_Airport_containers, (by show 1 < 1000; decide), ?_⟩
    rw [put_tl (by decide +kernel), put_nil]
    refine ⟨Nat.zero_le _, fun l3 n3 => ?_⟩
    have p3 : p ≠ l3 := ne_of_none upd_same n3
    refine ⟨_, rfl, p, d.CA, dx, _, rfl, (by rw [upd_ne p3]; exact upd_same), T.cl_Airport, T.n_Airport_passengers, (by show 2 < 1000; decide), ?_⟩
    rw [put_tl (by decide +kernel), put_tl (by decide +kernel), put_nil]
    refine ⟨Nat.zero_le _, fun l4 n4 => ?_⟩
    have p4 : p ≠ l4 := ne_of_none upd_same n4
    refine ⟨_, rfl, p, d.CA, dx, _, rfl, (by rw [upd_ne p4]; exact upd_same), T.cl_Airport, T.n_Airport_bags, (by show 3 < 1000; decide), ?_⟩
    rw [put_tl (by decide +kernel), put_tl (by decide +kernel), put_tl (by decide +kernel), put_nil]
    refine ⟨_, rfl, p, d.CA, dx, _, rfl, upd_same, T.cl_Airport, T.n_Airport_moves_made, (by show 4 < 1000; decide), ?_⟩
    rw [put_tl (by decide +kernel), put_tl (by decide +kernel), put_tl (by decide +kernel), put_tl (by decide +kernel), put_nil]
    obtain ⟨_, n2⟩ := upd_none n2
    obtain ⟨a21, n2⟩ := upd_none n2
    obtain ⟨_, n3⟩ := upd_none n3
    obtain ⟨a32, n3⟩ := upd_none n3
    obtain ⟨_, n3⟩ := upd_none n3
    obtain ⟨a31, n3⟩ := upd_none n3
    obtain ⟨_, n4⟩ := upd_none n4
    obtain ⟨a43, n4⟩ := upd_none n4
    obtain ⟨_, n4⟩ := upd_none n4
    obtain ⟨a42, n4⟩ := upd_none n4
    obtain ⟨_, n4⟩ := upd_none n4
    obtain ⟨a41, n4⟩ := upd_none n4
    refine k _ ⟨p, l1, l2, l3, l4, [], [], [], [], []⟩ rfl ⟨⟨dx, upd_same⟩, ⟨?_, ?_, ?_, ?_, rfl, ?_, fun i l y h => by simp at h⟩, .nil, .nil, .nil, .nil, rfl⟩ ?_ fun b o e hb => ?_
    · show upd _ p _ l1 = _
      rw [upd_ne p1.symm, upd_ne p1.symm, upd_ne a41.symm, upd_ne p1.symm, upd_ne a31.symm, upd_ne p1.symm, upd_ne a21.symm, upd_ne p1.symm, upd_same]
      rfl
    · show upd _ p _ l2 = _
      rw [upd_ne p2.symm, upd_ne p2.symm, upd_ne a42.symm, upd_ne p2.symm, upd_ne a32.symm, upd_ne p2.symm, upd_same]
      rfl
    · show upd _ p _ l3 = _
      rw [upd_ne p3.symm, upd_ne p3.symm, upd_ne a43.symm, upd_ne p3.symm, upd_same]
      rfl
    · show upd _ p _ l4 = _
      rw [upd_ne p4.symm, upd_ne p4.symm, upd_same]
      rfl
    · unfold Lay.lists
      simp [a21.symm, a31.symm, a41.symm, a32.symm, a42.symm, a43.symm]
    · intro b hb
      unfold Lay.own Lay.lists at hb
      simp at hb
      rcases hb with h | h | h | h | h
      · exact .inl h
      · rw [h]; exact .inr n1
      · rw [h]; exact .inr n2
      · rw [h]; exact .inr n3
      · rw [h]; exact .inr n4
    · rw [upd_ne hb, upd_ne hb, upd_ne (ne_of_none e n4), upd_ne hb, upd_ne (ne_of_none e n3), upd_ne hb, upd_ne (ne_of_none e n2), upd_ne hb, upd_ne (ne_of_none e n1)]
      exact e
end
end Bg
end
section
set_option Elab.async false
set_option linter.all false
set_option maxRecDepth 100000
set_option maxHeartbeats 2000000
namespace Bg
open PySem PySem.Spec PyProof.Rows L2
theorem iv_dec (n : Nat) (z : Int) : decide (iv n = V.int z) = decide ((n : Int) = z) := by
  unfold iv
  by_cases h : (n : Int) = z
  · rw [h]; simp
  · simp [h]
theorem iv_inj {m n : Nat} (h : iv m = iv n) : m = n := by
  unfold iv at h
  injection h with h
  omega
section
variable {P : Program} {w : World} {K : PySem.W.Frag} {mg : Str → Option Value} {base : Heap} {d : Ad} {x : Fx}
noncomputable def spIsSize : Sp := fun vs H Q _ => ∃ (n m : Nat), vs = [iv n, iv m] ∧ Q (.bl (decide (1 ≤ n ∧ n ≤ m))) H
noncomputable def PsAll_is_size (K : PySem.W.Frag) (d : Ad) (x : Fx) (b : List Stmt) (u : TS) : Prop := ∀ (P : Program) (w : World) (mg : Str → Option Value) (base : Heap) (T : Txt K mg d x) (cdv : Value) (Ar : Around) (outer : List Env) (st : Shared) (H : Hp) (E : XK) (hr : Room 0 (Ar.deeper (envOfC "is_size" (defScope s_is_size) st.heap.objs.size x.f_is_size cdv))), PSs (cxOf CX0 P w K mg base ["number", "most"] "is_size" (defScope s_is_size) x.f_is_size cdv Ar outer st H E).nox b u
noncomputable def q_is_size_0 (K : PySem.W.Frag) (d : Ad) (x : Fx) : { u : TS // PsAll_is_size K d x ((defBody s_is_size).drop 0) u } := ⟨_, fun P w mg base T cdv Ar outer st H E hr => (pss_one (ps_ret (pe_chain op_le op_le pe_int (pv 0) (pv 1))))⟩
theorem ok_is_size (T : Txt K mg d x) : FnOk P w K mg base CX0 1 x.f_is_size x.d_is_size ["number", "most"] spIsSize := by
  refine okQ T.F_is_size sc_is_size (fun vs H Q E h => ?_) (fun cdv Ar outer st H E hr => (q_is_size_0 K d x).2 _ _ _ _ T cdv Ar outer st H E hr) (fun vs H Q E h => ?_)
  · obtain ⟨n, m, rfl, _⟩ := h
    rfl
  · obtain ⟨n, m, rfl, k⟩ := h
    refine ⟨_, rfl, _, _, rfl, rfl, _, rfl, ?_⟩
    refine ite2 (fun h1 => ?_) (fun h1 => ?_)
    · have h1 : (1 : Int) ≤ (n : Int) := of_decide_eq_true h1
      refine ⟨_, rfl, _, _, rfl, rfl, ?_⟩
      have e : decide ((n : Int) ≤ (m : Int)) = decide (1 ≤ n ∧ n ≤ m) := by
        apply decide_eq_decide.mpr
        omega
      show Q (.bl (decide ((n : Int) ≤ (m : Int)))) H
      rw [e]
      exact k
    · have h1 : ¬ (1 : Int) ≤ (n : Int) := fun q => h1 (decide_eq_true q)
      have e : decide (1 ≤ n ∧ n ≤ m) = false := decide_eq_false (by omega)
      rw [e] at k
      exact k
noncomputable def spMayFly (d : Ad) : Sp := fun vs H Q _ => ∃ (A : Lay) (s : Sy54.St) (c : List (Option Nat)) (bb : Addr) (b : Nat) (y : Sy54.Bag), vs = [.ref A.p, .ref bb] ∧ Air d H A s c ∧ A.bs[b]? = some bb ∧ s.bags[b]? = some y ∧ y.owner < s.people.length ∧ Q (.bl (Sy54.mayFly s b)) H
noncomputable def PsAll_may_fly (K : PySem.W.Frag) (d : Ad) (x : Fx) (b : List Stmt) (u : TS) : Prop := ∀ (P : Program) (w : World) (mg : Str → Option Value) (base : Heap) (T : Txt K mg d x) (cdv : Value) (Ar : Around) (outer : List Env) (st : Shared) (H : Hp) (E : XK) (hr : Room 0 (Ar.deeper (envOfC "may_fly" (defScope s_may_fly) st.heap.objs.size x.f_may_fly cdv))), PSs (cxOf CX0 P w K mg base ["airport", "bag"] "may_fly" (defScope s_may_fly) x.f_may_fly cdv Ar outer st H E).nox b u
noncomputable def q_may_fly_0 (K : PySem.W.Frag) (d : Ad) (x : Fx) : { u : TS // PsAll_may_fly K d x ((defBody s_may_fly).drop 0) u } := ⟨_, fun P w mg base T cdv Ar outer st H E hr => (pss_one (ps_ret (pe_or (pe_fldK (K := K) rfl (pv 1) rfl) (pe_one (pe_cmpR op_eq (pe_fldK (K := K) rfl (pe_ix (ix_listK (K := K) rfl) (pe_fldK (K := K) rfl (pv 0) rfl) (pe_fldK (K := K) rfl (pv 1) rfl) (fun _ _ => rfl)) rfl) (pe_glob (v := .int (1)) rfl T.c_ABOARD.choose_spec ⟨_, rfl⟩) (nomark _))))))⟩
theorem ok_may_fly (T : Txt K mg d x) : FnOk P w K mg base CX0 1 x.f_may_fly x.d_may_fly ["airport", "bag"] (spMayFly d) := by
  refine okQ T.F_may_fly sc_may_fly (fun vs H Q E h => ?_) (fun cdv Ar outer st H E hr => (q_may_fly_0 K d x).2 _ _ _ _ T cdv Ar outer st H E hr) (fun vs H Q E h => ?_)
  · obtain ⟨_, _, _, _, _, _, rfl, _⟩ := h
    rfl
  · obtain ⟨A, s, c, bb, b, y, rfl, a, hb, hy, ho, k⟩ := h
    obtain ⟨pp, z, hp, hz⟩ := a.personAt ho
    have em : Sy54.mayFly s b = (y.rush || (z.how == 1)) := by
      unfold Sy54.mayFly Sy54.bagOf Sy54.personOf
      rw [getD_some _ hy, getD_some _ hz]
    rw [em] at k
    refine ⟨_, rfl, r_follows T a hb hy ⟨_, rfl, ?_⟩⟩
    refine ite2 (fun h1 => ?_) (fun h1 => ?_)
    · rw [h1] at k
      exact k
    · have h1 : y.rush = false := by simpa using h1
      refine ⟨_, rfl, r_passengers T a ⟨_, rfl, r_owner T a hb hy (ix_ref a.L.hP hp (r_standing T a hp hz ⟨rfl, ?_⟩))⟩⟩
      show Q (.bl (decide (iv z.how = V.int 1))) H
      rw [iv_dec]
      rw [h1] at k
      have e : decide ((z.how : Int) = 1) = (z.how == 1) := by
        by_cases q : z.how = 1
        · simp [q]
        · have : ¬ (z.how : Int) = 1 := by omega
          simp [q, this]
      rw [e]
      exact k
noncomputable def spHasFlown (d : Ad) : Sp := fun vs H Q _ => ∃ (A : Lay) (s : Sy54.St) (c : List (Option Nat)) (pp : Addr) (p : Nat) (y : Sy54.Person) (g : Bool), vs = [.ref A.p, .ref pp] ∧ Air d H A s c ∧ A.ps[p]? = some pp ∧ s.people[p]? = some y ∧ s.gone[y.flight]? = some g ∧ Q (.bl (decide (y.how = 1) && g)) H
noncomputable def PsAll_has_flown (K : PySem.W.Frag) (d : Ad) (x : Fx) (b : List Stmt) (u : TS) : Prop := ∀ (P : Program) (w : World) (mg : Str → Option Value) (base : Heap) (T : Txt K mg d x) (cdv : Value) (Ar : Around) (outer : List Env) (st : Shared) (H : Hp) (E : XK) (hr : Room 0 (Ar.deeper (envOfC "has_flown" (defScope s_has_flown) st.heap.objs.size x.f_has_flown cdv))), PSs (cxOf CX0 P w K mg base ["airport", "passenger"] "has_flown" (defScope s_has_flown) x.f_has_flown cdv Ar outer st H E).nox b u
noncomputable def q_has_flown_0 (K : PySem.W.Frag) (d : Ad) (x : Fx) : { u : TS // PsAll_has_flown K d x ((defBody s_has_flown).drop 0) u } := ⟨_, fun P w mg base T cdv Ar outer st H E hr => (pss_one (ps_ret (pe_and (pe_cmpR op_eq (pe_fldK (K := K) rfl (pv 1) rfl) (pe_glob (v := .int (1)) rfl T.c_ABOARD.choose_spec ⟨_, rfl⟩) (nomark _)) (pe_one (pe_fldK (K := K) rfl (pe_ix (ix_listK (K := K) rfl) (pe_fldK (K := K) rfl (pv 0) rfl) (pe_fldK (K := K) rfl (pv 1) rfl) (fun _ _ => rfl)) rfl)))))⟩
theorem ok_has_flown (T : Txt K mg d x) : FnOk P w K mg base CX0 1 x.f_has_flown x.d_has_flown ["airport", "passenger"] (spHasFlown d) := by
  refine okQ T.F_has_flown sc_has_flown (fun vs H Q E h => ?_) (fun cdv Ar outer st H E hr => (q_has_flown_0 K d x).2 _ _ _ _ T cdv Ar outer st H E hr) (fun vs H Q E h => ?_)
  · obtain ⟨_, _, _, _, _, _, _, rfl, _⟩ := h
    rfl
  · obtain ⟨A, s, c, pp, p, y, g, rfl, a, hp, hy, hg, k⟩ := h
    obtain ⟨fb, g', hf, hg'⟩ := a.flightAt (get_lt hg)
    rw [hg] at hg'
    cases hg'
    refine ⟨_, rfl, r_standing T a hp hy ⟨rfl, _, rfl, ?_⟩⟩
    refine ite2 (fun h1 => ?_) (fun h1 => ?_)
    · rw [iv_dec] at h1
      have h1 : (y.how : Int) = 1 := of_decide_eq_true h1
      have h1 : y.how = 1 := by omega
      refine ⟨_, rfl, r_flights T a ⟨_, rfl, r_pflight T a hp hy (ix_ref a.L.hF hf (r_gone T a hf hg ?_))⟩⟩
      rw [h1] at k
      simpa using k
    · rw [iv_dec] at h1
      have h1 : ¬ y.how = 1 := fun q => h1 (by rw [q]; rfl)
      simpa [h1] using k
noncomputable def there (s : Sy54.St) (k : Str) (n : Nat) : Bool := if k = "flight" then decide (n < s.gone.length) else if k = "container" then decide (n < s.boxes.length) else if k = "passenger" then decide (n < s.people.length) else if k = "bag" then decide (n < s.bags.length) else true
noncomputable def spIsThere (d : Ad) : Sp := fun vs H Q _ => ∃ (A : Lay) (s : Sy54.St) (c : List (Option Nat)) (k : Str) (n : Nat), vs = [.ref A.p, .str k, iv n] ∧ Air d H A s c ∧ Q (.bl (there s k n)) H
theorem str_dec (a b : Str) : decide (V.str a = V.str b) = decide (a = b) := by
  by_cases h : a = b
  · rw [h]; simp
  · simp [h]
noncomputable def PsAll_is_there (K : PySem.W.Frag) (d : Ad) (x : Fx) (b : List Stmt) (u : TS) : Prop := ∀ (P : Program) (w : World) (mg : Str → Option Value) (base : Heap) (T : Txt K mg d x) (cdv : Value) (Ar : Around) (outer : List Env) (st : Shared) (H : Hp) (E : XK) (hr : Room 0 (Ar.deeper (envOfC "is_there" (defScope s_is_there) st.heap.objs.size x.f_is_there cdv))), PSs (cxOf CX0 P w K mg base ["airport", "kind", "number"] "is_there" (defScope s_is_there) x.f_is_there cdv Ar outer st H E).nox b u
noncomputable def q_is_there_0 (K : PySem.W.Frag) (d : Ad) (x : Fx) : { u : TS // PsAll_is_there K d x ((defBody s_is_there).drop 0) u } := ⟨_, fun P w mg base T cdv Ar outer st H E hr => (pss_cons (ps_if (pt_cmpR op_eq (pv 1) pe_str (nomark _)) (pss_one (ps_ret (pe_cmpR op_lt (pv 2) (pe_callB (lenK (K := K) rfl) (by rfl) T.z_len PySem.boot_len (pa_cons (pe_fldK (K := K) rfl (pv 0) rfl) pa_nil)) (nomark _)))) pss_nil) (pss_cons (ps_if (pt_cmpR op_eq (pv 1) pe_str (nomark _)) (pss_one (ps_ret (pe_cmpR op_lt (pv 2) (pe_callB (lenK (K := K) rfl) (by rfl) T.z_len PySem.boot_len (pa_cons (pe_fldK (K := K) rfl (pv 0) rfl) pa_nil)) (nomark _)))) pss_nil) (pss_cons (ps_if (pt_cmpR op_eq (pv 1) pe_str (nomark _)) (pss_one (ps_ret (pe_cmpR op_lt (pv 2) (pe_callB (lenK (K := K) rfl) (by rfl) T.z_len PySem.boot_len (pa_cons (pe_fldK (K := K) rfl (pv 0) rfl) pa_nil)) (nomark _)))) pss_nil) (pss_cons (ps_if (pt_cmpR op_eq (pv 1) pe_str (nomark _)) (pss_one (ps_ret (pe_cmpR op_lt (pv 2) (pe_callB (lenK (K := K) rfl) (by rfl) T.z_len PySem.boot_len (pa_cons (pe_fldK (K := K) rfl (pv 0) rfl) pa_nil)) (nomark _)))) pss_nil) (pss_one (ps_ret pe_bl))))))⟩
theorem ok_is_there (T : Txt K mg d x) : FnOk P w K mg base CX0 1 x.f_is_there x.d_is_there ["airport", "kind", "number"] (spIsThere d) := by
  refine okQ T.F_is_there sc_is_there (fun vs H Q E h => ?_) (fun cdv Ar outer st H E hr => (q_is_there_0 K d x).2 _ _ _ _ T cdv Ar outer st H E hr) (fun vs H Q E h => ?_)
  · obtain ⟨_, _, _, _, _, rfl, _⟩ := h
    rfl
  · obtain ⟨A, s, c, k, n, rfl, a, q⟩ := h
    have lt (m : Nat) : decide ((n : Int) < (m : Int)) = decide (n < m) := decide_eq_decide.mpr (by omega)
    unfold there at q
    refine ⟨_, rfl, rfl, _, rfl, ?_⟩
    rw [str_dec]
    refine ite2 (fun h1 => ?_) (fun h1 => ?_)
    · rw [if_pos (of_decide_eq_true h1)] at q
      refine ⟨_, rfl, _, rfl, r_flights T a ⟨_, _, rfl, .inl (SqL.of a.L.hF), _, _, rfl, rfl, ?_⟩⟩
      show Q (.bl (decide ((n : Int) < ((A.fs.map V.ref).length : Int)))) H
      rw [List.length_map, a.F.len, lt]
      exact q
    rw [if_neg (fun e => h1 (decide_eq_true e))] at q
    refine ⟨_, rfl, rfl, _, rfl, ?_⟩
    rw [str_dec]
    refine ite2 (fun h1 => ?_) (fun h1 => ?_)
    · rw [if_pos (of_decide_eq_true h1)] at q
      refine ⟨_, rfl, _, rfl, r_containers T a ⟨_, _, rfl, .inl (SqL.of a.L.hK), _, _, rfl, rfl, ?_⟩⟩
      show Q (.bl (decide ((n : Int) < ((A.ks.map V.ref).length : Int)))) H
      rw [List.length_map, a.K.len, lt]
      exact q
    rw [if_neg (fun e => h1 (decide_eq_true e))] at q
    refine ⟨_, rfl, rfl, _, rfl, ?_⟩
    rw [str_dec]
    refine ite2 (fun h1 => ?_) (fun h1 => ?_)
    · rw [if_pos (of_decide_eq_true h1)] at q
      refine ⟨_, rfl, _, rfl, r_passengers T a ⟨_, _, rfl, .inl (SqL.of a.L.hP), _, _, rfl, rfl, ?_⟩⟩
      show Q (.bl (decide ((n : Int) < ((A.ps.map V.ref).length : Int)))) H
      rw [List.length_map, a.P.len, lt]
      exact q
    rw [if_neg (fun e => h1 (decide_eq_true e))] at q
    refine ⟨_, rfl, rfl, _, rfl, ?_⟩
    rw [str_dec]
    refine ite2 (fun h1 => ?_) (fun h1 => ?_)
    · rw [if_pos (of_decide_eq_true h1)] at q
      refine ⟨_, rfl, _, rfl, r_bags T a ⟨_, _, rfl, .inl (SqL.of a.L.hB), _, _, rfl, rfl, ?_⟩⟩
      show Q (.bl (decide ((n : Int) < ((A.bs.map V.ref).length : Int)))) H
      rw [List.length_map, a.B.len, lt]
      exact q
    rw [if_neg (fun e => h1 (decide_eq_true e))] at q
    exact q
end
end Bg
end
section
set_option Elab.async false
set_option linter.all false
set_option maxRecDepth 100000
set_option maxHeartbeats 2000000
namespace Bg
open PySem PySem.Spec PyProof.Rows L2
theorem Grow.pushF {A : Lay} {H H1 : Hp} {b : Addr} {o : HO} (k : Same H H1) (hn : H b = none) : Grow A H { A with fs := A.fs ++ [b] } (upd H1 A.lF o) := by
  refine ⟨rfl, fun c h => .inl ?_, fun c h => ?_, fun c u e n => ?_⟩
  · rcases h with h | h | h | h | h | h
    · exact .inl h
    · exact .inr (.inl h)
    · exact .inr (.inr (.inl (List.mem_append_left _ h)))
    · exact .inr (.inr (.inr (.inl h)))
    · exact .inr (.inr (.inr (.inr (.inl h))))
    · exact .inr (.inr (.inr (.inr (.inr h))))
  · rcases h with h | h | h | h | h | h
    · exact .inl (.inl h)
    · exact .inl (.inr (.inl h))
    · rcases List.mem_append.mp h with h | h
      · exact .inl (.inr (.inr (.inl h)))
      · have e : c = b := by simpa using h
        rw [e]
        exact .inr hn
    · exact .inl (.inr (.inr (.inr (.inl h))))
    · exact .inl (.inr (.inr (.inr (.inr (.inl h)))))
    · exact .inl (.inr (.inr (.inr (.inr (.inr h)))))
  · rw [upd_ne (fun q => n (by rw [q]; exact own_lF A))]
    exact k c u e
theorem Grow.pushP {A : Lay} {H H1 : Hp} {b : Addr} {o : HO} (k : Same H H1) (hn : H b = none) : Grow A H { A with ps := A.ps ++ [b] } (upd H1 A.lP o) := by
  refine ⟨rfl, fun c h => .inl ?_, fun c h => ?_, fun c u e n => ?_⟩
  · rcases h with h | h | h | h | h | h
    · exact .inl h
    · exact .inr (.inl h)
    · exact .inr (.inr (.inl h))
    · exact .inr (.inr (.inr (.inl h)))
    · exact .inr (.inr (.inr (.inr (.inl (List.mem_append_left _ h)))))
    · exact .inr (.inr (.inr (.inr (.inr h))))
  · rcases h with h | h | h | h | h | h
    · exact .inl (.inl h)
    · exact .inl (.inr (.inl h))
    · exact .inl (.inr (.inr (.inl h)))
    · exact .inl (.inr (.inr (.inr (.inl h))))
    · rcases List.mem_append.mp h with h | h
      · exact .inl (.inr (.inr (.inr (.inr (.inl h)))))
      · have e : c = b := by simpa using h
        rw [e]
        exact .inr hn
    · exact .inl (.inr (.inr (.inr (.inr (.inr h)))))
  · rw [upd_ne (fun q => n (by rw [q]; exact own_lP A))]
    exact k c u e
theorem Grow.pushB {A : Lay} {H H1 : Hp} {b : Addr} {o : HO} (k : Same H H1) (hn : H b = none) : Grow A H { A with bs := A.bs ++ [b] } (upd H1 A.lB o) := by
  refine ⟨rfl, fun c h => .inl ?_, fun c h => ?_, fun c u e n => ?_⟩
  · rcases h with h | h | h | h | h | h
    · exact .inl h
    · exact .inr (.inl h)
    · exact .inr (.inr (.inl h))
    · exact .inr (.inr (.inr (.inl h)))
    · exact .inr (.inr (.inr (.inr (.inl h))))
    · exact .inr (.inr (.inr (.inr (.inr (List.mem_append_left _ h)))))
  · rcases h with h | h | h | h | h | h
    · exact .inl (.inl h)
    · exact .inl (.inr (.inl h))
    · exact .inl (.inr (.inr (.inl h)))
    · exact .inl (.inr (.inr (.inr (.inl h))))
    · exact .inl (.inr (.inr (.inr (.inr (.inl h)))))
    · rcases List.mem_append.mp h with h | h
      · exact .inl (.inr (.inr (.inr (.inr (.inr h)))))
      · have e : c = b := by simpa using h
        rw [e]
        exact .inr hn
  · rw [upd_ne (fun q => n (by rw [q]; exact own_lB A))]
    exact k c u e
theorem Grow.pushK {A : Lay} {H H1 : Hp} {b l : Addr} {o : HO} (k : Same H H1) (hn : H b = none) (hl : H l = none) : Grow A H { A with ks := A.ks ++ [b], piles := A.piles ++ [l] } (upd H1 A.lK o) := by
  refine ⟨rfl, fun c h => .inl ?_, fun c h => ?_, fun c u e n => ?_⟩
  · rcases h with h | h | h | h | h | h
    · exact .inl h
    · refine .inr (.inl ?_)
      unfold Lay.lists at h ⊢
      simp only [List.mem_cons, List.mem_append] at h ⊢
      rcases h with h | h | h | h | h
      · exact .inl h
      · exact .inr (.inl h)
      · exact .inr (.inr (.inl h))
      · exact .inr (.inr (.inr (.inl h)))
      · exact .inr (.inr (.inr (.inr (.inl h))))
    · exact .inr (.inr (.inl h))
    · exact .inr (.inr (.inr (.inl (List.mem_append_left _ h))))
    · exact .inr (.inr (.inr (.inr (.inl h))))
    · exact .inr (.inr (.inr (.inr (.inr h))))
  · rcases h with h | h | h | h | h | h
    · exact .inl (.inl h)
    · unfold Lay.lists at h
      simp only [List.mem_cons, List.mem_append, List.not_mem_nil, or_false] at h
      rcases h with h | h | h | h | h | h
      · exact .inl (by rw [h]; exact own_lF A)
      · exact .inl (by rw [h]; exact own_lK A)
      · exact .inl (by rw [h]; exact own_lP A)
      · exact .inl (by rw [h]; exact own_lB A)
      · exact .inl (.inr (.inl (by unfold Lay.lists; simp [h])))
      · rw [h]
        exact .inr hl
    · exact .inl (.inr (.inr (.inl h)))
    · rcases List.mem_append.mp h with h | h
      · exact .inl (.inr (.inr (.inr (.inl h))))
      · have e : c = b := by simpa using h
        rw [e]
        exact .inr hn
    · exact .inl (.inr (.inr (.inr (.inr (.inl h)))))
    · exact .inl (.inr (.inr (.inr (.inr (.inr h)))))
  · rw [upd_ne (fun q => n (by rw [q]; exact own_lK A))]
    exact k c u e
theorem not_t {b : Bool} (h : (!b) = true) : b = false := by cases b <;> simp_all
theorem not_f {b : Bool} (h : ¬ (!b) = true) : b = true := by cases b <;> simp_all
theorem airG {d : Ad} {H : Hp} {A : Lay} {s : Sy54.St} {c : List (Option Nat)} (a : Air d H A s c) (e : conts s = c) (g : Good s) : AirG d H A s := ⟨by rw [e]; exact a, g⟩
theorem refuse {d : Ad} {A : Lay} {H H1 : Hp} {s : Sy54.St} {r : Sy54.St × Sy54.Ans} {z : Int} {Q : VK} (k : PostR d A H r Q) (e : r = (s, Sy54.ok z)) (g : AirG d H A s) (w : Same H H1) : ([V.int z] : List V).length ≤ sizeLine ∧ ∀ p, H1 p = none → Q (.ref p) (upd H1 p (.lst [V.int z])) := by
  subst e
  exact ⟨by show 1 ≤ sizeLine; decide, fun p hp => finish k (g.same w) (.still (.same w)) hp rfl⟩
section
variable {P : Program} {w : World} {K : PySem.W.Frag} {mg : Str → Option Value} {base : Heap} {d : Ad} {x : Fx}
noncomputable abbrev clFlight : List Nat → Sy54.Call := fun _ => .flight
noncomputable def okNil (_ : Sy54.St) (ns : List Nat) : Prop := ns = []
noncomputable def PsAll_add_flight (K : PySem.W.Frag) (d : Ad) (x : Fx) (b : List Stmt) (u : TS) : Prop := ∀ (P : Program) (w : World) (mg : Str → Option Value) (base : Heap) (T : Txt K mg d x) (cdv : Value) (Ar : Around) (outer : List Env) (st : Shared) (H : Hp) (E : XK) (hr : Room 2 (Ar.deeper (envOfC "add_flight" (defScope s_add_flight) st.heap.objs.size x.f_add_flight cdv))), PSs (cxOf CX0 P w K mg base ["airport", "told"] "add_flight" (defScope s_add_flight) x.f_add_flight cdv Ar outer st H E).nox b u
noncomputable def q_add_flight_0 (K : PySem.W.Frag) (d : Ad) (x : Fx) : { u : TS // PsAll_add_flight K d x ((defBody s_add_flight).drop 0) u } := ⟨_, fun P w mg base T cdv Ar outer st H E hr => (pss_cons (ps_if (pt_cmpR op_ge (pe_callB (lenK (K := K) rfl) (by rfl) T.z_len PySem.boot_len (pa_cons (pe_fldK (K := K) rfl (pv 0) rfl) pa_nil)) (pe_glob (v := .int (8)) rfl T.c_MOST_FLIGHTS.choose_spec ⟨_, rfl⟩) (nomark _)) (pss_one (ps_ret (pe_lst (pa_cons (pe_glob (v := .int (-5)) rfl T.c_NO_ROOM.choose_spec ⟨_, rfl⟩) pa_nil)))) pss_nil) (pss_cons (ps_expr (pe_bmK (K := K) rfl PySem.F.plainAttrs_list PySem.F.slot_list_append PySem.F.type_list_append mt_append (pe_fldK (K := K) rfl (pv 0) rfl) (pa_cons (pe_make0 T.mk_Flight (ok_Flight T) (hr.mono (by decide)) rfl T.m_Flight (bd_Flight T.F_Flight) .nil pass0) pa_nil))) (pss_one (ps_ret (pe_lst (pa_cons (pe_op op_sub (pe_callB (lenK (K := K) rfl) (by rfl) T.z_len PySem.boot_len (pa_cons (pe_fldK (K := K) rfl (pv 0) rfl) pa_nil)) pe_int) pa_nil))))))⟩
theorem ok_add_flight (T : Txt K mg d x) : FnOk P w K mg base CX0 3 x.f_add_flight x.d_add_flight ["airport", "told"] (spAct d clFlight okNil) := by
  refine okQ T.F_add_flight sc_add_flight (fun vs H Q E h => ?_) (fun cdv Ar outer st H E hr => (q_add_flight_0 K d x).2 _ _ _ _ T cdv Ar outer st H E hr) (fun vs H Q E h => ?_)
  · obtain ⟨_, _, _, _, rfl, _⟩ := h
    rfl
  · obtain ⟨A, s, t, ns, rfl, g, ht, nt, hok, k⟩ := h
    have a := g.a
    refine ⟨_, rfl, r_flights T a ⟨_, _, rfl, .inl (SqL.of a.L.hF), _, _, rfl, rfl, _, rfl, ?_⟩⟩
    have el : (A.fs.map V.ref).length = s.gone.length := by rw [List.length_map, a.F.len]
    refine ite2 (fun h1 => ?_) (fun h1 => ?_)
    · have h1 : (8 : Int) ≤ ((A.fs.map V.ref).length : Int) := of_decide_eq_true h1
      rw [el] at h1
      exact refuse k (by show Sy54.step s .flight = _; simp only [Sy54.step]; rw [if_pos (show Sy54.FLIGHTS ≤ s.gone.length by show 8 ≤ _; omega)]) g (Same.refl _)
    · have h1 : ¬ (8 : Int) ≤ ((A.fs.map V.ref).length : Int) := fun q => h1 (decide_eq_true q)
      rw [el] at h1
      have hlt : s.gone.length < 8 := by omega
      have es : Sy54.step s (clFlight ns) = ({ s with gone := s.gone ++ [false] }, Sy54.ok (s.gone.length : Nat)) := by
        show Sy54.step s .flight = _
        simp only [Sy54.step]
        rw [if_neg (show ¬ Sy54.FLIGHTS ≤ s.gone.length by show ¬ 8 ≤ _; omega)]
      rw [es] at k
      refine ⟨_, rfl, r_flights T a ⟨.inl ⟨rfl, _, SqL.of a.L.hF⟩, ?_⟩⟩
      intro b dx nb ndx ne
      refine ⟨b, dx, rfl, upd_same, fun H1 hb kp => ⟨rfl, ?_⟩⟩
      have sm : Same H H1 := Same.made nb ndx kp
      refine ⟨A.lF, _, _, rfl, rfl, sm _ _ a.L.hF, (by rw [el]; exact small1000 (by omega)), ?_⟩
      have a2 := a.pushF sm nb hb
      have g2 := airG a2 (conts_same (s := s) rfl rfl) (g.g.flight hlt)
      refine ⟨_, rfl, r_flights (A := { A with fs := A.fs ++ [b] }) T a2 ⟨_, _, rfl, .inl (SqL.of a2.L.hF), _, _, rfl, rfl, by show 1 ≤ sizeLine; decide, fun p hp => ?_⟩⟩
      refine finish k g2 (Grow.pushF sm nb) hp ?_
      show [V.int ((((A.fs ++ [b]).map V.ref).length : Int) - 1)] = [V.int (s.gone.length : Nat)]
      rw [List.length_map, List.length_append, a.F.len]
      simp
noncomputable abbrev clPerson : List Nat → Sy54.Call := fun ns => .person (Sy54Neutral.g ns 0)
noncomputable def okF (s : Sy54.St) (ns : List Nat) : Prop := ∃ f, ns = [f] ∧ f < s.gone.length
theorem gone_of {s : Sy54.St} {f : Nat} {b : Bool} (h : s.gone[f]? = some b) : Sy54.isGone s f = b := getD_some true h
noncomputable def PsAll_add_passenger (K : PySem.W.Frag) (d : Ad) (x : Fx) (b : List Stmt) (u : TS) : Prop := ∀ (P : Program) (w : World) (mg : Str → Option Value) (base : Heap) (T : Txt K mg d x) (cdv : Value) (Ar : Around) (outer : List Env) (st : Shared) (H : Hp) (E : XK) (hr : Room 2 (Ar.deeper (envOfC "add_passenger" (defScope s_add_passenger) st.heap.objs.size x.f_add_passenger cdv))), PSs (cxOf CX0 P w K mg base ["airport", "told", "flight"] "add_passenger" (defScope s_add_passenger) x.f_add_passenger cdv Ar outer st H E).nox b u
noncomputable def q_add_passenger_0 (K : PySem.W.Frag) (d : Ad) (x : Fx) : { u : TS // PsAll_add_passenger K d x ((defBody s_add_passenger).drop 0) u } := ⟨_, fun P w mg base T cdv Ar outer st H E hr => (pss_cons (ps_set (i := 2) sc_add_passenger.nd rfl (Or.inl rfl) (pe_ix (ix_listK (K := K) rfl) (pv 1) pe_int (fun _ _ => rfl))) (pss_cons (ps_if (pt_val (pe_fldK (K := K) rfl (pe_ix (ix_listK (K := K) rfl) (pe_fldK (K := K) rfl (pv 0) rfl) (pv 2) (fun _ _ => rfl)) rfl)) (pss_one (ps_ret (pe_lst (pa_cons (pe_glob (v := .int (-4)) rfl T.c_NOT_SO.choose_spec ⟨_, rfl⟩) pa_nil)))) pss_nil) (pss_cons (ps_if (pt_cmpR op_ge (pe_callB (lenK (K := K) rfl) (by rfl) T.z_len PySem.boot_len (pa_cons (pe_fldK (K := K) rfl (pv 0) rfl) pa_nil)) (pe_glob (v := .int (40)) rfl T.c_MOST_PASSENGERS.choose_spec ⟨_, rfl⟩) (nomark _)) (pss_one (ps_ret (pe_lst (pa_cons (pe_glob (v := .int (-5)) rfl T.c_NO_ROOM.choose_spec ⟨_, rfl⟩) pa_nil)))) pss_nil) (pss_cons (ps_expr (pe_bmK (K := K) rfl PySem.F.plainAttrs_list PySem.F.slot_list_append PySem.F.type_list_append mt_append (pe_fldK (K := K) rfl (pv 0) rfl) (pa_cons (pe_make T.mk_Passenger (ok_Passenger T) (hr.mono (by decide)) rfl T.m_Passenger (bd_Passenger T.F_Passenger) .nil pass0 (pa_cons (pv 2) pa_nil)) pa_nil))) (pss_one (ps_ret (pe_lst (pa_cons (pe_op op_sub (pe_callB (lenK (K := K) rfl) (by rfl) T.z_len PySem.boot_len (pa_cons (pe_fldK (K := K) rfl (pv 0) rfl) pa_nil)) pe_int) pa_nil))))))))⟩
theorem ok_add_passenger (T : Txt K mg d x) : FnOk P w K mg base CX0 3 x.f_add_passenger x.d_add_passenger ["airport", "told"] (spAct d clPerson okF) := by
  refine okQ T.F_add_passenger sc_add_passenger (fun vs H Q E h => ?_) (fun cdv Ar outer st H E hr => (q_add_passenger_0 K d x).2 _ _ _ _ T cdv Ar outer st H E hr) (fun vs H Q E h => ?_)
  · obtain ⟨_, _, _, _, rfl, _⟩ := h
    rfl
  · obtain ⟨A, s, t, ns, rfl, g, ht, nt, ⟨f, rfl, hf⟩, k⟩ := h
    have a := g.a
    obtain ⟨fb, gb, hfb, hgb⟩ := a.flightAt hf
    have eg := gone_of hgb
    refine ⟨_, rfl, ix_int (i := 0) ht rfl ?_⟩
    refine ⟨_, rfl, r_flights T a ⟨_, rfl, ix_ref a.L.hF hfb (r_gone T a hfb hgb ⟨_, rfl, ?_⟩)⟩⟩
    have e0 : Sy54.step s (clPerson [f]) = Sy54.onFlight s f fun _ => if Sy54.PEOPLE ≤ s.people.length then (s, Sy54.ok (-5)) else ({ s with people := s.people ++ [⟨f, 0⟩] }, Sy54.ok (s.people.length : Nat)) := rfl
    rw [e0] at k
    unfold Sy54.onFlight at k
    rw [if_neg (by omega), eg] at k
    refine ite2 (fun h1 => ?_) (fun h1 => ?_)
    · rw [if_pos h1] at k
      exact refuse k rfl g (Same.refl _)
    rw [if_neg h1] at k
    have el : (A.ps.map V.ref).length = s.people.length := by rw [List.length_map, a.P.len]
    refine ⟨_, rfl, r_passengers T a ⟨_, _, rfl, .inl (SqL.of a.L.hP), _, _, rfl, rfl, _, rfl, ?_⟩⟩
    refine ite2 (fun h2 => ?_) (fun h2 => ?_)
    · have h2 : (40 : Int) ≤ ((A.ps.map V.ref).length : Int) := of_decide_eq_true h2
      rw [el] at h2
      rw [if_pos (show Sy54.PEOPLE ≤ s.people.length by show 40 ≤ _; omega)] at k
      exact refuse k rfl g (Same.refl _)
    · have h2 : ¬ (40 : Int) ≤ ((A.ps.map V.ref).length : Int) := fun q => h2 (decide_eq_true q)
      rw [el] at h2
      rw [if_neg (show ¬ Sy54.PEOPLE ≤ s.people.length by show ¬ 40 ≤ _; omega)] at k
      have hlt : s.people.length < 40 := by omega
      refine ⟨_, rfl, r_passengers T a ⟨.inl ⟨rfl, _, SqL.of a.L.hP⟩, _, rfl, ?_⟩⟩
      intro b dx nb ndx ne
      refine ⟨b, dx, f, rfl, upd_same, fun H1 hb kp => ⟨rfl, ?_⟩⟩
      have sm : Same H H1 := Same.made nb ndx kp
      refine ⟨A.lP, _, _, rfl, rfl, sm _ _ a.L.hP, (by rw [el]; exact small1000 (by omega)), ?_⟩
      have a2 := a.pushP sm nb hb
      have g2 := airG a2 (conts_same (s := s) rfl rfl) (g.g.person hlt hf)
      refine ⟨_, rfl, r_passengers (A := { A with ps := A.ps ++ [b] }) T a2 ⟨_, _, rfl, .inl (SqL.of a2.L.hP), _, _, rfl, rfl, by show 1 ≤ sizeLine; decide, fun p hp => ?_⟩⟩
      refine finish k g2 (Grow.pushP sm nb) hp ?_
      show [V.int ((((A.ps ++ [b]).map V.ref).length : Int) - 1)] = [V.int (s.people.length : Nat)]
      rw [List.length_map, List.length_append, a.P.len]
      simp
noncomputable abbrev clBag : List Nat → Sy54.Call := fun ns => .bag (Sy54Neutral.g ns 0) (Sy54Neutral.g ns 1)
noncomputable def okP1 (s : Sy54.St) (ns : List Nat) : Prop := ∃ p w, ns = [p, w] ∧ p < s.people.length
noncomputable def PsAll_add_bag (K : PySem.W.Frag) (d : Ad) (x : Fx) (b : List Stmt) (u : TS) : Prop := ∀ (P : Program) (w : World) (mg : Str → Option Value) (base : Heap) (T : Txt K mg d x) (cdv : Value) (Ar : Around) (outer : List Env) (st : Shared) (H : Hp) (E : XK) (hr : Room 2 (Ar.deeper (envOfC "add_bag" (defScope s_add_bag) st.heap.objs.size x.f_add_bag cdv))), PSs (cxOf CX0 P w K mg base ["airport", "told", "owner", "weight"] "add_bag" (defScope s_add_bag) x.f_add_bag cdv Ar outer st H E).nox b u
noncomputable def q_add_bag_5 (K : PySem.W.Frag) (d : Ad) (x : Fx) : { u : TS // PsAll_add_bag K d x ((defBody s_add_bag).drop 5) u } := ⟨_, fun P w mg base T cdv Ar outer st H E hr => (pss_cons (ps_expr (pe_bmK (K := K) rfl PySem.F.plainAttrs_list PySem.F.slot_list_append PySem.F.type_list_append mt_append (pe_fldK (K := K) rfl (pv 0) rfl) (pa_cons (pe_make T.mk_Bag (ok_Bag T) (hr.mono (by decide)) rfl T.m_Bag (bd_Bag T.F_Bag) .nil pass0 (pa_cons (pv 2) (pa_cons (pv 3) pa_nil))) pa_nil))) (pss_one (ps_ret (pe_lst (pa_cons (pe_op op_sub (pe_callB (lenK (K := K) rfl) (by rfl) T.z_len PySem.boot_len (pa_cons (pe_fldK (K := K) rfl (pv 0) rfl) pa_nil)) pe_int) pa_nil)))))⟩
noncomputable def q_add_bag_0 (K : PySem.W.Frag) (d : Ad) (x : Fx) : { u : TS // PsAll_add_bag K d x ((defBody s_add_bag).drop 0) u } := ⟨_, fun P w mg base T cdv Ar outer st H E hr => (pss_cons (ps_set (i := 2) sc_add_bag.nd rfl (Or.inl rfl) (pe_ix (ix_listK (K := K) rfl) (pv 1) pe_int (fun _ _ => rfl))) (pss_cons (ps_set (i := 3) sc_add_bag.nd rfl (Or.inl rfl) (pe_ix (ix_listK (K := K) rfl) (pv 1) pe_int (fun _ _ => rfl))) (pss_cons (ps_if (pt_val (pe_fldK (K := K) rfl (pe_ix (ix_listK (K := K) rfl) (pe_fldK (K := K) rfl (pv 0) rfl) (pe_fldK (K := K) rfl (pe_ix (ix_listK (K := K) rfl) (pe_fldK (K := K) rfl (pv 0) rfl) (pv 2) (fun _ _ => rfl)) rfl) (fun _ _ => rfl)) rfl)) (pss_one (ps_ret (pe_lst (pa_cons (pe_glob (v := .int (-4)) rfl T.c_NOT_SO.choose_spec ⟨_, rfl⟩) pa_nil)))) pss_nil) (pss_cons (ps_if (pt_not (pt_val (pe_call (ok_is_size T) (hr.mono (by decide)) rfl T.m_is_size T.F_is_size.kp (bd_is_size T.F_is_size) .nil pass0 (pa_cons (pv 3) (pa_cons (pe_glob (v := .int (100)) rfl T.c_MOST_BAG_WEIGHT.choose_spec ⟨_, rfl⟩) pa_nil))))) (pss_one (ps_ret (pe_lst (pa_cons (pe_glob (v := .int (-1)) rfl T.c_WRONG_SIZE.choose_spec ⟨_, rfl⟩) pa_nil)))) pss_nil) (pss_cons (ps_if (pt_cmpR op_ge (pe_callB (lenK (K := K) rfl) (by rfl) T.z_len PySem.boot_len (pa_cons (pe_fldK (K := K) rfl (pv 0) rfl) pa_nil)) (pe_glob (v := .int (60)) rfl T.c_MOST_BAGS.choose_spec ⟨_, rfl⟩) (nomark _)) (pss_one (ps_ret (pe_lst (pa_cons (pe_glob (v := .int (-5)) rfl T.c_NO_ROOM.choose_spec ⟨_, rfl⟩) pa_nil)))) pss_nil) ((q_add_bag_5 K d x).2 P w mg base T cdv Ar outer st H E hr))))))⟩
theorem ok_add_bag (T : Txt K mg d x) : FnOk P w K mg base CX0 3 x.f_add_bag x.d_add_bag ["airport", "told"] (spAct d clBag okP1) := by
  refine okQ T.F_add_bag sc_add_bag (fun vs H Q E h => ?_) (fun cdv Ar outer st H E hr => (q_add_bag_0 K d x).2 _ _ _ _ T cdv Ar outer st H E hr) (fun vs H Q E h => ?_)
  · obtain ⟨_, _, _, _, rfl, _⟩ := h
    rfl
  · obtain ⟨A, s, t, ns, rfl, g, ht, nt, ⟨p, wt, rfl, hp⟩, k⟩ := h
    have a := g.a
    obtain ⟨pb, y, hpb, hy⟩ := a.personAt hp
    obtain ⟨fb, gb, hfb, hgb⟩ := a.flightAt (g.g.pf p y hy)
    have eg := gone_of hgb
    refine ⟨_, rfl, ix_int (i := 0) ht rfl ?_⟩
    refine ⟨_, rfl, ix_int (i := 1) ht rfl ?_⟩
    refine ⟨_, rfl, r_flights T a ⟨_, rfl, r_passengers T a ⟨_, rfl, ix_ref a.L.hP hpb (r_pflight T a hpb hy (ix_ref a.L.hF hfb (r_gone T a hfb hgb ⟨_, rfl, ?_⟩)))⟩⟩⟩
    have e0 : Sy54.step s (clBag [p, wt]) = Sy54.onPerson s p fun _ => if wt < 1 ∨ 100 < wt then (s, Sy54.ok (-1)) else if Sy54.BAGS ≤ s.bags.length then (s, Sy54.ok (-5)) else ({ s with bags := s.bags ++ [⟨p, wt, 0, false⟩] }, Sy54.ok (s.bags.length : Nat)) := rfl
    rw [e0] at k
    unfold Sy54.onPerson at k
    simp only [hy, eg] at k
    refine ite2 (fun h1 => ?_) (fun h1 => ?_)
    · rw [if_pos h1] at k
      exact refuse k rfl g (Same.refl _)
    rw [if_neg h1] at k
    refine ⟨_, rfl, wt, 100, rfl, _, rfl, ?_⟩
    refine ite2 (fun h2 => ?_) (fun h2 => ?_)
    · have h2 : decide (1 ≤ wt ∧ wt ≤ 100) = false := not_t h2
      have h2 := of_decide_eq_false h2
      rw [if_pos (by omega)] at k
      exact refuse k rfl g (Same.refl _)
    have h2 : decide (1 ≤ wt ∧ wt ≤ 100) = true := not_f h2
    have h2 := of_decide_eq_true h2
    rw [if_neg (by omega)] at k
    have el : (A.bs.map V.ref).length = s.bags.length := by rw [List.length_map, a.B.len]
    refine ⟨_, rfl, r_bags T a ⟨_, _, rfl, .inl (SqL.of a.L.hB), _, _, rfl, rfl, _, rfl, ?_⟩⟩
    refine ite2 (fun h3 => ?_) (fun h3 => ?_)
    · have h3 : (60 : Int) ≤ ((A.bs.map V.ref).length : Int) := of_decide_eq_true h3
      rw [el] at h3
      rw [if_pos (show Sy54.BAGS ≤ s.bags.length by show 60 ≤ _; omega)] at k
      exact refuse k rfl g (Same.refl _)
    · have h3 : ¬ (60 : Int) ≤ ((A.bs.map V.ref).length : Int) := fun q => h3 (decide_eq_true q)
      rw [el] at h3
      rw [if_neg (show ¬ Sy54.BAGS ≤ s.bags.length by show ¬ 60 ≤ _; omega)] at k
      have hlt : s.bags.length < 60 := by omega
      refine ⟨_, rfl, r_bags T a ⟨.inl ⟨rfl, _, SqL.of a.L.hB⟩, _, rfl, _, rfl, ?_⟩⟩
      intro b dx nb ndx ne
      refine ⟨b, dx, p, wt, rfl, upd_same, fun H1 hb kp => ⟨rfl, ?_⟩⟩
      have sm : Same H H1 := Same.made nb ndx kp
      refine ⟨A.lB, _, _, rfl, rfl, sm _ _ a.L.hB, (by rw [el]; exact small1000 (by omega)), ?_⟩
      have a2 := a.pushB sm nb hb
      have g2 := airG a2 (conts_bag g.g) (g.g.bag hlt hp)
      refine ⟨_, rfl, r_bags (A := { A with bs := A.bs ++ [b] }) T a2 ⟨_, _, rfl, .inl (SqL.of a2.L.hB), _, _, rfl, rfl, by show 1 ≤ sizeLine; decide, fun q hq => ?_⟩⟩
      refine finish k g2 (Grow.pushB sm nb) hq ?_
      show [V.int ((((A.bs ++ [b]).map V.ref).length : Int) - 1)] = [V.int (s.bags.length : Nat)]
      rw [List.length_map, List.length_append, a.B.len]
      simp
noncomputable abbrev clBox : List Nat → Sy54.Call := fun ns => .box (Sy54Neutral.g ns 0) (Sy54Neutral.g ns 1) (Sy54Neutral.g ns 2)
noncomputable def okF2 (s : Sy54.St) (ns : List Nat) : Prop := ∃ f n w, ns = [f, n, w] ∧ f < s.gone.length
noncomputable def PsAll_add_container (K : PySem.W.Frag) (d : Ad) (x : Fx) (b : List Stmt) (u : TS) : Prop := ∀ (P : Program) (w : World) (mg : Str → Option Value) (base : Heap) (T : Txt K mg d x) (cdv : Value) (Ar : Around) (outer : List Env) (st : Shared) (H : Hp) (E : XK) (hr : Room 2 (Ar.deeper (envOfC "add_container" (defScope s_add_container) st.heap.objs.size x.f_add_container cdv))), PSs (cxOf CX0 P w K mg base ["airport", "told", "flight", "room", "limit"] "add_container" (defScope s_add_container) x.f_add_container cdv Ar outer st H E).nox b u
noncomputable def q_add_container_5 (K : PySem.W.Frag) (d : Ad) (x : Fx) : { u : TS // PsAll_add_container K d x ((defBody s_add_container).drop 5) u } := ⟨_, fun P w mg base T cdv Ar outer st H E hr => (pss_cons (ps_if (pt_cmpR op_ge (pe_callB (lenK (K := K) rfl) (by rfl) T.z_len PySem.boot_len (pa_cons (pe_fldK (K := K) rfl (pv 0) rfl) pa_nil)) (pe_glob (v := .int (12)) rfl T.c_MOST_CONTAINERS.choose_spec ⟨_, rfl⟩) (nomark _)) (pss_one (ps_ret (pe_lst (pa_cons (pe_glob (v := .int (-5)) rfl T.c_NO_ROOM.choose_spec ⟨_, rfl⟩) pa_nil)))) pss_nil) (pss_cons (ps_expr (pe_bmK (K := K) rfl PySem.F.plainAttrs_list PySem.F.slot_list_append PySem.F.type_list_append mt_append (pe_fldK (K := K) rfl (pv 0) rfl) (pa_cons (pe_make T.mk_Container (ok_Container T) (hr.mono (by decide)) rfl T.m_Container (bd_Container T.F_Container) .nil pass0 (pa_cons (pv 2) (pa_cons (pv 3) (pa_cons (pv 4) pa_nil)))) pa_nil))) (pss_one (ps_ret (pe_lst (pa_cons (pe_op op_sub (pe_callB (lenK (K := K) rfl) (by rfl) T.z_len PySem.boot_len (pa_cons (pe_fldK (K := K) rfl (pv 0) rfl) pa_nil)) pe_int) pa_nil))))))⟩
noncomputable def q_add_container_0 (K : PySem.W.Frag) (d : Ad) (x : Fx) : { u : TS // PsAll_add_container K d x ((defBody s_add_container).drop 0) u } := ⟨_, fun P w mg base T cdv Ar outer st H E hr => (pss_cons (ps_set (i := 2) sc_add_container.nd rfl (Or.inl rfl) (pe_ix (ix_listK (K := K) rfl) (pv 1) pe_int (fun _ _ => rfl))) (pss_cons (ps_set (i := 3) sc_add_container.nd rfl (Or.inl rfl) (pe_ix (ix_listK (K := K) rfl) (pv 1) pe_int (fun _ _ => rfl))) (pss_cons (ps_set (i := 4) sc_add_container.nd rfl (Or.inl rfl) (pe_ix (ix_listK (K := K) rfl) (pv 1) pe_int (fun _ _ => rfl))) (pss_cons (ps_if (pt_val (pe_fldK (K := K) rfl (pe_ix (ix_listK (K := K) rfl) (pe_fldK (K := K) rfl (pv 0) rfl) (pv 2) (fun _ _ => rfl)) rfl)) (pss_one (ps_ret (pe_lst (pa_cons (pe_glob (v := .int (-4)) rfl T.c_NOT_SO.choose_spec ⟨_, rfl⟩) pa_nil)))) pss_nil) (pss_cons (ps_if (PW.pt (pw_or (pt_not (pt_val (pe_call (ok_is_size T) (hr.mono (by decide)) rfl T.m_is_size T.F_is_size.kp (bd_is_size T.F_is_size) .nil pass0 (pa_cons (pv 3) (pa_cons (pe_glob (v := .int (20)) rfl T.c_MOST_BAGS_WITHIN.choose_spec ⟨_, rfl⟩) pa_nil))))) (pw_or1 (pt_not (pt_val (pe_call (ok_is_size T) (hr.mono (by decide)) rfl T.m_is_size T.F_is_size.kp (bd_is_size T.F_is_size) .nil pass0 (pa_cons (pv 4) (pa_cons (pe_glob (v := .int (2000)) rfl T.c_MOST_WEIGHT_WITHIN.choose_spec ⟨_, rfl⟩) pa_nil)))))))) (pss_one (ps_ret (pe_lst (pa_cons (pe_glob (v := .int (-1)) rfl T.c_WRONG_SIZE.choose_spec ⟨_, rfl⟩) pa_nil)))) pss_nil) ((q_add_container_5 K d x).2 P w mg base T cdv Ar outer st H E hr))))))⟩
theorem ok_add_container (T : Txt K mg d x) : FnOk P w K mg base CX0 3 x.f_add_container x.d_add_container ["airport", "told"] (spAct d clBox okF2) := by
  refine okQ T.F_add_container sc_add_container (fun vs H Q E h => ?_) (fun cdv Ar outer st H E hr => (q_add_container_0 K d x).2 _ _ _ _ T cdv Ar outer st H E hr) (fun vs H Q E h => ?_)
  · obtain ⟨_, _, _, _, rfl, _⟩ := h
    rfl
  · obtain ⟨A, s, t, ns, rfl, g, ht, nt, ⟨f, n, wt, rfl, hf⟩, k⟩ := h
    have a := g.a
    obtain ⟨fb, gb, hfb, hgb⟩ := a.flightAt hf
    have eg := gone_of hgb
    refine ⟨_, rfl, ix_int (i := 0) ht rfl ?_⟩
    refine ⟨_, rfl, ix_int (i := 1) ht rfl ?_⟩
    refine ⟨_, rfl, ix_int (i := 2) ht rfl ?_⟩
    refine ⟨_, rfl, r_flights T a ⟨_, rfl, ix_ref a.L.hF hfb (r_gone T a hfb hgb ⟨_, rfl, ?_⟩)⟩⟩
    have e0 : Sy54.step s (clBox [f, n, wt]) = Sy54.onFlight s f fun _ => if n < 1 ∨ 20 < n ∨ wt < 1 ∨ 2000 < wt then (s, Sy54.ok (-1)) else if Sy54.BOXES ≤ s.boxes.length then (s, Sy54.ok (-5)) else ({ s with boxes := s.boxes ++ [⟨f, n, wt, []⟩] }, Sy54.ok (s.boxes.length : Nat)) := rfl
    rw [e0] at k
    unfold Sy54.onFlight at k
    rw [if_neg (by omega), eg] at k
    refine ite2 (fun h1 => ?_) (fun h1 => ?_)
    · rw [if_pos h1] at k
      exact refuse k rfl g (Same.refl _)
    rw [if_neg h1] at k
    refine ⟨_, rfl, n, 20, rfl, _, rfl, ?_⟩
    refine ite2 (fun h2 => ?_) (fun h2 => ?_)
    · have h2 : decide (1 ≤ n ∧ n ≤ 20) = false := not_t h2
      have h2 := of_decide_eq_false h2
      rw [if_pos (by omega)] at k
      exact iteT (refuse k rfl g (Same.refl _))
    have h2 : decide (1 ≤ n ∧ n ≤ 20) = true := not_f h2
    have h2 := of_decide_eq_true h2
    refine ⟨_, rfl, wt, 2000, rfl, _, rfl, ?_⟩
    refine ite2 (fun h4 => ?_) (fun h4 => ?_)
    · have h4 : decide (1 ≤ wt ∧ wt ≤ 2000) = false := not_t h4
      have h4 := of_decide_eq_false h4
      rw [if_pos (by omega)] at k
      exact refuse k rfl g (Same.refl _)
    have h4 : decide (1 ≤ wt ∧ wt ≤ 2000) = true := not_f h4
    have h4 := of_decide_eq_true h4
    rw [if_neg (by omega)] at k
    have el : (A.ks.map V.ref).length = s.boxes.length := by rw [List.length_map, a.K.len]
    refine ⟨_, rfl, r_containers T a ⟨_, _, rfl, .inl (SqL.of a.L.hK), _, _, rfl, rfl, _, rfl, ?_⟩⟩
    refine ite2 (fun h3 => ?_) (fun h3 => ?_)
    · have h3 : (12 : Int) ≤ ((A.ks.map V.ref).length : Int) := of_decide_eq_true h3
      rw [el] at h3
      rw [if_pos (show Sy54.BOXES ≤ s.boxes.length by show 12 ≤ _; omega)] at k
      exact refuse k rfl g (Same.refl _)
    · have h3 : ¬ (12 : Int) ≤ ((A.ks.map V.ref).length : Int) := fun q => h3 (decide_eq_true q)
      rw [el] at h3
      rw [if_neg (show ¬ Sy54.BOXES ≤ s.boxes.length by show ¬ 12 ≤ _; omega)] at k
      have hlt : s.boxes.length < 12 := by omega
      refine ⟨_, rfl, r_containers T a ⟨.inl ⟨rfl, _, SqL.of a.L.hK⟩, _, rfl, _, rfl, _, rfl, ?_⟩⟩
      intro b dx nb ndx ne
      refine ⟨b, dx, f, n, wt, rfl, upd_same, fun H1 l hb hl hl1 kp => ⟨rfl, ?_⟩⟩
      have sm : Same H H1 := Same.made nb ndx kp
      obtain ⟨_, hl⟩ := upd_none hl
      obtain ⟨_, hl⟩ := upd_none hl
      refine ⟨A.lK, _, _, rfl, rfl, sm _ _ a.L.hK, (by rw [el]; exact small1000 (by omega)), ?_⟩
      have a2 := a.pushK sm nb hb hl hl1
      have gg := g.g.box (f := f) (n := n) (w := wt) hlt hf h2.2
      have g2 := airG a2 (conts_box g.g gg) gg
      refine ⟨_, rfl, r_containers (A := { A with ks := A.ks ++ [b], piles := A.piles ++ [l] }) T a2 ⟨_, _, rfl, .inl (SqL.of a2.L.hK), _, _, rfl, rfl, by show 1 ≤ sizeLine; decide, fun q hq => ?_⟩⟩
      refine finish k g2 (Grow.pushK sm nb hl) hq ?_
      show [V.int ((((A.ks ++ [b]).map V.ref).length : Int) - 1)] = [V.int (s.boxes.length : Nat)]
      rw [List.length_map, List.length_append, a.K.len]
      simp
end
end Bg
end
section
set_option Elab.async false
set_option linter.all false
set_option maxRecDepth 100000
set_option maxHeartbeats 2000000
namespace Bg
open PySem PySem.Spec PyProof.Rows L2
theorem ivs_ints (m : List Nat) : ivs m = (Sy54.ints m).map V.int := by
  unfold ivs Sy54.ints
  rw [List.map_map]
  rfl
theorem ints_sum : ∀ m : List Nat, (Sy54.ints m).sum = ((m.sum : Nat) : Int)
  | [] => rfl
  | a :: r => by
    have ih := ints_sum r
    unfold Sy54.ints at ih ⊢
    rw [List.map_cons, List.sum_cons, List.sum_cons, ih]
    simp
theorem take_snoc {α : Type} {l : List α} {i : Nat} {a : α} (h : l[i]? = some a) : l.take (i + 1) = l.take i ++ [a] := by
  rw [List.take_succ, h]
  rfl
theorem Same.new {H H' : Hp} {D : Addr} {o : HO} (k : Same H H') (h : H D = none) : Same H (upd H' D o) := fun b u e => by
  rw [upd_ne (ne_of_none e h)]
  exact k b u e
theorem getIvs {l : List Nat} {i : Nat} {v : V} (h : (ivs l)[i]? = some v) : ∃ n, l[i]? = some n ∧ v = iv n := by
  unfold ivs at h
  rw [List.getElem?_map] at h
  cases e : l[i]? with
  | none => rw [e] at h; cases h
  | some n => rw [e] at h; exact ⟨n, rfl, (Option.some.inj h).symm⟩
theorem getRef {l : List Addr} {i : Nat} {v : V} (h : (l.map V.ref)[i]? = some v) : ∃ a, l[i]? = some a ∧ v = .ref a := by
  rw [List.getElem?_map] at h
  cases e : l[i]? with
  | none => rw [e] at h; cases h
  | some n => rw [e] at h; exact ⟨n, rfl, (Option.some.inj h).symm⟩
section
variable {P : Program} {w : World} {K : PySem.W.Frag} {mg : Str → Option Value} {base : Heap} {d : Ad} {x : Fx}
noncomputable def spWeight (d : Ad) : Sp := fun vs H Q _ => ∃ (A : Lay) (s : Sy54.St) (c : List (Option Nat)) (kb : Addr) (k : Nat) (y : Sy54.Box), vs = [.ref A.p, .ref kb] ∧ Air d H A s c ∧ A.ks[k]? = some kb ∧ s.boxes[k]? = some y ∧ Good s ∧ ∀ H', Same H H' → Q (iv (Sy54.weightOf s y.bags)) H'
noncomputable def PsAll_weight_within (K : PySem.W.Frag) (d : Ad) (x : Fx) (b : List Stmt) (u : TS) : Prop := ∀ (P : Program) (w : World) (mg : Str → Option Value) (base : Heap) (T : Txt K mg d x) (cdv : Value) (Ar : Around) (outer : List Env) (st : Shared) (H : Hp) (E : XK) (hr : Room 0 (Ar.deeper (envOfC "weight_within" (defScope s_weight_within) st.heap.objs.size x.f_weight_within cdv))), PSs (cxOf CX0 P w K mg base ["airport", "container", "number"] "weight_within" (defScope s_weight_within) x.f_weight_within cdv Ar outer st H E).nox b u
noncomputable def q_weight_within_0 (K : PySem.W.Frag) (d : Ad) (x : Fx) : { u : TS // PsAll_weight_within K d x ((defBody s_weight_within).drop 0) u } := ⟨_, fun P w mg base T cdv Ar outer st H E hr => (pss_one (ps_ret (pe_callB (sumK (K := K) rfl rfl) (by rfl) T.z_sum PyProof.Rows.boot_sum (pa_cons (pe_lc (te := (tFld K (tOp (rIxL K) (tFld K (tVar 0) "bags") (tVar 2)) "weight")) (tt := tYes) (g := gName 2) rfl sc_weight_within.nd (pi_listK (K := K) rfl (pe_fldK (K := K) rfl (pv 1) rfl)) (blkOk_by (own := [("number", 2)]) (by rfl)) (fun _ _ _ _ _ => (pg_name (i := 2) sc_weight_within.nd rfl (Or.inl rfl))) (fun _ _ _ _ _ => pts_nil) (fun _ _ _ _ _ => (pe_fldK (K := K) rfl (pe_ix (ix_listK (K := K) rfl) (pe_fldK (K := K) rfl (pv 0) rfl) (pv 2) (fun _ _ => rfl)) rfl))) pa_nil))))⟩
theorem ok_weight_within (T : Txt K mg d x) : FnOk P w K mg base CX0 1 x.f_weight_within x.d_weight_within ["airport", "container"] (spWeight d) := by
  refine okQ T.F_weight_within sc_weight_within (fun vs H Q E h => ?_) (fun cdv Ar outer st H E hr => (q_weight_within_0 K d x).2 _ _ _ _ T cdv Ar outer st H E hr) (fun vs H Q E h => ?_)
  · obtain ⟨_, _, _, _, _, _, rfl, _⟩ := h
    rfl
  · obtain ⟨A, s, c, kb, k, y, rfl, a, hk, hy, g, q⟩ := h
    obtain ⟨kb', y', l, hk', hy', hl⟩ := a.boxAt (get_lt hy)
    rw [hy] at hy'
    cases hy'
    have hL := a.L.at_ k l y hl hy
    refine ⟨_, rfl, r_pile T a hk hy hl ⟨l, rfl, ⟨_, SqL.of hL⟩, fun D hD => lc_list (K := K) (a := l) (xs := ivs y.bags) (fun i H' => Same H H' ∧ H' D = some (.lst (ivs ((y.bags.take i).map fun b => (Sy54.bagOf s b).weight)))) ⟨Same.new (Same.refl H) hD, upd_same⟩
      (fun i H' _ h => SqL.of (h.1 _ _ hL)) ?_ ?_⟩⟩
    · rintro i v H' hv ⟨sm, hDl⟩
      obtain ⟨n, hn, rfl⟩ := getIvs hv
      have hb : n < s.bags.length := g.kb k y n hy (List.mem_of_getElem? hn)
      obtain ⟨bb, z, hbb, hz⟩ := a.bagAt hb
      have a' := a.same sm
      refine ⟨rfl, ⟨_, rfl, r_bags T a' ⟨_, rfl, ix_ref a'.L.hB hbb (r_weight T a' hbb hz ⟨_, hDl, ?_, ?_⟩)⟩⟩⟩
      · rw [ivs_len, List.length_map, List.length_take]
        have := (g.kl k y hy)
        exact small1000 (by omega)
      · refine ⟨Same.new sm hD, ?_⟩
        rw [upd_same, take_snoc hn, List.map_append, ivs_app]
        have ez : (Sy54.bagOf s n).weight = z.weight := by unfold Sy54.bagOf; rw [getD_some _ hz]
        show some (HO.lst (_ ++ [iv z.weight])) = some (HO.lst (_ ++ ivs [(Sy54.bagOf s n).weight]))
        rw [ez]
        rfl
    · rintro H' ⟨sm, hDl⟩
      rw [ivs_len, List.take_length, ivs_ints] at hDl
      refine ⟨D, _, rfl, SqL.of hDl, ?_⟩
      rw [ints_sum]
      exact q H' sm
noncomputable def spRoom (d : Ad) : Sp := fun vs H Q _ => ∃ (A : Lay) (s : Sy54.St) (c : List (Option Nat)) (kb bb : Addr) (k b : Nat) (y : Sy54.Box) (z : Sy54.Bag), vs = [.ref A.p, .ref kb, .ref bb] ∧ Air d H A s c ∧ A.ks[k]? = some kb ∧ s.boxes[k]? = some y ∧ A.bs[b]? = some bb ∧ s.bags[b]? = some z ∧ Good s ∧
  ∀ H', Same H H' → Q (.bl (decide (¬ (y.holds ≤ y.bags.length ∨ y.bears < Sy54.weightOf s y.bags + z.weight)))) H'
noncomputable def PsAll_has_room_for (K : PySem.W.Frag) (d : Ad) (x : Fx) (b : List Stmt) (u : TS) : Prop := ∀ (P : Program) (w : World) (mg : Str → Option Value) (base : Heap) (T : Txt K mg d x) (cdv : Value) (Ar : Around) (outer : List Env) (st : Shared) (H : Hp) (E : XK) (hr : Room 1 (Ar.deeper (envOfC "has_room_for" (defScope s_has_room_for) st.heap.objs.size x.f_has_room_for cdv))), PSs (cxOf CX0 P w K mg base ["airport", "container", "bag"] "has_room_for" (defScope s_has_room_for) x.f_has_room_for cdv Ar outer st H E).nox b u
noncomputable def q_has_room_for_0 (K : PySem.W.Frag) (d : Ad) (x : Fx) : { u : TS // PsAll_has_room_for K d x ((defBody s_has_room_for).drop 0) u } := ⟨_, fun P w mg base T cdv Ar outer st H E hr => (pss_cons (ps_if (pt_cmpR op_ge (pe_callB (lenK (K := K) rfl) (by rfl) T.z_len PySem.boot_len (pa_cons (pe_fldK (K := K) rfl (pv 1) rfl) pa_nil)) (pe_fldK (K := K) rfl (pv 1) rfl) (nomark _)) (pss_one (ps_ret pe_bl)) pss_nil) (pss_one (ps_ret (pe_cmpR op_le (pe_op op_add (pe_call (ok_weight_within T) (hr.mono (by decide)) rfl T.m_weight_within T.F_weight_within.kp (bd_weight_within T.F_weight_within) .nil pass0 (pa_cons (pv 0) (pa_cons (pv 1) pa_nil))) (pe_fldK (K := K) rfl (pv 2) rfl)) (pe_fldK (K := K) rfl (pv 1) rfl) (nomark _)))))⟩
theorem ok_has_room_for (T : Txt K mg d x) : FnOk P w K mg base CX0 2 x.f_has_room_for x.d_has_room_for ["airport", "container", "bag"] (spRoom d) := by
  refine okQ T.F_has_room_for sc_has_room_for (fun vs H Q E h => ?_) (fun cdv Ar outer st H E hr => (q_has_room_for_0 K d x).2 _ _ _ _ T cdv Ar outer st H E hr) (fun vs H Q E h => ?_)
  · obtain ⟨_, _, _, _, _, _, _, _, _, rfl, _⟩ := h
    rfl
  · obtain ⟨A, s, c, kb, bb, k, b, y, z, rfl, a, hk, hy, hb, hz, g, q⟩ := h
    obtain ⟨kb', y', l, hk', hy', hl⟩ := a.boxAt (get_lt hy)
    rw [hy] at hy'
    cases hy'
    have hL := a.L.at_ k l y hl hy
    refine ⟨_, rfl, r_pile T a hk hy hl ⟨l, _, rfl, .inl (SqL.of hL), _, rfl, r_room T a hk hy ⟨_, _, rfl, rfl, _, rfl, ?_⟩⟩⟩
    rw [ivs_len]
    refine ite2 (fun h1 => ?_) (fun h1 => ?_)
    · have h1 : (y.holds : Int) ≤ (y.bags.length : Int) := of_decide_eq_true h1
      have e : decide (¬ (y.holds ≤ y.bags.length ∨ y.bears < Sy54.weightOf s y.bags + z.weight)) = false := decide_eq_false (by omega)
      rw [e] at q
      exact q H (Same.refl H)
    · have h1 : ¬ (y.holds : Int) ≤ (y.bags.length : Int) := fun q => h1 (decide_eq_true q)
      refine ⟨_, rfl, _, rfl, A, s, c, kb, k, y, rfl, a, hk, hy, g, fun H1 sm => ?_⟩
      have a1 := a.same sm
      refine ⟨_, rfl, r_weight T a1 hb hz ⟨_, _, rfl, rfl, _, rfl, r_limit T a1 hk hy ⟨_, _, rfl, rfl, ?_⟩⟩⟩
      have e : decide ((((Sy54.weightOf s y.bags : Nat) : Int) + ((z.weight : Nat) : Int)) ≤ ((y.bears : Nat) : Int)) = decide (¬ (y.holds ≤ y.bags.length ∨ y.bears < Sy54.weightOf s y.bags + z.weight)) := decide_eq_decide.mpr (by omega)
      show Q (.bl (decide ((((Sy54.weightOf s y.bags : Nat) : Int) + ((z.weight : Nat) : Int)) ≤ ((y.bears : Nat) : Int)))) H1
      rw [e]
      exact q H1 sm
noncomputable def ksOf (A : Lay) (l : List Nat) : List V := l.map fun i => V.ref (A.ks.getD i 0)
theorem ksOf_len (A : Lay) (l : List Nat) : (ksOf A l).length = l.length := by simp [ksOf]
theorem getKs {A : Lay} {l : List Nat} {j : Nat} {v : V} (h : (ksOf A l)[j]? = some v) : ∃ i, l[j]? = some i ∧ v = .ref (A.ks.getD i 0) := by
  unfold ksOf at h
  rw [List.getElem?_map] at h
  cases e : l[j]? with
  | none => rw [e] at h; cases h
  | some n => rw [e] at h; exact ⟨n, rfl, (Option.some.inj h).symm⟩
noncomputable def idxTo (s : Sy54.St) (f n : Nat) : List Nat := (List.range n).filter fun i => (boxAt s i).flight == f
theorem idxTo_succ (s : Sy54.St) (f n : Nat) : idxTo s f (n + 1) = idxTo s f n ++ if (boxAt s n).flight = f then [n] else [] := by
  unfold idxTo
  rw [List.range_succ, List.filter_append, List.filter_cons]
  by_cases h : (boxAt s n).flight = f
  · rw [if_pos (by simpa using h), if_pos h]
    rfl
  · rw [if_neg (by simpa using h), if_neg h]
    rfl
theorem idxTo_len (s : Sy54.St) (f n : Nat) : (idxTo s f n).length ≤ n := by
  have := List.length_filter_le (fun i => (boxAt s i).flight == f) (List.range n)
  rw [List.length_range] at this
  exact this
noncomputable def sp_containers_on_flight (d : Ad) : Sp := fun vs H Q _ => ∃ (A : Lay) (s : Sy54.St) (c : List (Option Nat)) (f : Nat), vs = [.ref A.p, iv f] ∧ Air d H A s c ∧ Sized s ∧ ∀ H' p, Same H H' → H p = none → H' p = some (.lst (ksOf A (idxOn s f))) → Q (.ref p) H'
noncomputable def PsAll_containers_on_flight (K : PySem.W.Frag) (d : Ad) (x : Fx) (b : List Stmt) (u : TS) : Prop := ∀ (P : Program) (w : World) (mg : Str → Option Value) (base : Heap) (T : Txt K mg d x) (cdv : Value) (Ar : Around) (outer : List Env) (st : Shared) (H : Hp) (E : XK) (hr : Room 0 (Ar.deeper (envOfC "containers_on_flight" (defScope s_containers_on_flight) st.heap.objs.size x.f_containers_on_flight cdv))), PSs (cxOf CX0 P w K mg base ["airport", "flight", "container"] "containers_on_flight" (defScope s_containers_on_flight) x.f_containers_on_flight cdv Ar outer st H E).nox b u
noncomputable def q_containers_on_flight_0 (K : PySem.W.Frag) (d : Ad) (x : Fx) : { u : TS // PsAll_containers_on_flight K d x ((defBody s_containers_on_flight).drop 0) u } := ⟨_, fun P w mg base T cdv Ar outer st H E hr => (pss_one (ps_ret (pe_lc (te := (tVar 2)) (tt := (tTest (tOp rEq (tFld K (tVar 2) "flight") (tVar 1)))) (g := gName 2) rfl sc_containers_on_flight.nd (pi_listK (K := K) rfl (pe_fldK (K := K) rfl (pv 0) rfl)) (blkOk_by (own := [("container", 2)]) (by rfl)) (fun _ _ _ _ _ => (pg_name (i := 2) sc_containers_on_flight.nd rfl (Or.inl rfl))) (fun _ _ _ _ _ => (pts_one (pt_cmpR op_eq (pe_fldK (K := K) rfl (pv 2) rfl) (pv 1) (nomark _)))) (fun _ _ _ _ _ => (pv 2)))))⟩
theorem ok_containers_on_flight (T : Txt K mg d x) : FnOk P w K mg base CX0 1 x.f_containers_on_flight x.d_containers_on_flight ["airport", "flight"] (sp_containers_on_flight d) := by
  refine okQ T.F_containers_on_flight sc_containers_on_flight (fun vs H Q E h => ?_) (fun cdv Ar outer st H E hr => (q_containers_on_flight_0 K d x).2 _ _ _ _ T cdv Ar outer st H E hr) (fun vs H Q E h => ?_)
  · obtain ⟨_, _, _, _, rfl, _⟩ := h
    rfl
  · obtain ⟨A, s, c, f, rfl, a, g, q⟩ := h
    refine ⟨_, rfl, r_containers T a ⟨A.lK, rfl, ⟨_, SqL.of a.L.hK⟩, fun D hD => lc_list (K := K) (a := A.lK) (xs := A.ks.map V.ref) (fun i H' => Same H H' ∧ H' D = some (.lst (ksOf A (idxTo s f i)))) ⟨Same.new (Same.refl H) hD, upd_same⟩
      (fun i H' _ h => SqL.of (h.1 _ _ a.L.hK)) ?_ ?_⟩⟩
    · rintro i v H' hv ⟨sm, hDl⟩
      obtain ⟨kb, hk, rfl⟩ := getRef hv
      have hi : i < s.boxes.length := by rw [← a.K.len]; exact get_lt hk
      have hy : s.boxes[i]? = some s.boxes[i] := List.getElem?_eq_getElem hi
      have eb := boxAt_eq hy
      have a' := a.same sm
      refine ⟨rfl, _, rfl, r_kflight T a' hk hy ⟨_, rfl, rfl, _, rfl, ?_⟩⟩
      refine ite2 (fun h1 => ?_) (fun h1 => ?_)
      · have h1 : s.boxes[i].flight = f := iv_inj (of_decide_eq_true h1)
        refine ⟨_, rfl, _, hDl, ?_, Same.new sm hD, ?_⟩
        · rw [ksOf_len]
          have := idxTo_len s f i
          have := g.1
          exact small1000 (by omega)
        · rw [upd_same, idxTo_succ, eb, if_pos h1]
          unfold ksOf
          rw [List.map_append]
          show some (HO.lst (_ ++ [V.ref kb])) = some (HO.lst (_ ++ [V.ref (A.ks.getD i 0)]))
          rw [getD_some 0 hk]
      · have h1 : ¬ s.boxes[i].flight = f := fun e => h1 (by rw [e]; exact decide_eq_true rfl)
        refine ⟨sm, ?_⟩
        rw [hDl, idxTo_succ, eb, if_neg h1, List.append_nil]
    · rintro H' ⟨sm, hDl⟩
      refine q H' D sm hD ?_
      rw [hDl, List.length_map, a.K.len]
      rfl
noncomputable def onI (s : Sy54.St) (l : List Nat) : List Nat := l.flatMap fun i => (boxAt s i).bags
theorem onI_snoc (s : Sy54.St) (l : List Nat) (i : Nat) : onI s (l ++ [i]) = onI s l ++ (boxAt s i).bags := by
  unfold onI
  rw [List.flatMap_append]
  simp
theorem onI_len {s : Sy54.St} (g : Sized s) : ∀ l : List Nat, (∀ i, i ∈ l → i < s.boxes.length) → (onI s l).length ≤ 20 * l.length
  | [], _ => by simp [onI]
  | i :: r, h => by
    have ih := onI_len g r fun j hj => h j (by simp [hj])
    have hi := h i (by simp)
    have e : s.boxes[i]? = some s.boxes[i] := List.getElem?_eq_getElem hi
    have := g.2 i _ e
    show ((boxAt s i).bags ++ onI s r).length ≤ 20 * (r.length + 1)
    rw [List.length_append, boxAt_eq e]
    omega
theorem idx_lt {s : Sy54.St} {f i : Nat} (h : i ∈ idxOn s f) : i < s.boxes.length := by
  obtain ⟨y, hy, _⟩ := idx_mem h
  exact get_lt hy
theorem on_len {s : Sy54.St} (g : Sized s) (f : Nat) : (Sy54.bagsOn s f).length ≤ 240 := by
  have e : Sy54.bagsOn s f = onI s (idxOn s f) := bagsOn_idx s f
  rw [e]
  have h1 := onI_len g (idxOn s f) fun i hi => idx_lt hi
  have h2 := idx_len s f
  have h3 := g.1
  omega
theorem take_len {s : Sy54.St} (g : Sized s) (f j : Nat) : (onI s ((idxOn s f).take j)).length ≤ 240 := by
  have h1 := onI_len g ((idxOn s f).take j) fun i hi => idx_lt (List.mem_of_mem_take hi)
  have h2 := idx_len s f
  have h3 := g.1
  rw [List.length_take] at h1
  omega
noncomputable def spOn (d : Ad) : Sp := fun vs H Q _ => ∃ (A : Lay) (s : Sy54.St) (c : List (Option Nat)) (f : Nat), vs = [.ref A.p, iv f] ∧ Air d H A s c ∧ Sized s ∧ ∀ H' p, Same H H' → H p = none → H' p = some (.lst (ivs (Sy54.bagsOn s f))) → Q (.ref p) H'
noncomputable def PsAll_bags_on_flight (K : PySem.W.Frag) (d : Ad) (x : Fx) (b : List Stmt) (u : TS) : Prop := ∀ (P : Program) (w : World) (mg : Str → Option Value) (base : Heap) (T : Txt K mg d x) (cdv : Value) (Ar : Around) (outer : List Env) (st : Shared) (H : Hp) (E : XK) (hr : Room 1 (Ar.deeper (envOfC "bags_on_flight" (defScope s_bags_on_flight) st.heap.objs.size x.f_bags_on_flight cdv))), PSs (cxOf CX0 P w K mg base ["airport", "flight", "found", "container"] "bags_on_flight" (defScope s_bags_on_flight) x.f_bags_on_flight cdv Ar outer st H E).nox b u
noncomputable def q_bags_on_flight_0 (K : PySem.W.Frag) (d : Ad) (x : Fx) : { u : TS // PsAll_bags_on_flight K d x ((defBody s_bags_on_flight).drop 0) u } := ⟨_, fun P w mg base T cdv Ar outer st H E hr => (pss_cons (ps_set (i := 2) sc_bags_on_flight.nd rfl (Or.inl rfl) (pe_lst pa_nil)) (pss_cons (ps_for PassesOwn.never rfl (pi_listK (K := K) rfl (pe_call (ok_containers_on_flight T) (hr.mono (by decide)) rfl T.m_containers_on_flight T.F_containers_on_flight.kp (bd_containers_on_flight T.F_containers_on_flight) .nil pass0 (pa_cons (pv 0) (pa_cons (pv 1) pa_nil)))) (pg_name (i := 3) sc_bags_on_flight.nd rfl (Or.inl rfl)) (pss_one (ps_expr (pe_bmK (K := K) rfl PySem.F.plainAttrs_list PySem.F.slot_list_extend PySem.F.type_list_extend mt_extend (pv 2) (pa_cons (pe_fldK (K := K) rfl (pv 3) rfl) pa_nil))))) (pss_one (ps_ret (pv 2)))))⟩
theorem ok_bags_on_flight (T : Txt K mg d x) : FnOk P w K mg base CX0 2 x.f_bags_on_flight x.d_bags_on_flight ["airport", "flight"] (spOn d) := by
  refine okQ T.F_bags_on_flight sc_bags_on_flight (fun vs H Q E h => ?_) (fun cdv Ar outer st H E hr => (q_bags_on_flight_0 K d x).2 _ _ _ _ T cdv Ar outer st H E hr) (fun vs H Q E h => ?_)
  · obtain ⟨_, _, _, _, rfl, _⟩ := h
    rfl
  · obtain ⟨A, s, c, f, rfl, a, g, q⟩ := h
    refine ⟨Nat.zero_le _, fun D hD => ?_⟩
    have s0 : Same H (upd H D (.lst [])) := Same.new (Same.refl H) hD
    have a0 := a.same s0
    refine ⟨_, rfl, _, rfl, A, s, c, f, rfl, a0, g, fun H1 p sm hp hpl => ?_⟩
    have npD : p ≠ D := (upd_none hp).1
    have s1 : Same H H1 := s0.trans sm
    refine ⟨p, rfl, ⟨_, SqL.of hpl⟩, for_list (K := K) (a := p) (xs := ksOf A (idxOn s f)) (fun i σ H' => ∃ v, σ = [some (.ref A.p), some (iv f), some (.ref D), v] ∧ Same H H' ∧ H' p = some (.lst (ksOf A (idxOn s f))) ∧ H' D = some (.lst (ivs (onI s ((idxOn s f).take i)))))
      ⟨none, rfl, s1, hpl, sm _ _ upd_same⟩ (fun i σ H' _ h => by obtain ⟨_, _, _, hp', _⟩ := h; exact SqL.of hp') ?_ ?_⟩
    · rintro j v σ H' hv ⟨v0, rfl, sm', hp', hDl⟩
      obtain ⟨i, hij, rfl⟩ := getKs hv
      obtain ⟨y, hy, _⟩ := idx_mem (List.mem_of_getElem? hij)
      obtain ⟨kb, y', l, hk, hy', hl⟩ := a.boxAt (get_lt hy)
      rw [hy] at hy'
      cases hy'
      rw [getD_some 0 hk]
      have a' := a.same sm'
      have hL := a'.L.at_ i l y hl hy
      have b1 := take_len g f j
      have b2 := g.2 i y hy
      refine ⟨_, rfl, .inl ⟨rfl, _, SqL.of hDl⟩, _, rfl, r_pile T a' hk hy hl ⟨D, l, _, _, rfl, rfl, hDl, hL, ?_, ?_⟩⟩
      · rw [ivs_len, ivs_len]
        exact small (by omega)
      · refine ⟨_, rfl, Same.new sm' hD, by rw [upd_ne npD]; exact hp', ?_⟩
        rw [upd_same, take_snoc hij, onI_snoc, boxAt_eq hy, ivs_app]
    · rintro σ H' ⟨v0, rfl, sm', _, hDl⟩
      refine ⟨_, rfl, q H' D sm' hD ?_⟩
      rw [hDl, ksOf_len, List.take_length, bagsOn_idx]
      rfl
noncomputable def spStuck (d : Ad) : Sp := fun vs H Q _ => ∃ (A : Lay) (s : Sy54.St) (c : List (Option Nat)) (f : Nat), vs = [.ref A.p, iv f] ∧ Air d H A s c ∧ Good s ∧ ∀ H' p, Same H H' → H p = none → H' p = some (.lst (ivs (Sy54.stuck s f))) → Q (.ref p) H'
noncomputable def PsAll_bags_that_may_not_fly (K : PySem.W.Frag) (d : Ad) (x : Fx) (b : List Stmt) (u : TS) : Prop := ∀ (P : Program) (w : World) (mg : Str → Option Value) (base : Heap) (T : Txt K mg d x) (cdv : Value) (Ar : Around) (outer : List Env) (st : Shared) (H : Hp) (E : XK) (hr : Room 2 (Ar.deeper (envOfC "bags_that_may_not_fly" (defScope s_bags_that_may_not_fly) st.heap.objs.size x.f_bags_that_may_not_fly cdv))), PSs (cxOf CX0 P w K mg base ["airport", "flight", "number"] "bags_that_may_not_fly" (defScope s_bags_that_may_not_fly) x.f_bags_that_may_not_fly cdv Ar outer st H E).nox b u
noncomputable def q_bags_that_may_not_fly_0 (K : PySem.W.Frag) (d : Ad) (x : Fx) : { u : TS // PsAll_bags_that_may_not_fly K d x ((defBody s_bags_that_may_not_fly).drop 0) u } := ⟨_, fun P w mg base T cdv Ar outer st H E hr => (pss_one (ps_ret (pe_lc (te := (tVar 2)) (tt := (tNot (tB (tCall (spMayFly d) [] E0 (tCons (tVar 0) (tCons (tOp (rIxL K) (tFld K (tVar 0) "bags") (tVar 2)) tNil)))))) (g := gName 2) rfl sc_bags_that_may_not_fly.nd (pi_listK (K := K) rfl (pe_call (ok_bags_on_flight T) (hr.mono (by decide)) rfl T.m_bags_on_flight T.F_bags_on_flight.kp (bd_bags_on_flight T.F_bags_on_flight) .nil pass0 (pa_cons (pv 0) (pa_cons (pv 1) pa_nil)))) (blkOk_by (own := [("number", 2)]) (by rfl)) (fun _ _ _ _ _ => (pg_name (i := 2) sc_bags_that_may_not_fly.nd rfl (Or.inl rfl))) (fun _ _ _ _ _ => (pts_one (pt_not (pt_val (pe_call (ok_may_fly T) (hr.mono (by decide)) rfl T.m_may_fly T.F_may_fly.kp (bd_may_fly T.F_may_fly) .nil pass0 (pa_cons (pv 0) (pa_cons (pe_ix (ix_listK (K := K) rfl) (pe_fldK (K := K) rfl (pv 0) rfl) (pv 2) (fun _ _ => rfl)) pa_nil))))))) (fun _ _ _ _ _ => (pv 2)))))⟩
theorem ok_bags_that_may_not_fly (T : Txt K mg d x) : FnOk P w K mg base CX0 3 x.f_bags_that_may_not_fly x.d_bags_that_may_not_fly ["airport", "flight"] (spStuck d) := by
  refine okQ T.F_bags_that_may_not_fly sc_bags_that_may_not_fly (fun vs H Q E h => ?_) (fun cdv Ar outer st H E hr => (q_bags_that_may_not_fly_0 K d x).2 _ _ _ _ T cdv Ar outer st H E hr) (fun vs H Q E h => ?_)
  · obtain ⟨_, _, _, _, rfl, _⟩ := h
    rfl
  · obtain ⟨A, s, c, f, rfl, a, g, q⟩ := h
    refine ⟨_, rfl, _, rfl, A, s, c, f, rfl, a, g.sized, fun H1 p sm hp hpl => ?_⟩
    have bl := on_len g.sized f
    refine ⟨p, rfl, ⟨_, SqL.of hpl⟩, fun D hD => lc_list (K := K) (a := p) (xs := ivs (Sy54.bagsOn s f)) (fun i H' => Same H1 H' ∧ H' D = some (.lst (ivs (((Sy54.bagsOn s f).take i).filter fun b => !Sy54.mayFly s b)))) ⟨Same.new (Same.refl H1) hD, upd_same⟩
      (fun i H' _ h => SqL.of (h.1 _ _ hpl)) ?_ ?_⟩
    · rintro i v H' hv ⟨sm2, hDl⟩
      obtain ⟨n, hn, rfl⟩ := getIvs hv
      obtain ⟨k, y, hy, _, hm⟩ := mem_on.mp (List.mem_of_getElem? hn)
      have hb : n < s.bags.length := g.kb k y n hy hm
      obtain ⟨bb, z, hbb, hz⟩ := a.bagAt hb
      have a' := a.same (sm.trans sm2)
      refine ⟨rfl, _, rfl, _, rfl, r_bags T a' ⟨_, rfl, ix_ref a'.L.hB hbb ⟨A, s, c, bb, n, z, rfl, a', hbb, hz, g.bo n z hz, _, rfl, ?_⟩⟩⟩
      have hb2 : (ivs (((Sy54.bagsOn s f).take i).filter fun b => !Sy54.mayFly s b)).length < sizeLine := by
        rw [ivs_len]
        have := List.length_filter_le (fun b => !Sy54.mayFly s b) ((Sy54.bagsOn s f).take i)
        rw [List.length_take] at this
        exact small1000 (by omega)
      refine ite2 (fun h1 => ?_) (fun h1 => ?_)
      · refine ⟨_, rfl, _, hDl, hb2, Same.new sm2 hD, ?_⟩
        rw [upd_same, take_snoc hn, List.filter_append, List.filter_cons, if_pos h1, List.filter_nil, ivs_app]
        rfl
      · refine ⟨sm2, ?_⟩
        rw [hDl, take_snoc hn, List.filter_append, List.filter_cons, if_neg h1, List.filter_nil, List.append_nil]
    · rintro H' ⟨sm2, hDl⟩
      rw [ivs_len, List.take_length] at hDl
      exact q H' D (sm.trans sm2) (sm.free hD) hDl
end
end Bg
end
section
set_option Elab.async false
set_option linter.all false
set_option maxRecDepth 100000
set_option maxHeartbeats 2000000
namespace Bg
open PySem PySem.Spec PyProof.Rows L2
theorem iv_dec2 (m n : Nat) : decide (iv m = iv n) = decide (m = n) := by
  by_cases h : m = n
  · rw [h]; simp
  · have : ¬ iv m = iv n := fun e => h (iv_inj e)
    simp [h, this]
theorem put_place {z : Sy54.Bag} {o : Option Nat} {n : Nat} {v : V} (hv : v = iv n) : putF "place" v (fB z o) = fB { z with place := n } o := by
  subst hv
  unfold fB
  rw [put_tl (by decide +kernel), put_tl (by decide +kernel), put_hd]
theorem put_cont {z : Sy54.Bag} {o u : Option Nat} {v : V} (hv : v = cv u) : putF "container" v (fB z o) = fB z u := by
  subst hv
  unfold fB
  rw [put_tl (by decide +kernel), put_tl (by decide +kernel), put_tl (by decide +kernel), put_hd]
theorem put_foll {z : Sy54.Bag} {o : Option Nat} {r : Bool} : putF "follows" (.bl r) (fB z o) = fB { z with rush := r } o := by
  unfold fB
  rw [put_tl (by decide +kernel), put_tl (by decide +kernel), put_tl (by decide +kernel), put_tl (by decide +kernel), put_hd]
theorem put_stand {f h n : Nat} : putF "standing" (iv n) (fP f h) = fP f n := by
  unfold fP
  rw [put_tl (by decide +kernel), put_hd]
section
variable {P : Program} {w : World} {K : PySem.W.Frag} {mg : Str → Option Value} {base : Heap} {d : Ad} {x : Fx}
noncomputable abbrev clLoad : List Nat → Sy54.Call := fun ns => .load (Sy54Neutral.g ns 0) (Sy54Neutral.g ns 1)
noncomputable def okBK (s : Sy54.St) (ns : List Nat) : Prop := ∃ b k, ns = [b, k] ∧ b < s.bags.length ∧ k < s.boxes.length
noncomputable def PsAll_load_bag (K : PySem.W.Frag) (d : Ad) (x : Fx) (b : List Stmt) (u : TS) : Prop := ∀ (P : Program) (w : World) (mg : Str → Option Value) (base : Heap) (T : Txt K mg d x) (cdv : Value) (Ar : Around) (outer : List Env) (st : Shared) (H : Hp) (E : XK) (hr : Room 2 (Ar.deeper (envOfC "load_bag" (defScope s_load_bag) st.heap.objs.size x.f_load_bag cdv))), PSs (cxOf CX0 P w K mg base ["airport", "told", "bag", "container", "owner"] "load_bag" (defScope s_load_bag) x.f_load_bag cdv Ar outer st H E).nox b u
noncomputable def q_load_bag_6 (K : PySem.W.Frag) (d : Ad) (x : Fx) : { u : TS // PsAll_load_bag K d x ((defBody s_load_bag).drop 6) u } := ⟨_, fun P w mg base T cdv Ar outer st H E hr => (pss_cons (ps_if (pt_not (pt_val (pe_call (ok_has_room_for T) (hr.mono (by decide)) rfl T.m_has_room_for T.F_has_room_for.kp (bd_has_room_for T.F_has_room_for) .nil pass0 (pa_cons (pv 0) (pa_cons (pv 3) (pa_cons (pv 2) pa_nil)))))) (pss_one (ps_ret (pe_lst (pa_cons (pe_glob (v := .int (-5)) rfl T.c_NO_ROOM.choose_spec ⟨_, rfl⟩) pa_nil)))) pss_nil) (pss_cons (ps_expr (pe_bmK (K := K) rfl PySem.F.plainAttrs_list PySem.F.slot_list_append PySem.F.type_list_append mt_append (pe_fldK (K := K) rfl (pv 3) rfl) (pa_cons (pe_ix (ix_listK (K := K) rfl) (pv 1) pe_int (fun _ _ => rfl)) pa_nil))) (pss_cons (ps_fldK (K := K) rfl (pv 2) (pe_glob (v := .int (1)) rfl T.c_LOADED.choose_spec ⟨_, rfl⟩) rfl) (pss_cons (ps_fldK (K := K) rfl (pv 2) (pe_ix (ix_listK (K := K) rfl) (pv 1) pe_int (fun _ _ => rfl)) rfl) (pss_cons (ps_fldaugK (K := K) rfl (pv 0) pe_int in_add) (pss_one (ps_ret (pe_lst (pa_cons (pe_callB (lenK (K := K) rfl) (by rfl) T.z_len PySem.boot_len (pa_cons (pe_fldK (K := K) rfl (pv 3) rfl) pa_nil)) pa_nil)))))))))⟩
noncomputable def q_load_bag_3 (K : PySem.W.Frag) (d : Ad) (x : Fx) : { u : TS // PsAll_load_bag K d x ((defBody s_load_bag).drop 3) u } := ⟨_, fun P w mg base T cdv Ar outer st H E hr => (pss_cons (ps_if (PW.pt (pw_or (pt_cmpR op_ne (pe_fldK (K := K) rfl (pv 2) rfl) (pe_glob (v := .int (0)) rfl T.c_HALL.choose_spec ⟨_, rfl⟩) (nomark _)) (pw_or1 (pt_val (pe_fldK (K := K) rfl (pe_ix (ix_listK (K := K) rfl) (pe_fldK (K := K) rfl (pv 0) rfl) (pe_fldK (K := K) rfl (pv 3) rfl) (fun _ _ => rfl)) rfl))))) (pss_one (ps_ret (pe_lst (pa_cons (pe_glob (v := .int (-4)) rfl T.c_NOT_SO.choose_spec ⟨_, rfl⟩) pa_nil)))) pss_nil) (pss_cons (ps_if (PW.pt (pw_and (pt_not (pt_val (pe_fldK (K := K) rfl (pv 2) rfl))) (pw_and1 (pt_cmpR op_ne (pe_fldK (K := K) rfl (pv 4) rfl) (pe_fldK (K := K) rfl (pv 3) rfl) (nomark _))))) (pss_one (ps_ret (pe_lst (pa_cons (pe_glob (v := .int (-7)) rfl T.c_WRONG_OWNER.choose_spec ⟨_, rfl⟩) pa_nil)))) pss_nil) (pss_cons (ps_if (PW.pt (pw_and (pt_not (pt_val (pe_fldK (K := K) rfl (pv 2) rfl))) (pw_and1 (pt_cmpR op_eq (pe_fldK (K := K) rfl (pv 4) rfl) (pe_glob (v := .int (2)) rfl T.c_NOT_COMING.choose_spec ⟨_, rfl⟩) (nomark _))))) (pss_one (ps_ret (pe_lst (pa_cons (pe_glob (v := .int (-6)) rfl T.c_NOT_LET.choose_spec ⟨_, rfl⟩) pa_nil)))) pss_nil) ((q_load_bag_6 K d x).2 P w mg base T cdv Ar outer st H E hr))))⟩
noncomputable def q_load_bag_0 (K : PySem.W.Frag) (d : Ad) (x : Fx) : { u : TS // PsAll_load_bag K d x ((defBody s_load_bag).drop 0) u } := ⟨_, fun P w mg base T cdv Ar outer st H E hr => (pss_cons (ps_set (i := 2) sc_load_bag.nd rfl (Or.inl rfl) (pe_ix (ix_listK (K := K) rfl) (pe_fldK (K := K) rfl (pv 0) rfl) (pe_ix (ix_listK (K := K) rfl) (pv 1) pe_int (fun _ _ => rfl)) (fun _ _ => rfl))) (pss_cons (ps_set (i := 3) sc_load_bag.nd rfl (Or.inl rfl) (pe_ix (ix_listK (K := K) rfl) (pe_fldK (K := K) rfl (pv 0) rfl) (pe_ix (ix_listK (K := K) rfl) (pv 1) pe_int (fun _ _ => rfl)) (fun _ _ => rfl))) (pss_cons (ps_set (i := 4) sc_load_bag.nd rfl (Or.inl rfl) (pe_ix (ix_listK (K := K) rfl) (pe_fldK (K := K) rfl (pv 0) rfl) (pe_fldK (K := K) rfl (pv 2) rfl) (fun _ _ => rfl))) ((q_load_bag_3 K d x).2 P w mg base T cdv Ar outer st H E hr))))⟩
theorem ok_load_bag (T : Txt K mg d x) : FnOk P w K mg base CX0 3 x.f_load_bag x.d_load_bag ["airport", "told"] (spAct d clLoad okBK) := by
  refine okQ T.F_load_bag sc_load_bag (fun vs H Q E h => ?_) (fun cdv Ar outer st H E hr => (q_load_bag_0 K d x).2 _ _ _ _ T cdv Ar outer st H E hr) (fun vs H Q E h => ?_)
  · obtain ⟨_, _, _, _, rfl, _⟩ := h
    rfl
  · obtain ⟨A, s, t, ns, rfl, g, ht, nt, ⟨b, k, rfl, hb, hk⟩, q⟩ := h
    have a := g.a
    obtain ⟨bb, z, hbb, hz⟩ := a.bagAt hb
    obtain ⟨kb, y, l, hkb, hy, hl⟩ := a.boxAt hk
    obtain ⟨pb, o, hpb, ho⟩ := a.personAt (g.g.bo b z hz)
    obtain ⟨fb, gb, hfb, hgb⟩ := a.flightAt (g.g.kf k y hy)
    have eg := gone_of hgb
    have ep : Sy54.personOf s z.owner = o := getD_some _ ho
    have eb : Sy54.bagOf s b = z := getD_some _ hz
    have e0 : Sy54.step s (clLoad [b, k]) = (if z.place ≠ 0 ∨ Sy54.isGone s y.flight = true then (s, Sy54.ok (-4)) else if y.flight ≠ (Sy54.personOf s z.owner).flight ∧ z.rush = false then (s, Sy54.ok (-7)) else if Sy54.mustOut s b = true then (s, Sy54.ok (-6)) else if y.holds ≤ y.bags.length ∨ y.bears < Sy54.weightOf s y.bags + z.weight then (s, Sy54.ok (-5)) else
        ({ s with boxes := s.boxes.set k { y with bags := y.bags ++ [b] }, bags := Sy54.setPlace s [b] 1, moves := s.moves + 1 }, Sy54.ok ((y.bags.length + 1 : Nat) : Int))) := by
      show Sy54.step s (.load b k) = _
      simp only [Sy54.step, Sy54.onBag, hz, hy]
    rw [e0] at q
    have em : Sy54.mustOut s b = (!z.rush && (o.how == 2)) := by
      unfold Sy54.mustOut
      rw [eb, ep]
    rw [eg, ep, em] at q
    have hrest : z.place = 0 → gb = false → PostR d A H (if y.holds ≤ y.bags.length ∨ y.bears < Sy54.weightOf s y.bags + z.weight then (s, Sy54.ok (-5)) else
        ({ s with boxes := s.boxes.set k { y with bags := y.bags ++ [b] }, bags := Sy54.setPlace s [b] 1, moves := s.moves + 1 }, Sy54.ok ((y.bags.length + 1 : Nat) : Int))) Q → (q_load_bag_6 K d x).1 { nx := fun _ H' => Q .non H', rt := Q } [some (.ref A.p), some (.ref t), some (.ref bb), some (.ref kb), some (.ref pb)] H := by
      intro hz0 hg0 q
      refine ⟨_, rfl, _, rfl, _, rfl, A, s, conts s, kb, bb, k, b, y, z, rfl, a, hkb, hy, hbb, hz, g.g, fun H1 sm => ⟨_, rfl, ?_⟩⟩
      refine ite2 (fun h1 => ?_) (fun h1 => ?_)
      · have h1 := of_decide_eq_false (not_t h1)
        rw [if_pos (Decidable.not_not.mp h1)] at q
        exact refuse q rfl g sm
      have h1 := of_decide_eq_true (not_f h1)
      rw [if_neg h1] at q
      have a1 := a.same sm
      have hL := a1.L.at_ k l y hl hy
      have ht1 := sm _ _ ht
      have ntl : t ≠ l := fun e => nt (by rw [e]; exact own_pile hl)
      have ntb : t ≠ bb := fun e => nt (by rw [e]; exact own_b hbb)
      refine ⟨_, rfl, r_pile T a1 hkb hy hl ⟨.inl ⟨rfl, _, SqL.of hL⟩, _, rfl, ix_int (i := 0) ht1 rfl ⟨l, _, _, rfl, rfl, hL, ?_, ?_⟩⟩⟩
      · rw [ivs_len]
        have := g.g.kl k y hy
        exact small1000 (by omega)
      have el : ivs y.bags ++ [iv b] = ivs (y.bags ++ [b]) := by rw [ivs_app]; rfl
      rw [el]
      have a2 := a1.setPile (bs := y.bags ++ [b]) hl hy
      obtain ⟨dx, hbo⟩ := a2.B.at_ b bb z hbb hz
      refine ⟨_, rfl, bb, d.CB, dx, _, rfl, hbo, T.cl_Bag, T.n_Bag_place, (by show 5 < 1000; decide), ?_⟩
      have e1 : putF "place" (V.int 1) (fBag (conts s) b z) = fB { z with place := 1 } ((conts s).getD b none) := put_place (n := 1) rfl
      rw [e1]
      refine ⟨_, rfl, ix_int (i := 1) (by rw [upd_ne ntb, upd_ne ntl]; exact ht1) rfl ⟨_, rfl, bb, d.CB, dx, _, rfl, upd_same, T.cl_Bag, T.n_Bag_container, (by show 5 < 1000; decide), ?_⟩⟩
      have e2 : putF "container" (iv k) (fB { z with place := 1 } ((conts s).getD b none)) = fB { z with place := 1 } (some k) := put_cont rfl
      rw [e2, upd_upd]
      have a4 := a2.setBag (dx := dx) (x := { z with place := 1 }) (y := some k) hbb
      obtain ⟨dp, hpo⟩ := a4.port
      refine ⟨_, rfl, A.p, d.CA, dp, _, _, rfl, hpo, T.cl_Airport, T.n_Airport_moves_made, lk_moves, _, _, rfl, rfl, dp, _, hpo, (by show 5 < 1000; decide), ?_⟩
      have e3 : putF "moves_made" (V.int (((s.moves : Nat) : Int) + 1)) (fA A.lF A.lK A.lP A.lB s.moves) = fA A.lF A.lK A.lP A.lB (s.moves + 1) := put_moves (n := s.moves + 1)
      rw [e3]
      have a5 := a4.setMoves (dx := dp) (m := s.moves + 1) hpo
      have gg := g.g.load hz hy hz0 (by rw [← eg] at hg0; exact hg0) (by omega) (s.moves + 1)
      have g5 := airG a5 (conts_load hz hy g.g gg) gg
      have hy5 : (s.boxes.set k { y with bags := y.bags ++ [b] })[k]? = some { y with bags := y.bags ++ [b] } := List.getElem?_set_self (get_lt hy)
      refine ⟨_, rfl, r_pile T a5 hkb hy5 hl ⟨l, _, rfl, .inl (SqL.of (a5.L.at_ k l _ hl hy5)), by show 1 ≤ sizeLine; decide, fun p hp => ?_⟩⟩
      rw [place_one hz] at q
      refine finish q g5 (.still ?_) hp ?_
      · exact ((((Keep.same sm).trans (Keep.upd (own_pile hl))).trans (Keep.upd (own_b hbb))).trans (Keep.upd (own_p A)))
      · show [V.int ((ivs (y.bags ++ [b])).length : Int)] = [V.int ((y.bags.length + 1 : Nat) : Int)]
        rw [ivs_len, List.length_append]
        rfl
    refine ⟨_, rfl, r_bags T a ⟨_, rfl, ix_int (i := 0) ht rfl (ix_ref a.L.hB hbb ?_)⟩⟩
    refine ⟨_, rfl, r_containers T a ⟨_, rfl, ix_int (i := 1) ht rfl (ix_ref a.L.hK hkb ?_)⟩⟩
    refine ⟨_, rfl, r_passengers T a ⟨_, rfl, r_owner T a hbb hz (ix_ref a.L.hP hpb ?_)⟩⟩
    refine ⟨_, rfl, r_place T a hbb hz ⟨rfl, _, rfl, ?_⟩⟩
    rw [iv_dec]
    refine ite2 (fun h1 => ?_) (fun h1 => ?_)
    · have h1 := of_decide_eq_false (not_t h1)
      rw [if_pos (.inl (by omega))] at q
      exact iteT (refuse q rfl g (Same.refl _))
    have h1 := of_decide_eq_true (not_f h1)
    have hz0 : z.place = 0 := by omega
    refine ⟨_, rfl, r_flights T a ⟨_, rfl, r_kflight T a hkb hy (ix_ref a.L.hF hfb (r_gone T a hfb hgb ⟨_, rfl, ?_⟩))⟩⟩
    refine ite2 (fun h2 => ?_) (fun h2 => ?_)
    · rw [if_pos (.inr h2)] at q
      exact refuse q rfl g (Same.refl _)
    have h2 : gb = false := by simpa using h2
    rw [if_neg (by rw [h2]; simp [hz0])] at q
    refine ⟨_, rfl, r_follows T a hbb hz ⟨_, rfl, ?_⟩⟩
    cases er : z.rush with
    | true =>
      rw [er] at q
      rw [if_neg (by simp), if_neg (by simp)] at q
      refine ⟨_, rfl, r_follows T a hbb hz ⟨_, rfl, ?_⟩⟩
      rw [er]
      exact hrest hz0 h2 q
    | false =>
      rw [er] at q
      refine ⟨_, rfl, r_pflight T a hpb ho ⟨_, rfl, r_kflight T a hkb hy ⟨rfl, _, rfl, ?_⟩⟩⟩
      rw [iv_dec2]
      refine ite2 (fun h3 => ?_) (fun h3 => ?_)
      · have h3 := of_decide_eq_false (not_t h3)
        rw [if_pos ⟨fun e => h3 e.symm, rfl⟩] at q
        exact refuse q rfl g (Same.refl _)
      have h3 := of_decide_eq_true (not_f h3)
      rw [if_neg (fun e => e.1 h3.symm)] at q
      refine ⟨_, rfl, r_follows T a hbb hz ⟨_, rfl, ?_⟩⟩
      rw [er]
      refine ⟨_, rfl, r_standing T a hpb ho ⟨rfl, _, rfl, ?_⟩⟩
      rw [iv_dec]
      refine ite2 (fun h4 => ?_) (fun h4 => ?_)
      · have h4 := of_decide_eq_true h4
        have h4 : o.how = 2 := by omega
        rw [if_pos (by rw [h4]; rfl)] at q
        exact refuse q rfl g (Same.refl _)
      have h4 : ¬ o.how = 2 := fun e => h4 (by rw [e]; rfl)
      rw [if_neg (by simp [h4])] at q
      exact hrest hz0 h2 q
end
end Bg
end
section
set_option Elab.async false
set_option linter.all false
set_option maxRecDepth 100000
set_option maxHeartbeats 2000000
namespace Bg
open PySem PySem.Spec PyProof.Rows L2
section
variable {P : Program} {w : World} {K : PySem.W.Frag} {mg : Str → Option Value} {base : Heap} {d : Ad} {x : Fx}
theorem set_getD {l : List (Option Nat)} {b : Nat} (h : b < l.length) : l.set b (l.getD b none) = l := by
  apply List.ext_getElem?
  intro i
  by_cases e : i = b
  · subst e
    rw [List.getElem?_set_self h, List.getD_eq_getElem?_getD, List.getElem?_eq_getElem h]
    rfl
  · rw [List.getElem?_set_ne (fun q => e q.symm)]
theorem conts_put {s : Sy54.St} {b : Nat} {y : Sy54.Bag} (hb : b < s.bags.length) : conts { s with bags := s.bags.set b y } = (conts s).set b ((conts s).getD b none) := by
  rw [set_getD (by rw [conts_len]; exact hb)]
  exact conts_same (by simp) rfl
noncomputable def chg (s : Sy54.St) (p b n : Nat) : Sy54.St × Sy54.Ans := Sy54.onPerson s p fun x => if x.how ≠ b then (s, Sy54.ok (-4)) else (Sy54.setHow s p n, Sy54.ok ((Sy54.stuck (Sy54.setHow s p n) x.flight).length : Nat))
noncomputable def sp_change_standing (d : Ad) : Sp := fun vs H Q _ => ∃ (A : Lay) (s : Sy54.St) (p b n : Nat), vs = [.ref A.p, iv p, iv b, iv n] ∧ AirG d H A s ∧ p < s.people.length ∧ n ≤ 2 ∧ PostR d A H (chg s p b n) Q
noncomputable def PsAll_change_standing (K : PySem.W.Frag) (d : Ad) (x : Fx) (b : List Stmt) (u : TS) : Prop := ∀ (P : Program) (w : World) (mg : Str → Option Value) (base : Heap) (T : Txt K mg d x) (cdv : Value) (Ar : Around) (outer : List Env) (st : Shared) (H : Hp) (E : XK) (hr : Room 3 (Ar.deeper (envOfC "change_standing" (defScope s_change_standing) st.heap.objs.size x.f_change_standing cdv))), PSs (cxOf CX0 P w K mg base ["airport", "number", "before", "after", "passenger"] "change_standing" (defScope s_change_standing) x.f_change_standing cdv Ar outer st H E).nox b u
noncomputable def q_change_standing_0 (K : PySem.W.Frag) (d : Ad) (x : Fx) : { u : TS // PsAll_change_standing K d x ((defBody s_change_standing).drop 0) u } := ⟨_, fun P w mg base T cdv Ar outer st H E hr => (pss_cons (ps_set (i := 4) sc_change_standing.nd rfl (Or.inl rfl) (pe_ix (ix_listK (K := K) rfl) (pe_fldK (K := K) rfl (pv 0) rfl) (pv 1) (fun _ _ => rfl))) (pss_cons (ps_if (PW.pt (pw_or (pt_val (pe_fldK (K := K) rfl (pe_ix (ix_listK (K := K) rfl) (pe_fldK (K := K) rfl (pv 0) rfl) (pe_fldK (K := K) rfl (pv 4) rfl) (fun _ _ => rfl)) rfl)) (pw_or1 (pt_cmpR op_ne (pe_fldK (K := K) rfl (pv 4) rfl) (pv 2) (nomark _))))) (pss_one (ps_ret (pe_lst (pa_cons (pe_glob (v := .int (-4)) rfl T.c_NOT_SO.choose_spec ⟨_, rfl⟩) pa_nil)))) pss_nil) (pss_cons (ps_fldK (K := K) rfl (pv 4) (pv 3) rfl) (pss_one (ps_ret (pe_lst (pa_cons (pe_callB (lenK (K := K) rfl) (by rfl) T.z_len PySem.boot_len (pa_cons (pe_call (ok_bags_that_may_not_fly T) (hr.mono (by decide)) rfl T.m_bags_that_may_not_fly T.F_bags_that_may_not_fly.kp (bd_bags_that_may_not_fly T.F_bags_that_may_not_fly) .nil pass0 (pa_cons (pv 0) (pa_cons (pe_fldK (K := K) rfl (pv 4) rfl) pa_nil))) pa_nil)) pa_nil)))))))⟩
theorem ok_change_standing (T : Txt K mg d x) : FnOk P w K mg base CX0 4 x.f_change_standing x.d_change_standing ["airport", "number", "before", "after"] (sp_change_standing d) := by
  refine okQ T.F_change_standing sc_change_standing (fun vs H Q E h => ?_) (fun cdv Ar outer st H E hr => (q_change_standing_0 K d x).2 _ _ _ _ T cdv Ar outer st H E hr) (fun vs H Q E h => ?_)
  · obtain ⟨_, _, _, _, _, rfl, _⟩ := h
    rfl
  · obtain ⟨A, s, p, b, n, rfl, g, hp, hn, q⟩ := h
    have a := g.a
    obtain ⟨pb, o, hpb, ho⟩ := a.personAt hp
    obtain ⟨fb, gb, hfb, hgb⟩ := a.flightAt (g.g.pf p o ho)
    have eg := gone_of hgb
    unfold chg Sy54.onPerson at q
    simp only [ho, eg] at q
    refine ⟨_, rfl, r_passengers T a ⟨_, rfl, ix_ref a.L.hP hpb ?_⟩⟩
    refine ⟨_, rfl, r_flights T a ⟨_, rfl, r_pflight T a hpb ho (ix_ref a.L.hF hfb (r_gone T a hfb hgb ⟨_, rfl, ?_⟩))⟩⟩
    refine ite2 (fun h1 => ?_) (fun h1 => ?_)
    · rw [if_pos h1] at q
      exact iteT (refuse q rfl g (Same.refl _))
    rw [if_neg h1] at q
    refine ⟨_, rfl, r_standing T a hpb ho ⟨_, rfl, rfl, _, rfl, ?_⟩⟩
    rw [iv_dec2]
    refine ite2 (fun h2 => ?_) (fun h2 => ?_)
    · have h2 := of_decide_eq_false (not_t h2)
      rw [if_pos h2] at q
      exact refuse q rfl g (Same.refl _)
    have h2 := of_decide_eq_true (not_f h2)
    rw [if_neg (fun e => e h2)] at q
    obtain ⟨dx, hpo⟩ := a.P.at_ p pb o hpb ho
    refine ⟨_, rfl, _, rfl, pb, d.CP, dx, _, rfl, hpo, T.cl_Passenger, T.n_Passenger_standing, (by show 2 < 1000; decide), ?_⟩
    rw [put_stand]
    have a2 := a.setPerson (dx := dx) (x := { o with how := n }) hpb
    have eh : Sy54.setHow s p n = { s with people := s.people.set p { o with how := n } } := how_set ho
    rw [eh] at q
    have gg := g.g.setPerson (p := p) (y := { o with how := n }) (g.g.pf p o ho) hn
    have g2 := airG a2 (conts_same (s := s) rfl rfl) gg
    have ho2 : (s.people.set p { o with how := n })[p]? = some { o with how := n } := List.getElem?_set_self hp
    refine ⟨_, rfl, _, rfl, r_pflight T a2 hpb ho2 ⟨A, _, _, o.flight, rfl, a2, gg, fun H3 r sm hr3 hr4 => ?_⟩⟩
    refine ⟨r, _, rfl, .inl (SqL.of hr4), by show 1 ≤ sizeLine; decide, fun p' hp' => ?_⟩
    refine finish q (g2.same sm) (.still ((Keep.upd (own_ps hpb)).trans (Keep.same sm))) hp' ?_
    rw [ivs_len]
    rfl
noncomputable abbrev clAboard : List Nat → Sy54.Call := fun ns => .aboard (Sy54Neutral.g ns 0)
noncomputable abbrev clLeaves : List Nat → Sy54.Call := fun ns => .leaves (Sy54Neutral.g ns 0)
noncomputable abbrev clAbsent : List Nat → Sy54.Call := fun ns => .absent (Sy54Neutral.g ns 0)
noncomputable def okP (s : Sy54.St) (ns : List Nat) : Prop := ∃ p, ns = [p] ∧ p < s.people.length
noncomputable def PsAll_come_aboard (K : PySem.W.Frag) (d : Ad) (x : Fx) (b : List Stmt) (u : TS) : Prop := ∀ (P : Program) (w : World) (mg : Str → Option Value) (base : Heap) (T : Txt K mg d x) (cdv : Value) (Ar : Around) (outer : List Env) (st : Shared) (H : Hp) (E : XK) (hr : Room 4 (Ar.deeper (envOfC "come_aboard" (defScope s_come_aboard) st.heap.objs.size x.f_come_aboard cdv))), PSs (cxOf CX0 P w K mg base ["airport", "told"] "come_aboard" (defScope s_come_aboard) x.f_come_aboard cdv Ar outer st H E).nox b u
noncomputable def q_come_aboard_0 (K : PySem.W.Frag) (d : Ad) (x : Fx) : { u : TS // PsAll_come_aboard K d x ((defBody s_come_aboard).drop 0) u } := ⟨_, fun P w mg base T cdv Ar outer st H E hr => (pss_one (ps_ret (pe_call (ok_change_standing T) (hr.mono (by decide)) rfl T.m_change_standing T.F_change_standing.kp (bd_change_standing T.F_change_standing) .nil pass0 (pa_cons (pv 0) (pa_cons (pe_ix (ix_listK (K := K) rfl) (pv 1) pe_int (fun _ _ => rfl)) (pa_cons (pe_glob (v := .int (0)) rfl T.c_EXPECTED.choose_spec ⟨_, rfl⟩) (pa_cons (pe_glob (v := .int (1)) rfl T.c_ABOARD.choose_spec ⟨_, rfl⟩) pa_nil)))))))⟩
theorem ok_come_aboard (T : Txt K mg d x) : FnOk P w K mg base CX0 5 x.f_come_aboard x.d_come_aboard ["airport", "told"] (spAct d clAboard okP) := by
  refine okQ T.F_come_aboard sc_come_aboard (fun vs H Q E h => ?_) (fun cdv Ar outer st H E hr => (q_come_aboard_0 K d x).2 _ _ _ _ T cdv Ar outer st H E hr) (fun vs H Q E h => ?_)
  · obtain ⟨_, _, _, _, rfl, _⟩ := h
    rfl
  · obtain ⟨A, s, t, ns, rfl, g, ht, nt, ⟨p, rfl, hp⟩, q⟩ := h
    exact ⟨_, rfl, _, rfl, ix_int (i := 0) ht rfl ⟨A, s, p, 0, 1, rfl, g, hp, by decide, q⟩⟩
noncomputable def PsAll_leave_aircraft (K : PySem.W.Frag) (d : Ad) (x : Fx) (b : List Stmt) (u : TS) : Prop := ∀ (P : Program) (w : World) (mg : Str → Option Value) (base : Heap) (T : Txt K mg d x) (cdv : Value) (Ar : Around) (outer : List Env) (st : Shared) (H : Hp) (E : XK) (hr : Room 4 (Ar.deeper (envOfC "leave_aircraft" (defScope s_leave_aircraft) st.heap.objs.size x.f_leave_aircraft cdv))), PSs (cxOf CX0 P w K mg base ["airport", "told"] "leave_aircraft" (defScope s_leave_aircraft) x.f_leave_aircraft cdv Ar outer st H E).nox b u
noncomputable def q_leave_aircraft_0 (K : PySem.W.Frag) (d : Ad) (x : Fx) : { u : TS // PsAll_leave_aircraft K d x ((defBody s_leave_aircraft).drop 0) u } := ⟨_, fun P w mg base T cdv Ar outer st H E hr => (pss_one (ps_ret (pe_call (ok_change_standing T) (hr.mono (by decide)) rfl T.m_change_standing T.F_change_standing.kp (bd_change_standing T.F_change_standing) .nil pass0 (pa_cons (pv 0) (pa_cons (pe_ix (ix_listK (K := K) rfl) (pv 1) pe_int (fun _ _ => rfl)) (pa_cons (pe_glob (v := .int (1)) rfl T.c_ABOARD.choose_spec ⟨_, rfl⟩) (pa_cons (pe_glob (v := .int (2)) rfl T.c_NOT_COMING.choose_spec ⟨_, rfl⟩) pa_nil)))))))⟩
theorem ok_leave_aircraft (T : Txt K mg d x) : FnOk P w K mg base CX0 5 x.f_leave_aircraft x.d_leave_aircraft ["airport", "told"] (spAct d clLeaves okP) := by
  refine okQ T.F_leave_aircraft sc_leave_aircraft (fun vs H Q E h => ?_) (fun cdv Ar outer st H E hr => (q_leave_aircraft_0 K d x).2 _ _ _ _ T cdv Ar outer st H E hr) (fun vs H Q E h => ?_)
  · obtain ⟨_, _, _, _, rfl, _⟩ := h
    rfl
  · obtain ⟨A, s, t, ns, rfl, g, ht, nt, ⟨p, rfl, hp⟩, q⟩ := h
    exact ⟨_, rfl, _, rfl, ix_int (i := 0) ht rfl ⟨A, s, p, 1, 2, rfl, g, hp, by decide, q⟩⟩
noncomputable def PsAll_stay_absent (K : PySem.W.Frag) (d : Ad) (x : Fx) (b : List Stmt) (u : TS) : Prop := ∀ (P : Program) (w : World) (mg : Str → Option Value) (base : Heap) (T : Txt K mg d x) (cdv : Value) (Ar : Around) (outer : List Env) (st : Shared) (H : Hp) (E : XK) (hr : Room 4 (Ar.deeper (envOfC "stay_absent" (defScope s_stay_absent) st.heap.objs.size x.f_stay_absent cdv))), PSs (cxOf CX0 P w K mg base ["airport", "told"] "stay_absent" (defScope s_stay_absent) x.f_stay_absent cdv Ar outer st H E).nox b u
noncomputable def q_stay_absent_0 (K : PySem.W.Frag) (d : Ad) (x : Fx) : { u : TS // PsAll_stay_absent K d x ((defBody s_stay_absent).drop 0) u } := ⟨_, fun P w mg base T cdv Ar outer st H E hr => (pss_one (ps_ret (pe_call (ok_change_standing T) (hr.mono (by decide)) rfl T.m_change_standing T.F_change_standing.kp (bd_change_standing T.F_change_standing) .nil pass0 (pa_cons (pv 0) (pa_cons (pe_ix (ix_listK (K := K) rfl) (pv 1) pe_int (fun _ _ => rfl)) (pa_cons (pe_glob (v := .int (0)) rfl T.c_EXPECTED.choose_spec ⟨_, rfl⟩) (pa_cons (pe_glob (v := .int (2)) rfl T.c_NOT_COMING.choose_spec ⟨_, rfl⟩) pa_nil)))))))⟩
theorem ok_stay_absent (T : Txt K mg d x) : FnOk P w K mg base CX0 5 x.f_stay_absent x.d_stay_absent ["airport", "told"] (spAct d clAbsent okP) := by
  refine okQ T.F_stay_absent sc_stay_absent (fun vs H Q E h => ?_) (fun cdv Ar outer st H E hr => (q_stay_absent_0 K d x).2 _ _ _ _ T cdv Ar outer st H E hr) (fun vs H Q E h => ?_)
  · obtain ⟨_, _, _, _, rfl, _⟩ := h
    rfl
  · obtain ⟨A, s, t, ns, rfl, g, ht, nt, ⟨p, rfl, hp⟩, q⟩ := h
    exact ⟨_, rfl, _, rfl, ix_int (i := 0) ht rfl ⟨A, s, p, 0, 2, rfl, g, hp, by decide, q⟩⟩
noncomputable abbrev clRush : List Nat → Sy54.Call := fun ns => .rush (Sy54Neutral.g ns 0)
noncomputable def okB (s : Sy54.St) (ns : List Nat) : Prop := ∃ b, ns = [b] ∧ b < s.bags.length
noncomputable def PsAll_rush_bag (K : PySem.W.Frag) (d : Ad) (x : Fx) (b : List Stmt) (u : TS) : Prop := ∀ (P : Program) (w : World) (mg : Str → Option Value) (base : Heap) (T : Txt K mg d x) (cdv : Value) (Ar : Around) (outer : List Env) (st : Shared) (H : Hp) (E : XK) (hr : Room 1 (Ar.deeper (envOfC "rush_bag" (defScope s_rush_bag) st.heap.objs.size x.f_rush_bag cdv))), PSs (cxOf CX0 P w K mg base ["airport", "told", "bag"] "rush_bag" (defScope s_rush_bag) x.f_rush_bag cdv Ar outer st H E).nox b u
noncomputable def q_rush_bag_0 (K : PySem.W.Frag) (d : Ad) (x : Fx) : { u : TS // PsAll_rush_bag K d x ((defBody s_rush_bag).drop 0) u } := ⟨_, fun P w mg base T cdv Ar outer st H E hr => (pss_cons (ps_set (i := 2) sc_rush_bag.nd rfl (Or.inl rfl) (pe_ix (ix_listK (K := K) rfl) (pe_fldK (K := K) rfl (pv 0) rfl) (pe_ix (ix_listK (K := K) rfl) (pv 1) pe_int (fun _ _ => rfl)) (fun _ _ => rfl))) (pss_cons (ps_if (PW.pt (pw_or (pt_cmpR op_ne (pe_fldK (K := K) rfl (pv 2) rfl) (pe_glob (v := .int (0)) rfl T.c_HALL.choose_spec ⟨_, rfl⟩) (nomark _)) (pw_or1 (pt_val (pe_fldK (K := K) rfl (pv 2) rfl))))) (pss_one (ps_ret (pe_lst (pa_cons (pe_glob (v := .int (-4)) rfl T.c_NOT_SO.choose_spec ⟨_, rfl⟩) pa_nil)))) pss_nil) (pss_cons (ps_if (pt_not (pt_val (pe_call (ok_has_flown T) (hr.mono (by decide)) rfl T.m_has_flown T.F_has_flown.kp (bd_has_flown T.F_has_flown) .nil pass0 (pa_cons (pv 0) (pa_cons (pe_ix (ix_listK (K := K) rfl) (pe_fldK (K := K) rfl (pv 0) rfl) (pe_fldK (K := K) rfl (pv 2) rfl) (fun _ _ => rfl)) pa_nil))))) (pss_one (ps_ret (pe_lst (pa_cons (pe_glob (v := .int (-7)) rfl T.c_WRONG_OWNER.choose_spec ⟨_, rfl⟩) pa_nil)))) pss_nil) (pss_cons (ps_fldK (K := K) rfl (pv 2) pe_bl rfl) (pss_one (ps_ret (pe_lst (pa_cons pe_int pa_nil))))))))⟩
theorem ok_rush_bag (T : Txt K mg d x) : FnOk P w K mg base CX0 2 x.f_rush_bag x.d_rush_bag ["airport", "told"] (spAct d clRush okB) := by
  refine okQ T.F_rush_bag sc_rush_bag (fun vs H Q E h => ?_) (fun cdv Ar outer st H E hr => (q_rush_bag_0 K d x).2 _ _ _ _ T cdv Ar outer st H E hr) (fun vs H Q E h => ?_)
  · obtain ⟨_, _, _, _, rfl, _⟩ := h
    rfl
  · obtain ⟨A, s, t, ns, rfl, g, ht, nt, ⟨b, rfl, hb⟩, q⟩ := h
    have a := g.a
    obtain ⟨bb, z, hbb, hz⟩ := a.bagAt hb
    obtain ⟨pb, o, hpb, ho⟩ := a.personAt (g.g.bo b z hz)
    obtain ⟨fb, gb, hfb, hgb⟩ := a.flightAt (g.g.pf _ o ho)
    have eg := gone_of hgb
    have ep : Sy54.personOf s z.owner = o := getD_some _ ho
    have e0 : Sy54.step s (clRush [b]) = if z.place ≠ 0 ∨ z.rush = true then (s, Sy54.ok (-4)) else if (Sy54.personOf s z.owner).how ≠ 1 ∨ Sy54.isGone s (Sy54.personOf s z.owner).flight = false then (s, Sy54.ok (-7)) else ({ s with bags := s.bags.set b { z with rush := true } }, Sy54.ok 0) := by
      show Sy54.step s (.rush b) = _
      simp only [Sy54.step, Sy54.onBag, hz]
    rw [e0, ep, eg] at q
    refine ⟨_, rfl, r_bags T a ⟨_, rfl, ix_int (i := 0) ht rfl (ix_ref a.L.hB hbb ?_)⟩⟩
    refine ⟨_, rfl, r_place T a hbb hz ⟨rfl, _, rfl, ?_⟩⟩
    rw [iv_dec]
    refine ite2 (fun h1 => ?_) (fun h1 => ?_)
    · have h1 := of_decide_eq_false (not_t h1)
      rw [if_pos (.inl (by omega))] at q
      exact iteT (refuse q rfl g (Same.refl _))
    have h1 := of_decide_eq_true (not_f h1)
    have hz0 : z.place = 0 := by omega
    refine ⟨_, rfl, r_follows T a hbb hz ⟨_, rfl, ?_⟩⟩
    refine ite2 (fun h2 => ?_) (fun h2 => ?_)
    · rw [if_pos (.inr h2)] at q
      exact refuse q rfl g (Same.refl _)
    rw [if_neg (by rintro (e | e); exact e hz0; exact h2 e)] at q
    refine ⟨_, rfl, _, rfl, r_passengers T a ⟨_, rfl, r_owner T a hbb hz (ix_ref a.L.hP hpb ⟨A, s, conts s, pb, z.owner, o, gb, rfl, a, hpb, ho, hgb, _, rfl, ?_⟩)⟩⟩
    refine ite2 (fun h3 => ?_) (fun h3 => ?_)
    · have h3 := not_t h3
      rw [if_pos (by
        by_cases e : o.how = 1
        · right; rw [e] at h3; simpa using h3
        · exact .inl e)] at q
      exact refuse q rfl g (Same.refl _)
    have h3 := not_f h3
    rw [if_neg (by
      rw [Bool.and_eq_true] at h3
      rintro (e | e)
      · exact e (of_decide_eq_true h3.1)
      · rw [h3.2] at e; cases e)] at q
    obtain ⟨dx, hbo⟩ := a.B.at_ b bb z hbb hz
    refine ⟨_, rfl, bb, d.CB, dx, _, rfl, hbo, T.cl_Bag, T.n_Bag_follows, (by show 5 < 1000; decide), ?_⟩
    have e1 : putF "follows" (V.bl true) (fBag (conts s) b z) = fB { z with rush := true } ((conts s).getD b none) := put_foll
    rw [e1]
    have a2 := a.setBag (dx := dx) (x := { z with rush := true }) (y := (conts s).getD b none) hbb
    have ec : conts { s with bags := s.bags.set b { z with rush := true } } = (conts s).set b ((conts s).getD b none) := conts_put hb
    have g2 := airG a2 ec (g.g.rush hz true)
    exact ⟨by show 1 ≤ sizeLine; decide, fun p hp => finish q g2 (.still (Keep.upd (own_b hbb))) hp rfl⟩
end
end Bg
end
section
set_option Elab.async false
set_option linter.all false
set_option maxRecDepth 100000
set_option maxHeartbeats 2000000
namespace Bg
open PySem PySem.Spec PyProof.Rows L2
theorem ivs_flat (l : List Nat) : (ivs l).all flatV = true := by
  unfold ivs
  rw [List.all_map]
  simp [flatV, iv]
theorem eqV_iv (m n : Nat) : eqV (iv m) (iv n) = decide (m = n) := by
  show ((m : Int) == (n : Int)) = _
  by_cases h : m = n
  · simp [h]
  · have : ¬ (m : Int) = (n : Int) := by omega
    simp [h, this]
theorem inV_ivs (n : Nat) (l : List Nat) : inV (iv n) (ivs l) = decide (n ∈ l) := by
  unfold inV ivs
  rw [List.any_map]
  have e : ((fun y => eqV y (iv n)) ∘ iv) = fun m => decide (m = n) := by
    funext m
    exact eqV_iv m n
  rw [e]
  induction l with
  | nil => simp
  | cons a r ih =>
    rw [List.any_cons, ih]
    by_cases h : a = n
    · simp [h]
    · have : ¬ n = a := fun q => h q.symm
      simp [h, this]
theorem put_pile {piles : List Addr} {i : Nat} {y : Sy54.Box} {D : Addr} : putF "pile" (.ref D) (fBox piles i y) = fK y.flight y.holds y.bears D := by
  unfold fBox fK
  rw [put_tl (by decide +kernel), put_tl (by decide +kernel), put_tl (by decide +kernel), put_hd]
section
variable {P : Program} {w : World} {K : PySem.W.Frag} {mg : Str → Option Value} {base : Heap} {d : Ad} {x : Fx}
noncomputable def sp_has_to_come_out (d : Ad) : Sp := fun vs H Q _ => ∃ (A : Lay) (s : Sy54.St) (c : List (Option Nat)) (bb : Addr) (b : Nat) (y : Sy54.Bag), vs = [.ref A.p, .ref bb] ∧ Air d H A s c ∧ A.bs[b]? = some bb ∧ s.bags[b]? = some y ∧ y.owner < s.people.length ∧ Q (.bl (Sy54.mustOut s b)) H
noncomputable def PsAll_has_to_come_out (K : PySem.W.Frag) (d : Ad) (x : Fx) (b : List Stmt) (u : TS) : Prop := ∀ (P : Program) (w : World) (mg : Str → Option Value) (base : Heap) (T : Txt K mg d x) (cdv : Value) (Ar : Around) (outer : List Env) (st : Shared) (H : Hp) (E : XK) (hr : Room 0 (Ar.deeper (envOfC "has_to_come_out" (defScope s_has_to_come_out) st.heap.objs.size x.f_has_to_come_out cdv))), PSs (cxOf CX0 P w K mg base ["airport", "bag"] "has_to_come_out" (defScope s_has_to_come_out) x.f_has_to_come_out cdv Ar outer st H E).nox b u
noncomputable def q_has_to_come_out_0 (K : PySem.W.Frag) (d : Ad) (x : Fx) : { u : TS // PsAll_has_to_come_out K d x ((defBody s_has_to_come_out).drop 0) u } := ⟨_, fun P w mg base T cdv Ar outer st H E hr => (pss_one (ps_ret (pe_and (pe_not (pe_fldK (K := K) rfl (pv 1) rfl)) (pe_one (pe_cmpR op_eq (pe_fldK (K := K) rfl (pe_ix (ix_listK (K := K) rfl) (pe_fldK (K := K) rfl (pv 0) rfl) (pe_fldK (K := K) rfl (pv 1) rfl) (fun _ _ => rfl)) rfl) (pe_glob (v := .int (2)) rfl T.c_NOT_COMING.choose_spec ⟨_, rfl⟩) (nomark _))))))⟩
theorem ok_has_to_come_out (T : Txt K mg d x) : FnOk P w K mg base CX0 1 x.f_has_to_come_out x.d_has_to_come_out ["airport", "bag"] (sp_has_to_come_out d) := by
  refine okQ T.F_has_to_come_out sc_has_to_come_out (fun vs H Q E h => ?_) (fun cdv Ar outer st H E hr => (q_has_to_come_out_0 K d x).2 _ _ _ _ T cdv Ar outer st H E hr) (fun vs H Q E h => ?_)
  · obtain ⟨_, _, _, _, _, _, rfl, _⟩ := h
    rfl
  · obtain ⟨A, s, c, bb, b, y, rfl, a, hb, hy, ho, k⟩ := h
    obtain ⟨pp, z, hp, hz⟩ := a.personAt ho
    have em : Sy54.mustOut s b = (!y.rush && (z.how == 2)) := by
      unfold Sy54.mustOut Sy54.bagOf Sy54.personOf
      rw [getD_some _ hy, getD_some _ hz]
    rw [em] at k
    refine ⟨_, rfl, r_follows T a hb hy ⟨_, rfl, _, rfl, ?_⟩⟩
    refine ite2 (fun h1 => ?_) (fun h1 => ?_)
    · refine ⟨_, rfl, r_passengers T a ⟨_, rfl, r_owner T a hb hy (ix_ref a.L.hP hp (r_standing T a hp hz ⟨rfl, ?_⟩))⟩⟩
      show Q (.bl (decide (iv z.how = V.int 2))) H
      rw [iv_dec]
      rw [h1, Bool.true_and] at k
      have e : decide ((z.how : Int) = 2) = (z.how == 2) := by
        by_cases q : z.how = 2
        · simp [q]
        · have : ¬ (z.how : Int) = 2 := by omega
          simp [q, this]
      rw [e]
      exact k
    · have h1 : (!y.rush) = false := by simpa using h1
      rw [h1] at k
      exact k
noncomputable def sp_bags_to_get_out (d : Ad) : Sp := fun vs H Q _ => ∃ (A : Lay) (s : Sy54.St) (c : List (Option Nat)) (kb : Addr) (k : Nat) (y : Sy54.Box), vs = [.ref A.p, .ref kb] ∧ Air d H A s c ∧ A.ks[k]? = some kb ∧ s.boxes[k]? = some y ∧ Good s ∧ ∀ H' p, Same H H' → H p = none → H' p = some (.lst (ivs (y.bags.filter (Sy54.mustOut s)))) → Q (.ref p) H'
noncomputable def PsAll_bags_to_get_out (K : PySem.W.Frag) (d : Ad) (x : Fx) (b : List Stmt) (u : TS) : Prop := ∀ (P : Program) (w : World) (mg : Str → Option Value) (base : Heap) (T : Txt K mg d x) (cdv : Value) (Ar : Around) (outer : List Env) (st : Shared) (H : Hp) (E : XK) (hr : Room 1 (Ar.deeper (envOfC "bags_to_get_out" (defScope s_bags_to_get_out) st.heap.objs.size x.f_bags_to_get_out cdv))), PSs (cxOf CX0 P w K mg base ["airport", "container", "number"] "bags_to_get_out" (defScope s_bags_to_get_out) x.f_bags_to_get_out cdv Ar outer st H E).nox b u
noncomputable def q_bags_to_get_out_0 (K : PySem.W.Frag) (d : Ad) (x : Fx) : { u : TS // PsAll_bags_to_get_out K d x ((defBody s_bags_to_get_out).drop 0) u } := ⟨_, fun P w mg base T cdv Ar outer st H E hr => (pss_one (ps_ret (pe_lc (te := (tVar 2)) (tt := (tB (tCall (sp_has_to_come_out d) [] E0 (tCons (tVar 0) (tCons (tOp (rIxL K) (tFld K (tVar 0) "bags") (tVar 2)) tNil))))) (g := gName 2) rfl sc_bags_to_get_out.nd (pi_listK (K := K) rfl (pe_fldK (K := K) rfl (pv 1) rfl)) (blkOk_by (own := [("number", 2)]) (by rfl)) (fun _ _ _ _ _ => (pg_name (i := 2) sc_bags_to_get_out.nd rfl (Or.inl rfl))) (fun _ _ _ _ _ => (pts_one (pt_val (pe_call (ok_has_to_come_out T) (hr.mono (by decide)) rfl T.m_has_to_come_out T.F_has_to_come_out.kp (bd_has_to_come_out T.F_has_to_come_out) .nil pass0 (pa_cons (pv 0) (pa_cons (pe_ix (ix_listK (K := K) rfl) (pe_fldK (K := K) rfl (pv 0) rfl) (pv 2) (fun _ _ => rfl)) pa_nil)))))) (fun _ _ _ _ _ => (pv 2)))))⟩
theorem ok_bags_to_get_out (T : Txt K mg d x) : FnOk P w K mg base CX0 2 x.f_bags_to_get_out x.d_bags_to_get_out ["airport", "container"] (sp_bags_to_get_out d) := by
  refine okQ T.F_bags_to_get_out sc_bags_to_get_out (fun vs H Q E h => ?_) (fun cdv Ar outer st H E hr => (q_bags_to_get_out_0 K d x).2 _ _ _ _ T cdv Ar outer st H E hr) (fun vs H Q E h => ?_)
  · obtain ⟨_, _, _, _, _, _, rfl, _⟩ := h
    rfl
  · obtain ⟨A, s, c, kb, k, y, rfl, a, hk, hy, g, q⟩ := h
    obtain ⟨kb', y', l, hk', hy', hl⟩ := a.boxAt (get_lt hy)
    rw [hy] at hy'
    cases hy'
    have hL := a.L.at_ k l y hl hy
    refine ⟨_, rfl, r_pile T a hk hy hl ⟨l, rfl, ⟨_, SqL.of hL⟩, fun D hD => lc_list (K := K) (a := l) (xs := ivs y.bags) (fun i H' => Same H H' ∧ H' D = some (.lst (ivs ((y.bags.take i).filter (Sy54.mustOut s))))) ⟨Same.new (Same.refl H) hD, upd_same⟩
      (fun i H' _ h => SqL.of (h.1 _ _ hL)) ?_ ?_⟩⟩
    · rintro i v H' hv ⟨sm, hDl⟩
      obtain ⟨n, hn, rfl⟩ := getIvs hv
      have hb : n < s.bags.length := g.kb k y n hy (List.mem_of_getElem? hn)
      obtain ⟨bb, z, hbb, hz⟩ := a.bagAt hb
      have a' := a.same sm
      refine ⟨rfl, _, rfl, _, rfl, r_bags T a' ⟨_, rfl, ix_ref a'.L.hB hbb ⟨A, s, c, bb, n, z, rfl, a', hbb, hz, g.bo n z hz, _, rfl, ?_⟩⟩⟩
      have hb2 : (ivs ((y.bags.take i).filter (Sy54.mustOut s))).length < sizeLine := by
        rw [ivs_len]
        have := List.length_filter_le (Sy54.mustOut s) (y.bags.take i)
        rw [List.length_take] at this
        have := g.kl k y hy
        exact small1000 (by omega)
      refine ite2 (fun h1 => ?_) (fun h1 => ?_)
      · refine ⟨_, rfl, _, hDl, hb2, Same.new sm hD, ?_⟩
        rw [upd_same, take_snoc hn, List.filter_append, List.filter_cons, if_pos h1, List.filter_nil, ivs_app]
        rfl
      · refine ⟨sm, ?_⟩
        rw [hDl, take_snoc hn, List.filter_append, List.filter_cons, if_neg h1, List.filter_nil, List.append_nil]
    · rintro H' ⟨sm, hDl⟩
      rw [ivs_len, List.take_length] at hDl
      exact q H' D sm hD hDl
noncomputable def sp_moves_to_get_out (d : Ad) : Sp := fun vs H Q _ => ∃ (A : Lay) (s : Sy54.St) (c : List (Option Nat)) (kb wl : Addr) (k : Nat) (y : Sy54.Box) (o : Nat → Bool), vs = [.ref kb, .ref wl] ∧ Air d H A s c ∧ A.ks[k]? = some kb ∧ s.boxes[k]? = some y ∧ H wl = some (.lst (ivs (y.bags.filter o))) ∧ Q (iv (Sy54.movesOut o y.bags)) H
noncomputable def PsAll_moves_to_get_out (K : PySem.W.Frag) (d : Ad) (x : Fx) (b : List Stmt) (u : TS) : Prop := ∀ (P : Program) (w : World) (mg : Str → Option Value) (base : Heap) (T : Txt K mg d x) (cdv : Value) (Ar : Around) (outer : List Env) (st : Shared) (H : Hp) (E : XK) (hr : Room 0 (Ar.deeper (envOfC "moves_to_get_out" (defScope s_moves_to_get_out) st.heap.objs.size x.f_moves_to_get_out cdv))), PSs (cxOf CX0 P w K mg base ["container", "wanted", "taken"] "moves_to_get_out" (defScope s_moves_to_get_out) x.f_moves_to_get_out cdv Ar outer st H E).nox b u
noncomputable def q_moves_to_get_out_0 (K : PySem.W.Frag) (d : Ad) (x : Fx) : { u : TS // PsAll_moves_to_get_out K d x ((defBody s_moves_to_get_out).drop 0) u } := ⟨_, fun P w mg base T cdv Ar outer st H E hr => (pss_cons (ps_if (pt_not (pt_truthK (K := K) rfl (pv 1) (fun _ => rfl))) (pss_one (ps_ret pe_int)) pss_nil) (pss_cons (ps_set (i := 2) sc_moves_to_get_out.nd rfl (Or.inl rfl) (pe_op op_sub (pe_callB (lenK (K := K) rfl) (by rfl) T.z_len PySem.boot_len (pa_cons (pe_fldK (K := K) rfl (pv 0) rfl) pa_nil)) (pe_bmK (K := K) rfl PySem.F.plainAttrs_list PySem.F.slot_list_index PySem.F.type_list_index (mt_indexK (K := K) rfl) (pe_fldK (K := K) rfl (pv 0) rfl) (pa_cons (pe_ix (ix_listK (K := K) rfl) (pv 1) pe_int (fun _ _ => rfl)) pa_nil)))) (pss_one (ps_ret (pe_op op_sub (pe_op op_add (pv 2) (pv 2)) (pe_callB (lenK (K := K) rfl) (by rfl) T.z_len PySem.boot_len (pa_cons (pv 1) pa_nil)))))))⟩
theorem ok_moves_to_get_out (T : Txt K mg d x) : FnOk P w K mg base CX0 1 x.f_moves_to_get_out x.d_moves_to_get_out ["container", "wanted"] (sp_moves_to_get_out d) := by
  refine okQ T.F_moves_to_get_out sc_moves_to_get_out (fun vs H Q E h => ?_) (fun cdv Ar outer st H E hr => (q_moves_to_get_out_0 K d x).2 _ _ _ _ T cdv Ar outer st H E hr) (fun vs H Q E h => ?_)
  · obtain ⟨_, _, _, _, _, _, _, _, rfl, _⟩ := h
    rfl
  · obtain ⟨A, s, c, kb, wl, k, y, o, rfl, a, hk, hy, hw, q⟩ := h
    obtain ⟨kb', y', l, hk', hy', hl⟩ := a.boxAt (get_lt hy)
    rw [hy] at hy'
    cases hy'
    have hL := a.L.at_ k l y hl hy
    cases e : y.bags.filter o with
    | nil =>
      rw [e] at hw
      rw [mo_nil e] at q
      refine ⟨_, rfl, _, .inl ⟨_, SqL.of hw, rfl⟩, ?_⟩
      exact iteT q
    | cons b r =>
      rw [e] at hw
      obtain ⟨j, hj, hob, hno, hle, em⟩ := mo_ix e
      refine ⟨_, rfl, _, .inl ⟨_, SqL.of hw, rfl⟩, ?_⟩
      refine iteF ?_
      refine ⟨_, rfl, r_pile T a hk hy hl ⟨l, _, rfl, .inl (SqL.of hL), _, rfl, r_pile T a hk hy hl ⟨.inl ⟨rfl, _, SqL.of hL⟩, _, rfl, ix_int (i := 0) hw rfl ⟨l, _, iv b, j, iv b, rfl, rfl, SqL.of hL, rfl, ivs_flat _, ivs_get hj, by rw [eqV_iv]; simp, ?_, ?_⟩⟩⟩⟩
      · intro m v hmj hv
        obtain ⟨n, hn, rfl⟩ := getIvs hv
        rw [eqV_iv]
        refine decide_eq_false fun e => ?_
        subst e
        rw [hno m n hmj hn] at hob
        cases hob
      refine ⟨_, _, rfl, rfl, ?_⟩
      refine ⟨_, rfl, _, rfl, _, _, rfl, rfl, _, rfl, wl, _, rfl, .inl (SqL.of hw), _, _, rfl, rfl, ?_⟩
      rw [em] at q
      have ev : V.int (((ivs y.bags).length : Int) - (j : Int) + (((ivs y.bags).length : Int) - (j : Int)) - ((ivs (b :: r)).length : Int)) = iv (y.bags.length - j + (y.bags.length - j) - (r.length + 1)) := by
        unfold iv
        rw [ivs_len, ivs_len, List.length_cons]
        congr 1
        omega
      dsimp only
      rw [ev]
      exact q
noncomputable def sp_get_out (d : Ad) : Sp := fun vs H Q _ => ∃ (A : Lay) (s : Sy54.St) (c : List (Option Nat)) (kb wl : Addr) (k : Nat) (y : Sy54.Box) (o : Nat → Bool), vs = [.ref A.p, .ref kb, .ref wl] ∧ Air d H A s c ∧ A.ks[k]? = some kb ∧ s.boxes[k]? = some y ∧ H wl = some (.lst (ivs (y.bags.filter o))) ∧ y.bags.length ≤ 20 ∧ (∀ b, b ∈ y.bags → b < s.bags.length) ∧
  ∀ H' D, Air d H' (A.pull k D) (pulled s k y o) (clr c (y.bags.filter o)) → Grow A H (A.pull k D) H' → Q (iv (Sy54.movesOut o y.bags)) H'
noncomputable def PsAll_get_out (K : PySem.W.Frag) (d : Ad) (x : Fx) (b : List Stmt) (u : TS) : Prop := ∀ (P : Program) (w : World) (mg : Str → Option Value) (base : Heap) (T : Txt K mg d x) (cdv : Value) (Ar : Around) (outer : List Env) (st : Shared) (H : Hp) (E : XK) (hr : Room 1 (Ar.deeper (envOfC "get_out" (defScope s_get_out) st.heap.objs.size x.f_get_out cdv))), PSs (cxOf CX0 P w K mg base ["airport", "container", "wanted", "moves", "number", "bag"] "get_out" (defScope s_get_out) x.f_get_out cdv Ar outer st H E).nox b u
noncomputable def q_get_out_2_0 (K : PySem.W.Frag) (d : Ad) (x : Fx) : { u : TS // PsAll_get_out K d x ((loopBody ((defBody s_get_out).getD 2 (.Pass ⟨0, 0, 0, 0⟩))).drop 0) u } := ⟨_, fun P w mg base T cdv Ar outer st H E hr => (pss_cons (ps_set (i := 5) sc_get_out.nd rfl (Or.inl rfl) (pe_ix (ix_listK (K := K) rfl) (pe_fldK (K := K) rfl (pv 0) rfl) (pv 4) (fun _ _ => rfl))) (pss_cons (ps_fldK (K := K) rfl (pv 5) (pe_glob (v := .int (0)) rfl T.c_HALL.choose_spec ⟨_, rfl⟩) rfl) (pss_one (ps_fldK (K := K) rfl (pv 5) pe_non rfl))))⟩
noncomputable def q_get_out_0 (K : PySem.W.Frag) (d : Ad) (x : Fx) : { u : TS // PsAll_get_out K d x ((defBody s_get_out).drop 0) u } := ⟨_, fun P w mg base T cdv Ar outer st H E hr => (pss_cons (ps_set (i := 3) sc_get_out.nd rfl (Or.inl rfl) (pe_call (ok_moves_to_get_out T) (hr.mono (by decide)) rfl T.m_moves_to_get_out T.F_moves_to_get_out.kp (bd_moves_to_get_out T.F_moves_to_get_out) .nil pass0 (pa_cons (pv 1) (pa_cons (pv 2) pa_nil)))) (pss_cons (ps_fldK (K := K) rfl (pv 1) (pe_lc (te := (tVar 4)) (tt := (tTest (tOp (rIn K true) (tVar 4) (tVar 2)))) (g := gName 4) rfl sc_get_out.nd (pi_listK (K := K) rfl (pe_fldK (K := K) rfl (pv 1) rfl)) (blkOk_by (own := [("number", 4)]) (by rfl)) (fun _ _ _ _ _ => (pg_name (i := 4) sc_get_out.nd rfl (Or.inl rfl))) (fun _ _ _ _ _ => (pts_one (pt_cmpR (notInK (K := K) rfl) (pv 4) (pv 2) (by with_unfolding_all rfl)))) (fun _ _ _ _ _ => (pv 4))) rfl) (pss_cons (ps_for PassesOwn.never rfl (pi_listK (K := K) rfl (pv 2)) (pg_name (i := 4) sc_get_out.nd rfl (Or.inl rfl)) ((q_get_out_2_0 K d x).2 P w mg base T cdv Ar outer st H E hr)) (pss_cons (ps_fldaugK (K := K) rfl (pv 0) (pv 3) in_add) (pss_one (ps_ret (pv 3)))))))⟩
theorem ok_get_out (T : Txt K mg d x) : FnOk P w K mg base CX0 2 x.f_get_out x.d_get_out ["airport", "container", "wanted"] (sp_get_out d) := by
  refine okQ T.F_get_out sc_get_out (fun vs H Q E h => ?_) (fun cdv Ar outer st H E hr => (q_get_out_0 K d x).2 _ _ _ _ T cdv Ar outer st H E hr) (fun vs H Q E h => ?_)
  · obtain ⟨_, _, _, _, _, _, _, _, rfl, _⟩ := h
    rfl
  · obtain ⟨A, s, c, kb, wl, k, y, o, rfl, a, hk, hy, hw, h20, hlt, q⟩ := h
    obtain ⟨kb', y', l, hk', hy', hl⟩ := a.boxAt (get_lt hy)
    rw [hy] at hy'
    cases hy'
    have hL := a.L.at_ k l y hl hy
    -- moves
    refine ⟨_, rfl, _, rfl, A, s, c, kb, wl, k, y, o, rfl, a, hk, hy, hw, ?_⟩
    -- the new pile
    refine ⟨_, rfl, r_pile T a hk hy hl ⟨l, rfl, ⟨_, SqL.of hL⟩, fun D hD => lc_list (K := K) (a := l) (xs := ivs y.bags) (fun i H' => Same H H' ∧ H' D = some (.lst (ivs ((y.bags.take i).filter fun b => !o b)))) ⟨Same.new (Same.refl H) hD, upd_same⟩
      (fun i H' _ h => SqL.of (h.1 _ _ hL)) ?_ ?_⟩⟩
    · rintro i v H' hv ⟨sm, hDl⟩
      obtain ⟨n, hn, rfl⟩ := getIvs hv
      have hnm := List.mem_of_getElem? hn
      refine ⟨rfl, _, rfl, _, rfl, wl, _, rfl, .inl (SqL.of (sm _ _ hw)), rfl, ivs_flat _, _, rfl, ?_⟩
      have ei : (if true = true then !inV (iv n) (ivs (y.bags.filter o)) else inV (iv n) (ivs (y.bags.filter o))) = !o n := by
        rw [if_pos rfl, inV_ivs]
        have : decide (n ∈ y.bags.filter o) = o n := by
          cases eo : o n with
          | true => exact decide_eq_true (List.mem_filter.mpr ⟨hnm, eo⟩)
          | false => exact decide_eq_false fun hm => by rw [(List.mem_filter.mp hm).2] at eo; cases eo
        rw [this]
      rw [ei]
      have hb2 : (ivs ((y.bags.take i).filter fun b => !o b)).length < sizeLine := by
        rw [ivs_len]
        have := List.length_filter_le (fun b => !o b) (y.bags.take i)
        rw [List.length_take] at this
        exact small1000 (by omega)
      refine ite2 (fun h1 => ?_) (fun h1 => ?_)
      · refine ⟨_, rfl, _, hDl, hb2, Same.new sm hD, ?_⟩
        rw [upd_same, take_snoc hn, List.filter_append, List.filter_cons, if_pos h1, List.filter_nil, ivs_app]
        rfl
      · refine ⟨sm, ?_⟩
        rw [hDl, take_snoc hn, List.filter_append, List.filter_cons, if_neg h1, List.filter_nil, List.append_nil]
    rintro H1 ⟨sm, hDl⟩
    rw [ivs_len, List.take_length] at hDl
    have a1 := a.same sm
    obtain ⟨dx, hko⟩ := a1.K.at_ k kb y hk hy
    refine ⟨_, rfl, kb, d.CK, dx, _, rfl, hko, T.cl_Container, T.n_Container_pile, (by show 4 < 1000; decide), ?_⟩
    rw [put_pile]
    have a2 := a.newPile (dx := dx) hk hy sm hD hDl
    have k2 : KeepK 1 H (upd H1 kb (.ins d.CK dx (fK y.flight y.holds y.bears D))) := (KeepK.same sm).trans (.upd hko (by rw [show kd (HO.ins d.CK dx (fBox A.piles k y)) = 3 from kd_K ..]; decide))
    have p2 : Keep A H (upd H1 kb (.ins d.CK dx (fK y.flight y.holds y.bears D))) := (Keep.same sm).trans (Keep.upd (own_k hk))
    -- the bags
    refine ⟨_, rfl, wl, rfl, ⟨_, SqL.of (k2 _ _ hw rfl)⟩, for_list (K := K) (a := wl) (xs := ivs (y.bags.filter o)) (fun i σ H' => ∃ v4 v5, σ = [some (.ref A.p), some (.ref kb), some (.ref wl), some (iv (Sy54.movesOut o y.bags)), v4, v5] ∧
        Air d H' (A.pull k D) { s with boxes := s.boxes.set k { y with bags := y.bags.filter fun b => !o b }, bags := Sy54.setPlace s ((y.bags.filter o).take i) 0 } (clr c ((y.bags.filter o).take i)) ∧ KeepK 1 H H' ∧ Keep A H H')
      ⟨none, none, rfl, by rw [List.take_zero, place_nil]; exact a2, k2, p2⟩ (fun i σ H' _ h => by obtain ⟨_, _, _, _, k', _⟩ := h; exact SqL.of (k' _ _ hw rfl)) ?_ ?_⟩
    · rintro i v σ H' hv ⟨v4, v5, rfl, a3, k3, p3⟩
      obtain ⟨n, hn, rfl⟩ := getIvs hv
      have hnl : n < s.bags.length := hlt n (List.mem_filter.mp (List.mem_of_getElem? hn)).1
      obtain ⟨bb, z, hbb, hz⟩ := a3.bagAt (i := n) (by show n < (Sy54.setPlace s _ 0).length; rw [place_len]; exact hnl)
      have hz : (Sy54.setPlace s ((y.bags.filter o).take i) 0)[n]? = some z := hz
      have hbb : A.bs[n]? = some bb := hbb
      refine ⟨_, rfl, r_bags (A := A.pull k D) T a3 ⟨_, rfl, ix_ref a3.L.hB hbb ?_⟩⟩
      obtain ⟨dy, hbo⟩ := a3.B.at_ n bb z hbb hz
      refine ⟨_, rfl, bb, d.CB, dy, _, rfl, hbo, T.cl_Bag, T.n_Bag_place, (by show 5 < 1000; decide), ?_⟩
      have e1 : putF "place" (V.int 0) (fBag (clr c ((y.bags.filter o).take i)) n z) = fB { z with place := 0 } ((clr c ((y.bags.filter o).take i)).getD n none) := put_place (n := 0) rfl
      rw [e1]
      refine ⟨_, rfl, bb, d.CB, dy, _, rfl, upd_same, T.cl_Bag, T.n_Bag_container, (by show 5 < 1000; decide), ?_⟩
      have e2 : putF "container" V.non (fB { z with place := 0 } ((clr c ((y.bags.filter o).take i)).getD n none)) = fB { z with place := 0 } none := put_cont rfl
      rw [e2, upd_upd]
      have a4 := a3.setBag (dx := dy) (x := { z with place := 0 }) (y := none) hbb
      refine ⟨_, _, rfl, ?_, k3.trans (.upd hbo (by rw [show kd (HO.ins d.CB dy (fBag (clr c ((y.bags.filter o).take i)) n z)) = 5 from kd_B ..]; decide)), p3.trans (Keep.upd (own_b hbb))⟩
      rw [take_snoc hn, place_snoc hz, clr_snoc]
      exact a4
    rintro σ H' ⟨v4, v5, rfl, a3, k3, p3⟩
    rw [ivs_len, List.take_length] at a3
    obtain ⟨dp, hpo⟩ := a3.port
    have hpo : H' A.p = some (.ins d.CA dp (fA A.lF A.lK A.lP A.lB s.moves)) := hpo
    refine ⟨_, rfl, A.p, d.CA, dp, _, _, rfl, hpo, T.cl_Airport, T.n_Airport_moves_made, lk_moves, _, rfl, _, _, rfl, rfl, dp, _, hpo, (by show 5 < 1000; decide), ?_⟩
    have e3 : putF "moves_made" (V.int (((s.moves : Nat) : Int) + ((Sy54.movesOut o y.bags : Nat) : Int))) (fA A.lF A.lK A.lP A.lB s.moves) = fA A.lF A.lK A.lP A.lB (s.moves + Sy54.movesOut o y.bags) := by
      rw [show V.int (((s.moves : Nat) : Int) + ((Sy54.movesOut o y.bags : Nat) : Int)) = iv (s.moves + Sy54.movesOut o y.bags) by unfold iv; congr 1]
      exact put_moves
    rw [e3]
    have a5 := a3.setMoves (dx := dp) (m := s.moves + Sy54.movesOut o y.bags) hpo
    have k5 := k3.trans (KeepK.upd (n := 1) (u := .ins d.CA dp (fA A.lF A.lK A.lP A.lB (s.moves + Sy54.movesOut o y.bags))) hpo (by rw [kd_A]; decide))
    refine ⟨_, rfl, q _ D a5 (Grow.pull a hD k5 (p3.trans (Keep.upd (own_p A))))⟩
noncomputable abbrev clOut : List Nat → Sy54.Call := fun ns => .out (Sy54Neutral.g ns 0)
noncomputable def PsAll_take_bag_out (K : PySem.W.Frag) (d : Ad) (x : Fx) (b : List Stmt) (u : TS) : Prop := ∀ (P : Program) (w : World) (mg : Str → Option Value) (base : Heap) (T : Txt K mg d x) (cdv : Value) (Ar : Around) (outer : List Env) (st : Shared) (H : Hp) (E : XK) (hr : Room 2 (Ar.deeper (envOfC "take_bag_out" (defScope s_take_bag_out) st.heap.objs.size x.f_take_bag_out cdv))), PSs (cxOf CX0 P w K mg base ["airport", "told", "bag"] "take_bag_out" (defScope s_take_bag_out) x.f_take_bag_out cdv Ar outer st H E).nox b u
noncomputable def q_take_bag_out_0 (K : PySem.W.Frag) (d : Ad) (x : Fx) : { u : TS // PsAll_take_bag_out K d x ((defBody s_take_bag_out).drop 0) u } := ⟨_, fun P w mg base T cdv Ar outer st H E hr => (pss_cons (ps_set (i := 2) sc_take_bag_out.nd rfl (Or.inl rfl) (pe_ix (ix_listK (K := K) rfl) (pe_fldK (K := K) rfl (pv 0) rfl) (pe_ix (ix_listK (K := K) rfl) (pv 1) pe_int (fun _ _ => rfl)) (fun _ _ => rfl))) (pss_cons (ps_if (pt_cmpR op_ne (pe_fldK (K := K) rfl (pv 2) rfl) (pe_glob (v := .int (1)) rfl T.c_LOADED.choose_spec ⟨_, rfl⟩) (nomark _)) (pss_one (ps_ret (pe_lst (pa_cons (pe_glob (v := .int (-4)) rfl T.c_NOT_SO.choose_spec ⟨_, rfl⟩) pa_nil)))) pss_nil) (pss_one (ps_ret (pe_lst (pa_cons (pe_call (ok_get_out T) (hr.mono (by decide)) rfl T.m_get_out T.F_get_out.kp (bd_get_out T.F_get_out) .nil pass0 (pa_cons (pv 0) (pa_cons (pe_ix (ix_listK (K := K) rfl) (pe_fldK (K := K) rfl (pv 0) rfl) (pe_fldK (K := K) rfl (pv 2) rfl) (fun _ _ => rfl)) (pa_cons (pe_lst (pa_cons (pe_ix (ix_listK (K := K) rfl) (pv 1) pe_int (fun _ _ => rfl)) pa_nil)) pa_nil)))) pa_nil))))))⟩
theorem ok_take_bag_out (T : Txt K mg d x) : FnOk P w K mg base CX0 3 x.f_take_bag_out x.d_take_bag_out ["airport", "told"] (spAct d clOut okB) := by
  refine okQ T.F_take_bag_out sc_take_bag_out (fun vs H Q E h => ?_) (fun cdv Ar outer st H E hr => (q_take_bag_out_0 K d x).2 _ _ _ _ T cdv Ar outer st H E hr) (fun vs H Q E h => ?_)
  · obtain ⟨_, _, _, _, rfl, _⟩ := h
    rfl
  · obtain ⟨A, s, t, ns, rfl, g, ht, nt, ⟨b, rfl, hb⟩, q⟩ := h
    have a := g.a
    obtain ⟨bb, z, hbb, hz⟩ := a.bagAt hb
    have q : PostR d A H (Sy54.step s (.out b)) Q := q
    refine ⟨_, rfl, r_bags T a ⟨_, rfl, ix_int (i := 0) ht rfl (ix_ref a.L.hB hbb ?_)⟩⟩
    refine ⟨_, rfl, r_place T a hbb hz ⟨rfl, _, rfl, ?_⟩⟩
    rw [iv_dec]
    refine ite2 (fun h1 => ?_) (fun h1 => ?_)
    · have h1 := of_decide_eq_false (not_t h1)
      have h1 : z.place ≠ 1 := by omega
      have e0 : Sy54.step s (.out b) = (s, Sy54.ok (-4)) := by
        simp only [Sy54.step, Sy54.onBag, hz]
        split
        · rfl
        · rw [if_pos h1]
      exact refuse q e0 g (Same.refl _)
    have h1 := of_decide_eq_true (not_f h1)
    have h1 : z.place = 1 := by omega
    obtain ⟨k, y, hy, hm⟩ := g.g.out b z hz (.inl h1)
    obtain ⟨kb, y', l, hkb, hy', hl⟩ := a.boxAt (get_lt hy)
    rw [hy] at hy'
    cases hy'
    have ebo := box_some g.g hy hm
    have e0 : Sy54.step s (.out b) = (Sy54.without s (fun c => c == b) y.flight, Sy54.ok (((Sy54.without s (fun c => c == b) y.flight).moves - s.moves : Nat) : Int)) := by
      simp only [Sy54.step, Sy54.onBag, hz, ebo, hy, Option.map_some, Option.getD_some]
      rw [if_neg (fun e => e h1)]
    rw [e0] at q
    have ec : (conts s)[b]? = some (some k) := by rw [conts_get hb, ebo]
    obtain ⟨ew, ect⟩ := one_pull g.g hy hm
    have ef := filter_one (g.g.nd k y hy) hm
    refine ⟨_, rfl, _, rfl, r_containers T a ⟨_, rfl, r_container T a hbb hz ec (ix_ref a.L.hK hkb ?_)⟩⟩
    refine ⟨_, rfl, ix_int (i := 0) ht rfl ⟨by show 1 ≤ sizeLine; decide, fun wl hwl => ?_⟩⟩
    have s1 : Same H (upd H wl (.lst [iv b])) := Same.new (Same.refl H) hwl
    refine ⟨A, s, conts s, kb, wl, k, y, (fun c => c == b), rfl, a.same s1, hkb, hy, by rw [ef]; exact upd_same, by have := g.g.kl k y hy; omega, fun c hc => g.g.kb k y c hy hc, fun H1 D a1 w1 => ?_⟩
    refine ⟨by show 1 ≤ sizeLine; decide, fun p hp => ?_⟩
    have g1 : AirG d H1 (A.pull k D) (Sy54.without s (fun c => c == b) y.flight) := ⟨by rw [ect, ew]; exact a1, g.g.without _ _⟩
    refine finish q g1 ((Grow.still (Keep.same s1)).trans w1) hp ?_
    have e : (Sy54.without s (fun c => c == b) y.flight).moves - s.moves = Sy54.movesOut (fun c => c == b) y.bags := by rw [ew]; show s.moves + _ - s.moves = _; omega
    rw [e]
    rfl
end
end Bg
end
section
set_option Elab.async false
set_option linter.all false
set_option maxRecDepth 100000
set_option maxHeartbeats 2000000
namespace Bg
open PySem PySem.Spec PyProof.Rows L2
theorem Grow.put {A A' : Lay} {H H' : Hp} {D : Addr} {o : HO} (w : Grow A H A' H') (hD : H D = none) : Grow A H A' (upd H' D o) := by
  refine ⟨w.p, fun b h => (w.sub b h).elim .inl fun ⟨u, e⟩ => .inr ?_, w.new, fun b u e n => ?_⟩
  · by_cases q : b = D
    · exact ⟨o, by rw [q]; exact upd_same⟩
    · exact ⟨u, by rw [upd_ne q]; exact e⟩
  · rw [upd_ne (ne_of_none e hD)]
    exact w.keep b u e n
theorem Grow.sm {A A' : Lay} {H H' H2 : Hp} (w : Grow A H A' H') (sm : Same H' H2) : Grow A H A' H2 := w.trans (.still (.same sm))
theorem out1 (v : Int) (l : List Nat) : (Sy54Neutral.out ⟨v, [Sy54.ints l]⟩).map V.int = V.int v :: V.int ((ivs l).length : Nat) :: ivs l := by
  unfold Sy54Neutral.out
  rw [ivs_len]
  simp [ivs_ints, Sy54.ints]
noncomputable def mvI (s : Sy54.St) (o : Nat → Bool) (l : List Nat) : Nat := (l.map fun i => Sy54.movesOut o (boxAt s i).bags).sum
theorem mvI_snoc (s : Sy54.St) (o : Nat → Bool) (l : List Nat) (i : Nat) : mvI s o (l ++ [i]) = mvI s o l + Sy54.movesOut o (boxAt s i).bags := by
  unfold mvI
  rw [List.map_append, List.sum_append]
  simp
theorem mvI_on (s : Sy54.St) (o : Nat → Bool) (f : Nat) : ((Sy54.boxesOn s f).map fun (x : Sy54.Box) => Sy54.movesOut o x.bags).sum = mvI s o (idxOn s f) := by
  unfold mvI
  rw [boxesOn_idx, List.map_map]
  rfl
theorem not_take {l : List Nat} {j i : Nat} (nd : l.Nodup) (h : l[j]? = some i) : ¬ i ∈ l.take j := fun hm => by
  obtain ⟨m, hm⟩ := List.getElem?_of_mem hm
  have hlt := get_lt hm
  rw [List.length_take] at hlt
  rw [List.getElem?_take_of_lt (by omega)] at hm
  have := nd_ix nd hm h
  omega
theorem own_no {d : Ad} {H : Hp} {A : Lay} {s : Sy54.St} {c : List (Option Nat)} (a : Air d H A s c) {b : Addr} (h : H b = none) : ¬ A.own b := fun ho => by
  obtain ⟨o, e⟩ := a.own_some ho
  rw [h] at e
  cases e
section
variable {P : Program} {w : World} {K : PySem.W.Frag} {mg : Str → Option Value} {base : Heap} {d : Ad} {x : Fx}
noncomputable def sp_with_count : Sp := fun vs H Q _ => ∃ (l : Addr) (xs : List V), vs = [.ref l] ∧ H l = some (.lst xs) ∧ xs.length ≤ 900 ∧ ∀ H' p, Same H H' → H p = none → H' p = some (.lst (V.int (xs.length : Nat) :: xs)) → Q (.ref p) H'
noncomputable def PsAll_with_count (K : PySem.W.Frag) (d : Ad) (x : Fx) (b : List Stmt) (u : TS) : Prop := ∀ (P : Program) (w : World) (mg : Str → Option Value) (base : Heap) (T : Txt K mg d x) (cdv : Value) (Ar : Around) (outer : List Env) (st : Shared) (H : Hp) (E : XK) (hr : Room 0 (Ar.deeper (envOfC "with_count" (defScope s_with_count) st.heap.objs.size x.f_with_count cdv))), PSs (cxOf CX0 P w K mg base ["numbers"] "with_count" (defScope s_with_count) x.f_with_count cdv Ar outer st H E).nox b u
noncomputable def q_with_count_0 (K : PySem.W.Frag) (d : Ad) (x : Fx) : { u : TS // PsAll_with_count K d x ((defBody s_with_count).drop 0) u } := ⟨_, fun P w mg base T cdv Ar outer st H E hr => (pss_one (ps_ret (pe_op op_cat (pe_lst (pa_cons (pe_callB (lenK (K := K) rfl) (by rfl) T.z_len PySem.boot_len (pa_cons (pv 0) pa_nil)) pa_nil)) (pv 0))))⟩
theorem ok_with_count (T : Txt K mg d x) : FnOk P w K mg base CX0 1 x.f_with_count x.d_with_count ["numbers"] sp_with_count := by
  refine okQ T.F_with_count sc_with_count (fun vs H Q E h => ?_) (fun cdv Ar outer st H E hr => (q_with_count_0 K d x).2 _ _ _ _ T cdv Ar outer st H E hr) (fun vs H Q E h => ?_)
  · obtain ⟨_, _, rfl, _⟩ := h
    rfl
  · obtain ⟨l, xs, rfl, hl, hz, q⟩ := h
    refine ⟨_, rfl, l, _, rfl, .inl (SqL.of hl), by show 1 ≤ sizeLine; decide, fun p1 h1 => ?_⟩
    have s1 : Same H (upd H p1 (.lst [V.int (xs.length : Nat)])) := Same.new (Same.refl H) h1
    refine ⟨_, rfl, p1, l, _, _, rfl, rfl, upd_same, s1 _ _ hl, small (by simp only [List.length_cons, List.length_nil]; omega), fun p hp => ?_⟩
    exact q _ p (s1.trans (Same.new (Same.refl _) hp)) (s1.free hp) upd_same
noncomputable abbrev clMoves : List Nat → Sy54.Call := fun ns => .moves (Sy54Neutral.g ns 0)
noncomputable def PsAll_count_moves (K : PySem.W.Frag) (d : Ad) (x : Fx) (b : List Stmt) (u : TS) : Prop := ∀ (P : Program) (w : World) (mg : Str → Option Value) (base : Heap) (T : Txt K mg d x) (cdv : Value) (Ar : Around) (outer : List Env) (st : Shared) (H : Hp) (E : XK) (hr : Room 2 (Ar.deeper (envOfC "count_moves" (defScope s_count_moves) st.heap.objs.size x.f_count_moves cdv))), PSs (cxOf CX0 P w K mg base ["airport", "told", "flight", "moves", "container"] "count_moves" (defScope s_count_moves) x.f_count_moves cdv Ar outer st H E).nox b u
noncomputable def q_count_moves_0 (K : PySem.W.Frag) (d : Ad) (x : Fx) : { u : TS // PsAll_count_moves K d x ((defBody s_count_moves).drop 0) u } := ⟨_, fun P w mg base T cdv Ar outer st H E hr => (pss_cons (ps_set (i := 2) sc_count_moves.nd rfl (Or.inl rfl) (pe_ix (ix_listK (K := K) rfl) (pv 1) pe_int (fun _ _ => rfl))) (pss_cons (ps_if (pt_val (pe_fldK (K := K) rfl (pe_ix (ix_listK (K := K) rfl) (pe_fldK (K := K) rfl (pv 0) rfl) (pv 2) (fun _ _ => rfl)) rfl)) (pss_one (ps_ret (pe_lst (pa_cons (pe_glob (v := .int (-4)) rfl T.c_NOT_SO.choose_spec ⟨_, rfl⟩) pa_nil)))) pss_nil) (pss_cons (ps_set (i := 3) sc_count_moves.nd rfl (Or.inl rfl) pe_int) (pss_cons (ps_for PassesOwn.never rfl (pi_listK (K := K) rfl (pe_call (ok_containers_on_flight T) (hr.mono (by decide)) rfl T.m_containers_on_flight T.F_containers_on_flight.kp (bd_containers_on_flight T.F_containers_on_flight) .nil pass0 (pa_cons (pv 0) (pa_cons (pv 2) pa_nil)))) (pg_name (i := 4) sc_count_moves.nd rfl (Or.inl rfl)) (pss_one (ps_aug (i := 3) sc_count_moves.nd rfl (Or.inl rfl) (pe_call (ok_moves_to_get_out T) (hr.mono (by decide)) rfl T.m_moves_to_get_out T.F_moves_to_get_out.kp (bd_moves_to_get_out T.F_moves_to_get_out) .nil pass0 (pa_cons (pv 4) (pa_cons (pe_call (ok_bags_to_get_out T) (hr.mono (by decide)) rfl T.m_bags_to_get_out T.F_bags_to_get_out.kp (bd_bags_to_get_out T.F_bags_to_get_out) .nil pass0 (pa_cons (pv 0) (pa_cons (pv 4) pa_nil))) pa_nil))) ip_add))) (pss_one (ps_ret (pe_lst (pa_cons (pv 3) pa_nil))))))))⟩
theorem ok_count_moves (T : Txt K mg d x) : FnOk P w K mg base CX0 3 x.f_count_moves x.d_count_moves ["airport", "told"] (spAct d clMoves okF) := by
  refine okQ T.F_count_moves sc_count_moves (fun vs H Q E h => ?_) (fun cdv Ar outer st H E hr => (q_count_moves_0 K d x).2 _ _ _ _ T cdv Ar outer st H E hr) (fun vs H Q E h => ?_)
  · obtain ⟨_, _, _, _, rfl, _⟩ := h
    rfl
  · obtain ⟨A, s, t, ns, rfl, g, ht, nt, ⟨f, rfl, hf⟩, k⟩ := h
    have a := g.a
    obtain ⟨fb, gb, hfb, hgb⟩ := a.flightAt hf
    have eg := gone_of hgb
    refine ⟨_, rfl, ix_int (i := 0) ht rfl ?_⟩
    refine ⟨_, rfl, r_flights T a ⟨_, rfl, ix_ref a.L.hF hfb (r_gone T a hfb hgb ⟨_, rfl, ?_⟩)⟩⟩
    have e0 : Sy54.step s (clMoves [f]) = Sy54.onFlight s f fun _ => (s, Sy54.ok (Sy54.movesReady s f : Nat)) := rfl
    rw [e0] at k
    unfold Sy54.onFlight at k
    rw [if_neg (by omega), eg] at k
    refine ite2 (fun h1 => ?_) (fun h1 => ?_)
    · rw [if_pos h1] at k
      exact refuse k rfl g (Same.refl _)
    rw [if_neg h1] at k
    refine ⟨_, rfl, _, rfl, A, s, conts s, f, rfl, a, g.g.sized, fun H1 p sm hp hpl => ?_⟩
    refine ⟨p, rfl, ⟨_, SqL.of hpl⟩, for_list (K := K) (a := p) (xs := ksOf A (idxOn s f)) (fun j σ H' => ∃ v, σ = [some (.ref A.p), some (.ref t), some (iv f), some (iv (mvI s (Sy54.mustOut s) ((idxOn s f).take j))), v] ∧ Same H1 H')
      ⟨none, rfl, Same.refl _⟩ (fun i σ H' _ h => by obtain ⟨_, _, sm'⟩ := h; exact SqL.of (sm' _ _ hpl)) ?_ ?_⟩
    · rintro j v σ H' hv ⟨v0, rfl, sm'⟩
      obtain ⟨i, hij, rfl⟩ := getKs hv
      obtain ⟨y, hy, _⟩ := idx_mem (List.mem_of_getElem? hij)
      obtain ⟨kb, y', l, hk, hy', hl⟩ := a.boxAt (get_lt hy)
      rw [hy] at hy'
      cases hy'
      rw [getD_some 0 hk]
      have a' := a.same (sm.trans sm')
      refine ⟨_, rfl, _, rfl, _, rfl, _, rfl, A, s, conts s, kb, i, y, rfl, a', hk, hy, g.g, fun H2 wl sm2 hwl ew => ?_⟩
      refine ⟨A, s, conts s, kb, wl, i, y, Sy54.mustOut s, rfl, a'.same sm2, hk, hy, ew, _, _, rfl, rfl, ?_⟩
      refine ⟨some (.ref kb), ?_, sm'.trans sm2⟩
      have ev : V.int (((mvI s (Sy54.mustOut s) ((idxOn s f).take j) : Nat) : Int) + ((Sy54.movesOut (Sy54.mustOut s) y.bags : Nat) : Int)) = iv (mvI s (Sy54.mustOut s) ((idxOn s f).take (j + 1))) := by
        unfold iv
        rw [take_snoc hij, mvI_snoc, boxAt_eq hy]
        congr 1
      rw [← ev]
      rfl
    · rintro σ H' ⟨v0, rfl, sm'⟩
      rw [ksOf_len, List.take_length]
      refine ⟨_, rfl, by show 1 ≤ sizeLine; decide, fun r hr => ?_⟩
      refine finish k (g.same (sm.trans sm')) (.still (.same (sm.trans sm'))) hr ?_
      have e : Sy54.movesReady s f = mvI s (Sy54.mustOut s) (idxOn s f) := mvI_on s _ f
      rw [e]
      rfl
structure Clr (d : Ad) (A : Lay) (H : Hp) (s : Sy54.St) (f : Nat) (pl D : Addr) (j : Nat) (A' : Lay) (H' : Hp) : Prop where
  air : AirG d H' A' (Sy54.without s (oL s (Sy54.mustOut s) ((idxOn s f).take j)) f)
  grow : Grow A H A' H'
  ks : A'.ks = A.ks
  hp : H' pl = some (.lst (ksOf A (idxOn s f)))
  np : ¬ A'.own pl
  hD : H' D = some (.lst (ivs ((onI s ((idxOn s f).take j)).filter (Sy54.mustOut s))))
  nD : ¬ A'.own D
noncomputable abbrev clClear : List Nat → Sy54.Call := fun ns => .clear (Sy54Neutral.g ns 0)
noncomputable def PsAll_clear_flight (K : PySem.W.Frag) (d : Ad) (x : Fx) (b : List Stmt) (u : TS) : Prop := ∀ (P : Program) (w : World) (mg : Str → Option Value) (base : Heap) (T : Txt K mg d x) (cdv : Value) (Ar : Around) (outer : List Env) (st : Shared) (H : Hp) (E : XK) (hr : Room 2 (Ar.deeper (envOfC "clear_flight" (defScope s_clear_flight) st.heap.objs.size x.f_clear_flight cdv))), PSs (cxOf CX0 P w K mg base ["airport", "told", "flight", "moves", "came_out", "container", "wanted"] "clear_flight" (defScope s_clear_flight) x.f_clear_flight cdv Ar outer st H E).nox b u
noncomputable def q_clear_flight_4_0 (K : PySem.W.Frag) (d : Ad) (x : Fx) : { u : TS // PsAll_clear_flight K d x ((loopBody ((defBody s_clear_flight).getD 4 (.Pass ⟨0, 0, 0, 0⟩))).drop 0) u } := ⟨_, fun P w mg base T cdv Ar outer st H E hr => (pss_cons (ps_set (i := 6) sc_clear_flight.nd rfl (Or.inl rfl) (pe_call (ok_bags_to_get_out T) (hr.mono (by decide)) rfl T.m_bags_to_get_out T.F_bags_to_get_out.kp (bd_bags_to_get_out T.F_bags_to_get_out) .nil pass0 (pa_cons (pv 0) (pa_cons (pv 5) pa_nil)))) (pss_cons (ps_aug (i := 3) sc_clear_flight.nd rfl (Or.inl rfl) (pe_call (ok_get_out T) (hr.mono (by decide)) rfl T.m_get_out T.F_get_out.kp (bd_get_out T.F_get_out) .nil pass0 (pa_cons (pv 0) (pa_cons (pv 5) (pa_cons (pv 6) pa_nil)))) ip_add) (pss_one (ps_expr (pe_bmK (K := K) rfl PySem.F.plainAttrs_list PySem.F.slot_list_extend PySem.F.type_list_extend mt_extend (pv 4) (pa_cons (pv 6) pa_nil))))))⟩
noncomputable def q_clear_flight_0 (K : PySem.W.Frag) (d : Ad) (x : Fx) : { u : TS // PsAll_clear_flight K d x ((defBody s_clear_flight).drop 0) u } := ⟨_, fun P w mg base T cdv Ar outer st H E hr => (pss_cons (ps_set (i := 2) sc_clear_flight.nd rfl (Or.inl rfl) (pe_ix (ix_listK (K := K) rfl) (pv 1) pe_int (fun _ _ => rfl))) (pss_cons (ps_if (pt_val (pe_fldK (K := K) rfl (pe_ix (ix_listK (K := K) rfl) (pe_fldK (K := K) rfl (pv 0) rfl) (pv 2) (fun _ _ => rfl)) rfl)) (pss_one (ps_ret (pe_lst (pa_cons (pe_glob (v := .int (-4)) rfl T.c_NOT_SO.choose_spec ⟨_, rfl⟩) pa_nil)))) pss_nil) (pss_cons (ps_set (i := 3) sc_clear_flight.nd rfl (Or.inl rfl) pe_int) (pss_cons (ps_set (i := 4) sc_clear_flight.nd rfl (Or.inl rfl) (pe_lst pa_nil)) (pss_cons (ps_for PassesOwn.never rfl (pi_listK (K := K) rfl (pe_call (ok_containers_on_flight T) (hr.mono (by decide)) rfl T.m_containers_on_flight T.F_containers_on_flight.kp (bd_containers_on_flight T.F_containers_on_flight) .nil pass0 (pa_cons (pv 0) (pa_cons (pv 2) pa_nil)))) (pg_name (i := 5) sc_clear_flight.nd rfl (Or.inl rfl)) ((q_clear_flight_4_0 K d x).2 P w mg base T cdv Ar outer st H E hr)) (pss_one (ps_ret (pe_op op_cat (pe_lst (pa_cons (pv 3) pa_nil)) (pe_call (ok_with_count T) (hr.mono (by decide)) rfl T.m_with_count T.F_with_count.kp (bd_with_count T.F_with_count) .nil pass0 (pa_cons (pv 4) pa_nil))))))))))⟩
theorem ok_clear_flight (T : Txt K mg d x) : FnOk P w K mg base CX0 3 x.f_clear_flight x.d_clear_flight ["airport", "told"] (spAct d clClear okF) := by
  refine okQ T.F_clear_flight sc_clear_flight (fun vs H Q E h => ?_) (fun cdv Ar outer st H E hr => (q_clear_flight_0 K d x).2 _ _ _ _ T cdv Ar outer st H E hr) (fun vs H Q E h => ?_)
  · obtain ⟨_, _, _, _, rfl, _⟩ := h
    rfl
  · obtain ⟨A, s, t, ns, rfl, g, ht, nt, ⟨f, rfl, hf⟩, k⟩ := h
    have a := g.a
    obtain ⟨fb, gb, hfb, hgb⟩ := a.flightAt hf
    have eg := gone_of hgb
    refine ⟨_, rfl, ix_int (i := 0) ht rfl ?_⟩
    refine ⟨_, rfl, r_flights T a ⟨_, rfl, ix_ref a.L.hF hfb (r_gone T a hfb hgb ⟨_, rfl, ?_⟩)⟩⟩
    have e0 : Sy54.step s (clClear [f]) = Sy54.onFlight s f fun _ => (Sy54.without s (Sy54.mustOut s) f, ⟨(((Sy54.without s (Sy54.mustOut s) f).moves - s.moves : Nat) : Int), [Sy54.ints ((Sy54.bagsOn s f).filter (Sy54.mustOut s))]⟩) := rfl
    rw [e0] at k
    unfold Sy54.onFlight at k
    rw [if_neg (by omega), eg] at k
    refine ite2 (fun h1 => ?_) (fun h1 => ?_)
    · rw [if_pos h1] at k
      exact refuse k rfl g (Same.refl _)
    rw [if_neg h1] at k
    -- moves = 0; came_out = []
    refine ⟨Nat.zero_le _, fun D hD => ?_⟩
    have s0 : Same H (upd H D (.lst [])) := Same.new (Same.refl H) hD
    have a0 := a.same s0
    refine ⟨_, rfl, _, rfl, A, s, conts s, f, rfl, a0, g.g.sized, fun H1 pl sm hp hpl => ?_⟩
    have npD : pl ≠ D := (upd_none hp).1
    have s1 : Same H H1 := s0.trans sm
    have hD1 : H1 D = some (.lst []) := sm _ _ upd_same
    refine ⟨pl, rfl, ⟨_, SqL.of hpl⟩, for_list (K := K) (a := pl) (xs := ksOf A (idxOn s f)) (fun j σ H' => ∃ A' v5 v6, σ = [some (.ref A'.p), some (.ref t), some (iv f), some (iv (mvI s (Sy54.mustOut s) ((idxOn s f).take j))), some (.ref D), v5, v6] ∧ Clr d A H s f pl D j A' H')
      ⟨A, none, none, rfl, ⟨by rw [List.take_zero, wo_start]; exact g.same s1, .still (.same s1), rfl, hpl, own_no a (s0.free hp), by rw [hD1]; rfl, own_no a hD⟩⟩ (fun i σ H' _ h => by obtain ⟨_, _, _, _, C⟩ := h; exact SqL.of C.hp) ?_ ?_⟩
    · rintro j v σ H' hv ⟨A', v5, v6, rfl, C⟩
      obtain ⟨i, hij, rfl⟩ := getKs hv
      obtain ⟨y, hy, hyf⟩ := idx_mem (List.mem_of_getElem? hij)
      have hni := not_take (idx_nodup s f) hij
      have hyt : (Sy54.without s (oL s (Sy54.mustOut s) ((idxOn s f).take j)) f).boxes[i]? = some y := wo_at g.g hy hni
      obtain ⟨kb, y', l, hk, hy', hl⟩ := C.air.a.boxAt (get_lt hyt)
      rw [hyt] at hy'
      cases hy'
      have ek : A.ks.getD i 0 = kb := by rw [← C.ks]; exact getD_some 0 hk
      rw [ek]
      -- wanted = bags_to_get_out(airport, container)
      refine ⟨_, rfl, _, rfl, A', _, _, kb, i, y, rfl, C.air.a, hk, hyt, C.air.g, fun H2 wl sm2 hwl ew => ?_⟩
      rw [must_wo] at ew
      have y20 := g.g.sized.2 i y hy
      have nwl : ¬ A'.own wl := own_no C.air.a hwl
      have wD : wl ≠ D := fun e => by rw [e, C.hD] at hwl; cases hwl
      -- moves += get_out(airport, container, wanted)
      refine ⟨_, rfl, _, rfl, _, rfl, _, rfl, A', _, _, kb, wl, i, y, Sy54.mustOut s, rfl, C.air.a.same sm2, hk, hyt, ew, y20, fun b hb => ?_, fun H3 D' a3 w3 => ⟨_, _, rfl, rfl, ?_⟩⟩
      · exact C.air.g.kb i y b hyt hb
      have hD2 := sm2 _ _ C.hD
      have hp2 := sm2 _ _ C.hp
      have hD3 := w3.keep D _ hD2 C.nD
      have hp3 := w3.keep pl _ hp2 C.np
      have hw3 := w3.keep wl _ ew nwl
      have nD3 : ¬ (A'.pull i D').own D := fun h => (w3.new D h).elim C.nD fun e => by rw [hD2] at e; cases e
      have np3 : ¬ (A'.pull i D').own pl := fun h => (w3.new pl h).elim C.np fun e => by rw [hp2] at e; cases e
      -- came_out.extend(wanted)
      have b1 := List.length_filter_le (Sy54.mustOut s) (onI s ((idxOn s f).take j))
      have b2 := take_len g.g.sized f j
      have b3 := List.length_filter_le (Sy54.mustOut s) y.bags
      refine ⟨_, rfl, .inl ⟨rfl, _, SqL.of hD3⟩, _, rfl, D, wl, _, _, rfl, rfl, hD3, hw3, ?_, ?_⟩
      · rw [ivs_len, ivs_len]
        exact small (by omega)
      refine ⟨A'.pull i D', some (.ref kb), some (.ref wl), ?_, ?_⟩
      · have ev : V.int (((mvI s (Sy54.mustOut s) ((idxOn s f).take j) : Nat) : Int) + ((Sy54.movesOut (Sy54.mustOut s) y.bags : Nat) : Int)) = iv (mvI s (Sy54.mustOut s) ((idxOn s f).take (j + 1))) := by
          unfold iv
          rw [take_snoc hij, mvI_snoc, boxAt_eq hy]
          congr 1
        rw [← ev]
        rfl
      · have ew1 := wo_snoc (o := Sy54.mustOut s) g.g hy hyf hni
        have ew2 := ct_snoc (o := Sy54.mustOut s) (L := (idxOn s f).take j) g.g hy hyf
        have g3 : AirG d H3 (A'.pull i D') (Sy54.without s (oL s (Sy54.mustOut s) ((idxOn s f).take (j + 1))) f) := by
          rw [take_snoc hij]
          exact ⟨by rw [ew2, ew1]; exact a3, g.g.without _ _⟩
        refine ⟨⟨g3.a.other fun b o e ho => ?_, g3.g⟩, ((C.grow.sm sm2).trans w3).put hD, C.ks, by rw [upd_ne npD]; exact hp3, np3, ?_, nD3⟩
        · rw [upd_ne fun e => nD3 (by rw [← e]; exact ho)]
          exact e
        · rw [upd_same, take_snoc hij, onI_snoc, boxAt_eq hy, List.filter_append, ivs_app]
    · rintro σ H' ⟨A', v5, v6, rfl, C⟩
      obtain ⟨air, grow, _, _, _, hD', nD'⟩ := C
      rw [ksOf_len, List.take_length] at air hD' ⊢
      rw [wo_end] at air
      have eo : onI s (idxOn s f) = Sy54.bagsOn s f := (bagsOn_idx s f).symm
      rw [eo] at hD'
      have b1 := List.length_filter_le (Sy54.mustOut s) (Sy54.bagsOn s f)
      have b2 := on_len g.g.sized f
      refine ⟨_, rfl, by show 1 ≤ sizeLine; decide, fun p1 h1 => ?_⟩
      have s2 : Same H' (upd H' p1 (.lst [iv (mvI s (Sy54.mustOut s) (idxOn s f))])) := Same.new (Same.refl _) h1
      refine ⟨_, rfl, D, _, rfl, s2 _ _ hD', by rw [ivs_len]; omega, fun H2 p2 sm2 hp2 e2 => ?_⟩
      refine ⟨p1, p2, _, _, rfl, rfl, sm2 _ _ upd_same, e2, small (by simp only [List.length_cons, List.length_nil, ivs_len]; omega), fun p hp => ?_⟩
      refine finish k (air.same (s2.trans sm2)) (grow.sm (s2.trans sm2)) hp ?_
      dsimp only
      rw [out1]
      have em : (Sy54.without s (Sy54.mustOut s) f).moves - s.moves = mvI s (Sy54.mustOut s) (idxOn s f) := by
        rw [← mvI_on]
        show s.moves + _ - s.moves = _
        omega
      rw [em]
      rfl
end
end Bg
end
section
set_option Elab.async false
set_option linter.all false
set_option maxRecDepth 100000
set_option maxHeartbeats 2000000
namespace Bg
open PySem PySem.Spec PyProof.Rows L2
theorem ivs_empty (l : List Nat) : (ivs l).isEmpty = l.isEmpty := by cases l <;> rfl
theorem put_gone {g h : Bool} : putF "gone" (.bl h) (fF g) = fF h := put_hd
theorem put_pfl {f n h : Nat} : putF "flight" (iv n) (fP f h) = fP n h := put_hd
section
variable {P : Program} {w : World} {K : PySem.W.Frag} {mg : Str → Option Value} {base : Heap} {d : Ad} {x : Fx}
noncomputable abbrev clGoes : List Nat → Sy54.Call := fun ns => .goes (Sy54Neutral.g ns 0)
noncomputable def PsAll_let_go (K : PySem.W.Frag) (d : Ad) (x : Fx) (b : List Stmt) (u : TS) : Prop := ∀ (P : Program) (w : World) (mg : Str → Option Value) (base : Heap) (T : Txt K mg d x) (cdv : Value) (Ar : Around) (outer : List Env) (st : Shared) (H : Hp) (E : XK) (hr : Room 3 (Ar.deeper (envOfC "let_go" (defScope s_let_go) st.heap.objs.size x.f_let_go cdv))), PSs (cxOf CX0 P w K mg base ["airport", "told", "flight", "flying", "number", "bag"] "let_go" (defScope s_let_go) x.f_let_go cdv Ar outer st H E).nox b u
noncomputable def q_let_go_5 (K : PySem.W.Frag) (d : Ad) (x : Fx) : { u : TS // PsAll_let_go K d x ((defBody s_let_go).drop 5) u } := ⟨_, fun P w mg base T cdv Ar outer st H E hr => (pss_cons (ps_for PassesOwn.never rfl (pi_listK (K := K) rfl (pv 3)) (pg_name (i := 4) sc_let_go.nd rfl (Or.inl rfl)) (pss_cons (ps_set (i := 5) sc_let_go.nd rfl (Or.inl rfl) (pe_ix (ix_listK (K := K) rfl) (pe_fldK (K := K) rfl (pv 0) rfl) (pv 4) (fun _ _ => rfl))) (pss_one (ps_fldK (K := K) rfl (pv 5) (pe_glob (v := .int (2)) rfl T.c_FLOWN.choose_spec ⟨_, rfl⟩) rfl)))) (pss_one (ps_ret (pe_lst (pa_cons (pe_callB (lenK (K := K) rfl) (by rfl) T.z_len PySem.boot_len (pa_cons (pv 3) pa_nil)) pa_nil)))))⟩
noncomputable def q_let_go_0 (K : PySem.W.Frag) (d : Ad) (x : Fx) : { u : TS // PsAll_let_go K d x ((defBody s_let_go).drop 0) u } := ⟨_, fun P w mg base T cdv Ar outer st H E hr => (pss_cons (ps_set (i := 2) sc_let_go.nd rfl (Or.inl rfl) (pe_ix (ix_listK (K := K) rfl) (pe_fldK (K := K) rfl (pv 0) rfl) (pe_ix (ix_listK (K := K) rfl) (pv 1) pe_int (fun _ _ => rfl)) (fun _ _ => rfl))) (pss_cons (ps_if (pt_val (pe_fldK (K := K) rfl (pv 2) rfl)) (pss_one (ps_ret (pe_lst (pa_cons (pe_glob (v := .int (-4)) rfl T.c_NOT_SO.choose_spec ⟨_, rfl⟩) pa_nil)))) pss_nil) (pss_cons (ps_if (pt_truthK (K := K) rfl (pe_call (ok_bags_that_may_not_fly T) (hr.mono (by decide)) rfl T.m_bags_that_may_not_fly T.F_bags_that_may_not_fly.kp (bd_bags_that_may_not_fly T.F_bags_that_may_not_fly) .nil pass0 (pa_cons (pv 0) (pa_cons (pe_ix (ix_listK (K := K) rfl) (pv 1) pe_int (fun _ _ => rfl)) pa_nil))) (fun _ => rfl)) (pss_one (ps_ret (pe_lst (pa_cons (pe_glob (v := .int (-6)) rfl T.c_NOT_LET.choose_spec ⟨_, rfl⟩) pa_nil)))) pss_nil) (pss_cons (ps_fldK (K := K) rfl (pv 2) pe_bl rfl) (pss_cons (ps_set (i := 3) sc_let_go.nd rfl (Or.inl rfl) (pe_call (ok_bags_on_flight T) (hr.mono (by decide)) rfl T.m_bags_on_flight T.F_bags_on_flight.kp (bd_bags_on_flight T.F_bags_on_flight) .nil pass0 (pa_cons (pv 0) (pa_cons (pe_ix (ix_listK (K := K) rfl) (pv 1) pe_int (fun _ _ => rfl)) pa_nil)))) ((q_let_go_5 K d x).2 P w mg base T cdv Ar outer st H E hr))))))⟩
theorem ok_let_go (T : Txt K mg d x) : FnOk P w K mg base CX0 4 x.f_let_go x.d_let_go ["airport", "told"] (spAct d clGoes okF) := by
  refine okQ T.F_let_go sc_let_go (fun vs H Q E h => ?_) (fun cdv Ar outer st H E hr => (q_let_go_0 K d x).2 _ _ _ _ T cdv Ar outer st H E hr) (fun vs H Q E h => ?_)
  · obtain ⟨_, _, _, _, rfl, _⟩ := h
    rfl
  · obtain ⟨A, s, t, ns, rfl, g, ht, nt, ⟨f, rfl, hf⟩, k⟩ := h
    have a := g.a
    obtain ⟨fb, gb, hfb, hgb⟩ := a.flightAt hf
    have eg := gone_of hgb
    refine ⟨_, rfl, r_flights T a ⟨_, rfl, ix_int (i := 0) ht rfl (ix_ref a.L.hF hfb ?_)⟩⟩
    refine ⟨_, rfl, r_gone T a hfb hgb ⟨_, rfl, ?_⟩⟩
    have e0 : Sy54.step s (clGoes [f]) = Sy54.onFlight s f fun _ => if (Sy54.stuck s f).isEmpty = false then (s, ⟨-6, []⟩) else ({ s with gone := s.gone.set f true, bags := Sy54.setPlace s (Sy54.bagsOn s f) 2 }, Sy54.ok ((Sy54.bagsOn s f).length : Nat)) := rfl
    rw [e0] at k
    unfold Sy54.onFlight at k
    rw [if_neg (by omega), eg] at k
    refine ite2 (fun h1 => ?_) (fun h1 => ?_)
    · rw [if_pos h1] at k
      exact refuse k rfl g (Same.refl _)
    rw [if_neg h1] at k
    refine ⟨_, rfl, _, rfl, ix_int (i := 0) ht rfl ⟨A, s, conts s, f, rfl, a, g.g, fun H1 p sm hp hpl => ⟨_, .inl ⟨_, SqL.of hpl, rfl⟩, ?_⟩⟩⟩
    rw [ivs_empty]
    refine ite2 (fun h2 => ?_) (fun h2 => ?_)
    · rw [if_pos (not_t h2)] at k
      exact refuse k rfl g sm
    rw [if_neg (by rw [not_f h2]; simp)] at k
    have a1 := a.same sm
    obtain ⟨dx, hfo⟩ := a1.F.at_ f fb gb hfb hgb
    refine ⟨_, rfl, fb, d.CF, dx, _, rfl, hfo, T.cl_Flight, T.n_Flight_gone, (by show 1 < 1000; decide), ?_⟩
    rw [put_gone]
    have a2 := a1.setGone (dx := dx) (g := true) hfb
    have ntf : t ≠ fb := fun e => nt (by rw [e]; exact own_f hfb)
    have ht2 : (upd H1 fb (.ins d.CF dx (fF true))) t = some (.lst (ivs [f])) := by rw [upd_ne ntf]; exact sm _ _ ht
    refine ⟨_, rfl, _, rfl, ix_int (i := 0) ht2 rfl ⟨A, _, conts s, f, rfl, a2, g.g.sized, fun H3 fl sm3 hfl efl => ?_⟩⟩
    have efl : H3 fl = some (.lst (ivs (Sy54.bagsOn s f))) := efl
    have p3 : Keep A H H3 := ((Keep.same sm).trans (Keep.upd (own_f hfb))).trans (Keep.same sm3)
    refine ⟨_, rfl, fl, rfl, ⟨_, SqL.of efl⟩, for_list (K := K) (a := fl) (xs := ivs (Sy54.bagsOn s f)) (fun i σ H' => ∃ v4 v5, σ = [some (.ref A.p), some (.ref t), some (.ref fb), some (.ref fl), v4, v5] ∧
        Air d H' A { s with gone := s.gone.set f true, bags := Sy54.setPlace s ((Sy54.bagsOn s f).take i) 2 } (conts s) ∧ KeepK 1 H3 H' ∧ Keep A H H')
      ⟨none, none, rfl, by rw [List.take_zero, place_nil]; exact a2.same sm3, KeepK.refl 1 H3, p3⟩ (fun i σ H' _ h => by obtain ⟨_, _, _, _, k', _⟩ := h; exact SqL.of (k' _ _ efl rfl)) ?_ ?_⟩
    · rintro i v σ H' hv ⟨v4, v5, rfl, a3, k3, p3⟩
      obtain ⟨n, hn, rfl⟩ := getIvs hv
      obtain ⟨kk, yy, hyy, _, hm⟩ := mem_on.mp (List.mem_of_getElem? hn)
      have hnl : n < s.bags.length := g.g.kb kk yy n hyy hm
      obtain ⟨bb, z, hbb, hz⟩ := a3.bagAt (i := n) (by show n < (Sy54.setPlace s _ 2).length; rw [place_len]; exact hnl)
      have hz : (Sy54.setPlace s ((Sy54.bagsOn s f).take i) 2)[n]? = some z := hz
      refine ⟨_, rfl, r_bags T a3 ⟨_, rfl, ix_ref a3.L.hB hbb ?_⟩⟩
      obtain ⟨dy, hbo⟩ := a3.B.at_ n bb z hbb hz
      refine ⟨_, rfl, bb, d.CB, dy, _, rfl, hbo, T.cl_Bag, T.n_Bag_place, (by show 5 < 1000; decide), ?_⟩
      have e1 : putF "place" (V.int 2) (fBag (conts s) n z) = fB { z with place := 2 } ((conts s).getD n none) := put_place (n := 2) rfl
      rw [e1]
      have a4 := a3.setBag (dx := dy) (x := { z with place := 2 }) (y := (conts s).getD n none) hbb
      rw [set_getD (by rw [conts_len]; exact hnl)] at a4
      refine ⟨_, _, rfl, ?_, k3.trans (.upd hbo (by rw [show kd (HO.ins d.CB dy (fBag (conts s) n z)) = 5 from kd_B ..]; decide)), p3.trans (Keep.upd (own_b hbb))⟩
      rw [take_snoc hn, place_snoc hz]
      exact a4
    rintro σ H' ⟨v4, v5, rfl, a3, k3, p3⟩
    rw [ivs_len, List.take_length] at a3
    have gg := g.g.goes hf
    have g3 : AirG d H' A { s with gone := s.gone.set f true, bags := Sy54.setPlace s (Sy54.bagsOn s f) 2 } := airG a3 (conts_same (s := s) (place_len _ _ _) rfl) gg
    refine ⟨_, rfl, fl, _, rfl, .inl (SqL.of (k3 _ _ efl rfl)), by show 1 ≤ sizeLine; decide, fun r hr => ?_⟩
    refine finish k g3 (.still p3) hr ?_
    rw [ivs_len]
    rfl
noncomputable abbrev clHand : List Nat → Sy54.Call := fun ns => .hand (Sy54Neutral.g ns 0)
noncomputable def PsAll_hand_out (K : PySem.W.Frag) (d : Ad) (x : Fx) (b : List Stmt) (u : TS) : Prop := ∀ (P : Program) (w : World) (mg : Str → Option Value) (base : Heap) (T : Txt K mg d x) (cdv : Value) (Ar : Around) (outer : List Env) (st : Shared) (H : Hp) (E : XK) (hr : Room 0 (Ar.deeper (envOfC "hand_out" (defScope s_hand_out) st.heap.objs.size x.f_hand_out cdv))), PSs (cxOf CX0 P w K mg base ["airport", "told", "bag"] "hand_out" (defScope s_hand_out) x.f_hand_out cdv Ar outer st H E).nox b u
noncomputable def q_hand_out_0 (K : PySem.W.Frag) (d : Ad) (x : Fx) : { u : TS // PsAll_hand_out K d x ((defBody s_hand_out).drop 0) u } := ⟨_, fun P w mg base T cdv Ar outer st H E hr => (pss_cons (ps_set (i := 2) sc_hand_out.nd rfl (Or.inl rfl) (pe_ix (ix_listK (K := K) rfl) (pe_fldK (K := K) rfl (pv 0) rfl) (pe_ix (ix_listK (K := K) rfl) (pv 1) pe_int (fun _ _ => rfl)) (fun _ _ => rfl))) (pss_cons (ps_if (pt_cmpR op_ne (pe_fldK (K := K) rfl (pv 2) rfl) (pe_glob (v := .int (0)) rfl T.c_HALL.choose_spec ⟨_, rfl⟩) (nomark _)) (pss_one (ps_ret (pe_lst (pa_cons (pe_glob (v := .int (-4)) rfl T.c_NOT_SO.choose_spec ⟨_, rfl⟩) pa_nil)))) pss_nil) (pss_cons (ps_if (pt_cmpR op_ne (pe_fldK (K := K) rfl (pe_ix (ix_listK (K := K) rfl) (pe_fldK (K := K) rfl (pv 0) rfl) (pe_fldK (K := K) rfl (pv 2) rfl) (fun _ _ => rfl)) rfl) (pe_glob (v := .int (2)) rfl T.c_NOT_COMING.choose_spec ⟨_, rfl⟩) (nomark _)) (pss_one (ps_ret (pe_lst (pa_cons (pe_glob (v := .int (-7)) rfl T.c_WRONG_OWNER.choose_spec ⟨_, rfl⟩) pa_nil)))) pss_nil) (pss_cons (ps_fldK (K := K) rfl (pv 2) (pe_glob (v := .int (3)) rfl T.c_HANDED_OUT.choose_spec ⟨_, rfl⟩) rfl) (pss_one (ps_ret (pe_lst (pa_cons pe_int pa_nil))))))))⟩
theorem ok_hand_out (T : Txt K mg d x) : FnOk P w K mg base CX0 1 x.f_hand_out x.d_hand_out ["airport", "told"] (spAct d clHand okB) := by
  refine okQ T.F_hand_out sc_hand_out (fun vs H Q E h => ?_) (fun cdv Ar outer st H E hr => (q_hand_out_0 K d x).2 _ _ _ _ T cdv Ar outer st H E hr) (fun vs H Q E h => ?_)
  · obtain ⟨_, _, _, _, rfl, _⟩ := h
    rfl
  · obtain ⟨A, s, t, ns, rfl, g, ht, nt, ⟨b, rfl, hb⟩, q⟩ := h
    have a := g.a
    obtain ⟨bb, z, hbb, hz⟩ := a.bagAt hb
    obtain ⟨pb, o, hpb, ho⟩ := a.personAt (g.g.bo b z hz)
    have ep : Sy54.personOf s z.owner = o := getD_some _ ho
    have e0 : Sy54.step s (clHand [b]) = if z.place ≠ 0 then (s, Sy54.ok (-4)) else if (Sy54.personOf s z.owner).how ≠ 2 then (s, Sy54.ok (-7)) else ({ s with bags := Sy54.setPlace s [b] 3 }, Sy54.ok 0) := by
      show Sy54.step s (.hand b) = _
      simp only [Sy54.step, Sy54.onBag, hz]
    rw [e0, ep] at q
    refine ⟨_, rfl, r_bags T a ⟨_, rfl, ix_int (i := 0) ht rfl (ix_ref a.L.hB hbb ?_)⟩⟩
    refine ⟨_, rfl, r_place T a hbb hz ⟨rfl, _, rfl, ?_⟩⟩
    rw [iv_dec]
    refine ite2 (fun h1 => ?_) (fun h1 => ?_)
    · have h1 := of_decide_eq_false (not_t h1)
      rw [if_pos (by omega)] at q
      exact refuse q rfl g (Same.refl _)
    have h1 := of_decide_eq_true (not_f h1)
    have hz0 : z.place = 0 := by omega
    rw [if_neg (fun e => e hz0)] at q
    refine ⟨_, rfl, r_passengers T a ⟨_, rfl, r_owner T a hbb hz (ix_ref a.L.hP hpb (r_standing T a hpb ho ⟨rfl, _, rfl, ?_⟩))⟩⟩
    rw [iv_dec]
    refine ite2 (fun h2 => ?_) (fun h2 => ?_)
    · have h2 := of_decide_eq_false (not_t h2)
      rw [if_pos (by omega)] at q
      exact refuse q rfl g (Same.refl _)
    have h2 := of_decide_eq_true (not_f h2)
    rw [if_neg (by omega), place_one hz] at q
    obtain ⟨dx, hbo⟩ := a.B.at_ b bb z hbb hz
    refine ⟨_, rfl, bb, d.CB, dx, _, rfl, hbo, T.cl_Bag, T.n_Bag_place, (by show 5 < 1000; decide), ?_⟩
    have e1 : putF "place" (V.int 3) (fBag (conts s) b z) = fB { z with place := 3 } ((conts s).getD b none) := put_place (n := 3) rfl
    rw [e1]
    have a2 := a.setBag (dx := dx) (x := { z with place := 3 }) (y := (conts s).getD b none) hbb
    have ec : conts { s with bags := s.bags.set b { z with place := 3 } } = (conts s).set b ((conts s).getD b none) := conts_put hb
    have g2 := airG a2 ec (g.g.hand hz hz0)
    exact ⟨by show 1 ≤ sizeLine; decide, fun p hp => finish q g2 (.still (Keep.upd (own_b hbb))) hp rfl⟩
noncomputable abbrev clWaits : List Nat → Sy54.Call := fun ns => .waits (Sy54Neutral.g ns 0)
theorem stuck_len {s : Sy54.St} (g : Good s) (f : Nat) : (Sy54.stuck s f).length ≤ 240 := by
  have b1 := List.length_filter_le (fun b => !Sy54.mayFly s b) (Sy54.bagsOn s f)
  have b2 := on_len g.sized f
  exact Nat.le_trans b1 b2
noncomputable def PsAll_tell_waiting (K : PySem.W.Frag) (d : Ad) (x : Fx) (b : List Stmt) (u : TS) : Prop := ∀ (P : Program) (w : World) (mg : Str → Option Value) (base : Heap) (T : Txt K mg d x) (cdv : Value) (Ar : Around) (outer : List Env) (st : Shared) (H : Hp) (E : XK) (hr : Room 3 (Ar.deeper (envOfC "tell_waiting" (defScope s_tell_waiting) st.heap.objs.size x.f_tell_waiting cdv))), PSs (cxOf CX0 P w K mg base ["airport", "told", "flight", "waiting"] "tell_waiting" (defScope s_tell_waiting) x.f_tell_waiting cdv Ar outer st H E).nox b u
noncomputable def q_tell_waiting_0 (K : PySem.W.Frag) (d : Ad) (x : Fx) : { u : TS // PsAll_tell_waiting K d x ((defBody s_tell_waiting).drop 0) u } := ⟨_, fun P w mg base T cdv Ar outer st H E hr => (pss_cons (ps_set (i := 2) sc_tell_waiting.nd rfl (Or.inl rfl) (pe_ix (ix_listK (K := K) rfl) (pv 1) pe_int (fun _ _ => rfl))) (pss_cons (ps_if (pt_val (pe_fldK (K := K) rfl (pe_ix (ix_listK (K := K) rfl) (pe_fldK (K := K) rfl (pv 0) rfl) (pv 2) (fun _ _ => rfl)) rfl)) (pss_one (ps_ret (pe_lst (pa_cons (pe_glob (v := .int (-4)) rfl T.c_NOT_SO.choose_spec ⟨_, rfl⟩) pa_nil)))) pss_nil) (pss_cons (ps_set (i := 3) sc_tell_waiting.nd rfl (Or.inl rfl) (pe_call (ok_bags_that_may_not_fly T) (hr.mono (by decide)) rfl T.m_bags_that_may_not_fly T.F_bags_that_may_not_fly.kp (bd_bags_that_may_not_fly T.F_bags_that_may_not_fly) .nil pass0 (pa_cons (pv 0) (pa_cons (pv 2) pa_nil)))) (pss_one (ps_ret (pe_op op_cat (pe_lst (pa_cons (pe_callB (lenK (K := K) rfl) (by rfl) T.z_len PySem.boot_len (pa_cons (pv 3) pa_nil)) pa_nil)) (pe_call (ok_with_count T) (hr.mono (by decide)) rfl T.m_with_count T.F_with_count.kp (bd_with_count T.F_with_count) .nil pass0 (pa_cons (pv 3) pa_nil))))))))⟩
theorem ok_tell_waiting (T : Txt K mg d x) : FnOk P w K mg base CX0 4 x.f_tell_waiting x.d_tell_waiting ["airport", "told"] (spAct d clWaits okF) := by
  refine okQ T.F_tell_waiting sc_tell_waiting (fun vs H Q E h => ?_) (fun cdv Ar outer st H E hr => (q_tell_waiting_0 K d x).2 _ _ _ _ T cdv Ar outer st H E hr) (fun vs H Q E h => ?_)
  · obtain ⟨_, _, _, _, rfl, _⟩ := h
    rfl
  · obtain ⟨A, s, t, ns, rfl, g, ht, nt, ⟨f, rfl, hf⟩, k⟩ := h
    have a := g.a
    obtain ⟨fb, gb, hfb, hgb⟩ := a.flightAt hf
    have eg := gone_of hgb
    refine ⟨_, rfl, ix_int (i := 0) ht rfl ?_⟩
    refine ⟨_, rfl, r_flights T a ⟨_, rfl, ix_ref a.L.hF hfb (r_gone T a hfb hgb ⟨_, rfl, ?_⟩)⟩⟩
    have e0 : Sy54.step s (clWaits [f]) = Sy54.onFlight s f fun _ => (s, ⟨((Sy54.stuck s f).length : Nat), [Sy54.ints (Sy54.stuck s f)]⟩) := rfl
    rw [e0] at k
    unfold Sy54.onFlight at k
    rw [if_neg (by omega), eg] at k
    refine ite2 (fun h1 => ?_) (fun h1 => ?_)
    · rw [if_pos h1] at k
      exact refuse k rfl g (Same.refl _)
    rw [if_neg h1] at k
    have hl := stuck_len g.g f
    refine ⟨_, rfl, _, rfl, A, s, conts s, f, rfl, a, g.g, fun H1 wl sm hwl ew => ?_⟩
    refine ⟨_, rfl, wl, _, rfl, .inl (SqL.of ew), by show 1 ≤ sizeLine; decide, fun p1 h1 => ?_⟩
    have s2 : Same H1 (upd H1 p1 (.lst [V.int ((ivs (Sy54.stuck s f)).length : Nat)])) := Same.new (Same.refl _) h1
    refine ⟨_, rfl, wl, _, rfl, s2 _ _ ew, by rw [ivs_len]; omega, fun H2 p2 sm2 hp2 e2 => ?_⟩
    refine ⟨p1, p2, _, _, rfl, rfl, sm2 _ _ upd_same, e2, small (by simp only [List.length_cons, List.length_nil, ivs_len]; omega), fun p hp => ?_⟩
    have s3 := (sm.trans s2).trans sm2
    refine finish k (g.same s3) (.still (.same s3)) hp ?_
    dsimp only
    rw [out1, ivs_len]
    rfl
noncomputable def sp_has_loaded_bag (d : Ad) : Sp := fun vs H Q _ => ∃ (A : Lay) (s : Sy54.St) (c : List (Option Nat)) (p : Nat), vs = [.ref A.p, iv p] ∧ Air d H A s c ∧ s.bags.length ≤ 60 ∧ ∀ H', Same H H' → Q (.bl (s.bags.any fun y => y.owner == p && y.place == 1)) H'
noncomputable def PsAll_has_loaded_bag (K : PySem.W.Frag) (d : Ad) (x : Fx) (b : List Stmt) (u : TS) : Prop := ∀ (P : Program) (w : World) (mg : Str → Option Value) (base : Heap) (T : Txt K mg d x) (cdv : Value) (Ar : Around) (outer : List Env) (st : Shared) (H : Hp) (E : XK) (hr : Room 0 (Ar.deeper (envOfC "has_loaded_bag" (defScope s_has_loaded_bag) st.heap.objs.size x.f_has_loaded_bag cdv))), PSs (cxOf CX0 P w K mg base ["airport", "owner", "bag"] "has_loaded_bag" (defScope s_has_loaded_bag) x.f_has_loaded_bag cdv Ar outer st H E).nox b u
noncomputable def q_has_loaded_bag_0 (K : PySem.W.Frag) (d : Ad) (x : Fx) : { u : TS // PsAll_has_loaded_bag K d x ((defBody s_has_loaded_bag).drop 0) u } := ⟨_, fun P w mg base T cdv Ar outer st H E hr => (pss_one (ps_ret (pe_callB (anyK (K := K) rfl rfl) (by rfl) T.z_any (by decide +kernel) (pa_cons (pe_lc (te := (tAndV (tOp rEq (tFld K (tVar 2) "owner") (tVar 1)) (tOp rEq (tFld K (tVar 2) "place") (tC (.int (1)))))) (tt := tYes) (g := gName 2) rfl sc_has_loaded_bag.nd (pi_listK (K := K) rfl (pe_fldK (K := K) rfl (pv 0) rfl)) (blkOk_by (own := [("bag", 2)]) (by rfl)) (fun _ _ _ _ _ => (pg_name (i := 2) sc_has_loaded_bag.nd rfl (Or.inl rfl))) (fun _ _ _ _ _ => pts_nil) (fun _ _ _ _ _ => (pe_and (pe_cmpR op_eq (pe_fldK (K := K) rfl (pv 2) rfl) (pv 1) (nomark _)) (pe_one (pe_cmpR op_eq (pe_fldK (K := K) rfl (pv 2) rfl) (pe_glob (v := .int (1)) rfl T.c_LOADED.choose_spec ⟨_, rfl⟩) (nomark _)))))) pa_nil))))⟩
theorem ok_has_loaded_bag (T : Txt K mg d x) : FnOk P w K mg base CX0 1 x.f_has_loaded_bag x.d_has_loaded_bag ["airport", "owner"] (sp_has_loaded_bag d) := by
  refine okQ T.F_has_loaded_bag sc_has_loaded_bag (fun vs H Q E h => ?_) (fun cdv Ar outer st H E hr => (q_has_loaded_bag_0 K d x).2 _ _ _ _ T cdv Ar outer st H E hr) (fun vs H Q E h => ?_)
  · obtain ⟨_, _, _, _, rfl, _⟩ := h
    rfl
  · obtain ⟨A, s, c, p, rfl, a, h60, q⟩ := h
    refine ⟨_, rfl, r_bags T a ⟨A.lB, rfl, ⟨_, SqL.of a.L.hB⟩, fun D hD => lc_list (K := K) (a := A.lB) (xs := A.bs.map V.ref) (fun i H' => Same H H' ∧ H' D = some (.lst (((s.bags.take i).map fun y => y.owner == p && y.place == 1).map V.bl))) ⟨Same.new (Same.refl H) hD, upd_same⟩
      (fun i H' _ h => SqL.of (h.1 _ _ a.L.hB)) ?_ ?_⟩⟩
    · rintro i v H' hv ⟨sm, hDl⟩
      obtain ⟨bb, hbb, rfl⟩ := getRef hv
      have hi : i < s.bags.length := by rw [← a.B.len]; exact get_lt hbb
      have hz : s.bags[i]? = some s.bags[i] := List.getElem?_eq_getElem hi
      have a' := a.same sm
      have hl2 : (((s.bags.take i).map fun y => y.owner == p && y.place == 1).map V.bl).length < sizeLine := by
        rw [List.length_map, List.length_map, List.length_take]
        exact small1000 (by omega)
      have next : ∀ e : Bool, e = (s.bags[i].owner == p && s.bags[i].place == 1) → Same H (upd H' D (.lst (((s.bags.take i).map fun y => y.owner == p && y.place == 1).map V.bl ++ [V.bl e]))) ∧ (upd H' D (.lst (((s.bags.take i).map fun y => y.owner == p && y.place == 1).map V.bl ++ [V.bl e]))) D = some (.lst (((s.bags.take (i + 1)).map fun y => y.owner == p && y.place == 1).map V.bl)) := fun e he => by
        refine ⟨Same.new sm hD, ?_⟩
        rw [upd_same, take_snoc hz, List.map_append, List.map_append, he]
        rfl
      refine ⟨rfl, _, rfl, r_owner T a' hbb hz ⟨_, rfl, rfl, _, rfl, ?_⟩⟩
      rw [iv_dec2]
      refine ite2 (fun h1 => ?_) (fun h1 => ?_)
      · have h1 : s.bags[i].owner = p := of_decide_eq_true h1
        refine ⟨_, rfl, r_place T a' hbb hz ⟨rfl, _, hDl, hl2, ?_⟩⟩
        have ee : decide (iv s.bags[i].place = V.int 1) = (s.bags[i].owner == p && s.bags[i].place == 1) := by
          rw [iv_dec, h1]
          by_cases q : s.bags[i].place = 1
          · simp [q]
          · have : ¬ (s.bags[i].place : Int) = 1 := by omega
            simp [q, this]
        exact next _ ee
      · have h1 : ¬ s.bags[i].owner = p := fun e => h1 (decide_eq_true e)
        refine ⟨_, hDl, hl2, next _ ?_⟩
        simp [h1]
    · rintro H' ⟨sm, hDl⟩
      rw [List.length_map, a.B.len, List.take_length] at hDl
      refine ⟨D, _, rfl, SqL.of hDl, ?_⟩
      have e : ((s.bags.map fun y => y.owner == p && y.place == 1).any id) = s.bags.any fun y => y.owner == p && y.place == 1 := by
        rw [List.any_map]
        rfl
      rw [e]
      exact q H' sm
noncomputable abbrev clNext : List Nat → Sy54.Call := fun ns => .next (Sy54Neutral.g ns 0) (Sy54Neutral.g ns 1)
noncomputable def okPF (s : Sy54.St) (ns : List Nat) : Prop := ∃ p f, ns = [p, f] ∧ p < s.people.length ∧ f < s.gone.length
noncomputable def PsAll_change_flight (K : PySem.W.Frag) (d : Ad) (x : Fx) (b : List Stmt) (u : TS) : Prop := ∀ (P : Program) (w : World) (mg : Str → Option Value) (base : Heap) (T : Txt K mg d x) (cdv : Value) (Ar : Around) (outer : List Env) (st : Shared) (H : Hp) (E : XK) (hr : Room 1 (Ar.deeper (envOfC "change_flight" (defScope s_change_flight) st.heap.objs.size x.f_change_flight cdv))), PSs (cxOf CX0 P w K mg base ["airport", "told", "passenger", "flight"] "change_flight" (defScope s_change_flight) x.f_change_flight cdv Ar outer st H E).nox b u
noncomputable def q_change_flight_5 (K : PySem.W.Frag) (d : Ad) (x : Fx) : { u : TS // PsAll_change_flight K d x ((defBody s_change_flight).drop 5) u } := ⟨_, fun P w mg base T cdv Ar outer st H E hr => (pss_cons (ps_fldK (K := K) rfl (pv 2) (pe_glob (v := .int (0)) rfl T.c_EXPECTED.choose_spec ⟨_, rfl⟩) rfl) (pss_one (ps_ret (pe_lst (pa_cons pe_int pa_nil)))))⟩
noncomputable def q_change_flight_0 (K : PySem.W.Frag) (d : Ad) (x : Fx) : { u : TS // PsAll_change_flight K d x ((defBody s_change_flight).drop 0) u } := ⟨_, fun P w mg base T cdv Ar outer st H E hr => (pss_cons (ps_set (i := 2) sc_change_flight.nd rfl (Or.inl rfl) (pe_ix (ix_listK (K := K) rfl) (pe_fldK (K := K) rfl (pv 0) rfl) (pe_ix (ix_listK (K := K) rfl) (pv 1) pe_int (fun _ _ => rfl)) (fun _ _ => rfl))) (pss_cons (ps_set (i := 3) sc_change_flight.nd rfl (Or.inl rfl) (pe_ix (ix_listK (K := K) rfl) (pv 1) pe_int (fun _ _ => rfl))) (pss_cons (ps_if (PW.pt (pw_or (pt_val (pe_fldK (K := K) rfl (pe_ix (ix_listK (K := K) rfl) (pe_fldK (K := K) rfl (pv 0) rfl) (pv 3) (fun _ _ => rfl)) rfl)) (pw_or1 (pt_cmpR op_eq (pe_fldK (K := K) rfl (pv 2) rfl) (pe_glob (v := .int (1)) rfl T.c_ABOARD.choose_spec ⟨_, rfl⟩) (nomark _))))) (pss_one (ps_ret (pe_lst (pa_cons (pe_glob (v := .int (-4)) rfl T.c_NOT_SO.choose_spec ⟨_, rfl⟩) pa_nil)))) pss_nil) (pss_cons (ps_if (pt_val (pe_call (ok_has_loaded_bag T) (hr.mono (by decide)) rfl T.m_has_loaded_bag T.F_has_loaded_bag.kp (bd_has_loaded_bag T.F_has_loaded_bag) .nil pass0 (pa_cons (pv 0) (pa_cons (pe_ix (ix_listK (K := K) rfl) (pv 1) pe_int (fun _ _ => rfl)) pa_nil)))) (pss_one (ps_ret (pe_lst (pa_cons (pe_glob (v := .int (-6)) rfl T.c_NOT_LET.choose_spec ⟨_, rfl⟩) pa_nil)))) pss_nil) (pss_cons (ps_fldK (K := K) rfl (pv 2) (pv 3) rfl) ((q_change_flight_5 K d x).2 P w mg base T cdv Ar outer st H E hr))))))⟩
theorem ok_change_flight (T : Txt K mg d x) : FnOk P w K mg base CX0 2 x.f_change_flight x.d_change_flight ["airport", "told"] (spAct d clNext okPF) := by
  refine okQ T.F_change_flight sc_change_flight (fun vs H Q E h => ?_) (fun cdv Ar outer st H E hr => (q_change_flight_0 K d x).2 _ _ _ _ T cdv Ar outer st H E hr) (fun vs H Q E h => ?_)
  · obtain ⟨_, _, _, _, rfl, _⟩ := h
    rfl
  · obtain ⟨A, s, t, ns, rfl, g, ht, nt, ⟨p, f, rfl, hp, hf⟩, q⟩ := h
    have a := g.a
    obtain ⟨pb, o, hpb, ho⟩ := a.personAt hp
    obtain ⟨fb, gb, hfb, hgb⟩ := a.flightAt hf
    have eg := gone_of hgb
    have e0 : Sy54.step s (clNext [p, f]) = if gb = true ∨ o.how = 1 then (s, Sy54.ok (-4)) else if (s.bags.any fun y => y.owner == p && y.place == 1) = true then (s, Sy54.ok (-6)) else ({ s with people := s.people.set p ⟨f, 0⟩ }, Sy54.ok 0) := by
      show Sy54.step s (.next p f) = _
      simp only [Sy54.step, ho, eg]
      rw [if_neg (by omega), any_zip (fun y => y.owner == p && y.place == 1)]
    rw [e0] at q
    refine ⟨_, rfl, r_passengers T a ⟨_, rfl, ix_int (i := 0) ht rfl (ix_ref a.L.hP hpb ?_)⟩⟩
    refine ⟨_, rfl, ix_int (i := 1) ht rfl ?_⟩
    refine ⟨_, rfl, r_flights T a ⟨_, rfl, ix_ref a.L.hF hfb (r_gone T a hfb hgb ⟨_, rfl, ?_⟩)⟩⟩
    refine ite2 (fun h1 => ?_) (fun h1 => ?_)
    · rw [if_pos (.inl h1)] at q
      exact iteT (refuse q rfl g (Same.refl _))
    refine ⟨_, rfl, r_standing T a hpb ho ⟨rfl, _, rfl, ?_⟩⟩
    rw [iv_dec]
    refine ite2 (fun h2 => ?_) (fun h2 => ?_)
    · have h2 := of_decide_eq_true h2
      rw [if_pos (.inr (by omega))] at q
      exact refuse q rfl g (Same.refl _)
    have h2 : ¬ o.how = 1 := fun e => h2 (by rw [e]; rfl)
    rw [if_neg (by rintro (e | e); exact h1 e; exact h2 e)] at q
    refine ⟨_, rfl, _, rfl, ix_int (i := 0) ht rfl ⟨A, s, conts s, p, rfl, a, g.g.nB, fun H1 sm => ⟨_, rfl, ?_⟩⟩⟩
    refine ite2 (fun h3 => ?_) (fun h3 => ?_)
    · rw [if_pos h3] at q
      exact refuse q rfl g sm
    rw [if_neg h3] at q
    have a1 := a.same sm
    obtain ⟨dx, hpo⟩ := a1.P.at_ p pb o hpb ho
    refine ⟨_, rfl, _, rfl, pb, d.CP, dx, _, rfl, hpo, T.cl_Passenger, T.n_Passenger_flight, (by show 2 < 1000; decide), ?_⟩
    rw [put_pfl]
    refine ⟨_, rfl, pb, d.CP, dx, _, rfl, upd_same, T.cl_Passenger, T.n_Passenger_standing, (by show 2 < 1000; decide), ?_⟩
    have e1 : putF "standing" (V.int 0) (fP f o.how) = fP f 0 := put_stand (n := 0)
    rw [e1, upd_upd]
    have a2 := a1.setPerson (dx := dx) (x := ⟨f, 0⟩) hpb
    have gg := g.g.setPerson (p := p) (y := ⟨f, 0⟩) hf (by show 0 ≤ 2; decide)
    have g2 := airG a2 (conts_same (s := s) rfl rfl) gg
    exact ⟨by show 1 ≤ sizeLine; decide, fun r hr => finish q g2 (.still ((Keep.same sm).trans (Keep.upd (own_ps hpb)))) hr rfl⟩
end
end Bg
end
section
set_option Elab.async false
set_option linter.all false
set_option maxRecDepth 100000
set_option maxHeartbeats 2000000
namespace Bg
open PySem PySem.Spec PyProof.Rows L2
section
variable {P : Program} {w : World} {K : PySem.W.Frag} {mg : Str → Option Value} {base : Heap} {d : Ad} {x : Fx}
noncomputable abbrev clWhere : List Nat → Sy54.Call := fun ns => .where_ (Sy54Neutral.g ns 0)
noncomputable def PsAll_tell_place (K : PySem.W.Frag) (d : Ad) (x : Fx) (b : List Stmt) (u : TS) : Prop := ∀ (P : Program) (w : World) (mg : Str → Option Value) (base : Heap) (T : Txt K mg d x) (cdv : Value) (Ar : Around) (outer : List Env) (st : Shared) (H : Hp) (E : XK) (hr : Room 1 (Ar.deeper (envOfC "tell_place" (defScope s_tell_place) st.heap.objs.size x.f_tell_place cdv))), PSs (cxOf CX0 P w K mg base ["airport", "told", "bag", "below"] "tell_place" (defScope s_tell_place) x.f_tell_place cdv Ar outer st H E).nox b u
noncomputable def q_tell_place_0 (K : PySem.W.Frag) (d : Ad) (x : Fx) : { u : TS // PsAll_tell_place K d x ((defBody s_tell_place).drop 0) u } := ⟨_, fun P w mg base T cdv Ar outer st H E hr => (pss_cons (ps_set (i := 2) sc_tell_place.nd rfl (Or.inl rfl) (pe_ix (ix_listK (K := K) rfl) (pe_fldK (K := K) rfl (pv 0) rfl) (pe_ix (ix_listK (K := K) rfl) (pv 1) pe_int (fun _ _ => rfl)) (fun _ _ => rfl))) (pss_cons (ps_if (pt_cmpR op_isN (pe_fldK (K := K) rfl (pv 2) rfl) pe_non (nomark _)) (pss_one (ps_ret (pe_op op_cat (pe_lst (pa_cons (pe_fldK (K := K) rfl (pv 2) rfl) pa_nil)) (pe_call (ok_with_count T) (hr.mono (by decide)) rfl T.m_with_count T.F_with_count.kp (bd_with_count T.F_with_count) .nil pass0 (pa_cons (pe_lst pa_nil) pa_nil))))) pss_nil) (pss_cons (ps_set (i := 3) sc_tell_place.nd rfl (Or.inl rfl) (pe_bmK (K := K) rfl PySem.F.plainAttrs_list PySem.F.slot_list_index PySem.F.type_list_index (mt_indexK (K := K) rfl) (pe_fldK (K := K) rfl (pe_ix (ix_listK (K := K) rfl) (pe_fldK (K := K) rfl (pv 0) rfl) (pe_fldK (K := K) rfl (pv 2) rfl) (fun _ _ => rfl)) rfl) (pa_cons (pe_ix (ix_listK (K := K) rfl) (pv 1) pe_int (fun _ _ => rfl)) pa_nil))) (pss_one (ps_ret (pe_op op_cat (pe_lst (pa_cons (pe_fldK (K := K) rfl (pv 2) rfl) pa_nil)) (pe_call (ok_with_count T) (hr.mono (by decide)) rfl T.m_with_count T.F_with_count.kp (bd_with_count T.F_with_count) .nil pass0 (pa_cons (pe_lst (pa_cons (pe_fldK (K := K) rfl (pv 2) rfl) (pa_cons (pv 3) pa_nil))) pa_nil))))))))⟩
theorem ok_tell_place (T : Txt K mg d x) : FnOk P w K mg base CX0 2 x.f_tell_place x.d_tell_place ["airport", "told"] (spAct d clWhere okB) := by
  refine okQ T.F_tell_place sc_tell_place (fun vs H Q E h => ?_) (fun cdv Ar outer st H E hr => (q_tell_place_0 K d x).2 _ _ _ _ T cdv Ar outer st H E hr) (fun vs H Q E h => ?_)
  · obtain ⟨_, _, _, _, rfl, _⟩ := h
    rfl
  · obtain ⟨A, s, t, ns, rfl, g, ht, nt, ⟨b, rfl, hb⟩, q⟩ := h
    have a := g.a
    obtain ⟨bb, z, hbb, hz⟩ := a.bagAt hb
    have ec : (conts s)[b]? = some (Sy54.boxOf s b) := conts_get hb
    refine ⟨_, rfl, r_bags T a ⟨_, rfl, ix_int (i := 0) ht rfl (ix_ref a.L.hB hbb ?_)⟩⟩
    cases eb : Sy54.boxOf s b with
    | none =>
      rw [eb] at ec
      have e0 : Sy54.step s (clWhere [b]) = (s, ⟨(z.place : Nat), [[]]⟩) := by
        show Sy54.step s (.where_ b) = _
        simp only [Sy54.step, Sy54.onBag, hz, eb]
      rw [e0] at q
      refine ⟨_, rfl, r_container T a hbb hz ec ⟨rfl, _, rfl, ?_⟩⟩
      refine iteT ?_
      refine ⟨_, rfl, r_place T a hbb hz ⟨by show 1 ≤ sizeLine; decide, fun p1 h1 => ?_⟩⟩
      have s1 : Same H (upd H p1 (.lst [iv z.place])) := Same.new (Same.refl H) h1
      refine ⟨Nat.zero_le _, fun p0 h0 => ?_⟩
      have s0 := s1.trans (Same.new (o := .lst []) (Same.refl _) h0)
      have n10 : p1 ≠ p0 := ne_of_none upd_same h0
      refine ⟨p0, _, rfl, upd_same, Nat.zero_le _, fun H2 p2 sm2 hp2 e2 => ?_⟩
      refine ⟨p1, p2, _, _, rfl, rfl, sm2 _ _ (by rw [upd_ne n10]; exact upd_same), e2, small (by simp only [List.length_cons, List.length_nil]; omega), fun p hp => ?_⟩
      exact finish q (g.same (s0.trans sm2)) (.still (.same (s0.trans sm2))) hp rfl
    | some k =>
      rw [eb] at ec
      obtain ⟨y, hy, hm⟩ := box_get eb
      obtain ⟨j, hj⟩ := List.getElem?_of_mem hm
      obtain ⟨kb, y', l, hkb, hy', hl⟩ := a.boxAt (get_lt hy)
      rw [hy] at hy'
      cases hy'
      have hL := a.L.at_ k l y hl hy
      have hno : ∀ m z, m < j → y.bags[m]? = some z → z ≠ b := fun m z hmj hz e => by
        rw [e] at hz
        have := nd_ix (g.g.nd k y hy) hz hj
        omega
      have ef := find_ix hj hno
      have e0 : Sy54.step s (clWhere [b]) = (s, ⟨(z.place : Nat), [[(k : Int), (j : Nat)]]⟩) := by
        show Sy54.step s (.where_ b) = _
        simp only [Sy54.step, Sy54.onBag, hz, eb, hy, Option.bind_some, ef, Option.getD_some]
      rw [e0] at q
      refine ⟨_, rfl, r_container T a hbb hz ec ⟨rfl, _, rfl, ?_⟩⟩
      refine ite2 (fun h1 => absurd h1 (by simp [cv, iv])) (fun _ => ?_)
      refine ⟨_, rfl, r_containers T a ⟨_, rfl, r_container T a hbb hz ec (ix_ref a.L.hK hkb (r_pile T a hkb hy hl ⟨.inl ⟨rfl, _, SqL.of hL⟩, _, rfl, ix_int (i := 0) ht rfl ⟨l, _, iv b, j, iv b, rfl, rfl, SqL.of hL, rfl, ivs_flat _, ivs_get hj, by rw [eqV_iv]; simp, ?_, ?_⟩⟩))⟩⟩
      · intro m v hmj hv
        obtain ⟨n, hn, rfl⟩ := getIvs hv
        rw [eqV_iv]
        exact decide_eq_false (hno m n hmj hn)
      refine ⟨_, rfl, r_place T a hbb hz ⟨by show 1 ≤ sizeLine; decide, fun p1 h1 => ?_⟩⟩
      have s1 : Same H (upd H p1 (.lst [iv z.place])) := Same.new (Same.refl H) h1
      have a1 := a.same s1
      refine ⟨_, rfl, r_container T a1 hbb hz ec ⟨_, rfl, by show 2 ≤ sizeLine; decide, fun p0 h0 => ?_⟩⟩
      have s0 := s1.trans (Same.new (o := .lst [cv (some k), V.int (j : Nat)]) (Same.refl _) h0)
      have n10 : p1 ≠ p0 := ne_of_none upd_same h0
      refine ⟨p0, _, rfl, upd_same, by show 2 ≤ 900; decide, fun H2 p2 sm2 hp2 e2 => ?_⟩
      refine ⟨p1, p2, _, _, rfl, rfl, sm2 _ _ (by rw [upd_ne n10]; exact upd_same), e2, small (by simp only [List.length_cons, List.length_nil]; omega), fun p hp => ?_⟩
      exact finish q (g.same (s0.trans sm2)) (.still (.same (s0.trans sm2))) hp rfl
noncomputable abbrev clList : List Nat → Sy54.Call := fun ns => .list (Sy54Neutral.g ns 0)
noncomputable def okK (s : Sy54.St) (ns : List Nat) : Prop := ∃ k, ns = [k] ∧ k < s.boxes.length
noncomputable def PsAll_tell_pile (K : PySem.W.Frag) (d : Ad) (x : Fx) (b : List Stmt) (u : TS) : Prop := ∀ (P : Program) (w : World) (mg : Str → Option Value) (base : Heap) (T : Txt K mg d x) (cdv : Value) (Ar : Around) (outer : List Env) (st : Shared) (H : Hp) (E : XK) (hr : Room 1 (Ar.deeper (envOfC "tell_pile" (defScope s_tell_pile) st.heap.objs.size x.f_tell_pile cdv))), PSs (cxOf CX0 P w K mg base ["airport", "told", "container"] "tell_pile" (defScope s_tell_pile) x.f_tell_pile cdv Ar outer st H E).nox b u
noncomputable def q_tell_pile_0 (K : PySem.W.Frag) (d : Ad) (x : Fx) : { u : TS // PsAll_tell_pile K d x ((defBody s_tell_pile).drop 0) u } := ⟨_, fun P w mg base T cdv Ar outer st H E hr => (pss_cons (ps_set (i := 2) sc_tell_pile.nd rfl (Or.inl rfl) (pe_ix (ix_listK (K := K) rfl) (pe_fldK (K := K) rfl (pv 0) rfl) (pe_ix (ix_listK (K := K) rfl) (pv 1) pe_int (fun _ _ => rfl)) (fun _ _ => rfl))) (pss_one (ps_ret (pe_op op_cat (pe_lst (pa_cons (pe_call (ok_weight_within T) (hr.mono (by decide)) rfl T.m_weight_within T.F_weight_within.kp (bd_weight_within T.F_weight_within) .nil pass0 (pa_cons (pv 0) (pa_cons (pv 2) pa_nil))) pa_nil)) (pe_call (ok_with_count T) (hr.mono (by decide)) rfl T.m_with_count T.F_with_count.kp (bd_with_count T.F_with_count) .nil pass0 (pa_cons (pe_fldK (K := K) rfl (pv 2) rfl) pa_nil))))))⟩
theorem ok_tell_pile (T : Txt K mg d x) : FnOk P w K mg base CX0 2 x.f_tell_pile x.d_tell_pile ["airport", "told"] (spAct d clList okK) := by
  refine okQ T.F_tell_pile sc_tell_pile (fun vs H Q E h => ?_) (fun cdv Ar outer st H E hr => (q_tell_pile_0 K d x).2 _ _ _ _ T cdv Ar outer st H E hr) (fun vs H Q E h => ?_)
  · obtain ⟨_, _, _, _, rfl, _⟩ := h
    rfl
  · obtain ⟨A, s, t, ns, rfl, g, ht, nt, ⟨k, rfl, hk⟩, q⟩ := h
    have a := g.a
    obtain ⟨kb, y, l, hkb, hy, hl⟩ := a.boxAt hk
    have e0 : Sy54.step s (clList [k]) = (s, ⟨(Sy54.weightOf s y.bags : Nat), [Sy54.ints y.bags]⟩) := by
      show Sy54.step s (.list k) = _
      simp only [Sy54.step, hy]
    rw [e0] at q
    have y20 := g.g.sized.2 k y hy
    refine ⟨_, rfl, r_containers T a ⟨_, rfl, ix_int (i := 0) ht rfl (ix_ref a.L.hK hkb ?_)⟩⟩
    refine ⟨_, rfl, _, rfl, A, s, conts s, kb, k, y, rfl, a, hkb, hy, g.g, fun H1 sm => ?_⟩
    refine ⟨by show 1 ≤ sizeLine; decide, fun p1 h1 => ?_⟩
    have s1 : Same H (upd H1 p1 (.lst [iv (Sy54.weightOf s y.bags)])) := sm.trans (Same.new (Same.refl _) h1)
    have a1 := a.same s1
    have hL := a1.L.at_ k l y hl hy
    refine ⟨_, rfl, r_pile T a1 hkb hy hl ⟨l, _, rfl, hL, by rw [ivs_len]; omega, fun H2 p2 sm2 hp2 e2 => ?_⟩⟩
    refine ⟨p1, p2, _, _, rfl, rfl, sm2 _ _ upd_same, e2, small (by simp only [List.length_cons, List.length_nil, ivs_len]; omega), fun p hp => ?_⟩
    refine finish q (g.same (s1.trans sm2)) (.still (.same (s1.trans sm2))) hp ?_
    dsimp only
    rw [out1]
    rfl
noncomputable abbrev clState : List Nat → Sy54.Call := fun _ => .state
noncomputable def nF (l : List Bool) : List Nat := l.map fun b => if b = true then 1 else 0
noncomputable def nP (l : List Sy54.Person) : List Nat := l.flatMap fun x => [x.flight, x.how]
noncomputable def nB (l : List Sy54.Bag) : List Nat := l.flatMap fun x => [x.owner, x.weight, x.place, if x.rush = true then 1 else 0]
noncomputable def nK (l : List Sy54.Box) : List Nat := l.flatMap fun x => [x.flight, x.holds, x.bears, x.bags.length]
theorem nF_len (l : List Bool) : (nF l).length = l.length := by simp [nF]
theorem nP_len : ∀ l : List Sy54.Person, (nP l).length = 2 * l.length
  | [] => rfl
  | a :: r => by
    have ih := nP_len r
    show ([a.flight, a.how] ++ nP r).length = _
    rw [List.length_append, ih]
    simp only [List.length_cons, List.length_nil]
    omega
theorem nB_len : ∀ l : List Sy54.Bag, (nB l).length = 4 * l.length
  | [] => rfl
  | a :: r => by
    have ih := nB_len r
    show ([a.owner, a.weight, a.place, if a.rush = true then 1 else 0] ++ nB r).length = _
    rw [List.length_append, ih]
    simp only [List.length_cons, List.length_nil]
    omega
theorem nK_len : ∀ l : List Sy54.Box, (nK l).length = 4 * l.length
  | [] => rfl
  | a :: r => by
    have ih := nK_len r
    show ([a.flight, a.holds, a.bears, a.bags.length] ++ nK r).length = _
    rw [List.length_append, ih]
    simp only [List.length_cons, List.length_nil]
    omega
theorem out4 (v : Int) (a b c e : List Nat) : (Sy54Neutral.out ⟨v, [Sy54.ints a, Sy54.ints b, Sy54.ints c, Sy54.ints e]⟩).map V.int = [V.int v] ++ (V.int ((ivs a).length : Nat) :: ivs a ++ (V.int ((ivs b).length : Nat) :: ivs b) ++ (V.int ((ivs c).length : Nat) :: ivs c) ++ (V.int ((ivs e).length : Nat) :: ivs e)) := by
  unfold Sy54Neutral.out
  rw [ivs_len, ivs_len, ivs_len, ivs_len]
  simp [ivs_ints, Sy54.ints]
noncomputable def PsAll_tell_state (K : PySem.W.Frag) (d : Ad) (x : Fx) (b : List Stmt) (u : TS) : Prop := ∀ (P : Program) (w : World) (mg : Str → Option Value) (base : Heap) (T : Txt K mg d x) (cdv : Value) (Ar : Around) (outer : List Env) (st : Shared) (H : Hp) (E : XK) (hr : Room 1 (Ar.deeper (envOfC "tell_state" (defScope s_tell_state) st.heap.objs.size x.f_tell_state cdv))), PSs (cxOf CX0 P w K mg base ["airport", "told", "flights", "flight", "passengers", "passenger", "bags", "bag", "containers", "container", "lists"] "tell_state" (defScope s_tell_state) x.f_tell_state cdv Ar outer st H E).nox b u
noncomputable def q_tell_state_5 (K : PySem.W.Frag) (d : Ad) (x : Fx) : { u : TS // PsAll_tell_state K d x ((defBody s_tell_state).drop 5) u } := ⟨_, fun P w mg base T cdv Ar outer st H E hr => (pss_cons (ps_set (i := 8) sc_tell_state.nd rfl (Or.inl rfl) (pe_lst pa_nil)) (pss_cons (ps_for PassesOwn.never rfl (pi_listK (K := K) rfl (pe_fldK (K := K) rfl (pv 0) rfl)) (pg_name (i := 9) sc_tell_state.nd rfl (Or.inl rfl)) (pss_one (ps_expr (pe_bmK (K := K) rfl PySem.F.plainAttrs_list PySem.F.slot_list_extend PySem.F.type_list_extend mt_extend (pv 8) (pa_cons (pe_lst (pa_cons (pe_fldK (K := K) rfl (pv 9) rfl) (pa_cons (pe_fldK (K := K) rfl (pv 9) rfl) (pa_cons (pe_fldK (K := K) rfl (pv 9) rfl) (pa_cons (pe_callB (lenK (K := K) rfl) (by rfl) T.z_len PySem.boot_len (pa_cons (pe_fldK (K := K) rfl (pv 9) rfl) pa_nil)) pa_nil))))) pa_nil))))) (pss_cons (ps_set (i := 10) sc_tell_state.nd rfl (Or.inl rfl) (pe_op op_cat (pe_op op_cat (pe_op op_cat (pe_call (ok_with_count T) (hr.mono (by decide)) rfl T.m_with_count T.F_with_count.kp (bd_with_count T.F_with_count) .nil pass0 (pa_cons (pv 2) pa_nil)) (pe_call (ok_with_count T) (hr.mono (by decide)) rfl T.m_with_count T.F_with_count.kp (bd_with_count T.F_with_count) .nil pass0 (pa_cons (pv 4) pa_nil))) (pe_call (ok_with_count T) (hr.mono (by decide)) rfl T.m_with_count T.F_with_count.kp (bd_with_count T.F_with_count) .nil pass0 (pa_cons (pv 6) pa_nil))) (pe_call (ok_with_count T) (hr.mono (by decide)) rfl T.m_with_count T.F_with_count.kp (bd_with_count T.F_with_count) .nil pass0 (pa_cons (pv 8) pa_nil)))) (pss_one (ps_ret (pe_op op_cat (pe_lst (pa_cons (pe_fldK (K := K) rfl (pv 0) rfl) pa_nil)) (pv 10)))))))⟩
noncomputable def q_tell_state_0 (K : PySem.W.Frag) (d : Ad) (x : Fx) : { u : TS // PsAll_tell_state K d x ((defBody s_tell_state).drop 0) u } := ⟨_, fun P w mg base T cdv Ar outer st H E hr => (pss_cons (ps_setLc (i := 2) (te := (tCB rInt (tCons (tFld K (tVar 3) "gone") tNil))) (tt := tYes) (g := gName 3) rfl sc_tell_state.nd rfl rfl (sw_true rfl rfl rfl (by decide +kernel)) (pi_listK (K := K) rfl (pe_fldK (K := K) rfl (pv 0) rfl)) (blkOk_by (own := [("flight", 3)]) (by rfl)) (fun _ _ _ _ _ => (pg_name (i := 3) sc_tell_state.nd rfl (Or.inl rfl))) (fun _ _ _ _ _ => pts_nil) (fun _ _ _ _ _ => (pe_callTy intK (by rfl) T.z_int (by decide +kernel) (pa_cons (pe_fldK (K := K) rfl (pv 3) rfl) pa_nil)))) (pss_cons (ps_set (i := 4) sc_tell_state.nd rfl (Or.inl rfl) (pe_lst pa_nil)) (pss_cons (ps_for PassesOwn.never rfl (pi_listK (K := K) rfl (pe_fldK (K := K) rfl (pv 0) rfl)) (pg_name (i := 5) sc_tell_state.nd rfl (Or.inl rfl)) (pss_one (ps_expr (pe_bmK (K := K) rfl PySem.F.plainAttrs_list PySem.F.slot_list_extend PySem.F.type_list_extend mt_extend (pv 4) (pa_cons (pe_lst (pa_cons (pe_fldK (K := K) rfl (pv 5) rfl) (pa_cons (pe_fldK (K := K) rfl (pv 5) rfl) pa_nil))) pa_nil))))) (pss_cons (ps_set (i := 6) sc_tell_state.nd rfl (Or.inl rfl) (pe_lst pa_nil)) (pss_cons (ps_for PassesOwn.never rfl (pi_listK (K := K) rfl (pe_fldK (K := K) rfl (pv 0) rfl)) (pg_name (i := 7) sc_tell_state.nd rfl (Or.inl rfl)) (pss_one (ps_expr (pe_bmK (K := K) rfl PySem.F.plainAttrs_list PySem.F.slot_list_extend PySem.F.type_list_extend mt_extend (pv 6) (pa_cons (pe_lst (pa_cons (pe_fldK (K := K) rfl (pv 7) rfl) (pa_cons (pe_fldK (K := K) rfl (pv 7) rfl) (pa_cons (pe_fldK (K := K) rfl (pv 7) rfl) (pa_cons (pe_callTy intK (by rfl) T.z_int (by decide +kernel) (pa_cons (pe_fldK (K := K) rfl (pv 7) rfl) pa_nil)) pa_nil))))) pa_nil))))) ((q_tell_state_5 K d x).2 P w mg base T cdv Ar outer st H E hr))))))⟩
theorem ok_tell_state (T : Txt K mg d x) : FnOk P w K mg base CX0 2 x.f_tell_state x.d_tell_state ["airport", "told"] (spAct d clState okNil) := by
  refine okQ T.F_tell_state sc_tell_state (fun vs H Q E h => ?_) (fun cdv Ar outer st H E hr => (q_tell_state_0 K d x).2 _ _ _ _ T cdv Ar outer st H E hr) (fun vs H Q E h => ?_)
  · obtain ⟨_, _, _, _, rfl, _⟩ := h
    rfl
  · obtain ⟨A, s, t, ns, rfl, g, ht, nt, hok, q⟩ := h
    have a := g.a
    have g1 := g.g.nF
    have g2 := g.g.nK
    have g3 := g.g.nP
    have g4 := g.g.nB
    have e0 : Sy54.step s (clState ns) = (s, ⟨(s.moves : Nat), [Sy54.ints (nF s.gone), Sy54.ints (nP s.people), Sy54.ints (nB s.bags), Sy54.ints (nK s.boxes)]⟩) := rfl
    rw [e0] at q
    -- flights
    refine ⟨_, rfl, r_flights T a ⟨A.lF, rfl, ⟨_, SqL.of a.L.hF⟩, fun D1 h1 => lc_list (K := K) (a := A.lF) (xs := A.fs.map V.ref) (fun i H' => Same H H' ∧ H' D1 = some (.lst (ivs (nF (s.gone.take i))))) ⟨Same.new (Same.refl H) h1, upd_same⟩
      (fun i H' _ h => SqL.of (h.1 _ _ a.L.hF)) ?_ ?_⟩⟩
    · rintro i v H' hv ⟨sm, hDl⟩
      obtain ⟨fb, hfb, rfl⟩ := getRef hv
      have hi : i < s.gone.length := by rw [← a.F.len]; exact get_lt hfb
      have hg : s.gone[i]? = some s.gone[i] := List.getElem?_eq_getElem hi
      have a' := a.same sm
      refine ⟨rfl, _, rfl, r_gone T a' hfb hg (.inr ⟨_, rfl, _, hDl, ?_, Same.new sm h1, ?_⟩)⟩
      · rw [ivs_len, nF_len, List.length_take]
        exact small1000 (by omega)
      · rw [upd_same, take_snoc hg]
        unfold nF
        rw [List.map_append, ivs_app]
        cases s.gone[i] <;> rfl
    rintro H1 ⟨sm1, e1⟩
    rw [List.length_map, a.F.len, List.take_length] at e1
    have a1 := a.same sm1
    -- passengers
    refine ⟨Nat.zero_le _, fun D2 h2 => ?_⟩
    have s2 : Same H1 (upd H1 D2 (.lst [])) := Same.new (Same.refl _) h2
    have a2 := a1.same s2
    refine ⟨_, rfl, r_passengers T a2 ⟨A.lP, rfl, ⟨_, SqL.of a2.L.hP⟩, for_list (K := K) (a := A.lP) (xs := A.ps.map V.ref) (fun i σ H' => ∃ v, σ = [some (.ref A.p), some (.ref t), some (.ref D1), none, some (.ref D2), v, none, none, none, none, none] ∧ Same H1 H' ∧ H' D2 = some (.lst (ivs (nP (s.people.take i)))))
      ⟨none, rfl, s2, upd_same⟩ (fun i σ H' _ h => by obtain ⟨_, _, sm, _⟩ := h; exact SqL.of (sm _ _ a1.L.hP)) ?_ ?_⟩⟩
    · rintro i v σ H' hv ⟨v0, rfl, sm, hDl⟩
      obtain ⟨pb, hpb, rfl⟩ := getRef hv
      have hi : i < s.people.length := by rw [← a.P.len]; exact get_lt hpb
      have hz : s.people[i]? = some s.people[i] := List.getElem?_eq_getElem hi
      have a' := a1.same sm
      refine ⟨_, rfl, .inl ⟨rfl, _, SqL.of hDl⟩, _, rfl, r_pflight T a' hpb hz ⟨_, rfl, r_standing T a' hpb hz ⟨by show 2 ≤ sizeLine; decide, fun e he => ?_⟩⟩⟩
      have nDe : D2 ≠ e := ne_of_none hDl he
      refine ⟨D2, e, _, _, rfl, rfl, by rw [upd_ne nDe]; exact hDl, upd_same, ?_, ?_⟩
      · rw [ivs_len, nP_len, List.length_take]
        simp only [List.length_cons, List.length_nil]
        exact small (by omega)
      · refine ⟨_, rfl, Same.new (Same.new sm (sm.free he)) h2, ?_⟩
        rw [upd_same, take_snoc hz]
        unfold nP
        rw [List.flatMap_append, ivs_app]
        rfl
    rintro σ H2 ⟨v2, rfl, sm2, e2⟩
    rw [List.length_map, a.P.len, List.take_length] at e2
    have a3 := a1.same sm2
    have f1 := sm2 _ _ e1
    -- bags
    refine ⟨Nat.zero_le _, fun D3 h3 => ?_⟩
    have s3 : Same H2 (upd H2 D3 (.lst [])) := Same.new (Same.refl _) h3
    have a4 := a3.same s3
    refine ⟨_, rfl, r_bags T a4 ⟨A.lB, rfl, ⟨_, SqL.of a4.L.hB⟩, for_list (K := K) (a := A.lB) (xs := A.bs.map V.ref) (fun i σ H' => ∃ v, σ = [some (.ref A.p), some (.ref t), some (.ref D1), none, some (.ref D2), v2, some (.ref D3), v, none, none, none] ∧ Same H2 H' ∧ H' D3 = some (.lst (ivs (nB (s.bags.take i)))))
      ⟨none, rfl, s3, upd_same⟩ (fun i σ H' _ h => by obtain ⟨_, _, sm, _⟩ := h; exact SqL.of (sm _ _ a3.L.hB)) ?_ ?_⟩⟩
    · rintro i v σ H' hv ⟨v0, rfl, sm, hDl⟩
      obtain ⟨bb, hbb, rfl⟩ := getRef hv
      have hi : i < s.bags.length := by rw [← a.B.len]; exact get_lt hbb
      have hz : s.bags[i]? = some s.bags[i] := List.getElem?_eq_getElem hi
      have a' := a3.same sm
      refine ⟨_, rfl, .inl ⟨rfl, _, SqL.of hDl⟩, _, rfl, r_owner T a' hbb hz ⟨_, rfl, r_weight T a' hbb hz ⟨_, rfl, r_place T a' hbb hz ⟨_, rfl, r_follows T a' hbb hz (.inr ⟨_, rfl, by show 4 ≤ sizeLine; decide, fun e he => ?_⟩)⟩⟩⟩⟩
      have nDe : D3 ≠ e := ne_of_none hDl he
      refine ⟨D3, e, _, _, rfl, rfl, by rw [upd_ne nDe]; exact hDl, upd_same, ?_, ?_⟩
      · rw [ivs_len, nB_len, List.length_take]
        simp only [List.length_cons, List.length_nil]
        exact small (by omega)
      · refine ⟨_, rfl, Same.new (Same.new sm (sm.free he)) h3, ?_⟩
        rw [upd_same, take_snoc hz]
        unfold nB
        rw [List.flatMap_append, ivs_app]
        cases er : s.bags[i].rush <;> simp [ivs, iv, er]
    rintro σ H3 ⟨v3, rfl, sm3, e3⟩
    rw [List.length_map, a.B.len, List.take_length] at e3
    have a5 := a3.same sm3
    have f1 := sm3 _ _ f1
    have f2 := sm3 _ _ e2
    -- containers
    refine ⟨Nat.zero_le _, fun D4 h4 => ?_⟩
    have s4 : Same H3 (upd H3 D4 (.lst [])) := Same.new (Same.refl _) h4
    have a6 := a5.same s4
    refine ⟨_, rfl, r_containers T a6 ⟨A.lK, rfl, ⟨_, SqL.of a6.L.hK⟩, for_list (K := K) (a := A.lK) (xs := A.ks.map V.ref) (fun i σ H' => ∃ v, σ = [some (.ref A.p), some (.ref t), some (.ref D1), none, some (.ref D2), v2, some (.ref D3), v3, some (.ref D4), v, none] ∧ Same H3 H' ∧ H' D4 = some (.lst (ivs (nK (s.boxes.take i)))))
      ⟨none, rfl, s4, upd_same⟩ (fun i σ H' _ h => by obtain ⟨_, _, sm, _⟩ := h; exact SqL.of (sm _ _ a5.L.hK)) ?_ ?_⟩⟩
    · rintro i v σ H' hv ⟨v0, rfl, sm, hDl⟩
      obtain ⟨kb, hkb, rfl⟩ := getRef hv
      have hi : i < s.boxes.length := by rw [← a.K.len]; exact get_lt hkb
      have hz : s.boxes[i]? = some s.boxes[i] := List.getElem?_eq_getElem hi
      obtain ⟨_, _, l, _, _, hl⟩ := a.boxAt hi
      have a' := a5.same sm
      have hL := a'.L.at_ i l _ hl hz
      refine ⟨_, rfl, .inl ⟨rfl, _, SqL.of hDl⟩, _, rfl, r_kflight T a' hkb hz ⟨_, rfl, r_room T a' hkb hz ⟨_, rfl, r_limit T a' hkb hz ⟨_, rfl, r_pile T a' hkb hz hl ⟨l, _, rfl, .inl (SqL.of hL), by show 4 ≤ sizeLine; decide, fun e he => ?_⟩⟩⟩⟩⟩
      have nDe : D4 ≠ e := ne_of_none hDl he
      refine ⟨D4, e, _, _, rfl, rfl, by rw [upd_ne nDe]; exact hDl, upd_same, ?_, ?_⟩
      · rw [ivs_len, nK_len, List.length_take]
        simp only [List.length_cons, List.length_nil]
        exact small (by omega)
      · refine ⟨_, rfl, Same.new (Same.new sm (sm.free he)) h4, ?_⟩
        rw [upd_same, take_snoc hz]
        unfold nK
        rw [List.flatMap_append, ivs_app, ivs_len]
        rfl
    rintro σ H4 ⟨v4, rfl, sm4, e4⟩
    rw [List.length_map, a.K.len, List.take_length] at e4
    have f1 := sm4 _ _ f1
    have f2 := sm4 _ _ f2
    have f3 := sm4 _ _ e3
    have L1 : (ivs (nF s.gone)).length ≤ 8 := by rw [ivs_len, nF_len]; exact g1
    have L2 : (ivs (nP s.people)).length ≤ 80 := by rw [ivs_len, nP_len]; omega
    have L3 : (ivs (nB s.bags)).length ≤ 240 := by rw [ivs_len, nB_len]; omega
    have L4 : (ivs (nK s.boxes)).length ≤ 48 := by rw [ivs_len, nK_len]; omega
    -- lists
    refine ⟨_, rfl, D1, _, rfl, f1, by omega, fun Ha pa sa ha ea => ?_⟩
    refine ⟨_, rfl, D2, _, rfl, sa _ _ f2, by omega, fun Hb pb sb hb eb => ?_⟩
    refine ⟨pa, pb, _, _, rfl, rfl, sb _ _ ea, eb, small (by simp only [List.length_cons]; omega), fun pc hc => ?_⟩
    have sc : Same Hb (upd Hb pc (.lst (V.int ((ivs (nF s.gone)).length : Nat) :: ivs (nF s.gone) ++ (V.int ((ivs (nP s.people)).length : Nat) :: ivs (nP s.people))))) := Same.new (Same.refl _) hc
    refine ⟨_, rfl, D3, _, rfl, sc _ _ (sb _ _ (sa _ _ f3)), by omega, fun Hd pd sd hd ed => ?_⟩
    refine ⟨pc, pd, _, _, rfl, rfl, sd _ _ upd_same, ed, small (by simp only [List.length_append, List.length_cons]; omega), fun pe he => ?_⟩
    have se : Same Hd (upd Hd pe (.lst (V.int ((ivs (nF s.gone)).length : Nat) :: ivs (nF s.gone) ++ (V.int ((ivs (nP s.people)).length : Nat) :: ivs (nP s.people)) ++ (V.int ((ivs (nB s.bags)).length : Nat) :: ivs (nB s.bags))))) := Same.new (Same.refl _) he
    refine ⟨_, rfl, D4, _, rfl, se _ _ (sd _ _ (sc _ _ (sb _ _ (sa _ _ e4)))), by omega, fun Hf pf sf hf ef => ?_⟩
    refine ⟨pe, pf, _, _, rfl, rfl, sf _ _ upd_same, ef, small (by simp only [List.length_append, List.length_cons]; omega), fun pg hg => ?_⟩
    have sg : Same Hf (upd Hf pg (.lst (V.int ((ivs (nF s.gone)).length : Nat) :: ivs (nF s.gone) ++ (V.int ((ivs (nP s.people)).length : Nat) :: ivs (nP s.people)) ++ (V.int ((ivs (nB s.bags)).length : Nat) :: ivs (nB s.bags)) ++ (V.int ((ivs (nK s.boxes)).length : Nat) :: ivs (nK s.boxes))))) := Same.new (Same.refl _) hg
    have sall : Same H _ := ((((((((sm1.trans sm2).trans sm3).trans sm4).trans sa).trans sb).trans sc).trans sd).trans se).trans (sf.trans sg)
    have az := a.same sall
    refine ⟨_, rfl, r_moves T az ⟨by show 1 ≤ sizeLine; decide, fun p1 h1 => ?_⟩⟩
    have s5 := Same.new (o := .lst [iv s.moves]) (Same.refl _) h1
    have n1 : pg ≠ p1 := ne_of_none upd_same h1
    refine ⟨_, rfl, p1, pg, _, _, rfl, rfl, upd_same, by rw [upd_ne n1]; exact upd_same, small (by simp only [List.length_append, List.length_cons, List.length_nil]; omega), fun p hp => ?_⟩
    refine finish q (g.same (sall.trans s5)) (.still (.same (sall.trans s5))) hp ?_
    dsimp only
    rw [out4]
    rfl
end
end Bg
end
section
set_option Elab.async false
set_option linter.all false
set_option maxRecDepth 100000
set_option maxHeartbeats 2000000
namespace Bg
open PySem PySem.Spec PyProof.Rows L2
noncomputable def allThere (ks : List Str) (s : Sy54.St) (ns : List Nat) : Prop := ns.length = ks.length ∧ ∀ (i : Nat) (k : Str) (n : Nat), ks[i]? = some k → ns[i]? = some n → there s k n = true
structure RowOk (K : PySem.W.Frag) (mg : Str → Option Value) (d : Ad) (f : Addr) (fd : FuncData) (q : Addr) (ks : List Str) (cl : List Nat → Sy54.Call) : Prop where
  fn : ∀ (P : Program) (w : World) (base : Heap), FnOk P w K mg base CX0 6 f fd ["airport", "told"] (spAct d cl (allThere ks))
  kp : PySem.W.keepIn K (.ref f) = true
  bd : Binds K fd ["airport", "told"] []
  qs : ∀ H : Hp, SqT K H q (ks.map V.str)
  miss : ∀ (s : Sy54.St) (ns : List Nat) (i : Nat) (k : Str) (n : Nat), ns.length = ks.length → ks[i]? = some k → ns[i]? = some n → there s k n = false → Sy54.step s (cl ns) = (s, Sy54.ok (-2))
theorem imp_act {P : Program} {w : World} {K : PySem.W.Frag} {mg : Str → Option Value} {base : Heap} {d : Ad} {f : Addr} {fd : FuncData} {cl : List Nat → Sy54.Call} {ok ok' : Sy54.St → List Nat → Prop} {j : Nat} (F : FnOk P w K mg base CX0 j f fd ["airport", "told"] (spAct d cl ok)) (hj : j ≤ 6) (h : ∀ s ns, ok' s ns → ok s ns) : FnOk P w K mg base CX0 6 f fd ["airport", "told"] (spAct d cl ok') :=
  (F.mono hj).imp fun vs H Q E ⟨A, s, t, ns, e, g, ht, nt, o, q⟩ => ⟨A, s, t, ns, e, g, ht, nt, h s ns o, q⟩
theorem Post.same {d : Ad} {A : Lay} {H H1 : Hp} {s' : Sy54.St} {ans : List Int} {Q : VK} (k : Post d A H s' ans Q) (sm : Same H H1) : Post d A H1 s' ans Q := fun H' A' p g w hp no e =>
  k H' A' p g ⟨w.p, w.sub, fun b h => (w.new b h).elim .inl fun q => .inr (sm.free q), fun b o e n => w.keep b o (sm b o e) n⟩ (sm.free hp) no e
theorem PostR.same {d : Ad} {A : Lay} {H H1 : Hp} {r : Sy54.St × Sy54.Ans} {Q : VK} (k : PostR d A H r Q) (sm : Same H H1) : PostR d A H1 r Q := Post.same k sm
theorem th_f (s : Sy54.St) (n : Nat) : there s "flight" n = decide (n < s.gone.length) := by unfold there; rw [if_pos rfl]
theorem th_k (s : Sy54.St) (n : Nat) : there s "container" n = decide (n < s.boxes.length) := by unfold there; rw [if_neg (by decide +kernel), if_pos rfl]
theorem th_p (s : Sy54.St) (n : Nat) : there s "passenger" n = decide (n < s.people.length) := by unfold there; rw [if_neg (by decide +kernel), if_neg (by decide +kernel), if_pos rfl]
theorem th_b (s : Sy54.St) (n : Nat) : there s "bag" n = decide (n < s.bags.length) := by unfold there; rw [if_neg (by decide +kernel), if_neg (by decide +kernel), if_neg (by decide +kernel), if_pos rfl]
theorem th_z (s : Sy54.St) (n : Nat) : there s "size" n = true := by unfold there; rw [if_neg (by decide +kernel), if_neg (by decide +kernel), if_neg (by decide +kernel), if_neg (by decide +kernel)]
theorem len1 {ns : List Nat} (h : ns.length = 1) : ∃ a, ns = [a] := by
  match ns, h with
  | [a], _ => exact ⟨a, rfl⟩
theorem len2 {ns : List Nat} (h : ns.length = 2) : ∃ a b, ns = [a, b] := by
  match ns, h with
  | [a, b], _ => exact ⟨a, b, rfl⟩
theorem len3 {ns : List Nat} (h : ns.length = 3) : ∃ a b c, ns = [a, b, c] := by
  match ns, h with
  | [a, b, c], _ => exact ⟨a, b, c, rfl⟩
theorem at_f {s : Sy54.St} {ns : List Nat} (h : allThere ["flight"] s ns) : okF s ns := by
  obtain ⟨a, rfl⟩ := len1 h.1
  exact ⟨a, rfl, by have := h.2 0 _ a rfl rfl; rw [th_f] at this; exact of_decide_eq_true this⟩
theorem at_fzz {s : Sy54.St} {ns : List Nat} (h : allThere ["flight", "size", "size"] s ns) : okF2 s ns := by
  obtain ⟨a, b, c, rfl⟩ := len3 h.1
  exact ⟨a, b, c, rfl, by have := h.2 0 _ a rfl rfl; rw [th_f] at this; exact of_decide_eq_true this⟩
theorem at_pz {s : Sy54.St} {ns : List Nat} (h : allThere ["passenger", "size"] s ns) : okP1 s ns := by
  obtain ⟨a, b, rfl⟩ := len2 h.1
  exact ⟨a, b, rfl, by have := h.2 0 _ a rfl rfl; rw [th_p] at this; exact of_decide_eq_true this⟩
theorem at_bk {s : Sy54.St} {ns : List Nat} (h : allThere ["bag", "container"] s ns) : okBK s ns := by
  obtain ⟨a, b, rfl⟩ := len2 h.1
  exact ⟨a, b, rfl, by have := h.2 0 _ a rfl rfl; rw [th_b] at this; exact of_decide_eq_true this, by have := h.2 1 _ b rfl rfl; rw [th_k] at this; exact of_decide_eq_true this⟩
theorem at_p {s : Sy54.St} {ns : List Nat} (h : allThere ["passenger"] s ns) : okP s ns := by
  obtain ⟨a, rfl⟩ := len1 h.1
  exact ⟨a, rfl, by have := h.2 0 _ a rfl rfl; rw [th_p] at this; exact of_decide_eq_true this⟩
theorem at_b {s : Sy54.St} {ns : List Nat} (h : allThere ["bag"] s ns) : okB s ns := by
  obtain ⟨a, rfl⟩ := len1 h.1
  exact ⟨a, rfl, by have := h.2 0 _ a rfl rfl; rw [th_b] at this; exact of_decide_eq_true this⟩
theorem at_pf {s : Sy54.St} {ns : List Nat} (h : allThere ["passenger", "flight"] s ns) : okPF s ns := by
  obtain ⟨a, b, rfl⟩ := len2 h.1
  exact ⟨a, b, rfl, by have := h.2 0 _ a rfl rfl; rw [th_p] at this; exact of_decide_eq_true this, by have := h.2 1 _ b rfl rfl; rw [th_f] at this; exact of_decide_eq_true this⟩
theorem at_k {s : Sy54.St} {ns : List Nat} (h : allThere ["container"] s ns) : okK s ns := by
  obtain ⟨a, rfl⟩ := len1 h.1
  exact ⟨a, rfl, by have := h.2 0 _ a rfl rfl; rw [th_k] at this; exact of_decide_eq_true this⟩
theorem at_nil {s : Sy54.St} {ns : List Nat} (h : allThere [] s ns) : okNil s ns := List.eq_nil_of_length_eq_zero h.1
theorem no_f {s : Sy54.St} {f : Nat} (h : there s "flight" f = false) (k : Unit → Sy54.St × Sy54.Ans) : Sy54.onFlight s f k = (s, Sy54.ok (-2)) := by
  rw [th_f] at h
  have := of_decide_eq_false h
  unfold Sy54.onFlight
  rw [if_pos (by omega)]
theorem no_p {s : Sy54.St} {p : Nat} (h : there s "passenger" p = false) : s.people[p]? = none := by
  rw [th_p] at h
  have := of_decide_eq_false h
  exact List.getElem?_eq_none (by omega)
theorem no_b {s : Sy54.St} {b : Nat} (h : there s "bag" b = false) : s.bags[b]? = none := by
  rw [th_b] at h
  have := of_decide_eq_false h
  exact List.getElem?_eq_none (by omega)
theorem no_k {s : Sy54.St} {b : Nat} (h : there s "container" b = false) : s.boxes[b]? = none := by
  rw [th_k] at h
  have := of_decide_eq_false h
  exact List.getElem?_eq_none (by omega)
theorem miss1 {cl : List Nat → Sy54.Call} {k0 : Str} (h0 : ∀ s n, there s k0 n = false → Sy54.step s (cl [n]) = (s, Sy54.ok (-2))) (s : Sy54.St) (ns : List Nat) (i : Nat) (k : Str) (n : Nat) (hl : ns.length = [k0].length) (hk : [k0][i]? = some k) (hn : ns[i]? = some n) (h : there s k n = false) : Sy54.step s (cl ns) = (s, Sy54.ok (-2)) := by
  obtain ⟨a, rfl⟩ := len1 hl
  match i, hk, hn with
  | 0, hk, hn =>
    cases hk
    cases hn
    exact h0 s _ h
  | i + 1, hk, hn => simp at hk
theorem miss2 {cl : List Nat → Sy54.Call} {k0 k1 : Str} (h0 : ∀ s a b, there s k0 a = false → Sy54.step s (cl [a, b]) = (s, Sy54.ok (-2))) (h1 : ∀ s a b, there s k1 b = false → Sy54.step s (cl [a, b]) = (s, Sy54.ok (-2))) (s : Sy54.St) (ns : List Nat) (i : Nat) (k : Str) (n : Nat) (hl : ns.length = [k0, k1].length) (hk : [k0, k1][i]? = some k) (hn : ns[i]? = some n) (h : there s k n = false) : Sy54.step s (cl ns) = (s, Sy54.ok (-2)) := by
  obtain ⟨a, b, rfl⟩ := len2 hl
  match i, hk, hn with
  | 0, hk, hn =>
    cases hk
    cases hn
    exact h0 s _ _ h
  | 1, hk, hn =>
    cases hk
    cases hn
    exact h1 s _ _ h
  | i + 2, hk, hn => simp at hk
theorem miss3 {cl : List Nat → Sy54.Call} {k0 k1 k2 : Str} (h0 : ∀ s a b c, there s k0 a = false → Sy54.step s (cl [a, b, c]) = (s, Sy54.ok (-2))) (h1 : ∀ s n, there s k1 n = true) (h2 : ∀ s n, there s k2 n = true) (s : Sy54.St) (ns : List Nat) (i : Nat) (k : Str) (n : Nat) (hl : ns.length = [k0, k1, k2].length) (hk : [k0, k1, k2][i]? = some k) (hn : ns[i]? = some n) (h : there s k n = false) : Sy54.step s (cl ns) = (s, Sy54.ok (-2)) := by
  obtain ⟨a, b, c, rfl⟩ := len3 hl
  match i, hk, hn with
  | 0, hk, hn =>
    cases hk
    cases hn
    exact h0 s _ _ _ h
  | 1, hk, hn =>
    cases hk
    cases hn
    rw [h1] at h
    cases h
  | 2, hk, hn =>
    cases hk
    cases hn
    rw [h2] at h
    cases h
  | i + 3, hk, hn => simp at hk
section
variable {K : PySem.W.Frag} {mg : Str → Option Value} {d : Ad} {x : Fx}
theorem row0 (T : Txt K mg d x) : RowOk K mg d x.f_add_flight x.d_add_flight x.q_CALLS0 [] clFlight :=
  ⟨fun P w base => imp_act (ok_add_flight T) (by decide) fun s ns h => at_nil h, T.F_add_flight.kp, bd_add_flight T.F_add_flight, T.Q_CALLS0, fun s ns i k n _ hk => by simp at hk⟩
theorem row1 (T : Txt K mg d x) : RowOk K mg d x.f_add_container x.d_add_container x.q_CALLS1 ["flight", "size", "size"] clBox :=
  ⟨fun P w base => imp_act (ok_add_container T) (by decide) fun s ns h => at_fzz h, T.F_add_container.kp, bd_add_container T.F_add_container, T.Q_CALLS1, miss3 (fun s a b c h => by simp only [Sy54.step]; exact no_f h _) th_z th_z⟩
theorem row2 (T : Txt K mg d x) : RowOk K mg d x.f_add_passenger x.d_add_passenger x.q_CALLS2 ["flight"] clPerson :=
  ⟨fun P w base => imp_act (ok_add_passenger T) (by decide) fun s ns h => at_f h, T.F_add_passenger.kp, bd_add_passenger T.F_add_passenger, T.Q_CALLS2, miss1 fun s a h => by simp only [Sy54.step]; exact no_f h _⟩
theorem row3 (T : Txt K mg d x) : RowOk K mg d x.f_add_bag x.d_add_bag x.q_CALLS3 ["passenger", "size"] clBag :=
  ⟨fun P w base => imp_act (ok_add_bag T) (by decide) fun s ns h => at_pz h, T.F_add_bag.kp, bd_add_bag T.F_add_bag, T.Q_CALLS3, miss2 (fun s a b h => by show Sy54.onPerson s a _ = _; unfold Sy54.onPerson; simp only [no_p h]) (fun s a b h => by rw [th_z] at h; cases h)⟩
theorem row4 (T : Txt K mg d x) : RowOk K mg d x.f_load_bag x.d_load_bag x.q_CALLS4 ["bag", "container"] clLoad :=
  ⟨fun P w base => imp_act (ok_load_bag T) (by decide) fun s ns h => at_bk h, T.F_load_bag.kp, bd_load_bag T.F_load_bag, T.Q_CALLS4, miss2 (fun s a b h => by show Sy54.onBag s a _ = _; unfold Sy54.onBag; simp only [no_b h])
    (fun s a b h => by
      show Sy54.step s (.load a b) = _
      simp only [Sy54.step, Sy54.onBag, no_k h]
      split <;> rfl)⟩
theorem row5 (T : Txt K mg d x) : RowOk K mg d x.f_come_aboard x.d_come_aboard x.q_CALLS5 ["passenger"] clAboard :=
  ⟨fun P w base => imp_act (ok_come_aboard T) (by decide) fun s ns h => at_p h, T.F_come_aboard.kp, bd_come_aboard T.F_come_aboard, T.Q_CALLS5, miss1 fun s a h => by show Sy54.onPerson s a _ = _; unfold Sy54.onPerson; simp only [no_p h]⟩
theorem row6 (T : Txt K mg d x) : RowOk K mg d x.f_leave_aircraft x.d_leave_aircraft x.q_CALLS6 ["passenger"] clLeaves :=
  ⟨fun P w base => imp_act (ok_leave_aircraft T) (by decide) fun s ns h => at_p h, T.F_leave_aircraft.kp, bd_leave_aircraft T.F_leave_aircraft, T.Q_CALLS6, miss1 fun s a h => by show Sy54.onPerson s a _ = _; unfold Sy54.onPerson; simp only [no_p h]⟩
theorem row7 (T : Txt K mg d x) : RowOk K mg d x.f_stay_absent x.d_stay_absent x.q_CALLS7 ["passenger"] clAbsent :=
  ⟨fun P w base => imp_act (ok_stay_absent T) (by decide) fun s ns h => at_p h, T.F_stay_absent.kp, bd_stay_absent T.F_stay_absent, T.Q_CALLS7, miss1 fun s a h => by show Sy54.onPerson s a _ = _; unfold Sy54.onPerson; simp only [no_p h]⟩
theorem row8 (T : Txt K mg d x) : RowOk K mg d x.f_rush_bag x.d_rush_bag x.q_CALLS8 ["bag"] clRush :=
  ⟨fun P w base => imp_act (ok_rush_bag T) (by decide) fun s ns h => at_b h, T.F_rush_bag.kp, bd_rush_bag T.F_rush_bag, T.Q_CALLS8, miss1 fun s a h => by show Sy54.onBag s a _ = _; unfold Sy54.onBag; simp only [no_b h]⟩
theorem row9 (T : Txt K mg d x) : RowOk K mg d x.f_take_bag_out x.d_take_bag_out x.q_CALLS9 ["bag"] clOut :=
  ⟨fun P w base => imp_act (ok_take_bag_out T) (by decide) fun s ns h => at_b h, T.F_take_bag_out.kp, bd_take_bag_out T.F_take_bag_out, T.Q_CALLS9, miss1 fun s a h => by show Sy54.onBag s a _ = _; unfold Sy54.onBag; simp only [no_b h]⟩
theorem row10 (T : Txt K mg d x) : RowOk K mg d x.f_count_moves x.d_count_moves x.q_CALLS10 ["flight"] clMoves :=
  ⟨fun P w base => imp_act (ok_count_moves T) (by decide) fun s ns h => at_f h, T.F_count_moves.kp, bd_count_moves T.F_count_moves, T.Q_CALLS10, miss1 fun s a h => by simp only [Sy54.step]; exact no_f h _⟩
theorem row11 (T : Txt K mg d x) : RowOk K mg d x.f_clear_flight x.d_clear_flight x.q_CALLS11 ["flight"] clClear :=
  ⟨fun P w base => imp_act (ok_clear_flight T) (by decide) fun s ns h => at_f h, T.F_clear_flight.kp, bd_clear_flight T.F_clear_flight, T.Q_CALLS11, miss1 fun s a h => by simp only [Sy54.step]; exact no_f h _⟩
theorem row12 (T : Txt K mg d x) : RowOk K mg d x.f_let_go x.d_let_go x.q_CALLS12 ["flight"] clGoes :=
  ⟨fun P w base => imp_act (ok_let_go T) (by decide) fun s ns h => at_f h, T.F_let_go.kp, bd_let_go T.F_let_go, T.Q_CALLS12, miss1 fun s a h => by simp only [Sy54.step]; exact no_f h _⟩
theorem row13 (T : Txt K mg d x) : RowOk K mg d x.f_hand_out x.d_hand_out x.q_CALLS13 ["bag"] clHand :=
  ⟨fun P w base => imp_act (ok_hand_out T) (by decide) fun s ns h => at_b h, T.F_hand_out.kp, bd_hand_out T.F_hand_out, T.Q_CALLS13, miss1 fun s a h => by show Sy54.onBag s a _ = _; unfold Sy54.onBag; simp only [no_b h]⟩
theorem row14 (T : Txt K mg d x) : RowOk K mg d x.f_tell_waiting x.d_tell_waiting x.q_CALLS14 ["flight"] clWaits :=
  ⟨fun P w base => imp_act (ok_tell_waiting T) (by decide) fun s ns h => at_f h, T.F_tell_waiting.kp, bd_tell_waiting T.F_tell_waiting, T.Q_CALLS14, miss1 fun s a h => by simp only [Sy54.step]; exact no_f h _⟩
theorem row15 (T : Txt K mg d x) : RowOk K mg d x.f_change_flight x.d_change_flight x.q_CALLS15 ["passenger", "flight"] clNext :=
  ⟨fun P w base => imp_act (ok_change_flight T) (by decide) fun s ns h => at_pf h, T.F_change_flight.kp, bd_change_flight T.F_change_flight, T.Q_CALLS15, miss2 (fun s a b h => by show Sy54.step s (.next a b) = _; simp only [Sy54.step, no_p h]) (fun s a b h => by
    show Sy54.step s (.next a b) = _
    rw [th_f] at h
    have h := of_decide_eq_false h
    simp only [Sy54.step]
    split
    · rfl
    · rw [if_pos (by omega)])⟩
theorem row16 (T : Txt K mg d x) : RowOk K mg d x.f_tell_place x.d_tell_place x.q_CALLS16 ["bag"] clWhere :=
  ⟨fun P w base => imp_act (ok_tell_place T) (by decide) fun s ns h => at_b h, T.F_tell_place.kp, bd_tell_place T.F_tell_place, T.Q_CALLS16, miss1 fun s a h => by show Sy54.onBag s a _ = _; unfold Sy54.onBag; simp only [no_b h]⟩
theorem row17 (T : Txt K mg d x) : RowOk K mg d x.f_tell_pile x.d_tell_pile x.q_CALLS17 ["container"] clList :=
  ⟨fun P w base => imp_act (ok_tell_pile T) (by decide) fun s ns h => at_k h, T.F_tell_pile.kp, bd_tell_pile T.F_tell_pile, T.Q_CALLS17, miss1 fun s a h => by show Sy54.step s (.list a) = _; simp only [Sy54.step, no_k h]⟩
theorem row18 (T : Txt K mg d x) : RowOk K mg d x.f_tell_state x.d_tell_state x.q_CALLS18 [] clState :=
  ⟨fun P w base => imp_act (ok_tell_state T) (by decide) fun s ns h => at_nil h, T.F_tell_state.kp, bd_tell_state T.F_tell_state, T.Q_CALLS18, fun s ns i k n _ hk => by simp at hk⟩
end
end Bg
end
section
set_option Elab.async false
set_option linter.all false
set_option maxRecDepth 100000
set_option maxHeartbeats 2000000
namespace Bg
open PySem PySem.Spec PyProof.Rows L2
noncomputable def kindsN : Nat → List Str
  | 0 => []
  | 1 => ["flight", "size", "size"]
  | 2 => ["flight"]
  | 3 => ["passenger", "size"]
  | 4 => ["bag", "container"]
  | 5 => ["passenger"]
  | 6 => ["passenger"]
  | 7 => ["passenger"]
  | 8 => ["bag"]
  | 9 => ["bag"]
  | 10 => ["flight"]
  | 11 => ["flight"]
  | 12 => ["flight"]
  | 13 => ["bag"]
  | 14 => ["flight"]
  | 15 => ["passenger", "flight"]
  | 16 => ["bag"]
  | 17 => ["container"]
  | 18 => []
  | _ => []
noncomputable def clN : Nat → List Nat → Sy54.Call
  | 0 => clFlight
  | 1 => clBox
  | 2 => clPerson
  | 3 => clBag
  | 4 => clLoad
  | 5 => clAboard
  | 6 => clLeaves
  | 7 => clAbsent
  | 8 => clRush
  | 9 => clOut
  | 10 => clMoves
  | 11 => clClear
  | 12 => clGoes
  | 13 => clHand
  | 14 => clWaits
  | 15 => clNext
  | 16 => clWhere
  | 17 => clList
  | 18 => clState
  | _ => fun _ => .state
noncomputable def nCalls : Nat := 19
section
variable {K : PySem.W.Frag} {mg : Str → Option Value} {d : Ad} {x : Fx}
noncomputable def rowsV (x : Fx) : List V := [.ref x.r_CALLS0, .ref x.r_CALLS1, .ref x.r_CALLS2, .ref x.r_CALLS3, .ref x.r_CALLS4, .ref x.r_CALLS5, .ref x.r_CALLS6, .ref x.r_CALLS7, .ref x.r_CALLS8, .ref x.r_CALLS9, .ref x.r_CALLS10, .ref x.r_CALLS11, .ref x.r_CALLS12, .ref x.r_CALLS13, .ref x.r_CALLS14, .ref x.r_CALLS15, .ref x.r_CALLS16, .ref x.r_CALLS17, .ref x.r_CALLS18]
theorem table (T : Txt K mg d x) : ∀ c : Nat, c < nCalls → ∃ r f fd q, (rowsV x)[c]? = some (.ref r) ∧ (∀ H : Hp, SqT K H r [.ref f, .ref q]) ∧ RowOk K mg d f fd q (kindsN c) (clN c)
  | 0, _ => ⟨_, _, _, _, rfl, T.R_CALLS0, row0 T⟩
  | 1, _ => ⟨_, _, _, _, rfl, T.R_CALLS1, row1 T⟩
  | 2, _ => ⟨_, _, _, _, rfl, T.R_CALLS2, row2 T⟩
  | 3, _ => ⟨_, _, _, _, rfl, T.R_CALLS3, row3 T⟩
  | 4, _ => ⟨_, _, _, _, rfl, T.R_CALLS4, row4 T⟩
  | 5, _ => ⟨_, _, _, _, rfl, T.R_CALLS5, row5 T⟩
  | 6, _ => ⟨_, _, _, _, rfl, T.R_CALLS6, row6 T⟩
  | 7, _ => ⟨_, _, _, _, rfl, T.R_CALLS7, row7 T⟩
  | 8, _ => ⟨_, _, _, _, rfl, T.R_CALLS8, row8 T⟩
  | 9, _ => ⟨_, _, _, _, rfl, T.R_CALLS9, row9 T⟩
  | 10, _ => ⟨_, _, _, _, rfl, T.R_CALLS10, row10 T⟩
  | 11, _ => ⟨_, _, _, _, rfl, T.R_CALLS11, row11 T⟩
  | 12, _ => ⟨_, _, _, _, rfl, T.R_CALLS12, row12 T⟩
  | 13, _ => ⟨_, _, _, _, rfl, T.R_CALLS13, row13 T⟩
  | 14, _ => ⟨_, _, _, _, rfl, T.R_CALLS14, row14 T⟩
  | 15, _ => ⟨_, _, _, _, rfl, T.R_CALLS15, row15 T⟩
  | 16, _ => ⟨_, _, _, _, rfl, T.R_CALLS16, row16 T⟩
  | 17, _ => ⟨_, _, _, _, rfl, T.R_CALLS17, row17 T⟩
  | 18, _ => ⟨_, _, _, _, rfl, T.R_CALLS18, row18 T⟩
  | c + 19, h => absurd h (by unfold nCalls; omega)
theorem getStr {l : List Str} {i : Nat} {v : V} (h : (l.map V.str)[i]? = some v) : ∃ k, l[i]? = some k ∧ v = .str k := by
  rw [List.getElem?_map] at h
  cases e : l[i]? with
  | none => rw [e] at h; cases h
  | some n => rw [e] at h; exact ⟨n, rfl, (Option.some.inj h).symm⟩
variable {P : Program} {w : World} {base : Heap}
noncomputable def sp_answer_call (d : Ad) : Sp := fun vs H Q _ => ∃ (A : Lay) (s : Sy54.St) (t : Addr) (c : Nat) (ns : List Nat), vs = [.ref A.p, iv c, .ref t] ∧ AirG d H A s ∧ H t = some (.lst (ivs ns)) ∧ ¬ A.own t ∧ c < nCalls ∧ ns.length = (kindsN c).length ∧
  PostR d A H (Sy54.step s (clN c ns)) Q
theorem ok_answer_call (T : Txt K mg d x) : FnOk P w K mg base CX0 7 x.f_answer_call x.d_answer_call ["airport", "call", "told"] (sp_answer_call d) := by
  refine T.F_answer_call.ok sc_answer_call (fun vs H Q E h => ?_) (fun cdv Ar outer st H vs Q E hr h => ?_)
  · obtain ⟨_, _, _, _, _, rfl, _⟩ := h
    rfl
  · obtain ⟨A, s, t, c, ns, rfl, g, ht, nt, hc, hn, q⟩ := h
    obtain ⟨t_NO_SUCH, c_NO_SUCH⟩ := T.c_NO_SUCH
    refine ⟨_, (pss_cons (ps_set (i := 3) sc_answer_call.nd rfl (Or.inl rfl) (pe_ix (ix_tupK (K := K) rfl) (pe_ix (ix_tupK (K := K) rfl) (pe_glob (v := .ref x.t_CALLS) rfl T.m_CALLS rfl) (pv 1) (fun _ _ => rfl)) pe_int (fun _ _ => rfl)))
      (pss_cons (ps_for PassesOwn.never rfl (Zt.pi_zip2 (by rfl) T.z_zip (pa_cons (pe_ix (ix_tupK (K := K) rfl) (pe_ix (ix_tupK (K := K) rfl) (pe_glob (v := .ref x.t_CALLS) rfl T.m_CALLS rfl) (pv 1) (fun _ _ => rfl)) pe_int (fun _ _ => rfl)) (pa_cons (pv 2) pa_nil))) (pg_tup rfl (pgs_cons (pg_name (i := 4) sc_answer_call.nd rfl (Or.inl rfl)) (pgs_cons (pg_name (i := 5) sc_answer_call.nd rfl (Or.inl rfl)) pgs_nil))) (pss_one (ps_if (pt_not (pt_val (pe_call (ok_is_there T) (hr.mono (by decide)) rfl T.m_is_there T.F_is_there.kp (bd_is_there T.F_is_there) .nil pass0 (pa_cons (pv 0) (pa_cons (pv 4) (pa_cons (pv 5) pa_nil)))))) (pss_one (ps_ret (pe_lst (pa_cons (pe_glob (v := .int (-2)) rfl c_NO_SUCH ⟨_, rfl⟩) pa_nil)))) pss_nil)))
      (pss_one (ps_ret (Zt.pe_callV (i := 3) hr rfl (Or.inl rfl) (pa_cons (pv 0) (pa_cons (pv 2) pa_nil))))))), ?_⟩
    obtain ⟨r, f, fd, qa, hr0, hrow, ro⟩ := table T c hc
    have tt : ∀ H : Hp, SqT K H x.t_CALLS (rowsV x) := T.T_CALLS
    refine ⟨_, rfl, x.t_CALLS, _, _, .ref r, rfl, rfl, tt H, at_of (j := c) rfl hr0, r, _, _, .ref f, rfl, rfl, hrow H, at_of (j := 0) rfl rfl, ?_⟩
    refine ⟨_, rfl, x.t_CALLS, _, _, .ref r, rfl, rfl, tt H, at_of (j := c) rfl hr0, r, _, _, .ref qa, rfl, rfl, hrow H, at_of (j := 1) rfl rfl, _, rfl, qa, t, _, _, rfl, ro.qs H, SqL.of ht,
      Zt.for_zip2 (K := K) (a := qa) (b := t) (xs := (kindsN c).map V.str) (ys := ivs ns) (fun i σ H' => ∃ v4 v5, σ = [some (.ref A.p), some (iv c), some (.ref t), some (.ref f), v4, v5] ∧ Same H H' ∧ ∀ j, j < i → ∀ (k : Str) (n : Nat), (kindsN c)[j]? = some k → ns[j]? = some n → there s k n = true)
        ⟨none, none, rfl, Same.refl H, fun j hj => absurd hj (Nat.not_lt_zero j)⟩ (fun i σ H' h => by obtain ⟨_, _, _, sm, _⟩ := h; exact ⟨ro.qs H', SqL.of (sm _ _ ht)⟩) (by rw [ivs_len, List.length_map, hn]) ?_ ?_⟩
    · rintro i vx vy Tu σ H' hx hy ⟨v4, v5, rfl, sm, hth⟩ hT
      obtain ⟨k, hk, rfl⟩ := getStr hx
      obtain ⟨n, hnn, rfl⟩ := getIvs hy
      refine ⟨Tu, _, rfl, SqT.of upd_same, rfl, _, _, rfl, _, _, rfl, rfl, ?_⟩
      have sm2 : Same H (upd H' Tu (.tup [V.str k, iv n])) := Same.new sm (sm.free hT)
      have g2 := g.same sm2
      refine ⟨_, rfl, _, rfl, _, rfl, A, s, conts s, k, n, rfl, g2.a, _, rfl, ?_⟩
      refine ite2 (fun h1 => ?_) (fun h1 => ?_)
      · exact refuse q (ro.miss s ns i k n hn hk hnn (not_t h1)) g sm2
      · refine ⟨_, _, rfl, sm2, fun j hj k' n' hk' hn' => ?_⟩
        by_cases e : j = i
        · subst e
          rw [hk] at hk'
          rw [hnn] at hn'
          cases hk'
          cases hn'
          exact not_f h1
        · exact hth j (by omega) k' n' hk' hn'
    · rintro σ H' ⟨v4, v5, rfl, sm, hth⟩
      refine ⟨f, fd, _, _, rfl, ro.fn _ _ _, ro.kp, ro.bd, _, rfl, _, rfl, A, s, t, ns, rfl, g.same sm, sm _ _ ht, nt, ⟨hn, fun i k n hk hnn => hth i ?_ k n hk hnn⟩, q.same sm⟩
      rw [List.length_map]
      exact get_lt hk
end
end Bg
end
section
set_option Elab.async false
set_option linter.all false
set_option maxRecDepth 100000
set_option maxHeartbeats 2000000
namespace Bg
open PySem PySem.Spec PyProof.Rows L2
theorem cl_eq : ∀ c, c < nCalls → clN c = clA c ∧ (kindsN c).length = arN c
  | 0, _ => ⟨rfl, rfl⟩
  | 1, _ => ⟨rfl, rfl⟩
  | 2, _ => ⟨rfl, rfl⟩
  | 3, _ => ⟨rfl, rfl⟩
  | 4, _ => ⟨rfl, rfl⟩
  | 5, _ => ⟨rfl, rfl⟩
  | 6, _ => ⟨rfl, rfl⟩
  | 7, _ => ⟨rfl, rfl⟩
  | 8, _ => ⟨rfl, rfl⟩
  | 9, _ => ⟨rfl, rfl⟩
  | 10, _ => ⟨rfl, rfl⟩
  | 11, _ => ⟨rfl, rfl⟩
  | 12, _ => ⟨rfl, rfl⟩
  | 13, _ => ⟨rfl, rfl⟩
  | 14, _ => ⟨rfl, rfl⟩
  | 15, _ => ⟨rfl, rfl⟩
  | 16, _ => ⟨rfl, rfl⟩
  | 17, _ => ⟨rfl, rfl⟩
  | 18, _ => ⟨rfl, rfl⟩
  | c + 19, h => absurd h (by unfold nCalls; omega)
theorem cut_eq {ns : List Int} {i k : Nat} (h : i + 1 + k ≤ ns.length) : cutV (ns.map V.int) (some ((i : Int) + 1)) (some ((i : Int) + 1 + (k : Int))) = ((ns.drop (i + 1)).take k).map V.int := by
  unfold cutV
  have e1 : HT.sIx (ns.map V.int).length 0 (some ((i : Int) + 1)) = i + 1 := by
    rw [show ((i : Int) + 1) = ((i + 1 : Nat) : Int) by omega, HT.sIx_nat, List.length_map]
    omega
  have e2 : HT.sIx (ns.map V.int).length (ns.map V.int).length (some ((i : Int) + 1 + (k : Int))) = i + 1 + k := by
    rw [show ((i : Int) + 1 + (k : Int)) = ((i + 1 + k : Nat) : Int) by omega, HT.sIx_nat, List.length_map]
    omega
  rw [e1, e2, show i + 1 + k - (i + 1) = k by omega, List.map_take, List.map_drop]
theorem int_nat : ∀ {l : List Int}, (∀ z, z ∈ l → 0 ≤ z ∧ z ≤ 4294967295) → l.map V.int = ivs (l.map Int.toNat)
  | [], _ => rfl
  | z :: r, h => by
    have h0 := h z (by simp)
    have ih := int_nat (l := r) fun y hy => h y (by simp [hy])
    show V.int z :: r.map V.int = iv z.toNat :: ivs (r.map Int.toNat)
    rw [ih, show V.int z = iv z.toNat by unfold iv; congr 1; omega]
section
variable {P : Program} {w : World} {K : PySem.W.Frag} {mg : Str → Option Value} {base : Heap} {d : Ad} {x : Fx}
noncomputable def spAnswers (K : PySem.W.Frag) : Sp := fun vs H Q _ => ∃ (a : Addr) (ns : List Int), vs = [.ref a] ∧ SqL K H a (ns.map V.int) ∧ (∀ z, z ∈ ns → 0 ≤ z ∧ z ≤ 4294967295) ∧ PySy54.answers_asked ns = true ∧ ∀ (H' : Hp) (p : Addr), H' p = some (.lst ((PySy54.answers ns).map V.int)) → Q (.ref p) H'
structure Loop (K : PySem.W.Frag) (d : Ad) (H : Hp) (a D : Addr) (ns : List Int) (A : Lay) (s : Sy54.St) (out rest : List Int) (i : Nat) (H' : Hp) : Prop where
  same : Same H H'
  air : AirG d H' A s
  own : ∀ b, A.own b → H b = none
  lst : H' D = some (.lst (out.map V.int))
  no : ¬ A.own D
  runs : Runs s (ns.drop i) rest
  eq : PySy54.answers ns = out ++ rest
  le : i ≤ ns.length
noncomputable def meas (n : Nat) (σ : L2.St) : Nat := match σ[3]? with
  | some (some (V.int z)) => n - z.toNat
  | _ => 0
noncomputable def PsAll_answers (K : PySem.W.Frag) (d : Ad) (x : Fx) (b : List Stmt) (u : TS) : Prop := ∀ (P : Program) (w : World) (mg : Str → Option Value) (base : Heap) (T : Txt K mg d x) (cdv : Value) (Ar : Around) (outer : List Env) (st : Shared) (H : Hp) (E : XK) (hr : Room 7 (Ar.deeper (envOfC "answers" (defScope s_answers) st.heap.objs.size x.f_answers cdv))), PSs (cxOf CX0 P w K mg base ["calls", "airport", "given", "start", "call", "end", "answer"] "answers" (defScope s_answers) x.f_answers cdv Ar outer st H E).nox b u
noncomputable def q_answers_3_0 (K : PySem.W.Frag) (d : Ad) (x : Fx) : { u : TS // PsAll_answers K d x ((loopBody ((defBody s_answers).getD 3 (.Pass ⟨0, 0, 0, 0⟩))).drop 0) u } := ⟨_, fun P w mg base T cdv Ar outer st H E hr => (pss_cons (ps_set (i := 4) sc_answers.nd rfl (Or.inl rfl) (pe_ix (ix_listK (K := K) rfl) (pv 0) (pv 3) (fun _ _ => rfl))) (pss_cons (ps_set (i := 5) sc_answers.nd rfl (Or.inl rfl) (pe_op op_add (pe_op op_add (pv 3) pe_int) (pe_callB (lenK (K := K) rfl) (by rfl) T.z_len PySem.boot_len (pa_cons (pe_ix (ix_tupK (K := K) rfl) (pe_ix (ix_tupK (K := K) rfl) (pe_glob (v := .ref x.t_CALLS) rfl T.m_CALLS rfl) (pv 4) (fun _ _ => rfl)) pe_int (fun _ _ => rfl)) pa_nil)))) (pss_cons (ps_set (i := 6) sc_answers.nd rfl (Or.inl rfl) (pe_call (ok_answer_call T) (hr.mono (by decide)) rfl T.m_answer_call T.F_answer_call.kp (bd_answer_call T.F_answer_call) .nil pass0 (pa_cons (pv 1) (pa_cons (pv 4) (pa_cons (pe_slice (sl_listK (K := K) rfl) (pv 0) (po_some (pe_op op_add (pv 3) pe_int)) (po_some (pv 5))) pa_nil))))) (pss_cons (ps_expr (pe_bmK (K := K) rfl PySem.F.plainAttrs_list PySem.F.slot_list_append PySem.F.type_list_append mt_append (pv 2) (pa_cons (pe_callB (lenK (K := K) rfl) (by rfl) T.z_len PySem.boot_len (pa_cons (pv 6) pa_nil)) pa_nil))) (pss_cons (ps_expr (pe_bmK (K := K) rfl PySem.F.plainAttrs_list PySem.F.slot_list_extend PySem.F.type_list_extend mt_extend (pv 2) (pa_cons (pv 6) pa_nil))) (pss_one (ps_set (i := 3) sc_answers.nd rfl (Or.inl rfl) (pv 5))))))))⟩
noncomputable def q_answers_0 (K : PySem.W.Frag) (d : Ad) (x : Fx) : { u : TS // PsAll_answers K d x ((defBody s_answers).drop 0) u } := ⟨_, fun P w mg base T cdv Ar outer st H E hr => (pss_cons (ps_set (i := 1) sc_answers.nd rfl (Or.inl rfl) (pe_make0 T.mk_Airport (ok_Airport T) (hr.mono (by decide)) rfl T.m_Airport (bd_Airport T.F_Airport) .nil pass0)) (pss_cons (ps_set (i := 2) sc_answers.nd rfl (Or.inl rfl) (pe_lst pa_nil)) (pss_cons (ps_set (i := 3) sc_answers.nd rfl (Or.inl rfl) pe_int) (pss_cons (ps_while PassesOwn.never (pt_cmpR op_lt (pv 3) (pe_callB (lenK (K := K) rfl) (by rfl) T.z_len PySem.boot_len (pa_cons (pv 0) pa_nil)) (nomark _)) ((q_answers_3_0 K d x).2 P w mg base T cdv Ar outer st H E hr)) (pss_one (ps_ret (pv 2)))))))⟩
theorem ok_answers (h19 : ∀ c, c < 19 → c < nCalls) (T : Txt K mg d x) : FnOk P w K mg base CX0 8 x.f_answers x.d_answers ["calls"] (spAnswers K) := by
  refine okQ T.F_answers sc_answers (fun vs H Q E h => ?_) (fun cdv Ar outer st H E hr => (q_answers_0 K d x).2 _ _ _ _ T cdv Ar outer st H E hr) (fun vs H Q E h => ?_)
  · obtain ⟨_, _, rfl, _⟩ := h
    rfl
  · obtain ⟨a, ns, rfl, hS, hb, hask, k⟩ := h
    have tt : ∀ H : Hp, SqT K H x.t_CALLS (rowsV x) := T.T_CALLS
    -- airport = Airport()
    intro pa dx npa ndx ne
    refine ⟨pa, dx, rfl, upd_same, fun H1 A0 ep a1 own1 kp => ⟨rfl, ?_⟩⟩
    subst ep
    have s1 : Same H H1 := Same.made npa ndx kp
    have own0 : ∀ b, A0.own b → H b = none := fun b hb => by
      rcases own1 b hb with e | e
      · rw [e]; exact npa
      · exact (upd_none (upd_none e).2).2
    -- given = []; start = 0
    refine ⟨Nat.zero_le _, fun D hD => ?_⟩
    have nD : ¬ A0.own D := fun h => by
      obtain ⟨o, e⟩ := a1.own_some h
      rw [hD] at e
      cases e
    have HD : H D = none := s1.free hD
    refine while_by (fun σ H' => ∃ A s out rest i v4 v5 v6, σ = [some (.ref a), some (.ref A.p), some (.ref D), some (iv i), v4, v5, v6] ∧ Loop K d H a D ns A s out rest i H')
      (fun σ _ => meas ns.length σ)
      ⟨A0, Sy54.init, [], PySy54.answers ns, 0, none, none, none, rfl, ⟨Same.new s1 HD, (airG a1 rfl Good.init).same (Same.new (Same.refl _) hD), own0, upd_same, nD, runs_start hask, rfl, Nat.zero_le _⟩⟩ ?_ ?_
    · rintro σ H2 ⟨A, s, out, rest, i, v4, v5, v6, rfl, L⟩
      have hS2 := L.same.seq hS
      refine ⟨_, rfl, _, rfl, a, _, rfl, .inl hS2, _, _, rfl, rfl, _, rfl, ?_⟩
      refine ite2 (fun h1 => ?_) (fun h1 => ?_)
      · have h1 : (i : Int) < ((ns.map V.int).length : Int) := of_decide_eq_true h1
        rw [List.length_map] at h1
        have hi : i < ns.length := by omega
        obtain ⟨p, hp⟩ : ∃ p, ns[i]? = some p := ⟨ns[i], List.getElem?_eq_getElem hi⟩
        have ed : ns.drop i = p :: ns.drop (i + 1) := by
          rw [List.drop_eq_getElem_cons hi]
          congr 1
          exact Option.some.inj ((List.getElem?_eq_getElem hi).symm.trans hp)
        have rn := L.runs
        rw [ed] at rn
        obtain ⟨c, rest', hc, rfl, har, er, rn'⟩ := runs_cons rn fun z hz => hb z (List.mem_of_mem_drop hz)
        obtain ⟨tl, etl⟩ : ∃ l, l = ((ns.drop (i + 1)).take (arN c)).map Int.toNat := ⟨_, rfl⟩
        rw [← etl] at er rn'
        obtain ⟨rs, ers⟩ : ∃ r, r = Sy54.step s (clA c tl) := ⟨_, rfl⟩
        rw [← ers] at er rn'
        have hc10 := h19 c hc
        obtain ⟨ecl, eln⟩ := cl_eq c hc10
        obtain ⟨r, f, fd, qa, hr0, hrow, ro⟩ := table T c hc10
        have hlen : i + 1 + arN c ≤ ns.length := by
          rw [List.length_drop] at har
          omega
        -- call = calls[start]; end = start + 1 + len(CALLS[call][1])
        refine ⟨_, rfl, _, rfl, a, _, _, V.int (c : Int), rfl, rfl, hS2, at_of (j := i) rfl (by rw [List.getElem?_map, hp]; rfl), ?_⟩
        refine ⟨_, rfl, _, _, rfl, rfl, _, rfl, x.t_CALLS, _, _, .ref r, rfl, rfl, tt H2, at_of (j := c) rfl hr0, r, _, _, .ref qa, rfl, rfl, hrow H2, at_of (j := 1) rfl rfl, qa, _, rfl, .inr (ro.qs H2), _, _, rfl, rfl, ?_⟩
        have ee : V.int ((i : Int) + 1 + (((kindsN c).map V.str).length : Int)) = iv (i + 1 + arN c) := by
          unfold iv
          rw [List.length_map, eln]
          congr 1
        dsimp only
        rw [ee]
        -- answer = answer_call(airport, call, calls[start + 1:end])
        refine ⟨_, rfl, _, rfl, _, rfl, _, rfl, _, _, rfl, rfl, _, rfl, _, rfl, _, rfl, a, _, rfl, hS2, fun t ht => ?_⟩
        have ecut : cutV (ns.map V.int) (some ((i : Int) + 1)) (some (((i + 1 + arN c : Nat) : Int))) = ivs tl := by
          rw [show (((i + 1 + arN c : Nat) : Int)) = (i : Int) + 1 + (arN c : Int) by omega, cut_eq hlen, etl, int_nat fun z hz => hb z (List.mem_of_mem_drop (List.mem_of_mem_take hz))]
        dsimp only
        rw [ecut]
        have sm3 : Same H2 (upd H2 t (.lst (ivs tl))) := Same.new (Same.refl _) ht
        have g3 := L.air.same sm3
        have nt : ¬ A.own t := fun h => by
          obtain ⟨o, e⟩ := L.air.a.own_some h
          rw [ht] at e
          cases e
        refine ⟨A, s, t, c, _, rfl, g3, upd_same, nt, hc10, by rw [etl, List.length_map, List.length_take, List.length_drop, eln]; omega, ?_⟩
        rw [ecl, ← ers]
        intro H4 A4 pb g4 w4 hpb npb epb
        have hD3 := sm3 _ _ L.lst
        have hD4 : H4 D = some (.lst (out.map V.int)) := w4.keep D _ hD3 L.no
        have nD4 : ¬ A4.own D := fun h => (w4.new D h).elim L.no fun e => by rw [hD3] at e; cases e
        have npd : pb ≠ D := fun e => by rw [e, hD3] at hpb; cases hpb
        have s4 : Same H H4 := fun b o e => w4.keep b o (sm3 _ _ (L.same _ _ e)) fun ho => by rw [L.own b ho] at e; cases e
        have own4 : ∀ b, A4.own b → H b = none := fun b ho => (w4.new b ho).elim (L.own b) fun e => L.same.free (sm3.free e)
        -- sizes
        have hz : out.length + (1 + (Sy54Neutral.out rs.2).length) ≤ 10000000 := by
          have h1 := asked_len hask
          rw [L.eq, er] at h1
          simp only [List.length_append, List.length_cons] at h1
          omega
        have sl : sizeLine = 16777216 := by decide
        -- given.append(len(answer)); given.extend(answer)
        rw [← w4.p]
        refine ⟨_, rfl, .inl ⟨rfl, _, SqL.of hD4⟩, _, rfl, pb, _, rfl, .inl (SqL.of epb), D, _, _, rfl, rfl, hD4, by rw [List.length_map, sl]; omega, ?_⟩
        refine ⟨_, rfl, .inl ⟨rfl, _, SqL.of upd_same⟩, _, rfl, D, pb, _, _, rfl, rfl, upd_same, by rw [upd_ne npd]; exact epb, by simp only [List.length_append, List.length_map, List.length_cons, List.length_nil]; rw [sl]; omega, ?_⟩
        -- start = end
        rw [upd_upd]
        refine ⟨_, rfl, ⟨A4, rs.1, out ++ (((Sy54Neutral.out rs.2).length : Int) :: Sy54Neutral.out rs.2), rest', i + 1 + arN c, _, _, _, rfl, ?_⟩, ?_⟩
        · refine ⟨Same.new s4 HD, ⟨g4.a.other fun b o e ho => ?_, g4.g⟩, own4, ?_, nD4, ?_, ?_, hlen⟩
          · rw [upd_ne fun e => nD4 (by rw [← e]; exact ho)]
            exact e
          · rw [upd_same]
            simp only [List.map_append, List.map_cons, List.length_map]
            rw [List.append_assoc]
            rfl
          · rw [List.drop_drop] at rn'
            exact rn'
          · rw [L.eq, er, List.append_assoc]
        · show ns.length - (((i + 1 + arN c : Nat) : Int)).toNat < ns.length - ((i : Nat) : Int).toNat
          omega
      · have h1 : ¬ (i : Int) < ((ns.map V.int).length : Int) := fun q => h1 (decide_eq_true q)
        rw [List.length_map] at h1
        have hi : i = ns.length := by have := L.le; omega
        have rn := L.runs
        rw [hi, List.drop_length] at rn
        have er := runs_nil rn
        have e := L.eq
        rw [er, List.append_nil] at e
        refine ⟨_, rfl, k H2 D ?_⟩
        rw [e]
        exact L.lst
    · rintro σ H2 Q1 Q2 h ⟨v, e, y, e2, p, ys, e3, o, i1, j1, e4, e5, b, e6, q⟩
      exact ⟨v, e, y, e2, p, ys, e3, o, i1, j1, e4, e5, b, e6, h _ _ q⟩
end
end Bg
end
set_option Elab.async false
set_option linter.all false
-- names that the head would give to equations of twins: taken, so that none is laid
noncomputable def PySem.W.Fast.tw3329599846538054943 : Unit := ()
noncomputable def PySem.W.Fast.tw506592105130809355 : Unit := ()
noncomputable def PySem.W.Fast.tw13700795518510219517 : Unit := ()
noncomputable def PySem.W.Fast.tw5165038403397207717 : Unit := ()
noncomputable def PySem.W.Fast.tw11006335053869306757 : Unit := ()
noncomputable def PySem.W.Fast.tw9455650064671207135 : Unit := ()
noncomputable def PySem.W.Fast.tw14233516232965984506 : Unit := ()
noncomputable def PySem.W.Fast.tw16868871011118225351 : Unit := ()
open PySem PySem.W PyProof.Rows
set_option maxRecDepth 100000 in
set_option maxHeartbeats 0 in
theorem PySem.Challenge.cw_bagsaboard_s01_answers_holds : PySem.Challenge.rw_bagsaboard_s01_answers.Holds := by
  w_on; k_headS; (case hw => exact ⟨[.list [.int 18]], by decide +kernel, by decide +kernel⟩)
  k_fillS
  refine L2.walk_specK (r := PySem.Challenge.rw_bagsaboard_s01_answers) (k := 8) (CX := L2.CX0) (ps := ["calls"]) (sp := Bg.spAnswers) (by decide +kernel) rfl rfl ⟨rfl, by decide, by decide⟩ (fun w h Y => PySem.W.kIn_of Y) ?F ?S (fun _ _ _ _ z => z)
  case F =>
    intro w mg fa h Y KX G hmg
    have T : ∃ d x, Bg.Txt (L2.KOf KX) mg d x := by
      dsimp only [L2.KOf]
      refine' Bg.txt_mk KX G ?aCCF ?pgCF ?hdCF ?poCF ?saCF ?mkCF ?kcCF ?inCF ?ifCF ?nCF_gone ?aCCK ?pgCK ?hdCK ?poCK ?saCK ?mkCK ?kcCK ?inCK ?ifCK ?nCK_flight ?nCK_room ?nCK_limit ?nCK_pile ?aCCP ?pgCP ?hdCP ?poCP ?saCP ?mkCP ?kcCP ?inCP ?ifCP ?nCP_flight ?nCP_standing ?aCCB ?pgCB ?hdCB ?poCB ?saCB ?mkCB ?kcCB ?inCB ?ifCB ?nCB_owner ?nCB_weight ?nCB_place ?nCB_container ?nCB_follows ?aCCA ?pgCA ?hdCA ?poCA ?saCA ?mkCA ?kcCA ?inCA ?ifCA ?nCA_flights ?nCA_containers ?nCA_passengers ?nCA_bags ?nCA_moves_made ?l_Flight ?c_Flight ?k_Flight ?l_Container ?c_Container ?k_Container ?l_Passenger ?c_Passenger ?k_Passenger ?l_Bag ?c_Bag ?k_Bag ?l_Airport ?c_Airport ?k_Airport ?a_is_size ?l_is_size ?c_is_size ?k_is_size ?a_has_flown ?l_has_flown ?c_has_flown ?k_has_flown ?a_may_fly ?l_may_fly ?c_may_fly ?k_may_fly ?a_has_to_come_out ?l_has_to_come_out ?c_has_to_come_out ?k_has_to_come_out ?a_weight_within ?l_weight_within ?c_weight_within ?k_weight_within ?a_has_room_for ?l_has_room_for ?c_has_room_for ?k_has_room_for ?a_containers_on_flight ?l_containers_on_flight ?c_containers_on_flight ?k_containers_on_flight ?a_bags_on_flight ?l_bags_on_flight ?c_bags_on_flight ?k_bags_on_flight ?a_bags_that_may_not_fly ?l_bags_that_may_not_fly ?c_bags_that_may_not_fly ?k_bags_that_may_not_fly ?a_bags_to_get_out ?l_bags_to_get_out ?c_bags_to_get_out ?k_bags_to_get_out ?a_moves_to_get_out ?l_moves_to_get_out ?c_moves_to_get_out ?k_moves_to_get_out ?a_get_out ?l_get_out ?c_get_out ?k_get_out ?a_with_count ?l_with_count ?c_with_count ?k_with_count ?a_add_flight ?l_add_flight ?c_add_flight ?k_add_flight ?a_add_container ?l_add_container ?c_add_container ?k_add_container ?a_add_passenger ?l_add_passenger ?c_add_passenger ?k_add_passenger ?a_add_bag ?l_add_bag ?c_add_bag ?k_add_bag ?a_load_bag ?l_load_bag ?c_load_bag ?k_load_bag ?a_change_standing ?l_change_standing ?c_change_standing ?k_change_standing ?a_come_aboard ?l_come_aboard ?c_come_aboard ?k_come_aboard ?a_leave_aircraft ?l_leave_aircraft ?c_leave_aircraft ?k_leave_aircraft ?a_stay_absent ?l_stay_absent ?c_stay_absent ?k_stay_absent ?a_rush_bag ?l_rush_bag ?c_rush_bag ?k_rush_bag ?a_take_bag_out ?l_take_bag_out ?c_take_bag_out ?k_take_bag_out ?a_count_moves ?l_count_moves ?c_count_moves ?k_count_moves ?a_clear_flight ?l_clear_flight ?c_clear_flight ?k_clear_flight ?a_let_go ?l_let_go ?c_let_go ?k_let_go ?a_hand_out ?l_hand_out ?c_hand_out ?k_hand_out ?a_tell_waiting ?l_tell_waiting ?c_tell_waiting ?k_tell_waiting ?a_has_loaded_bag ?l_has_loaded_bag ?c_has_loaded_bag ?k_has_loaded_bag ?a_change_flight ?l_change_flight ?c_change_flight ?k_change_flight ?a_tell_place ?l_tell_place ?c_tell_place ?k_tell_place ?a_tell_pile ?l_tell_pile ?c_tell_pile ?k_tell_pile ?a_tell_state ?l_tell_state ?c_tell_state ?k_tell_state ?a_is_there ?l_is_there ?c_is_there ?k_is_there ?a_answer_call ?l_answer_call ?c_answer_call ?k_answer_call ?a_answers ?l_answers ?c_answers ?k_answers ?v_WRONG_SIZE ?v_NO_SUCH ?v_NOT_SO ?v_NO_ROOM ?v_NOT_LET ?v_WRONG_OWNER ?v_MOST_FLIGHTS ?v_MOST_CONTAINERS ?v_MOST_PASSENGERS ?v_MOST_BAGS ?v_MOST_BAGS_WITHIN ?v_MOST_WEIGHT_WITHIN ?v_MOST_BAG_WEIGHT ?v_EXPECTED ?v_ABOARD ?v_NOT_COMING ?v_HALL ?v_LOADED ?v_FLOWN ?v_HANDED_OUT ?z_any ?z_int ?z_len ?z_sum ?z_zip ?a_t_CALLS ?l_t_CALLS ?l_r_CALLS0 ?l_q_CALLS0 ?l_r_CALLS1 ?l_q_CALLS1 ?l_r_CALLS2 ?l_q_CALLS2 ?l_r_CALLS3 ?l_q_CALLS3 ?l_r_CALLS4 ?l_q_CALLS4 ?l_r_CALLS5 ?l_q_CALLS5 ?l_r_CALLS6 ?l_q_CALLS6 ?l_r_CALLS7 ?l_q_CALLS7 ?l_r_CALLS8 ?l_q_CALLS8 ?l_r_CALLS9 ?l_q_CALLS9 ?l_r_CALLS10 ?l_q_CALLS10 ?l_r_CALLS11 ?l_q_CALLS11 ?l_r_CALLS12 ?l_q_CALLS12 ?l_r_CALLS13 ?l_q_CALLS13 ?l_r_CALLS14 ?l_q_CALLS14 ?l_r_CALLS15 ?l_q_CALLS15 ?l_r_CALLS16 ?l_q_CALLS16 ?l_r_CALLS17 ?l_q_CALLS17 ?l_r_CALLS18 ?l_q_CALLS18
      (case aCCF => k_is)
      (case pgCF => k_is)
      (case hdCF => k_is)
      (case poCF => k_is)
      (case saCF => k_is)
      (case mkCF => k_is)
      (case kcCF => k_is)
      (case inCF => k_is)
      (case ifCF => k_is)
      (case nCF_gone => k_is)
      (case aCCK => k_is)
      (case pgCK => k_is)
      (case hdCK => k_is)
      (case poCK => k_is)
      (case saCK => k_is)
      (case mkCK => k_is)
      (case kcCK => k_is)
      (case inCK => k_is)
      (case ifCK => k_is)
      (case nCK_flight => k_is)
      (case nCK_room => k_is)
      (case nCK_limit => k_is)
      (case nCK_pile => k_is)
      (case aCCP => k_is)
      (case pgCP => k_is)
      (case hdCP => k_is)
      (case poCP => k_is)
      (case saCP => k_is)
      (case mkCP => k_is)
      (case kcCP => k_is)
      (case inCP => k_is)
      (case ifCP => k_is)
      (case nCP_flight => k_is)
      (case nCP_standing => k_is)
      (case aCCB => k_is)
      (case pgCB => k_is)
      (case hdCB => k_is)
      (case poCB => k_is)
      (case saCB => k_is)
      (case mkCB => k_is)
      (case kcCB => k_is)
      (case inCB => k_is)
      (case ifCB => k_is)
      (case nCB_owner => k_is)
      (case nCB_weight => k_is)
      (case nCB_place => k_is)
      (case nCB_container => k_is)
      (case nCB_follows => k_is)
      (case aCCA => k_is)
      (case pgCA => k_is)
      (case hdCA => k_is)
      (case poCA => k_is)
      (case saCA => k_is)
      (case mkCA => k_is)
      (case kcCA => k_is)
      (case inCA => k_is)
      (case ifCA => k_is)
      (case nCA_flights => k_is)
      (case nCA_containers => k_is)
      (case nCA_passengers => k_is)
      (case nCA_bags => k_is)
      (case nCA_moves_made => k_is)
      (case l_Flight => k_is)
      (case c_Flight => k_is)
      (case k_Flight => k_is)
      (case l_Container => k_is)
      (case c_Container => k_is)
      (case k_Container => k_is)
      (case l_Passenger => k_is)
      (case c_Passenger => k_is)
      (case k_Passenger => k_is)
      (case l_Bag => k_is)
      (case c_Bag => k_is)
      (case k_Bag => k_is)
      (case l_Airport => k_is)
      (case c_Airport => k_is)
      (case k_Airport => k_is)
      (case a_is_size => k_is)
      (case l_is_size => k_is)
      (case c_is_size => k_is)
      (case k_is_size => k_is)
      (case a_has_flown => k_is)
      (case l_has_flown => k_is)
      (case c_has_flown => k_is)
      (case k_has_flown => k_is)
      (case a_may_fly => k_is)
      (case l_may_fly => k_is)
      (case c_may_fly => k_is)
      (case k_may_fly => k_is)
      (case a_has_to_come_out => k_is)
      (case l_has_to_come_out => k_is)
      (case c_has_to_come_out => k_is)
      (case k_has_to_come_out => k_is)
      (case a_weight_within => k_is)
      (case l_weight_within => k_is)
      (case c_weight_within => k_is)
      (case k_weight_within => k_is)
      (case a_has_room_for => k_is)
      (case l_has_room_for => k_is)
      (case c_has_room_for => k_is)
      (case k_has_room_for => k_is)
      (case a_containers_on_flight => k_is)
      (case l_containers_on_flight => k_is)
      (case c_containers_on_flight => k_is)
      (case k_containers_on_flight => k_is)
      (case a_bags_on_flight => k_is)
      (case l_bags_on_flight => k_is)
      (case c_bags_on_flight => k_is)
      (case k_bags_on_flight => k_is)
      (case a_bags_that_may_not_fly => k_is)
      (case l_bags_that_may_not_fly => k_is)
      (case c_bags_that_may_not_fly => k_is)
      (case k_bags_that_may_not_fly => k_is)
      (case a_bags_to_get_out => k_is)
      (case l_bags_to_get_out => k_is)
      (case c_bags_to_get_out => k_is)
      (case k_bags_to_get_out => k_is)
      (case a_moves_to_get_out => k_is)
      (case l_moves_to_get_out => k_is)
      (case c_moves_to_get_out => k_is)
      (case k_moves_to_get_out => k_is)
      (case a_get_out => k_is)
      (case l_get_out => k_is)
      (case c_get_out => k_is)
      (case k_get_out => k_is)
      (case a_with_count => k_is)
      (case l_with_count => k_is)
      (case c_with_count => k_is)
      (case k_with_count => k_is)
      (case a_add_flight => k_is)
      (case l_add_flight => k_is)
      (case c_add_flight => k_is)
      (case k_add_flight => k_is)
      (case a_add_container => k_is)
      (case l_add_container => k_is)
      (case c_add_container => k_is)
      (case k_add_container => k_is)
      (case a_add_passenger => k_is)
      (case l_add_passenger => k_is)
      (case c_add_passenger => k_is)
      (case k_add_passenger => k_is)
      (case a_add_bag => k_is)
      (case l_add_bag => k_is)
      (case c_add_bag => k_is)
      (case k_add_bag => k_is)
      (case a_load_bag => k_is)
      (case l_load_bag => k_is)
      (case c_load_bag => k_is)
      (case k_load_bag => k_is)
      (case a_change_standing => k_is)
      (case l_change_standing => k_is)
      (case c_change_standing => k_is)
      (case k_change_standing => k_is)
      (case a_come_aboard => k_is)
      (case l_come_aboard => k_is)
      (case c_come_aboard => k_is)
      (case k_come_aboard => k_is)
      (case a_leave_aircraft => k_is)
      (case l_leave_aircraft => k_is)
      (case c_leave_aircraft => k_is)
      (case k_leave_aircraft => k_is)
      (case a_stay_absent => k_is)
      (case l_stay_absent => k_is)
      (case c_stay_absent => k_is)
      (case k_stay_absent => k_is)
      (case a_rush_bag => k_is)
      (case l_rush_bag => k_is)
      (case c_rush_bag => k_is)
      (case k_rush_bag => k_is)
      (case a_take_bag_out => k_is)
      (case l_take_bag_out => k_is)
      (case c_take_bag_out => k_is)
      (case k_take_bag_out => k_is)
      (case a_count_moves => k_is)
      (case l_count_moves => k_is)
      (case c_count_moves => k_is)
      (case k_count_moves => k_is)
      (case a_clear_flight => k_is)
      (case l_clear_flight => k_is)
      (case c_clear_flight => k_is)
      (case k_clear_flight => k_is)
      (case a_let_go => k_is)
      (case l_let_go => k_is)
      (case c_let_go => k_is)
      (case k_let_go => k_is)
      (case a_hand_out => k_is)
      (case l_hand_out => k_is)
      (case c_hand_out => k_is)
      (case k_hand_out => k_is)
      (case a_tell_waiting => k_is)
      (case l_tell_waiting => k_is)
      (case c_tell_waiting => k_is)
      (case k_tell_waiting => k_is)
      (case a_has_loaded_bag => k_is)
      (case l_has_loaded_bag => k_is)
      (case c_has_loaded_bag => k_is)
      (case k_has_loaded_bag => k_is)
      (case a_change_flight => k_is)
      (case l_change_flight => k_is)
      (case c_change_flight => k_is)
      (case k_change_flight => k_is)
      (case a_tell_place => k_is)
      (case l_tell_place => k_is)
      (case c_tell_place => k_is)
      (case k_tell_place => k_is)
      (case a_tell_pile => k_is)
      (case l_tell_pile => k_is)
      (case c_tell_pile => k_is)
      (case k_tell_pile => k_is)
      (case a_tell_state => k_is)
      (case l_tell_state => k_is)
      (case c_tell_state => k_is)
      (case k_tell_state => k_is)
      (case a_is_there => k_is)
      (case l_is_there => k_is)
      (case c_is_there => k_is)
      (case k_is_there => k_is)
      (case a_answer_call => k_is)
      (case l_answer_call => k_is)
      (case c_answer_call => k_is)
      (case k_answer_call => k_is)
      (case a_answers => k_is)
      (case l_answers => k_is)
      (case c_answers => k_is)
      (case k_answers => k_is)
      (case v_WRONG_SIZE => k_is)
      (case v_NO_SUCH => k_is)
      (case v_NOT_SO => k_is)
      (case v_NO_ROOM => k_is)
      (case v_NOT_LET => k_is)
      (case v_WRONG_OWNER => k_is)
      (case v_MOST_FLIGHTS => k_is)
      (case v_MOST_CONTAINERS => k_is)
      (case v_MOST_PASSENGERS => k_is)
      (case v_MOST_BAGS => k_is)
      (case v_MOST_BAGS_WITHIN => k_is)
      (case v_MOST_WEIGHT_WITHIN => k_is)
      (case v_MOST_BAG_WEIGHT => k_is)
      (case v_EXPECTED => k_is)
      (case v_ABOARD => k_is)
      (case v_NOT_COMING => k_is)
      (case v_HALL => k_is)
      (case v_LOADED => k_is)
      (case v_FLOWN => k_is)
      (case v_HANDED_OUT => k_is)
      (case z_any => k_is)
      (case z_int => k_is)
      (case z_len => k_is)
      (case z_sum => k_is)
      (case z_zip => k_is)
      (case a_t_CALLS => k_is)
      (case l_t_CALLS => k_is)
      (case l_r_CALLS0 => k_is)
      (case l_q_CALLS0 => k_is)
      (case l_r_CALLS1 => k_is)
      (case l_q_CALLS1 => k_is)
      (case l_r_CALLS2 => k_is)
      (case l_q_CALLS2 => k_is)
      (case l_r_CALLS3 => k_is)
      (case l_q_CALLS3 => k_is)
      (case l_r_CALLS4 => k_is)
      (case l_q_CALLS4 => k_is)
      (case l_r_CALLS5 => k_is)
      (case l_q_CALLS5 => k_is)
      (case l_r_CALLS6 => k_is)
      (case l_q_CALLS6 => k_is)
      (case l_r_CALLS7 => k_is)
      (case l_q_CALLS7 => k_is)
      (case l_r_CALLS8 => k_is)
      (case l_q_CALLS8 => k_is)
      (case l_r_CALLS9 => k_is)
      (case l_q_CALLS9 => k_is)
      (case l_r_CALLS10 => k_is)
      (case l_q_CALLS10 => k_is)
      (case l_r_CALLS11 => k_is)
      (case l_q_CALLS11 => k_is)
      (case l_r_CALLS12 => k_is)
      (case l_q_CALLS12 => k_is)
      (case l_r_CALLS13 => k_is)
      (case l_q_CALLS13 => k_is)
      (case l_r_CALLS14 => k_is)
      (case l_q_CALLS14 => k_is)
      (case l_r_CALLS15 => k_is)
      (case l_q_CALLS15 => k_is)
      (case l_r_CALLS16 => k_is)
      (case l_q_CALLS16 => k_is)
      (case l_r_CALLS17 => k_is)
      (case l_q_CALLS17 => k_is)
      (case l_r_CALLS18 => k_is)
      (case l_q_CALLS18 => k_is)
    obtain ⟨d, x, T⟩ := T
    have e0 := hmg.symm.trans T.m_answers
    cases e0
    obtain ⟨oc, od, kV, doc, pm, an, cdv, ct, osl, efd, _⟩ := T.F_answers.ex
    refine ⟨x.d_answers, fun s us hu => ?_, fun base _ _ => Bg.ok_answers (fun _ h => h) T⟩
    rw [efd]
    exact match us, hu with | [_], _ => .of_eq rfl
  case S =>
    intro K H xs a hO hwi hask hx
    cases hx with
    | cons h1 h2 =>
      cases h2
      cases h1 with
      | lst hs ha =>
        have e := L2.ints_dw a.1 _ ha
        subst e
        have q : ((Codec.inLen 0 330 a.1 && a.1.all (Codec.inInt 0 4294967295)) && true) = true := hwi
        rw [Bool.and_eq_true, Bool.and_eq_true] at q
        refine ⟨_, a.1, rfl, hs, fun z hz => ?_, hask, fun H' p hp => .lst (L2.SqL.of hp) (L2.dw_ints _)⟩
        have := List.all_eq_true.mp q.1.2 z hz
        exact Codec.inInt_iff.mp this

